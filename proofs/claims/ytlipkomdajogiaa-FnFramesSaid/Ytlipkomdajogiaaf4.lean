/- Contracts of functions, walked over the pure layer; each says for which arguments. -/
import Derived.Test.Ytlipkomdajogiaaf4Ty
import Derived.Test.YtlipkomdajogiaaTf
import Derived.Test.Ytlipkomdajogiaaf1
import Derived.Test.Ytlipkomdajogiaaf2
import Derived.Test.Ytlipkomdajogiaaf5
import Derived.Test.YtlipkomdajogiaaPwTk
namespace Go.Proofs.Ytlipkomdajogiaa
open Go.RowKit f4Ty
set_option linter.unusedVariables false
set_option linter.unusedSimpArgs false
theorem bt_n {c : Nat} {x : Nat} (h : c ≤ 127) : bt (c : Int) x ↔ c.testBit x = true := by
  unfold bt
  rw [Int.toNat_natCast, show (1 : Int) = ((1 : Nat) : Int) from rfl, iand_nat (shN c x) 1 (by have := shN_le c x; omega) (by omega), Nat.and_one_is_mod, Nat.testBit_eq_decide_div_mod_eq]
  unfold shN p2
  rw [decide_eq_true_iff]
  omega
theorem bt_i {c : Int} {x : Nat} (h0 : 0 ≤ c) (h : c ≤ 127) : bt c x ↔ c.toNat.testBit x = true := by
  obtain ⟨n, rfl⟩ : ∃ n : Nat, c = n := ⟨c.toNat, by omega⟩
  rw [Int.toNat_natCast]; exact bt_n (by omega)
theorem bt_0 (x : Nat) : ¬ bt 0 x := by
  have h := bt_n (c := 0) (x := x) (by omega)
  intro k
  have := h.1 k
  simp at this
theorem orN_pre (a b : List (Int × Int)) (x : Nat) : ∀ i, i ≤ a.length → orN (a ++ b) x i = orN a x i
  | 0, _ => rfl
  | i + 1, h => by
    have ih := orN_pre a b x i (by omega)
    have e : (a ++ b).getD i (0, 0) = a.getD i (0, 0) := by
      rw [List.getD_eq_getElem?_getD, List.getD_eq_getElem?_getD, List.getElem?_append_left (by omega)]
    rw [orN, orN, e, ih]
theorem orN_snoc (a : List (Int × Int)) (s : Int × Int) (x : Nat) : orN (a ++ [s]) x (a ++ [s]).length = if bt s.1 x then orN a x a.length ||| s.2.toNat else orN a x a.length := by
  rw [List.length_append, show [s].length = 1 from rfl, orN, orN_pre a [s] x a.length (Nat.le_refl _)]
  rw [show (a ++ [s]).getD a.length (0, 0) = s by simp]
theorem bt_p2 {i x : Nat} (hi : i < 6) : bt ((p2 i : Nat) : Int) x ↔ x = i := by
  have hp : p2 i ≤ 127 := by
    have : p2 i ≤ p2 6 := Nat.pow_le_pow_right (by omega) (by omega)
    exact Nat.le_trans this (by decide)
  rw [bt_n hp]
  unfold p2
  rw [Nat.testBit_two_pow, decide_eq_true_iff]
  omega
theorem orN_pln {l : List Int} (h : PlnP l) (x : Nat) : ∀ i, i ≤ l.length → orN (plnK l i) x (plnK l i).length = if x < i then (l.getD x 0).toNat else 0
  | 0, _ => by simp [plnK, orN]
  | i + 1, hi => by
    have ih := orN_pln h x i (by omega)
    have h6 := h.1.1
    unfold plnK
    by_cases e : l.getD i 0 ≠ 0
    · rw [if_pos e, orN_snoc, ih]
      by_cases hx : x = i
      · subst hx
        rw [if_pos ((bt_p2 (by omega)).2 rfl), if_neg (Nat.lt_irrefl _), if_pos (Nat.lt_succ_self _), Nat.zero_or]
      · rw [if_neg (fun z => hx ((bt_p2 (by omega)).1 z))]
        by_cases h2 : x < i
        · rw [if_pos h2, if_pos (by omega)]
        · rw [if_neg h2, if_neg (by omega)]
    · rw [if_neg e, ih]
      by_cases hx : x = i
      · subst hx
        rw [if_neg (Nat.lt_irrefl _), if_pos (Nat.lt_succ_self _), Decidable.not_not.1 e]; rfl
      · by_cases h2 : x < i
        · rw [if_pos h2, if_pos (by omega)]
        · rw [if_neg h2, if_neg (by omega)]
theorem plnK_mem {l : List Int} {s : Int × Int} : ∀ {i}, s ∈ plnK l i → ∃ j, j < i ∧ s = (((p2 j : Nat) : Int), l.getD j 0)
  | 0, h => by simp [plnK] at h
  | i + 1, h => by
    unfold plnK at h
    split at h
    · rcases List.mem_append.1 h with h | h
      · obtain ⟨j, hj, e⟩ := plnK_mem h
        exact ⟨j, by omega, e⟩
      · exact ⟨i, by omega, by simpa using h⟩
    · obtain ⟨j, hj, e⟩ := plnK_mem h
      exact ⟨j, by omega, e⟩
theorem pln_gd {l : List Int} (h : PlnP l) : GdP (l.length : Int) (plnK l l.length) := by
  have h6 := h.1.1
  have h0 := h.2
  refine ⟨⟨by omega, by omega⟩, FrmP.mem.2 ⟨Nat.le_trans (plnK_len l _) (by omega), fun s hs => ?_⟩⟩
  obtain ⟨j, hj, rfl⟩ := plnK_mem hs
  have hl := h.1.at hj
  have hp : p2 j + 1 ≤ p2 (l.length : Int).toNat := by
    rw [Int.toNat_natCast]
    exact Nat.pow_lt_pow_right (by omega) hj
  exact ⟨⟨by show 0 ≤ ((p2 j : Nat) : Int); omega, by show ((p2 j : Nat) : Int) ≤ _; omega⟩, hl.1, hl.2⟩
theorem sen_pln {l : List Int} (h : PlnP l) : sen (plnK l l.length) l.length = l := by
  apply List.ext_getElem (by show (senK _ _ _ _).length = _; rw [senK_len])
  intro j h1 h2
  have e := sen_at8 (plnK l l.length) h2
  rw [List.getD_eq_getElem?_getD, List.getElem?_eq_getElem h1, Option.getD_some, orN_pln h j l.length (Nat.le_refl _), if_pos h2, Int.toNat_of_nonneg (h.1.at h2).1, List.getD_eq_getElem?_getD, List.getElem?_eq_getElem h2, Option.getD_some] at e
  exact e
def PlF (l : List Int) : List (Int × Int) := if PlnP l then plnK l l.length else []
theorem PlF_len (l : List Int) : (PlF l).length ≤ 6 := by
  unfold PlF
  split
  · rename_i h; exact Nat.le_trans (plnK_len l _) h.1.1
  · simp
theorem fu1 {l : List Int} (h : PlnP l) : GdP (l.length : Int) (PlF l) := by
  unfold PlF; rw [if_pos h]; exact pln_gd h
theorem fu2 {l : List Int} (h : PlnP l) : (if GdP (l.length : Int) (PlF l) then sen (PlF l) (l.length : Int).toNat else []) = l := by
  rw [if_pos (fu1 h)]
  unfold PlF
  rw [if_pos h, Int.toNat_natCast]; exact sen_pln h
theorem nz_all : ∀ {l : List Int}, AllZ l → nzC l = 0
  | [], _ => rfl
  | x :: l, h => by
    have h0 : x = 0 := h 0 (by simp)
    unfold nzC
    rw [if_pos h0]
    exact nz_all fun j hj => h (j + 1) (by simpa using hj)
theorem fu3 {l : List Int} (h : PlnP l) : lsN l ≤ nzC l ∧ (lsN l = 0 ↔ nzC l = 0) := by
  rcases hf : (List.range (nzC l + 1)).find? (fun n => decide (Cov l n l)) with _ | n
  · have := List.find?_eq_none.1 hf (nzC l) (List.mem_range.2 (by omega))
    exact absurd (decide_eq_true (cov_all h.1)) this
  · have e : lsN l = n := by unfold lsN; rw [hf]; rfl
    have h2 := List.find?_range_eq_some.1 hf
    have hn := List.mem_range.1 h2.2.1
    have hc : Cov l n l := of_decide_eq_true h2.1
    rw [e]
    refine ⟨by omega, fun z => ?_, fun z => by omega⟩
    subst z
    exact nz_all hc
theorem fu4 {l : List Int} (h : PlnP l) : (PlF l).length = nzC l := by
  unfold PlF
  rw [if_pos h]
  have := plnK_nz l l.length (Nat.le_refl _)
  rw [List.take_length] at this; exact this
theorem blk_ev : ∀ (fr : List (Int × Int)) (j : Nat), (blk fr).getD (2 * j) (0, 0) = fr.getD j (0, 0)
  | [], j => by simp [blk]
  | f :: r, 0 => rfl
  | f :: r, j + 1 => blk_ev r j
theorem blk_od : ∀ (fr : List (Int × Int)) (j : Nat), (blk fr).getD (2 * j + 1) (0, 0) = (0, 0)
  | [], j => by simp [blk]
  | f :: r, 0 => rfl
  | f :: r, j + 1 => blk_od r j
theorem ghO_blk (fr : List (Int × Int)) (x : Nat) : ∀ i, i ≤ (blk fr).length → ghO (blk fr) x i = 0
  | 0, _ => rfl
  | i + 1, h => by
    have ih := ghO_blk fr x i (by omega)
    have hl := blk_len fr
    unfold ghO
    split
    · rename_i hb
      by_cases e : i % 2 = 0
      · exfalso
        rw [Nat.mod_eq_of_lt (show i + 1 < (blk fr).length by omega), show i + 1 = 2 * (i / 2) + 1 by omega, blk_od] at hb
        exact bt_0 x hb
      · have e2 : (blk fr).getD i (0, 0) = (0, 0) := by
          have := blk_od fr (i / 2)
          rwa [show 2 * (i / 2) + 1 = i by omega] at this
        rw [ih, e2]; simp
    · exact ih
theorem orN_blk (fr : List (Int × Int)) (x : Nat) : ∀ j, orN (blk fr) x (2 * j) = orN fr x j
  | 0 => rfl
  | j + 1 => by
    rw [show 2 * (j + 1) = 2 * j + 1 + 1 by omega, orN, blk_od, if_neg (bt_0 x), orN, blk_ev, orN_blk fr x j, orN]
theorem blk_gd {k : Int} {fr : List (Int × Int)} (h : BlkP k fr) : GdP k (blk fr) := by
  have hm := FrmP.mem.1 h.1.2
  have hp := p2_le6 h.1.1.2
  refine ⟨h.1.1, FrmP.mem.2 ⟨by rw [blk_len]; have := h.2; omega, fun s hs => ?_⟩⟩
  obtain ⟨t, ht, hst⟩ := List.mem_flatMap.1 hs
  rcases List.mem_cons.1 hst with e | e
  · rw [e]; exact hm.2 t ht
  · rw [List.mem_singleton.1 e]
    exact ⟨⟨Int.le_refl _, by show (0 : Int) ≤ _; omega⟩, Int.le_refl _, by decide⟩
def BkF (k : Int) (fr : List (Int × Int)) : List (Int × Int) := if BlkP k fr then blk fr else []
theorem BkF_len (k : Int) (fr : List (Int × Int)) : (BkF k fr).length ≤ 12 := by
  unfold BkF
  split
  · rename_i h; rw [blk_len]; have := h.2; omega
  · simp
theorem fu5 {k : Int} {fr : List (Int × Int)} (h : BlkP k fr) : GdP k (BkF k fr) := by
  unfold BkF; rw [if_pos h]; exact blk_gd h
def SeI (k : Int) (fr : List (Int × Int)) : List Int := if GdP k fr then sen fr k.toNat else []
def GhI (k : Int) (fr : List (Int × Int)) : List Int := if GdP k fr then ghL fr k.toNat else []
theorem SeI_len (k : Int) (fr : List (Int × Int)) : (SeI k fr).length ≤ 6 := by
  unfold SeI
  split
  · rename_i h; rw [show (sen fr k.toNat).length = k.toNat from senK_len _ _ _ _]; have := h.1; omega
  · simp
theorem GhI_len (k : Int) (fr : List (Int × Int)) : (GhI k fr).length ≤ 6 := by
  unfold GhI
  split
  · rename_i h; rw [show (ghL fr k.toNat).length = k.toNat from gK_len _ _ _ _]; have := h.1; omega
  · simp
theorem fu6 {k : Int} {fr : List (Int × Int)} (h : BlkP k fr) : SeI k (BkF k fr) = SeI k fr := by
  unfold SeI
  rw [if_pos (fu5 h), if_pos h.1]
  unfold BkF
  rw [if_pos h]
  unfold sen senK
  apply List.map_congr_left
  intro x _
  rw [if_neg (Nat.not_lt_zero _), if_neg (Nat.not_lt_zero _), blk_len, orN_blk]
theorem fu7 {k : Int} {fr : List (Int × Int)} (h : BlkP k fr) : GhI k (BkF k fr) = List.replicate k.toNat 0 := by
  unfold GhI
  rw [if_pos (fu5 h)]
  unfold BkF
  rw [if_pos h]
  unfold ghL gK
  apply List.ext_getElem (by simp)
  intro j h1 h2
  rw [List.getElem_map, if_neg (Nat.not_lt_zero _), ghO_blk fr _ _ (Nat.le_refl _), List.getElem_replicate]; rfl
theorem sh_bit (a k : Nat) : shN a k &&& 1 = if a.testBit k = true then 1 else 0 := by
  rw [Nat.and_one_is_mod, Nat.testBit_eq_decide_div_mod_eq]
  unfold shN p2
  by_cases h : a / 2 ^ k % 2 = 1
  · rw [if_pos (decide_eq_true h), h]
  · rw [if_neg (fun z => h (of_decide_eq_true z))]; omega
theorem duO_bit {k : Int} {fr : List (Int × Int)} (h : GdP k fr) (x : Nat) {b : Nat} (hb : b < 7) : ∀ i, i ≤ fr.length → (0 < duO fr (x * 7 + b) i ↔ (orN fr x i).testBit b = true)
  | 0, _ => by simp [duO, orN]
  | i + 1, hi => by
    have ih := duO_bit h x hb i (by omega)
    have hs := h.2.bd h.1.2 (j := i) (by omega)
    rw [duO, orN, duS_at fr i hb, sh_bit, sh_bit]
    have e := bt_i (x := x) hs.1.1 (by omega : (fr.getD i (0, 0)).1 ≤ 127)
    by_cases hc : bt (fr.getD i (0, 0)).1 x
    · rw [if_pos hc, if_pos (e.1 hc), Nat.testBit_or, Bool.or_eq_true, ← ih]
      by_cases h2 : (fr.getD i (0, 0)).2.toNat.testBit b = true
      · rw [if_pos h2]; exact ⟨fun _ => .inr h2, fun _ => by omega⟩
      · rw [if_neg h2]; exact ⟨fun z => .inl (by omega), fun z => by rcases z with z | z <;> first | omega | exact absurd z h2⟩
    · rw [if_neg hc, if_neg (fun z => hc (e.2 z)), Nat.zero_mul, Nat.add_zero]; exact ih
theorem fu8 {k : Int} {fr : List (Int × Int)} (h : GdP k fr) {i b : Nat} (hi : i < k.toNat) (hb : b < 7) : 0 < (duL fr k.toNat).getD (i * 7 + b) 0 ↔ bt ((SeI k fr).getD i 0) b := by
  have hl := orN_le h.2 h.1.2 i fr.length (Nat.le_refl _)
  unfold SeI duL
  rw [if_pos h, sen_at8 fr hi, bt_n hl, gK_at (by omega), if_neg (Nat.not_lt_zero _), ← duO_bit h i hb fr.length (Nat.le_refl _)]
  omega
theorem fu9 {k : Int} {fr : List (Int × Int)} (h : GdP k fr) {i : Nat} (hi : i < k.toNat) : ((SeI k fr).getD i 0).toNat &&& ((GhI k fr).getD i 0).toNat = 0 := by
  unfold SeI GhI ghL
  rw [if_pos h, if_pos h, sen_at8 fr hi, gK_at hi, if_neg (Nat.not_lt_zero _), ghO_R, Int.toNat_natCast, Int.toNat_natCast]
  apply Nat.eq_of_testBit_eq
  intro t
  simp only [Nat.testBit_and, Nat.testBit_xor, Nat.zero_testBit]
  cases (orN fr i fr.length).testBit t <;> cases (ghR fr i fr.length).testBit t <;> rfl
theorem SeI_le {k : Int} {fr : List (Int × Int)} (h : GdP k fr) {i : Nat} (hi : i < k.toNat) : 0 ≤ (SeI k fr).getD i 0 ∧ (SeI k fr).getD i 0 ≤ 127 := by
  have hl := orN_le h.2 h.1.2 i fr.length (Nat.le_refl _)
  unfold SeI
  rw [if_pos h, sen_at8 fr hi]; omega
theorem GhI_le {k : Int} {fr : List (Int × Int)} (h : GdP k fr) {i : Nat} (hi : i < k.toNat) : 0 ≤ (GhI k fr).getD i 0 ∧ (GhI k fr).getD i 0 ≤ 127 := by
  have hl := ghO_le h.2 h.1.2 i fr.length (Nat.le_refl _)
  unfold GhI ghL
  rw [if_pos h, gK_at hi, if_neg (Nat.not_lt_zero _)]; omega
theorem list_eq_ofU (a b : List (Int × Int)) (hl : a.length = b.length) (h : ∀ j, j < a.length → a.getD j (0, 0) = b.getD j (0, 0)) : a = b := list_eq_ofI (0, 0) a b hl h
set_option maxRecDepth 4000 in
theorem rSlots_c (fs gs : List (Int × Int)) (hf : fs.length ≤ 4611686018427387904) : PCalls Try.prog 19 [.sl fs.length (fl fs), .sl gs.length (fl gs)] (· = [.val (.bool (decide (fs = gs)))]) := by
  refine pcalls_of_code (n := 26) az Try.func19 (by kernel_rfl) rfl rfl (Nat.le_of_ble_eq_true rfl) (by intro t u h; simp [Try.f19] at h) ?_
  have hfl := fl_len fs
  have hgl := fl_len gs
  have hff := fl_flat fs
  have hgf := fl_flat gs
  refine code_seq (fun K1 hK1 => ?_)
  refine code_region ?_
  refine list_cons rfl (op_q (q_assign rfl (by decide)) ?_)
  refine list_nil ?_
  refine hK1 _ ?_; clear hK1 K1
  refine code_seq (fun K2 hK2 => ?_)
  refine code_seq (fun K3 hK3 => ?_)
  refine code_region ?_
  refine list_cons rfl (op_q (q_move rfl (by decide)) ?_)
  refine list_cons rfl (op_q (q_len_sl Try.underlying24 rfl rfl (by decide)) ?_)
  refine list_cons rfl (op_q (q_move rfl (by decide)) ?_)
  refine list_cons rfl (op_q (q_len_sl Try.underlying24 rfl rfl (by decide)) ?_)
  refine list_cons rfl (op_q (q_ne rfl rfl (by decide)) ?_)
  refine list_nil ?_
  refine hK3 _ ?_; clear hK3 K3
  refine code_cond_d rfl (fun h1 => ?_) (fun h1 => ?_)
  · skip
    (try simp only [Decidable.not_not] at h1)
    refine code_seq (fun K4 hK4 => ?_)
    refine code_region ?_
    refine list_cons rfl (op_q (q_assign rfl (by decide)) ?_)
    refine list_nil ?_
    refine hK4 _ ?_; clear hK4 K4
    refine code_ret ?_
    refine then_r ?_; clear hK2 K2
    refine ends_ret (cs := []) rfl rfl rfl rfl trivial ?_
    first
      | rw [decide_eq_true (list_eq_ofU fs gs (by omega) fun j hj => i3 j (by omega))]
      | (rw [decide_eq_false (fun e => h1 (by subst e; exact ⟨rfl, rfl, trivial⟩))]; done)
      | (rw [decide_eq_false (fun e => h1 (by rw [e]))]; done)
  (try simp only [Decidable.not_not] at h1)
  refine code_skip ?_
  refine hK2 _ ?_; clear hK2 K2
  refine code_seq (fun K5 hK5 => ?_)
  refine code_seq (fun K6 hK6 => ?_)
  refine code_region ?_
  refine list_cons rfl (op_q (q_assign rfl (by decide)) ?_)
  refine list_nil ?_
  refine hK6 _ ?_; clear hK6 K6
  refine code_block ?_
  refine code_loop (X := Bool × Int) (fun x => [(0, .par 0 (.sl fs.length (fl fs))), (1, .par 1 (.sl gs.length (fl gs))), (4, .val (.bool x.1)), (5, .val (.int .i64 x.2))]) (fun x => 0 ≤ x.2 ∧ x.2 ≤ fs.length ∧ fs.length = gs.length ∧ ∀ j, j < x.2.toNat → fs.getD j (0, 0) = gs.getD j (0, 0)) (fun x => fs.length - x.2.toNat) (_, _) (imp_covers ⟨rfl, rfl, rfl, rfl, trivial⟩) ?_ ?_
  · (try dsimp only)
    refine ⟨by omega, by omega, by omega, fun j hj => by simp at hj⟩
  · intro x hI
    obtain ⟨t4, i⟩ := x
    replace hI : 0 ≤ i ∧ i ≤ fs.length ∧ fs.length = gs.length ∧ ∀ j, j < i.toNat → fs.getD j (0, 0) = gs.getD j (0, 0) := hI
    show codeT _ _ _ [(0, .par 0 (.sl fs.length (fl fs))), (1, .par 1 (.sl gs.length (fl gs))), (4, .val (.bool t4)), (5, .val (.int .i64 i))] _
    obtain ⟨i1, i2, i2b, i3⟩ := hI
    refine code_seq (fun K7 hK7 => ?_)
    refine code_seq (fun K8 hK8 => ?_)
    refine code_region ?_
    refine list_cons rfl (op_q (q_move rfl (by decide)) ?_)
    refine list_cons rfl (op_q (q_move rfl (by decide)) ?_)
    refine list_cons rfl (op_q (q_len_sl Try.underlying24 rfl rfl (by decide)) ?_)
    refine list_cons rfl (op_q (q_lt rfl rfl (by decide)) ?_)
    refine list_nil ?_
    refine hK8 _ ?_; clear hK8 K8
    refine code_cond_d rfl (fun h2 => ?_) (fun h2 => ?_)
    · skip
      (try simp only [Decidable.not_not] at h2)
      refine code_skip ?_
      refine hK7 _ ?_; clear hK7 K7
      refine code_seq (fun K9 hK9 => ?_)
      refine code_block ?_
      refine code_seq (fun K10 hK10 => ?_)
      refine code_draw (by kernel_rfl) (by kernel_rfl) ?_
      refine draw_q rfl (q_move rfl (by decide)) ?_
      refine draw_q rfl (q_move rfl (by decide)) ?_
      refine draw_q rfl (q_indexAddr_rd sl_24 rfl (.inl ⟨_, rfl, rfl⟩) rfl (by omega) (by omega) (by decide)) ?_
      refine draw_q rfl (q_load_rd_aggE agg_62 rfl (.inl ⟨_, rfl⟩) (by first | decide | omega | exact Nat.le_refl _ | (simp; done) | (simp; omega)) (by first | exact fl_at fs i.toNat (by omega) | exact fl_at gs i.toNat (by omega)) rfl (by decide)) ?_
      refine draw_q rfl (q_move rfl (by decide)) ?_
      refine draw_q rfl (q_move rfl (by decide)) ?_
      refine draw_q rfl (q_indexAddr_rd sl_24 rfl (.inl ⟨_, rfl, rfl⟩) rfl (by omega) (by omega) (by decide)) ?_
      refine draw_q rfl (q_load_rd_aggE agg_62 rfl (.inl ⟨_, rfl⟩) (by first | decide | omega | exact Nat.le_refl _ | (simp; done) | (simp; omega)) (by first | exact fl_at fs i.toNat (by omega) | exact fl_at gs i.toNat (by omega)) rfl (by decide)) ?_
      refine draw_q rfl (q_aggne (by decide) agg_62 eqty_62 eqg_62 rfl rfl (by first | exact ⟨_, _, rfl, ⟨_, rfl⟩, ⟨_, _, rfl, ⟨_, rfl⟩, trivial⟩⟩) (by first | exact ⟨_, _, rfl, ⟨_, rfl⟩, ⟨_, _, rfl, ⟨_, rfl⟩, trivial⟩⟩) rfl rfl (by decide)) ?_
      refine draw_nil ?_
      refine hK10 _ ?_; clear hK10 K10
      refine codeT.imp (σ' := [(0, _), (1, _), (4, _), (5, _), (25, _)]) ?_ (imp_covers ⟨rfl, rfl, rfl, rfl, rfl, trivial⟩)
      refine code_cond_d rfl (fun h3 => ?_) (fun h3 => ?_)
      · skip
        (try simp only [Decidable.not_not] at h3)
        refine code_seq (fun K11 hK11 => ?_)
        refine code_region ?_
        refine list_cons rfl (op_q (q_assign rfl (by decide)) ?_)
        refine list_nil ?_
        refine hK11 _ ?_; clear hK11 K11
        refine code_ret ?_
        refine blk_r ?_
        refine then_r ?_; clear hK9 K9
        refine then_r ?_
        refine blk_r ?_
        refine then_r ?_; clear hK5 K5
        refine ends_ret (cs := []) rfl rfl rfl rfl trivial ?_
        first
          | rw [decide_eq_true (list_eq_ofU fs gs (by omega) fun j hj => i3 j (by omega))]
          | (rw [decide_eq_false (fun e => h3 (by subst e; exact ⟨rfl, rfl, trivial⟩))]; done)
          | (rw [decide_eq_false (fun e => h3 (by rw [e]))]; done)
      (try simp only [Decidable.not_not] at h3)
      refine code_skip ?_
      refine blk_n ?_
      refine hK9 _ ?_; clear hK9 K9
      refine code_region ?_
      refine list_cons rfl (op_q (q_move rfl (by decide)) ?_)
      refine list_cons rfl (op_q (by first | exact q_addI rfl rfl (by decide) (by omega) (by omega) | exact q_ib rfl rfl rfl (by decide)) ?_)
      refine list_cons rfl (op_q (q_assign rfl (by decide)) ?_)
      refine list_nil ?_
      refine then_n ⟨(_, _), imp_covers ⟨rfl, rfl, rfl, rfl, trivial⟩, ?_, ?_⟩
      · (try dsimp only)
        refine ⟨by omega, by omega, by omega, fun j hj => ?_⟩
        by_cases e : j = i.toNat
        · subst e
          have hq := h3
          simp only [EqP, Eq1] at hq
          exact Prod.ext hq.1 hq.2.1
        · exact i3 j (by omega)
      · (try dsimp only); omega
    (try simp only [Decidable.not_not] at h2)
    refine code_exit ?_
    refine then_x ?_; clear hK7 K7
    refine then_x ?_
    refine blk_hit ?_
    refine hK5 _ ?_; clear hK5 K5
    refine code_seq (fun K12 hK12 => ?_)
    refine code_region ?_
    refine list_cons rfl (op_q (q_assign rfl (by decide)) ?_)
    refine list_nil ?_
    refine hK12 _ ?_; clear hK12 K12
    refine code_ret ?_
    refine ends_ret (cs := []) rfl rfl rfl rfl trivial ?_
    first
      | rw [decide_eq_true (list_eq_ofU fs gs (by omega) fun j hj => i3 j (by omega))]
      | (rw [decide_eq_false (fun e => h2 (by subst e; exact ⟨rfl, rfl, trivial⟩))]; done)
      | (rw [decide_eq_false (fun e => h2 (by rw [e]))]; done)
set_option maxRecDepth 4000 in
theorem rInts_c (a b : List Int) (ha : a.length ≤ 4611686018427387904) : PCalls Try.prog 9 [.sl a.length (a.map (.int .i64)), .sl b.length (b.map (.int .i64))] (· = [.val (.bool (decide (a = b)))]) := by
  refine pcalls_of_code (n := 26) az Try.func9 (by kernel_rfl) rfl rfl (Nat.le_of_ble_eq_true rfl) (by intro t u h; simp [Try.f9] at h) ?_
  refine code_seq (fun K1 hK1 => ?_)
  refine code_region ?_
  refine list_cons rfl (op_q (q_assign rfl (by decide)) ?_)
  refine list_nil ?_
  refine hK1 _ ?_; clear hK1 K1
  refine code_seq (fun K2 hK2 => ?_)
  refine code_seq (fun K3 hK3 => ?_)
  refine code_region ?_
  refine list_cons rfl (op_q (q_move rfl (by decide)) ?_)
  refine list_cons rfl (op_q (q_len_sl Try.underlying27 rfl rfl (by decide)) ?_)
  refine list_cons rfl (op_q (q_move rfl (by decide)) ?_)
  refine list_cons rfl (op_q (q_len_sl Try.underlying27 rfl rfl (by decide)) ?_)
  refine list_cons rfl (op_q (q_ne rfl rfl (by decide)) ?_)
  refine list_nil ?_
  refine hK3 _ ?_; clear hK3 K3
  refine code_cond_d rfl (fun h1 => ?_) (fun h1 => ?_)
  · skip
    (try simp only [Decidable.not_not] at h1)
    refine code_seq (fun K4 hK4 => ?_)
    refine code_region ?_
    refine list_cons rfl (op_q (q_assign rfl (by decide)) ?_)
    refine list_nil ?_
    refine hK4 _ ?_; clear hK4 K4
    refine code_ret ?_
    refine then_r ?_; clear hK2 K2
    refine ends_ret (cs := []) rfl rfl rfl rfl trivial ?_
    rw [decide_eq_false (fun e => h1 (by rw [e]))]
  (try simp only [Decidable.not_not] at h1)
  refine code_skip ?_
  refine hK2 _ ?_; clear hK2 K2
  refine code_seq (fun K5 hK5 => ?_)
  refine code_seq (fun K6 hK6 => ?_)
  refine code_region ?_
  refine list_cons rfl (op_q (q_assign rfl (by decide)) ?_)
  refine list_nil ?_
  refine hK6 _ ?_; clear hK6 K6
  refine code_block ?_
  refine code_loop (X := Bool × Int) (fun x => [(0, .par 0 (.sl a.length (a.map (.int .i64)))), (1, .par 1 (.sl b.length (b.map (.int .i64)))), (4, .val (.bool x.1)), (5, .val (.int .i64 x.2))]) (fun x => 0 ≤ x.2 ∧ x.2 ≤ a.length ∧ ∀ j, j < x.2.toNat → a.getD j 0 = b.getD j 0) (fun x => a.length - x.2.toNat) (_, _) (imp_covers ⟨rfl, rfl, rfl, rfl, trivial⟩) ?_ ?_
  · (try dsimp only)
    refine ⟨by omega, by omega, fun j hj => by simp at hj⟩
  · intro x hI
    obtain ⟨t4, i⟩ := x
    replace hI : 0 ≤ i ∧ i ≤ a.length ∧ ∀ j, j < i.toNat → a.getD j 0 = b.getD j 0 := hI
    show codeT _ _ _ [(0, .par 0 (.sl a.length (a.map (.int .i64)))), (1, .par 1 (.sl b.length (b.map (.int .i64)))), (4, .val (.bool t4)), (5, .val (.int .i64 i))] _
    obtain ⟨i1, i2, i3⟩ := hI
    refine code_seq (fun K7 hK7 => ?_)
    refine code_seq (fun K8 hK8 => ?_)
    refine code_region ?_
    refine list_cons rfl (op_q (q_move rfl (by decide)) ?_)
    refine list_cons rfl (op_q (q_move rfl (by decide)) ?_)
    refine list_cons rfl (op_q (q_len_sl Try.underlying27 rfl rfl (by decide)) ?_)
    refine list_cons rfl (op_q (q_lt rfl rfl (by decide)) ?_)
    refine list_nil ?_
    refine hK8 _ ?_; clear hK8 K8
    refine code_cond_d rfl (fun h2 => ?_) (fun h2 => ?_)
    · skip
      (try simp only [Decidable.not_not] at h2)
      refine code_skip ?_
      refine hK7 _ ?_; clear hK7 K7
      refine code_seq (fun K9 hK9 => ?_)
      refine code_block ?_
      refine code_seq (fun K10 hK10 => ?_)
      refine code_draw (by kernel_rfl) (by kernel_rfl) ?_
      refine draw_q rfl (q_move rfl (by decide)) ?_
      refine draw_q rfl (q_move rfl (by decide)) ?_
      refine draw_q rfl (q_indexAddr_rd sl_27 rfl (.inl ⟨_, rfl, rfl⟩) rfl (by omega) (by omega) (by decide)) ?_
      refine draw_q rfl (q_load_rd one_3 rfl (.inl ⟨_, (by first | rfl | exact congrArg (SV.rpar _) (drop_map1 _ 0 _ (by first | omega | (simp; omega)))), rfl⟩) (by decide)) ?_
      refine draw_q rfl (q_move rfl (by decide)) ?_
      refine draw_q rfl (q_move rfl (by decide)) ?_
      refine draw_q rfl (q_indexAddr_rd sl_27 rfl (.inl ⟨_, rfl, rfl⟩) rfl (by omega) (by omega) (by decide)) ?_
      refine draw_q rfl (q_load_rd one_3 rfl (.inl ⟨_, (by first | rfl | exact congrArg (SV.rpar _) (drop_map1 _ 0 _ (by first | omega | (simp; omega)))), rfl⟩) (by decide)) ?_
      refine draw_q rfl (q_ne rfl rfl (by decide)) ?_
      refine draw_nil ?_
      refine hK10 _ ?_; clear hK10 K10
      refine codeT.imp (σ' := [(0, _), (1, _), (4, _), (5, _), (25, _)]) ?_ (imp_covers ⟨rfl, rfl, rfl, rfl, rfl, trivial⟩)
      refine code_cond_d rfl (fun h3 => ?_) (fun h3 => ?_)
      · skip
        (try simp only [Decidable.not_not] at h3)
        refine code_seq (fun K11 hK11 => ?_)
        refine code_region ?_
        refine list_cons rfl (op_q (q_assign rfl (by decide)) ?_)
        refine list_nil ?_
        refine hK11 _ ?_; clear hK11 K11
        refine code_ret ?_
        refine blk_r ?_
        refine then_r ?_; clear hK9 K9
        refine then_r ?_
        refine blk_r ?_
        refine then_r ?_; clear hK5 K5
        refine ends_ret (cs := []) rfl rfl rfl rfl trivial ?_
        rw [decide_eq_false (list_ne_ofI 0 i.toNat h3)]
      (try simp only [Decidable.not_not] at h3)
      refine code_skip ?_
      refine blk_n ?_
      refine hK9 _ ?_; clear hK9 K9
      refine code_region ?_
      refine list_cons rfl (op_q (q_move rfl (by decide)) ?_)
      refine list_cons rfl (op_q (by first | exact q_addI rfl rfl (by decide) (by omega) (by omega) | exact q_ib rfl rfl rfl (by decide)) ?_)
      refine list_cons rfl (op_q (q_assign rfl (by decide)) ?_)
      refine list_nil ?_
      refine then_n ⟨(_, _), imp_covers ⟨rfl, rfl, rfl, rfl, trivial⟩, ?_, ?_⟩
      · (try dsimp only)
        refine ⟨by omega, by omega, fun j hj => ?_⟩
        by_cases e : j = i.toNat
        · subst e; exact h3
        · exact i3 j (by omega)
      · (try dsimp only); omega
    (try simp only [Decidable.not_not] at h2)
    refine code_exit ?_
    refine then_x ?_; clear hK7 K7
    refine then_x ?_
    refine blk_hit ?_
    refine hK5 _ ?_; clear hK5 K5
    refine code_seq (fun K12 hK12 => ?_)
    refine code_region ?_
    refine list_cons rfl (op_q (q_assign rfl (by decide)) ?_)
    refine list_nil ?_
    refine hK12 _ ?_; clear hK12 K12
    refine code_ret ?_
    refine ends_ret (cs := []) rfl rfl rfl rfl trivial ?_
    rw [decide_eq_true (list_eq_ofI 0 a b (by omega) fun j hj => i3 j (by omega))]
theorem rInts_z (a : List Int) (n : Nat) (cs : List PV) (hc : cs = zeros [.int .i64 0] n) (ha : a.length ≤ 4611686018427387904) : PCalls Try.prog 9 [.sl a.length (a.map (.int .i64)), .sl n cs] (· = [.val (.bool (decide (a = List.replicate n 0)))]) := by
  have h := rInts_c a (List.replicate n 0) ha
  have e := zeros_map1 (PV.int .i64) 0 n
  rw [List.length_replicate, ← e] at h
  rw [hc]; exact h
set_option maxRecDepth 4000 in
theorem rBig_c (code : List UInt8) : PCalls Try.prog 5 [.sl code.length (bytesP code)] (· = [.val (.bool (decide (65536 < code.length)))]) := by
  refine pcalls_of_code (n := 6) az Try.func5 (by kernel_rfl) rfl rfl (Nat.le_of_ble_eq_true rfl) (by intro t u h; simp [Try.f5] at h) ?_
  refine code_seq (fun K1 hK1 => ?_)
  refine code_region ?_
  refine list_cons rfl (op_q (q_assign rfl (by decide)) ?_)
  refine list_nil ?_
  refine hK1 _ ?_; clear hK1 K1
  refine code_seq (fun K2 hK2 => ?_)
  refine code_region ?_
  refine list_cons rfl (op_q (q_move rfl (by decide)) ?_)
  refine list_cons rfl (op_q (q_len_sl Try.underlying22 rfl rfl (by decide)) ?_)
  refine list_cons rfl (op_q (q_gt rfl rfl (by decide)) ?_)
  refine list_cons rfl (op_q (q_assign rfl (by decide)) ?_)
  refine list_nil ?_
  refine hK2 _ ?_; clear hK2 K2
  refine code_ret ?_
  refine ends_ret (cs := []) rfl rfl rfl rfl trivial ?_
  first | rfl | (congr 3; exact decide_eq_decide.mpr (by omega))
theorem row7_at (l : List Int) {j : Nat} (h : j * 7 + 7 ≤ l.length) : List.take 7 (List.drop (j * 7) (l.map (PV.int .i64))) = [.int .i64 (l.getD (j * 7 + 0) 0), .int .i64 (l.getD (j * 7 + 1) 0), .int .i64 (l.getD (j * 7 + 2) 0), .int .i64 (l.getD (j * 7 + 3) 0), .int .i64 (l.getD (j * 7 + 4) 0), .int .i64 (l.getD (j * 7 + 5) 0), .int .i64 (l.getD (j * 7 + 6) 0)] := by
  rw [← List.map_drop, ← List.map_take]
  have e : (l.drop (j * 7)).take 7 = [l.getD (j * 7 + 0) 0, l.getD (j * 7 + 1) 0, l.getD (j * 7 + 2) 0, l.getD (j * 7 + 3) 0, l.getD (j * 7 + 4) 0, l.getD (j * 7 + 5) 0, l.getD (j * 7 + 6) 0] := by
    refine list_eq_ofI 0 _ _ (by simp; omega) fun k hk => ?_
    have hk7 : k < 7 := by simp at hk; omega
    have : (List.take 7 (List.drop (j * 7) l)).getD k 0 = l.getD (j * 7 + k) 0 := by
      rw [List.getD_eq_getElem?_getD, List.getElem?_take, if_pos hk7, List.getElem?_drop, ← List.getD_eq_getElem?_getD]
    rw [this]
    have : k = 0 ∨ k = 1 ∨ k = 2 ∨ k = 3 ∨ k = 4 ∨ k = 5 ∨ k = 6 := by omega
    rcases this with rfl | rfl | rfl | rfl | rfl | rfl | rfl <;> rfl
  rw [e]; rfl
theorem SeI_k {k : Int} {fr : List (Int × Int)} (h : GdP k fr) : (SeI k fr).length = k.toNat := by
  unfold SeI
  rw [if_pos h]; exact senK_len _ _ _ _
theorem GhI_k {k : Int} {fr : List (Int × Int)} (h : GdP k fr) : (GhI k fr).length = k.toNat := by
  unfold GhI
  rw [if_pos h]; exact gK_len _ _ _ _
theorem du_ld {k : Int} {fr : List (Int × Int)} (h : GdP k fr) {i b : Nat} (hi : i < k.toNat) (hb : b < 7) : ((if GdP k fr then duL fr k.toNat else []).map (PV.int .i64))[i * 7 + b * 1]? = some (.int .i64 ((duL fr k.toNat).getD (i * 7 + b) 0)) := by
  rw [if_pos h]
  exact gK_ld (by omega)
theorem duI_len (k : Int) (fr : List (Int × Int)) : (if GdP k fr then duL fr k.toNat else []).length = (if GdP k fr then k.toNat else 0) * 7 := by
  split
  · exact gK_len _ _ _ _
  · rfl
theorem duI_le (k : Int) (fr : List (Int × Int)) : (if GdP k fr then k.toNat else 0) ≤ 6 := by
  split
  · rename_i h; have := h.1; omega
  · omega
set_option maxRecDepth 4000 in
theorem rSevens_c (l : List Int) (m : Nat) (hl : l.length = m * 7) (hm : m ≤ 1048576) : PCalls Try.prog 14 [.sl m (l.map (.int .i64)), .sl m (l.map (.int .i64))] (· = [.val (.bool true)]) := by
  refine pcalls_of_code (n := 26) az Try.func14 (by kernel_rfl) rfl rfl (Nat.le_of_ble_eq_true rfl) (by intro t u h; simp [Try.f14] at h) ?_
  refine code_seq (fun K1 hK1 => ?_)
  refine code_region ?_
  refine list_cons rfl (op_q (q_assign rfl (by decide)) ?_)
  refine list_nil ?_
  refine hK1 _ ?_; clear hK1 K1
  refine code_seq (fun K2 hK2 => ?_)
  refine code_seq (fun K3 hK3 => ?_)
  refine code_region ?_
  refine list_cons rfl (op_q (q_move rfl (by decide)) ?_)
  refine list_cons rfl (op_q (q_len_sl Try.underlying33 rfl rfl (by decide)) ?_)
  refine list_cons rfl (op_q (q_move rfl (by decide)) ?_)
  refine list_cons rfl (op_q (q_len_sl Try.underlying33 rfl rfl (by decide)) ?_)
  refine list_cons rfl (op_q (q_ne rfl rfl (by decide)) ?_)
  refine list_nil ?_
  refine hK3 _ ?_; clear hK3 K3
  refine code_cond_d rfl (fun h1 => ?_) (fun h1 => ?_)
  · skip
    (try simp only [Decidable.not_not] at h1)
    refine code_seq (fun K4 hK4 => ?_)
    refine code_region ?_
    refine list_cons rfl (op_q (q_assign rfl (by decide)) ?_)
    refine list_nil ?_
    refine hK4 _ ?_; clear hK4 K4
    refine code_ret ?_
    refine then_r ?_; clear hK2 K2
    refine ends_ret (cs := []) rfl rfl rfl rfl trivial ?_
    first | rfl | exact absurd rfl h1 | exact absurd ⟨rfl, rfl, rfl, rfl, rfl, rfl, rfl, trivial⟩ h1 | exact absurd trivial h1
  (try simp only [Decidable.not_not] at h1)
  refine code_skip ?_
  refine hK2 _ ?_; clear hK2 K2
  refine code_seq (fun K5 hK5 => ?_)
  refine code_seq (fun K6 hK6 => ?_)
  refine code_region ?_
  refine list_cons rfl (op_q (q_assign rfl (by decide)) ?_)
  refine list_nil ?_
  refine hK6 _ ?_; clear hK6 K6
  refine code_block ?_
  refine code_loop (X := Bool × Int) (fun x => [(0, .par 0 (.sl m (l.map (.int .i64)))), (1, .par 1 (.sl m (l.map (.int .i64)))), (4, .val (.bool x.1)), (5, .val (.int .i64 x.2))]) (fun x => 0 ≤ x.2 ∧ x.2 ≤ m) (fun x => m - x.2.toNat) (_, _) (imp_covers ⟨rfl, rfl, rfl, rfl, trivial⟩) ?_ ?_
  · (try dsimp only)
    exact ⟨by omega, by omega⟩
  · intro x hI
    obtain ⟨t4, i⟩ := x
    replace hI : 0 ≤ i ∧ i ≤ m := hI
    show codeT _ _ _ [(0, .par 0 (.sl m (l.map (.int .i64)))), (1, .par 1 (.sl m (l.map (.int .i64)))), (4, .val (.bool t4)), (5, .val (.int .i64 i))] _
    obtain ⟨i1, i2⟩ := hI
    refine code_seq (fun K7 hK7 => ?_)
    refine code_seq (fun K8 hK8 => ?_)
    refine code_region ?_
    refine list_cons rfl (op_q (q_move rfl (by decide)) ?_)
    refine list_cons rfl (op_q (q_move rfl (by decide)) ?_)
    refine list_cons rfl (op_q (q_len_sl Try.underlying33 rfl rfl (by decide)) ?_)
    refine list_cons rfl (op_q (q_lt rfl rfl (by decide)) ?_)
    refine list_nil ?_
    refine hK8 _ ?_; clear hK8 K8
    refine code_cond_d rfl (fun h2 => ?_) (fun h2 => ?_)
    · skip
      (try simp only [Decidable.not_not] at h2)
      refine code_skip ?_
      refine hK7 _ ?_; clear hK7 K7
      refine code_seq (fun K9 hK9 => ?_)
      refine code_block ?_
      refine code_seq (fun K10 hK10 => ?_)
      refine code_draw (by kernel_rfl) (by kernel_rfl) ?_
      refine draw_q rfl (q_move rfl (by decide)) ?_
      refine draw_q rfl (q_move rfl (by decide)) ?_
      refine draw_q rfl (q_indexAddr_rd sl_33 rfl (.inl ⟨_, rfl, rfl⟩) rfl (by omega) (by omega) (by decide)) ?_
      refine draw_q rfl (q_load_rd_aggE agg_47 rfl (.inl ⟨_, rfl⟩) (by first | decide | omega | exact Nat.le_refl _ | (simp; done) | (simp; omega)) (row7_at l (by omega)) rfl (by decide)) ?_
      refine draw_q rfl (q_move rfl (by decide)) ?_
      refine draw_q rfl (q_move rfl (by decide)) ?_
      refine draw_q rfl (q_indexAddr_rd sl_33 rfl (.inl ⟨_, rfl, rfl⟩) rfl (by omega) (by omega) (by decide)) ?_
      refine draw_q rfl (q_load_rd_aggE agg_47 rfl (.inl ⟨_, rfl⟩) (by first | decide | omega | exact Nat.le_refl _ | (simp; done) | (simp; omega)) (row7_at l (by omega)) rfl (by decide)) ?_
      refine draw_q rfl (q_aggne (by decide) agg_47 eqty_47 eqg_47 rfl rfl (by first | exact ⟨_, _, rfl, ⟨_, rfl⟩, ⟨_, _, rfl, ⟨_, rfl⟩, ⟨_, _, rfl, ⟨_, rfl⟩, ⟨_, _, rfl, ⟨_, rfl⟩, ⟨_, _, rfl, ⟨_, rfl⟩, ⟨_, _, rfl, ⟨_, rfl⟩, ⟨_, _, rfl, ⟨_, rfl⟩, trivial⟩⟩⟩⟩⟩⟩⟩) (by first | exact ⟨_, _, rfl, ⟨_, rfl⟩, ⟨_, _, rfl, ⟨_, rfl⟩, ⟨_, _, rfl, ⟨_, rfl⟩, ⟨_, _, rfl, ⟨_, rfl⟩, ⟨_, _, rfl, ⟨_, rfl⟩, ⟨_, _, rfl, ⟨_, rfl⟩, ⟨_, _, rfl, ⟨_, rfl⟩, trivial⟩⟩⟩⟩⟩⟩⟩) rfl rfl (by decide)) ?_
      refine draw_nil ?_
      refine hK10 _ ?_; clear hK10 K10
      refine codeT.imp (σ' := [(0, _), (1, _), (4, _), (5, _), (25, _)]) ?_ (imp_covers ⟨rfl, rfl, rfl, rfl, rfl, trivial⟩)
      refine code_cond_d rfl (fun h3 => ?_) (fun h3 => ?_)
      · skip
        (try simp only [Decidable.not_not] at h3)
        refine code_seq (fun K11 hK11 => ?_)
        refine code_region ?_
        refine list_cons rfl (op_q (q_assign rfl (by decide)) ?_)
        refine list_nil ?_
        refine hK11 _ ?_; clear hK11 K11
        refine code_ret ?_
        refine blk_r ?_
        refine then_r ?_; clear hK9 K9
        refine then_r ?_
        refine blk_r ?_
        refine then_r ?_; clear hK5 K5
        refine ends_ret (cs := []) rfl rfl rfl rfl trivial ?_
        first | rfl | exact absurd rfl h3 | exact absurd ⟨rfl, rfl, rfl, rfl, rfl, rfl, rfl, trivial⟩ h3 | exact absurd trivial h3
      (try simp only [Decidable.not_not] at h3)
      refine code_skip ?_
      refine blk_n ?_
      refine hK9 _ ?_; clear hK9 K9
      refine code_region ?_
      refine list_cons rfl (op_q (q_move rfl (by decide)) ?_)
      refine list_cons rfl (op_q (by first | exact q_addI rfl rfl (by decide) (by omega) (by omega) | exact q_ib rfl rfl rfl (by decide)) ?_)
      refine list_cons rfl (op_q (q_assign rfl (by decide)) ?_)
      refine list_nil ?_
      refine then_n ⟨(_, _), imp_covers ⟨rfl, rfl, rfl, rfl, trivial⟩, ?_, ?_⟩
      · (try dsimp only)
        exact ⟨by omega, by omega⟩
      · (try dsimp only); omega
    (try simp only [Decidable.not_not] at h2)
    refine code_exit ?_
    refine then_x ?_; clear hK7 K7
    refine then_x ?_
    refine blk_hit ?_
    refine hK5 _ ?_; clear hK5 K5
    refine code_seq (fun K12 hK12 => ?_)
    refine code_region ?_
    refine list_cons rfl (op_q (q_assign rfl (by decide)) ?_)
    refine list_nil ?_
    refine hK12 _ ?_; clear hK12 K12
    refine code_ret ?_
    refine ends_ret (cs := []) rfl rfl rfl rfl trivial ?_
    first | rfl | exact absurd rfl h2 | exact absurd ⟨rfl, rfl, rfl, rfl, rfl, rfl, rfl, trivial⟩ h2 | exact absurd trivial h2
set_option maxRecDepth 8000 in
set_option maxHeartbeats 16000000 in
theorem FnFrames_law (code : List UInt8) (p0 : code.length ≤ 9223372036854775807) : MCalls Try.prog 3 true none [.sl code.length (bytesP code)] fun rs _ => rs = [.val (.bool true)] := by
  refine mcalls_of_code (n := 355) az Try.func3 (by kernel_rfl) rfl rfl (Nat.le_of_ble_eq_true rfl) (by intro t u h; simp [Try.f3] at h) ?_
  refine code_seq (fun K1 hK1 => ?_)
  refine code_region ?_
  refine list_cons rfl (op_q (q_assign rfl (by decide)) ?_)
  refine list_nil ?_
  refine hK1 _ ?_; clear hK1 K1
  refine code_seq (fun K2 hK2 => ?_)
  refine code_seq (fun K3 hK3 => ?_)
  refine code_region ?_
  refine list_cons rfl (op_q (q_move rfl (by decide)) ?_)
  refine list_cons rfl (op_call _ (rBig_c _) rfl rfl (by decide) (by decide) (by decide) rfl ?_)
  rintro _ rfl
  refine list_nil ?_
  refine hK3 _ ?_; clear hK3 K3
  refine codeT.imp (σ' := [(0, .ext _), (2, .val (.bool _)), (52, .val (.bool _))]) ?_ (imp_covers ⟨rfl, rfl, rfl, trivial⟩)
  refine code_cond_d rfl (fun h1 => ?_) (fun h1 => ?_)
  · skip
    (try simp only [Decidable.not_not] at h1); (try have hg : GdP k fr := h1)
    refine code_seq (fun K4 hK4 => ?_)
    refine code_region ?_
    refine list_cons rfl (op_q (q_assign rfl (by decide)) ?_)
    refine list_nil ?_
    refine hK4 _ ?_; clear hK4 K4
    refine code_ret ?_
    refine then_r ?_; clear hK2 K2
    refine ends_ret (cs := []) rfl rfl rfl rfl trivial ?_
    first | rfl
  (try simp only [Decidable.not_not] at h1); (try have hg : GdP k fr := h1)
  refine code_skip ?_
  refine hK2 _ ?_; clear hK2 K2
  refine code_seq (fun K5 hK5 => ?_)
  refine code_region ?_
  refine list_cons rfl (op_q (q_move rfl (by decide)) ?_)
  refine list_cons rfl (op_callM (DrawSeenOf_c _ ?_) (.tmp 0) 0 [] [.tmp 54] _ rfl rfl (by intro y hy; cases hy) (by decide) (by decide) (by decide) rfl (by intro h; cases h) ?_)
  · first | assumption | omega | (simp; omega)
  rintro _ _ ⟨k, fr, hf13, rfl⟩
  refine list_cons rfl (op_q (q_move rfl (by decide)) ?_)
  refine list_cons rfl (op_q (q_extract rfl rfl (by decide)) ?_)
  refine list_cons rfl (op_q (q_extract rfl rfl (by decide)) ?_)
  refine list_cons rfl (op_q (q_assign rfl (by decide)) ?_)
  refine list_cons rfl (op_q (q_assign rfl (by decide)) ?_)
  refine list_nil ?_
  refine hK5 _ ?_; clear hK5 K5
  refine codeT.imp (σ' := [(0, .ext _), (2, .val (.bool _)), (3, .val (.int .i64 _)), (4, .own 1055 62 2 _ _)]) ?_ (imp_covers ⟨rfl, rfl, rfl, rfl, trivial⟩)
  refine code_seq (fun K6 hK6 => ?_)
  refine code_region ?_
  refine list_cons rfl (op_q (q_move rfl (by decide)) ?_)
  refine list_cons rfl (op_q (q_move rfl (by decide)) ?_)
  refine list_cons rfl (op_call _ (impl_SeenOf _ _ (by first | omega | (simp; omega))) rfl rfl (by decide) (by decide) (by decide) rfl ?_)
  rintro _ rfl
  refine list_cons rfl (op_q (q_move rfl (by decide)) ?_)
  refine list_cons rfl (op_q (q_extract rfl rfl (by decide)) ?_)
  refine list_cons rfl (op_q (q_extract rfl rfl (by decide)) ?_)
  refine list_cons rfl (op_q (q_assign rfl (by decide)) ?_)
  refine list_cons rfl (op_q (q_assign rfl (by decide)) ?_)
  refine list_nil ?_
  refine hK6 _ ?_; clear hK6 K6
  refine codeT.imp (σ' := [(0, .ext _), (2, .val (.bool _)), (3, .val (.int .i64 _)), (4, .own 1055 62 2 _ _), (5, .own 61 3 1 _ _), (6, .val (.bool _))]) ?_ (imp_covers ⟨rfl, rfl, rfl, rfl, rfl, rfl, trivial⟩)
  refine code_seq (fun K7 hK7 => ?_)
  refine code_seq (fun K8 hK8 => ?_)
  refine code_region ?_
  refine list_cons rfl (op_q (q_move rfl (by decide)) ?_)
  refine list_cons rfl (op_q (q_move rfl (by decide)) ?_)
  refine list_cons rfl (op_call _ (spec_SeenOf _ _ (by first | omega | (simp; omega))) rfl rfl (by decide) (by decide) (by decide) rfl ?_)
  rintro _ rfl
  refine list_cons rfl (op_q (q_move rfl (by decide)) ?_)
  refine list_cons rfl (op_q (q_extract rfl rfl (by decide)) ?_)
  refine list_cons rfl (op_q (q_extract rfl rfl (by decide)) ?_)
  refine list_cons rfl (op_q (q_assign rfl (by decide)) ?_)
  refine list_cons rfl (op_q (q_assign rfl (by decide)) ?_)
  refine list_nil ?_
  refine hK8 _ ?_; clear hK8 K8
  refine codeT.imp (σ' := [(0, .ext _), (2, .val (.bool _)), (3, .val (.int .i64 _)), (4, .own 1055 62 2 _ _), (5, .own 61 3 1 _ _), (6, .val (.bool _)), (7, .own 67 3 1 _ _), (8, .val (.bool _))]) ?_ (imp_covers ⟨rfl, rfl, rfl, rfl, rfl, rfl, rfl, rfl, trivial⟩)
  refine code_seq (fun K9 hK9 => ?_)
  refine code_region ?_
  refine list_cons rfl (op_q (q_move rfl (by decide)) ?_)
  refine list_cons rfl (op_q (q_move rfl (by decide)) ?_)
  refine list_cons rfl (op_q (q_bne Try.underlying4 rfl rfl (by decide)) ?_)
  refine list_cons rfl (op_q (q_move rfl (by decide)) ?_)
  refine list_guard_d rfl rfl rfl rfl (by decide) rfl (by decide) (fun h2 => ?_) (fun h2 => ?_)
  · simp only [Bool.false_eq_true, if_true, if_false, Decidable.not_not] at h2
    (try simp only [Decidable.not_not] at h2); (try have hg : GdP k fr := h2)
    refine id (op_q (q_move rfl (by decide)) ?_)
    refine list_guard_y rfl rfl rfl rfl (by decide) rfl ?_
    refine id (op_q (q_move rfl (by decide)) ?_)
    refine list_guard_y rfl rfl rfl rfl (by decide) rfl ?_
    refine id (op_call _ (rInts_c _ _ (by first | omega | exact Nat.le_trans (SeI_len _ _) (by decide) | exact Nat.le_trans (GhI_len _ _) (by decide) | exact Nat.le_trans (BkF_len _ _) (by decide) | exact Nat.le_trans (PlF_len _) (by decide) | (simp; omega))) rfl rfl (by decide) (by decide) (by decide) rfl ?_)
    rintro _ rfl
    refine list_guard_y rfl rfl rfl rfl (by decide) rfl ?_
    refine id (op_q (by first | exact q_notd rfl (by decide) | exact q_not rfl (by decide)) ?_)
    refine list_cons rfl (op_q (q_pick rfl rfl (by decide)) ?_)
    refine list_nil ?_
    refine hK9 _ ?_; clear hK9 K9
    refine codeT.imp (σ' := [(0, .ext _), (2, .val (.bool _)), (3, .val (.int .i64 _)), (4, .own 1055 62 2 _ _), (5, .own 61 3 1 _ _), (6, .val (.bool _)), (7, .own 67 3 1 _ _), (8, .val (.bool _)), (78, .val (.bool _))]) ?_ (imp_covers ⟨rfl, rfl, rfl, rfl, rfl, rfl, rfl, rfl, rfl, trivial⟩)
    refine code_cond_d rfl (fun h3 => ?_) (fun h3 => ?_)
    · skip
      (try simp only [Decidable.not_not] at h3); (try have hg : GdP k fr := h3)
      exfalso
      first | exact absurd rfl h3 | exact h3 trivial | (simp at h3; done)
    (try simp only [Decidable.not_not] at h3); (try have hg : GdP k fr := h3)
    refine code_skip ?_
    refine hK7 _ ?_; clear hK7 K7
    refine code_seq (fun K10 hK10 => ?_)
    refine code_region ?_
    refine list_cons rfl (op_q (q_move rfl (by decide)) ?_)
    refine list_cons rfl (op_q (q_move rfl (by decide)) ?_)
    refine list_cons rfl (op_call _ (impl_IsFrame _ _ (by first | omega | (simp; omega))) rfl rfl (by decide) (by decide) (by decide) rfl ?_)
    rintro _ rfl
    refine list_cons rfl (op_q (q_move rfl (by decide)) ?_)
    refine list_cons rfl (op_q (q_extract rfl rfl (by decide)) ?_)
    refine list_cons rfl (op_q (q_extract rfl rfl (by decide)) ?_)
    refine list_cons rfl (op_q (q_assign rfl (by decide)) ?_)
    refine list_cons rfl (op_q (q_assign rfl (by decide)) ?_)
    refine list_nil ?_
    refine hK10 _ ?_; clear hK10 K10
    refine codeT.imp (σ' := [(0, .ext _), (2, .val (.bool _)), (3, .val (.int .i64 _)), (4, .own 1055 62 2 _ _), (5, .own 61 3 1 _ _), (6, .val (.bool _)), (7, .own 67 3 1 _ _), (8, .val (.bool _)), (9, .val (.bool _)), (10, .val (.bool _))]) ?_ (imp_covers ⟨rfl, rfl, rfl, rfl, rfl, rfl, rfl, rfl, rfl, rfl, trivial⟩)
    refine codeT.imp (σ' := [(0, .ext _), (2, .val (.bool _)), (3, .val (.int .i64 _)), (4, .own 1055 62 2 _ _), (5, .own 61 3 1 _ _), (6, .val (.bool _)), (9, .val (.bool _)), (10, .val (.bool _))]) ?_ (imp_covers ⟨rfl, rfl, rfl, rfl, rfl, rfl, rfl, rfl, trivial⟩)
    refine code_seq_same ?_ ?_
    · skip
      refine code_seq (fun K11 hK11 => ?_)
      refine code_region ?_
      refine list_cons rfl (op_q (q_move rfl (by decide)) ?_)
      refine list_cons rfl (op_q (q_move rfl (by decide)) ?_)
      refine list_cons rfl (op_call _ (spec_IsFrame _ _ (by first | omega | (simp; omega))) rfl rfl (by decide) (by decide) (by decide) rfl ?_)
      rintro _ rfl
      refine list_cons rfl (op_q (q_move rfl (by decide)) ?_)
      refine list_cons rfl (op_q (q_extract rfl rfl (by decide)) ?_)
      refine list_cons rfl (op_q (q_extract rfl rfl (by decide)) ?_)
      refine list_cons rfl (op_q (q_assign rfl (by decide)) ?_)
      refine list_cons rfl (op_q (q_assign rfl (by decide)) ?_)
      refine list_nil ?_
      refine hK11 _ ?_; clear hK11 K11
      refine codeT.imp (σ' := [(0, .ext _), (2, .val (.bool _)), (3, .val (.int .i64 _)), (4, .own 1055 62 2 _ _), (5, .own 61 3 1 _ _), (6, .val (.bool _)), (9, .val (.bool _)), (10, .val (.bool _)), (11, .val (.bool _)), (12, .val (.bool _))]) ?_ (imp_covers ⟨rfl, rfl, rfl, rfl, rfl, rfl, rfl, rfl, rfl, rfl, trivial⟩)
      refine code_seq (fun K12 hK12 => ?_)
      refine code_region ?_
      refine list_cons rfl (op_q (q_move rfl (by decide)) ?_)
      refine list_cons rfl (op_q (q_move rfl (by decide)) ?_)
      refine list_cons rfl (op_q (q_bne Try.underlying4 rfl rfl (by decide)) ?_)
      refine list_cons rfl (op_q (q_move rfl (by decide)) ?_)
      refine list_guard_d rfl rfl rfl rfl (by decide) rfl (by decide) (fun h4 => ?_) (fun h4 => ?_)
      · simp only [Bool.false_eq_true, if_true, if_false, Decidable.not_not] at h4
        (try simp only [Decidable.not_not] at h4); (try have hg : GdP k fr := h4)
        refine id (op_q (q_move rfl (by decide)) ?_)
        refine list_guard_y rfl rfl rfl rfl (by decide) rfl ?_
        refine id (op_q (q_move rfl (by decide)) ?_)
        refine list_guard_y rfl rfl rfl rfl (by decide) rfl ?_
        refine id (op_q (q_bne Try.underlying4 rfl rfl (by decide)) ?_)
        refine list_cons rfl (op_q (q_pick rfl rfl (by decide)) ?_)
        refine list_cons rfl (op_q (q_move rfl (by decide)) ?_)
        refine list_guard_d rfl rfl rfl rfl (by decide) rfl (by decide) (fun h5 => ?_) (fun h5 => ?_)
        · simp only [Bool.false_eq_true, if_true, if_false, Decidable.not_not] at h5
          (try simp only [Decidable.not_not] at h5); (try have hg : GdP k fr := h5)
          refine id (op_q (q_move rfl (by decide)) ?_)
          refine list_guard_y rfl rfl rfl rfl (by decide) rfl ?_
          refine id (op_q (q_move rfl (by decide)) ?_)
          refine list_guard_y rfl rfl rfl rfl (by decide) rfl ?_
          refine id (op_q (q_move rfl (by decide)) ?_)
          refine list_guard_d rfl rfl rfl rfl (by decide) rfl (by decide) (fun h6 => ?_) (fun h6 => ?_)
          · simp only [Bool.false_eq_true, if_true, if_false, Decidable.not_not] at h6
            (try simp only [Decidable.not_not] at h6); (try have hg : GdP k fr := h6)
            refine id (op_q (q_move rfl (by decide)) ?_)
            refine list_guard_y rfl rfl rfl rfl (by decide) rfl ?_
            refine id (op_q (q_pick rfl rfl (by decide)) ?_)
            refine list_guard_y rfl rfl rfl rfl (by decide) rfl ?_
            refine id (op_q (q_bne Try.underlying4 rfl rfl (by decide)) ?_)
            refine list_cons rfl (op_q (q_pick rfl rfl (by decide)) ?_)
            refine list_nil ?_
            refine hK12 _ ?_; clear hK12 K12
            refine codeT.imp (σ' := [(0, .ext _), (2, .val (.bool _)), (3, .val (.int .i64 _)), (4, .own 1055 62 2 _ _), (5, .own 61 3 1 _ _), (6, .val (.bool _)), (9, .val (.bool _)), (10, .val (.bool _)), (11, .val (.bool _)), (12, .val (.bool _)), (106, .val (.bool _))]) ?_ (imp_covers ⟨rfl, rfl, rfl, rfl, rfl, rfl, rfl, rfl, rfl, rfl, rfl, trivial⟩)
            refine code_cond_d rfl (fun h7 => ?_) (fun h7 => ?_)
            · skip
              (try simp only [Decidable.not_not] at h7); (try have hg : GdP k fr := h7)
              exfalso
              first | exact absurd rfl h7 | exact h7 (decide_eq_false fun z : GdP k fr => absurd z.1 (by assumption))
            (try simp only [Decidable.not_not] at h7); (try have hg : GdP k fr := h7)
            refine code_skip ?_
            exact then_n (imp_covers ⟨rfl, rfl, rfl, rfl, rfl, rfl, rfl, rfl, trivial⟩)
          simp only [Bool.false_eq_true, if_true, if_false, Decidable.not_not] at h6
          (try simp only [Decidable.not_not] at h6); (try have hg : GdP k fr := h6)
          refine list_guard_y rfl rfl rfl rfl (by decide) rfl ?_
          refine id (op_q (q_pick rfl rfl (by decide)) ?_)
          refine list_guard_y rfl rfl rfl rfl (by decide) rfl ?_
          refine id (op_q (q_bne Try.underlying4 rfl rfl (by decide)) ?_)
          refine list_cons rfl (op_q (q_pick rfl rfl (by decide)) ?_)
          refine list_nil ?_
          refine hK12 _ ?_; clear hK12 K12
          refine codeT.imp (σ' := [(0, .ext _), (2, .val (.bool _)), (3, .val (.int .i64 _)), (4, .own 1055 62 2 _ _), (5, .own 61 3 1 _ _), (6, .val (.bool _)), (9, .val (.bool _)), (10, .val (.bool _)), (11, .val (.bool _)), (12, .val (.bool _)), (106, .val (.bool _))]) ?_ (imp_covers ⟨rfl, rfl, rfl, rfl, rfl, rfl, rfl, rfl, rfl, rfl, rfl, trivial⟩)
          refine code_cond_d rfl (fun h8 => ?_) (fun h8 => ?_)
          · skip
            (try simp only [Decidable.not_not] at h8); (try have hg : GdP k fr := h8)
            exfalso
            first | exact absurd rfl h8 | exact h8 (decide_eq_false fun z : GdP k fr => absurd z.1 (by assumption))
          (try simp only [Decidable.not_not] at h8); (try have hg : GdP k fr := h8)
          refine code_skip ?_
          exact then_n (imp_covers ⟨rfl, rfl, rfl, rfl, rfl, rfl, rfl, rfl, trivial⟩)
        simp only [Bool.false_eq_true, if_true, if_false, Decidable.not_not] at h5
        (try simp only [Decidable.not_not] at h5); (try have hg : GdP k fr := h5)
        exfalso
        first | exact absurd rfl h5 | exact h5 trivial | (simp at h5; done)
      simp only [Bool.false_eq_true, if_true, if_false, Decidable.not_not] at h4
      (try simp only [Decidable.not_not] at h4); (try have hg : GdP k fr := h4)
      exfalso
      first | exact absurd rfl h4 | exact h4 trivial | (simp at h4; done)
    refine code_seq (fun K13 hK13 => ?_)
    refine code_region ?_
    refine list_cons rfl (op_q (q_move rfl (by decide)) ?_)
    refine list_cons rfl (op_q (q_move rfl (by decide)) ?_)
    refine list_cons rfl (op_call _ (impl_DutyOf _ _ (by first | omega | (simp; omega))) rfl rfl (by decide) (by decide) (by decide) rfl ?_)
    rintro _ rfl
    refine list_cons rfl (op_q (q_move rfl (by decide)) ?_)
    refine list_cons rfl (op_q (q_extract rfl rfl (by decide)) ?_)
    refine list_cons rfl (op_q (q_extract rfl rfl (by decide)) ?_)
    refine list_cons rfl (op_q (q_assign rfl (by decide)) ?_)
    refine list_cons rfl (op_q (q_assign rfl (by decide)) ?_)
    refine list_nil ?_
    refine hK13 _ ?_; clear hK13 K13
    refine codeT.imp (σ' := [(0, .ext _), (2, .val (.bool _)), (3, .val (.int .i64 _)), (4, .own 1055 62 2 _ _), (5, .own 61 3 1 _ _), (6, .val (.bool _)), (9, .val (.bool _)), (10, .val (.bool _)), (13, .own 110 47 7 _ _), (14, .val (.bool _))]) ?_ (imp_covers ⟨rfl, rfl, rfl, rfl, rfl, rfl, rfl, rfl, rfl, rfl, trivial⟩)
    refine code_seq (fun K14 hK14 => ?_)
    refine code_seq (fun K15 hK15 => ?_)
    refine code_region ?_
    refine list_cons rfl (op_q (q_move rfl (by decide)) ?_)
    refine list_cons rfl (op_q (q_move rfl (by decide)) ?_)
    refine list_cons rfl (op_call _ (spec_DutyOf _ _ (by first | omega | (simp; omega))) rfl rfl (by decide) (by decide) (by decide) rfl ?_)
    rintro _ rfl
    refine list_cons rfl (op_q (q_move rfl (by decide)) ?_)
    refine list_cons rfl (op_q (q_extract rfl rfl (by decide)) ?_)
    refine list_cons rfl (op_q (q_extract rfl rfl (by decide)) ?_)
    refine list_cons rfl (op_q (q_assign rfl (by decide)) ?_)
    refine list_cons rfl (op_q (q_assign rfl (by decide)) ?_)
    refine list_nil ?_
    refine hK15 _ ?_; clear hK15 K15
    refine codeT.imp (σ' := [(0, .ext _), (2, .val (.bool _)), (3, .val (.int .i64 _)), (4, .own 1055 62 2 _ _), (5, .own 61 3 1 _ _), (6, .val (.bool _)), (9, .val (.bool _)), (10, .val (.bool _)), (13, .own 110 47 7 _ _), (14, .val (.bool _)), (15, .own 116 47 7 _ _), (16, .val (.bool _))]) ?_ (imp_covers ⟨rfl, rfl, rfl, rfl, rfl, rfl, rfl, rfl, rfl, rfl, rfl, rfl, trivial⟩)
    refine code_seq (fun K16 hK16 => ?_)
    refine code_region ?_
    refine list_cons rfl (op_q (q_move rfl (by decide)) ?_)
    refine list_cons rfl (op_q (q_move rfl (by decide)) ?_)
    refine list_cons rfl (op_q (q_bne Try.underlying4 rfl rfl (by decide)) ?_)
    refine list_cons rfl (op_q (q_move rfl (by decide)) ?_)
    refine list_guard_d rfl rfl rfl rfl (by decide) rfl (by decide) (fun h9 => ?_) (fun h9 => ?_)
    · simp only [Bool.false_eq_true, if_true, if_false, Decidable.not_not] at h9
      (try simp only [Decidable.not_not] at h9); (try have hg : GdP k fr := h9)
      refine id (op_q (q_move rfl (by decide)) ?_)
      refine list_guard_y rfl rfl rfl rfl (by decide) rfl ?_
      refine id (op_q (q_move rfl (by decide)) ?_)
      refine list_guard_y rfl rfl rfl rfl (by decide) rfl ?_
      refine id (op_q (q_bne Try.underlying4 rfl rfl (by decide)) ?_)
      refine list_cons rfl (op_q (q_pick rfl rfl (by decide)) ?_)
      refine list_cons rfl (op_q (q_move rfl (by decide)) ?_)
      refine list_guard_d rfl rfl rfl rfl (by decide) rfl (by decide) (fun h10 => ?_) (fun h10 => ?_)
      · simp only [Bool.false_eq_true, if_true, if_false, Decidable.not_not] at h10
        (try simp only [Decidable.not_not] at h10); (try have hg : GdP k fr := h10)
        refine id (op_q (q_move rfl (by decide)) ?_)
        refine list_guard_y rfl rfl rfl rfl (by decide) rfl ?_
        refine id (op_q (q_move rfl (by decide)) ?_)
        refine list_guard_y rfl rfl rfl rfl (by decide) rfl ?_
        refine id (op_call _ (rSevens_c _ _ (duI_len _ _) (by have := duI_le k fr; omega)) rfl rfl (by decide) (by decide) (by decide) rfl ?_)
        rintro _ rfl
        refine list_guard_y rfl rfl rfl rfl (by decide) rfl ?_
        refine id (op_q (by first | exact q_notd rfl (by decide) | exact q_not rfl (by decide)) ?_)
        refine list_cons rfl (op_q (q_pick rfl rfl (by decide)) ?_)
        refine list_nil ?_
        refine hK16 _ ?_; clear hK16 K16
        refine codeT.imp (σ' := [(0, .ext _), (2, .val (.bool _)), (3, .val (.int .i64 _)), (4, .own 1055 62 2 _ _), (5, .own 61 3 1 _ _), (6, .val (.bool _)), (9, .val (.bool _)), (10, .val (.bool _)), (13, .own 110 47 7 _ _), (14, .val (.bool _)), (15, .own 116 47 7 _ _), (16, .val (.bool _)), (132, .val (.bool _))]) ?_ (imp_covers ⟨rfl, rfl, rfl, rfl, rfl, rfl, rfl, rfl, rfl, rfl, rfl, rfl, rfl, trivial⟩)
        refine code_cond_f rfl ?_
        refine code_skip ?_
        refine hK14 _ ?_; clear hK14 K14
        refine code_seq (fun K17 hK17 => ?_)
        refine code_region ?_
        refine list_cons rfl (op_q (q_move rfl (by decide)) ?_)
        refine list_cons rfl (op_q (q_move rfl (by decide)) ?_)
        refine list_cons rfl (op_call _ (impl_GhostsOf _ _ (by first | omega | (simp; omega))) rfl rfl (by decide) (by decide) (by decide) rfl ?_)
        rintro _ rfl
        refine list_cons rfl (op_q (q_move rfl (by decide)) ?_)
        refine list_cons rfl (op_q (q_extract rfl rfl (by decide)) ?_)
        refine list_cons rfl (op_q (q_extract rfl rfl (by decide)) ?_)
        refine list_cons rfl (op_q (q_assign rfl (by decide)) ?_)
        refine list_cons rfl (op_q (q_assign rfl (by decide)) ?_)
        refine list_nil ?_
        refine hK17 _ ?_; clear hK17 K17
        refine codeT.imp (σ' := [(0, .ext _), (2, .val (.bool _)), (3, .val (.int .i64 _)), (4, .own 1055 62 2 _ _), (5, .own 61 3 1 _ _), (6, .val (.bool _)), (9, .val (.bool _)), (10, .val (.bool _)), (13, .own 110 47 7 _ _), (14, .val (.bool _)), (15, .own 116 47 7 _ _), (16, .val (.bool _)), (17, .own 136 3 1 _ _), (18, .val (.bool _))]) ?_ (imp_covers ⟨rfl, rfl, rfl, rfl, rfl, rfl, rfl, rfl, rfl, rfl, rfl, rfl, rfl, rfl, trivial⟩)
        refine code_seq (fun K18 hK18 => ?_)
        refine code_seq (fun K19 hK19 => ?_)
        refine code_region ?_
        refine list_cons rfl (op_q (q_move rfl (by decide)) ?_)
        refine list_cons rfl (op_q (q_move rfl (by decide)) ?_)
        refine list_cons rfl (op_call _ (spec_GhostsOf _ _ (by first | omega | (simp; omega))) rfl rfl (by decide) (by decide) (by decide) rfl ?_)
        rintro _ rfl
        refine list_cons rfl (op_q (q_move rfl (by decide)) ?_)
        refine list_cons rfl (op_q (q_extract rfl rfl (by decide)) ?_)
        refine list_cons rfl (op_q (q_extract rfl rfl (by decide)) ?_)
        refine list_cons rfl (op_q (q_assign rfl (by decide)) ?_)
        refine list_cons rfl (op_q (q_assign rfl (by decide)) ?_)
        refine list_nil ?_
        refine hK19 _ ?_; clear hK19 K19
        refine codeT.imp (σ' := [(0, .ext _), (2, .val (.bool _)), (3, .val (.int .i64 _)), (4, .own 1055 62 2 _ _), (5, .own 61 3 1 _ _), (6, .val (.bool _)), (9, .val (.bool _)), (10, .val (.bool _)), (13, .own 110 47 7 _ _), (14, .val (.bool _)), (15, .own 116 47 7 _ _), (16, .val (.bool _)), (17, .own 136 3 1 _ _), (18, .val (.bool _)), (19, .own 142 3 1 _ _), (20, .val (.bool _))]) ?_ (imp_covers ⟨rfl, rfl, rfl, rfl, rfl, rfl, rfl, rfl, rfl, rfl, rfl, rfl, rfl, rfl, rfl, rfl, trivial⟩)
        refine code_seq (fun K20 hK20 => ?_)
        refine code_region ?_
        refine list_cons rfl (op_q (q_move rfl (by decide)) ?_)
        refine list_cons rfl (op_q (q_move rfl (by decide)) ?_)
        refine list_cons rfl (op_q (q_bne Try.underlying4 rfl rfl (by decide)) ?_)
        refine list_cons rfl (op_q (q_move rfl (by decide)) ?_)
        refine list_guard_d rfl rfl rfl rfl (by decide) rfl (by decide) (fun h11 => ?_) (fun h11 => ?_)
        · simp only [Bool.false_eq_true, if_true, if_false, Decidable.not_not] at h11
          (try simp only [Decidable.not_not] at h11); (try have hg : GdP k fr := h11)
          refine id (op_q (q_move rfl (by decide)) ?_)
          refine list_guard_y rfl rfl rfl rfl (by decide) rfl ?_
          refine id (op_q (q_move rfl (by decide)) ?_)
          refine list_guard_y rfl rfl rfl rfl (by decide) rfl ?_
          refine id (op_q (q_bne Try.underlying4 rfl rfl (by decide)) ?_)
          refine list_cons rfl (op_q (q_pick rfl rfl (by decide)) ?_)
          refine list_cons rfl (op_q (q_move rfl (by decide)) ?_)
          refine list_guard_d rfl rfl rfl rfl (by decide) rfl (by decide) (fun h12 => ?_) (fun h12 => ?_)
          · simp only [Bool.false_eq_true, if_true, if_false, Decidable.not_not] at h12
            (try simp only [Decidable.not_not] at h12); (try have hg : GdP k fr := h12)
            refine id (op_q (q_move rfl (by decide)) ?_)
            refine list_guard_y rfl rfl rfl rfl (by decide) rfl ?_
            refine id (op_q (q_move rfl (by decide)) ?_)
            refine list_guard_y rfl rfl rfl rfl (by decide) rfl ?_
            refine id (op_call _ (rInts_c _ _ (by first | omega | exact Nat.le_trans (SeI_len _ _) (by decide) | exact Nat.le_trans (GhI_len _ _) (by decide) | exact Nat.le_trans (BkF_len _ _) (by decide) | exact Nat.le_trans (PlF_len _) (by decide) | (simp; omega))) rfl rfl (by decide) (by decide) (by decide) rfl ?_)
            rintro _ rfl
            refine list_guard_y rfl rfl rfl rfl (by decide) rfl ?_
            refine id (op_q (by first | exact q_notd rfl (by decide) | exact q_not rfl (by decide)) ?_)
            refine list_cons rfl (op_q (q_pick rfl rfl (by decide)) ?_)
            refine list_nil ?_
            refine hK20 _ ?_; clear hK20 K20
            refine codeT.imp (σ' := [(0, .ext _), (2, .val (.bool _)), (3, .val (.int .i64 _)), (4, .own 1055 62 2 _ _), (5, .own 61 3 1 _ _), (6, .val (.bool _)), (9, .val (.bool _)), (10, .val (.bool _)), (13, .own 110 47 7 _ _), (14, .val (.bool _)), (15, .own 116 47 7 _ _), (16, .val (.bool _)), (17, .own 136 3 1 _ _), (18, .val (.bool _)), (19, .own 142 3 1 _ _), (20, .val (.bool _)), (158, .val (.bool _))]) ?_ (imp_covers ⟨rfl, rfl, rfl, rfl, rfl, rfl, rfl, rfl, rfl, rfl, rfl, rfl, rfl, rfl, rfl, rfl, rfl, trivial⟩)
            refine code_cond_d rfl (fun h13 => ?_) (fun h13 => ?_)
            · skip
              (try simp only [Decidable.not_not] at h13); (try have hg : GdP k fr := h13)
              exfalso
              first | exact absurd rfl h13 | exact h13 trivial | (simp at h13; done)
            (try simp only [Decidable.not_not] at h13); (try have hg : GdP k fr := h13)
            refine code_skip ?_
            refine hK18 _ ?_; clear hK18 K18
            refine code_seq (fun K21 hK21 => ?_)
            refine code_region ?_
            refine list_cons rfl (op_q (q_move rfl (by decide)) ?_)
            refine list_cons rfl (op_q (q_move rfl (by decide)) ?_)
            refine list_cons rfl (op_call _ (impl_WithBlanks _ _ (by first | omega | (simp; omega))) rfl rfl (by decide) (by decide) (by decide) rfl ?_)
            rintro _ rfl
            refine list_cons rfl (op_q (q_move rfl (by decide)) ?_)
            refine list_cons rfl (op_q (q_extract rfl rfl (by decide)) ?_)
            refine list_cons rfl (op_q (q_extract rfl rfl (by decide)) ?_)
            refine list_cons rfl (op_q (q_assign rfl (by decide)) ?_)
            refine list_cons rfl (op_q (q_assign rfl (by decide)) ?_)
            refine list_nil ?_
            refine hK21 _ ?_; clear hK21 K21
            refine codeT.imp (σ' := [(0, .ext _), (2, .val (.bool _)), (3, .val (.int .i64 _)), (4, .own 1055 62 2 _ _), (5, .own 61 3 1 _ _), (6, .val (.bool _)), (9, .val (.bool _)), (10, .val (.bool _)), (13, .own 110 47 7 _ _), (14, .val (.bool _)), (15, .own 116 47 7 _ _), (16, .val (.bool _)), (17, .own 136 3 1 _ _), (18, .val (.bool _)), (19, .own 142 3 1 _ _), (20, .val (.bool _)), (21, .own 162 62 2 _ _), (22, .val (.bool _))]) ?_ (imp_covers ⟨rfl, rfl, rfl, rfl, rfl, rfl, rfl, rfl, rfl, rfl, rfl, rfl, rfl, rfl, rfl, rfl, rfl, rfl, trivial⟩)
            refine code_seq (fun K22 hK22 => ?_)
            refine code_seq (fun K23 hK23 => ?_)
            refine code_region ?_
            refine list_cons rfl (op_q (q_move rfl (by decide)) ?_)
            refine list_cons rfl (op_q (q_move rfl (by decide)) ?_)
            refine list_cons rfl (op_call _ (spec_WithBlanks _ _ (by first | omega | (simp; omega))) rfl rfl (by decide) (by decide) (by decide) rfl ?_)
            rintro _ rfl
            refine list_cons rfl (op_q (q_move rfl (by decide)) ?_)
            refine list_cons rfl (op_q (q_extract rfl rfl (by decide)) ?_)
            refine list_cons rfl (op_q (q_extract rfl rfl (by decide)) ?_)
            refine list_cons rfl (op_q (q_assign rfl (by decide)) ?_)
            refine list_cons rfl (op_q (q_assign rfl (by decide)) ?_)
            refine list_nil ?_
            refine hK23 _ ?_; clear hK23 K23
            refine codeT.imp (σ' := [(0, .ext _), (2, .val (.bool _)), (3, .val (.int .i64 _)), (4, .own 1055 62 2 _ _), (5, .own 61 3 1 _ _), (6, .val (.bool _)), (9, .val (.bool _)), (10, .val (.bool _)), (13, .own 110 47 7 _ _), (14, .val (.bool _)), (15, .own 116 47 7 _ _), (16, .val (.bool _)), (17, .own 136 3 1 _ _), (18, .val (.bool _)), (19, .own 142 3 1 _ _), (20, .val (.bool _)), (21, .own 162 62 2 _ _), (22, .val (.bool _)), (23, .own 168 62 2 _ _), (24, .val (.bool _))]) ?_ (imp_covers ⟨rfl, rfl, rfl, rfl, rfl, rfl, rfl, rfl, rfl, rfl, rfl, rfl, rfl, rfl, rfl, rfl, rfl, rfl, rfl, rfl, trivial⟩)
            refine code_seq (fun K24 hK24 => ?_)
            refine code_region ?_
            refine list_cons rfl (op_q (q_move rfl (by decide)) ?_)
            refine list_cons rfl (op_q (q_move rfl (by decide)) ?_)
            refine list_cons rfl (op_q (q_bne Try.underlying4 rfl rfl (by decide)) ?_)
            refine list_cons rfl (op_q (q_move rfl (by decide)) ?_)
            refine list_guard_d rfl rfl rfl rfl (by decide) rfl (by decide) (fun h14 => ?_) (fun h14 => ?_)
            · simp only [Bool.false_eq_true, if_true, if_false, Decidable.not_not] at h14
              (try simp only [Decidable.not_not] at h14); (try have hg : GdP k fr := h14)
              refine id (op_q (q_move rfl (by decide)) ?_)
              refine list_guard_y rfl rfl rfl rfl (by decide) rfl ?_
              refine id (op_q (q_move rfl (by decide)) ?_)
              refine list_guard_y rfl rfl rfl rfl (by decide) rfl ?_
              refine id (op_call _ (rSlots_c _ _ (by first | omega | exact Nat.le_trans (SeI_len _ _) (by decide) | exact Nat.le_trans (GhI_len _ _) (by decide) | exact Nat.le_trans (BkF_len _ _) (by decide) | exact Nat.le_trans (PlF_len _) (by decide) | (simp; omega))) rfl rfl (by decide) (by decide) (by decide) rfl ?_)
              rintro _ rfl
              refine list_guard_y rfl rfl rfl rfl (by decide) rfl ?_
              refine id (op_q (by first | exact q_notd rfl (by decide) | exact q_not rfl (by decide)) ?_)
              refine list_cons rfl (op_q (q_pick rfl rfl (by decide)) ?_)
              refine list_nil ?_
              refine hK24 _ ?_; clear hK24 K24
              refine codeT.imp (σ' := [(0, .ext _), (2, .val (.bool _)), (3, .val (.int .i64 _)), (4, .own 1055 62 2 _ _), (5, .own 61 3 1 _ _), (6, .val (.bool _)), (9, .val (.bool _)), (10, .val (.bool _)), (13, .own 110 47 7 _ _), (14, .val (.bool _)), (15, .own 116 47 7 _ _), (16, .val (.bool _)), (17, .own 136 3 1 _ _), (18, .val (.bool _)), (19, .own 142 3 1 _ _), (20, .val (.bool _)), (21, .own 162 62 2 _ _), (22, .val (.bool _)), (23, .own 168 62 2 _ _), (24, .val (.bool _)), (179, .val (.bool _))]) ?_ (imp_covers ⟨rfl, rfl, rfl, rfl, rfl, rfl, rfl, rfl, rfl, rfl, rfl, rfl, rfl, rfl, rfl, rfl, rfl, rfl, rfl, rfl, rfl, trivial⟩)
              refine code_cond_d rfl (fun h15 => ?_) (fun h15 => ?_)
              · skip
                (try simp only [Decidable.not_not] at h15); (try have hg : GdP k fr := h15)
                exfalso
                first | exact absurd rfl h15 | exact h15 trivial | (simp at h15; done)
              (try simp only [Decidable.not_not] at h15); (try have hg : GdP k fr := h15)
              refine code_skip ?_
              refine hK22 _ ?_; clear hK22 K22
              refine code_seq (fun K25 hK25 => ?_)
              refine code_region ?_
              refine list_cons rfl (op_q (q_move rfl (by decide)) ?_)
              refine list_cons rfl (op_callM (DrawPlainFrame_c _ ?_) (.tmp 0) 0 [] [.tmp 180] _ rfl rfl (by intro y hy; cases hy) (by decide) (by decide) (by decide) rfl (by intro h; cases h) ?_)
              · first | assumption | omega | (simp; omega)
              rintro _ _ ⟨r, hr1, rfl⟩
              refine list_cons rfl (op_q (q_assign rfl (by decide)) ?_)
              refine list_nil ?_
              refine hK25 _ ?_; clear hK25 K25
              refine codeT.imp (σ' := [(0, .ext _), (2, .val (.bool _)), (3, .val (.int .i64 _)), (4, .own 1055 62 2 _ _), (5, .own 61 3 1 _ _), (6, .val (.bool _)), (9, .val (.bool _)), (10, .val (.bool _)), (13, .own 110 47 7 _ _), (14, .val (.bool _)), (15, .own 116 47 7 _ _), (16, .val (.bool _)), (17, .own 136 3 1 _ _), (18, .val (.bool _)), (19, .own 142 3 1 _ _), (20, .val (.bool _)), (21, .own 162 62 2 _ _), (22, .val (.bool _)), (23, .own 168 62 2 _ _), (24, .val (.bool _)), (25, .own 181 3 1 _ _)]) ?_ (imp_covers ⟨rfl, rfl, rfl, rfl, rfl, rfl, rfl, rfl, rfl, rfl, rfl, rfl, rfl, rfl, rfl, rfl, rfl, rfl, rfl, rfl, rfl, trivial⟩)
              refine code_seq (fun K26 hK26 => ?_)
              refine code_region ?_
              refine list_cons rfl (op_q (q_move rfl (by decide)) ?_)
              refine list_cons rfl (op_call _ (impl_PlainFrame _ (by first | omega | (simp; omega))) rfl rfl (by decide) (by decide) (by decide) rfl ?_)
              rintro _ rfl
              refine list_cons rfl (op_q (q_move rfl (by decide)) ?_)
              refine list_cons rfl (op_q (q_extract rfl rfl (by decide)) ?_)
              refine list_cons rfl (op_q (q_extract rfl rfl (by decide)) ?_)
              refine list_cons rfl (op_q (q_assign rfl (by decide)) ?_)
              refine list_cons rfl (op_q (q_assign rfl (by decide)) ?_)
              refine list_nil ?_
              refine hK26 _ ?_; clear hK26 K26
              refine codeT.imp (σ' := [(0, .ext _), (2, .val (.bool _)), (3, .val (.int .i64 _)), (4, .own 1055 62 2 _ _), (5, .own 61 3 1 _ _), (6, .val (.bool _)), (9, .val (.bool _)), (10, .val (.bool _)), (13, .own 110 47 7 _ _), (14, .val (.bool _)), (15, .own 116 47 7 _ _), (16, .val (.bool _)), (17, .own 136 3 1 _ _), (18, .val (.bool _)), (19, .own 142 3 1 _ _), (20, .val (.bool _)), (21, .own 162 62 2 _ _), (22, .val (.bool _)), (23, .own 168 62 2 _ _), (24, .val (.bool _)), (25, .own 181 3 1 _ _), (26, .own 184 62 2 _ _), (27, .val (.bool _))]) ?_ (imp_covers ⟨rfl, rfl, rfl, rfl, rfl, rfl, rfl, rfl, rfl, rfl, rfl, rfl, rfl, rfl, rfl, rfl, rfl, rfl, rfl, rfl, rfl, rfl, rfl, trivial⟩)
              refine code_seq (fun K27 hK27 => ?_)
              refine code_seq (fun K28 hK28 => ?_)
              refine code_region ?_
              refine list_cons rfl (op_q (q_move rfl (by decide)) ?_)
              refine list_cons rfl (op_call _ (spec_PlainFrame _ (by first | omega | (simp; omega))) rfl rfl (by decide) (by decide) (by decide) rfl ?_)
              rintro _ rfl
              refine list_cons rfl (op_q (q_move rfl (by decide)) ?_)
              refine list_cons rfl (op_q (q_extract rfl rfl (by decide)) ?_)
              refine list_cons rfl (op_q (q_extract rfl rfl (by decide)) ?_)
              refine list_cons rfl (op_q (q_assign rfl (by decide)) ?_)
              refine list_cons rfl (op_q (q_assign rfl (by decide)) ?_)
              refine list_nil ?_
              refine hK28 _ ?_; clear hK28 K28
              refine codeT.imp (σ' := [(0, .ext _), (2, .val (.bool _)), (3, .val (.int .i64 _)), (4, .own 1055 62 2 _ _), (5, .own 61 3 1 _ _), (6, .val (.bool _)), (9, .val (.bool _)), (10, .val (.bool _)), (13, .own 110 47 7 _ _), (14, .val (.bool _)), (15, .own 116 47 7 _ _), (16, .val (.bool _)), (17, .own 136 3 1 _ _), (18, .val (.bool _)), (19, .own 142 3 1 _ _), (20, .val (.bool _)), (21, .own 162 62 2 _ _), (22, .val (.bool _)), (23, .own 168 62 2 _ _), (24, .val (.bool _)), (25, .own 181 3 1 _ _), (26, .own 184 62 2 _ _), (27, .val (.bool _)), (28, .own 189 62 2 _ _), (29, .val (.bool _))]) ?_ (imp_covers ⟨rfl, rfl, rfl, rfl, rfl, rfl, rfl, rfl, rfl, rfl, rfl, rfl, rfl, rfl, rfl, rfl, rfl, rfl, rfl, rfl, rfl, rfl, rfl, rfl, rfl, trivial⟩)
              refine code_seq (fun K29 hK29 => ?_)
              refine code_region ?_
              refine list_cons rfl (op_q (q_move rfl (by decide)) ?_)
              refine list_cons rfl (op_q (q_move rfl (by decide)) ?_)
              refine list_cons rfl (op_q (q_bne Try.underlying4 rfl rfl (by decide)) ?_)
              refine list_cons rfl (op_q (q_move rfl (by decide)) ?_)
              refine list_guard_d rfl rfl rfl rfl (by decide) rfl (by decide) (fun h16 => ?_) (fun h16 => ?_)
              · simp only [Bool.false_eq_true, if_true, if_false, Decidable.not_not] at h16
                (try simp only [Decidable.not_not] at h16); (try have hg : GdP k fr := h16)
                refine id (op_q (q_move rfl (by decide)) ?_)
                refine list_guard_y rfl rfl rfl rfl (by decide) rfl ?_
                refine id (op_q (q_move rfl (by decide)) ?_)
                refine list_guard_y rfl rfl rfl rfl (by decide) rfl ?_
                refine id (op_call _ (rSlots_c _ _ (by first | omega | exact Nat.le_trans (SeI_len _ _) (by decide) | exact Nat.le_trans (GhI_len _ _) (by decide) | exact Nat.le_trans (BkF_len _ _) (by decide) | exact Nat.le_trans (PlF_len _) (by decide) | (simp; omega))) rfl rfl (by decide) (by decide) (by decide) rfl ?_)
                rintro _ rfl
                refine list_guard_y rfl rfl rfl rfl (by decide) rfl ?_
                refine id (op_q (by first | exact q_notd rfl (by decide) | exact q_not rfl (by decide)) ?_)
                refine list_cons rfl (op_q (q_pick rfl rfl (by decide)) ?_)
                refine list_nil ?_
                refine hK29 _ ?_; clear hK29 K29
                refine codeT.imp (σ' := [(0, .ext _), (2, .val (.bool _)), (3, .val (.int .i64 _)), (4, .own 1055 62 2 _ _), (5, .own 61 3 1 _ _), (6, .val (.bool _)), (9, .val (.bool _)), (10, .val (.bool _)), (13, .own 110 47 7 _ _), (14, .val (.bool _)), (15, .own 116 47 7 _ _), (16, .val (.bool _)), (17, .own 136 3 1 _ _), (18, .val (.bool _)), (19, .own 142 3 1 _ _), (20, .val (.bool _)), (21, .own 162 62 2 _ _), (22, .val (.bool _)), (23, .own 168 62 2 _ _), (24, .val (.bool _)), (25, .own 181 3 1 _ _), (26, .own 184 62 2 _ _), (27, .val (.bool _)), (28, .own 189 62 2 _ _), (29, .val (.bool _)), (200, .val (.bool _))]) ?_ (imp_covers ⟨rfl, rfl, rfl, rfl, rfl, rfl, rfl, rfl, rfl, rfl, rfl, rfl, rfl, rfl, rfl, rfl, rfl, rfl, rfl, rfl, rfl, rfl, rfl, rfl, rfl, rfl, trivial⟩)
                refine code_cond_d rfl (fun h17 => ?_) (fun h17 => ?_)
                · skip
                  (try simp only [Decidable.not_not] at h17); (try have hg : GdP k fr := h17)
                  exfalso
                  first | exact absurd rfl h17 | exact h17 trivial | (simp at h17; done)
                (try simp only [Decidable.not_not] at h17); (try have hg : GdP k fr := h17)
                refine code_skip ?_
                refine hK27 _ ?_; clear hK27 K27
                refine code_seq (fun K30 hK30 => ?_)
                refine code_region ?_
                refine list_cons rfl (op_q (q_move rfl (by decide)) ?_)
                refine list_cons rfl (op_callM (DrawLeastSlots_c _ ?_) (.tmp 0) 0 [] [.tmp 201] _ rfl rfl (by intro y hy; cases hy) (by decide) (by decide) (by decide) rfl (by intro h; cases h) ?_)
                · first | assumption | omega | (simp; omega)
                rintro _ _ ⟨x, hx1, rfl⟩
                refine list_cons rfl (op_q (q_assign rfl (by decide)) ?_)
                refine list_nil ?_
                refine hK30 _ ?_; clear hK30 K30
                refine codeT.imp (σ' := [(0, .ext _), (2, .val (.bool _)), (3, .val (.int .i64 _)), (4, .own 1055 62 2 _ _), (5, .own 61 3 1 _ _), (6, .val (.bool _)), (9, .val (.bool _)), (10, .val (.bool _)), (13, .own 110 47 7 _ _), (14, .val (.bool _)), (15, .own 116 47 7 _ _), (16, .val (.bool _)), (17, .own 136 3 1 _ _), (18, .val (.bool _)), (19, .own 142 3 1 _ _), (20, .val (.bool _)), (21, .own 162 62 2 _ _), (22, .val (.bool _)), (23, .own 168 62 2 _ _), (24, .val (.bool _)), (25, .own 181 3 1 _ _), (26, .own 184 62 2 _ _), (27, .val (.bool _)), (28, .own 189 62 2 _ _), (29, .val (.bool _)), (30, .own 202 3 1 _ _)]) ?_ (imp_covers ⟨rfl, rfl, rfl, rfl, rfl, rfl, rfl, rfl, rfl, rfl, rfl, rfl, rfl, rfl, rfl, rfl, rfl, rfl, rfl, rfl, rfl, rfl, rfl, rfl, rfl, rfl, trivial⟩)
                refine code_seq (fun K31 hK31 => ?_)
                refine code_region ?_
                refine list_cons rfl (op_q (q_move rfl (by decide)) ?_)
                refine list_cons rfl (op_callM (impl_LeastSlotsD _ (by first | omega | (simp; omega))) (.tmp 0) 0 [] [.tmp 204] _ rfl rfl (by intro y hy; cases hy) (by decide) (by decide) (by decide) rfl (by intro h; cases h) ?_)
                rintro _ _ rfl
                refine list_cons rfl (op_q (q_move rfl (by decide)) ?_)
                refine list_cons rfl (op_q (q_extract rfl rfl (by decide)) ?_)
                refine list_cons rfl (op_q (q_extract rfl rfl (by decide)) ?_)
                refine list_cons rfl (op_q (q_assign rfl (by decide)) ?_)
                refine list_cons rfl (op_q (q_assign rfl (by decide)) ?_)
                refine list_nil ?_
                refine hK31 _ ?_; clear hK31 K31
                refine codeT.imp (σ' := [(0, .ext _), (2, .val (.bool _)), (3, .val (.int .i64 _)), (4, .own 1055 62 2 _ _), (5, .own 61 3 1 _ _), (6, .val (.bool _)), (9, .val (.bool _)), (10, .val (.bool _)), (13, .own 110 47 7 _ _), (14, .val (.bool _)), (15, .own 116 47 7 _ _), (16, .val (.bool _)), (17, .own 136 3 1 _ _), (18, .val (.bool _)), (19, .own 142 3 1 _ _), (20, .val (.bool _)), (21, .own 162 62 2 _ _), (22, .val (.bool _)), (23, .own 168 62 2 _ _), (24, .val (.bool _)), (25, .own 181 3 1 _ _), (26, .own 184 62 2 _ _), (27, .val (.bool _)), (28, .own 189 62 2 _ _), (29, .val (.bool _)), (30, .own 202 3 1 _ _), (31, .val (.int .i64 _)), (32, .val (.bool _))]) ?_ (imp_covers ⟨rfl, rfl, rfl, rfl, rfl, rfl, rfl, rfl, rfl, rfl, rfl, rfl, rfl, rfl, rfl, rfl, rfl, rfl, rfl, rfl, rfl, rfl, rfl, rfl, rfl, rfl, rfl, rfl, trivial⟩)
                refine code_seq (fun K32 hK32 => ?_)
                refine code_seq (fun K33 hK33 => ?_)
                refine code_region ?_
                refine list_cons rfl (op_q (q_move rfl (by decide)) ?_)
                refine list_cons rfl (op_call _ (spec_LeastSlotsD _ (by first | omega | (simp; omega))) rfl rfl (by decide) (by decide) (by decide) rfl ?_)
                rintro _ rfl
                refine list_cons rfl (op_q (q_move rfl (by decide)) ?_)
                refine list_cons rfl (op_q (q_extract rfl rfl (by decide)) ?_)
                refine list_cons rfl (op_q (q_extract rfl rfl (by decide)) ?_)
                refine list_cons rfl (op_q (q_assign rfl (by decide)) ?_)
                refine list_cons rfl (op_q (q_assign rfl (by decide)) ?_)
                refine list_nil ?_
                refine hK33 _ ?_; clear hK33 K33
                refine codeT.imp (σ' := ((0, .ext _) :: (2, .val (.bool _)) :: (3, .val (.int .i64 _)) :: (4, .own 1055 62 2 _ _) :: (5, .own 61 3 1 _ _) :: (6, .val (.bool _)) :: (9, .val (.bool _)) :: (10, .val (.bool _)) :: (13, .own 110 47 7 _ _) :: (14, .val (.bool _)) :: (15, .own 116 47 7 _ _) :: (16, .val (.bool _)) :: (17, .own 136 3 1 _ _) :: (18, .val (.bool _)) :: (19, .own 142 3 1 _ _) :: (20, .val (.bool _)) :: (21, .own 162 62 2 _ _) :: (22, .val (.bool _)) :: (23, .own 168 62 2 _ _) :: (24, .val (.bool _)) :: (25, .own 181 3 1 _ _) :: (26, .own 184 62 2 _ _) :: (27, .val (.bool _)) :: (28, .own 189 62 2 _ _) :: (29, .val (.bool _)) :: (30, .own 202 3 1 _ _) :: (31, .val (.int .i64 _)) :: (32, .val (.bool _)) :: (33, .val (.int .i64 _)) :: (34, .val (.bool _)) :: [])) ?_ (imp_covers ⟨rfl, rfl, rfl, rfl, rfl, rfl, rfl, rfl, rfl, rfl, rfl, rfl, rfl, rfl, rfl, rfl, rfl, rfl, rfl, rfl, rfl, rfl, rfl, rfl, rfl, rfl, rfl, rfl, rfl, rfl, trivial⟩)
                refine code_seq (fun K34 hK34 => ?_)
                refine code_region ?_
                refine list_cons rfl (op_q (q_move rfl (by decide)) ?_)
                refine list_cons rfl (op_q (q_move rfl (by decide)) ?_)
                refine list_cons rfl (op_q (q_ne rfl rfl (by decide)) ?_)
                refine list_cons rfl (op_q (q_move rfl (by decide)) ?_)
                refine list_guard_d rfl rfl rfl rfl (by decide) rfl (by decide) (fun h18 => ?_) (fun h18 => ?_)
                · simp only [Bool.false_eq_true, if_true, if_false, Decidable.not_not] at h18
                  (try simp only [Decidable.not_not] at h18); (try have hg : GdP k fr := h18)
                  refine id (op_q (q_move rfl (by decide)) ?_)
                  refine list_guard_y rfl rfl rfl rfl (by decide) rfl ?_
                  refine id (op_q (q_move rfl (by decide)) ?_)
                  refine list_guard_y rfl rfl rfl rfl (by decide) rfl ?_
                  refine id (op_q (q_bne Try.underlying4 rfl rfl (by decide)) ?_)
                  refine list_cons rfl (op_q (q_pick rfl rfl (by decide)) ?_)
                  refine list_nil ?_
                  refine hK34 _ ?_; clear hK34 K34
                  refine codeT.imp (σ' := ((0, .ext _) :: (2, .val (.bool _)) :: (3, .val (.int .i64 _)) :: (4, .own 1055 62 2 _ _) :: (5, .own 61 3 1 _ _) :: (6, .val (.bool _)) :: (9, .val (.bool _)) :: (10, .val (.bool _)) :: (13, .own 110 47 7 _ _) :: (14, .val (.bool _)) :: (15, .own 116 47 7 _ _) :: (16, .val (.bool _)) :: (17, .own 136 3 1 _ _) :: (18, .val (.bool _)) :: (19, .own 142 3 1 _ _) :: (20, .val (.bool _)) :: (21, .own 162 62 2 _ _) :: (22, .val (.bool _)) :: (23, .own 168 62 2 _ _) :: (24, .val (.bool _)) :: (25, .own 181 3 1 _ _) :: (26, .own 184 62 2 _ _) :: (27, .val (.bool _)) :: (28, .own 189 62 2 _ _) :: (29, .val (.bool _)) :: (30, .own 202 3 1 _ _) :: (31, .val (.int .i64 _)) :: (32, .val (.bool _)) :: (33, .val (.int .i64 _)) :: (34, .val (.bool _)) :: (220, .val (.bool _)) :: [])) ?_ (imp_covers ⟨rfl, rfl, rfl, rfl, rfl, rfl, rfl, rfl, rfl, rfl, rfl, rfl, rfl, rfl, rfl, rfl, rfl, rfl, rfl, rfl, rfl, rfl, rfl, rfl, rfl, rfl, rfl, rfl, rfl, rfl, rfl, trivial⟩)
                  refine code_cond_d rfl (fun h19 => ?_) (fun h19 => ?_)
                  · skip
                    (try simp only [Decidable.not_not] at h19); (try have hg : GdP k fr := h19)
                    exfalso
                    first | exact absurd rfl h19 | exact h19 trivial | (simp at h19; done)
                  (try simp only [Decidable.not_not] at h19); (try have hg : GdP k fr := h19)
                  refine code_skip ?_
                  refine hK32 _ ?_; clear hK32 K32
                  refine code_seq (fun K35 hK35 => ?_)
                  refine code_region ?_
                  refine list_cons rfl (op_q (q_move rfl (by decide)) ?_)
                  refine list_cons rfl (op_callM (DrawFullBars_c _ ?_) (.tmp 0) 0 [] [.tmp 222] _ rfl rfl (by intro y hy; cases hy) (by decide) (by decide) (by decide) rfl (by intro h; cases h) ?_)
                  · first | assumption | omega | (simp; omega)
                  rintro _ _ ⟨y, cells, hy1, rfl⟩
                  refine list_cons rfl (op_q (q_move rfl (by decide)) ?_)
                  refine list_cons rfl (op_q (q_extract rfl rfl (by decide)) ?_)
                  refine list_cons rfl (op_q (q_extract rfl rfl (by decide)) ?_)
                  refine list_cons rfl (op_q (q_assign rfl (by decide)) ?_)
                  refine list_cons rfl (op_q (q_assign rfl (by decide)) ?_)
                  refine list_nil ?_
                  refine hK35 _ ?_; clear hK35 K35
                  refine codeT.imp (σ' := ((0, .ext _) :: (2, .val (.bool _)) :: (3, .val (.int .i64 _)) :: (4, .own 1055 62 2 _ _) :: (5, .own 61 3 1 _ _) :: (6, .val (.bool _)) :: (9, .val (.bool _)) :: (10, .val (.bool _)) :: (13, .own 110 47 7 _ _) :: (14, .val (.bool _)) :: (15, .own 116 47 7 _ _) :: (16, .val (.bool _)) :: (17, .own 136 3 1 _ _) :: (18, .val (.bool _)) :: (19, .own 142 3 1 _ _) :: (20, .val (.bool _)) :: (21, .own 162 62 2 _ _) :: (22, .val (.bool _)) :: (23, .own 168 62 2 _ _) :: (24, .val (.bool _)) :: (25, .own 181 3 1 _ _) :: (26, .own 184 62 2 _ _) :: (27, .val (.bool _)) :: (28, .own 189 62 2 _ _) :: (29, .val (.bool _)) :: (30, .own 202 3 1 _ _) :: (31, .val (.int .i64 _)) :: (32, .val (.bool _)) :: (33, .val (.int .i64 _)) :: (34, .val (.bool _)) :: (35, .own 223 3 1 _ _) :: (36, .val (.int .i64 _)) :: [])) ?_ (imp_covers ⟨rfl, rfl, rfl, rfl, rfl, rfl, rfl, rfl, rfl, rfl, rfl, rfl, rfl, rfl, rfl, rfl, rfl, rfl, rfl, rfl, rfl, rfl, rfl, rfl, rfl, rfl, rfl, rfl, rfl, rfl, rfl, rfl, trivial⟩)
                  refine code_seq (fun K36 hK36 => ?_)
                  refine code_region ?_
                  refine list_cons rfl (op_q (q_move rfl (by decide)) ?_)
                  refine list_cons rfl (op_q (q_move rfl (by decide)) ?_)
                  refine list_cons rfl (op_callM (impl_FullBars _ _ (by first | omega | (simp; omega))) (.tmp 0) 0 [] [.tmp 227, .tmp 228] _ rfl rfl (by intro y hy; cases hy) (by decide) (by decide) (by decide) rfl (by intro h; cases h) ?_)
                  rintro _ _ rfl
                  refine list_cons rfl (op_q (q_move rfl (by decide)) ?_)
                  refine list_cons rfl (op_q (q_extract rfl rfl (by decide)) ?_)
                  refine list_cons rfl (op_q (q_extract rfl rfl (by decide)) ?_)
                  refine list_cons rfl (op_q (q_assign rfl (by decide)) ?_)
                  refine list_cons rfl (op_q (q_assign rfl (by decide)) ?_)
                  refine list_nil ?_
                  refine hK36 _ ?_; clear hK36 K36
                  refine codeT.imp (σ' := ((0, .ext _) :: (2, .val (.bool _)) :: (3, .val (.int .i64 _)) :: (4, .own 1055 62 2 _ _) :: (5, .own 61 3 1 _ _) :: (6, .val (.bool _)) :: (9, .val (.bool _)) :: (10, .val (.bool _)) :: (13, .own 110 47 7 _ _) :: (14, .val (.bool _)) :: (15, .own 116 47 7 _ _) :: (16, .val (.bool _)) :: (17, .own 136 3 1 _ _) :: (18, .val (.bool _)) :: (19, .own 142 3 1 _ _) :: (20, .val (.bool _)) :: (21, .own 162 62 2 _ _) :: (22, .val (.bool _)) :: (23, .own 168 62 2 _ _) :: (24, .val (.bool _)) :: (25, .own 181 3 1 _ _) :: (26, .own 184 62 2 _ _) :: (27, .val (.bool _)) :: (28, .own 189 62 2 _ _) :: (29, .val (.bool _)) :: (30, .own 202 3 1 _ _) :: (31, .val (.int .i64 _)) :: (32, .val (.bool _)) :: (33, .val (.int .i64 _)) :: (34, .val (.bool _)) :: (35, .own 223 3 1 _ _) :: (36, .val (.int .i64 _)) :: (37, .val (.int .i64 _)) :: (38, .val (.bool _)) :: [])) ?_ (imp_covers ⟨rfl, rfl, rfl, rfl, rfl, rfl, rfl, rfl, rfl, rfl, rfl, rfl, rfl, rfl, rfl, rfl, rfl, rfl, rfl, rfl, rfl, rfl, rfl, rfl, rfl, rfl, rfl, rfl, rfl, rfl, rfl, rfl, rfl, rfl, trivial⟩)
                  refine code_seq (fun K37 hK37 => ?_)
                  refine code_seq (fun K38 hK38 => ?_)
                  refine code_region ?_
                  refine list_cons rfl (op_q (q_move rfl (by decide)) ?_)
                  refine list_cons rfl (op_q (q_move rfl (by decide)) ?_)
                  refine list_cons rfl (op_call _ (spec_FullBars _ _ (by first | omega | (simp; omega))) rfl rfl (by decide) (by decide) (by decide) rfl ?_)
                  rintro _ rfl
                  refine list_cons rfl (op_q (q_move rfl (by decide)) ?_)
                  refine list_cons rfl (op_q (q_extract rfl rfl (by decide)) ?_)
                  refine list_cons rfl (op_q (q_extract rfl rfl (by decide)) ?_)
                  refine list_cons rfl (op_q (q_assign rfl (by decide)) ?_)
                  refine list_cons rfl (op_q (q_assign rfl (by decide)) ?_)
                  refine list_nil ?_
                  refine hK38 _ ?_; clear hK38 K38
                  refine codeT.imp (σ' := ((0, .ext _) :: (2, .val (.bool _)) :: (3, .val (.int .i64 _)) :: (4, .own 1055 62 2 _ _) :: (5, .own 61 3 1 _ _) :: (6, .val (.bool _)) :: (9, .val (.bool _)) :: (10, .val (.bool _)) :: (13, .own 110 47 7 _ _) :: (14, .val (.bool _)) :: (15, .own 116 47 7 _ _) :: (16, .val (.bool _)) :: (17, .own 136 3 1 _ _) :: (18, .val (.bool _)) :: (19, .own 142 3 1 _ _) :: (20, .val (.bool _)) :: (21, .own 162 62 2 _ _) :: (22, .val (.bool _)) :: (23, .own 168 62 2 _ _) :: (24, .val (.bool _)) :: (25, .own 181 3 1 _ _) :: (26, .own 184 62 2 _ _) :: (27, .val (.bool _)) :: (28, .own 189 62 2 _ _) :: (29, .val (.bool _)) :: (30, .own 202 3 1 _ _) :: (31, .val (.int .i64 _)) :: (32, .val (.bool _)) :: (33, .val (.int .i64 _)) :: (34, .val (.bool _)) :: (35, .own 223 3 1 _ _) :: (36, .val (.int .i64 _)) :: (37, .val (.int .i64 _)) :: (38, .val (.bool _)) :: (39, .val (.int .i64 _)) :: (40, .val (.bool _)) :: [])) ?_ (imp_covers ⟨rfl, rfl, rfl, rfl, rfl, rfl, rfl, rfl, rfl, rfl, rfl, rfl, rfl, rfl, rfl, rfl, rfl, rfl, rfl, rfl, rfl, rfl, rfl, rfl, rfl, rfl, rfl, rfl, rfl, rfl, rfl, rfl, rfl, rfl, rfl, rfl, trivial⟩)
                  refine code_seq (fun K39 hK39 => ?_)
                  refine code_region ?_
                  refine list_cons rfl (op_q (q_move rfl (by decide)) ?_)
                  refine list_cons rfl (op_q (q_move rfl (by decide)) ?_)
                  refine list_cons rfl (op_q (q_ne rfl rfl (by decide)) ?_)
                  refine list_cons rfl (op_q (q_move rfl (by decide)) ?_)
                  refine list_guard_d rfl rfl rfl rfl (by decide) rfl (by decide) (fun h20 => ?_) (fun h20 => ?_)
                  · simp only [Bool.false_eq_true, if_true, if_false, Decidable.not_not] at h20
                    (try simp only [Decidable.not_not] at h20); (try have hg : GdP k fr := h20)
                    refine id (op_q (q_move rfl (by decide)) ?_)
                    refine list_guard_y rfl rfl rfl rfl (by decide) rfl ?_
                    refine id (op_q (q_move rfl (by decide)) ?_)
                    refine list_guard_y rfl rfl rfl rfl (by decide) rfl ?_
                    refine id (op_q (q_bne Try.underlying4 rfl rfl (by decide)) ?_)
                    refine list_cons rfl (op_q (q_pick rfl rfl (by decide)) ?_)
                    refine list_nil ?_
                    refine hK39 _ ?_; clear hK39 K39
                    refine codeT.imp (σ' := ((0, .ext _) :: (2, .val (.bool _)) :: (3, .val (.int .i64 _)) :: (4, .own 1055 62 2 _ _) :: (5, .own 61 3 1 _ _) :: (6, .val (.bool _)) :: (9, .val (.bool _)) :: (10, .val (.bool _)) :: (13, .own 110 47 7 _ _) :: (14, .val (.bool _)) :: (15, .own 116 47 7 _ _) :: (16, .val (.bool _)) :: (17, .own 136 3 1 _ _) :: (18, .val (.bool _)) :: (19, .own 142 3 1 _ _) :: (20, .val (.bool _)) :: (21, .own 162 62 2 _ _) :: (22, .val (.bool _)) :: (23, .own 168 62 2 _ _) :: (24, .val (.bool _)) :: (25, .own 181 3 1 _ _) :: (26, .own 184 62 2 _ _) :: (27, .val (.bool _)) :: (28, .own 189 62 2 _ _) :: (29, .val (.bool _)) :: (30, .own 202 3 1 _ _) :: (31, .val (.int .i64 _)) :: (32, .val (.bool _)) :: (33, .val (.int .i64 _)) :: (34, .val (.bool _)) :: (35, .own 223 3 1 _ _) :: (36, .val (.int .i64 _)) :: (37, .val (.int .i64 _)) :: (38, .val (.bool _)) :: (39, .val (.int .i64 _)) :: (40, .val (.bool _)) :: (245, .val (.bool _)) :: [])) ?_ (imp_covers ⟨rfl, rfl, rfl, rfl, rfl, rfl, rfl, rfl, rfl, rfl, rfl, rfl, rfl, rfl, rfl, rfl, rfl, rfl, rfl, rfl, rfl, rfl, rfl, rfl, rfl, rfl, rfl, rfl, rfl, rfl, rfl, rfl, rfl, rfl, rfl, rfl, rfl, trivial⟩)
                    refine code_cond_d rfl (fun h21 => ?_) (fun h21 => ?_)
                    · skip
                      (try simp only [Decidable.not_not] at h21); (try have hg : GdP k fr := h21)
                      exfalso
                      first | exact absurd rfl h21 | exact h21 trivial | (simp at h21; done)
                    (try simp only [Decidable.not_not] at h21); (try have hg : GdP k fr := h21)
                    refine code_skip ?_
                    refine hK37 _ ?_; clear hK37 K37
                    refine codeT.imp (σ' := [(2, .val (.bool _)), (3, .val (.int .i64 _)), (5, .own 61 3 1 _ _), (6, .val (.bool _)), (13, .own 110 47 7 _ _), (17, .own 136 3 1 _ _), (21, .own 162 62 2 _ _), (22, .val (.bool _)), (25, .own 181 3 1 _ _), (26, .own 184 62 2 _ _), (27, .val (.bool _)), (30, .own 202 3 1 _ _), (31, .val (.int .i64 _)), (32, .val (.bool _))]) ?_ (imp_covers ⟨rfl, rfl, rfl, rfl, rfl, rfl, rfl, rfl, rfl, rfl, rfl, rfl, rfl, rfl, trivial⟩)
                    refine code_seq_same ?_ ?_
                    · skip
                      refine code_seq (fun K40 hK40 => ?_)
                      refine code_region ?_
                      refine list_cons rfl (op_q (q_move rfl (by decide)) ?_)
                      refine list_nil ?_
                      refine hK40 _ ?_; clear hK40 K40
                      refine code_cond_d rfl (fun h22 => ?_) (fun h22 => ?_)
                      · skip
                        (try simp only [Decidable.not_not] at h22); (try have hg : GdP k fr := h22)
                        refine code_seq (fun K41 hK41 => ?_)
                        refine code_region ?_
                        refine list_cons rfl (op_q (q_move rfl (by decide)) ?_)
                        refine list_cons rfl (op_q (q_len_sl Try.underlying27 rfl rfl (by decide)) ?_)
                        refine list_cons rfl (op_q (q_move rfl (by decide)) ?_)
                        refine list_cons rfl (op_call _ (impl_SeenOf (r.length : Int) (PlF r) (by have := PlF_len r; omega)) rfl rfl (by decide) (by decide) (by decide) rfl ?_)
                        rintro _ rfl
                        refine list_cons rfl (op_q (q_move rfl (by decide)) ?_)
                        refine list_cons rfl (op_q (q_extract rfl rfl (by decide)) ?_)
                        refine list_cons rfl (op_q (q_extract rfl rfl (by decide)) ?_)
                        refine list_cons rfl (op_q (q_assign rfl (by decide)) ?_)
                        refine list_cons rfl (op_q (q_assign rfl (by decide)) ?_)
                        refine list_nil ?_
                        refine hK41 _ ?_; clear hK41 K41
                        refine codeT.imp (σ' := [(2, .val (.bool _)), (3, .val (.int .i64 _)), (5, .own 61 3 1 _ _), (6, .val (.bool _)), (13, .own 110 47 7 _ _), (17, .own 136 3 1 _ _), (21, .own 162 62 2 _ _), (22, .val (.bool _)), (25, .own 181 3 1 _ _), (26, .own 184 62 2 _ _), (27, .val (.bool _)), (30, .own 202 3 1 _ _), (31, .val (.int .i64 _)), (32, .val (.bool _)), (41, .own 251 3 1 _ _), (42, .val (.bool _))]) ?_ (imp_covers ⟨rfl, rfl, rfl, rfl, rfl, rfl, rfl, rfl, rfl, rfl, rfl, rfl, rfl, rfl, rfl, rfl, trivial⟩)
                        refine code_seq (fun K42 hK42 => ?_)
                        refine code_region ?_
                        refine list_cons rfl (op_q (q_move rfl (by decide)) ?_)
                        refine list_cons rfl (op_q (by first | exact q_notd rfl (by decide) | exact q_not rfl (by decide)) ?_)
                        refine list_cons rfl (op_q (q_move rfl (by decide)) ?_)
                        refine list_guard_d rfl rfl rfl rfl (by decide) rfl (by decide) (fun h23 => ?_) (fun h23 => ?_)
                        · simp only [Bool.false_eq_true, if_true, if_false, Decidable.not_not] at h23
                          (try simp only [Decidable.not_not] at h23); (try have hg : GdP k fr := h23)
                          refine id (op_q (q_move rfl (by decide)) ?_)
                          refine list_guard_y rfl rfl rfl rfl (by decide) rfl ?_
                          refine id (op_q (q_move rfl (by decide)) ?_)
                          refine list_guard_y rfl rfl rfl rfl (by decide) rfl ?_
                          refine id (op_call _ (rInts_c _ _ (by first | omega | exact Nat.le_trans (SeI_len _ _) (by decide) | exact Nat.le_trans (GhI_len _ _) (by decide) | exact Nat.le_trans (BkF_len _ _) (by decide) | exact Nat.le_trans (PlF_len _) (by decide) | (simp; omega))) rfl rfl (by decide) (by decide) (by decide) rfl ?_)
                          rintro _ rfl
                          refine list_guard_y rfl rfl rfl rfl (by decide) rfl ?_
                          refine id (op_q (by first | exact q_notd rfl (by decide) | exact q_not rfl (by decide)) ?_)
                          refine list_cons rfl (op_q (q_pick rfl rfl (by decide)) ?_)
                          refine list_nil ?_
                          refine hK42 _ ?_; clear hK42 K42
                          refine codeT.imp (σ' := [(2, .val (.bool _)), (3, .val (.int .i64 _)), (5, .own 61 3 1 _ _), (6, .val (.bool _)), (13, .own 110 47 7 _ _), (17, .own 136 3 1 _ _), (21, .own 162 62 2 _ _), (22, .val (.bool _)), (25, .own 181 3 1 _ _), (26, .own 184 62 2 _ _), (27, .val (.bool _)), (30, .own 202 3 1 _ _), (31, .val (.int .i64 _)), (32, .val (.bool _)), (41, .own 251 3 1 _ _), (42, .val (.bool _)), (261, .val (.bool _))]) ?_ (imp_covers ⟨rfl, rfl, rfl, rfl, rfl, rfl, rfl, rfl, rfl, rfl, rfl, rfl, rfl, rfl, rfl, rfl, rfl, trivial⟩)
                          refine code_cond_d rfl (fun h24 => ?_) (fun h24 => ?_)
                          · skip
                            (try simp only [Decidable.not_not] at h24); (try have hg : GdP k fr := h24)
                            exfalso
                            exact h24 (fu2 (by assumption))
                          (try simp only [Decidable.not_not] at h24); (try have hg : GdP k fr := h24)
                          refine code_skip ?_
                          exact then_n (imp_covers ⟨rfl, rfl, rfl, rfl, rfl, rfl, rfl, rfl, rfl, rfl, rfl, rfl, rfl, rfl, trivial⟩)
                        simp only [Bool.false_eq_true, if_true, if_false, Decidable.not_not] at h23
                        (try simp only [Decidable.not_not] at h23); (try have hg : GdP k fr := h23)
                        exfalso
                        exact h23 (fu1 (by assumption))
                      (try simp only [Decidable.not_not] at h22); (try have hg : GdP k fr := h22)
                      refine code_skip ?_
                      exact then_n (imp_covers ⟨rfl, rfl, rfl, rfl, rfl, rfl, rfl, rfl, rfl, rfl, rfl, rfl, rfl, rfl, trivial⟩)
                    refine codeT.imp (σ' := [(2, .val (.bool _)), (3, .val (.int .i64 _)), (5, .own 61 3 1 _ _), (6, .val (.bool _)), (13, .own 110 47 7 _ _), (17, .own 136 3 1 _ _), (21, .own 162 62 2 _ _), (22, .val (.bool _)), (30, .own 202 3 1 _ _), (31, .val (.int .i64 _)), (32, .val (.bool _))]) ?_ (imp_covers ⟨rfl, rfl, rfl, rfl, rfl, rfl, rfl, rfl, rfl, rfl, rfl, trivial⟩)
                    refine code_seq_same ?_ ?_
                    · skip
                      refine code_seq (fun K43 hK43 => ?_)
                      refine code_region ?_
                      refine list_cons rfl (op_q (q_move rfl (by decide)) ?_)
                      refine list_nil ?_
                      refine hK43 _ ?_; clear hK43 K43
                      refine code_cond_d rfl (fun h25 => ?_) (fun h25 => ?_)
                      · skip
                        (try simp only [Decidable.not_not] at h25); (try have hg : GdP k fr := h25)
                        refine code_seq (fun K44 hK44 => ?_)
                        refine code_region ?_
                        refine list_cons rfl (op_q (q_move rfl (by decide)) ?_)
                        refine list_cons rfl (op_call _ (impl_PlainFrame _ (by first | omega | (simp; omega))) rfl rfl (by decide) (by decide) (by decide) rfl ?_)
                        rintro _ rfl
                        refine list_cons rfl (op_q (q_move rfl (by decide)) ?_)
                        refine list_cons rfl (op_q (q_extract rfl rfl (by decide)) ?_)
                        refine list_cons rfl (op_q (q_extract rfl rfl (by decide)) ?_)
                        refine list_cons rfl (op_q (q_assign rfl (by decide)) ?_)
                        refine list_cons rfl (op_q (q_assign rfl (by decide)) ?_)
                        refine list_nil ?_
                        refine hK44 _ ?_; clear hK44 K44
                        refine codeT.imp (σ' := [(2, .val (.bool _)), (3, .val (.int .i64 _)), (5, .own 61 3 1 _ _), (6, .val (.bool _)), (13, .own 110 47 7 _ _), (17, .own 136 3 1 _ _), (21, .own 162 62 2 _ _), (22, .val (.bool _)), (30, .own 202 3 1 _ _), (31, .val (.int .i64 _)), (32, .val (.bool _)), (43, .own 265 62 2 _ _), (44, .val (.bool _))]) ?_ (imp_covers ⟨rfl, rfl, rfl, rfl, rfl, rfl, rfl, rfl, rfl, rfl, rfl, rfl, rfl, trivial⟩)
                        refine code_seq (fun K45 hK45 => ?_)
                        refine code_region ?_
                        refine list_cons rfl (op_q (q_move rfl (by decide)) ?_)
                        refine list_cons rfl (op_q (by first | exact q_notd rfl (by decide) | exact q_not rfl (by decide)) ?_)
                        refine list_cons rfl (op_q (q_move rfl (by decide)) ?_)
                        refine list_guard_d rfl rfl rfl rfl (by decide) rfl (by decide) (fun h26 => ?_) (fun h26 => ?_)
                        · simp only [Bool.false_eq_true, if_true, if_false, Decidable.not_not] at h26
                          (try simp only [Decidable.not_not] at h26); (try have hg : GdP k fr := h26)
                          refine id (op_q (q_move rfl (by decide)) ?_)
                          refine list_guard_y rfl rfl rfl rfl (by decide) rfl ?_
                          refine id (op_q (q_len_sl Try.underlying24 rfl rfl (by decide)) ?_)
                          refine list_guard_y rfl rfl rfl rfl (by decide) rfl ?_
                          refine id (op_q (q_move rfl (by decide)) ?_)
                          refine list_guard_y rfl rfl rfl rfl (by decide) rfl ?_
                          refine id (op_q (q_lt rfl rfl (by decide)) ?_)
                          refine list_cons rfl (op_q (q_pick rfl rfl (by decide)) ?_)
                          refine list_cons rfl (op_q (q_move rfl (by decide)) ?_)
                          refine list_guard_d rfl rfl rfl rfl (by decide) rfl (by decide) (fun h27 => ?_) (fun h27 => ?_)
                          · simp only [Bool.false_eq_true, if_true, if_false, Decidable.not_not] at h27
                            (try simp only [Decidable.not_not] at h27); (try have hg : GdP k fr := h27)
                            refine id (op_q (q_move rfl (by decide)) ?_)
                            refine list_guard_y rfl rfl rfl rfl (by decide) rfl ?_
                            refine id (op_q (q_eq rfl rfl (by decide)) ?_)
                            refine list_guard_y rfl rfl rfl rfl (by decide) rfl ?_
                            refine id (op_q (q_move rfl (by decide)) ?_)
                            refine list_guard_y rfl rfl rfl rfl (by decide) rfl ?_
                            refine id (op_q (q_len_sl Try.underlying24 rfl rfl (by decide)) ?_)
                            refine list_guard_y rfl rfl rfl rfl (by decide) rfl ?_
                            refine id (op_q (q_eq rfl rfl (by decide)) ?_)
                            refine list_guard_y rfl rfl rfl rfl (by decide) rfl ?_
                            refine id (op_q (q_bne Try.underlying4 rfl rfl (by decide)) ?_)
                            refine list_cons rfl (op_q (q_pick rfl rfl (by decide)) ?_)
                            refine list_nil ?_
                            refine hK45 _ ?_; clear hK45 K45
                            refine codeT.imp (σ' := [(2, .val (.bool _)), (3, .val (.int .i64 _)), (5, .own 61 3 1 _ _), (6, .val (.bool _)), (13, .own 110 47 7 _ _), (17, .own 136 3 1 _ _), (21, .own 162 62 2 _ _), (22, .val (.bool _)), (30, .own 202 3 1 _ _), (31, .val (.int .i64 _)), (32, .val (.bool _)), (43, .own 265 62 2 _ _), (44, .val (.bool _)), (283, .val (.bool _))]) ?_ (imp_covers ⟨rfl, rfl, rfl, rfl, rfl, rfl, rfl, rfl, rfl, rfl, rfl, rfl, rfl, rfl, trivial⟩)
                            refine code_cond_d rfl (fun h28 => ?_) (fun h28 => ?_)
                            · skip
                              (try simp only [Decidable.not_not] at h28); (try have hg : GdP k fr := h28)
                              exfalso
                              have hP : PlnP x := by assumption
                              have h3f := fu3 hP
                              have h4f := fu4 hP
                              unfold PlF at h4f
                              rw [if_pos hP] at h4f
                              simp only [if_pos hP] at h28
                              exact h28 (decide_eq_decide.mpr ⟨fun z => by omega, fun z => by omega⟩)
                            (try simp only [Decidable.not_not] at h28); (try have hg : GdP k fr := h28)
                            refine code_skip ?_
                            exact then_n (imp_covers ⟨rfl, rfl, rfl, rfl, rfl, rfl, rfl, rfl, rfl, rfl, rfl, trivial⟩)
                          simp only [Bool.false_eq_true, if_true, if_false, Decidable.not_not] at h27
                          (try simp only [Decidable.not_not] at h27); (try have hg : GdP k fr := h27)
                          exfalso
                          have hP : PlnP x := by assumption
                          have h3f := fu3 hP
                          have h4f := fu4 hP
                          unfold PlF at h4f
                          rw [if_pos hP] at h4f
                          simp only [if_pos hP] at h27
                          omega
                        simp only [Bool.false_eq_true, if_true, if_false, Decidable.not_not] at h26
                        (try simp only [Decidable.not_not] at h26); (try have hg : GdP k fr := h26)
                        exfalso
                        exact h26 (show PlnP x by assumption)
                      (try simp only [Decidable.not_not] at h25); (try have hg : GdP k fr := h25)
                      refine code_skip ?_
                      exact then_n (imp_covers ⟨rfl, rfl, rfl, rfl, rfl, rfl, rfl, rfl, rfl, rfl, rfl, trivial⟩)
                    refine codeT.imp (σ' := [(2, .val (.bool _)), (3, .val (.int .i64 _)), (5, .own 61 3 1 _ _), (6, .val (.bool _)), (13, .own 110 47 7 _ _), (17, .own 136 3 1 _ _), (21, .own 162 62 2 _ _), (22, .val (.bool _))]) ?_ (imp_covers ⟨rfl, rfl, rfl, rfl, rfl, rfl, rfl, rfl, trivial⟩)
                    refine code_seq_same ?_ ?_
                    · skip
                      refine code_seq (fun K46 hK46 => ?_)
                      refine code_region ?_
                      refine list_cons rfl (op_q (q_move rfl (by decide)) ?_)
                      refine list_nil ?_
                      refine hK46 _ ?_; clear hK46 K46
                      refine code_cond_d rfl (fun h29 => ?_) (fun h29 => ?_)
                      · skip
                        (try simp only [Decidable.not_not] at h29); (try have hg : GdP k fr := h29)
                        refine code_seq (fun K47 hK47 => ?_)
                        refine code_region ?_
                        refine list_cons rfl (op_q (q_move rfl (by decide)) ?_)
                        refine list_cons rfl (op_q (q_move rfl (by decide)) ?_)
                        refine list_cons rfl (op_call _ (impl_GhostsOf k (BkF k fr) (by have := BkF_len k fr; omega)) rfl rfl (by decide) (by decide) (by decide) rfl ?_)
                        rintro _ rfl
                        refine list_cons rfl (op_q (q_move rfl (by decide)) ?_)
                        refine list_cons rfl (op_q (q_extract rfl rfl (by decide)) ?_)
                        refine list_cons rfl (op_q (q_extract rfl rfl (by decide)) ?_)
                        refine list_cons rfl (op_q (q_assign rfl (by decide)) ?_)
                        refine list_cons rfl (op_q (q_assign rfl (by decide)) ?_)
                        refine list_nil ?_
                        refine hK47 _ ?_; clear hK47 K47
                        refine codeT.imp (σ' := [(2, .val (.bool _)), (3, .val (.int .i64 _)), (5, .own 61 3 1 _ _), (6, .val (.bool _)), (13, .own 110 47 7 _ _), (17, .own 136 3 1 _ _), (21, .own 162 62 2 _ _), (22, .val (.bool _)), (45, .own 288 3 1 _ _), (46, .val (.bool _))]) ?_ (imp_covers ⟨rfl, rfl, rfl, rfl, rfl, rfl, rfl, rfl, rfl, rfl, trivial⟩)
                        refine code_seq (fun K48 hK48 => ?_)
                        refine code_region ?_
                        refine list_cons rfl (op_q (q_move rfl (by decide)) ?_)
                        refine list_cons rfl (op_q (q_move rfl (by decide)) ?_)
                        refine list_cons rfl (op_call _ (impl_SeenOf k (BkF k fr) (by have := BkF_len k fr; omega)) rfl rfl (by decide) (by decide) (by decide) rfl ?_)
                        rintro _ rfl
                        refine list_cons rfl (op_q (q_move rfl (by decide)) ?_)
                        refine list_cons rfl (op_q (q_extract rfl rfl (by decide)) ?_)
                        refine list_cons rfl (op_q (q_extract rfl rfl (by decide)) ?_)
                        refine list_cons rfl (op_q (q_assign rfl (by decide)) ?_)
                        refine list_cons rfl (op_q (q_assign rfl (by decide)) ?_)
                        refine list_nil ?_
                        refine hK48 _ ?_; clear hK48 K48
                        refine codeT.imp (σ' := [(2, .val (.bool _)), (3, .val (.int .i64 _)), (5, .own 61 3 1 _ _), (6, .val (.bool _)), (13, .own 110 47 7 _ _), (17, .own 136 3 1 _ _), (21, .own 162 62 2 _ _), (22, .val (.bool _)), (45, .own 288 3 1 _ _), (46, .val (.bool _)), (47, .own 294 3 1 _ _), (48, .val (.bool _))]) ?_ (imp_covers ⟨rfl, rfl, rfl, rfl, rfl, rfl, rfl, rfl, rfl, rfl, rfl, rfl, trivial⟩)
                        refine code_seq (fun K49 hK49 => ?_)
                        refine code_region ?_
                        refine list_cons rfl (op_q (q_move rfl (by decide)) ?_)
                        refine list_cons rfl (op_q (by first | exact q_notd rfl (by decide) | exact q_not rfl (by decide)) ?_)
                        refine list_cons rfl (op_q (q_move rfl (by decide)) ?_)
                        refine list_guard_d rfl rfl rfl rfl (by decide) rfl (by decide) (fun h30 => ?_) (fun h30 => ?_)
                        · simp only [Bool.false_eq_true, if_true, if_false, Decidable.not_not] at h30
                          (try simp only [Decidable.not_not] at h30); (try have hg : GdP k fr := h30)
                          refine id (op_q (q_move rfl (by decide)) ?_)
                          refine list_guard_y rfl rfl rfl rfl (by decide) rfl ?_
                          refine id (op_q (by first | exact q_notd rfl (by decide) | exact q_not rfl (by decide)) ?_)
                          refine list_cons rfl (op_q (q_pick rfl rfl (by decide)) ?_)
                          refine list_cons rfl (op_q (q_move rfl (by decide)) ?_)
                          refine list_guard_d rfl rfl rfl rfl (by decide) rfl (by decide) (fun h31 => ?_) (fun h31 => ?_)
                          · simp only [Bool.false_eq_true, if_true, if_false, Decidable.not_not] at h31
                            (try simp only [Decidable.not_not] at h31); (try have hg : GdP k fr := h31)
                            refine id (op_q (q_move rfl (by decide)) ?_)
                            refine list_guard_y rfl rfl rfl rfl (by decide) rfl ?_
                            refine id (op_q (q_move rfl (by decide)) ?_)
                            refine list_guard_y rfl rfl rfl rfl (by decide) rfl ?_
                            refine id (op_call _ (rInts_c _ _ (by first | omega | exact Nat.le_trans (SeI_len _ _) (by decide) | exact Nat.le_trans (GhI_len _ _) (by decide) | exact Nat.le_trans (BkF_len _ _) (by decide) | exact Nat.le_trans (PlF_len _) (by decide) | (simp; omega))) rfl rfl (by decide) (by decide) (by decide) rfl ?_)
                            rintro _ rfl
                            refine list_guard_y rfl rfl rfl rfl (by decide) rfl ?_
                            refine id (op_q (by first | exact q_notd rfl (by decide) | exact q_not rfl (by decide)) ?_)
                            refine list_cons rfl (op_q (q_pick rfl rfl (by decide)) ?_)
                            refine list_cons rfl (op_q (q_move rfl (by decide)) ?_)
                            refine list_guard_d rfl rfl rfl rfl (by decide) rfl (by decide) (fun h32 => ?_) (fun h32 => ?_)
                            · simp only [Bool.false_eq_true, if_true, if_false, Decidable.not_not] at h32
                              (try simp only [Decidable.not_not] at h32); (try have hg : GdP k fr := h32)
                              refine id (op_q (q_move rfl (by decide)) ?_)
                              refine list_guard_y rfl rfl rfl rfl (by decide) rfl ?_
                              refine id (op_q (q_move rfl (by decide)) ?_)
                              refine list_guard_y rfl rfl rfl rfl (by decide) rfl ?_
                              refine id (op_makeI sl_27 rfl rfl (by have := (show BlkP k fr by assumption).1.1; omega) (by have := (show BlkP k fr by assumption).1.1; omega) (by decide) (by decide) rfl ?_)
                              refine list_guard_y rfl rfl rfl rfl (by decide) rfl ?_
                              refine id (op_call _ (rInts_z _ _ _ rfl (by first | omega | exact Nat.le_trans (SeI_len _ _) (by decide) | exact Nat.le_trans (GhI_len _ _) (by decide) | exact Nat.le_trans (BkF_len _ _) (by decide) | exact Nat.le_trans (PlF_len _) (by decide) | (simp; omega))) rfl rfl (by decide) (by decide) (by decide) rfl ?_)
                              rintro _ rfl
                              refine list_guard_y rfl rfl rfl rfl (by decide) rfl ?_
                              refine id (op_q (by first | exact q_notd rfl (by decide) | exact q_not rfl (by decide)) ?_)
                              refine list_cons rfl (op_q (q_pick rfl rfl (by decide)) ?_)
                              refine list_nil ?_
                              refine hK49 _ ?_; clear hK49 K49
                              refine codeT.imp (σ' := [(2, .val (.bool _)), (3, .val (.int .i64 _)), (5, .own 61 3 1 _ _), (6, .val (.bool _)), (13, .own 110 47 7 _ _), (17, .own 136 3 1 _ _), (21, .own 162 62 2 _ _), (22, .val (.bool _)), (45, .own 288 3 1 _ _), (46, .val (.bool _)), (47, .own 294 3 1 _ _), (48, .val (.bool _)), (315, .val (.bool _))]) ?_ (imp_covers ⟨rfl, rfl, rfl, rfl, rfl, rfl, rfl, rfl, rfl, rfl, rfl, rfl, rfl, trivial⟩)
                              refine code_cond_d rfl (fun h33 => ?_) (fun h33 => ?_)
                              · skip
                                (try simp only [Decidable.not_not] at h33); (try have hg : GdP k fr := h33)
                                exfalso
                                exact h33 (fu7 (by assumption))
                              (try simp only [Decidable.not_not] at h33); (try have hg : GdP k fr := h33)
                              refine code_skip ?_
                              exact then_n (imp_covers ⟨rfl, rfl, rfl, rfl, rfl, rfl, rfl, rfl, trivial⟩)
                            simp only [Bool.false_eq_true, if_true, if_false, Decidable.not_not] at h32
                            (try simp only [Decidable.not_not] at h32); (try have hg : GdP k fr := h32)
                            exfalso
                            exact h32 (fu6 (by assumption))
                          simp only [Bool.false_eq_true, if_true, if_false, Decidable.not_not] at h31
                          (try simp only [Decidable.not_not] at h31); (try have hg : GdP k fr := h31)
                          exfalso
                          exact h31 (fu5 (by assumption))
                        simp only [Bool.false_eq_true, if_true, if_false, Decidable.not_not] at h30
                        (try simp only [Decidable.not_not] at h30); (try have hg : GdP k fr := h30)
                        exfalso
                        exact h30 (fu5 (by assumption))
                      (try simp only [Decidable.not_not] at h29); (try have hg : GdP k fr := h29)
                      refine code_skip ?_
                      exact then_n (imp_covers ⟨rfl, rfl, rfl, rfl, rfl, rfl, rfl, rfl, trivial⟩)
                    refine code_seq (fun K50 hK50 => ?_)
                    refine code_seq (fun K51 hK51 => ?_)
                    refine code_region ?_
                    refine list_cons rfl (op_q (q_move rfl (by decide)) ?_)
                    refine list_cons rfl (op_q (by first | exact q_notd rfl (by decide) | exact q_not rfl (by decide)) ?_)
                    refine list_nil ?_
                    refine hK51 _ ?_; clear hK51 K51
                    refine code_cond_d rfl (fun h34 => ?_) (fun h34 => ?_)
                    · skip
                      (try simp only [Decidable.not_not] at h34); (try have hg : GdP k fr := h34)
                      refine code_seq (fun K52 hK52 => ?_)
                      refine code_region ?_
                      refine list_cons rfl (op_q (q_assign rfl (by decide)) ?_)
                      refine list_nil ?_
                      refine hK52 _ ?_; clear hK52 K52
                      refine code_ret ?_
                      refine then_r ?_; clear hK50 K50
                      refine ends_ret (cs := []) rfl rfl rfl rfl trivial ?_
                      first | rfl
                    (try simp only [Decidable.not_not] at h34); (try have hg : GdP k fr := h34)
                    refine code_skip ?_
                    refine hK50 _ ?_; clear hK50 K50
                    refine code_seq (fun K53 hK53 => ?_)
                    refine code_seq (fun K54 hK54 => ?_)
                    refine code_region ?_
                    refine list_cons rfl (op_q (q_assign rfl (by decide)) ?_)
                    refine list_nil ?_
                    refine hK54 _ ?_; clear hK54 K54
                    refine code_block ?_
                    refine code_loop (X := Int) (fun x => [(2, .val (.bool false)), (3, .val (.int .i64 k)), (5, .own 61 3 1 (SeI k fr).length ((SeI k fr).map (.int .i64))), (13, .own 110 47 7 (if GdP k fr then k.toNat else 0) ((if GdP k fr then duL fr k.toNat else []).map (.int .i64))), (17, .own 136 3 1 (GhI k fr).length ((GhI k fr).map (.int .i64))), (49, .val (.int .i64 x))]) (fun x => GdP k fr ∧ 0 ≤ x ∧ x ≤ k) (fun x => (k - x).toNat) (_) (imp_covers ⟨rfl, rfl, rfl, rfl, rfl, rfl, trivial⟩) ?_ ?_
                    · (try dsimp only)
                      exact ⟨by assumption, by omega, by have := (show GdP k fr by assumption).1; omega⟩
                    · intro x hI
                      revert hI; revert x; intro i hI
                      replace hI : GdP k fr ∧ 0 ≤ i ∧ i ≤ k := hI
                      show codeT _ _ _ [(2, .val (.bool false)), (3, .val (.int .i64 k)), (5, .own 61 3 1 (SeI k fr).length ((SeI k fr).map (.int .i64))), (13, .own 110 47 7 (if GdP k fr then k.toNat else 0) ((if GdP k fr then duL fr k.toNat else []).map (.int .i64))), (17, .own 136 3 1 (GhI k fr).length ((GhI k fr).map (.int .i64))), (49, .val (.int .i64 i))] _
                      obtain ⟨hg, i1, i2⟩ := hI
                      have hk6 := hg.1
                      have hsl := SeI_k hg
                      have hgl := GhI_k hg
                      have hsv := fun h => SeI_le hg (i := i.toNat) h
                      have hgv := fun h => GhI_le hg (i := i.toNat) h
                      refine code_seq (fun K55 hK55 => ?_)
                      refine code_seq (fun K56 hK56 => ?_)
                      refine code_region ?_
                      refine list_cons rfl (op_q (q_move rfl (by decide)) ?_)
                      refine list_cons rfl (op_q (q_move rfl (by decide)) ?_)
                      refine list_cons rfl (op_q (q_lt rfl rfl (by decide)) ?_)
                      refine list_nil ?_
                      refine hK56 _ ?_; clear hK56 K56
                      refine code_cond_d rfl (fun h35 => ?_) (fun h35 => ?_)
                      · skip
                        (try simp only [Decidable.not_not] at h35); (try have hg : GdP k fr := h35)
                        refine code_skip ?_
                        refine hK55 _ ?_; clear hK55 K55
                        refine code_seq (fun K57 hK57 => ?_)
                        refine code_block ?_
                        refine code_seq (fun K58 hK58 => ?_)
                        refine code_region ?_
                        refine list_cons rfl (op_q (q_assign rfl (by decide)) ?_)
                        refine list_nil ?_
                        refine hK58 _ ?_; clear hK58 K58
                        refine code_block ?_
                        refine code_loop (X := Int) (fun x => [(2, .val (.bool false)), (3, .val (.int .i64 k)), (5, .own 61 3 1 (SeI k fr).length ((SeI k fr).map (.int .i64))), (13, .own 110 47 7 (if GdP k fr then k.toNat else 0) ((if GdP k fr then duL fr k.toNat else []).map (.int .i64))), (17, .own 136 3 1 (GhI k fr).length ((GhI k fr).map (.int .i64))), (49, .val (.int .i64 i)), (50, .val (.int .i64 x))]) (fun x => 0 ≤ x ∧ x ≤ 7) (fun x => (7 - x).toNat) (_) (imp_covers ⟨rfl, rfl, rfl, rfl, rfl, rfl, rfl, trivial⟩) ?_ ?_
                        · (try dsimp only)
                          exact ⟨by omega, by omega⟩
                        · intro x hI
                          revert hI; revert x; intro bar hI
                          replace hI : 0 ≤ bar ∧ bar ≤ 7 := hI
                          show codeT _ _ _ [(2, .val (.bool false)), (3, .val (.int .i64 k)), (5, .own 61 3 1 (SeI k fr).length ((SeI k fr).map (.int .i64))), (13, .own 110 47 7 (if GdP k fr then k.toNat else 0) ((if GdP k fr then duL fr k.toNat else []).map (.int .i64))), (17, .own 136 3 1 (GhI k fr).length ((GhI k fr).map (.int .i64))), (49, .val (.int .i64 i)), (50, .val (.int .i64 bar))] _
                          obtain ⟨j1, j2⟩ := hI
                          have hsv2 := hsv (by omega)
                          have hgv2 := hgv (by omega)
                          refine code_seq (fun K59 hK59 => ?_)
                          refine code_seq (fun K60 hK60 => ?_)
                          refine code_region ?_
                          refine list_cons rfl (op_q (q_move rfl (by decide)) ?_)
                          refine list_cons rfl (op_q (q_lt rfl rfl (by decide)) ?_)
                          refine list_nil ?_
                          refine hK60 _ ?_; clear hK60 K60
                          refine code_cond_d rfl (fun h36 => ?_) (fun h36 => ?_)
                          · skip
                            (try simp only [Decidable.not_not] at h36); (try have hg : GdP k fr := h36)
                            refine code_skip ?_
                            refine hK59 _ ?_; clear hK59 K59
                            refine code_seq (fun K61 hK61 => ?_)
                            refine code_block ?_
                            refine code_seq (fun K62 hK62 => ?_)
                            refine code_draw (by kernel_rfl) (by kernel_rfl) ?_
                            refine draw_q rfl (q_move rfl (by decide)) ?_
                            refine draw_q rfl (q_move rfl (by decide)) ?_
                            refine draw_q rfl (q_move rfl (by decide)) ?_
                            refine draw_q rfl (q_indexAddr_own sl_33 rfl rfl (by first | omega | (rw [if_pos hg]; omega)) (by first | omega | (rw [if_pos hg]; omega)) (by decide)) ?_
                            refine draw_q rfl (q_indexAddr_arr arr_47 rfl rfl rfl (by first | omega | (rw [if_pos hg]; omega)) (by first | omega | (rw [if_pos hg]; omega)) (by decide)) ?_
                            refine draw_q rfl (q_load one_3 13 rfl rfl rfl (by first | rfl | exact du_ld hg (by omega) (by omega) | exact get_map1 _ 0 _ (by omega)) (by decide)) ?_
                            refine draw_q rfl (q_gt rfl rfl (by decide)) ?_
                            refine draw_q rfl (q_move rfl (by decide)) ?_
                            refine draw_q rfl (q_move rfl (by decide)) ?_
                            refine draw_q rfl (q_indexAddr_own sl_27 rfl rfl (by first | omega | (rw [if_pos hg]; omega)) (by first | omega | (rw [if_pos hg]; omega)) (by decide)) ?_
                            refine draw_q rfl (q_load one_3 5 rfl rfl rfl (by first | rfl | exact du_ld hg (by omega) (by omega) | exact get_map1 _ 0 _ (by omega)) (by decide)) ?_
                            refine draw_q rfl (q_move rfl (by decide)) ?_
                            refine draw_q rfl (by first | exact q_shrN rfl rfl (by decide) (by omega) (by omega) (by omega) | exact q_shrI rfl rfl (by decide) (by omega) (by omega) (by omega) | exact q_shr rfl rfl (by omega) (by decide)) ?_
                            refine draw_q rfl (by first | exact q_andI rfl rfl (by decide) (by omega) (by omega) (by omega) (by omega) | exact q_ib rfl rfl rfl (by decide)) ?_
                            refine draw_q rfl (q_eq rfl rfl (by decide)) ?_
                            refine draw_q rfl (q_bne Try.underlying4 rfl rfl (by decide)) ?_
                            refine draw_q rfl (q_move rfl (by decide)) ?_
                            refine draw_guard_d rfl rfl rfl rfl (by decide) rfl (by decide) (fun h37 => q_move rfl (by decide)) (fun h37 => ?_) (fun h37 => ?_)
                            · simp only [Bool.false_eq_true, if_true, if_false, Decidable.not_not] at h37
                              (try simp only [Decidable.not_not] at h37); (try have hg : GdP k fr := h37)
                              refine draw_guard_y rfl rfl rfl rfl (by decide) rfl (q_move rfl (by decide)) ?_
                              refine draw_guard_y rfl rfl rfl rfl (by decide) rfl (q_indexAddr_own sl_27 rfl rfl (by first | omega | (rw [if_pos hg]; omega)) (by first | omega | (rw [if_pos hg]; omega)) (by decide)) ?_
                              refine draw_guard_y rfl rfl rfl rfl (by decide) rfl (q_load one_3 5 rfl rfl rfl (by first | rfl | exact du_ld hg (by omega) (by omega) | exact get_map1 _ 0 _ (by omega)) (by decide)) ?_
                              refine draw_guard_y rfl rfl rfl rfl (by decide) rfl (q_move rfl (by decide)) ?_
                              refine draw_guard_y rfl rfl rfl rfl (by decide) rfl (q_move rfl (by decide)) ?_
                              refine draw_guard_y rfl rfl rfl rfl (by decide) rfl (q_indexAddr_own sl_27 rfl rfl (by first | omega | (rw [if_pos hg]; omega)) (by first | omega | (rw [if_pos hg]; omega)) (by decide)) ?_
                              refine draw_guard_y rfl rfl rfl rfl (by decide) rfl (q_load one_3 17 rfl rfl rfl (by first | rfl | exact du_ld hg (by omega) (by omega) | exact get_map1 _ 0 _ (by omega)) (by decide)) ?_
                              refine draw_guard_y rfl rfl rfl rfl (by decide) rfl (by first | exact q_andI rfl rfl (by decide) (by omega) (by omega) (by omega) (by omega) | exact q_ib rfl rfl rfl (by decide)) ?_
                              refine draw_guard_y rfl rfl rfl rfl (by decide) rfl (q_ne rfl rfl (by decide)) ?_
                              refine draw_q rfl (q_pick rfl rfl (by decide)) ?_
                              refine draw_nil ?_
                              refine hK62 _ ?_; clear hK62 K62
                              refine codeT.imp (σ' := [(2, .val (.bool _)), (3, .val (.int .i64 _)), (5, .own 61 3 1 _ _), (13, .own 110 47 7 _ _), (17, .own 136 3 1 _ _), (49, .val (.int .i64 _)), (50, .val (.int .i64 _)), (354, .val (.bool _))]) ?_ (imp_covers ⟨rfl, rfl, rfl, rfl, rfl, rfl, rfl, rfl, trivial⟩)
                              refine code_cond_d rfl (fun h38 => ?_) (fun h38 => ?_)
                              · skip
                                (try simp only [Decidable.not_not] at h38); (try have hg : GdP k fr := h38)
                                exfalso
                                have h9 := fu9 hg (i := i.toNat) (by omega)
                                omega
                              (try simp only [Decidable.not_not] at h38); (try have hg : GdP k fr := h38)
                              refine code_skip ?_
                              refine blk_n ?_
                              refine hK61 _ ?_; clear hK61 K61
                              refine code_region ?_
                              refine list_cons rfl (op_q (q_move rfl (by decide)) ?_)
                              refine list_cons rfl (op_q (by first | exact q_addI rfl rfl (by decide) (by omega) (by omega) | exact q_ib rfl rfl rfl (by decide)) ?_)
                              refine list_cons rfl (op_q (q_assign rfl (by decide)) ?_)
                              refine list_nil ?_
                              refine then_n ⟨(_), imp_covers ⟨rfl, rfl, rfl, rfl, rfl, rfl, rfl, trivial⟩, ?_, ?_⟩
                              · (try dsimp only)
                                exact ⟨by omega, by omega⟩
                              · (try dsimp only); omega
                            simp only [Bool.false_eq_true, if_true, if_false, Decidable.not_not] at h37
                            (try simp only [Decidable.not_not] at h37); (try have hg : GdP k fr := h37)
                            exfalso
                            exact h37 (decide_eq_decide.mpr (fu8 hg (by omega) (by omega)))
                          (try simp only [Decidable.not_not] at h36); (try have hg : GdP k fr := h36)
                          refine code_exit ?_
                          refine then_x ?_; clear hK59 K59
                          refine then_x ?_
                          refine blk_hit ?_
                          refine blk_n ?_
                          refine hK57 _ ?_; clear hK57 K57
                          refine code_region ?_
                          refine list_cons rfl (op_q (q_move rfl (by decide)) ?_)
                          refine list_cons rfl (op_q (by first | exact q_addI rfl rfl (by decide) (by omega) (by omega) | exact q_ib rfl rfl rfl (by decide)) ?_)
                          refine list_cons rfl (op_q (q_assign rfl (by decide)) ?_)
                          refine list_nil ?_
                          refine then_n ⟨(_), imp_covers ⟨rfl, rfl, rfl, rfl, rfl, rfl, trivial⟩, ?_, ?_⟩
                          · (try dsimp only)
                            exact ⟨hg, by omega, by omega⟩
                          · (try dsimp only); omega
                      (try simp only [Decidable.not_not] at h35); (try have hg : GdP k fr := h35)
                      refine code_exit ?_
                      refine then_x ?_; clear hK55 K55
                      refine then_x ?_
                      refine blk_hit ?_
                      refine hK53 _ ?_; clear hK53 K53
                      refine code_seq (fun K63 hK63 => ?_)
                      refine code_region ?_
                      refine list_cons rfl (op_q (q_assign rfl (by decide)) ?_)
                      refine list_nil ?_
                      refine hK63 _ ?_; clear hK63 K63
                      refine code_ret ?_
                      refine ends_ret (cs := []) rfl rfl rfl rfl trivial ?_
                      first | rfl
                  simp only [Bool.false_eq_true, if_true, if_false, Decidable.not_not] at h20
                  (try simp only [Decidable.not_not] at h20); (try have hg : GdP k fr := h20)
                  exfalso
                  first | exact absurd rfl h20 | exact h20 trivial | (simp at h20; done)
                simp only [Bool.false_eq_true, if_true, if_false, Decidable.not_not] at h18
                (try simp only [Decidable.not_not] at h18); (try have hg : GdP k fr := h18)
                exfalso
                first | exact absurd rfl h18 | exact h18 trivial | (simp at h18; done)
              simp only [Bool.false_eq_true, if_true, if_false, Decidable.not_not] at h16
              (try simp only [Decidable.not_not] at h16); (try have hg : GdP k fr := h16)
              exfalso
              first | exact absurd rfl h16 | exact h16 trivial | (simp at h16; done)
            simp only [Bool.false_eq_true, if_true, if_false, Decidable.not_not] at h14
            (try simp only [Decidable.not_not] at h14); (try have hg : GdP k fr := h14)
            exfalso
            first | exact absurd rfl h14 | exact h14 trivial | (simp at h14; done)
          simp only [Bool.false_eq_true, if_true, if_false, Decidable.not_not] at h12
          (try simp only [Decidable.not_not] at h12); (try have hg : GdP k fr := h12)
          exfalso
          first | exact absurd rfl h12 | exact h12 trivial | (simp at h12; done)
        simp only [Bool.false_eq_true, if_true, if_false, Decidable.not_not] at h11
        (try simp only [Decidable.not_not] at h11); (try have hg : GdP k fr := h11)
        exfalso
        first | exact absurd rfl h11 | exact h11 trivial | (simp at h11; done)
      simp only [Bool.false_eq_true, if_true, if_false, Decidable.not_not] at h10
      (try simp only [Decidable.not_not] at h10); (try have hg : GdP k fr := h10)
      exfalso
      first | exact absurd rfl h10 | exact h10 trivial | (simp at h10; done)
    simp only [Bool.false_eq_true, if_true, if_false, Decidable.not_not] at h9
    (try simp only [Decidable.not_not] at h9); (try have hg : GdP k fr := h9)
    exfalso
    first | exact absurd rfl h9 | exact h9 trivial | (simp at h9; done)
  simp only [Bool.false_eq_true, if_true, if_false, Decidable.not_not] at h2
  (try simp only [Decidable.not_not] at h2); (try have hg : GdP k fr := h2)
  exfalso
  first | exact absurd rfl h2 | exact h2 trivial | (simp at h2; done)
end Go.Proofs.Ytlipkomdajogiaa
