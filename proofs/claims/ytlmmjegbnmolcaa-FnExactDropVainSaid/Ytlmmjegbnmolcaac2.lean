/- Contracts of functions, walked over the pure layer; each says for which arguments. -/
import Derived.Test.Ytlmmjegbnmolcaac2Ty
import Derived.Test.YtlmmjegbnmolcaaTf
import Derived.Test.Ytlmmjegbnmolcaac1
namespace Go.Proofs.Ytlmmjegbnmolcaa
open Go.RowKit c2Ty
set_option linter.unusedVariables false
set_option linter.unusedSimpArgs false

set_option maxRecDepth 4000 in
theorem impl_IsCell (c : Int) : PCalls Try.prog 109 [.int .i64 c] (· = [.val (.bool (decide (0 ≤ c ∧ c ≤ 127)))]) := by
  refine pcalls_of_code (n := 9) az Try.func109 (by kernel_rfl) rfl rfl (Nat.le_of_ble_eq_true rfl) (by intro t u h; simp [Try.f109] at h) ?_
  refine code_seq (fun K1 hK1 => ?_)
  refine code_region ?_
  refine list_cons rfl (op_q (q_assign rfl (by decide)) ?_)
  refine list_nil ?_
  refine hK1 _ ?_; clear hK1 K1
  refine code_seq (fun K2 hK2 => ?_)
  refine code_region ?_
  refine list_cons rfl (op_q (q_move rfl (by decide)) ?_)
  refine list_cons rfl (op_q (q_ge rfl rfl (by decide)) ?_)
  refine list_cons rfl (op_q (q_move rfl (by decide)) ?_)
  refine list_guard_d rfl rfl rfl rfl (by decide) rfl (by decide) (fun h1 => ?_) (fun h1 => ?_)
  · simp only [Bool.false_eq_true, if_true, if_false, Decidable.not_not] at h1
    refine id (op_q (q_move rfl (by decide)) ?_)
    refine list_guard_y rfl rfl rfl rfl (by decide) rfl ?_
    refine id (op_q (q_lt rfl rfl (by decide)) ?_)
    refine list_cons rfl (op_q (q_pick rfl rfl (by decide)) ?_)
    refine list_cons rfl (op_q (q_assign rfl (by decide)) ?_)
    refine list_nil ?_
    refine hK2 _ ?_; clear hK2 K2
    refine code_ret ?_
    refine ends_ret (cs := []) rfl rfl rfl rfl trivial ?_
    first | (congr 3; exact decide_eq_decide.mpr ⟨fun k => by omega, fun k => by omega⟩) | (rw [decide_eq_false (by omega)])
  simp only [Bool.false_eq_true, if_true, if_false, Decidable.not_not] at h1
  refine list_guard_n rfl rfl rfl rfl (by decide) rfl ?_
  refine list_cons rfl (op_q (q_pick rfl rfl (by decide)) ?_)
  refine list_cons rfl (op_q (q_assign rfl (by decide)) ?_)
  refine list_nil ?_
  refine hK2 _ ?_; clear hK2 K2
  refine code_ret ?_
  refine ends_ret (cs := []) rfl rfl rfl rfl trivial ?_
  first | (congr 3; exact decide_eq_decide.mpr ⟨fun k => by omega, fun k => by omega⟩) | (rw [decide_eq_false (by omega)])

theorem res_agg8 {az : TypeId → Nat} {σ : St} {t u l e : Nat} {cs : List PV} (h : σ.at t = some (.box l e cs)) (haz : (az u == 0) = false) (hf : PV.flatL cs = true) (hl : cs.length = az u) : St.res az σ [.cell t u] = some [.val (.agg cs)] := by
  unfold St.res
  rw [h, show St.res az σ [] = some [] from rfl]
  simp only [haz, Bool.false_eq_true, if_false]
  rw [hf, hl]
  simp
theorem put_all8 {a b : List PV} {n : Nat} (ha : a.length = n) (hb : b.length = n) : putAt a 0 (PV.agg b).cells = b := by
  unfold putAt PV.cells
  simp only [List.take_zero, List.nil_append, Nat.zero_add]
  rw [List.drop_of_length_le (by omega), List.append_nil]
/-- The places that have a bit, from the left. -/
def plN (c : Int) : List Nat := (List.range 6).filter fun x => decide (bt c x)
def pl (c : Int) (q : Nat) : Nat := (plN c).getD q 6
def pcn (c : Int) (m : Nat) : Nat := ((List.range m).filter fun x => decide (bt c x)).length
theorem pcn_succ (c : Int) (m : Nat) : pcn c (m + 1) = pcn c m + if bt c m then 1 else 0 := by
  unfold pcn
  rw [List.range_succ, List.filter_append, List.length_append]
  congr 1
  by_cases h : bt c m
  · rw [if_pos h]; simp [h]
  · rw [if_neg h]; simp [h]
theorem pl_at {c : Int} (hc : 0 ≤ c ∧ c ≤ 63) {m : Nat} (hm : m < 6) (hb : bt c m) : pl c (pcn c m) = m ∧ pcn c m < (plN c).length := by
  have key : ∀ i : Fin 64, ∀ j : Fin 6, bt ((i.val : Nat) : Int) j.val → pl ((i.val : Nat) : Int) (pcn ((i.val : Nat) : Int) j.val) = j.val ∧ pcn ((i.val : Nat) : Int) j.val < (plN ((i.val : Nat) : Int)).length := by decide +kernel
  obtain ⟨n, rfl⟩ : ∃ n : Nat, c = n := ⟨c.toNat, by omega⟩
  exact key ⟨n, by omega⟩ ⟨m, hm⟩ hb
theorem pl_all (c : Int) : pcn c 6 = (plN c).length := rfl
theorem pl_ok {c : Int} (hc : 0 ≤ c ∧ c ≤ 63) {q : Nat} (h : q < (plN c).length) : pl c q < 6 ∧ bt c (pl c q) ∧ pl c q + 1 ≤ pl c (q + 1) ∧ ∀ x, pl c q + 1 ≤ x → x < pl c (q + 1) → ¬ bt c x := by
  have hl : ∀ i : Fin 64, (plN ((i.val : Nat) : Int)).length ≤ 6 := by decide +kernel
  have key : ∀ i : Fin 64, ∀ j : Fin 6, j.val < (plN ((i.val : Nat) : Int)).length → pl ((i.val : Nat) : Int) j.val < 6 ∧ bt ((i.val : Nat) : Int) (pl ((i.val : Nat) : Int) j.val) ∧ pl ((i.val : Nat) : Int) j.val + 1 ≤ pl ((i.val : Nat) : Int) (j.val + 1) ∧ (∀ x : Fin 6, pl ((i.val : Nat) : Int) j.val + 1 ≤ x.val → x.val < pl ((i.val : Nat) : Int) (j.val + 1) → ¬ bt ((i.val : Nat) : Int) x.val) ∧ pl ((i.val : Nat) : Int) (j.val + 1) ≤ 6 := by decide +kernel
  obtain ⟨n, rfl⟩ : ∃ n : Nat, c = n := ⟨c.toNat, by omega⟩
  have h6 := hl ⟨n, by omega⟩
  obtain ⟨a1, a2, a3, a4, a5⟩ := key ⟨n, by omega⟩ ⟨q, by simp only at h6; omega⟩ h
  exact ⟨a1, a2, a3, fun x hx hy => a4 ⟨x, by simp only at a5; omega⟩ hx hy⟩
theorem pl_zero {c : Int} (hc : 0 ≤ c ∧ c ≤ 63) : ∀ x, 0 ≤ x → x < pl c 0 → ¬ bt c x := by
  have key : ∀ i : Fin 64, (∀ x : Fin 6, x.val < pl ((i.val : Nat) : Int) 0 → ¬ bt ((i.val : Nat) : Int) x.val) ∧ pl ((i.val : Nat) : Int) 0 ≤ 6 := by decide +kernel
  obtain ⟨n, rfl⟩ : ∃ n : Nat, c = n := ⟨c.toNat, by omega⟩
  obtain ⟨a1, a2⟩ := key ⟨n, by omega⟩
  exact fun x _ hy => a1 ⟨x, by simp only at a2; omega⟩ hy
theorem pl_end (c : Int) : pl c (plN c).length = 6 := by
  unfold pl; rw [List.getD_eq_getElem?_getD, List.getElem?_eq_none (Nat.le_refl _)]; rfl
theorem bt_lt {c : Int} (h0 : 0 ≤ c) {x n : Nat} (hn : n ≤ 6) (hc : c ≤ ((p2 n : Nat) : Int) - 1) (hx : x < 6) (hb : bt c x) : x < n := by
  have key : ∀ i : Fin 64, ∀ x : Fin 6, ∀ n : Fin 7, i.val + 1 ≤ p2 n.val → bt ((i.val : Nat) : Int) x.val → x.val < n.val := by decide +kernel
  have h6 := p2_le6 (k := (n : Int)) (by omega)
  rw [Int.toNat_natCast] at h6
  obtain ⟨m, rfl⟩ : ∃ m : Nat, c = m := ⟨c.toNat, by omega⟩
  exact key ⟨m, by omega⟩ ⟨x, hx⟩ ⟨n, by omega⟩ (by simp only; omega) hb
/-- Where nothing turns from a on, it is at b as it was at a. -/
theorem skipN {α : Type} {g : Nat → α} {a : Nat} : ∀ {b : Nat}, a ≤ b → (∀ x, a ≤ x → x < b → g (x + 1) = g x) → g b = g a
  | 0, h, _ => by rw [show a = 0 by omega]
  | b + 1, h, hs => by
    by_cases e : a = b + 1
    · rw [e]
    · rw [hs b (by omega) (by omega)]; exact skipN (by omega) (fun x h1 h2 => hs x h1 (by omega))
/-- A row of what is seen, in which the first m places have what is added, too. -/
def wiS (s : List Int) (c b : Int) (m : Nat) : List Int := (List.range 6).map fun x => if x < m ∧ bt c x then (((s.getD x 0).toNat ||| b.toNat : Nat) : Int) else s.getD x 0
theorem wiS_len (s : List Int) (c b : Int) (m : Nat) : (wiS s c b m).length = 6 := by simp [wiS]
theorem wiS_at (s : List Int) (c b : Int) (m : Nat) {x : Nat} (h : x < 6) : (wiS s c b m).getD x 0 = if x < m ∧ bt c x then (((s.getD x 0).toNat ||| b.toNat : Nat) : Int) else s.getD x 0 := rng_at h
theorem wiS_skip (s : List Int) {c b : Int} {m : Nat} (h : ¬ bt c m) : wiS s c b (m + 1) = wiS s c b m := by
  unfold wiS
  apply List.map_congr_left
  intro x hx
  by_cases e : x = m
  · subst e; rw [if_neg (fun z => h z.2), if_neg (fun z => h z.2)]
  · have e2 : (x < m + 1 ∧ bt c x) ↔ (x < m ∧ bt c x) := ⟨fun z => ⟨by omega, z.2⟩, fun z => ⟨by omega, z.2⟩⟩
    by_cases hh : x < m ∧ bt c x
    · rw [if_pos hh, if_pos (e2.2 hh)]
    · rw [if_neg hh, if_neg (fun z => hh (e2.1 z))]
theorem lst_eq6 {a b : List Int} (ha : a.length = 6) (hb : b.length = 6) (h : ∀ x, x < 6 → a.getD x 0 = b.getD x 0) : a = b := by
  apply List.ext_getElem (by rw [ha, hb])
  intro j h1 h2
  have := h j (by omega)
  rwa [List.getD_eq_getElem?_getD, List.getElem?_eq_getElem h1, Option.getD_some, List.getD_eq_getElem?_getD, List.getElem?_eq_getElem h2, Option.getD_some] at this
theorem wiS_0 {s : List Int} (hs : s.length = 6) (c b : Int) : s = wiS s c b 0 := lst_eq6 hs (wiS_len _ _ _ _) fun x hx => by
  rw [wiS_at s c b 0 hx, if_neg (fun z => absurd z.1 (Nat.not_lt_zero x))]
theorem wiS_put {s : List Int} {c b v : Int} {m : Nat} (h : m < 6) (hb : bt c m) (hv : v = ((((wiS s c b m).getD m 0).toNat ||| b.toNat : Nat) : Int)) : putAt ((wiS s c b m).map (PV.int .i64)) (m * 1) [PV.int .i64 v] = (wiS s c b (m + 1)).map (PV.int .i64) := by
  rw [put_map1 (PV.int .i64) _ (by rw [wiS_len]; exact h)]
  congr 1
  have e := wiS_at s c b m h
  rw [if_neg (fun z => absurd z.1 (Nat.lt_irrefl m))] at e
  have := rng_set (f := fun x => if x < m ∧ bt c x then (((s.getD x 0).toNat ||| b.toNat : Nat) : Int) else s.getD x 0) (g := fun x => if x < m + 1 ∧ bt c x then (((s.getD x 0).toNat ||| b.toNat : Nat) : Int) else s.getD x 0) h (fun j hj hne => by
    have e2 : (j < m + 1 ∧ bt c j) ↔ (j < m ∧ bt c j) := ⟨fun z => ⟨by omega, z.2⟩, fun z => ⟨by omega, z.2⟩⟩
    by_cases hh : j < m ∧ bt c j
    · rw [if_pos hh, if_pos (e2.2 hh)]
    · rw [if_neg hh, if_neg (fun z => hh (e2.1 z))])
  simp only [Nat.lt_succ_self, hb, and_self, if_true] at this
  rw [hv, e]
  unfold wiS
  exact this
theorem wiS_le {s : List Int} {b : Int} (hs : ∀ j, 0 ≤ s.getD j 0 ∧ s.getD j 0 ≤ 127) (hb : 0 ≤ b ∧ b ≤ 127) (c : Int) (m : Nat) {x : Nat} (h : x < 6) : 0 ≤ (wiS s c b m).getD x 0 ∧ (wiS s c b m).getD x 0 ≤ 127 := by
  rw [wiS_at s c b m h]
  have := hs x
  split
  · have := or_127 (a := (s.getD x 0).toNat) (b := b.toNat) (by omega) (by omega); omega
  · omega
/-- What is seen of the first so many slots, all places. -/
def stS (fr : List (Int × Int)) (j : Nat) : List Int := gK (orN fr) 6 j 0
theorem stS_len (fr : List (Int × Int)) (j : Nat) : (stS fr j).length = 6 := gK_len _ _ _ _
theorem stS_at (fr : List (Int × Int)) (j : Nat) {x : Nat} (h : x < 6) : (stS fr j).getD x 0 = ((orN fr x j : Nat) : Int) := by
  unfold stS; rw [gK_at h, if_neg (Nat.not_lt_zero _)]
theorem big_get {l : List Int} {x : Nat} (h : l.length ≤ x) : l.getD x 0 = 0 := by
  rw [List.getD_eq_getElem?_getD, List.getElem?_eq_none h]; rfl
theorem stS_le {k : Int} {fr : List (Int × Int)} (h : FrmP k fr) (hk : k ≤ 6) {j : Nat} (hj : j ≤ fr.length) (x : Nat) : 0 ≤ (stS fr j).getD x 0 ∧ (stS fr j).getD x 0 ≤ 127 := by
  by_cases hx : x < 6
  · rw [stS_at fr j hx]; have := orN_le h hk x j hj; omega
  · rw [big_get (by rw [stS_len]; omega)]; omega
theorem stS_next (fr : List (Int × Int)) (j : Nat) : wiS (stS fr j) (fr.getD j (0, 0)).1 (fr.getD j (0, 0)).2 6 = stS fr (j + 1) := by
  refine lst_eq6 (wiS_len _ _ _ _) (stS_len _ _) fun x hx => ?_
  rw [wiS_at _ _ _ _ hx, stS_at _ _ hx, stS_at _ _ hx, orN]
  by_cases hb : bt (fr.getD j (0, 0)).1 x
  · rw [if_pos ⟨hx, hb⟩, if_pos hb, Int.toNat_natCast]
  · rw [if_neg (fun z => hb z.2), if_neg hb]
theorem stS_0 (fr : List (Int × Int)) : List.replicate 6 (0 : Int) = stS fr 0 := gK_zero (fun _ => rfl) 6
theorem sen_stS (fr : List (Int × Int)) {k : Nat} (hk : k ≤ 6) : (stS fr fr.length).take k = sen fr k := by
  unfold stS sen senK gK
  rw [← List.map_take, List.take_range, Nat.min_eq_left hk]
/-- The ghosts of a cell, seen or not. -/
def ghR (fr : List (Int × Int)) (x : Nat) : Nat → Nat
  | 0 => 0
  | i + 1 => if bt (fr.getD ((i + 1) % fr.length) (0, 0)).1 x then ghR fr x i ||| (fr.getD i (0, 0)).2.toNat else ghR fr x i
theorem ghR_le {k : Int} {fr : List (Int × Int)} (h : FrmP k fr) (hk : k ≤ 6) (x : Nat) : ∀ i, i ≤ fr.length → ghR fr x i ≤ 127
  | 0, _ => by simp [ghR]
  | i + 1, hi => by
    have ih := ghR_le h hk x i (by omega)
    have hb := h.bd hk (j := i) (by omega)
    unfold ghR; split
    · exact or_127 ih (by omega)
    · exact ih
theorem aN_or (a b s : Nat) : (a ||| b) ^^^ ((a ||| b) &&& s) = (a ^^^ (a &&& s)) ||| (b ^^^ (b &&& s)) := by
  apply Nat.eq_of_testBit_eq
  intro i
  simp only [Nat.testBit_or, Nat.testBit_xor, Nat.testBit_and]
  cases a.testBit i <;> cases b.testBit i <;> cases s.testBit i <;> rfl
theorem ghO_R (fr : List (Int × Int)) (x : Nat) : ∀ i, ghO fr x i = ghR fr x i ^^^ (ghR fr x i &&& orN fr x fr.length)
  | 0 => by simp [ghO, ghR]
  | i + 1 => by
    unfold ghO ghR
    split
    · rw [ghO_R fr x i, aN_or]
    · exact ghO_R fr x i
def ghS (fr : List (Int × Int)) (j : Nat) : List Int := gK (ghR fr) 6 j 0
theorem ghS_len (fr : List (Int × Int)) (j : Nat) : (ghS fr j).length = 6 := gK_len _ _ _ _
theorem ghS_at (fr : List (Int × Int)) (j : Nat) {x : Nat} (h : x < 6) : (ghS fr j).getD x 0 = ((ghR fr x j : Nat) : Int) := by
  unfold ghS; rw [gK_at h, if_neg (Nat.not_lt_zero _)]
theorem ghS_le {k : Int} {fr : List (Int × Int)} (h : FrmP k fr) (hk : k ≤ 6) {j : Nat} (hj : j ≤ fr.length) (x : Nat) : 0 ≤ (ghS fr j).getD x 0 ∧ (ghS fr j).getD x 0 ≤ 127 := by
  by_cases hx : x < 6
  · rw [ghS_at fr j hx]; have := ghR_le h hk x j hj; omega
  · rw [big_get (by rw [ghS_len]; omega)]; omega
theorem ghS_next (fr : List (Int × Int)) (j : Nat) : wiS (ghS fr j) (fr.getD ((j + 1) % fr.length) (0, 0)).1 (fr.getD j (0, 0)).2 6 = ghS fr (j + 1) := by
  refine lst_eq6 (wiS_len _ _ _ _) (ghS_len _ _) fun x hx => ?_
  rw [wiS_at _ _ _ _ hx, ghS_at _ _ hx, ghS_at _ _ hx, ghR]
  by_cases hb : bt (fr.getD ((j + 1) % fr.length) (0, 0)).1 x
  · rw [if_pos ⟨hx, hb⟩, if_pos hb, Int.toNat_natCast]
  · rw [if_neg (fun z => hb z.2), if_neg hb]
theorem ghS_0 (fr : List (Int × Int)) : List.replicate 6 (0 : Int) = ghS fr 0 := gK_zero (fun _ => rfl) 6
theorem fulN_all {l : List Int} {c : Int} (h0 : 0 ≤ c) (hl : l.length ≤ 6) (hc : c ≤ ((p2 l.length : Nat) : Int) - 1) : fulN l c 6 = fulN l c l.length :=
  skipN hl (fun x h1 h2 => by rw [fulN, if_neg (fun z => absurd (bt_lt h0 hl hc h2 z) (by omega))])
/-- A row of ghosts, the first m places. -/
def goK (fr : List (Int × Int)) (k m : Nat) : List Int := (List.range k).map fun x => if x < m then ((ghO fr x fr.length : Nat) : Int) else 0
theorem goK_len (fr : List (Int × Int)) (k m : Nat) : (goK fr k m).length = k := by simp [goK]
theorem goK_put {fr : List (Int × Int)} {k m o : Nat} {v : Int} (h : m < k) (ho : o = m) (hv : v = ((ghO fr m fr.length : Nat) : Int)) : putAt ((goK fr k m).map (PV.int .i64)) (o * 1) [PV.int .i64 v] = (goK fr k (m + 1)).map (PV.int .i64) := by
  subst ho
  rw [put_map1 (PV.int .i64) _ (by rw [goK_len]; exact h)]
  congr 1
  have := rng_set (f := fun x => if x < o then ((ghO fr x fr.length : Nat) : Int) else 0) (g := fun x => if x < o + 1 then ((ghO fr x fr.length : Nat) : Int) else 0) h (fun j hj hne => by
    by_cases e : j < o
    · rw [if_pos e, if_pos (by omega)]
    · rw [if_neg e, if_neg (by omega)])
  simp only [Nat.lt_succ_self, if_true] at this
  rw [hv]; unfold goK; exact this
theorem goK_0 (fr : List (Int × Int)) (k : Nat) : List.replicate k (0 : Int) = goK fr k 0 := by
  apply List.ext_getElem (by simp [goK])
  intro j h1 h2
  simp [goK]
theorem goK_end (fr : List (Int × Int)) (k : Nat) : goK fr k k = ghL fr k := by
  unfold goK ghL gK
  apply List.map_congr_left
  intro x hx
  rw [if_pos (List.mem_range.1 hx), if_neg (Nat.not_lt_zero _)]
theorem GdP.take6 {k : Int} {fr : List (Int × Int)} (h : GdP k fr) : k.toNat ≤ 6 := by have := h.1; omega

set_option maxRecDepth 4000 in
theorem impl_isDisplay (k : Int) : PCalls Try.prog 68 [.int .i64 k] (· = [.val (.bool (decide (1 ≤ k ∧ k ≤ 6)))]) := by
  refine pcalls_of_code (n := 9) az Try.func68 (by kernel_rfl) rfl rfl (Nat.le_of_ble_eq_true rfl) (by intro t u h; simp [Try.f68] at h) ?_
  refine code_seq (fun K1 hK1 => ?_)
  refine code_region ?_
  refine list_cons rfl (op_q (q_assign rfl (by decide)) ?_)
  refine list_nil ?_
  refine hK1 _ ?_; clear hK1 K1
  refine code_seq (fun K2 hK2 => ?_)
  refine code_region ?_
  refine list_cons rfl (op_q (q_move rfl (by decide)) ?_)
  refine list_cons rfl (op_q (q_ge rfl rfl (by decide)) ?_)
  refine list_cons rfl (op_q (q_move rfl (by decide)) ?_)
  refine list_guard_d rfl rfl rfl rfl (by decide) rfl (by decide) (fun h1 => ?_) (fun h1 => ?_)
  · simp only [Bool.false_eq_true, if_true, if_false, Decidable.not_not] at h1
    refine id (op_q (q_move rfl (by decide)) ?_)
    refine list_guard_y rfl rfl rfl rfl (by decide) rfl ?_
    refine id (op_q (q_le rfl rfl (by decide)) ?_)
    refine list_cons rfl (op_q (q_pick rfl rfl (by decide)) ?_)
    refine list_cons rfl (op_q (q_assign rfl (by decide)) ?_)
    refine list_nil ?_
    refine hK2 _ ?_; clear hK2 K2
    refine code_ret ?_
    refine ends_ret (cs := []) rfl rfl rfl rfl trivial ?_
    first | (congr 3; exact decide_eq_decide.mpr ⟨fun e => by omega, fun e => by omega⟩) | (rw [decide_eq_false (by omega)]; done)
  simp only [Bool.false_eq_true, if_true, if_false, Decidable.not_not] at h1
  refine list_guard_n rfl rfl rfl rfl (by decide) rfl ?_
  refine list_cons rfl (op_q (q_pick rfl rfl (by decide)) ?_)
  refine list_cons rfl (op_q (q_assign rfl (by decide)) ?_)
  refine list_nil ?_
  refine hK2 _ ?_; clear hK2 K2
  refine code_ret ?_
  refine ends_ret (cs := []) rfl rfl rfl rfl trivial ?_
  first | (congr 3; exact decide_eq_decide.mpr ⟨fun e => by omega, fun e => by omega⟩) | (rw [decide_eq_false (by omega)]; done)

set_option maxRecDepth 4000 in
theorem impl_isSlot (k cc b : Int) (hk : 1 ≤ k ∧ k ≤ 6) : PCalls Try.prog 71 [.int .i64 k, .agg [.int .i64 cc, .int .i64 b]] (· = [.val (.bool (decide (SlP k cc b)))]) := by
  refine pcalls_of_code (n := 20) az Try.func71 (by kernel_rfl) rfl rfl (Nat.le_of_ble_eq_true rfl) (by intro t u h; simp [Try.f71] at h) ?_
  have hp := p2_le6 hk.2
  refine code_seq (fun K1 hK1 => ?_)
  refine code_region ?_
  refine list_cons rfl (op_box rfl (.inl ⟨rfl, rfl⟩) (by decide) (by decide) rfl ?_)
  refine list_cons rfl (op_q (q_assign rfl (by decide)) ?_)
  refine list_nil ?_
  refine hK1 _ ?_; clear hK1 K1
  refine code_seq (fun K2 hK2 => ?_)
  refine code_draw (by kernel_rfl) (by kernel_rfl) ?_
  refine draw_q rfl (q_fieldAddr fi_71_0 rfl rfl (by decide)) ?_
  refine draw_q rfl (q_load one_3 3 rfl rfl rfl (by first | rfl | exact get_map1 _ 0 _ (by first | omega | (simp; omega))) (by decide)) ?_
  refine draw_q rfl (q_ge rfl rfl (by decide)) ?_
  refine draw_q rfl (q_move rfl (by decide)) ?_
  refine draw_guard_d rfl rfl rfl rfl (by decide) rfl (by decide) (fun h1 => q_fieldAddr fi_71_0 rfl rfl (by decide)) (fun h1 => ?_) (fun h1 => ?_)
  · simp only [Bool.false_eq_true, if_true, if_false, Decidable.not_not] at h1
    refine draw_guard_y rfl rfl rfl rfl (by decide) rfl (q_load one_3 3 rfl rfl rfl (by first | rfl | exact get_map1 _ 0 _ (by first | omega | (simp; omega))) (by decide)) ?_
    refine draw_guard_y rfl rfl rfl rfl (by decide) rfl (q_move rfl (by decide)) ?_
    refine draw_guard_y rfl rfl rfl rfl (by decide) rfl (by first | exact q_shl1 rfl rfl (by decide) (by omega) (by omega) | exact q_shlI rfl rfl (by decide) (by omega) (by omega) (by omega) | exact q_shl rfl rfl (by omega) (by decide)) ?_
    refine draw_guard_y rfl rfl rfl rfl (by decide) rfl (q_lt rfl rfl (by decide)) ?_
    refine draw_q rfl (q_pick rfl rfl (by decide)) ?_
    refine draw_q rfl (q_move rfl (by decide)) ?_
    refine draw_guard_d rfl rfl rfl rfl (by decide) rfl (by decide) (fun h2 => q_fieldAddr fi_71_1 rfl rfl (by decide)) (fun h2 => ?_) (fun h2 => ?_)
    · simp only [Bool.false_eq_true, if_true, if_false, Decidable.not_not] at h2
      refine draw_guard_y rfl rfl rfl rfl (by decide) rfl (q_load one_3 3 rfl rfl rfl (by first | rfl | exact get_map1 _ 0 _ (by first | omega | (simp; omega))) (by decide)) ?_
      refine draw_callW _ (impl_IsCell _) rfl rfl rfl (by decide) (wanted_of rfl rfl rfl (by decide)) ?_
      refine draw_q rfl (q_pick rfl rfl (by decide)) ?_
      refine draw_q rfl (q_assign rfl (by decide)) ?_
      refine draw_nil ?_
      refine hK2 _ ?_; clear hK2 K2
      refine codeT.imp (σ' := [(0, _), (1, _), (3, _), (4, _)]) ?_ (imp_covers ⟨rfl, rfl, rfl, rfl, trivial⟩)
      refine code_ret ?_
      refine ends_ret (cs := []) rfl rfl rfl rfl trivial ?_
      first
        | (congr 3; exact decide_eq_decide.mpr ⟨fun e => by unfold SlP; omega, fun e => by unfold SlP at e; omega⟩)
        | (rw [decide_eq_false (fun e => by unfold SlP at e; omega)]; done)
    simp only [Bool.false_eq_true, if_true, if_false, Decidable.not_not] at h2
    refine draw_guard_n rfl rfl rfl rfl (by decide) rfl ?_
    refine draw_guard_n rfl rfl rfl rfl (by decide) rfl ?_
    refine draw_q rfl (q_pick rfl rfl (by decide)) ?_
    refine draw_q rfl (q_assign rfl (by decide)) ?_
    refine draw_nil ?_
    refine hK2 _ ?_; clear hK2 K2
    refine codeT.imp (σ' := [(0, _), (1, _), (3, _), (4, _)]) ?_ (imp_covers ⟨rfl, rfl, rfl, rfl, trivial⟩)
    refine code_ret ?_
    refine ends_ret (cs := []) rfl rfl rfl rfl trivial ?_
    first
      | (congr 3; exact decide_eq_decide.mpr ⟨fun e => by unfold SlP; omega, fun e => by unfold SlP at e; omega⟩)
      | (rw [decide_eq_false (fun e => by unfold SlP at e; omega)]; done)
  simp only [Bool.false_eq_true, if_true, if_false, Decidable.not_not] at h1
  refine draw_guard_n rfl rfl rfl rfl (by decide) rfl ?_
  refine draw_guard_n rfl rfl rfl rfl (by decide) rfl ?_
  refine draw_guard_n rfl rfl rfl rfl (by decide) rfl ?_
  refine draw_guard_n rfl rfl rfl rfl (by decide) rfl ?_
  refine draw_q rfl (q_pick rfl rfl (by decide)) ?_
  refine draw_q rfl (q_move rfl (by decide)) ?_
  refine draw_guard_n rfl rfl rfl rfl (by decide) rfl ?_
  refine draw_guard_n rfl rfl rfl rfl (by decide) rfl ?_
  refine draw_guard_n rfl rfl rfl rfl (by decide) rfl ?_
  refine draw_q rfl (q_pick rfl rfl (by decide)) ?_
  refine draw_q rfl (q_assign rfl (by decide)) ?_
  refine draw_nil ?_
  refine hK2 _ ?_; clear hK2 K2
  refine codeT.imp (σ' := [(0, _), (1, _), (3, _), (4, _)]) ?_ (imp_covers ⟨rfl, rfl, rfl, rfl, trivial⟩)
  refine code_ret ?_
  refine ends_ret (cs := []) rfl rfl rfl rfl trivial ?_
  first
    | (congr 3; exact decide_eq_decide.mpr ⟨fun e => by unfold SlP; omega, fun e => by unfold SlP at e; omega⟩)
    | (rw [decide_eq_false (fun e => by unfold SlP at e; omega)]; done)

set_option maxRecDepth 4000 in
theorem isFrame1_c (k cc b : Int) (hk : 1 ≤ k ∧ k ≤ 6) : PCalls Try.prog 70 [.agg [.int .i64 cc, .int .i64 b], .ptr [.int .i64 k]] (· = [.val (.bool (decide (¬ SlP k cc b)))]) := by
  refine pcalls_of_code (n := 8) az Try.func70 (by kernel_rfl) rfl rfl (Nat.le_of_ble_eq_true rfl) (by intro t u h; simp [Try.f70] at h) ?_
  refine codeT.imp ?_ (imp_rpar (s := 1) (i := 1) rfl)
  refine code_seq (fun K1 hK1 => ?_)
  refine code_region ?_
  refine list_cons rfl (op_box rfl (.inl ⟨rfl, rfl⟩) (by decide) (by decide) rfl ?_)
  refine list_cons rfl (op_q (q_assign rfl (by decide)) ?_)
  refine list_nil ?_
  refine hK1 _ ?_; clear hK1 K1
  refine code_seq (fun K2 hK2 => ?_)
  refine code_region ?_
  refine list_cons rfl (op_q (q_load_rd one_3 rfl (.inl ⟨_, (by first | rfl | exact congrArg (SV.rpar _) (drop_map1 _ 0 _ (by first | omega | (simp; omega)))), rfl⟩) (by decide)) ?_)
  refine list_cons rfl (op_q (q_load_agg agg_71 2 (.inr ⟨rfl, _, rfl⟩) rfl rfl (by first | decide | omega | exact Nat.le_refl _ | (simp; done) | (simp; omega)) (by first | rfl | exact flat_part (flat_map _ (fun _ => rfl) _) _ _) (by decide)) ?_)
  refine list_cons rfl (op_call _ (impl_isSlot _ _ _ (by assumption)) rfl rfl (by decide) (by decide) (by decide) rfl ?_)
  rintro _ rfl
  refine list_cons rfl (op_q (by first | exact q_notd rfl (by decide) | exact q_not rfl (by decide)) ?_)
  refine list_cons rfl (op_q (q_assign rfl (by decide)) ?_)
  refine list_nil ?_
  refine hK2 _ ?_; clear hK2 K2
  refine codeT.imp (σ' := [(0, _), (1, _), (2, _), (3, _)]) ?_ (imp_covers ⟨rfl, rfl, rfl, rfl, trivial⟩)
  refine code_ret ?_
  refine ends_ret (cs := []) rfl rfl rfl rfl trivial ?_
  rfl

set_option maxRecDepth 4000 in
theorem indexS_c (fr : List (Int × Int)) (f : FuncId) (z caps : List PV) (p : Int → Int → Prop) [∀ a b, Decidable (p a b)] (hf : fr.length ≤ 1048576) (hc : ∀ j, j < fr.length → PCalls Try.prog f (.agg [.int .i64 (fr.getD j (0, 0)).1, .int .i64 (fr.getD j (0, 0)).2] :: .ptr z :: caps) (· = [.val (.bool (decide (p (fr.getD j (0, 0)).1 (fr.getD j (0, 0)).2)))])) : PCalls Try.prog 108 [.sl fr.length (fl fr), .clo f (.ptr z :: caps)] (fun rs => ∃ i : Int, rs = [.val (.int .i64 i)] ∧ (0 ≤ i ↔ ∃ j, j < fr.length ∧ p (fr.getD j (0, 0)).1 (fr.getD j (0, 0)).2)) := by
  refine pcalls_of_code (n := 19) az Try.func108 (by kernel_rfl) rfl rfl (Nat.le_of_ble_eq_true rfl) (by intro t u h; simp [Try.f108] at h) ?_
  have hfl := fl_len fr
  refine code_seq (fun K1 hK1 => ?_)
  refine code_region ?_
  refine list_cons rfl (op_q (q_assign rfl (by decide)) ?_)
  refine list_nil ?_
  refine hK1 _ ?_; clear hK1 K1
  refine code_seq (fun K2 hK2 => ?_)
  refine code_seq (fun K3 hK3 => ?_)
  refine code_region ?_
  refine list_cons rfl (op_q (q_move rfl (by decide)) ?_)
  refine list_cons rfl (op_q (q_len_sl Try.underlying24 rfl rfl (by decide)) ?_)
  refine list_cons rfl (op_q (q_move rfl (by decide)) ?_)
  refine list_nil ?_
  refine hK3 _ ?_; clear hK3 K3
  refine code_block ?_
  refine code_loop (X := Int × Int) (fun x => [(0, .par 0 (.sl fr.length (fl fr))), (1, .par 1 (.clo f (.ptr z :: caps))), (4, .val (.int .i64 x.1)), (7, .val (.int .i64 fr.length)), (8, .val (.int .i64 x.2))]) (fun x => 0 ≤ x.2 ∧ x.2 ≤ fr.length ∧ ∀ j, j < x.2.toNat → ¬ p (fr.getD j (0, 0)).1 (fr.getD j (0, 0)).2) (fun x => (fr.length - x.2).toNat) (_, _) (imp_covers ⟨rfl, rfl, rfl, rfl, rfl, trivial⟩) ?_ ?_
  · (try dsimp only)
    exact ⟨by omega, by omega, fun j hj => by simp at hj⟩
  · intro x hI
    obtain ⟨t4, t8⟩ := x
    replace hI : 0 ≤ t8 ∧ t8 ≤ fr.length ∧ ∀ j, j < t8.toNat → ¬ p (fr.getD j (0, 0)).1 (fr.getD j (0, 0)).2 := hI
    show codeT _ _ _ [(0, .par 0 (.sl fr.length (fl fr))), (1, .par 1 (.clo f (.ptr z :: caps))), (4, .val (.int .i64 t4)), (7, .val (.int .i64 fr.length)), (8, .val (.int .i64 t8))] _
    obtain ⟨i1, i2, i3⟩ := hI
    refine code_seq (fun K4 hK4 => ?_)
    refine code_region ?_
    refine list_cons rfl (op_q (q_lt rfl rfl (by decide)) ?_)
    refine list_nil ?_
    refine hK4 _ ?_; clear hK4 K4
    refine code_seq (fun K5 hK5 => ?_)
    refine code_cond_d rfl (fun h1 => ?_) (fun h1 => ?_)
    · skip
      (try simp only [Decidable.not_not] at h1)
      refine code_skip ?_
      refine hK5 _ ?_; clear hK5 K5
      refine code_seq (fun K6 hK6 => ?_)
      refine code_block ?_
      refine code_seq (fun K7 hK7 => ?_)
      refine code_region ?_
      refine list_cons rfl (op_q (q_move rfl (by decide)) ?_)
      refine list_cons rfl (op_q (q_assign rfl (by decide)) ?_)
      refine list_nil ?_
      refine hK7 _ ?_; clear hK7 K7
      refine code_seq (fun K8 hK8 => ?_)
      refine code_region ?_
      refine list_cons rfl (op_q (q_move rfl (by decide)) ?_)
      refine list_cons rfl (op_q (q_move rfl (by decide)) ?_)
      refine list_cons rfl (op_q (q_move rfl (by decide)) ?_)
      refine list_cons rfl (op_q (q_indexAddr_rd sl_24 rfl (.inl ⟨_, rfl, rfl⟩) rfl (by omega) (by omega) (by decide)) ?_)
      refine list_cons rfl (op_q (q_load_rd_aggE agg_71 rfl (.inl ⟨_, rfl⟩) (by first | decide | omega | exact Nat.le_refl _ | (simp; done) | (simp; omega)) (fl_at fr t8.toNat (by omega)) rfl (by decide)) ?_)
      refine list_cons rfl (op_callV _ rfl rfl rfl rfl (pcV (hc t8.toNat (by omega))) (by decide) ?_)
      rintro _ rfl
      refine list_nil ?_
      refine hK8 _ ?_; clear hK8 K8
      refine codeT.imp (σ' := [(0, _), (1, _), (4, _), (5, _), (7, _), (8, _), (16, _)]) ?_ (imp_covers ⟨rfl, rfl, rfl, rfl, rfl, rfl, rfl, trivial⟩)
      refine code_cond_d rfl (fun h2 => ?_) (fun h2 => ?_)
      · skip
        (try simp only [Decidable.not_not] at h2)
        refine code_seq (fun K9 hK9 => ?_)
        refine code_region ?_
        refine list_cons rfl (op_q (q_move rfl (by decide)) ?_)
        refine list_cons rfl (op_q (q_assign rfl (by decide)) ?_)
        refine list_nil ?_
        refine hK9 _ ?_; clear hK9 K9
        refine code_ret ?_
        refine blk_r ?_
        refine then_r ?_; clear hK6 K6
        refine then_r ?_
        refine blk_r ?_
        refine then_r ?_; clear hK2 K2
        refine ends_ret (cs := []) rfl rfl rfl rfl trivial ?_
        first
          | exact ⟨_, rfl, fun _ => ⟨t8.toNat, by omega, h2⟩, fun _ => by omega⟩
          | exact ⟨_, rfl, fun h => by omega, fun ⟨j, hj, hp⟩ => absurd hp (i3 j (by omega))⟩
      (try simp only [Decidable.not_not] at h2)
      refine code_skip ?_
      refine blk_n ?_
      refine hK6 _ ?_; clear hK6 K6
      refine code_region ?_
      refine list_cons rfl (op_q (by first | exact q_addI rfl rfl (by decide) (by omega) (by omega) | exact q_ib rfl rfl rfl (by decide)) ?_)
      refine list_cons rfl (op_q (q_move rfl (by decide)) ?_)
      refine list_nil ?_
      refine then_n ⟨(_, _), imp_covers ⟨rfl, rfl, rfl, rfl, rfl, trivial⟩, ?_, ?_⟩
      · (try dsimp only)
        refine ⟨by omega, by omega, fun j hj => ?_⟩
        by_cases e : j = t8.toNat
        · subst e; exact h2
        · exact i3 j (by omega)
      · (try dsimp only); omega
    (try simp only [Decidable.not_not] at h1)
    refine code_exit ?_
    refine then_x ?_; clear hK5 K5
    refine then_x ?_
    refine blk_hit ?_
    refine hK2 _ ?_; clear hK2 K2
    refine code_seq (fun K10 hK10 => ?_)
    refine code_region ?_
    refine list_cons rfl (op_q (q_assign rfl (by decide)) ?_)
    refine list_nil ?_
    refine hK10 _ ?_; clear hK10 K10
    refine code_ret ?_
    refine ends_ret (cs := []) rfl rfl rfl rfl trivial ?_
    first
      | exact ⟨_, rfl, fun _ => ⟨t8.toNat, by omega, h1⟩, fun _ => by omega⟩
      | exact ⟨_, rfl, fun h => by omega, fun ⟨j, hj, hp⟩ => absurd hp (i3 j (by omega))⟩

set_option maxRecDepth 4000 in
theorem containsS_c (fr : List (Int × Int)) (f : FuncId) (z caps : List PV) (p : Int → Int → Prop) [∀ a b, Decidable (p a b)] (hf : fr.length ≤ 1048576) (hc : ∀ j, j < fr.length → PCalls Try.prog f (.agg [.int .i64 (fr.getD j (0, 0)).1, .int .i64 (fr.getD j (0, 0)).2] :: .ptr z :: caps) (· = [.val (.bool (decide (p (fr.getD j (0, 0)).1 (fr.getD j (0, 0)).2)))])) : PCalls Try.prog 69 [.sl fr.length (fl fr), .clo f (.ptr z :: caps)] (fun rs => rs = [.val (.bool (decide (∃ j, j < fr.length ∧ p (fr.getD j (0, 0)).1 (fr.getD j (0, 0)).2)))]) := by
  refine pcalls_of_code (n := 9) az Try.func69 (by kernel_rfl) rfl rfl (Nat.le_of_ble_eq_true rfl) (by intro t u h; simp [Try.f69] at h) ?_
  refine code_seq (fun K1 hK1 => ?_)
  refine code_region ?_
  refine list_cons rfl (op_q (q_assign rfl (by decide)) ?_)
  refine list_nil ?_
  refine hK1 _ ?_; clear hK1 K1
  refine code_seq (fun K2 hK2 => ?_)
  refine code_region ?_
  refine list_cons rfl (op_q (q_move rfl (by decide)) ?_)
  refine list_cons rfl (op_q (q_move rfl (by decide)) ?_)
  refine list_cons rfl (op_call _ (indexS_c fr f z caps p hf hc) rfl rfl (by decide) (by decide) (by decide) rfl ?_)
  rintro _ ⟨ix, rfl, hix⟩
  refine list_cons rfl (op_q (q_ge rfl rfl (by decide)) ?_)
  refine list_cons rfl (op_q (q_assign rfl (by decide)) ?_)
  refine list_nil ?_
  refine hK2 _ ?_; clear hK2 K2
  refine codeT.imp (σ' := [(0, _), (1, _), (4, _)]) ?_ (imp_covers ⟨rfl, rfl, rfl, trivial⟩)
  refine code_ret ?_
  refine ends_ret (cs := []) rfl rfl rfl rfl trivial ?_
  congr 3
  exact decide_eq_decide.mpr hix

set_option maxRecDepth 8000 in
set_option maxHeartbeats 2000000 in
theorem impl_IsFrame (k : Int) (fr : List (Int × Int)) (hf : fr.length ≤ 1048576) : PCalls Try.prog 20 [.int .i64 k, .sl fr.length (fl fr)] (· = [.val (.bool (decide (GdP k fr))), .val (.bool (decide (1 ≤ k ∧ k ≤ 6)))]) := by
  refine pcalls_of_code (n := 20) az Try.func20 (by kernel_rfl) rfl rfl (Nat.le_of_ble_eq_true rfl) (by intro t u h; simp [Try.f20] at h) ?_
  refine code_seq (fun K1 hK1 => ?_)
  refine code_region ?_
  refine list_cons rfl (op_box rfl (.inl ⟨rfl, rfl⟩) (by decide) (by decide) rfl ?_)
  refine list_cons rfl (op_q (q_assign rfl (by decide)) ?_)
  refine list_cons rfl (op_q (q_assign rfl (by decide)) ?_)
  refine list_nil ?_
  refine hK1 _ ?_; clear hK1 K1
  refine code_seq (fun K2 hK2 => ?_)
  refine code_seq (fun K3 hK3 => ?_)
  refine code_region ?_
  refine list_cons rfl (op_q (q_load_box1 one_3 rfl rfl (by decide)) ?_)
  refine list_cons rfl (op_call _ (impl_isDisplay _) rfl rfl (by decide) (by decide) (by decide) rfl ?_)
  rintro _ rfl
  refine list_cons rfl (op_q (by first | exact q_notd rfl (by decide) | exact q_not rfl (by decide)) ?_)
  refine list_nil ?_
  refine hK3 _ ?_; clear hK3 K3
  refine codeT.imp (σ' := [(0, _), (1, _), (2, _), (4, _), (5, _), (9, _)]) ?_ (imp_covers ⟨rfl, rfl, rfl, rfl, rfl, rfl, trivial⟩)
  refine code_cond_d rfl (fun h1 => ?_) (fun h1 => ?_)
  · skip
    (try simp only [Decidable.not_not] at h1); (try have hk := (h1 : 1 ≤ k ∧ k ≤ 6))
    refine code_seq (fun K4 hK4 => ?_)
    refine code_region ?_
    refine list_cons rfl (op_q (q_assign rfl (by decide)) ?_)
    refine list_cons rfl (op_q (q_assign rfl (by decide)) ?_)
    refine list_nil ?_
    refine hK4 _ ?_; clear hK4 K4
    refine code_ret ?_
    refine then_r ?_; clear hK2 K2
    refine ends_ret (cs := []) rfl rfl rfl rfl trivial ?_
    first
      | (have e : ¬ (1 ≤ k ∧ k ≤ 6) := (by assumption)
         rw [decide_eq_false (fun z : GdP k fr => e z.1), decide_eq_false e]; done)
      | (rw [decide_eq_true hk]
         first
         | (congr 3; exact decide_eq_decide.mpr ⟨fun e => ⟨hk, by omega, fun j hj => Decidable.not_not.1 (fun z => (by assumption : ¬ ∃ j, j < fr.length ∧ ¬ SlP k (fr.getD j (0, 0)).1 (fr.getD j (0, 0)).2) ⟨j, hj, z⟩)⟩, fun e => by have := e.2.1; omega⟩)
         | (rw [decide_eq_false (fun z : GdP k fr => by obtain ⟨j, hj, hp⟩ := (by assumption : ∃ j, j < fr.length ∧ ¬ SlP k (fr.getD j (0, 0)).1 (fr.getD j (0, 0)).2); exact hp (z.2.2 j hj))]; done))
  (try simp only [Decidable.not_not] at h1); (try have hk := (h1 : 1 ≤ k ∧ k ≤ 6))
  refine code_skip ?_
  refine hK2 _ ?_; clear hK2 K2
  refine code_seq (fun K5 hK5 => ?_)
  refine code_region ?_
  refine list_cons rfl (op_q (q_move rfl (by decide)) ?_)
  refine list_cons rfl (op_makeFunc (xs := [.tmp 2]) rfl rfl rfl (by decide) (by decide) rfl ?_)
  refine list_cons rfl (op_call _ (containsS_c fr 70 [.int .i64 k] [] (fun a b => ¬ SlP k a b) hf (fun j _ => isFrame1_c k _ _ hk)) rfl rfl (by decide) (by decide) (by decide) rfl ?_)
  rintro _ rfl
  refine list_cons rfl (op_q (q_assign rfl (by decide)) ?_)
  refine list_nil ?_
  refine hK5 _ ?_; clear hK5 K5
  refine codeT.imp (σ' := [(0, _), (1, _), (2, _), (4, _), (5, _), (6, _)]) ?_ (imp_covers ⟨rfl, rfl, rfl, rfl, rfl, rfl, trivial⟩)
  refine code_seq (fun K6 hK6 => ?_)
  refine code_region ?_
  refine list_cons rfl (op_q (q_move rfl (by decide)) ?_)
  refine list_cons rfl (op_q (by first | exact q_notd rfl (by decide) | exact q_not rfl (by decide)) ?_)
  refine list_cons rfl (op_q (q_move rfl (by decide)) ?_)
  refine list_guard_d rfl rfl rfl rfl (by decide) rfl (by decide) (fun h2 => ?_) (fun h2 => ?_)
  · simp only [Bool.false_eq_true, if_true, if_false, Decidable.not_not] at h2
    (try simp only [Decidable.not_not] at h2); (try have hk := (h2 : 1 ≤ k ∧ k ≤ 6))
    refine id (op_q (q_move rfl (by decide)) ?_)
    refine list_guard_y rfl rfl rfl rfl (by decide) rfl ?_
    refine id (op_q (q_len_sl Try.underlying24 rfl rfl (by decide)) ?_)
    refine list_guard_y rfl rfl rfl rfl (by decide) rfl ?_
    refine id (op_q (q_le rfl rfl (by decide)) ?_)
    refine list_cons rfl (op_q (q_pick rfl rfl (by decide)) ?_)
    refine list_cons rfl (op_q (q_assign rfl (by decide)) ?_)
    refine list_cons rfl (op_q (q_assign rfl (by decide)) ?_)
    refine list_nil ?_
    refine hK6 _ ?_; clear hK6 K6
    refine codeT.imp (σ' := [(0, _), (1, _), (2, _), (4, _), (5, _), (6, _)]) ?_ (imp_covers ⟨rfl, rfl, rfl, rfl, rfl, rfl, trivial⟩)
    refine code_ret ?_
    refine ends_ret (cs := []) rfl rfl rfl rfl trivial ?_
    first
      | (have e : ¬ (1 ≤ k ∧ k ≤ 6) := (by assumption)
         rw [decide_eq_false (fun z : GdP k fr => e z.1), decide_eq_false e]; done)
      | (rw [decide_eq_true hk]
         first
         | (congr 3; exact decide_eq_decide.mpr ⟨fun e => ⟨hk, by omega, fun j hj => Decidable.not_not.1 (fun z => (by assumption : ¬ ∃ j, j < fr.length ∧ ¬ SlP k (fr.getD j (0, 0)).1 (fr.getD j (0, 0)).2) ⟨j, hj, z⟩)⟩, fun e => by have := e.2.1; omega⟩)
         | (rw [decide_eq_false (fun z : GdP k fr => by obtain ⟨j, hj, hp⟩ := (by assumption : ∃ j, j < fr.length ∧ ¬ SlP k (fr.getD j (0, 0)).1 (fr.getD j (0, 0)).2); exact hp (z.2.2 j hj))]; done))
  simp only [Bool.false_eq_true, if_true, if_false, Decidable.not_not] at h2
  (try simp only [Decidable.not_not] at h2); (try have hk := (h2 : 1 ≤ k ∧ k ≤ 6))
  refine list_guard_n rfl rfl rfl rfl (by decide) rfl ?_
  refine list_guard_n rfl rfl rfl rfl (by decide) rfl ?_
  refine list_cons rfl (op_q (q_pick rfl rfl (by decide)) ?_)
  refine list_cons rfl (op_q (q_assign rfl (by decide)) ?_)
  refine list_cons rfl (op_q (q_assign rfl (by decide)) ?_)
  refine list_nil ?_
  refine hK6 _ ?_; clear hK6 K6
  refine code_ret ?_
  refine ends_ret (cs := []) rfl rfl rfl rfl trivial ?_
  first
    | (have e : ¬ (1 ≤ k ∧ k ≤ 6) := (by assumption)
       rw [decide_eq_false (fun z : GdP k fr => e z.1), decide_eq_false e]; done)
    | (rw [decide_eq_true hk]
       first
       | (congr 3; exact decide_eq_decide.mpr ⟨fun e => ⟨hk, by omega, fun j hj => Decidable.not_not.1 (fun z => (by assumption : ¬ ∃ j, j < fr.length ∧ ¬ SlP k (fr.getD j (0, 0)).1 (fr.getD j (0, 0)).2) ⟨j, hj, z⟩)⟩, fun e => by have := e.2.1; omega⟩)
       | (rw [decide_eq_false (fun z : GdP k fr => by obtain ⟨j, hj, hp⟩ := (by assumption : ∃ j, j < fr.length ∧ ¬ SlP k (fr.getD j (0, 0)).1 (fr.getD j (0, 0)).2); exact hp (z.2.2 j hj))]; done))

set_option maxRecDepth 8000 in
set_option maxHeartbeats 2000000 in
theorem placesIn_it (c : Int) (hc : 0 ≤ c ∧ c ≤ 63) : ITer Try.prog 111 [.ptr [.int .i64 c]] ((plN c).length) (fun i => [.int .i64 ((pl c i : Nat) : Int)]) := by
  refine iter_of_code (n := 19) Try.func111 (by kernel_rfl) rfl rfl (Nat.le_of_ble_eq_true rfl) rfl (fun Y hYN hYe => ?_)
  refine codeY_imp (σ' := [(0, _), (1, _)]) rfl (imp_covers ⟨rfl, rfl, trivial⟩) ?_
  refine codeY_seq (fun K1 hK1 => ?_)
  refine codeY_of rfl rfl ?_
  refine code_region ?_
  refine list_cons rfl (op_q (q_move rfl (by decide)) ?_)
  refine list_nil ?_
  refine thy_n ?_
  refine hK1 _ _ ?_; clear hK1 K1
  refine codeY_imp (σ' := [(0, _), (1, _), (4, _)]) rfl (imp_covers ⟨rfl, rfl, rfl, trivial⟩) ?_
  refine codeY_block ?_
  refine codeY_loop (X := Int) (fun x => [(0, .yld Y.l), (1, .rpar 1 [.int .i64 c]), (4, .val (.int .i64 x))]) (fun x => (false, pcn c x.toNat)) (fun x => 0 ≤ x ∧ x ≤ 6) (fun x => (6 - x).toNat) (_) rfl (imp_covers ⟨rfl, rfl, rfl, trivial⟩) rfl ?_ ?_
  · (try dsimp only)
    exact ⟨by omega, by omega⟩
  · intro x hI
    revert hI; revert x; intro t4 hI
    replace hI : 0 ≤ t4 ∧ t4 ≤ 6 := hI
    show codeY _ _ _ [(0, .yld Y.l), (1, .rpar 1 [.int .i64 c]), (4, .val (.int .i64 t4))] (false, pcn c t4.toNat) _
    obtain ⟨i1, i2⟩ := hI
    refine codeY_seq (fun K2 hK2 => ?_)
    refine codeY_of rfl rfl ?_
    refine code_region ?_
    refine list_cons rfl (op_q (q_lt rfl rfl (by decide)) ?_)
    refine list_nil ?_
    refine thy_n ?_
    refine hK2 _ _ ?_; clear hK2 K2
    refine codeY_imp (σ' := [(0, _), (1, _), (4, _), (5, _)]) rfl (imp_covers ⟨rfl, rfl, rfl, rfl, trivial⟩) ?_
    refine codeY_seq (fun K3 hK3 => ?_)
    refine codeY_of rfl rfl ?_
    refine code_cond_d rfl (fun h1 => ?_) (fun h1 => ?_)
    · skip
      (try simp only [Decidable.not_not] at h1); (try have hb : bt c t4.toNat := h1; have hpa := pl_at hc (m := t4.toNat) (by omega) hb); (try have hnb : ¬ bt c t4.toNat := h1)
      refine code_skip ?_
      refine thy_n ?_
      refine hK3 _ _ ?_; clear hK3 K3
      refine codeY_imp (σ' := [(0, _), (1, _), (4, _)]) rfl (imp_covers ⟨rfl, rfl, rfl, trivial⟩) ?_
      refine codeY_seq (fun K4 hK4 => ?_)
      refine codeY_block ?_
      refine codeY_seq (fun K5 hK5 => ?_)
      refine codeY_of rfl rfl ?_
      refine code_region ?_
      refine list_cons rfl (op_q (q_move rfl (by decide)) ?_)
      refine list_cons rfl (op_q (q_assign rfl (by decide)) ?_)
      refine list_nil ?_
      refine thy_n ?_
      refine hK5 _ _ ?_; clear hK5 K5
      refine codeY_imp (σ' := [(0, _), (1, _), (3, _), (4, _)]) rfl (imp_covers ⟨rfl, rfl, rfl, rfl, trivial⟩) ?_
      refine codeY_seq (fun K6 hK6 => ?_)
      refine codeY_region ?_
      refine listY_op rfl rfl (op_q (q_load_rd one_3 rfl (.inl ⟨_, (by first | rfl | exact congrArg (SV.rpar _) (drop_map1 _ 0 _ (by first | omega | (simp; omega)))), rfl⟩) (by decide)) ?_)
      refine listY_op rfl rfl (op_q (q_move rfl (by decide)) ?_)
      refine listY_op rfl rfl (op_q (by first | exact q_shrN rfl rfl (by decide) (by omega) (by omega) (by omega) | exact q_shrI rfl rfl (by decide) (by omega) (by omega) (by omega) | exact q_shr rfl rfl (by omega) (by decide)) ?_)
      refine listY_op rfl rfl (op_q (by first | exact q_andI rfl rfl (by decide) (by omega) (by omega) (by omega) (by omega) | exact q_ib rfl rfl rfl (by decide)) ?_)
      refine listY_op rfl rfl (op_q (q_eq rfl rfl (by decide)) ?_)
      refine listY_op rfl rfl (op_q (q_move rfl (by decide)) ?_)
      refine listY_split (dj := 12) rfl (fun h2 => ?_) (fun h2 => ?_)
      · skip
        (try simp only [Decidable.not_not] at h2); (try have hb : bt c t4.toNat := h2; have hpa := pl_at hc (m := t4.toNat) (by omega) hb); (try have hnb : ¬ bt c t4.toNat := h2)
        refine listY_guard_y rfl rfl rfl (by decide) rfl (op_q (q_move rfl (by decide)) ?_)
        refine listY_guard_y rfl rfl rfl (by decide) rfl (op_q (q_move rfl (by decide)) ?_)
        refine listY_yieldG (k := pcn c t4.toNat) rfl rfl (by rw [hYe]; show some [PV.int .i64 t4] = some [PV.int .i64 ((pl c (pcn c t4.toNat) : Nat) : Int)]; rw [hpa.1, Int.toNat_of_nonneg i1]) (by rw [hYe]; rfl) (by rw [hYN]; exact hpa.2) rfl (by decide) (.inr ⟨_, _, _, rfl, rfl, rfl, by decide⟩) ?_ ?_
        · skip
          refine listY_guard_y rfl rfl rfl (by decide) rfl (op_q (by first | exact q_notd rfl (by decide) | exact q_not rfl (by decide)) ?_)
          refine listY_op rfl rfl (op_q (q_pick rfl rfl (by decide)) ?_)
          refine listY_nil ?_
          refine thy_n ?_
          refine hK6 _ _ ?_; clear hK6 K6
          refine codeY_imp (σ' := [(0, _), (1, _), (3, _), (4, _), (17, _)]) rfl (imp_covers ⟨rfl, rfl, rfl, rfl, rfl, trivial⟩) ?_
          refine codeY_of rfl rfl ?_
          refine code_cond_f rfl ?_
          refine code_skip ?_
          refine bly_n ?_
          refine thy_n ?_
          refine hK4 _ _ ?_; clear hK4 K4
          refine codeY_imp (σ' := [(0, _), (1, _), (3, _), (4, _)]) rfl (imp_covers ⟨rfl, rfl, rfl, rfl, trivial⟩) ?_
          refine codeY_of rfl rfl ?_
          refine code_region ?_
          refine list_cons rfl (op_q (by first | exact q_addI rfl rfl (by decide) (by omega) (by omega) | exact q_ib rfl rfl rfl (by decide)) ?_)
          refine list_cons rfl (op_q (q_move rfl (by decide)) ?_)
          refine list_nil ?_
          refine thy_n ⟨(_), rfl, imp_covers ⟨rfl, rfl, rfl, trivial⟩, ?_, ?_, ?_⟩
          · first | (rw [show (t4 + 1).toNat = t4.toNat + 1 by omega, pcn_succ, if_pos hb] <;> rfl) | (rw [show (t4 + 1).toNat = t4.toNat + 1 by omega, pcn_succ, if_neg hnb] <;> rfl)
          · (try dsimp only)
            exact ⟨by omega, by omega⟩
          · (try dsimp only); omega
        · skip
          refine listY_guard_y rfl rfl rfl (by decide) rfl (op_q (by first | exact q_notd rfl (by decide) | exact q_not rfl (by decide)) ?_)
          refine listY_op rfl rfl (op_q (q_pick rfl rfl (by decide)) ?_)
          refine listY_nil ?_
          refine thy_n ?_
          refine hK6 _ _ ?_; clear hK6 K6
          refine codeY_imp (σ' := [(0, _), (1, _), (3, _), (4, _), (17, _)]) rfl (imp_covers ⟨rfl, rfl, rfl, rfl, rfl, trivial⟩) ?_
          refine codeY_of rfl rfl ?_
          refine code_cond_t rfl ?_
          refine code_ret ?_
          refine bly_r ?_
          refine thy_r ?_
          refine thy_r ?_
          refine bly_r ?_
          exact ⟨.inr rfl, .inl ⟨rfl, by (try dsimp only); omega⟩⟩
      · skip
        (try simp only [Decidable.not_not] at h2); (try have hb : bt c t4.toNat := h2; have hpa := pl_at hc (m := t4.toNat) (by omega) hb); (try have hnb : ¬ bt c t4.toNat := h2)
        refine listY_guard_n rfl rfl rfl rfl (by decide) (by decide) ?_
        refine listY_guard_n rfl rfl rfl rfl (by decide) (by decide) ?_
        refine listY_guard_n rfl rfl rfl rfl (by decide) (by decide) ?_
        refine listY_guard_n rfl rfl rfl rfl (by decide) (by decide) ?_
        refine listY_op rfl rfl (op_q (q_pick rfl rfl (by decide)) ?_)
        refine listY_nil ?_
        refine thy_n ?_
        refine hK6 _ _ ?_; clear hK6 K6
        refine codeY_imp (σ' := [(0, _), (1, _), (3, _), (4, _), (17, _)]) rfl (imp_covers ⟨rfl, rfl, rfl, rfl, rfl, trivial⟩) ?_
        refine codeY_of rfl rfl ?_
        refine code_cond_f rfl ?_
        refine code_skip ?_
        refine bly_n ?_
        refine thy_n ?_
        refine hK4 _ _ ?_; clear hK4 K4
        refine codeY_imp (σ' := [(0, _), (1, _), (3, _), (4, _)]) rfl (imp_covers ⟨rfl, rfl, rfl, rfl, trivial⟩) ?_
        refine codeY_of rfl rfl ?_
        refine code_region ?_
        refine list_cons rfl (op_q (by first | exact q_addI rfl rfl (by decide) (by omega) (by omega) | exact q_ib rfl rfl rfl (by decide)) ?_)
        refine list_cons rfl (op_q (q_move rfl (by decide)) ?_)
        refine list_nil ?_
        refine thy_n ⟨(_), rfl, imp_covers ⟨rfl, rfl, rfl, trivial⟩, ?_, ?_, ?_⟩
        · first | (rw [show (t4 + 1).toNat = t4.toNat + 1 by omega, pcn_succ, if_pos hb] <;> rfl) | (rw [show (t4 + 1).toNat = t4.toNat + 1 by omega, pcn_succ, if_neg hnb] <;> rfl)
        · (try dsimp only)
          exact ⟨by omega, by omega⟩
        · (try dsimp only); omega
    (try simp only [Decidable.not_not] at h1); (try have hb : bt c t4.toNat := h1; have hpa := pl_at hc (m := t4.toNat) (by omega) hb); (try have hnb : ¬ bt c t4.toNat := h1)
    refine code_exit ?_
    refine thy_x ?_; clear hK3 K3
    refine thy_x ?_
    refine bly_hit ?_
    exact ⟨.inl rfl, .inr (by rw [← pl_all c, show t4.toNat = 6 by omega])⟩

set_option maxRecDepth 4000 in
theorem placesIn_c (c : Int) : PCalls Try.prog 74 [.int .i64 c] (· = [.frz 0 (.clo 111 [.ptr [.int .i64 c]])]) := by
  refine pcalls_of_code (n := 4) az Try.func74 (by kernel_rfl) rfl rfl (Nat.le_of_ble_eq_true rfl) (by intro t u h; simp [Try.f74] at h) ?_
  refine code_seq (fun K1 hK1 => ?_)
  refine code_region ?_
  refine list_cons rfl (op_box rfl (.inl ⟨rfl, rfl⟩) (by decide) (by decide) rfl ?_)
  refine list_cons rfl (op_q (q_deadconst (by decide)) ?_)
  refine list_nil ?_
  refine hK1 _ ?_; clear hK1 K1
  refine code_seq (fun K2 hK2 => ?_)
  refine code_region ?_
  refine list_cons rfl (op_makeFunc (xs := [.tmp 1]) rfl rfl rfl (by decide) (by decide) rfl ?_)
  refine list_cons rfl (op_q (q_assign rfl (by decide)) ?_)
  refine list_nil ?_
  refine hK2 _ ?_; clear hK2 K2
  refine codeT.imp (σ' := [(0, _), (1, _), (2, _)]) ?_ (imp_covers ⟨rfl, rfl, rfl, trivial⟩)
  refine code_ret ?_
  refine ends_ret (cs := []) rfl rfl rfl rfl trivial ?_
  rfl

set_option maxRecDepth 8000 in
set_option maxHeartbeats 2000000 in
theorem with_c (s : List Int) (c b : Int) (hs : s.length = 6) (hv : ∀ j, 0 ≤ s.getD j 0 ∧ s.getD j 0 ≤ 127) (hc : 0 ≤ c ∧ c ≤ 63) (hb : 0 ≤ b ∧ b ≤ 127) : PCalls Try.prog 77 [.agg (s.map (.int .i64)), .agg [.int .i64 c, .int .i64 b]] (· = [.val (.agg ((wiS s c b 6).map (.int .i64)))]) := by
  refine pcalls_of_code (n := 18) az Try.func77 (by kernel_rfl) rfl rfl (Nat.le_of_ble_eq_true rfl) (by intro t u h; simp [Try.f77] at h; obtain ⟨_, rfl⟩ := h <;> first | exact resTy_agg agg_64 (by decide)) ?_
  have hfl := flat_map (PV.int .i64) (fun _ => rfl) s
  rw [show inits false 0 [.agg (s.map (.int .i64)), .agg [.int .i64 c, .int .i64 b]] = [(0, SV.val (.agg (s.map (.int .i64)))), (1, SV.val (.agg [.int .i64 c, .int .i64 b]))] from by simp [inits, PV.start, PV.flat, PV.flatL, hfl]]
  refine code_seq (fun K1 hK1 => ?_)
  refine code_region ?_
  refine list_cons rfl (op_box rfl (.inl ⟨rfl, (by first | exact hfl | rfl)⟩) (by decide) (by decide) rfl ?_)
  refine list_cons rfl (op_box rfl (.inl ⟨rfl, (by first | exact hfl | rfl)⟩) (by decide) (by decide) rfl ?_)
  refine list_cons rfl (op_alloc zt_64 (by decide) (by decide) rfl ?_)
  refine list_nil ?_
  refine hK1 _ ?_; clear hK1 K1
  refine code_seq (fun K2 hK2 => ?_)
  refine code_seq (fun K3 hK3 => ?_)
  refine code_region ?_
  refine list_cons rfl (op_q (q_fieldAddr fi_71_0 rfl rfl (by decide)) ?_)
  refine list_cons rfl (op_q (q_load one_3 3 rfl rfl rfl (by first | rfl | exact get_map1 _ 0 _ (by first | omega | (simp; omega))) (by decide)) ?_)
  refine list_cons rfl (op_call _ (placesIn_c _) rfl rfl (by decide) (by decide) (by decide) rfl ?_)
  rintro _ rfl
  refine listT.imp ?_ imp_unfrz
  refine list_nil ?_
  refine hK3 _ ?_; clear hK3 K3
  refine codeT.imp (σ' := [(0, _), (1, _), (2, .box 2 64 ((wiS s c b (pl c 0)).map (.int .i64))), (3, _), (4, _), (8, _)]) ?_ (imp_covers ⟨rfl, rfl, (congrArg (fun z => some (SV.box 2 64 (List.map (PV.int .i64) z))) ((wiS_0 hs c b).trans (skipN (g := wiS s c b) (Nat.zero_le _) (fun x h1 h2 => wiS_skip s (pl_zero hc x h1 h2))).symm)), rfl, rfl, rfl, trivial⟩)
  refine code_block ?_
  refine code_rangeFunc (placesIn_it (c) hc) ((fun (s0 s1 s3 s4 : SV) (i : Nat) => ([(0, s0), (1, s1), (2, .box 2 64 ((wiS s c b (pl c i)).map (.int .i64))), (3, s3), (4, s4)] : St)) _ _ _ _) (fun i => True) (trivial) rfl rfl rfl (by decide) rfl (fun _ _ => ⟨rfl, rfl⟩) (fun _ => rfl) rfl rfl (imp_covers ⟨rfl, rfl, rfl, rfl, rfl, trivial⟩) (fun i hi hIi => ?_) (fun hIi => ?_)
  · intro K4 hK4
    refine codeT.imp (σ' := [(9, .val (.int .i64 ((pl (c) i : Nat) : Int))), (0, _), (1, _), (2, _), (3, _), (4, _)]) ?_ (imp_covers ⟨rfl, rfl, rfl, rfl, rfl, rfl, trivial⟩)
    have hp := pl_ok hc hi
    have hw : 0 ≤ (wiS s c b (pl c i)).getD ((pl c i : Nat) : Int).toNat 0 ∧ (wiS s c b (pl c i)).getD ((pl c i : Nat) : Int).toNat 0 ≤ 127 := by rw [Int.toNat_natCast]; exact wiS_le hv hb c (pl c i) hp.1
    refine code_region ?_
    refine list_cons rfl (op_q (q_assign rfl (by decide)) ?_)
    refine list_nil ?_
    refine hK4 _ rfl ?_; clear hK4 K4
    refine codeT.imp (σ' := [(0, _), (1, _), (2, _), (3, _), (4, _), (5, _), (9, _)]) ?_ (imp_covers ⟨rfl, rfl, rfl, rfl, rfl, rfl, rfl, trivial⟩)
    refine code_block ?_
    refine any_start fun ob1_0 => ?_
    refine any_op (rd := [5]) ob1_0 rfl rfl rfl (anyT_quiet [(5, _)] ⟨rfl, trivial⟩ rfl (q_move rfl (by decide))) (fun ob1_1 => ?_)
    refine any_op (rd := [2, 10]) ob1_1 rfl rfl rfl (anyT_quiet [(2, _), (10, _)] ⟨rfl, rfl, trivial⟩ rfl (q_indexAddr_arr arr_64 rfl rfl rfl (by omega) (by omega) (by decide))) (fun ob1_2 => ?_)
    refine any_op (rd := [11, 2]) ob1_2 rfl rfl rfl (anyT_quiet [(11, _), (2, _)] ⟨rfl, rfl, trivial⟩ rfl (q_load one_3 2 rfl rfl rfl (by first | rfl | exact get_map1 (PV.int .i64) 0 (wiS s c b (pl c i)) (by rw [wiS_len]; omega)) (by decide))) (fun ob1_3 => ?_)
    refine any_op (rd := [3]) ob1_3 rfl rfl rfl (anyT_quiet [(3, _)] ⟨rfl, trivial⟩ rfl (q_fieldAddr fi_71_1 rfl rfl (by decide))) (fun ob1_4 => ?_)
    refine any_op (rd := [13, 3]) ob1_4 rfl rfl rfl (anyT_quiet [(13, _), (3, _)] ⟨rfl, rfl, trivial⟩ rfl (q_load one_3 3 rfl rfl rfl (by first | rfl | exact get_map1 (PV.int .i64) 0 (wiS s c b (pl c i)) (by rw [wiS_len]; omega)) (by decide))) (fun ob1_5 => ?_)
    refine any_end [[], [0], [0, 1], [], [3], [0, 1, 2, 3, 4], [0, 1, 2, 3, 4, 5], [0, 1, 2, 3, 4, 5, 6]] ob1_5 (by kernel_rfl) (Nat.le_of_ble_eq_true rfl) (by decide) (by decide) (by kernel_rfl) (by kernel_rfl) (by kernel_rfl) (by kernel_rfl) (by kernel_rfl) ?_
    clear ob1_0 ob1_1 ob1_2 ob1_3 ob1_4 ob1_5
    refine listT.imp (σ' := [(0, _), (1, _), (2, _), (3, _), (4, _), (5, _), (9, _), (10, _), (11, _), (12, _), (13, _), (14, _)]) ?_ (imp_covers ⟨rfl, rfl, rfl, rfl, rfl, rfl, rfl, rfl, rfl, rfl, rfl, rfl, trivial⟩)
    refine list_cons rfl (op_q (by first | exact q_orI rfl rfl (by decide) (by omega) (by omega) (by omega) (by omega) | exact q_ib rfl rfl rfl (by decide)) ?_)
    refine list_cons rfl (op_q (q_indexAddr_arr arr_64 rfl rfl rfl (by omega) (by omega) (by decide)) ?_)
    refine list_cons rfl (op_store (one_3).2 2 [2] (by intro t ht; simp only [List.mem_cons, List.not_mem_nil, or_false] at ht; subst ht; rfl) (.inl rfl) rfl rfl rfl rfl rfl rfl (by rw [List.length_map, wiS_len]; simp; omega) (by decide) rfl ?_)
    refine list_nil ?_
    refine blk_n ?_
    refine rp_n ⟨trivial, imp_covers ⟨rfl, rfl, (congrArg (fun z => some (SV.box 2 64 z)) ((wiS_put hp.1 hp.2.1 rfl).trans (congrArg (List.map (PV.int .i64)) (skipN (g := wiS s c b) hp.2.2.1 (fun x h1 h2 => wiS_skip s (hp.2.2.2 x h1 h2))).symm))), rfl, rfl, trivial⟩⟩
  · skip
    refine blk_n ?_
    refine hK2 _ ?_; clear hK2 K2
    refine codeT.imp (σ' := [(0, _), (1, _), (2, _), (3, _), (4, _)]) ?_ (imp_covers ⟨rfl, rfl, rfl, rfl, rfl, trivial⟩)
    refine code_seq (fun K5 hK5 => ?_)
    refine code_region ?_
    refine list_cons rfl (op_q (q_load_agg agg_64 2 (.inr ⟨rfl, _, rfl⟩) rfl rfl (by rw [List.length_map, wiS_len]; decide) (by first | rfl | exact flat_part (flat_map _ (fun _ => rfl) _) _ _) (by decide)) ?_)
    refine list_cons rfl (op_store (agg_64).2 4 [4] (by intro t ht; simp only [List.mem_cons, List.not_mem_nil, or_false] at ht; subst ht; rfl) (.inr ⟨rfl, _, rfl⟩) rfl rfl rfl rfl (by first | rfl | exact flat_part (flat_map _ (fun _ => rfl) _) _ _ | exact flat_map _ (fun _ => rfl) _) (by first | rfl | (simp [PV.cells, wiS_len]; done)) (by first | decide | omega | exact Nat.le_refl _ | (simp; done) | (simp; omega)) (by decide) rfl ?_)
    refine list_nil ?_
    refine hK5 _ ?_; clear hK5 K5
    refine codeT.imp (σ' := [(0, _), (1, _), (2, _), (3, _), (4, _)]) ?_ (imp_covers ⟨rfl, rfl, rfl, rfl, rfl, trivial⟩)
    refine code_ret ?_
    refine ends_ret (cs := []) (res_agg8 (cs := (wiS s c b 6).map (.int .i64)) (congrArg (fun z => some (SV.box 4 64 z)) (by rw [pl_end, List.take_of_length_le (by rw [List.length_drop, List.length_map, wiS_len]; exact Nat.sub_le _ _)]; exact put_all8 (n := 6) rfl (by simp [wiS_len]))) rfl (flat_map _ (fun _ => rfl) _) (by simp [wiS_len]; rfl)) rfl rfl rfl trivial ?_
    rfl

theorem with_E (cs ds : List PV) (s : List Int) (c b : Int) (h1 : cs = s.map (.int .i64)) (h2 : ds = [.int .i64 c, .int .i64 b]) (hs : s.length = 6) (hv : ∀ j, 0 ≤ s.getD j 0 ∧ s.getD j 0 ≤ 127) (hc : 0 ≤ c ∧ c ≤ 63) (hb : 0 ≤ b ∧ b ≤ 127) : PCalls Try.prog 77 [.agg cs, .agg ds] (· = [.val (.agg ((wiS s c b 6).map (.int .i64)))]) := by
  subst h1; subst h2; exact with_c s c b hs hv hc hb

set_option maxRecDepth 8000 in
set_option maxHeartbeats 2000000 in
theorem impl_sightOf (k : Int) (fr : List (Int × Int)) (hk : k ≤ 6) (hF : FrmP k fr) : PCalls Try.prog 64 [.sl fr.length (fl fr)] (· = [.val (.agg ((stS fr fr.length).map (.int .i64)))]) := by
  refine pcalls_of_code (n := 17) az Try.func64 (by kernel_rfl) rfl rfl (Nat.le_of_ble_eq_true rfl) (by intro t u h; simp [Try.f64] at h; obtain ⟨_, rfl⟩ := h <;> first | exact resTy_agg agg_64 (by decide)) ?_
  have hfl := fl_len fr
  have h12 := hF.1
  refine code_seq (fun K1 hK1 => ?_)
  refine code_region ?_
  refine list_cons rfl (op_alloc zt_64 (by decide) (by decide) rfl ?_)
  refine list_nil ?_
  refine hK1 _ ?_; clear hK1 K1
  refine code_seq (fun K2 hK2 => ?_)
  refine code_region ?_
  refine list_cons rfl (op_alloc zt_64 (by decide) (by decide) rfl ?_)
  refine list_nil ?_
  refine hK2 _ ?_; clear hK2 K2
  refine codeT.imp (σ' := [(0, _), (2, _), (3, .box 3 64 ((stS fr 0).map (.int .i64)))]) ?_ (imp_covers ⟨rfl, rfl, (congrArg (fun z => some (SV.box 3 64 (List.map (PV.int .i64) z))) (stS_0 fr)), trivial⟩)
  refine code_seq (fun K3 hK3 => ?_)
  refine code_seq (fun K4 hK4 => ?_)
  refine code_region ?_
  refine list_cons rfl (op_q (q_move rfl (by decide)) ?_)
  refine list_cons rfl (op_q (q_len_sl Try.underlying24 rfl rfl (by decide)) ?_)
  refine list_cons rfl (op_q (q_move rfl (by decide)) ?_)
  refine list_nil ?_
  refine hK4 _ ?_; clear hK4 K4
  refine code_block ?_
  refine code_loop (X := List PV × Int) (fun x => [(0, .par 0 (.sl fr.length (fl fr))), (2, .box 2 64 (List.replicate 6 (.int .i64 0))), (3, .box 3 64 x.1), (6, .par 0 (.sl fr.length (fl fr))), (7, .val (.int .i64 fr.length)), (8, .val (.int .i64 x.2))]) (fun x => 0 ≤ x.2 ∧ x.2 ≤ fr.length ∧ x.1 = (stS fr x.2.toNat).map (.int .i64)) (fun x => (fr.length - x.2).toNat) (_, _) (imp_covers ⟨rfl, rfl, rfl, rfl, rfl, rfl, trivial⟩) ?_ ?_
  · (try dsimp only)
    exact ⟨by omega, by omega, rfl⟩
  · intro x hI
    obtain ⟨seen_c, t8⟩ := x
    replace hI : 0 ≤ t8 ∧ t8 ≤ fr.length ∧ seen_c = (stS fr t8.toNat).map (.int .i64) := hI
    show codeT _ _ _ [(0, .par 0 (.sl fr.length (fl fr))), (2, .box 2 64 (List.replicate 6 (.int .i64 0))), (3, .box 3 64 seen_c), (6, .par 0 (.sl fr.length (fl fr))), (7, .val (.int .i64 fr.length)), (8, .val (.int .i64 t8))] _
    obtain ⟨i1, i2, rfl⟩ := hI
    refine code_seq (fun K5 hK5 => ?_)
    refine code_region ?_
    refine list_cons rfl (op_q (q_lt rfl rfl (by decide)) ?_)
    refine list_nil ?_
    refine hK5 _ ?_; clear hK5 K5
    refine code_seq (fun K6 hK6 => ?_)
    refine code_cond_d rfl (fun h1 => ?_) (fun h1 => ?_)
    · skip
      (try simp only [Decidable.not_not] at h1)
      refine code_skip ?_
      refine hK6 _ ?_; clear hK6 K6
      refine code_seq (fun K7 hK7 => ?_)
      refine code_block ?_
      refine code_seq (fun K8 hK8 => ?_)
      refine code_region ?_
      refine list_cons rfl (op_q (q_indexAddr_rd sl_24 rfl (.inl ⟨_, rfl, rfl⟩) rfl (by omega) (by omega) (by decide)) ?_)
      refine list_cons rfl (op_q (q_load_rd_aggE agg_71 rfl (.inl ⟨_, rfl⟩) (by first | decide | omega | exact Nat.le_refl _ | (simp; done) | (simp; omega)) (fl_at fr t8.toNat (by omega)) rfl (by decide)) ?_)
      refine list_cons rfl (op_alloc zt_71 (by decide) (by decide) rfl ?_)
      refine list_cons rfl (op_store (agg_71).2 5 [5] (by intro t ht; simp only [List.mem_cons, List.not_mem_nil, or_false] at ht; subst ht; rfl) (.inr ⟨rfl, _, rfl⟩) rfl rfl rfl rfl (by first | rfl | exact flat_part (flat_map _ (fun _ => rfl) _) _ _ | exact flat_map _ (fun _ => rfl) _) (by first | rfl | (simp [PV.cells, wiS_len, stS_len]; done)) (by decide) (by decide) rfl ?_)
      refine list_nil ?_
      refine hK8 _ ?_; clear hK8 K8
      refine codeT.imp (σ' := [(0, _), (2, _), (3, _), (5, _), (6, _), (7, _), (8, _)]) ?_ (imp_covers ⟨rfl, rfl, rfl, rfl, rfl, rfl, rfl, trivial⟩)
      refine code_region ?_
      refine list_cons rfl (op_q (q_load_agg agg_64 3 (.inr ⟨rfl, _, rfl⟩) rfl rfl (by first | exact Nat.le_of_ble_eq_true rfl | (rw [List.length_map, stS_len]; decide)) (by first | rfl | exact flat_part (flat_map _ (fun _ => rfl) _) _ _) (by decide)) ?_)
      refine list_cons rfl (op_q (q_load_agg agg_71 5 (.inr ⟨rfl, _, rfl⟩) rfl rfl (by first | exact Nat.le_of_ble_eq_true rfl | (rw [List.length_map, stS_len]; decide)) (by first | rfl | exact flat_part (flat_map _ (fun _ => rfl) _) _ _) (by decide)) ?_)
      refine list_cons rfl (op_call _ (with_E _ _ (stS fr t8.toNat) _ _ (by rw [List.drop_zero, List.take_of_length_le (by rw [List.length_map, stS_len]; decide)]) rfl (stS_len _ _) (fun x => stS_le hF hk (by omega) x) (by have := hF.bd hk (j := t8.toNat) (by omega); omega) (by have := hF.bd hk (j := t8.toNat) (by omega); omega)) rfl rfl (by decide) (by decide) (by decide) rfl ?_)
      rintro _ rfl
      refine list_cons rfl (op_store (agg_64).2 3 [3] (by intro t ht; simp only [List.mem_cons, List.not_mem_nil, or_false] at ht; subst ht; rfl) (.inr ⟨rfl, _, rfl⟩) rfl rfl rfl rfl (by first | rfl | exact flat_part (flat_map _ (fun _ => rfl) _) _ _ | exact flat_map _ (fun _ => rfl) _) (by first | rfl | (simp [PV.cells, wiS_len, stS_len]; done)) (by rw [List.length_map, stS_len]; decide) (by decide) rfl ?_)
      refine list_nil ?_
      refine blk_n ?_
      refine hK7 _ ?_; clear hK7 K7
      refine codeT.imp (σ' := [(0, _), (2, _), (3, _), (5, _), (6, _), (7, _), (8, _)]) ?_ (imp_covers ⟨rfl, rfl, rfl, rfl, rfl, rfl, rfl, trivial⟩)
      refine code_region ?_
      refine list_cons rfl (op_q (by first | exact q_addI rfl rfl (by decide) (by omega) (by omega) | exact q_ib rfl rfl rfl (by decide)) ?_)
      refine list_cons rfl (op_q (q_move rfl (by decide)) ?_)
      refine list_nil ?_
      refine then_n ⟨(_, _), imp_covers ⟨rfl, rfl, rfl, rfl, rfl, rfl, trivial⟩, ?_, ?_⟩
      · (try dsimp only)
        exact ⟨by omega, by omega, by rw [show (t8 + 1).toNat = t8.toNat + 1 by omega, ← stS_next]; exact put_all8 (n := 6) (by simp [stS_len]) (by simp [wiS_len])⟩
      · (try dsimp only); omega
    (try simp only [Decidable.not_not] at h1)
    refine code_exit ?_
    refine then_x ?_; clear hK6 K6
    refine then_x ?_
    refine blk_hit ?_
    refine hK3 _ ?_; clear hK3 K3
    refine code_seq (fun K9 hK9 => ?_)
    refine code_region ?_
    refine list_cons rfl (op_q (q_load_agg agg_64 3 (.inr ⟨rfl, _, rfl⟩) rfl rfl (by rw [List.length_map, stS_len]; decide) (by first | rfl | exact flat_part (flat_map _ (fun _ => rfl) _) _ _) (by decide)) ?_)
    refine list_cons rfl (op_store (agg_64).2 2 [2] (by intro t ht; simp only [List.mem_cons, List.not_mem_nil, or_false] at ht; subst ht; rfl) (.inr ⟨rfl, _, rfl⟩) rfl rfl rfl rfl (by first | rfl | exact flat_part (flat_map _ (fun _ => rfl) _) _ _ | exact flat_map _ (fun _ => rfl) _) (by first | rfl | (simp [PV.cells, wiS_len, stS_len]; done)) (by first | decide | omega | exact Nat.le_refl _ | (simp; done) | (simp; omega)) (by decide) rfl ?_)
    refine list_nil ?_
    refine hK9 _ ?_; clear hK9 K9
    refine codeT.imp (σ' := [(0, _), (2, _), (3, _), (6, _), (7, _), (8, _)]) ?_ (imp_covers ⟨rfl, rfl, rfl, rfl, rfl, rfl, trivial⟩)
    refine code_ret ?_
    refine ends_ret (cs := []) (res_agg8 (cs := (stS fr fr.length).map (.int .i64)) (congrArg (fun z => some (SV.box 2 64 z)) (by rw [show t8.toNat = fr.length by omega, List.take_of_length_le (by rw [List.length_drop, List.length_map, stS_len]; exact Nat.sub_le _ _)]; exact put_all8 (n := 6) rfl (by simp [stS_len]))) rfl (flat_map _ (fun _ => rfl) _) (by simp [stS_len]; rfl)) rfl rfl rfl trivial ?_
    rfl



theorem hasK_i8 : ∀ (n : Nat) (l : List Int), n ≤ l.length → HasK (List.replicate n [BK.int .i64]).flatten (l.map (PV.int .i64))
  | 0, _, _ => trivial
  | n + 1, [], h => absurd h (by simp)
  | n + 1, x :: l, h => by
    rw [List.replicate_succ, List.flatten_cons]
    exact ⟨PV.int .i64 x, l.map (PV.int .i64), rfl, ⟨x, rfl⟩, hasK_i8 n l (by simpa using h)⟩
theorem eqP_i8 : ∀ (a b : List Int), a.length = b.length → (EqP (a.map (PV.int .i64)) (b.map (PV.int .i64)) ↔ a = b)
  | [], [], _ => by simp [EqP]
  | [], _ :: _, h => by simp at h
  | _ :: _, [], h => by simp at h
  | x :: a, y :: b, h => by
    have ih := eqP_i8 a b (by simpa using h)
    simp only [List.map_cons, EqP, Eq1, ih, List.cons.injEq]
theorem ld8 {l : List Int} (h : l.length = 6) : List.take 6 (List.drop 0 (l.map (PV.int .i64))) = l.map (PV.int .i64) := List.take_of_length_le (by rw [List.drop_zero, List.length_map, h]; exact Nat.le_refl _)
theorem bt_off {k : Int} {fr : List (Int × Int)} (h : GdP k fr) {j : Nat} (hj : j < fr.length) {x : Nat} (hk : k.toNat ≤ x) (hx : x < 6) : ¬ bt (fr.getD j (0, 0)).1 x := fun hb => by
  have h1 := h.2.2 j hj
  have h2 := bt_lt (n := k.toNat) h1.1.1 h.take6 h1.1.2 hx hb
  omega
theorem orN_off {k : Int} {fr : List (Int × Int)} (h : GdP k fr) {x : Nat} (hk : k.toNat ≤ x) (hx : x < 6) : ∀ i, i ≤ fr.length → orN fr x i = 0
  | 0, _ => rfl
  | i + 1, hi => by
    rw [orN, if_neg (bt_off h (by omega) hk hx)]; exact orN_off h hk hx i (by omega)
theorem sen_len8 (fr : List (Int × Int)) (k : Nat) : (sen fr k).length = k := senK_len _ _ _ _
theorem sen_at8 (fr : List (Int × Int)) {k x : Nat} (h : x < k) : (sen fr k).getD x 0 = ((orN fr x fr.length : Nat) : Int) := by
  unfold sen; rw [senK_at h, if_neg (Nat.not_lt_zero _)]
theorem stS_eq {k : Int} {f g : List (Int × Int)} (hf : GdP k f) (hg : GdP k g) : stS f f.length = stS g g.length ↔ sen f k.toNat = sen g k.toNat := by
  constructor
  · intro h
    rw [← sen_stS f hf.take6, ← sen_stS g hg.take6, h]
  · intro h
    refine lst_eq6 (stS_len _ _) (stS_len _ _) fun x hx => ?_
    by_cases hk : x < k.toNat
    · have e1 := sen_stS f hf.take6
      have e2 := sen_stS g hg.take6
      have e3 : ∀ l : List Int, (l.take k.toNat).getD x 0 = l.getD x 0 := fun l => by
        rw [List.getD_eq_getElem?_getD, List.getElem?_take, if_pos hk, ← List.getD_eq_getElem?_getD]
      rw [← e3 (stS f _), ← e3 (stS g _), e1, e2, h]
    · rw [stS_at _ _ hx, stS_at _ _ hx, orN_off hf (by omega) hx _ (Nat.le_refl _), orN_off hg (by omega) hx _ (Nat.le_refl _)]
theorem fl_nil8 : fl [] = [] := rfl
theorem fl_put8 (a b : List (Int × Int)) (n : Nat) (h : a.length + b.length = n) (z : List PV) (hz : z.length = n * 2) : putAt (putAt z 0 (fl a)) (a.length * 2) (fl b) = fl (a ++ b) := by
  have ha := fl_len a
  have hb := fl_len b
  rw [fl_app8]
  unfold putAt
  rw [List.take_zero, List.nil_append, Nat.zero_add]
  rw [List.take_append_of_le_length (by omega), List.take_of_length_le (by omega), List.drop_of_length_le (by rw [List.length_append, List.length_drop]; omega), List.append_nil]
/-- What some slots show: place x, bar t. -/
def sbS (L : List (Int × Int)) (x t : Nat) : Prop := ∃ s ∈ L, bt s.1 x ∧ s.2.toNat.testBit t = true
theorem sbS_app (L M : List (Int × Int)) (x t : Nat) : sbS (L ++ M) x t ↔ sbS L x t ∨ sbS M x t := by
  unfold sbS
  constructor
  · rintro ⟨s, hs, h⟩
    rcases List.mem_append.1 hs with hs | hs
    · exact .inl ⟨s, hs, h⟩
    · exact .inr ⟨s, hs, h⟩
  · rintro (⟨s, hs, h⟩ | ⟨s, hs, h⟩)
    · exact ⟨s, List.mem_append.2 (.inl hs), h⟩
    · exact ⟨s, List.mem_append.2 (.inr hs), h⟩
theorem orN_bit (L : List (Int × Int)) (x t : Nat) : ∀ i, i ≤ L.length → ((orN L x i).testBit t = true ↔ sbS (L.take i) x t)
  | 0, _ => by simp [orN, sbS]
  | i + 1, hi => by
    have ih := orN_bit L x t i (by omega)
    have ht : L.take (i + 1) = L.take i ++ [L.getD i (0, 0)] := by
      rw [List.take_add_one, List.getElem?_eq_getElem (by omega), List.getD_eq_getElem?_getD, List.getElem?_eq_getElem (by omega)]; rfl
    rw [ht, sbS_app, orN]
    have hs : sbS [L.getD i (0, 0)] x t ↔ bt (L.getD i (0, 0)).1 x ∧ (L.getD i (0, 0)).2.toNat.testBit t = true := by
      unfold sbS; simp
    rw [hs]
    split
    · rename_i hb
      rw [Nat.testBit_or, Bool.or_eq_true, ih]
      exact ⟨fun h => h.imp id fun z => ⟨hb, z⟩, fun h => h.imp id fun z => z.2⟩
    · rename_i hb
      rw [ih]
      exact ⟨.inl, fun h => h.resolve_right fun z => hb z.1⟩
theorem sen_iff (L M : List (Int × Int)) (k : Nat) : sen L k = sen M k ↔ ∀ x, x < k → ∀ t, (sbS L x t ↔ sbS M x t) := by
  have hat : ∀ (L : List (Int × Int)) x, x < k → (sen L k).getD x 0 = ((orN L x L.length : Nat) : Int) := fun L x hx => by
    unfold sen; rw [senK_at hx, if_neg (Nat.not_lt_zero _)]
  have hb : ∀ (L : List (Int × Int)) x t, (orN L x L.length).testBit t = true ↔ sbS L x t := fun L x t => by
    have := orN_bit L x t L.length (Nat.le_refl _)
    rwa [List.take_length] at this
  constructor
  · intro h x hx t
    rw [← hb L, ← hb M]
    have := hat L x hx
    rw [h, hat M x hx] at this
    rw [Int.ofNat.inj this]
  · intro h
    apply List.ext_getElem (by rw [sen_len8, sen_len8])
    intro x h1 h2
    have hx : x < k := by rwa [sen_len8] at h1
    have e1 := hat L x hx
    have e2 := hat M x hx
    rw [List.getD_eq_getElem?_getD, List.getElem?_eq_getElem h1, Option.getD_some] at e1
    rw [List.getD_eq_getElem?_getD, List.getElem?_eq_getElem h2, Option.getD_some] at e2
    rw [e1, e2]
    congr 1
    apply Nat.eq_of_testBit_eq
    intro t
    rw [Bool.eq_iff_iff, hb, hb]
    exact h x hx t
/-- What is vain where another slot is left out is vain with it, too. -/
theorem vn_back {k : Int} {L : List (Int × Int)} {i j : Nat} (hij : i < j) (hj : j < L.length) (h : VnP k (L.take j ++ L.drop (j + 1)) i) : VnP k L i := by
  unfold VnP at h ⊢
  rw [sen_iff] at h ⊢
  intro x hx t
  have h := h x hx t
  have d1 : (L.take j ++ L.drop (j + 1)).take i = L.take i := by
    rw [List.take_append_of_le_length (by rw [List.length_take]; omega), List.take_take, Nat.min_eq_left (by omega)]
  have d2 : (L.take j ++ L.drop (j + 1)).drop (i + 1) = (L.take j).drop (i + 1) ++ L.drop (j + 1) := by
    rw [List.drop_append_of_le_length (by rw [List.length_take]; omega)]
  have d3 : L.drop (i + 1) = (L.take j).drop (i + 1) ++ L.drop j := by
    conv => lhs; rw [← List.take_append_drop j L]
    rw [List.drop_append_of_le_length (by rw [List.length_take]; omega)]
  have d4 : L.drop j = [L[j]] ++ L.drop (j + 1) := by rw [List.drop_eq_getElem_cons hj]; rfl
  have d5 : sbS L x t ↔ sbS (L.take j) x t ∨ sbS [L[j]] x t ∨ sbS (L.drop (j + 1)) x t := by
    conv => lhs; rw [← List.take_append_drop j L]
    rw [sbS_app, d4, sbS_app]
  rw [d1, d2] at h
  rw [d3, d4]
  simp only [sbS_app] at h ⊢
  rw [d5]
  constructor
  · rintro (a | a | a | a)
    · rcases h.1 (.inl a) with z | z
      · exact .inl z
      · exact .inr (.inr z)
    · rcases h.1 (.inr (.inl a)) with z | z
      · exact .inl z
      · exact .inr (.inr z)
    · exact .inr (.inl a)
    · exact .inr (.inr a)
  · rintro (a | a | a)
    · rcases h.2 (.inl a) with z | z | z
      · exact .inl z
      · exact .inr (.inl z)
      · exact .inr (.inr (.inr z))
    · exact .inr (.inr (.inl a))
    · exact .inr (.inr (.inr a))
theorem dvF_skip (k : Int) (L : List (Int × Int)) : ∀ (m n i : Nat), (∀ j, i ≤ j → j < i + m → ¬ VnP k L j) → dvF k (n + m) i L = dvF k n (i + m) L
  | 0, n, i, _ => rfl
  | m + 1, n, i, h => by
    rw [show n + (m + 1) = (n + m) + 1 by omega, dvF, if_neg (h i (Nat.le_refl _) (by omega)), dvF_skip k L m n (i + 1) (fun j h1 h2 => h j (by omega) (by omega)), show i + 1 + m = i + (m + 1) by omega]
theorem dvF_none {k : Int} {L : List (Int × Int)} (h : ∀ j, j < L.length → ¬ VnP k L j) : dvF k L.length 0 L = L := by
  have := dvF_skip k L L.length 0 0 (fun j _ h2 => h j (by omega))
  rw [Nat.zero_add] at this
  rw [this]; rfl
theorem dvF_first {k : Int} {L : List (Int × Int)} {j : Nat} (hj : j < L.length) (hv : VnP k L j) (h : ∀ i, i < j → ¬ VnP k L i) : dvF k L.length 0 L = dvF k (L.take j ++ L.drop (j + 1)).length 0 (L.take j ++ L.drop (j + 1)) := by
  have hc := cut_len hj
  have h1 := dvF_skip k L j (L.length - j) 0 (fun i _ h2 => h i (by omega))
  have h2 := dvF_skip k (L.take j ++ L.drop (j + 1)) j (L.length - 1 - j) 0 (fun i _ h2 hv2 => h i (by omega) (vn_back (by omega) hj hv2))
  rw [show L.length - j + j = L.length by omega, show L.length - j = (L.length - 1 - j) + 1 by omega, dvF, Nat.zero_add, if_pos hv] at h1
  rw [hc, show L.length - 1 = L.length - 1 - j + j by omega, h2, h1, Nat.zero_add]
theorem vnK_head {k : Int} {L : List (Int × Int)} : ∀ n, (vnK k L n = [] ∧ ∀ j, j < n → ¬ VnP k L j) ∨ ∃ j r, vnK k L n = ((j : Nat) : Int) :: r ∧ j < n ∧ VnP k L j ∧ ∀ i, i < j → ¬ VnP k L i
  | 0 => .inl ⟨rfl, fun j hj => absurd hj (Nat.not_lt_zero j)⟩
  | n + 1 => by
    rw [vnK_succ]
    rcases vnK_head n with ⟨h1, h2⟩ | ⟨j, r, h1, h2, h3, h4⟩
    · rw [h1]
      by_cases hv : VnP k L n
      · rw [if_pos hv]; exact .inr ⟨n, [], rfl, Nat.lt_succ_self n, hv, h2⟩
      · rw [if_neg hv]
        exact .inl ⟨rfl, fun j hj => by
          by_cases e : j = n
          · subst e; exact hv
          · exact h2 j (by omega)⟩
    · rw [h1]; exact .inr ⟨j, _, rfl, by omega, h3, h4⟩

set_option maxRecDepth 8000 in
set_option maxHeartbeats 4000000 in
theorem withoutSlot1 (fr : List (Int × Int)) (i : Int) (h0 : 0 ≤ i) (h1 : i < fr.length) (hf : fr.length ≤ 1048576) (hn : fr.length = 1) : PCalls Try.prog 92 [.sl fr.length (fl fr), .int .i64 i] (· = [.own 0 71 2 (fr.take i.toNat ++ fr.drop (i.toNat + 1)).length (fl (fr.take i.toNat ++ fr.drop (i.toNat + 1)))]) := by
  refine pcalls_of_code (n := 24) az Try.func92 (by kernel_rfl) rfl rfl (Nat.le_of_ble_eq_true rfl) (by intro t u h; simp [Try.f92] at h) ?_
  obtain ⟨s, rfl⟩ : ∃ s, fr = [s] := by
    cases fr with
    | nil => simp at hn
    | cons s r => cases r with
      | nil => exact ⟨s, rfl⟩
      | cons _ _ => simp at hn
  have hi : i = 0 := by simp at h1; omega
  subst hi
  have hfl := fl_len [s]
  have hff := fl_flat [s]
  refine code_seq (fun K1 hK1 => ?_)
  refine code_region ?_
  refine list_cons rfl (op_q (q_assign rfl (by decide)) ?_)
  refine list_nil ?_
  refine hK1 _ ?_; clear hK1 K1
  refine code_seq (fun K2 hK2 => ?_)
  refine code_region ?_
  refine list_cons rfl (op_q (q_move rfl (by decide)) ?_)
  refine list_cons rfl (op_q (q_len_sl Try.underlying24 rfl rfl (by decide)) ?_)
  refine list_cons rfl (op_q (by first | exact q_subI rfl rfl (by decide) (by omega) (by omega) | exact q_ib rfl rfl rfl (by decide)) ?_)
  refine list_cons rfl (op_makeI sl_24 rfl rfl (by simp) (by simp) (by decide) (by decide) rfl ?_)
  refine list_cons rfl (op_q (q_assign rfl (by decide)) ?_)
  refine list_nil ?_
  refine hK2 _ ?_; clear hK2 K2
  refine code_seq (fun K3 hK3 => ?_)
  refine code_region ?_
  refine list_cons rfl (op_q (q_move rfl (by decide)) ?_)
  refine list_cons rfl (op_q (q_move rfl (by decide)) ?_)
  refine list_cons rfl (op_q (q_move rfl (by decide)) ?_)
  refine list_cons rfl (op_q (q_slice_sl sl_24 rfl rfl rfl ⟨_, rfl⟩ (by first | omega | decide | (simp; done) | (simp; omega)) (by first | omega | decide | (simp; done) | (simp; omega)) (by first | omega | decide | (simp; done) | (simp; omega)) rfl (by decide)) ?_)
  refine list_cons rfl (op_copyO sl_24 [9, 5, 10] (by intro t ht; simp only [List.mem_cons, List.not_mem_nil, or_false] at ht; rcases ht with rfl | rfl | rfl <;> rfl) 9 rfl (.inr (.inl ⟨rfl, rfl, rfl⟩)) rfl rfl (by first | exact flat_part (fl_flat fr) _ _ | exact fl_flat fr | rfl) (by rw [List.length_take, List.length_drop, fl_len]; first | omega | (simp; omega)) (by first | omega | (simp; omega)) (by first | omega | (simp; omega)) (by decide) ?_)
  refine list_nil ?_
  refine hK3 _ ?_; clear hK3 K3
  refine codeT.imp (σ' := [(0, _), (1, _), (4, _), (5, _)]) ?_ (imp_covers ⟨rfl, rfl, rfl, rfl, trivial⟩)
  refine code_seq (fun K4 hK4 => ?_)
  refine any_start fun ob2_0 => ?_
  refine any_op (rd := [5]) ob2_0 rfl rfl rfl (anyT_quiet [(5, _)] ⟨rfl, trivial⟩ rfl (q_move rfl (by decide))) (fun ob2_1 => ?_)
  refine any_op (rd := [1]) ob2_1 rfl rfl rfl (anyT_quiet [(1, _)] ⟨rfl, trivial⟩ rfl (q_move rfl (by decide))) (fun ob2_2 => ?_)
  refine any_op (rd := [15, 16]) ob2_2 rfl rfl rfl (anyT_quiet [(15, _), (16, _)] ⟨rfl, rfl, trivial⟩ rfl (q_slice_sl sl_24 rfl rfl ⟨_, rfl⟩ rfl (by first | omega | decide | (simp; done) | (simp; omega)) (by first | omega | decide | (simp; done) | (simp; omega)) (by first | omega | decide | (simp; done) | (simp; omega)) rfl (by decide))) (fun ob2_3 => ?_)
  refine any_op (rd := [0]) ob2_3 rfl rfl rfl (anyT_quiet [(0, _)] ⟨rfl, trivial⟩ rfl (q_move rfl (by decide))) (fun ob2_4 => ?_)
  refine any_op (rd := [1]) ob2_4 rfl rfl rfl (anyT_quiet [(1, _)] ⟨rfl, trivial⟩ rfl (q_move rfl (by decide))) (fun ob2_5 => ?_)
  refine any_op (rd := [19]) ob2_5 rfl rfl rfl (anyT_quiet [(19, _)] ⟨rfl, trivial⟩ rfl (by first | exact q_addI rfl rfl (by decide) (by omega) (by omega) | exact q_ib rfl rfl rfl (by decide))) (fun ob2_6 => ?_)
  refine any_op (rd := [18, 20]) ob2_6 rfl rfl rfl (anyT_quiet [(18, _), (20, _)] ⟨rfl, rfl, trivial⟩ rfl (q_slice_sl sl_24 rfl rfl ⟨_, rfl⟩ rfl (by first | omega | decide | (simp; done) | (simp; omega)) (by first | omega | decide | (simp; done) | (simp; omega)) (by first | omega | decide | (simp; done) | (simp; omega)) rfl (by decide))) (fun ob2_7 => ?_)
  refine any_end [[], [], [0, 1], [], [], [4], [3, 4, 5], [0, 1, 2, 3, 4, 5, 6]] ob2_7 (by kernel_rfl) (Nat.le_of_ble_eq_true rfl) (by decide) (by decide) (by kernel_rfl) (by kernel_rfl) (by kernel_rfl) (by kernel_rfl) (by kernel_rfl) ?_
  clear ob2_0 ob2_1 ob2_2 ob2_3 ob2_4 ob2_5 ob2_6 ob2_7
  refine listT.imp (σ' := [(0, _), (1, _), (4, _), (5, _), (15, _), (16, _), (17, _), (18, _), (19, _), (20, _), (21, _)]) ?_ (imp_covers ⟨rfl, rfl, rfl, rfl, rfl, rfl, rfl, rfl, rfl, rfl, rfl, trivial⟩)
  refine list_cons rfl (op_copyO sl_24 [5, 15] (by intro t ht; simp only [List.mem_cons, List.not_mem_nil, or_false] at ht; rcases ht with rfl | rfl <;> rfl) 5 rfl (.inr (.inr ⟨_, _, rfl, rfl, rfl⟩)) rfl rfl (by first | exact flat_part (fl_flat fr) _ _ | exact fl_flat fr | rfl) (by rw [List.length_take, List.length_drop, fl_len]; first | omega | (simp; omega)) (by first | omega | (simp; omega)) (by first | omega | (simp; omega)) (by decide) ?_)
  refine list_nil ?_
  refine hK4 _ ?_; clear hK4 K4
  refine codeT.imp (σ' := [(0, _), (1, _), (4, _), (5, _)]) ?_ (imp_covers ⟨rfl, rfl, rfl, rfl, trivial⟩)
  refine code_seq (fun K5 hK5 => ?_)
  refine code_region ?_
  refine list_cons rfl (op_q (q_move rfl (by decide)) ?_)
  refine list_cons rfl (op_q (q_assign rfl (by decide)) ?_)
  refine list_nil ?_
  refine hK5 _ ?_; clear hK5 K5
  refine code_ret ?_
  refine ends_ret (cs := []) rfl rfl rfl rfl trivial ?_
  first | rfl

set_option maxRecDepth 8000 in
set_option maxHeartbeats 4000000 in
theorem withoutSlotN (fr : List (Int × Int)) (i : Int) (h0 : 0 ≤ i) (h1 : i < fr.length) (hf : fr.length ≤ 1048576) (hn : 2 ≤ fr.length) : PCalls Try.prog 92 [.sl fr.length (fl fr), .int .i64 i] (· = [.own 0 71 2 (fr.take i.toNat ++ fr.drop (i.toNat + 1)).length (fl (fr.take i.toNat ++ fr.drop (i.toNat + 1)))]) := by
  refine pcalls_of_code (n := 24) az Try.func92 (by kernel_rfl) rfl rfl (Nat.le_of_ble_eq_true rfl) (by intro t u h; simp [Try.f92] at h) ?_
  have hfl := fl_len fr
  have hff := fl_flat fr
  refine code_seq (fun K1 hK1 => ?_)
  refine code_region ?_
  refine list_cons rfl (op_q (q_assign rfl (by decide)) ?_)
  refine list_nil ?_
  refine hK1 _ ?_; clear hK1 K1
  refine code_seq (fun K2 hK2 => ?_)
  refine code_region ?_
  refine list_cons rfl (op_q (q_move rfl (by decide)) ?_)
  refine list_cons rfl (op_q (q_len_sl Try.underlying24 rfl rfl (by decide)) ?_)
  refine list_cons rfl (op_q (by first | exact q_subI rfl rfl (by decide) (by omega) (by omega) | exact q_ib rfl rfl rfl (by decide)) ?_)
  refine list_cons rfl (op_makeI sl_24 rfl rfl (by omega) (by omega) (by decide) (by decide) rfl ?_)
  refine list_cons rfl (op_q (q_assign rfl (by decide)) ?_)
  refine list_nil ?_
  refine hK2 _ ?_; clear hK2 K2
  refine code_seq (fun K3 hK3 => ?_)
  refine code_region ?_
  refine list_cons rfl (op_q (q_move rfl (by decide)) ?_)
  refine list_cons rfl (op_q (q_move rfl (by decide)) ?_)
  refine list_cons rfl (op_q (q_move rfl (by decide)) ?_)
  refine list_cons rfl (op_q (q_slice_sl sl_24 rfl rfl rfl ⟨_, rfl⟩ (by omega) (by omega) (by omega) rfl (by decide)) ?_)
  refine list_cons rfl (op_copyO sl_24 [9, 5, 10] (by intro t ht; simp only [List.mem_cons, List.not_mem_nil, or_false] at ht; rcases ht with rfl | rfl | rfl <;> rfl) 9 rfl (.inr (.inl ⟨rfl, rfl, rfl⟩)) rfl rfl (by first | exact flat_part (fl_flat fr) _ _ | exact fl_flat fr | rfl) (by rw [List.length_take, List.length_drop, fl_len]; first | omega | (simp; omega)) (by first | omega | (simp; omega)) (by first | omega | (simp; omega)) (by decide) ?_)
  refine list_nil ?_
  refine hK3 _ ?_; clear hK3 K3
  refine codeT.imp (σ' := [(0, _), (1, _), (4, _), (5, _)]) ?_ (imp_covers ⟨rfl, rfl, rfl, rfl, trivial⟩)
  refine code_seq (fun K4 hK4 => ?_)
  refine any_start fun ob3_0 => ?_
  refine any_op (rd := [5]) ob3_0 rfl rfl rfl (anyT_quiet [(5, _)] ⟨rfl, trivial⟩ rfl (q_move rfl (by decide))) (fun ob3_1 => ?_)
  refine any_op (rd := [1]) ob3_1 rfl rfl rfl (anyT_quiet [(1, _)] ⟨rfl, trivial⟩ rfl (q_move rfl (by decide))) (fun ob3_2 => ?_)
  refine any_op (rd := [15, 16]) ob3_2 rfl rfl rfl (anyT_quiet [(15, _), (16, _)] ⟨rfl, rfl, trivial⟩ rfl (q_sliceOwn sl_24 rfl (by omega) ⟨_, rfl⟩ rfl (by omega) (by omega) (by omega) (by decide))) (fun ob3_3 => ?_)
  refine any_op (rd := [0]) ob3_3 rfl rfl rfl (anyT_quiet [(0, _)] ⟨rfl, trivial⟩ rfl (q_move rfl (by decide))) (fun ob3_4 => ?_)
  refine any_op (rd := [1]) ob3_4 rfl rfl rfl (anyT_quiet [(1, _)] ⟨rfl, trivial⟩ rfl (q_move rfl (by decide))) (fun ob3_5 => ?_)
  refine any_op (rd := [19]) ob3_5 rfl rfl rfl (anyT_quiet [(19, _)] ⟨rfl, trivial⟩ rfl (by first | exact q_addI rfl rfl (by decide) (by omega) (by omega) | exact q_ib rfl rfl rfl (by decide))) (fun ob3_6 => ?_)
  refine any_op (rd := [18, 20]) ob3_6 rfl rfl rfl (anyT_quiet [(18, _), (20, _)] ⟨rfl, rfl, trivial⟩ rfl (q_slice_sl sl_24 rfl rfl ⟨_, rfl⟩ rfl (by omega) (by omega) (by omega) rfl (by decide))) (fun ob3_7 => ?_)
  refine any_end [[], [], [0, 1], [], [], [4], [3, 4, 5], [0, 1, 2, 3, 4, 5, 6]] ob3_7 (by kernel_rfl) (Nat.le_of_ble_eq_true rfl) (by decide) (by decide) (by kernel_rfl) (by kernel_rfl) (by kernel_rfl) (by kernel_rfl) (by kernel_rfl) ?_
  clear ob3_0 ob3_1 ob3_2 ob3_3 ob3_4 ob3_5 ob3_6 ob3_7
  refine listT.imp (σ' := [(0, _), (1, _), (4, _), (5, _), (15, _), (16, _), (17, _), (18, _), (19, _), (20, _), (21, _)]) ?_ (imp_covers ⟨rfl, rfl, rfl, rfl, rfl, rfl, rfl, rfl, rfl, rfl, rfl, trivial⟩)
  refine list_cons rfl (op_copyO sl_24 [5, 15] (by intro t ht; simp only [List.mem_cons, List.not_mem_nil, or_false] at ht; rcases ht with rfl | rfl <;> rfl) 5 rfl (.inl rfl) rfl rfl (by first | exact flat_part (fl_flat fr) _ _ | exact fl_flat fr | rfl) (by rw [List.length_take, List.length_drop, fl_len]; first | omega | (simp; omega)) (by first | omega | (simp; omega)) (by first | omega | (simp; omega)) (by decide) ?_)
  refine list_nil ?_
  refine hK4 _ ?_; clear hK4 K4
  refine codeT.imp (σ' := [(0, _), (1, _), (4, _), (5, _)]) ?_ (imp_covers ⟨rfl, rfl, rfl, rfl, trivial⟩)
  refine code_seq (fun K5 hK5 => ?_)
  refine code_region ?_
  refine list_cons rfl (op_q (q_move rfl (by decide)) ?_)
  refine list_cons rfl (op_q (q_assign rfl (by decide)) ?_)
  refine list_nil ?_
  refine hK5 _ ?_; clear hK5 K5
  refine code_ret ?_
  refine ends_ret (cs := []) rfl rfl rfl rfl trivial ?_
  have e1 : List.take ((i.toNat - Int.toNat 0) * 2) (List.drop (Int.toNat 0 * 2) (fl fr)) = fl (fr.take i.toNat) := fl_cut8 fr 0 i.toNat
  have e2 : List.take (((fr.length : Int).toNat - (i + 1).toNat) * 2) (List.drop ((i + 1).toNat * 2) (fl fr)) = fl (fr.drop (i.toNat + 1)) := by rw [fl_cut8, show (i + 1).toNat = i.toNat + 1 by omega, List.take_of_length_le (by rw [List.length_drop]; omega)]
  have e3 := cut_len (fr := fr) (i := i.toNat) (by omega)
  have hl : (fr.take i.toNat).length = i.toNat := by rw [List.length_take]; omega
  have h := fl_put8 (fr.take i.toNat) (fr.drop (i.toNat + 1)) ((fr.length : Int) - 1).toNat (by rw [hl, List.length_drop]; omega) (zeros [PV.int .i64 0, PV.int .i64 0] ((fr.length : Int) - 1).toNat) (by rw [zeros_fl, fl_len, List.length_replicate])
  rw [hl] at h
  rw [e1, e2, h, e3, show ((fr.length : Int) - 1).toNat = fr.length - 1 by omega]

theorem impl_withoutSlot (fr : List (Int × Int)) (i : Int) (h0 : 0 ≤ i) (h1 : i < fr.length) (hf : fr.length ≤ 1048576) : PCalls Try.prog 92 [.sl fr.length (fl fr), .int .i64 i] (· = [.own 0 71 2 (fr.take i.toNat ++ fr.drop (i.toNat + 1)).length (fl (fr.take i.toNat ++ fr.drop (i.toNat + 1)))]) := by
  by_cases h : fr.length = 1
  · exact withoutSlot1 fr i h0 h1 hf h
  · exact withoutSlotN fr i h0 h1 hf (by omega)

set_option maxRecDepth 8000 in
set_option maxHeartbeats 4000000 in
theorem impl_VainSlots (k : Int) (fr : List (Int × Int)) (hf : fr.length ≤ 1048576) : PCalls Try.prog 42 [.int .i64 k, .sl fr.length (fl fr)] (· = [.own 0 3 1 (if GdP k fr then vnK k fr fr.length else []).length ((if GdP k fr then vnK k fr fr.length else []).map (.int .i64)), .val (.bool (decide (GdP k fr)))]) := by
  refine pcalls_of_code (n := 40) az Try.func42 (by kernel_rfl) rfl rfl (Nat.le_of_ble_eq_true rfl) (by intro t u h; simp [Try.f42] at h) ?_
  refine code_seq (fun K1 hK1 => ?_)
  refine code_region ?_
  refine list_cons rfl (op_q (q_assign rfl (by decide)) ?_)
  refine list_cons rfl (op_q (q_assign rfl (by decide)) ?_)
  refine list_nil ?_
  refine hK1 _ ?_; clear hK1 K1
  refine code_seq (fun K2 hK2 => ?_)
  refine code_seq (fun K3 hK3 => ?_)
  refine code_region ?_
  refine list_cons rfl (op_q (q_move rfl (by decide)) ?_)
  refine list_cons rfl (op_q (q_move rfl (by decide)) ?_)
  refine list_cons rfl (op_call _ (impl_IsFrame _ _ (by first | omega | (simp; omega))) rfl rfl (by decide) (by decide) (by decide) rfl ?_)
  rintro _ rfl
  refine list_cons rfl (op_q (q_move rfl (by decide)) ?_)
  refine list_cons rfl (op_q (q_extract rfl rfl (by decide)) ?_)
  refine list_cons rfl (op_q (q_extract rfl rfl (by decide)) ?_)
  refine list_cons rfl (op_q (q_assign rfl (by decide)) ?_)
  refine list_cons rfl (op_q (q_assign rfl (by decide)) ?_)
  refine list_nil ?_
  refine hK3 _ ?_; clear hK3 K3
  refine codeT.imp (σ' := [(0, _), (1, _), (4, _), (5, _), (6, _)]) ?_ (imp_covers ⟨rfl, rfl, rfl, rfl, rfl, trivial⟩)
  refine code_seq (fun K4 hK4 => ?_)
  refine code_region ?_
  refine list_cons rfl (op_q (q_move rfl (by decide)) ?_)
  refine list_cons rfl (op_q (by first | exact q_notd rfl (by decide) | exact q_not rfl (by decide)) ?_)
  refine list_nil ?_
  refine hK4 _ ?_; clear hK4 K4
  refine code_cond_d rfl (fun h1 => ?_) (fun h1 => ?_)
  · skip
    (try simp only [Decidable.not_not] at h1); (try have hg := (h1 : GdP k fr); try have hk := hg.1; try have hF := hg.2; try have h12 := hF.1; try have hfl := fl_len fr)
    refine code_seq (fun K5 hK5 => ?_)
    refine code_region ?_
    refine list_cons rfl (op_buildSlice sl_27 (parts := []) rfl rfl rfl (by decide) (by decide) (by decide) rfl ?_)
    refine list_cons rfl (op_q (q_assign rfl (by decide)) ?_)
    refine list_cons rfl (op_q (q_assign rfl (by decide)) ?_)
    refine list_nil ?_
    refine hK5 _ ?_; clear hK5 K5
    refine code_ret ?_
    refine then_r ?_; clear hK2 K2
    refine ends_ret (cs := []) rfl rfl rfl rfl trivial ?_
    first
      | (rw [show t25.toNat = fr.length by omega] at hL
         subst hL
         simp only [if_pos hg, decide_eq_true hg]; done)
      | (have e : ¬ GdP k fr := by assumption
         simp only [if_neg e, decide_eq_false e]; rfl)
  (try simp only [Decidable.not_not] at h1); (try have hg := (h1 : GdP k fr); try have hk := hg.1; try have hF := hg.2; try have h12 := hF.1; try have hfl := fl_len fr)
  refine code_skip ?_
  refine hK2 _ ?_; clear hK2 K2
  refine code_seq (fun K6 hK6 => ?_)
  refine code_region ?_
  refine list_cons rfl (op_buildSlice sl_27 (parts := []) rfl rfl rfl (by decide) (by decide) (by decide) rfl ?_)
  refine list_cons rfl (op_q (q_move rfl (by decide)) ?_)
  refine list_cons rfl (op_call _ (impl_sightOf k fr hk.2 hF) rfl rfl (by decide) (by decide) (by decide) rfl ?_)
  rintro _ rfl
  refine list_cons rfl (op_alloc zt_64 (by decide) (by decide) rfl ?_)
  refine list_cons rfl (op_q (q_assign rfl (by decide)) ?_)
  refine list_cons rfl (op_store (agg_64).2 9 [9] (by intro t ht; simp only [List.mem_cons, List.not_mem_nil, or_false] at ht; subst ht; rfl) (.inr ⟨rfl, _, rfl⟩) rfl rfl rfl rfl (by first | rfl | exact flat_part (flat_map _ (fun _ => rfl) _) _ _ | exact flat_map _ (fun _ => rfl) _) (by first | rfl | (simp [PV.cells, stS_len]; done)) (by decide) (by decide) rfl ?_)
  refine list_nil ?_
  refine hK6 _ ?_; clear hK6 K6
  refine codeT.imp (σ' := [(0, _), (1, _), (4, _), (5, _), (6, _), (8, _), (9, .box 9 64 ((stS fr fr.length).map (.int .i64)))]) ?_ (imp_covers ⟨rfl, rfl, rfl, rfl, rfl, rfl, (congrArg (fun z => some (SV.box 9 64 z)) (put_all8 (n := 6) rfl (by simp [stS_len]))), trivial⟩)
  refine code_seq (fun K7 hK7 => ?_)
  refine code_seq (fun K8 hK8 => ?_)
  refine code_region ?_
  refine list_cons rfl (op_q (q_move rfl (by decide)) ?_)
  refine list_cons rfl (op_q (q_len_sl Try.underlying24 rfl rfl (by decide)) ?_)
  refine list_cons rfl (op_q (q_move rfl (by decide)) ?_)
  refine list_nil ?_
  refine hK8 _ ?_; clear hK8 K8
  refine code_block ?_
  refine code_loop (X := PV × Bool × Bool × Nat × List PV × Int) (fun x => [(0, .val (.int .i64 k)), (1, .par 1 (.sl fr.length (fl fr))), (4, .val x.1), (5, .val (.bool x.2.1)), (6, .val (.bool x.2.2.1)), (8, .own 20 3 1 x.2.2.2.1 x.2.2.2.2.1), (9, .box 9 64 ((stS fr fr.length).map (.int .i64))), (24, .val (.int .i64 fr.length)), (25, .val (.int .i64 x.2.2.2.2.2))]) (fun x => GdP k fr ∧ 0 ≤ x.2.2.2.2.2 ∧ x.2.2.2.2.2 ≤ fr.length ∧ ∃ L : List Int, x.2.2.2.1 = L.length ∧ x.2.2.2.2.1 = L.map (.int .i64) ∧ L = vnK k fr x.2.2.2.2.2.toNat) (fun x => (fr.length - x.2.2.2.2.2).toNat) (_, _, _, _, _, _) (imp_covers ⟨rfl, rfl, rfl, rfl, rfl, rfl, rfl, rfl, rfl, trivial⟩) ?_ ?_
  · (try dsimp only)
    exact ⟨hg, by omega, by omega, [], rfl, rfl, rfl⟩
  · intro x hI
    obtain ⟨t4_p, t5, is, vain_n, vain_c, t25⟩ := x
    replace hI : GdP k fr ∧ 0 ≤ t25 ∧ t25 ≤ fr.length ∧ ∃ L : List Int, vain_n = L.length ∧ vain_c = L.map (.int .i64) ∧ L = vnK k fr t25.toNat := hI
    show codeT _ _ _ [(0, .val (.int .i64 k)), (1, .par 1 (.sl fr.length (fl fr))), (4, .val t4_p), (5, .val (.bool t5)), (6, .val (.bool is)), (8, .own 20 3 1 vain_n vain_c), (9, .box 9 64 ((stS fr fr.length).map (.int .i64))), (24, .val (.int .i64 fr.length)), (25, .val (.int .i64 t25))] _
    obtain ⟨hg, i1, i2, L, rfl, rfl, hL⟩ := hI
    have hk := hg.1
    have hF := hg.2
    have h12 := hF.1
    have hfl := fl_len fr
    have hLl : L.length ≤ 12 := by have := vnK_len k fr t25.toNat; rw [← hL] at this; omega
    refine code_seq (fun K9 hK9 => ?_)
    refine code_region ?_
    refine list_cons rfl (op_q (q_lt rfl rfl (by decide)) ?_)
    refine list_nil ?_
    refine hK9 _ ?_; clear hK9 K9
    refine code_seq (fun K10 hK10 => ?_)
    refine code_cond_d rfl (fun h2 => ?_) (fun h2 => ?_)
    · skip
      (try simp only [Decidable.not_not] at h2); (try have hg := (h2 : GdP k fr); try have hk := hg.1; try have hF := hg.2; try have h12 := hF.1; try have hfl := fl_len fr)
      refine code_skip ?_
      refine hK10 _ ?_; clear hK10 K10
      refine code_seq (fun K11 hK11 => ?_)
      refine code_block ?_
      refine code_seq (fun K12 hK12 => ?_)
      refine code_region ?_
      refine list_cons rfl (op_q (q_move rfl (by decide)) ?_)
      refine list_cons rfl (op_q (q_assign rfl (by decide)) ?_)
      refine list_nil ?_
      refine hK12 _ ?_; clear hK12 K12
      refine code_seq (fun K13 hK13 => ?_)
      refine any_start fun ob4_0 => ?_
      refine any_op (rd := [1]) ob4_0 rfl rfl rfl (anyT_quiet [(1, _)] ⟨rfl, trivial⟩ rfl (q_move rfl (by decide))) (fun ob4_1 => ?_)
      refine any_op (rd := [10]) ob4_1 rfl rfl rfl (anyT_quiet [(10, _)] ⟨rfl, trivial⟩ rfl (q_move rfl (by decide))) (fun ob4_2 => ?_)
      refine any_op (rd := [28, 29]) ob4_2 rfl rfl rfl (fun σ hag hfr => by have e28 : σ.at 28 = some _ := (hag 28 (by decide)).trans rfl; have e29 : σ.at 29 = some _ := (hag 29 (by decide)).trans rfl; exact op_call _ (impl_withoutSlot fr t25 (by omega) (by omega) (by omega)) (evs_cons e28 (evs_cons e29 evs_nil)) rfl (by decide) (by decide) (by decide) hfr (fun rs hR => by subst hR; rfl)) (fun ob4_3 => ?_)
      refine any_op (rd := [30]) ob4_3 rfl rfl rfl (fun σ hag hfr => by have e30 : σ.at 30 = some _ := (hag 30 (by decide)).trans rfl; exact op_call _ (impl_sightOf k (fr.take t25.toNat ++ fr.drop (t25.toNat + 1)) hk.2 (hF.cut t25.toNat)) (evs_cons e30 evs_nil) rfl (by decide) (by decide) (by decide) hfr (fun rs hR => by subst hR; rfl)) (fun ob4_4 => ?_)
      refine any_op (rd := [9]) ob4_4 rfl rfl rfl (anyT_quiet [(9, _)] ⟨rfl, trivial⟩ rfl (q_cast (q_load_agg agg_64 9 (.inr ⟨rfl, _, rfl⟩) rfl rfl (by rw [List.length_map, stS_len]; decide) (by first | rfl | exact flat_part (flat_map _ (fun _ => rfl) _) _ _) (by decide)) (congrArg (fun z => SV.val (PV.agg z)) (ld8 (stS_len _ _))))) (fun ob4_5 => ?_)
      refine any_end [[], [], [0, 1], [0, 1, 2], [], [0, 1, 2, 3, 4]] ob4_5 (by kernel_rfl) (Nat.le_of_ble_eq_true rfl) (by decide) (by decide) (by kernel_rfl) (by kernel_rfl) (by kernel_rfl) (by kernel_rfl) (by kernel_rfl) ?_
      clear ob4_0 ob4_1 ob4_2 ob4_3 ob4_4 ob4_5
      refine listT.imp (σ' := [(0, _), (1, _), (4, _), (5, _), (6, _), (8, _), (9, _), (10, _), (24, _), (25, _), (26, _), (27, _), (28, _), (29, _), (30, _), (31, _), (32, _)]) ?_ (imp_covers ⟨rfl, rfl, rfl, rfl, rfl, rfl, rfl, rfl, rfl, rfl, rfl, rfl, rfl, rfl, rfl, rfl, rfl, trivial⟩)
      refine list_cons rfl (op_q (q_aggeq (by decide) agg_64 eqty_64 eqg_64 rfl rfl (hasK_i8 6 _ (by rw [stS_len]; decide)) (hasK_i8 6 _ (by rw [stS_len]; decide)) (by rw [List.length_map, stS_len]; rfl) (by rw [List.length_map, stS_len]; rfl) (by decide)) ?_)
      refine list_nil ?_
      refine hK13 _ ?_; clear hK13 K13
      refine codeT.imp (σ' := [(0, _), (1, _), (4, _), (5, _), (6, _), (8, _), (9, _), (10, _), (24, _), (25, _), (33, _)]) ?_ (imp_covers ⟨rfl, rfl, rfl, rfl, rfl, rfl, rfl, rfl, rfl, rfl, rfl, trivial⟩)
      refine code_cond_d rfl (fun h3 => ?_) (fun h3 => ?_)
      · skip
        (try simp only [Decidable.not_not] at h3); (try have hg := (h3 : GdP k fr); try have hk := hg.1; try have hF := hg.2; try have h12 := hF.1; try have hfl := fl_len fr)
        refine code_region ?_
        refine list_cons rfl (op_q (q_move rfl (by decide)) ?_)
        refine list_cons rfl (op_q (q_move rfl (by decide)) ?_)
        refine list_cons rfl (op_buildSlice sl_27 (parts := [(0, .tmp 35)]) rfl rfl rfl (by decide) (by decide) (by decide) rfl ?_)
        refine list_cons rfl (op_append_gen sl_27 (l := 20) (.inl rfl) rfl rfl (l2 := none) (.inl ⟨rfl, (by first | rfl | exact flat_map _ (fun _ => rfl) _)⟩) (by first | rfl | simp | omega) (by omega) (by decide) (by decide) (by decide) ?_)
        refine list_cons rfl (op_q (q_assign rfl (by decide)) ?_)
        refine list_nil ?_
        refine blk_n ?_
        refine hK11 _ ?_; clear hK11 K11
        refine codeT.imp (σ' := [(0, _), (1, _), (4, _), (5, _), (6, _), (8, _), (9, _), (10, _), (24, _), (25, _)]) ?_ (imp_covers ⟨rfl, rfl, rfl, rfl, rfl, rfl, rfl, rfl, rfl, rfl, trivial⟩)
        refine code_region ?_
        refine list_cons rfl (op_q (by first | exact q_addI rfl rfl (by decide) (by omega) (by omega) | exact q_ib rfl rfl rfl (by decide)) ?_)
        refine list_cons rfl (op_q (q_move rfl (by decide)) ?_)
        refine list_nil ?_
        refine then_n ⟨(_, _, _, _, _, _), imp_covers ⟨rfl, rfl, rfl, rfl, rfl, rfl, rfl, rfl, rfl, trivial⟩, ?_, ?_⟩
        · (try dsimp only)
          have hx := h3
          first
            | (have hv : VnP k fr t25.toNat := (stS_eq (hg.gd _) hg).1 ((eqP_i8 _ _ (by rw [stS_len, stS_len])).1 hx)
               exact ⟨hg, by omega, by omega, L ++ [t25], by simp, by simp; rfl, by rw [show (t25 + 1).toNat = t25.toNat + 1 by omega, vnK_succ, if_pos hv, hL, Int.toNat_of_nonneg i1]⟩)
            | (have hv : ¬ VnP k fr t25.toNat := fun z => hx ((eqP_i8 _ _ (by rw [stS_len, stS_len])).2 ((stS_eq (hg.gd _) hg).2 z))
               exact ⟨hg, by omega, by omega, L, rfl, rfl, by rw [show (t25 + 1).toNat = t25.toNat + 1 by omega, vnK_succ, if_neg hv, hL, List.append_nil]⟩)
        · (try dsimp only); omega
      (try simp only [Decidable.not_not] at h3); (try have hg := (h3 : GdP k fr); try have hk := hg.1; try have hF := hg.2; try have h12 := hF.1; try have hfl := fl_len fr)
      refine code_skip ?_
      refine blk_n ?_
      refine hK11 _ ?_; clear hK11 K11
      refine code_region ?_
      refine list_cons rfl (op_q (by first | exact q_addI rfl rfl (by decide) (by omega) (by omega) | exact q_ib rfl rfl rfl (by decide)) ?_)
      refine list_cons rfl (op_q (q_move rfl (by decide)) ?_)
      refine list_nil ?_
      refine then_n ⟨(_, _, _, _, _, _), imp_covers ⟨rfl, rfl, rfl, rfl, rfl, rfl, rfl, rfl, rfl, trivial⟩, ?_, ?_⟩
      · (try dsimp only)
        have hx := h3
        first
          | (have hv : VnP k fr t25.toNat := (stS_eq (hg.gd _) hg).1 ((eqP_i8 _ _ (by rw [stS_len, stS_len])).1 hx)
             exact ⟨hg, by omega, by omega, L ++ [t25], by simp, by simp; rfl, by rw [show (t25 + 1).toNat = t25.toNat + 1 by omega, vnK_succ, if_pos hv, hL, Int.toNat_of_nonneg i1]⟩)
          | (have hv : ¬ VnP k fr t25.toNat := fun z => hx ((eqP_i8 _ _ (by rw [stS_len, stS_len])).2 ((stS_eq (hg.gd _) hg).2 z))
             exact ⟨hg, by omega, by omega, L, rfl, rfl, by rw [show (t25 + 1).toNat = t25.toNat + 1 by omega, vnK_succ, if_neg hv, hL, List.append_nil]⟩)
      · (try dsimp only); omega
    (try simp only [Decidable.not_not] at h2); (try have hg := (h2 : GdP k fr); try have hk := hg.1; try have hF := hg.2; try have h12 := hF.1; try have hfl := fl_len fr)
    refine code_exit ?_
    refine then_x ?_; clear hK10 K10
    refine then_x ?_
    refine blk_hit ?_
    refine hK7 _ ?_; clear hK7 K7
    refine code_seq (fun K14 hK14 => ?_)
    refine code_region ?_
    refine list_cons rfl (op_q (q_move rfl (by decide)) ?_)
    refine list_cons rfl (op_q (q_assign rfl (by decide)) ?_)
    refine list_cons rfl (op_q (q_assign rfl (by decide)) ?_)
    refine list_nil ?_
    refine hK14 _ ?_; clear hK14 K14
    refine code_ret ?_
    refine ends_ret (cs := []) rfl rfl rfl rfl trivial ?_
    first
      | (rw [show t25.toNat = fr.length by omega] at hL
         subst hL
         simp only [if_pos hg, decide_eq_true hg]; done)
      | (have e : ¬ GdP k fr := by assumption
         simp only [if_neg e, decide_eq_false e]; rfl)

set_option maxRecDepth 4000 in
theorem cloneS_c (fr : List (Int × Int)) (hf : fr.length ≤ 1048576) : PCalls Try.prog 91 [.sl fr.length (fl fr)] (· = [.own 0 71 2 (fr).length (fl (fr))]) := by
  refine pcalls_of_code (n := 8) az Try.func91 (by kernel_rfl) rfl rfl (Nat.le_of_ble_eq_true rfl) (by intro t u h; simp [Try.f91] at h) ?_
  have hfl := fl_len fr
  have hff := fl_flat fr
  refine code_seq (fun K1 hK1 => ?_)
  refine code_region ?_
  refine list_cons rfl (op_q (q_assign rfl (by decide)) ?_)
  refine list_nil ?_
  refine hK1 _ ?_; clear hK1 K1
  refine code_seq (fun K2 hK2 => ?_)
  refine code_seq (fun K3 hK3 => ?_)
  refine code_region ?_
  refine list_cons rfl (op_q (q_move rfl (by decide)) ?_)
  refine list_cons rfl (op_eqnil Try.underlying24 rfl rfl (by decide) (fun h1 hzh1 => ?_) ?_)
  · skip
    refine list_nil ?_
    refine hK3 _ ?_; clear hK3 K3
    refine code_cond_t rfl ?_
    refine code_seq (fun K4 hK4 => ?_)
    refine code_region ?_
    refine list_cons rfl (op_q (q_assign rfl (by decide)) ?_)
    refine list_nil ?_
    refine hK4 _ ?_; clear hK4 K4
    refine codeT.imp ?_ (imp_nil (s := 2) (l := 902) (e := 71) (size := 2) (by first | exact .inl rfl | exact .inr rfl))
    refine code_ret ?_
    refine then_r ?_; clear hK2 K2
    refine ends_ret (cs := []) rfl rfl rfl rfl trivial ?_
    first
      | rfl
      | (have e : fr = [] := List.eq_nil_of_length_eq_zero h1
         subst e; rfl)
      | (rw [show zeros [PV.int IntKind.i64 0, PV.int IntKind.i64 0] 0 = [] from rfl, List.nil_append, Nat.zero_add]; done)
  · skip
    refine list_nil ?_
    refine hK3 _ ?_; clear hK3 K3
    refine code_cond_f rfl ?_
    refine code_skip ?_
    refine hK2 _ ?_; clear hK2 K2
    refine code_seq (fun K5 hK5 => ?_)
    refine code_region ?_
    refine list_cons rfl (op_buildSlice sl_24 (parts := []) rfl rfl rfl (by decide) (by decide) (by decide) rfl ?_)
    refine list_cons rfl (op_q (q_move rfl (by decide)) ?_)
    refine list_cons rfl (op_append_gen sl_24 (l := 5) (.inl rfl) rfl rfl (l2 := none) (.inl ⟨rfl, (by exact fl_flat fr)⟩) (by first | exact fl_len fr | rw [fl_len]) (by omega) (by decide) (by decide) (by decide) ?_)
    refine list_cons rfl (op_q (q_assign rfl (by decide)) ?_)
    refine list_nil ?_
    refine hK5 _ ?_; clear hK5 K5
    refine codeT.imp (σ' := [(0, _), (2, _)]) ?_ (imp_covers ⟨rfl, rfl, trivial⟩)
    refine code_ret ?_
    refine ends_ret (cs := []) rfl rfl rfl rfl trivial ?_
    first
      | rfl
      | (have e : fr = [] := List.eq_nil_of_length_eq_zero h1
         subst e; rfl)
      | (rw [show zeros [PV.int IntKind.i64 0, PV.int IntKind.i64 0] 0 = [] from rfl, List.nil_append, Nat.zero_add]; done)

set_option maxRecDepth 8000 in
set_option maxHeartbeats 4000000 in
theorem dropVainN (k : Int) (fr : List (Int × Int)) (hf : fr.length ≤ 1048576) (hg : ¬ GdP k fr) : PCalls Try.prog 40 [.int .i64 k, .sl fr.length (fl fr)] (· = [.own 0 71 2 (if GdP k fr then dvF k fr.length 0 fr else []).length (fl (if GdP k fr then dvF k fr.length 0 fr else [])), .val (.bool (decide (GdP k fr)))]) := by
  refine pcalls_of_code (n := 29) az Try.func40 (by kernel_rfl) rfl rfl (Nat.le_of_ble_eq_true rfl) (by intro t u h; simp [Try.f40] at h) ?_
  refine code_seq (fun K1 hK1 => ?_)
  refine code_region ?_
  refine list_cons rfl (op_q (q_assign rfl (by decide)) ?_)
  refine list_cons rfl (op_q (q_assign rfl (by decide)) ?_)
  refine list_nil ?_
  refine hK1 _ ?_; clear hK1 K1
  refine code_seq (fun K2 hK2 => ?_)
  refine code_region ?_
  refine list_cons rfl (op_q (q_move rfl (by decide)) ?_)
  refine list_cons rfl (op_call _ (cloneS_c _ (by omega)) rfl rfl (by decide) (by decide) (by decide) rfl ?_)
  rintro _ rfl
  refine list_cons rfl (op_q (q_assign rfl (by decide)) ?_)
  refine list_nil ?_
  refine hK2 _ ?_; clear hK2 K2
  refine codeT.imp (σ' := [(0, _), (1, _), (4, _), (5, _), (6, _)]) ?_ (imp_covers ⟨rfl, rfl, rfl, rfl, rfl, trivial⟩)
  refine code_block ?_
  refine code_loop (X := PV × Bool × Nat × List PV) (fun x => [(0, .val (.int .i64 k)), (1, .par 1 (.sl fr.length (fl fr))), (4, .val x.1), (5, .val (.bool x.2.1)), (6, .own 10 71 2 x.2.2.1 x.2.2.2)]) (fun x => x.2.2.1 = fr.length ∧ x.2.2.2 = fl fr) (fun x => x.2.2.1) (_, _, _, _) (imp_covers ⟨rfl, rfl, rfl, rfl, rfl, trivial⟩) ?_ ?_
  · (try dsimp only)
    exact ⟨rfl, rfl⟩
  · intro x hI
    obtain ⟨t4_p, t5, rest_n, rest_c⟩ := x
    replace hI : rest_n = fr.length ∧ rest_c = fl fr := hI
    show codeT _ _ _ [(0, .val (.int .i64 k)), (1, .par 1 (.sl fr.length (fl fr))), (4, .val t4_p), (5, .val (.bool t5)), (6, .own 10 71 2 rest_n rest_c)] _
    obtain ⟨rfl, rfl⟩ := hI
    refine code_block ?_
    refine code_seq (fun K3 hK3 => ?_)
    refine code_region ?_
    refine list_cons rfl (op_q (q_move rfl (by decide)) ?_)
    refine list_cons rfl (op_q (q_move rfl (by decide)) ?_)
    refine list_cons rfl (op_call _ (impl_VainSlots k fr (by omega)) rfl rfl (by decide) (by decide) (by decide) rfl ?_)
    rintro _ rfl; simp only [if_neg hg, decide_eq_false hg]
    refine list_cons rfl (op_q (q_move rfl (by decide)) ?_)
    refine list_cons rfl (op_q (q_extract rfl rfl (by decide)) ?_)
    refine list_cons rfl (op_q (q_extract rfl rfl (by decide)) ?_)
    refine list_cons rfl (op_q (q_assign rfl (by decide)) ?_)
    refine list_cons rfl (op_q (q_assign rfl (by decide)) ?_)
    refine list_nil ?_
    refine hK3 _ ?_; clear hK3 K3
    refine codeT.imp (σ' := [(0, _), (1, _), (4, _), (5, _), (6, _), (7, _), (8, _)]) ?_ (imp_covers ⟨rfl, rfl, rfl, rfl, rfl, rfl, rfl, trivial⟩)
    refine code_seq (fun K4 hK4 => ?_)
    refine code_seq (fun K5 hK5 => ?_)
    refine code_region ?_
    refine list_cons rfl (op_q (q_move rfl (by decide)) ?_)
    refine list_cons rfl (op_q (by first | exact q_notd rfl (by decide) | exact q_not rfl (by decide)) ?_)
    refine list_nil ?_
    refine hK5 _ ?_; clear hK5 K5
    refine code_cond_t rfl ?_
    refine code_seq (fun K6 hK6 => ?_)
    refine code_region ?_
    refine list_cons rfl (op_buildSlice sl_24 (parts := []) rfl rfl rfl (by decide) (by decide) (by decide) rfl ?_)
    refine list_cons rfl (op_q (q_assign rfl (by decide)) ?_)
    refine list_cons rfl (op_q (q_assign rfl (by decide)) ?_)
    refine list_nil ?_
    refine hK6 _ ?_; clear hK6 K6
    refine code_ret ?_
    refine then_r ?_; clear hK4 K4
    refine blk_r ?_
    refine then_r ?_
    refine blk_r ?_
    refine ends_ret (cs := []) rfl rfl rfl rfl trivial ?_
    simp only [if_neg hg, decide_eq_false hg]; rfl

set_option maxRecDepth 8000 in
set_option maxHeartbeats 4000000 in
theorem dropVainY (k : Int) (fr : List (Int × Int)) (hf : fr.length ≤ 1048576) (hg : GdP k fr) : PCalls Try.prog 40 [.int .i64 k, .sl fr.length (fl fr)] (· = [.own 0 71 2 (if GdP k fr then dvF k fr.length 0 fr else []).length (fl (if GdP k fr then dvF k fr.length 0 fr else [])), .val (.bool (decide (GdP k fr)))]) := by
  refine pcalls_of_code (n := 29) az Try.func40 (by kernel_rfl) rfl rfl (Nat.le_of_ble_eq_true rfl) (by intro t u h; simp [Try.f40] at h) ?_
  refine code_seq (fun K1 hK1 => ?_)
  refine code_region ?_
  refine list_cons rfl (op_q (q_assign rfl (by decide)) ?_)
  refine list_cons rfl (op_q (q_assign rfl (by decide)) ?_)
  refine list_nil ?_
  refine hK1 _ ?_; clear hK1 K1
  refine code_seq (fun K2 hK2 => ?_)
  refine code_region ?_
  refine list_cons rfl (op_q (q_move rfl (by decide)) ?_)
  refine list_cons rfl (op_call _ (cloneS_c _ (by omega)) rfl rfl (by decide) (by decide) (by decide) rfl ?_)
  rintro _ rfl
  refine list_cons rfl (op_q (q_assign rfl (by decide)) ?_)
  refine list_nil ?_
  refine hK2 _ ?_; clear hK2 K2
  refine codeT.imp (σ' := [(0, _), (1, _), (4, _), (5, _), (6, _)]) ?_ (imp_covers ⟨rfl, rfl, rfl, rfl, rfl, trivial⟩)
  refine code_block ?_
  refine code_loop (X := PV × Bool × Nat × List PV) (fun x => [(0, .val (.int .i64 k)), (1, .par 1 (.sl fr.length (fl fr))), (4, .val x.1), (5, .val (.bool x.2.1)), (6, .own 10 71 2 x.2.2.1 x.2.2.2)]) (fun x => ∃ L : List (Int × Int), x.2.2.1 = L.length ∧ x.2.2.2 = fl L ∧ GdP k L ∧ dvF k fr.length 0 fr = dvF k L.length 0 L) (fun x => x.2.2.1) (_, _, _, _) (imp_covers ⟨rfl, rfl, rfl, rfl, rfl, trivial⟩) ?_ ?_
  · (try dsimp only)
    exact ⟨fr, rfl, rfl, hg, rfl⟩
  · intro x hI
    obtain ⟨t4_p, t5, rest_n, rest_c⟩ := x
    replace hI : ∃ L : List (Int × Int), rest_n = L.length ∧ rest_c = fl L ∧ GdP k L ∧ dvF k fr.length 0 fr = dvF k L.length 0 L := hI
    show codeT _ _ _ [(0, .val (.int .i64 k)), (1, .par 1 (.sl fr.length (fl fr))), (4, .val t4_p), (5, .val (.bool t5)), (6, .own 10 71 2 rest_n rest_c)] _
    obtain ⟨L, rfl, rfl, hgL, hLd⟩ := hI
    have h12 := hgL.2.1
    have hh := vnK_head (k := k) (L := L) L.length
    refine code_block ?_
    refine code_seq (fun K3 hK3 => ?_)
    refine code_region ?_
    refine list_cons rfl (op_q (q_move rfl (by decide)) ?_)
    refine list_cons rfl (op_q (q_move rfl (by decide)) ?_)
    refine list_cons rfl (op_call _ (impl_VainSlots k L (by omega)) rfl rfl (by decide) (by decide) (by decide) rfl ?_)
    rintro _ rfl; simp only [if_pos hgL, decide_eq_true hgL]
    refine list_cons rfl (op_q (q_move rfl (by decide)) ?_)
    refine list_cons rfl (op_q (q_extract rfl rfl (by decide)) ?_)
    refine list_cons rfl (op_q (q_extract rfl rfl (by decide)) ?_)
    refine list_cons rfl (op_q (q_assign rfl (by decide)) ?_)
    refine list_cons rfl (op_q (q_assign rfl (by decide)) ?_)
    refine list_nil ?_
    refine hK3 _ ?_; clear hK3 K3
    refine codeT.imp (σ' := [(0, _), (1, _), (4, _), (5, _), (6, _), (7, _), (8, _)]) ?_ (imp_covers ⟨rfl, rfl, rfl, rfl, rfl, rfl, rfl, trivial⟩)
    refine code_seq (fun K4 hK4 => ?_)
    refine code_seq (fun K5 hK5 => ?_)
    refine code_region ?_
    refine list_cons rfl (op_q (q_move rfl (by decide)) ?_)
    refine list_cons rfl (op_q (by first | exact q_notd rfl (by decide) | exact q_not rfl (by decide)) ?_)
    refine list_nil ?_
    refine hK5 _ ?_; clear hK5 K5
    refine code_cond_f rfl ?_
    refine code_skip ?_
    refine hK4 _ ?_; clear hK4 K4
    refine code_seq (fun K6 hK6 => ?_)
    refine code_seq (fun K7 hK7 => ?_)
    refine code_region ?_
    refine list_cons rfl (op_q (q_move rfl (by decide)) ?_)
    refine list_cons rfl (op_q (q_len_sl Try.underlying27 rfl rfl (by decide)) ?_)
    refine list_cons rfl (op_q (q_eq rfl rfl (by decide)) ?_)
    refine list_nil ?_
    refine hK7 _ ?_; clear hK7 K7
    refine code_cond_d rfl (fun h1 => ?_) (fun h1 => ?_)
    · skip
      (try (have hne := (h1 : ¬ ((vnK k L L.length).length : Int) = 0); obtain ⟨j, r, hv1, hv2, hv3, hv4⟩ := hh.resolve_left (fun z => hne (by rw [z.1]; rfl)); have hj0 : ((vnK k L L.length).getD 0 0) = ((j : Nat) : Int) := by rw [hv1]; rfl))
      refine code_seq (fun K8 hK8 => ?_)
      refine code_region ?_
      refine list_cons rfl (op_q (q_move rfl (by decide)) ?_)
      refine list_cons rfl (op_q (q_assign rfl (by decide)) ?_)
      refine list_cons rfl (op_q (q_assign rfl (by decide)) ?_)
      refine list_nil ?_
      refine hK8 _ ?_; clear hK8 K8
      refine code_ret ?_
      refine then_r ?_; clear hK6 K6
      refine blk_r ?_
      refine then_r ?_
      refine blk_r ?_
      refine ends_ret (cs := []) rfl rfl rfl rfl trivial ?_
      have hn := hh.resolve_right (fun ⟨j, r, e, _⟩ => by have hx := h1; rw [e] at hx; simp at hx; omega)
      rw [hLd, dvF_none hn.2]
      simp only [if_pos hg, decide_eq_true hg]
    (try (have hne := (h1 : ¬ ((vnK k L L.length).length : Int) = 0); obtain ⟨j, r, hv1, hv2, hv3, hv4⟩ := hh.resolve_left (fun z => hne (by rw [z.1]; rfl)); have hj0 : ((vnK k L L.length).getD 0 0) = ((j : Nat) : Int) := by rw [hv1]; rfl))
    refine code_skip ?_
    refine hK6 _ ?_; clear hK6 K6
    refine code_region ?_
    refine list_cons rfl (op_q (q_move rfl (by decide)) ?_)
    refine list_cons rfl (op_q (q_move rfl (by decide)) ?_)
    refine list_cons rfl (op_q (q_indexAddr_own sl_27 rfl rfl (by omega) (by omega) (by decide)) ?_)
    refine list_cons rfl (op_q (q_load one_3 7 rfl rfl rfl (by first | rfl | exact get_map1 _ 0 _ (by first | omega | (simp; omega))) (by decide)) ?_)
    refine list_cons rfl (op_call _ (impl_withoutSlot L ((vnK k L L.length).getD 0 0) (by omega) (by omega) (by omega)) rfl rfl (by decide) (by decide) (by decide) rfl ?_)
    rintro _ rfl
    refine list_cons rfl (op_q (q_assign rfl (by decide)) ?_)
    refine list_nil ?_
    refine blk_n ?_
    refine then_n ⟨(_, _, _, _), (imp_covers (σ' := [(0, _), (1, _), (4, _), (5, _), (6, _)]) ⟨rfl, rfl, rfl, rfl, rfl, trivial⟩).trans ((imp_ren 28 10 (by decide) (by decide) rfl).trans (imp_covers ⟨rfl, rfl, rfl, rfl, rfl, trivial⟩)), ?_, ?_⟩
    · (try dsimp only)
      exact ⟨_, rfl, rfl, hgL.gd _, by rw [hLd, hj0, Int.toNat_natCast]; exact dvF_first hv2 hv3 hv4⟩
    · (show (L.take _ ++ L.drop _).length < L.length); rw [cut_len (by omega)]; omega

theorem impl_DropVain (k : Int) (fr : List (Int × Int)) (hf : fr.length ≤ 1048576) : PCalls Try.prog 40 [.int .i64 k, .sl fr.length (fl fr)] (· = [.own 0 71 2 (if GdP k fr then dvF k fr.length 0 fr else []).length (fl (if GdP k fr then dvF k fr.length 0 fr else [])), .val (.bool (decide (GdP k fr)))]) := by
  by_cases h : GdP k fr
  · exact dropVainY k fr hf h
  · exact dropVainN k fr hf h

end Go.Proofs.Ytlmmjegbnmolcaa
