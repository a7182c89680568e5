/- Contracts of functions, walked over the pure layer; each says for which arguments. -/
import Derived.Test.Ytlmmjegbnmolcabd2Ty
import Derived.Test.YtlmmjegbnmolcabTf
import Derived.Test.Ytlmmjegbnmolcabd1
import Derived.Test.YtlmmjegbnmolcabShelf
namespace Go.Proofs.Ytlmmjegbnmolcab
open Go.RowKit d2Ty
set_option linter.unusedVariables false
set_option linter.unusedSimpArgs false

set_option maxRecDepth 100000 in
theorem onesCount_c (c : Int) (h0 : 0 ≤ c) (h1 : c ≤ 127) : PCalls Try.prog 40 [.int .u64 c] (· = [.val (.int .i64 (((cnt7 c.toNat : Nat) : Int)))]) := by
  have h := below_int (p := fun i => oneInt (crun Tf.tf noExt 200 6 40 [.int .u64 (Int.ofNat i)]) (((cnt7 i : Nat) : Int))) (k := 128) (by kernel_rfl) h0 (by omega)
  have e : Int.ofNat c.toNat = c := Int.toNat_of_nonneg h0
  rw [e] at h
  exact pcalls_run Tf.tf (oneInt_ok h)

set_option maxRecDepth 4000 in
theorem impl_IsCell (c : Int) : PCalls Try.prog 49 [.int .i64 c] (· = [.val (.bool (decide (0 ≤ c ∧ c ≤ 127)))]) := by
  refine pcalls_of_code (n := 9) az Try.func49 (by kernel_rfl) rfl rfl (Nat.le_of_ble_eq_true rfl) (by intro t u h; simp [Try.f49] at h) ?_
  refine code_seq (fun K1 hK1 => ?_)
  refine code_region ?_
  refine list_cons rfl (op_q (q_assign rfl (by decide)) ?_)
  refine list_nil ?_
  refine hK1 _ ?_; clear hK1 K1
  refine code_seq (fun K2 hK2 => ?_)
  refine code_region ?_
  refine list_cons rfl (op_q (q_move rfl (by decide)) ?_)
  refine list_cons rfl (op_q (q_ge rfl rfl (by decide)) ?_)
  refine list_cons rfl (op_q (q_move rfl (by decide)) ?_)
  refine list_guard_d rfl rfl rfl rfl (by decide) rfl (by decide) (fun h1 => ?_) (fun h1 => ?_)
  · simp only [Bool.false_eq_true, if_true, if_false, Decidable.not_not] at h1
    refine id (op_q (q_move rfl (by decide)) ?_)
    refine list_guard_y rfl rfl rfl rfl (by decide) rfl ?_
    refine id (op_q (q_lt rfl rfl (by decide)) ?_)
    refine list_cons rfl (op_q (q_pick rfl rfl (by decide)) ?_)
    refine list_cons rfl (op_q (q_assign rfl (by decide)) ?_)
    refine list_nil ?_
    refine hK2 _ ?_; clear hK2 K2
    refine code_ret ?_
    refine ends_ret (cs := []) rfl rfl rfl rfl trivial ?_
    first | (congr 3; exact decide_eq_decide.mpr ⟨fun k => by omega, fun k => by omega⟩) | (rw [decide_eq_false (by omega)])
  simp only [Bool.false_eq_true, if_true, if_false, Decidable.not_not] at h1
  refine list_guard_n rfl rfl rfl rfl (by decide) rfl ?_
  refine list_cons rfl (op_q (q_pick rfl rfl (by decide)) ?_)
  refine list_cons rfl (op_q (q_assign rfl (by decide)) ?_)
  refine list_nil ?_
  refine hK2 _ ?_; clear hK2 K2
  refine code_ret ?_
  refine ends_ret (cs := []) rfl rfl rfl rfl trivial ?_
  first | (congr 3; exact decide_eq_decide.mpr ⟨fun k => by omega, fun k => by omega⟩) | (rw [decide_eq_false (by omega)])

theorem res_agg8 {az : TypeId → Nat} {σ : St} {t u l e : Nat} {cs : List PV} (h : σ.at t = some (.box l e cs)) (haz : (az u == 0) = false) (hf : PV.flatL cs = true) (hl : cs.length = az u) : St.res az σ [.cell t u] = some [.val (.agg cs)] := by
  unfold St.res
  rw [h, show St.res az σ [] = some [] from rfl]
  simp only [haz, Bool.false_eq_true, if_false]
  rw [hf, hl]
  simp
theorem put_all8 {a b : List PV} {n : Nat} (ha : a.length = n) (hb : b.length = n) : putAt a 0 (PV.agg b).cells = b := by
  unfold putAt PV.cells
  simp only [List.take_zero, List.nil_append, Nat.zero_add]
  rw [List.drop_of_length_le (by omega), List.append_nil]
/-- The places that have a bit, from the left. -/
def plN (c : Int) : List Nat := (List.range 6).filter fun x => decide (bt c x)
def pl (c : Int) (q : Nat) : Nat := (plN c).getD q 6
def pcn (c : Int) (m : Nat) : Nat := ((List.range m).filter fun x => decide (bt c x)).length
theorem pcn_succ (c : Int) (m : Nat) : pcn c (m + 1) = pcn c m + if bt c m then 1 else 0 := by
  unfold pcn
  rw [List.range_succ, List.filter_append, List.length_append]
  congr 1
  by_cases h : bt c m
  · rw [if_pos h]; simp [h]
  · rw [if_neg h]; simp [h]
theorem pl_at {c : Int} (hc : 0 ≤ c ∧ c ≤ 63) {m : Nat} (hm : m < 6) (hb : bt c m) : pl c (pcn c m) = m ∧ pcn c m < (plN c).length := by
  have key : ∀ i : Fin 64, ∀ j : Fin 6, bt ((i.val : Nat) : Int) j.val → pl ((i.val : Nat) : Int) (pcn ((i.val : Nat) : Int) j.val) = j.val ∧ pcn ((i.val : Nat) : Int) j.val < (plN ((i.val : Nat) : Int)).length := by decide +kernel
  obtain ⟨n, rfl⟩ : ∃ n : Nat, c = n := ⟨c.toNat, by omega⟩
  exact key ⟨n, by omega⟩ ⟨m, hm⟩ hb
theorem pl_all (c : Int) : pcn c 6 = (plN c).length := rfl
theorem pl_ok {c : Int} (hc : 0 ≤ c ∧ c ≤ 63) {q : Nat} (h : q < (plN c).length) : pl c q < 6 ∧ bt c (pl c q) ∧ pl c q + 1 ≤ pl c (q + 1) ∧ ∀ x, pl c q + 1 ≤ x → x < pl c (q + 1) → ¬ bt c x := by
  have hl : ∀ i : Fin 64, (plN ((i.val : Nat) : Int)).length ≤ 6 := by decide +kernel
  have key : ∀ i : Fin 64, ∀ j : Fin 6, j.val < (plN ((i.val : Nat) : Int)).length → pl ((i.val : Nat) : Int) j.val < 6 ∧ bt ((i.val : Nat) : Int) (pl ((i.val : Nat) : Int) j.val) ∧ pl ((i.val : Nat) : Int) j.val + 1 ≤ pl ((i.val : Nat) : Int) (j.val + 1) ∧ (∀ x : Fin 6, pl ((i.val : Nat) : Int) j.val + 1 ≤ x.val → x.val < pl ((i.val : Nat) : Int) (j.val + 1) → ¬ bt ((i.val : Nat) : Int) x.val) ∧ pl ((i.val : Nat) : Int) (j.val + 1) ≤ 6 := by decide +kernel
  obtain ⟨n, rfl⟩ : ∃ n : Nat, c = n := ⟨c.toNat, by omega⟩
  have h6 := hl ⟨n, by omega⟩
  obtain ⟨a1, a2, a3, a4, a5⟩ := key ⟨n, by omega⟩ ⟨q, by simp only at h6; omega⟩ h
  exact ⟨a1, a2, a3, fun x hx hy => a4 ⟨x, by simp only at a5; omega⟩ hx hy⟩
theorem pl_zero {c : Int} (hc : 0 ≤ c ∧ c ≤ 63) : ∀ x, 0 ≤ x → x < pl c 0 → ¬ bt c x := by
  have key : ∀ i : Fin 64, (∀ x : Fin 6, x.val < pl ((i.val : Nat) : Int) 0 → ¬ bt ((i.val : Nat) : Int) x.val) ∧ pl ((i.val : Nat) : Int) 0 ≤ 6 := by decide +kernel
  obtain ⟨n, rfl⟩ : ∃ n : Nat, c = n := ⟨c.toNat, by omega⟩
  obtain ⟨a1, a2⟩ := key ⟨n, by omega⟩
  exact fun x _ hy => a1 ⟨x, by simp only at a2; omega⟩ hy
theorem pl_end (c : Int) : pl c (plN c).length = 6 := by
  unfold pl; rw [List.getD_eq_getElem?_getD, List.getElem?_eq_none (Nat.le_refl _)]; rfl
theorem bt_lt {c : Int} (h0 : 0 ≤ c) {x n : Nat} (hn : n ≤ 6) (hc : c ≤ ((p2 n : Nat) : Int) - 1) (hx : x < 6) (hb : bt c x) : x < n := by
  have key : ∀ i : Fin 64, ∀ x : Fin 6, ∀ n : Fin 7, i.val + 1 ≤ p2 n.val → bt ((i.val : Nat) : Int) x.val → x.val < n.val := by decide +kernel
  have h6 := p2_le6 (k := (n : Int)) (by omega)
  rw [Int.toNat_natCast] at h6
  obtain ⟨m, rfl⟩ : ∃ m : Nat, c = m := ⟨c.toNat, by omega⟩
  exact key ⟨m, by omega⟩ ⟨x, hx⟩ ⟨n, by omega⟩ (by simp only; omega) hb
/-- Where nothing turns from a on, it is at b as it was at a. -/
theorem skipN {α : Type} {g : Nat → α} {a : Nat} : ∀ {b : Nat}, a ≤ b → (∀ x, a ≤ x → x < b → g (x + 1) = g x) → g b = g a
  | 0, h, _ => by rw [show a = 0 by omega]
  | b + 1, h, hs => by
    by_cases e : a = b + 1
    · rw [e]
    · rw [hs b (by omega) (by omega)]; exact skipN (by omega) (fun x h1 h2 => hs x h1 (by omega))
/-- A row of what is seen, in which the first m places have what is added, too. -/
def wiS (s : List Int) (c b : Int) (m : Nat) : List Int := (List.range 6).map fun x => if x < m ∧ bt c x then (((s.getD x 0).toNat ||| b.toNat : Nat) : Int) else s.getD x 0
theorem wiS_len (s : List Int) (c b : Int) (m : Nat) : (wiS s c b m).length = 6 := by simp [wiS]
theorem wiS_at (s : List Int) (c b : Int) (m : Nat) {x : Nat} (h : x < 6) : (wiS s c b m).getD x 0 = if x < m ∧ bt c x then (((s.getD x 0).toNat ||| b.toNat : Nat) : Int) else s.getD x 0 := rng_at h
theorem wiS_skip (s : List Int) {c b : Int} {m : Nat} (h : ¬ bt c m) : wiS s c b (m + 1) = wiS s c b m := by
  unfold wiS
  apply List.map_congr_left
  intro x hx
  by_cases e : x = m
  · subst e; rw [if_neg (fun z => h z.2), if_neg (fun z => h z.2)]
  · have e2 : (x < m + 1 ∧ bt c x) ↔ (x < m ∧ bt c x) := ⟨fun z => ⟨by omega, z.2⟩, fun z => ⟨by omega, z.2⟩⟩
    by_cases hh : x < m ∧ bt c x
    · rw [if_pos hh, if_pos (e2.2 hh)]
    · rw [if_neg hh, if_neg (fun z => hh (e2.1 z))]
theorem lst_eq6 {a b : List Int} (ha : a.length = 6) (hb : b.length = 6) (h : ∀ x, x < 6 → a.getD x 0 = b.getD x 0) : a = b := by
  apply List.ext_getElem (by rw [ha, hb])
  intro j h1 h2
  have := h j (by omega)
  rwa [List.getD_eq_getElem?_getD, List.getElem?_eq_getElem h1, Option.getD_some, List.getD_eq_getElem?_getD, List.getElem?_eq_getElem h2, Option.getD_some] at this
theorem wiS_0 {s : List Int} (hs : s.length = 6) (c b : Int) : s = wiS s c b 0 := lst_eq6 hs (wiS_len _ _ _ _) fun x hx => by
  rw [wiS_at s c b 0 hx, if_neg (fun z => absurd z.1 (Nat.not_lt_zero x))]
theorem wiS_put {s : List Int} {c b v : Int} {m : Nat} (h : m < 6) (hb : bt c m) (hv : v = ((((wiS s c b m).getD m 0).toNat ||| b.toNat : Nat) : Int)) : putAt ((wiS s c b m).map (PV.int .i64)) (m * 1) [PV.int .i64 v] = (wiS s c b (m + 1)).map (PV.int .i64) := by
  rw [put_map1 (PV.int .i64) _ (by rw [wiS_len]; exact h)]
  congr 1
  have e := wiS_at s c b m h
  rw [if_neg (fun z => absurd z.1 (Nat.lt_irrefl m))] at e
  have := rng_set (f := fun x => if x < m ∧ bt c x then (((s.getD x 0).toNat ||| b.toNat : Nat) : Int) else s.getD x 0) (g := fun x => if x < m + 1 ∧ bt c x then (((s.getD x 0).toNat ||| b.toNat : Nat) : Int) else s.getD x 0) h (fun j hj hne => by
    have e2 : (j < m + 1 ∧ bt c j) ↔ (j < m ∧ bt c j) := ⟨fun z => ⟨by omega, z.2⟩, fun z => ⟨by omega, z.2⟩⟩
    by_cases hh : j < m ∧ bt c j
    · rw [if_pos hh, if_pos (e2.2 hh)]
    · rw [if_neg hh, if_neg (fun z => hh (e2.1 z))])
  simp only [Nat.lt_succ_self, hb, and_self, if_true] at this
  rw [hv, e]
  unfold wiS
  exact this
theorem wiS_le {s : List Int} {b : Int} (hs : ∀ j, 0 ≤ s.getD j 0 ∧ s.getD j 0 ≤ 127) (hb : 0 ≤ b ∧ b ≤ 127) (c : Int) (m : Nat) {x : Nat} (h : x < 6) : 0 ≤ (wiS s c b m).getD x 0 ∧ (wiS s c b m).getD x 0 ≤ 127 := by
  rw [wiS_at s c b m h]
  have := hs x
  split
  · have := or_127 (a := (s.getD x 0).toNat) (b := b.toNat) (by omega) (by omega); omega
  · omega
/-- What is seen of the first so many slots, all places. -/
def stS (fr : List (Int × Int)) (j : Nat) : List Int := gK (orN fr) 6 j 0
theorem stS_len (fr : List (Int × Int)) (j : Nat) : (stS fr j).length = 6 := gK_len _ _ _ _
theorem stS_at (fr : List (Int × Int)) (j : Nat) {x : Nat} (h : x < 6) : (stS fr j).getD x 0 = ((orN fr x j : Nat) : Int) := by
  unfold stS; rw [gK_at h, if_neg (Nat.not_lt_zero _)]
theorem big_get {l : List Int} {x : Nat} (h : l.length ≤ x) : l.getD x 0 = 0 := by
  rw [List.getD_eq_getElem?_getD, List.getElem?_eq_none h]; rfl
theorem stS_le {k : Int} {fr : List (Int × Int)} (h : FrmP k fr) (hk : k ≤ 6) {j : Nat} (hj : j ≤ fr.length) (x : Nat) : 0 ≤ (stS fr j).getD x 0 ∧ (stS fr j).getD x 0 ≤ 127 := by
  by_cases hx : x < 6
  · rw [stS_at fr j hx]; have := orN_le h hk x j hj; omega
  · rw [big_get (by rw [stS_len]; omega)]; omega
theorem stS_next (fr : List (Int × Int)) (j : Nat) : wiS (stS fr j) (fr.getD j (0, 0)).1 (fr.getD j (0, 0)).2 6 = stS fr (j + 1) := by
  refine lst_eq6 (wiS_len _ _ _ _) (stS_len _ _) fun x hx => ?_
  rw [wiS_at _ _ _ _ hx, stS_at _ _ hx, stS_at _ _ hx, orN]
  by_cases hb : bt (fr.getD j (0, 0)).1 x
  · rw [if_pos ⟨hx, hb⟩, if_pos hb, Int.toNat_natCast]
  · rw [if_neg (fun z => hb z.2), if_neg hb]
theorem stS_0 (fr : List (Int × Int)) : List.replicate 6 (0 : Int) = stS fr 0 := gK_zero (fun _ => rfl) 6
theorem sen_stS (fr : List (Int × Int)) {k : Nat} (hk : k ≤ 6) : (stS fr fr.length).take k = sen fr k := by
  unfold stS sen senK gK
  rw [← List.map_take, List.take_range, Nat.min_eq_left hk]
/-- The ghosts of a cell, seen or not. -/
def ghR (fr : List (Int × Int)) (x : Nat) : Nat → Nat
  | 0 => 0
  | i + 1 => if bt (fr.getD ((i + 1) % fr.length) (0, 0)).1 x then ghR fr x i ||| (fr.getD i (0, 0)).2.toNat else ghR fr x i
theorem ghR_le {k : Int} {fr : List (Int × Int)} (h : FrmP k fr) (hk : k ≤ 6) (x : Nat) : ∀ i, i ≤ fr.length → ghR fr x i ≤ 127
  | 0, _ => by simp [ghR]
  | i + 1, hi => by
    have ih := ghR_le h hk x i (by omega)
    have hb := h.bd hk (j := i) (by omega)
    unfold ghR; split
    · exact or_127 ih (by omega)
    · exact ih
theorem aN_or (a b s : Nat) : (a ||| b) ^^^ ((a ||| b) &&& s) = (a ^^^ (a &&& s)) ||| (b ^^^ (b &&& s)) := by
  apply Nat.eq_of_testBit_eq
  intro i
  simp only [Nat.testBit_or, Nat.testBit_xor, Nat.testBit_and]
  cases a.testBit i <;> cases b.testBit i <;> cases s.testBit i <;> rfl
theorem ghO_R (fr : List (Int × Int)) (x : Nat) : ∀ i, ghO fr x i = ghR fr x i ^^^ (ghR fr x i &&& orN fr x fr.length)
  | 0 => by simp [ghO, ghR]
  | i + 1 => by
    unfold ghO ghR
    split
    · rw [ghO_R fr x i, aN_or]
    · exact ghO_R fr x i
def ghS (fr : List (Int × Int)) (j : Nat) : List Int := gK (ghR fr) 6 j 0
theorem ghS_len (fr : List (Int × Int)) (j : Nat) : (ghS fr j).length = 6 := gK_len _ _ _ _
theorem ghS_at (fr : List (Int × Int)) (j : Nat) {x : Nat} (h : x < 6) : (ghS fr j).getD x 0 = ((ghR fr x j : Nat) : Int) := by
  unfold ghS; rw [gK_at h, if_neg (Nat.not_lt_zero _)]
theorem ghS_le {k : Int} {fr : List (Int × Int)} (h : FrmP k fr) (hk : k ≤ 6) {j : Nat} (hj : j ≤ fr.length) (x : Nat) : 0 ≤ (ghS fr j).getD x 0 ∧ (ghS fr j).getD x 0 ≤ 127 := by
  by_cases hx : x < 6
  · rw [ghS_at fr j hx]; have := ghR_le h hk x j hj; omega
  · rw [big_get (by rw [ghS_len]; omega)]; omega
theorem ghS_next (fr : List (Int × Int)) (j : Nat) : wiS (ghS fr j) (fr.getD ((j + 1) % fr.length) (0, 0)).1 (fr.getD j (0, 0)).2 6 = ghS fr (j + 1) := by
  refine lst_eq6 (wiS_len _ _ _ _) (ghS_len _ _) fun x hx => ?_
  rw [wiS_at _ _ _ _ hx, ghS_at _ _ hx, ghS_at _ _ hx, ghR]
  by_cases hb : bt (fr.getD ((j + 1) % fr.length) (0, 0)).1 x
  · rw [if_pos ⟨hx, hb⟩, if_pos hb, Int.toNat_natCast]
  · rw [if_neg (fun z => hb z.2), if_neg hb]
theorem ghS_0 (fr : List (Int × Int)) : List.replicate 6 (0 : Int) = ghS fr 0 := gK_zero (fun _ => rfl) 6
theorem fulN_all {l : List Int} {c : Int} (h0 : 0 ≤ c) (hl : l.length ≤ 6) (hc : c ≤ ((p2 l.length : Nat) : Int) - 1) : fulN l c 6 = fulN l c l.length :=
  skipN hl (fun x h1 h2 => by rw [fulN, if_neg (fun z => absurd (bt_lt h0 hl hc h2 z) (by omega))])
/-- A row of ghosts, the first m places. -/
def goK (fr : List (Int × Int)) (k m : Nat) : List Int := (List.range k).map fun x => if x < m then ((ghO fr x fr.length : Nat) : Int) else 0
theorem goK_len (fr : List (Int × Int)) (k m : Nat) : (goK fr k m).length = k := by simp [goK]
theorem goK_put {fr : List (Int × Int)} {k m o : Nat} {v : Int} (h : m < k) (ho : o = m) (hv : v = ((ghO fr m fr.length : Nat) : Int)) : putAt ((goK fr k m).map (PV.int .i64)) (o * 1) [PV.int .i64 v] = (goK fr k (m + 1)).map (PV.int .i64) := by
  subst ho
  rw [put_map1 (PV.int .i64) _ (by rw [goK_len]; exact h)]
  congr 1
  have := rng_set (f := fun x => if x < o then ((ghO fr x fr.length : Nat) : Int) else 0) (g := fun x => if x < o + 1 then ((ghO fr x fr.length : Nat) : Int) else 0) h (fun j hj hne => by
    by_cases e : j < o
    · rw [if_pos e, if_pos (by omega)]
    · rw [if_neg e, if_neg (by omega)])
  simp only [Nat.lt_succ_self, if_true] at this
  rw [hv]; unfold goK; exact this
theorem goK_0 (fr : List (Int × Int)) (k : Nat) : List.replicate k (0 : Int) = goK fr k 0 := by
  apply List.ext_getElem (by simp [goK])
  intro j h1 h2
  simp [goK]
theorem goK_end (fr : List (Int × Int)) (k : Nat) : goK fr k k = ghL fr k := by
  unfold goK ghL gK
  apply List.map_congr_left
  intro x hx
  rw [if_pos (List.mem_range.1 hx), if_neg (Nat.not_lt_zero _)]
theorem GdP.take6 {k : Int} {fr : List (Int × Int)} (h : GdP k fr) : k.toNat ≤ 6 := by have := h.1; omega

set_option maxRecDepth 4000 in
theorem impl_isDisplay (k : Int) : PCalls Try.prog 36 [.int .i64 k] (· = [.val (.bool (decide (1 ≤ k ∧ k ≤ 6)))]) := by
  refine pcalls_of_code (n := 9) az Try.func36 (by kernel_rfl) rfl rfl (Nat.le_of_ble_eq_true rfl) (by intro t u h; simp [Try.f36] at h) ?_
  refine code_seq (fun K1 hK1 => ?_)
  refine code_region ?_
  refine list_cons rfl (op_q (q_assign rfl (by decide)) ?_)
  refine list_nil ?_
  refine hK1 _ ?_; clear hK1 K1
  refine code_seq (fun K2 hK2 => ?_)
  refine code_region ?_
  refine list_cons rfl (op_q (q_move rfl (by decide)) ?_)
  refine list_cons rfl (op_q (q_ge rfl rfl (by decide)) ?_)
  refine list_cons rfl (op_q (q_move rfl (by decide)) ?_)
  refine list_guard_d rfl rfl rfl rfl (by decide) rfl (by decide) (fun h1 => ?_) (fun h1 => ?_)
  · simp only [Bool.false_eq_true, if_true, if_false, Decidable.not_not] at h1
    refine id (op_q (q_move rfl (by decide)) ?_)
    refine list_guard_y rfl rfl rfl rfl (by decide) rfl ?_
    refine id (op_q (q_le rfl rfl (by decide)) ?_)
    refine list_cons rfl (op_q (q_pick rfl rfl (by decide)) ?_)
    refine list_cons rfl (op_q (q_assign rfl (by decide)) ?_)
    refine list_nil ?_
    refine hK2 _ ?_; clear hK2 K2
    refine code_ret ?_
    refine ends_ret (cs := []) rfl rfl rfl rfl trivial ?_
    first | (congr 3; exact decide_eq_decide.mpr ⟨fun e => by omega, fun e => by omega⟩) | (rw [decide_eq_false (by omega)]; done)
  simp only [Bool.false_eq_true, if_true, if_false, Decidable.not_not] at h1
  refine list_guard_n rfl rfl rfl rfl (by decide) rfl ?_
  refine list_cons rfl (op_q (q_pick rfl rfl (by decide)) ?_)
  refine list_cons rfl (op_q (q_assign rfl (by decide)) ?_)
  refine list_nil ?_
  refine hK2 _ ?_; clear hK2 K2
  refine code_ret ?_
  refine ends_ret (cs := []) rfl rfl rfl rfl trivial ?_
  first | (congr 3; exact decide_eq_decide.mpr ⟨fun e => by omega, fun e => by omega⟩) | (rw [decide_eq_false (by omega)]; done)

set_option maxRecDepth 4000 in
theorem impl_isSlot (k cc b : Int) (hk : 1 ≤ k ∧ k ≤ 6) : PCalls Try.prog 39 [.int .i64 k, .agg [.int .i64 cc, .int .i64 b]] (· = [.val (.bool (decide (SlP k cc b)))]) := by
  refine pcalls_of_code (n := 20) az Try.func39 (by kernel_rfl) rfl rfl (Nat.le_of_ble_eq_true rfl) (by intro t u h; simp [Try.f39] at h) ?_
  have hp := p2_le6 hk.2
  refine code_seq (fun K1 hK1 => ?_)
  refine code_region ?_
  refine list_cons rfl (op_box rfl (.inl ⟨rfl, rfl⟩) (by decide) (by decide) rfl ?_)
  refine list_cons rfl (op_q (q_assign rfl (by decide)) ?_)
  refine list_nil ?_
  refine hK1 _ ?_; clear hK1 K1
  refine code_seq (fun K2 hK2 => ?_)
  refine code_draw (by kernel_rfl) (by kernel_rfl) ?_
  refine draw_q rfl (q_fieldAddr fi_38_0 rfl rfl (by decide)) ?_
  refine draw_q rfl (q_load one_3 3 rfl rfl rfl (by first | rfl | exact get_map1 _ 0 _ (by first | omega | (simp; omega))) (by decide)) ?_
  refine draw_q rfl (q_ge rfl rfl (by decide)) ?_
  refine draw_q rfl (q_move rfl (by decide)) ?_
  refine draw_guard_d rfl rfl rfl rfl (by decide) rfl (by decide) (fun h1 => q_fieldAddr fi_38_0 rfl rfl (by decide)) (fun h1 => ?_) (fun h1 => ?_)
  · simp only [Bool.false_eq_true, if_true, if_false, Decidable.not_not] at h1
    refine draw_guard_y rfl rfl rfl rfl (by decide) rfl (q_load one_3 3 rfl rfl rfl (by first | rfl | exact get_map1 _ 0 _ (by first | omega | (simp; omega))) (by decide)) ?_
    refine draw_guard_y rfl rfl rfl rfl (by decide) rfl (q_move rfl (by decide)) ?_
    refine draw_guard_y rfl rfl rfl rfl (by decide) rfl (by first | exact q_shl1 rfl rfl (by decide) (by omega) (by omega) | exact q_shlI rfl rfl (by decide) (by omega) (by omega) (by omega) | exact q_shl rfl rfl (by omega) (by decide)) ?_
    refine draw_guard_y rfl rfl rfl rfl (by decide) rfl (q_lt rfl rfl (by decide)) ?_
    refine draw_q rfl (q_pick rfl rfl (by decide)) ?_
    refine draw_q rfl (q_move rfl (by decide)) ?_
    refine draw_guard_d rfl rfl rfl rfl (by decide) rfl (by decide) (fun h2 => q_fieldAddr fi_38_1 rfl rfl (by decide)) (fun h2 => ?_) (fun h2 => ?_)
    · simp only [Bool.false_eq_true, if_true, if_false, Decidable.not_not] at h2
      refine draw_guard_y rfl rfl rfl rfl (by decide) rfl (q_load one_3 3 rfl rfl rfl (by first | rfl | exact get_map1 _ 0 _ (by first | omega | (simp; omega))) (by decide)) ?_
      refine draw_callW _ (impl_IsCell _) rfl rfl rfl (by decide) (wanted_of rfl rfl rfl (by decide)) ?_
      refine draw_q rfl (q_pick rfl rfl (by decide)) ?_
      refine draw_q rfl (q_assign rfl (by decide)) ?_
      refine draw_nil ?_
      refine hK2 _ ?_; clear hK2 K2
      refine codeT.imp (σ' := [(0, _), (1, _), (3, _), (4, _)]) ?_ (imp_covers ⟨rfl, rfl, rfl, rfl, trivial⟩)
      refine code_ret ?_
      refine ends_ret (cs := []) rfl rfl rfl rfl trivial ?_
      first
        | (congr 3; exact decide_eq_decide.mpr ⟨fun e => by unfold SlP; omega, fun e => by unfold SlP at e; omega⟩)
        | (rw [decide_eq_false (fun e => by unfold SlP at e; omega)]; done)
    simp only [Bool.false_eq_true, if_true, if_false, Decidable.not_not] at h2
    refine draw_guard_n rfl rfl rfl rfl (by decide) rfl ?_
    refine draw_guard_n rfl rfl rfl rfl (by decide) rfl ?_
    refine draw_q rfl (q_pick rfl rfl (by decide)) ?_
    refine draw_q rfl (q_assign rfl (by decide)) ?_
    refine draw_nil ?_
    refine hK2 _ ?_; clear hK2 K2
    refine codeT.imp (σ' := [(0, _), (1, _), (3, _), (4, _)]) ?_ (imp_covers ⟨rfl, rfl, rfl, rfl, trivial⟩)
    refine code_ret ?_
    refine ends_ret (cs := []) rfl rfl rfl rfl trivial ?_
    first
      | (congr 3; exact decide_eq_decide.mpr ⟨fun e => by unfold SlP; omega, fun e => by unfold SlP at e; omega⟩)
      | (rw [decide_eq_false (fun e => by unfold SlP at e; omega)]; done)
  simp only [Bool.false_eq_true, if_true, if_false, Decidable.not_not] at h1
  refine draw_guard_n rfl rfl rfl rfl (by decide) rfl ?_
  refine draw_guard_n rfl rfl rfl rfl (by decide) rfl ?_
  refine draw_guard_n rfl rfl rfl rfl (by decide) rfl ?_
  refine draw_guard_n rfl rfl rfl rfl (by decide) rfl ?_
  refine draw_q rfl (q_pick rfl rfl (by decide)) ?_
  refine draw_q rfl (q_move rfl (by decide)) ?_
  refine draw_guard_n rfl rfl rfl rfl (by decide) rfl ?_
  refine draw_guard_n rfl rfl rfl rfl (by decide) rfl ?_
  refine draw_guard_n rfl rfl rfl rfl (by decide) rfl ?_
  refine draw_q rfl (q_pick rfl rfl (by decide)) ?_
  refine draw_q rfl (q_assign rfl (by decide)) ?_
  refine draw_nil ?_
  refine hK2 _ ?_; clear hK2 K2
  refine codeT.imp (σ' := [(0, _), (1, _), (3, _), (4, _)]) ?_ (imp_covers ⟨rfl, rfl, rfl, rfl, trivial⟩)
  refine code_ret ?_
  refine ends_ret (cs := []) rfl rfl rfl rfl trivial ?_
  first
    | (congr 3; exact decide_eq_decide.mpr ⟨fun e => by unfold SlP; omega, fun e => by unfold SlP at e; omega⟩)
    | (rw [decide_eq_false (fun e => by unfold SlP at e; omega)]; done)

set_option maxRecDepth 4000 in
theorem isFrame1_c (k cc b : Int) (hk : 1 ≤ k ∧ k ≤ 6) : PCalls Try.prog 38 [.agg [.int .i64 cc, .int .i64 b], .ptr [.int .i64 k]] (· = [.val (.bool (decide (¬ SlP k cc b)))]) := by
  refine pcalls_of_code (n := 8) az Try.func38 (by kernel_rfl) rfl rfl (Nat.le_of_ble_eq_true rfl) (by intro t u h; simp [Try.f38] at h) ?_
  refine codeT.imp ?_ (imp_rpar (s := 1) (i := 1) rfl)
  refine code_seq (fun K1 hK1 => ?_)
  refine code_region ?_
  refine list_cons rfl (op_box rfl (.inl ⟨rfl, rfl⟩) (by decide) (by decide) rfl ?_)
  refine list_cons rfl (op_q (q_assign rfl (by decide)) ?_)
  refine list_nil ?_
  refine hK1 _ ?_; clear hK1 K1
  refine code_seq (fun K2 hK2 => ?_)
  refine code_region ?_
  refine list_cons rfl (op_q (q_load_rd one_3 rfl (.inl ⟨_, (by first | rfl | exact congrArg (SV.rpar _) (drop_map1 _ 0 _ (by first | omega | (simp; omega)))), rfl⟩) (by decide)) ?_)
  refine list_cons rfl (op_q (q_load_agg agg_38 2 (.inr ⟨rfl, _, rfl⟩) rfl rfl (by first | decide | omega | exact Nat.le_refl _ | (simp; done) | (simp; omega)) (by first | rfl | exact flat_part (flat_map _ (fun _ => rfl) _) _ _) (by decide)) ?_)
  refine list_cons rfl (op_call _ (impl_isSlot _ _ _ (by assumption)) rfl rfl (by decide) (by decide) (by decide) rfl ?_)
  rintro _ rfl
  refine list_cons rfl (op_q (by first | exact q_notd rfl (by decide) | exact q_not rfl (by decide)) ?_)
  refine list_cons rfl (op_q (q_assign rfl (by decide)) ?_)
  refine list_nil ?_
  refine hK2 _ ?_; clear hK2 K2
  refine codeT.imp (σ' := [(0, _), (1, _), (2, _), (3, _)]) ?_ (imp_covers ⟨rfl, rfl, rfl, rfl, trivial⟩)
  refine code_ret ?_
  refine ends_ret (cs := []) rfl rfl rfl rfl trivial ?_
  rfl

set_option maxRecDepth 4000 in
theorem indexS_c (fr : List (Int × Int)) (f : FuncId) (z caps : List PV) (p : Int → Int → Prop) [∀ a b, Decidable (p a b)] (hf : fr.length ≤ 1048576) (hc : ∀ j, j < fr.length → PCalls Try.prog f (.agg [.int .i64 (fr.getD j (0, 0)).1, .int .i64 (fr.getD j (0, 0)).2] :: .ptr z :: caps) (· = [.val (.bool (decide (p (fr.getD j (0, 0)).1 (fr.getD j (0, 0)).2)))])) : PCalls Try.prog 48 [.sl fr.length (fl fr), .clo f (.ptr z :: caps)] (fun rs => ∃ i : Int, rs = [.val (.int .i64 i)] ∧ (0 ≤ i ↔ ∃ j, j < fr.length ∧ p (fr.getD j (0, 0)).1 (fr.getD j (0, 0)).2)) := by
  refine pcalls_of_code (n := 19) az Try.func48 (by kernel_rfl) rfl rfl (Nat.le_of_ble_eq_true rfl) (by intro t u h; simp [Try.f48] at h) ?_
  have hfl := fl_len fr
  refine code_seq (fun K1 hK1 => ?_)
  refine code_region ?_
  refine list_cons rfl (op_q (q_assign rfl (by decide)) ?_)
  refine list_nil ?_
  refine hK1 _ ?_; clear hK1 K1
  refine code_seq (fun K2 hK2 => ?_)
  refine code_seq (fun K3 hK3 => ?_)
  refine code_region ?_
  refine list_cons rfl (op_q (q_move rfl (by decide)) ?_)
  refine list_cons rfl (op_q (q_len_sl Try.underlying26 rfl rfl (by decide)) ?_)
  refine list_cons rfl (op_q (q_move rfl (by decide)) ?_)
  refine list_nil ?_
  refine hK3 _ ?_; clear hK3 K3
  refine code_block ?_
  refine code_loop (X := Int × Int) (fun x => [(0, .par 0 (.sl fr.length (fl fr))), (1, .par 1 (.clo f (.ptr z :: caps))), (4, .val (.int .i64 x.1)), (7, .val (.int .i64 fr.length)), (8, .val (.int .i64 x.2))]) (fun x => 0 ≤ x.2 ∧ x.2 ≤ fr.length ∧ ∀ j, j < x.2.toNat → ¬ p (fr.getD j (0, 0)).1 (fr.getD j (0, 0)).2) (fun x => (fr.length - x.2).toNat) (_, _) (imp_covers ⟨rfl, rfl, rfl, rfl, rfl, trivial⟩) ?_ ?_
  · (try dsimp only)
    exact ⟨by omega, by omega, fun j hj => by simp at hj⟩
  · intro x hI
    obtain ⟨t4, t8⟩ := x
    replace hI : 0 ≤ t8 ∧ t8 ≤ fr.length ∧ ∀ j, j < t8.toNat → ¬ p (fr.getD j (0, 0)).1 (fr.getD j (0, 0)).2 := hI
    show codeT _ _ _ [(0, .par 0 (.sl fr.length (fl fr))), (1, .par 1 (.clo f (.ptr z :: caps))), (4, .val (.int .i64 t4)), (7, .val (.int .i64 fr.length)), (8, .val (.int .i64 t8))] _
    obtain ⟨i1, i2, i3⟩ := hI
    refine code_seq (fun K4 hK4 => ?_)
    refine code_region ?_
    refine list_cons rfl (op_q (q_lt rfl rfl (by decide)) ?_)
    refine list_nil ?_
    refine hK4 _ ?_; clear hK4 K4
    refine code_seq (fun K5 hK5 => ?_)
    refine code_cond_d rfl (fun h1 => ?_) (fun h1 => ?_)
    · skip
      (try simp only [Decidable.not_not] at h1)
      refine code_skip ?_
      refine hK5 _ ?_; clear hK5 K5
      refine code_seq (fun K6 hK6 => ?_)
      refine code_block ?_
      refine code_seq (fun K7 hK7 => ?_)
      refine code_region ?_
      refine list_cons rfl (op_q (q_move rfl (by decide)) ?_)
      refine list_cons rfl (op_q (q_assign rfl (by decide)) ?_)
      refine list_nil ?_
      refine hK7 _ ?_; clear hK7 K7
      refine code_seq (fun K8 hK8 => ?_)
      refine code_region ?_
      refine list_cons rfl (op_q (q_move rfl (by decide)) ?_)
      refine list_cons rfl (op_q (q_move rfl (by decide)) ?_)
      refine list_cons rfl (op_q (q_move rfl (by decide)) ?_)
      refine list_cons rfl (op_q (q_indexAddr_rd sl_26 rfl (.inl ⟨_, rfl, rfl⟩) rfl (by omega) (by omega) (by decide)) ?_)
      refine list_cons rfl (op_q (q_load_rd_aggE agg_38 rfl (.inl ⟨_, rfl⟩) (by first | decide | omega | exact Nat.le_refl _ | (simp; done) | (simp; omega)) (fl_at fr t8.toNat (by omega)) rfl (by decide)) ?_)
      refine list_cons rfl (op_callV _ rfl rfl rfl rfl (pcV (hc t8.toNat (by omega))) (by decide) ?_)
      rintro _ rfl
      refine list_nil ?_
      refine hK8 _ ?_; clear hK8 K8
      refine codeT.imp (σ' := [(0, _), (1, _), (4, _), (5, _), (7, _), (8, _), (16, _)]) ?_ (imp_covers ⟨rfl, rfl, rfl, rfl, rfl, rfl, rfl, trivial⟩)
      refine code_cond_d rfl (fun h2 => ?_) (fun h2 => ?_)
      · skip
        (try simp only [Decidable.not_not] at h2)
        refine code_seq (fun K9 hK9 => ?_)
        refine code_region ?_
        refine list_cons rfl (op_q (q_move rfl (by decide)) ?_)
        refine list_cons rfl (op_q (q_assign rfl (by decide)) ?_)
        refine list_nil ?_
        refine hK9 _ ?_; clear hK9 K9
        refine code_ret ?_
        refine blk_r ?_
        refine then_r ?_; clear hK6 K6
        refine then_r ?_
        refine blk_r ?_
        refine then_r ?_; clear hK2 K2
        refine ends_ret (cs := []) rfl rfl rfl rfl trivial ?_
        first
          | exact ⟨_, rfl, fun _ => ⟨t8.toNat, by omega, h2⟩, fun _ => by omega⟩
          | exact ⟨_, rfl, fun h => by omega, fun ⟨j, hj, hp⟩ => absurd hp (i3 j (by omega))⟩
      (try simp only [Decidable.not_not] at h2)
      refine code_skip ?_
      refine blk_n ?_
      refine hK6 _ ?_; clear hK6 K6
      refine code_region ?_
      refine list_cons rfl (op_q (by first | exact q_addI rfl rfl (by decide) (by omega) (by omega) | exact q_ib rfl rfl rfl (by decide)) ?_)
      refine list_cons rfl (op_q (q_move rfl (by decide)) ?_)
      refine list_nil ?_
      refine then_n ⟨(_, _), imp_covers ⟨rfl, rfl, rfl, rfl, rfl, trivial⟩, ?_, ?_⟩
      · (try dsimp only)
        refine ⟨by omega, by omega, fun j hj => ?_⟩
        by_cases e : j = t8.toNat
        · subst e; exact h2
        · exact i3 j (by omega)
      · (try dsimp only); omega
    (try simp only [Decidable.not_not] at h1)
    refine code_exit ?_
    refine then_x ?_; clear hK5 K5
    refine then_x ?_
    refine blk_hit ?_
    refine hK2 _ ?_; clear hK2 K2
    refine code_seq (fun K10 hK10 => ?_)
    refine code_region ?_
    refine list_cons rfl (op_q (q_assign rfl (by decide)) ?_)
    refine list_nil ?_
    refine hK10 _ ?_; clear hK10 K10
    refine code_ret ?_
    refine ends_ret (cs := []) rfl rfl rfl rfl trivial ?_
    first
      | exact ⟨_, rfl, fun _ => ⟨t8.toNat, by omega, h1⟩, fun _ => by omega⟩
      | exact ⟨_, rfl, fun h => by omega, fun ⟨j, hj, hp⟩ => absurd hp (i3 j (by omega))⟩

set_option maxRecDepth 4000 in
theorem containsS_c (fr : List (Int × Int)) (f : FuncId) (z caps : List PV) (p : Int → Int → Prop) [∀ a b, Decidable (p a b)] (hf : fr.length ≤ 1048576) (hc : ∀ j, j < fr.length → PCalls Try.prog f (.agg [.int .i64 (fr.getD j (0, 0)).1, .int .i64 (fr.getD j (0, 0)).2] :: .ptr z :: caps) (· = [.val (.bool (decide (p (fr.getD j (0, 0)).1 (fr.getD j (0, 0)).2)))])) : PCalls Try.prog 37 [.sl fr.length (fl fr), .clo f (.ptr z :: caps)] (fun rs => rs = [.val (.bool (decide (∃ j, j < fr.length ∧ p (fr.getD j (0, 0)).1 (fr.getD j (0, 0)).2)))]) := by
  refine pcalls_of_code (n := 9) az Try.func37 (by kernel_rfl) rfl rfl (Nat.le_of_ble_eq_true rfl) (by intro t u h; simp [Try.f37] at h) ?_
  refine code_seq (fun K1 hK1 => ?_)
  refine code_region ?_
  refine list_cons rfl (op_q (q_assign rfl (by decide)) ?_)
  refine list_nil ?_
  refine hK1 _ ?_; clear hK1 K1
  refine code_seq (fun K2 hK2 => ?_)
  refine code_region ?_
  refine list_cons rfl (op_q (q_move rfl (by decide)) ?_)
  refine list_cons rfl (op_q (q_move rfl (by decide)) ?_)
  refine list_cons rfl (op_call _ (indexS_c fr f z caps p hf hc) rfl rfl (by decide) (by decide) (by decide) rfl ?_)
  rintro _ ⟨ix, rfl, hix⟩
  refine list_cons rfl (op_q (q_ge rfl rfl (by decide)) ?_)
  refine list_cons rfl (op_q (q_assign rfl (by decide)) ?_)
  refine list_nil ?_
  refine hK2 _ ?_; clear hK2 K2
  refine codeT.imp (σ' := [(0, _), (1, _), (4, _)]) ?_ (imp_covers ⟨rfl, rfl, rfl, trivial⟩)
  refine code_ret ?_
  refine ends_ret (cs := []) rfl rfl rfl rfl trivial ?_
  congr 3
  exact decide_eq_decide.mpr hix

set_option maxRecDepth 8000 in
set_option maxHeartbeats 2000000 in
theorem impl_IsFrame (k : Int) (fr : List (Int × Int)) (hf : fr.length ≤ 1048576) : PCalls Try.prog 20 [.int .i64 k, .sl fr.length (fl fr)] (· = [.val (.bool (decide (GdP k fr))), .val (.bool (decide (1 ≤ k ∧ k ≤ 6)))]) := by
  refine pcalls_of_code (n := 20) az Try.func20 (by kernel_rfl) rfl rfl (Nat.le_of_ble_eq_true rfl) (by intro t u h; simp [Try.f20] at h) ?_
  refine code_seq (fun K1 hK1 => ?_)
  refine code_region ?_
  refine list_cons rfl (op_box rfl (.inl ⟨rfl, rfl⟩) (by decide) (by decide) rfl ?_)
  refine list_cons rfl (op_q (q_assign rfl (by decide)) ?_)
  refine list_cons rfl (op_q (q_assign rfl (by decide)) ?_)
  refine list_nil ?_
  refine hK1 _ ?_; clear hK1 K1
  refine code_seq (fun K2 hK2 => ?_)
  refine code_seq (fun K3 hK3 => ?_)
  refine code_region ?_
  refine list_cons rfl (op_q (q_load_box1 one_3 rfl rfl (by decide)) ?_)
  refine list_cons rfl (op_call _ (impl_isDisplay _) rfl rfl (by decide) (by decide) (by decide) rfl ?_)
  rintro _ rfl
  refine list_cons rfl (op_q (by first | exact q_notd rfl (by decide) | exact q_not rfl (by decide)) ?_)
  refine list_nil ?_
  refine hK3 _ ?_; clear hK3 K3
  refine codeT.imp (σ' := [(0, _), (1, _), (2, _), (4, _), (5, _), (9, _)]) ?_ (imp_covers ⟨rfl, rfl, rfl, rfl, rfl, rfl, trivial⟩)
  refine code_cond_d rfl (fun h1 => ?_) (fun h1 => ?_)
  · skip
    (try simp only [Decidable.not_not] at h1); (try have hk := (h1 : 1 ≤ k ∧ k ≤ 6))
    refine code_seq (fun K4 hK4 => ?_)
    refine code_region ?_
    refine list_cons rfl (op_q (q_assign rfl (by decide)) ?_)
    refine list_cons rfl (op_q (q_assign rfl (by decide)) ?_)
    refine list_nil ?_
    refine hK4 _ ?_; clear hK4 K4
    refine code_ret ?_
    refine then_r ?_; clear hK2 K2
    refine ends_ret (cs := []) rfl rfl rfl rfl trivial ?_
    first
      | (have e : ¬ (1 ≤ k ∧ k ≤ 6) := (by assumption)
         rw [decide_eq_false (fun z : GdP k fr => e z.1), decide_eq_false e]; done)
      | (rw [decide_eq_true hk]
         first
         | (congr 3; exact decide_eq_decide.mpr ⟨fun e => ⟨hk, by omega, fun j hj => Decidable.not_not.1 (fun z => (by assumption : ¬ ∃ j, j < fr.length ∧ ¬ SlP k (fr.getD j (0, 0)).1 (fr.getD j (0, 0)).2) ⟨j, hj, z⟩)⟩, fun e => by have := e.2.1; omega⟩)
         | (rw [decide_eq_false (fun z : GdP k fr => by obtain ⟨j, hj, hp⟩ := (by assumption : ∃ j, j < fr.length ∧ ¬ SlP k (fr.getD j (0, 0)).1 (fr.getD j (0, 0)).2); exact hp (z.2.2 j hj))]; done))
  (try simp only [Decidable.not_not] at h1); (try have hk := (h1 : 1 ≤ k ∧ k ≤ 6))
  refine code_skip ?_
  refine hK2 _ ?_; clear hK2 K2
  refine code_seq (fun K5 hK5 => ?_)
  refine code_region ?_
  refine list_cons rfl (op_q (q_move rfl (by decide)) ?_)
  refine list_cons rfl (op_makeFunc (xs := [.tmp 2]) rfl rfl rfl (by decide) (by decide) rfl ?_)
  refine list_cons rfl (op_call _ (containsS_c fr 38 [.int .i64 k] [] (fun a b => ¬ SlP k a b) hf (fun j _ => isFrame1_c k _ _ hk)) rfl rfl (by decide) (by decide) (by decide) rfl ?_)
  rintro _ rfl
  refine list_cons rfl (op_q (q_assign rfl (by decide)) ?_)
  refine list_nil ?_
  refine hK5 _ ?_; clear hK5 K5
  refine codeT.imp (σ' := [(0, _), (1, _), (2, _), (4, _), (5, _), (6, _)]) ?_ (imp_covers ⟨rfl, rfl, rfl, rfl, rfl, rfl, trivial⟩)
  refine code_seq (fun K6 hK6 => ?_)
  refine code_region ?_
  refine list_cons rfl (op_q (q_move rfl (by decide)) ?_)
  refine list_cons rfl (op_q (by first | exact q_notd rfl (by decide) | exact q_not rfl (by decide)) ?_)
  refine list_cons rfl (op_q (q_move rfl (by decide)) ?_)
  refine list_guard_d rfl rfl rfl rfl (by decide) rfl (by decide) (fun h2 => ?_) (fun h2 => ?_)
  · simp only [Bool.false_eq_true, if_true, if_false, Decidable.not_not] at h2
    (try simp only [Decidable.not_not] at h2); (try have hk := (h2 : 1 ≤ k ∧ k ≤ 6))
    refine id (op_q (q_move rfl (by decide)) ?_)
    refine list_guard_y rfl rfl rfl rfl (by decide) rfl ?_
    refine id (op_q (q_len_sl Try.underlying26 rfl rfl (by decide)) ?_)
    refine list_guard_y rfl rfl rfl rfl (by decide) rfl ?_
    refine id (op_q (q_le rfl rfl (by decide)) ?_)
    refine list_cons rfl (op_q (q_pick rfl rfl (by decide)) ?_)
    refine list_cons rfl (op_q (q_assign rfl (by decide)) ?_)
    refine list_cons rfl (op_q (q_assign rfl (by decide)) ?_)
    refine list_nil ?_
    refine hK6 _ ?_; clear hK6 K6
    refine codeT.imp (σ' := [(0, _), (1, _), (2, _), (4, _), (5, _), (6, _)]) ?_ (imp_covers ⟨rfl, rfl, rfl, rfl, rfl, rfl, trivial⟩)
    refine code_ret ?_
    refine ends_ret (cs := []) rfl rfl rfl rfl trivial ?_
    first
      | (have e : ¬ (1 ≤ k ∧ k ≤ 6) := (by assumption)
         rw [decide_eq_false (fun z : GdP k fr => e z.1), decide_eq_false e]; done)
      | (rw [decide_eq_true hk]
         first
         | (congr 3; exact decide_eq_decide.mpr ⟨fun e => ⟨hk, by omega, fun j hj => Decidable.not_not.1 (fun z => (by assumption : ¬ ∃ j, j < fr.length ∧ ¬ SlP k (fr.getD j (0, 0)).1 (fr.getD j (0, 0)).2) ⟨j, hj, z⟩)⟩, fun e => by have := e.2.1; omega⟩)
         | (rw [decide_eq_false (fun z : GdP k fr => by obtain ⟨j, hj, hp⟩ := (by assumption : ∃ j, j < fr.length ∧ ¬ SlP k (fr.getD j (0, 0)).1 (fr.getD j (0, 0)).2); exact hp (z.2.2 j hj))]; done))
  simp only [Bool.false_eq_true, if_true, if_false, Decidable.not_not] at h2
  (try simp only [Decidable.not_not] at h2); (try have hk := (h2 : 1 ≤ k ∧ k ≤ 6))
  refine list_guard_n rfl rfl rfl rfl (by decide) rfl ?_
  refine list_guard_n rfl rfl rfl rfl (by decide) rfl ?_
  refine list_cons rfl (op_q (q_pick rfl rfl (by decide)) ?_)
  refine list_cons rfl (op_q (q_assign rfl (by decide)) ?_)
  refine list_cons rfl (op_q (q_assign rfl (by decide)) ?_)
  refine list_nil ?_
  refine hK6 _ ?_; clear hK6 K6
  refine code_ret ?_
  refine ends_ret (cs := []) rfl rfl rfl rfl trivial ?_
  first
    | (have e : ¬ (1 ≤ k ∧ k ≤ 6) := (by assumption)
       rw [decide_eq_false (fun z : GdP k fr => e z.1), decide_eq_false e]; done)
    | (rw [decide_eq_true hk]
       first
       | (congr 3; exact decide_eq_decide.mpr ⟨fun e => ⟨hk, by omega, fun j hj => Decidable.not_not.1 (fun z => (by assumption : ¬ ∃ j, j < fr.length ∧ ¬ SlP k (fr.getD j (0, 0)).1 (fr.getD j (0, 0)).2) ⟨j, hj, z⟩)⟩, fun e => by have := e.2.1; omega⟩)
       | (rw [decide_eq_false (fun z : GdP k fr => by obtain ⟨j, hj, hp⟩ := (by assumption : ∃ j, j < fr.length ∧ ¬ SlP k (fr.getD j (0, 0)).1 (fr.getD j (0, 0)).2); exact hp (z.2.2 j hj))]; done))

theorem hasK_i8 : ∀ (n : Nat) (l : List Int), n ≤ l.length → HasK (List.replicate n [BK.int .i64]).flatten (l.map (PV.int .i64))
  | 0, _, _ => trivial
  | n + 1, [], h => absurd h (by simp)
  | n + 1, x :: l, h => by
    rw [List.replicate_succ, List.flatten_cons]
    exact ⟨PV.int .i64 x, l.map (PV.int .i64), rfl, ⟨x, rfl⟩, hasK_i8 n l (by simpa using h)⟩
theorem eqP_i8 : ∀ (a b : List Int), a.length = b.length → (EqP (a.map (PV.int .i64)) (b.map (PV.int .i64)) ↔ a = b)
  | [], [], _ => by simp [EqP]
  | [], _ :: _, h => by simp at h
  | _ :: _, [], h => by simp at h
  | x :: a, y :: b, h => by
    have ih := eqP_i8 a b (by simpa using h)
    simp only [List.map_cons, EqP, Eq1, ih, List.cons.injEq]
theorem ld8 {l : List Int} (h : l.length = 6) : List.take 6 (List.drop 0 (l.map (PV.int .i64))) = l.map (PV.int .i64) := List.take_of_length_le (by rw [List.drop_zero, List.length_map, h]; exact Nat.le_refl _)
theorem bt_off {k : Int} {fr : List (Int × Int)} (h : GdP k fr) {j : Nat} (hj : j < fr.length) {x : Nat} (hk : k.toNat ≤ x) (hx : x < 6) : ¬ bt (fr.getD j (0, 0)).1 x := fun hb => by
  have h1 := h.2.2 j hj
  have h2 := bt_lt (n := k.toNat) h1.1.1 h.take6 h1.1.2 hx hb
  omega
theorem orN_off {k : Int} {fr : List (Int × Int)} (h : GdP k fr) {x : Nat} (hk : k.toNat ≤ x) (hx : x < 6) : ∀ i, i ≤ fr.length → orN fr x i = 0
  | 0, _ => rfl
  | i + 1, hi => by
    rw [orN, if_neg (bt_off h (by omega) hk hx)]; exact orN_off h hk hx i (by omega)
theorem sen_len8 (fr : List (Int × Int)) (k : Nat) : (sen fr k).length = k := senK_len _ _ _ _
theorem sen_at8 (fr : List (Int × Int)) {k x : Nat} (h : x < k) : (sen fr k).getD x 0 = ((orN fr x fr.length : Nat) : Int) := by
  unfold sen; rw [senK_at h, if_neg (Nat.not_lt_zero _)]
theorem stS_eq {k : Int} {f g : List (Int × Int)} (hf : GdP k f) (hg : GdP k g) : stS f f.length = stS g g.length ↔ sen f k.toNat = sen g k.toNat := by
  constructor
  · intro h
    rw [← sen_stS f hf.take6, ← sen_stS g hg.take6, h]
  · intro h
    refine lst_eq6 (stS_len _ _) (stS_len _ _) fun x hx => ?_
    by_cases hk : x < k.toNat
    · have e1 := sen_stS f hf.take6
      have e2 := sen_stS g hg.take6
      have e3 : ∀ l : List Int, (l.take k.toNat).getD x 0 = l.getD x 0 := fun l => by
        rw [List.getD_eq_getElem?_getD, List.getElem?_take, if_pos hk, ← List.getD_eq_getElem?_getD]
      rw [← e3 (stS f _), ← e3 (stS g _), e1, e2, h]
    · rw [stS_at _ _ hx, stS_at _ _ hx, orN_off hf (by omega) hx _ (Nat.le_refl _), orN_off hg (by omega) hx _ (Nat.le_refl _)]
theorem fl_nil8 : fl [] = [] := rfl
theorem fl_put8 (a b : List (Int × Int)) (n : Nat) (h : a.length + b.length = n) (z : List PV) (hz : z.length = n * 2) : putAt (putAt z 0 (fl a)) (a.length * 2) (fl b) = fl (a ++ b) := by
  have ha := fl_len a
  have hb := fl_len b
  rw [fl_app8]
  unfold putAt
  rw [List.take_zero, List.nil_append, Nat.zero_add]
  rw [List.take_append_of_le_length (by omega), List.take_of_length_le (by omega), List.drop_of_length_le (by rw [List.length_append, List.length_drop]; omega), List.append_nil]
/-- What some slots show: place x, bar t. -/
def sbS (L : List (Int × Int)) (x t : Nat) : Prop := ∃ s ∈ L, bt s.1 x ∧ s.2.toNat.testBit t = true
theorem sbS_app (L M : List (Int × Int)) (x t : Nat) : sbS (L ++ M) x t ↔ sbS L x t ∨ sbS M x t := by
  unfold sbS
  constructor
  · rintro ⟨s, hs, h⟩
    rcases List.mem_append.1 hs with hs | hs
    · exact .inl ⟨s, hs, h⟩
    · exact .inr ⟨s, hs, h⟩
  · rintro (⟨s, hs, h⟩ | ⟨s, hs, h⟩)
    · exact ⟨s, List.mem_append.2 (.inl hs), h⟩
    · exact ⟨s, List.mem_append.2 (.inr hs), h⟩
theorem orN_bit (L : List (Int × Int)) (x t : Nat) : ∀ i, i ≤ L.length → ((orN L x i).testBit t = true ↔ sbS (L.take i) x t)
  | 0, _ => by simp [orN, sbS]
  | i + 1, hi => by
    have ih := orN_bit L x t i (by omega)
    have ht : L.take (i + 1) = L.take i ++ [L.getD i (0, 0)] := by
      rw [List.take_add_one, List.getElem?_eq_getElem (by omega), List.getD_eq_getElem?_getD, List.getElem?_eq_getElem (by omega)]; rfl
    rw [ht, sbS_app, orN]
    have hs : sbS [L.getD i (0, 0)] x t ↔ bt (L.getD i (0, 0)).1 x ∧ (L.getD i (0, 0)).2.toNat.testBit t = true := by
      unfold sbS; simp
    rw [hs]
    split
    · rename_i hb
      rw [Nat.testBit_or, Bool.or_eq_true, ih]
      exact ⟨fun h => h.imp id fun z => ⟨hb, z⟩, fun h => h.imp id fun z => z.2⟩
    · rename_i hb
      rw [ih]
      exact ⟨.inl, fun h => h.resolve_right fun z => hb z.1⟩
theorem sen_iff (L M : List (Int × Int)) (k : Nat) : sen L k = sen M k ↔ ∀ x, x < k → ∀ t, (sbS L x t ↔ sbS M x t) := by
  have hat : ∀ (L : List (Int × Int)) x, x < k → (sen L k).getD x 0 = ((orN L x L.length : Nat) : Int) := fun L x hx => by
    unfold sen; rw [senK_at hx, if_neg (Nat.not_lt_zero _)]
  have hb : ∀ (L : List (Int × Int)) x t, (orN L x L.length).testBit t = true ↔ sbS L x t := fun L x t => by
    have := orN_bit L x t L.length (Nat.le_refl _)
    rwa [List.take_length] at this
  constructor
  · intro h x hx t
    rw [← hb L, ← hb M]
    have := hat L x hx
    rw [h, hat M x hx] at this
    rw [Int.ofNat.inj this]
  · intro h
    apply List.ext_getElem (by rw [sen_len8, sen_len8])
    intro x h1 h2
    have hx : x < k := by rwa [sen_len8] at h1
    have e1 := hat L x hx
    have e2 := hat M x hx
    rw [List.getD_eq_getElem?_getD, List.getElem?_eq_getElem h1, Option.getD_some] at e1
    rw [List.getD_eq_getElem?_getD, List.getElem?_eq_getElem h2, Option.getD_some] at e2
    rw [e1, e2]
    congr 1
    apply Nat.eq_of_testBit_eq
    intro t
    rw [Bool.eq_iff_iff, hb, hb]
    exact h x hx t
/-- What is vain where another slot is left out is vain with it, too. -/
theorem vn_back {k : Int} {L : List (Int × Int)} {i j : Nat} (hij : i < j) (hj : j < L.length) (h : VnP k (L.take j ++ L.drop (j + 1)) i) : VnP k L i := by
  unfold VnP at h ⊢
  rw [sen_iff] at h ⊢
  intro x hx t
  have h := h x hx t
  have d1 : (L.take j ++ L.drop (j + 1)).take i = L.take i := by
    rw [List.take_append_of_le_length (by rw [List.length_take]; omega), List.take_take, Nat.min_eq_left (by omega)]
  have d2 : (L.take j ++ L.drop (j + 1)).drop (i + 1) = (L.take j).drop (i + 1) ++ L.drop (j + 1) := by
    rw [List.drop_append_of_le_length (by rw [List.length_take]; omega)]
  have d3 : L.drop (i + 1) = (L.take j).drop (i + 1) ++ L.drop j := by
    conv => lhs; rw [← List.take_append_drop j L]
    rw [List.drop_append_of_le_length (by rw [List.length_take]; omega)]
  have d4 : L.drop j = [L[j]] ++ L.drop (j + 1) := by rw [List.drop_eq_getElem_cons hj]; rfl
  have d5 : sbS L x t ↔ sbS (L.take j) x t ∨ sbS [L[j]] x t ∨ sbS (L.drop (j + 1)) x t := by
    conv => lhs; rw [← List.take_append_drop j L]
    rw [sbS_app, d4, sbS_app]
  rw [d1, d2] at h
  rw [d3, d4]
  simp only [sbS_app] at h ⊢
  rw [d5]
  constructor
  · rintro (a | a | a | a)
    · rcases h.1 (.inl a) with z | z
      · exact .inl z
      · exact .inr (.inr z)
    · rcases h.1 (.inr (.inl a)) with z | z
      · exact .inl z
      · exact .inr (.inr z)
    · exact .inr (.inl a)
    · exact .inr (.inr a)
  · rintro (a | a | a)
    · rcases h.2 (.inl a) with z | z | z
      · exact .inl z
      · exact .inr (.inl z)
      · exact .inr (.inr (.inr z))
    · exact .inr (.inr (.inl a))
    · exact .inr (.inr (.inr a))
theorem dvF_skip (k : Int) (L : List (Int × Int)) : ∀ (m n i : Nat), (∀ j, i ≤ j → j < i + m → ¬ VnP k L j) → dvF k (n + m) i L = dvF k n (i + m) L
  | 0, n, i, _ => rfl
  | m + 1, n, i, h => by
    rw [show n + (m + 1) = (n + m) + 1 by omega, dvF, if_neg (h i (Nat.le_refl _) (by omega)), dvF_skip k L m n (i + 1) (fun j h1 h2 => h j (by omega) (by omega)), show i + 1 + m = i + (m + 1) by omega]
theorem dvF_none {k : Int} {L : List (Int × Int)} (h : ∀ j, j < L.length → ¬ VnP k L j) : dvF k L.length 0 L = L := by
  have := dvF_skip k L L.length 0 0 (fun j _ h2 => h j (by omega))
  rw [Nat.zero_add] at this
  rw [this]; rfl
theorem dvF_first {k : Int} {L : List (Int × Int)} {j : Nat} (hj : j < L.length) (hv : VnP k L j) (h : ∀ i, i < j → ¬ VnP k L i) : dvF k L.length 0 L = dvF k (L.take j ++ L.drop (j + 1)).length 0 (L.take j ++ L.drop (j + 1)) := by
  have hc := cut_len hj
  have h1 := dvF_skip k L j (L.length - j) 0 (fun i _ h2 => h i (by omega))
  have h2 := dvF_skip k (L.take j ++ L.drop (j + 1)) j (L.length - 1 - j) 0 (fun i _ h2 hv2 => h i (by omega) (vn_back (by omega) hj hv2))
  rw [show L.length - j + j = L.length by omega, show L.length - j = (L.length - 1 - j) + 1 by omega, dvF, Nat.zero_add, if_pos hv] at h1
  rw [hc, show L.length - 1 = L.length - 1 - j + j by omega, h2, h1, Nat.zero_add]
theorem vnK_head {k : Int} {L : List (Int × Int)} : ∀ n, (vnK k L n = [] ∧ ∀ j, j < n → ¬ VnP k L j) ∨ ∃ j r, vnK k L n = ((j : Nat) : Int) :: r ∧ j < n ∧ VnP k L j ∧ ∀ i, i < j → ¬ VnP k L i
  | 0 => .inl ⟨rfl, fun j hj => absurd hj (Nat.not_lt_zero j)⟩
  | n + 1 => by
    rw [vnK_succ]
    rcases vnK_head n with ⟨h1, h2⟩ | ⟨j, r, h1, h2, h3, h4⟩
    · rw [h1]
      by_cases hv : VnP k L n
      · rw [if_pos hv]; exact .inr ⟨n, [], rfl, Nat.lt_succ_self n, hv, h2⟩
      · rw [if_neg hv]
        exact .inl ⟨rfl, fun j hj => by
          by_cases e : j = n
          · subst e; exact hv
          · exact h2 j (by omega)⟩
    · rw [h1]; exact .inr ⟨j, _, rfl, by omega, h3, h4⟩

def cnt13 (n : Nat) : Nat := cnt7 (n / 128) + cnt7 (n % 128)
theorem cnt13_le (n : Nat) : cnt13 n ≤ 14 := by
  have h1 := cnt7_le (n / 128); have h2 := cnt7_le (n % 128); unfold cnt13; omega
theorem fin13 {f : Int → Int} (h : below 8192 (fun n => intEq (f (Int.ofNat n)) ((cnt13 n : Nat) : Int)) = true) : ∀ x : Int, 0 ≤ x → x ≤ 8191 → [SV.val (.int .i64 (f x))] = [SV.val (.int .i64 ((cnt13 x.toNat : Nat) : Int))] := by
  intro x h0 h1
  have := below_ok h x.toNat (by omega)
  rw [intEq_eq, beq_iff_eq] at this
  rw [show Int.ofNat x.toNat = x from Int.toNat_of_nonneg h0] at this
  rw [this]
/-- The lines of a slot, as one number. -/
def lnV (s : Int × Int) : Int := s.1 * 128 + s.2
def lnL (fr : List (Int × Int)) : List Int := fr.map lnV
theorem lnL_len (fr : List (Int × Int)) : (lnL fr).length = fr.length := by simp [lnL]
theorem lnL_at {fr : List (Int × Int)} {j : Nat} (h : j < fr.length) : (lnL fr).getD j 0 = lnV (fr.getD j (0, 0)) := by
  unfold lnL; simp [List.getD_eq_getElem?_getD, h]
/-- The lines that change over the first so many steps of a ring. -/
def rgS (l : List Int) (i : Nat) : Int := ((cnt13 ((l.getD i 0).toNat ^^^ (l.getD ((i + 1) % l.length) 0).toNat) : Nat) : Int)
def rgK (l : List Int) : Nat → Int
  | 0 => 0
  | i + 1 => rgK l i + rgS l i
theorem rgK_le (l : List Int) : ∀ i : Nat, 0 ≤ rgK l i ∧ rgK l i ≤ 14 * i
  | 0 => by simp [rgK]
  | i + 1 => by
    have h1 := rgK_le l i
    have h2 := cnt13_le ((l.getD i 0).toNat ^^^ (l.getD ((i + 1) % l.length) 0).toNat)
    unfold rgK rgS; omega
theorem xor13 {a b : Nat} (ha : a ≤ 8191) (hb : b ≤ 8191) : a ^^^ b ≤ 8191 := by
  have := @Nat.xor_lt_two_pow a b 13 (by omega) (by omega); omega
theorem lnL_fill {fr : List (Int × Int)} {j o : Nat} {v : Int} (h : j < fr.length) (ho : o = j) (hv : v = lnV (fr.getD j (0, 0))) : putAt (((lnL (fr.take j)) ++ List.replicate (fr.length - j) 0).map (PV.int .i64)) (o * 1) [PV.int .i64 v] = ((lnL (fr.take (j + 1))) ++ List.replicate (fr.length - (j + 1)) 0).map (PV.int .i64) := by
  subst ho; subst hv
  have hl : (lnL (fr.take o)).length = o := by rw [lnL_len, List.length_take]; omega
  rw [put_map1 (PV.int .i64) _ (by rw [List.length_append, hl, List.length_replicate]; omega), List.set_append_right _ _ (by omega), hl, Nat.sub_self, show fr.length - o = fr.length - (o + 1) + 1 by omega, List.replicate_succ, List.set_cons_zero]
  have ht : fr.take (o + 1) = fr.take o ++ [fr.getD o (0, 0)] := by
    rw [List.take_add_one, List.getElem?_eq_getElem h, List.getD_eq_getElem?_getD, List.getElem?_eq_getElem h]; rfl
  rw [ht, show lnL (fr.take o ++ [fr.getD o (0, 0)]) = lnL (fr.take o) ++ [lnV (fr.getD o (0, 0))] from List.map_append, List.append_assoc]; rfl
theorem ln_val {c b : Int} (h0 : 0 ≤ c) (h1 : c ≤ 63) (h2 : 0 ≤ b) (h3 : b ≤ 127) : ior .i64 (IntKind.i64.wrap (c * 2 ^ min (Int.toNat 7) IntKind.i64.bits)) b = c * 128 + b := by
  have key : below 8192 (fun n => intEq (ior .i64 (IntKind.i64.wrap (((n / 128 : Nat) : Int) * 2 ^ min (Int.toNat 7) IntKind.i64.bits)) ((n % 128 : Nat) : Int)) ((n : Nat) : Int)) = true := by kernel_rfl
  have := below_ok key (c * 128 + b).toNat (by omega)
  rw [intEq_eq, beq_iff_eq] at this
  rw [show (((c * 128 + b).toNat / 128 : Nat) : Int) = c by omega, show (((c * 128 + b).toNat % 128 : Nat) : Int) = b by omega] at this
  rw [this]; omega
theorem lnL_bd {k : Int} {fr : List (Int × Int)} (hF : FrmP k fr) (hk : k ≤ 6) {j : Nat} (h : j < (lnL fr).length) : 0 ≤ (lnL fr).getD j 0 ∧ (lnL fr).getD j 0 ≤ 8191 := by
  rw [lnL_len] at h
  have := hF.bd hk h
  rw [lnL_at h]; unfold lnV; omega
theorem xor_128 {a b c d : Nat} (ha : a ≤ 127) (hc : c ≤ 127) (hb : b ≤ 127) (hd : d ≤ 127) : (a * 128 + b) ^^^ (c * 128 + d) = (a ^^^ c) * 128 + (b ^^^ d) := by
  have h1 := @Nat.xor_lt_two_pow b d 7 (by omega) (by omega)
  have e : ∀ x y : Nat, y < 2 ^ 7 → x * 128 + y = 2 ^ 7 * x + y := fun x y _ => by omega
  rw [e a b (by omega), e c d (by omega), e _ _ h1]
  apply Nat.eq_of_testBit_eq
  intro i
  rw [Nat.testBit_xor]
  have t : ∀ x y : Nat, y < 2 ^ 7 → (2 ^ 7 * x + y).testBit i = if i < 7 then y.testBit i else x.testBit (i - 7) := fun x y hy => Nat.testBit_two_pow_mul_add x hy i
  rw [t a b (by omega), t c d (by omega), t _ _ h1]
  split <;> simp
theorem rg_sw {k : Int} {fr : List (Int × Int)} (hF : FrmP k fr) (hk : k ≤ 6) {i : Nat} (h : i < fr.length) : rgS (lnL fr) i = swS fr i := by
  have hm : (i + 1) % fr.length < fr.length := Nat.mod_lt _ (by omega)
  have h1 := hF.bd hk h
  have h2 := hF.bd hk hm
  unfold rgS swS
  rw [lnL_len, lnL_at h, lnL_at hm]
  unfold lnV
  generalize fr.getD i (0, 0) = p at *
  generalize fr.getD ((i + 1) % fr.length) (0, 0) = r at *
  rw [show (p.1 * 128 + p.2).toNat = p.1.toNat * 128 + p.2.toNat by omega, show (r.1 * 128 + r.2).toNat = r.1.toNat * 128 + r.2.toNat by omega, xor_128 (by omega) (by omega) (by omega) (by omega)]
  have h3 := @Nat.xor_lt_two_pow p.2.toNat r.2.toNat 7 (by omega) (by omega)
  unfold cnt13
  rw [show ((p.1.toNat ^^^ r.1.toNat) * 128 + (p.2.toNat ^^^ r.2.toNat)) / 128 = p.1.toNat ^^^ r.1.toNat by omega, show ((p.1.toNat ^^^ r.1.toNat) * 128 + (p.2.toNat ^^^ r.2.toNat)) % 128 = p.2.toNat ^^^ r.2.toNat by omega, Int.natCast_add]
theorem rg_swK {k : Int} {fr : List (Int × Int)} (hF : FrmP k fr) (hk : k ≤ 6) : ∀ i, i ≤ fr.length → rgK (lnL fr) i = swK fr i
  | 0, _ => rfl
  | i + 1, h => by rw [rgK, swK, rg_swK hF hk i (by omega), rg_sw hF hk (by omega)]
theorem ld7 {l : List Int} (h : l.length = 7) : List.take 7 (List.drop 0 (l.map (PV.int .i64))) = l.map (PV.int .i64) := List.take_of_length_le (by rw [List.drop_zero, List.length_map, h]; exact Nat.le_refl _)
theorem brM_0 (l : List Int) (h : ∀ j, 0 ≤ l.getD j 0) : ∀ m, 0 ≤ brM l m
  | 0 => by simp [brM]
  | m + 1 => by
    have := brM_0 l h m
    have := h m
    unfold brM; split <;> (try split) <;> omega
theorem brM_gt (l : List Int) (h : ∀ j, 0 ≤ l.getD j 0) (m : Nat) : brM l (m + 1) = if l.getD m 0 > brM l m then l.getD m 0 else brM l m := by
  have h1 := brM_0 l h m
  have h2 := h m
  rw [brM]
  split
  · split
    · rw [if_neg (by omega)]
    · split <;> omega
  · rw [if_neg (by omega)]


set_option maxRecDepth 8000 in
set_option maxHeartbeats 4000000 in
theorem onesCount64_13 (x : Int) (h0 : 0 ≤ x) (h1 : x ≤ 8191) : PCalls Try.prog 51 [.int .u64 x] (· = [.val (.int .i64 (((cnt13 x.toNat : Nat) : Int)))]) := by
  refine pcalls_of_code (n := 35) az Try.func51 (by kernel_rfl) rfl rfl (Nat.le_of_ble_eq_true rfl) (by intro t u h; simp [Try.f51] at h) ?_
  refine code_seq (fun K1 hK1 => ?_)
  refine code_region ?_
  refine list_cons rfl (op_q (q_assign rfl (by decide)) ?_)
  refine list_nil ?_
  refine hK1 _ ?_; clear hK1 K1
  refine code_seq (fun K2 hK2 => ?_)
  refine code_region ?_
  refine list_cons rfl (op_q (q_move rfl (by decide)) ?_)
  refine list_cons rfl (op_q (q_shr rfl rfl (by omega) (by decide)) ?_)
  refine list_cons rfl (op_q (q_ib rfl rfl rfl (by decide)) ?_)
  refine list_cons rfl (op_q (q_move rfl (by decide)) ?_)
  refine list_cons rfl (op_q (q_ib rfl rfl rfl (by decide)) ?_)
  refine list_cons rfl (op_q (q_ib rfl rfl rfl (by decide)) ?_)
  refine list_cons rfl (op_q (q_assign rfl (by decide)) ?_)
  refine list_nil ?_
  refine hK2 _ ?_; clear hK2 K2
  refine code_seq (fun K3 hK3 => ?_)
  refine code_region ?_
  refine list_cons rfl (op_q (q_move rfl (by decide)) ?_)
  refine list_cons rfl (op_q (q_shr rfl rfl (by omega) (by decide)) ?_)
  refine list_cons rfl (op_q (q_ib rfl rfl rfl (by decide)) ?_)
  refine list_cons rfl (op_q (q_move rfl (by decide)) ?_)
  refine list_cons rfl (op_q (q_ib rfl rfl rfl (by decide)) ?_)
  refine list_cons rfl (op_q (q_ib rfl rfl rfl (by decide)) ?_)
  refine list_cons rfl (op_q (q_assign rfl (by decide)) ?_)
  refine list_nil ?_
  refine hK3 _ ?_; clear hK3 K3
  refine codeT.imp (σ' := [(0, _), (2, _)]) ?_ (imp_covers ⟨rfl, rfl, trivial⟩)
  refine code_seq (fun K4 hK4 => ?_)
  refine code_region ?_
  refine list_cons rfl (op_q (q_move rfl (by decide)) ?_)
  refine list_cons rfl (op_q (q_shr rfl rfl (by omega) (by decide)) ?_)
  refine list_cons rfl (op_q (q_move rfl (by decide)) ?_)
  refine list_cons rfl (op_q (q_ib rfl rfl rfl (by decide)) ?_)
  refine list_cons rfl (op_q (q_ib rfl rfl rfl (by decide)) ?_)
  refine list_cons rfl (op_q (q_assign rfl (by decide)) ?_)
  refine list_nil ?_
  refine hK4 _ ?_; clear hK4 K4
  refine code_seq (fun K5 hK5 => ?_)
  refine code_region ?_
  refine list_cons rfl (op_q (q_move rfl (by decide)) ?_)
  refine list_cons rfl (op_q (q_move rfl (by decide)) ?_)
  refine list_cons rfl (op_q (q_shr rfl rfl (by omega) (by decide)) ?_)
  refine list_cons rfl (op_q (q_ib rfl rfl rfl (by decide)) ?_)
  refine list_cons rfl (op_q (q_assign rfl (by decide)) ?_)
  refine list_nil ?_
  refine hK5 _ ?_; clear hK5 K5
  refine codeT.imp (σ' := [(0, _), (2, _)]) ?_ (imp_covers ⟨rfl, rfl, trivial⟩)
  refine code_seq (fun K6 hK6 => ?_)
  refine code_region ?_
  refine list_cons rfl (op_q (q_move rfl (by decide)) ?_)
  refine list_cons rfl (op_q (q_move rfl (by decide)) ?_)
  refine list_cons rfl (op_q (q_shr rfl rfl (by omega) (by decide)) ?_)
  refine list_cons rfl (op_q (q_ib rfl rfl rfl (by decide)) ?_)
  refine list_cons rfl (op_q (q_assign rfl (by decide)) ?_)
  refine list_nil ?_
  refine hK6 _ ?_; clear hK6 K6
  refine code_seq (fun K7 hK7 => ?_)
  refine code_region ?_
  refine list_cons rfl (op_q (q_move rfl (by decide)) ?_)
  refine list_cons rfl (op_q (q_move rfl (by decide)) ?_)
  refine list_cons rfl (op_q (q_shr rfl rfl (by omega) (by decide)) ?_)
  refine list_cons rfl (op_q (q_ib rfl rfl rfl (by decide)) ?_)
  refine list_cons rfl (op_q (q_assign rfl (by decide)) ?_)
  refine list_nil ?_
  refine hK7 _ ?_; clear hK7 K7
  refine codeT.imp (σ' := [(0, _), (2, _)]) ?_ (imp_covers ⟨rfl, rfl, trivial⟩)
  refine code_seq (fun K8 hK8 => ?_)
  refine code_region ?_
  refine list_cons rfl (op_q (q_move rfl (by decide)) ?_)
  refine list_cons rfl (op_q (by first | exact q_convB (by rw [Try.underlying79]; rfl) Try.underlying3 rfl (by decide) | exact q_convI (by rw [Try.underlying79]; rfl) Try.underlying3 rfl (by decide) (by omega) (by omega) | exact q_conv (by rw [Try.underlying79]; rfl) Try.underlying3 rfl (by decide)) ?_)
  refine list_cons rfl (op_q (by first | exact q_andI rfl rfl (by decide) (by omega) (by omega) (by omega) (by omega) | exact q_ib rfl rfl rfl (by decide)) ?_)
  refine list_cons rfl (op_q (q_assign rfl (by decide)) ?_)
  refine list_nil ?_
  refine hK8 _ ?_; clear hK8 K8
  refine code_ret ?_
  refine ends_ret (cs := []) rfl rfl rfl rfl trivial ?_
  revert x; exact fin13 (by kernel_rfl)

set_option maxRecDepth 8000 in
set_option maxHeartbeats 4000000 in
theorem onesCount_13 (x : Int) (h0 : 0 ≤ x) (h1 : x ≤ 8191) : PCalls Try.prog 40 [.int .u64 x] (· = [.val (.int .i64 (((cnt13 x.toNat : Nat) : Int)))]) := by
  refine pcalls_of_code (n := 8) az Try.func40 (by kernel_rfl) rfl rfl (Nat.le_of_ble_eq_true rfl) (by intro t u h; simp [Try.f40] at h) ?_
  refine code_seq (fun K1 hK1 => ?_)
  refine code_region ?_
  refine list_cons rfl (op_q (q_assign rfl (by decide)) ?_)
  refine list_nil ?_
  refine hK1 _ ?_; clear hK1 K1
  refine code_seq (fun K2 hK2 => ?_)
  refine code_cond_f rfl ?_
  refine code_skip ?_
  refine hK2 _ ?_; clear hK2 K2
  refine code_seq (fun K3 hK3 => ?_)
  refine code_region ?_
  refine list_cons rfl (op_q (q_move rfl (by decide)) ?_)
  refine list_cons rfl (op_call _ (onesCount64_13 _ (by omega) (by omega)) rfl rfl (by decide) (by decide) (by decide) rfl ?_)
  rintro _ rfl
  refine list_cons rfl (op_q (q_assign rfl (by decide)) ?_)
  refine list_nil ?_
  refine hK3 _ ?_; clear hK3 K3
  refine codeT.imp (σ' := [(0, _), (2, _)]) ?_ (imp_covers ⟨rfl, rfl, trivial⟩)
  refine code_ret ?_
  refine ends_ret (cs := []) rfl rfl rfl rfl trivial ?_
  rfl

set_option maxRecDepth 8000 in
set_option maxHeartbeats 4000000 in
theorem impl_linesOf (k : Int) (fr : List (Int × Int)) (hk : k ≤ 6) (hF : FrmP k fr) : PCalls Try.prog 22 [.sl fr.length (fl fr)] (· = [.own 0 3 1 (lnL fr).length ((lnL fr).map (.int .i64))]) := by
  refine pcalls_of_code (n := 27) az Try.func22 (by kernel_rfl) rfl rfl (Nat.le_of_ble_eq_true rfl) (by intro t u h; simp [Try.f22] at h) ?_
  have hfl := fl_len fr
  have h12 := hF.1
  refine code_seq (fun K1 hK1 => ?_)
  refine code_region ?_
  refine list_cons rfl (op_q (q_assign rfl (by decide)) ?_)
  refine list_nil ?_
  refine hK1 _ ?_; clear hK1 K1
  refine code_seq (fun K2 hK2 => ?_)
  refine code_region ?_
  refine list_cons rfl (op_q (q_move rfl (by decide)) ?_)
  refine list_cons rfl (op_q (q_len_sl Try.underlying26 rfl rfl (by decide)) ?_)
  refine list_cons rfl (op_make sl_44 rfl rfl (by omega) (by decide) (by decide) rfl ?_)
  refine list_cons rfl (op_q (q_assign rfl (by decide)) ?_)
  refine list_nil ?_
  refine hK2 _ ?_; clear hK2 K2
  refine code_seq (fun K3 hK3 => ?_)
  refine code_seq (fun K4 hK4 => ?_)
  refine code_region ?_
  refine list_cons rfl (op_q (q_move rfl (by decide)) ?_)
  refine list_cons rfl (op_q (q_len_sl Try.underlying26 rfl rfl (by decide)) ?_)
  refine list_cons rfl (op_q (q_move rfl (by decide)) ?_)
  refine list_nil ?_
  refine hK4 _ ?_; clear hK4 K4
  refine code_block ?_
  refine code_loop (X := PV × Nat × List PV × Int) (fun x => [(0, .par 0 (.sl fr.length (fl fr))), (2, .val x.1), (3, .own 8 3 1 x.2.1 x.2.2.1), (9, .par 0 (.sl fr.length (fl fr))), (10, .val (.int .i64 fr.length)), (11, .val (.int .i64 x.2.2.2))]) (fun x => 0 ≤ x.2.2.2 ∧ x.2.2.2 ≤ fr.length ∧ x.2.1 = fr.length ∧ x.2.2.1 = (lnL (fr.take x.2.2.2.toNat) ++ List.replicate (fr.length - x.2.2.2.toNat) 0).map (.int .i64)) (fun x => (fr.length - x.2.2.2).toNat) (_, _, _, _) (imp_covers ⟨rfl, rfl, rfl, rfl, rfl, rfl, trivial⟩) ?_ ?_
  · (try dsimp only)
    exact ⟨by omega, by omega, rfl, zeros_map1 (PV.int .i64) 0 fr.length⟩
  · intro x hI
    obtain ⟨t2_p, lines_n, lines_c, t11⟩ := x
    replace hI : 0 ≤ t11 ∧ t11 ≤ fr.length ∧ lines_n = fr.length ∧ lines_c = (lnL (fr.take t11.toNat) ++ List.replicate (fr.length - t11.toNat) 0).map (.int .i64) := hI
    show codeT _ _ _ [(0, .par 0 (.sl fr.length (fl fr))), (2, .val t2_p), (3, .own 8 3 1 lines_n lines_c), (9, .par 0 (.sl fr.length (fl fr))), (10, .val (.int .i64 fr.length)), (11, .val (.int .i64 t11))] _
    obtain ⟨i1, i2, rfl, rfl⟩ := hI
    have hbd := fun h : t11 < fr.length => hF.bd hk (j := t11.toNat) (by omega)
    refine code_seq (fun K5 hK5 => ?_)
    refine code_region ?_
    refine list_cons rfl (op_q (q_lt rfl rfl (by decide)) ?_)
    refine list_nil ?_
    refine hK5 _ ?_; clear hK5 K5
    refine code_seq (fun K6 hK6 => ?_)
    refine code_cond_d rfl (fun h1 => ?_) (fun h1 => ?_)
    · skip
      (try simp only [Decidable.not_not] at h1)
      refine code_skip ?_
      refine hK6 _ ?_; clear hK6 K6
      refine code_seq (fun K7 hK7 => ?_)
      refine code_block ?_
      refine code_seq (fun K8 hK8 => ?_)
      refine code_region ?_
      refine list_cons rfl (op_q (q_move rfl (by decide)) ?_)
      refine list_cons rfl (op_q (q_indexAddr_rd sl_26 rfl (.inl ⟨_, rfl, rfl⟩) rfl (by omega) (by omega) (by decide)) ?_)
      refine list_cons rfl (op_q (q_load_rd_aggE agg_38 rfl (.inl ⟨_, rfl⟩) (by first | decide | omega | exact Nat.le_refl _ | (simp; done) | (simp; omega)) (fl_at fr t11.toNat (by omega)) rfl (by decide)) ?_)
      refine list_cons rfl (op_alloc zt_38 (by decide) (by decide) rfl ?_)
      refine list_cons rfl (op_q (q_assign rfl (by decide)) ?_)
      refine list_cons rfl (op_store (agg_38).2 5 [5] (by intro t ht; simp only [List.mem_cons, List.not_mem_nil, or_false] at ht; subst ht; rfl) (.inr ⟨rfl, _, rfl⟩) rfl rfl rfl rfl (by first | rfl | exact flat_part (flat_map _ (fun _ => rfl) _) _ _ | exact flat_map _ (fun _ => rfl) _) (by first | rfl | (simp [PV.cells]; done)) (by decide) (by decide) rfl ?_)
      refine list_nil ?_
      refine hK8 _ ?_; clear hK8 K8
      refine codeT.imp (σ' := [(0, _), (2, _), (3, _), (4, _), (5, _), (9, _), (10, _), (11, _)]) ?_ (imp_covers ⟨rfl, rfl, rfl, rfl, rfl, rfl, rfl, rfl, trivial⟩)
      refine code_region ?_
      refine list_cons rfl (op_q (q_move rfl (by decide)) ?_)
      refine list_cons rfl (op_q (q_move rfl (by decide)) ?_)
      refine list_cons rfl (op_q (q_fieldAddr fi_38_0 rfl rfl (by decide)) ?_)
      refine list_cons rfl (op_q (q_load one_3 5 rfl rfl rfl (by first | rfl | exact get_map1 _ 0 _ (by first | omega | (simp; omega))) (by decide)) ?_)
      refine list_cons rfl (op_q (by first | exact q_shl1 rfl rfl (by decide) (by omega) (by omega) | exact q_shlI rfl rfl (by decide) (by omega) (by omega) (by omega) | exact q_shl rfl rfl (by omega) (by decide)) ?_)
      refine list_cons rfl (op_q (q_fieldAddr fi_38_1 rfl rfl (by decide)) ?_)
      refine list_cons rfl (op_q (q_load one_3 5 rfl rfl rfl (by first | rfl | exact get_map1 _ 0 _ (by first | omega | (simp; omega))) (by decide)) ?_)
      refine list_cons rfl (op_q (by first | exact q_orI rfl rfl (by decide) (by omega) (by omega) (by omega) (by omega) | exact q_ib rfl rfl rfl (by decide)) ?_)
      refine list_cons rfl (op_q (q_indexAddr_own sl_44 rfl rfl (by omega) (by omega) (by decide)) ?_)
      refine list_cons rfl (op_store (one_3).2 3 [3, 16] (by intro t ht; simp only [List.mem_cons, List.not_mem_nil, or_false] at ht; rcases ht with rfl | rfl <;> rfl) (.inl rfl) rfl rfl rfl rfl rfl rfl (by simp [lnL]; omega) (by decide) rfl ?_)
      refine list_nil ?_
      refine blk_n ?_
      refine hK7 _ ?_; clear hK7 K7
      refine codeT.imp (σ' := [(0, _), (2, _), (3, _), (4, _), (5, _), (9, _), (10, _), (11, _)]) ?_ (imp_covers ⟨rfl, rfl, rfl, rfl, rfl, rfl, rfl, rfl, trivial⟩)
      refine code_region ?_
      refine list_cons rfl (op_q (by first | exact q_addI rfl rfl (by decide) (by omega) (by omega) | exact q_ib rfl rfl rfl (by decide)) ?_)
      refine list_cons rfl (op_q (q_move rfl (by decide)) ?_)
      refine list_nil ?_
      refine then_n ⟨(_, _, _, _), imp_covers ⟨rfl, rfl, rfl, rfl, rfl, rfl, trivial⟩, ?_, ?_⟩
      · (try dsimp only)
        (have hb := hbd (by omega); exact ⟨by omega, by omega, rfl, by rw [show (t11 + 1).toNat = t11.toNat + 1 by omega]; exact lnL_fill (by omega) rfl (ln_val hb.1.1 hb.1.2 hb.2.1 hb.2.2)⟩)
      · (try dsimp only); omega
    (try simp only [Decidable.not_not] at h1)
    refine code_exit ?_
    refine then_x ?_; clear hK6 K6
    refine then_x ?_
    refine blk_hit ?_
    refine hK3 _ ?_; clear hK3 K3
    refine code_seq (fun K9 hK9 => ?_)
    refine code_region ?_
    refine list_cons rfl (op_q (q_move rfl (by decide)) ?_)
    refine list_cons rfl (op_q (q_assign rfl (by decide)) ?_)
    refine list_nil ?_
    refine hK9 _ ?_; clear hK9 K9
    refine code_ret ?_
    refine ends_ret (cs := []) rfl rfl rfl rfl trivial ?_
    rw [show t11.toNat = fr.length by omega, List.take_length, Nat.sub_self, List.replicate_zero, List.append_nil, lnL_len]

set_option maxRecDepth 8000 in
set_option maxHeartbeats 4000000 in
theorem impl_ringSwitches (l : List Int) (h12 : l.length ≤ 12) (hb : ∀ j, j < l.length → 0 ≤ l.getD j 0 ∧ l.getD j 0 ≤ 8191) : PCalls Try.prog 21 [.sl l.length (l.map (.int .i64))] (· = [.val (.int .i64 (rgK l l.length))]) := by
  refine pcalls_of_code (n := 29) az Try.func21 (by kernel_rfl) rfl rfl (Nat.le_of_ble_eq_true rfl) (by intro t u h; simp [Try.f21] at h) ?_
  refine code_seq (fun K1 hK1 => ?_)
  refine code_region ?_
  refine list_cons rfl (op_q (q_assign rfl (by decide)) ?_)
  refine list_nil ?_
  refine hK1 _ ?_; clear hK1 K1
  refine code_seq (fun K2 hK2 => ?_)
  refine code_region ?_
  refine list_cons rfl (op_q (q_assign rfl (by decide)) ?_)
  refine list_nil ?_
  refine hK2 _ ?_; clear hK2 K2
  refine code_seq (fun K3 hK3 => ?_)
  refine code_seq (fun K4 hK4 => ?_)
  refine code_region ?_
  refine list_cons rfl (op_q (q_move rfl (by decide)) ?_)
  refine list_cons rfl (op_q (q_len_sl Try.underlying44 rfl rfl (by decide)) ?_)
  refine list_cons rfl (op_q (q_move rfl (by decide)) ?_)
  refine list_nil ?_
  refine hK4 _ ?_; clear hK4 K4
  refine code_block ?_
  refine code_loop (X := Int × Int × Int) (fun x => [(0, .par 0 (.sl l.length (l.map (.int .i64)))), (2, .val (.int .i64 x.1)), (3, .val (.int .i64 x.2.1)), (6, .par 0 (.sl l.length (l.map (.int .i64)))), (7, .val (.int .i64 l.length)), (8, .val (.int .i64 x.2.2))]) (fun x => 0 ≤ x.2.2 ∧ x.2.2 ≤ l.length ∧ x.2.1 = rgK l x.2.2.toNat) (fun x => (l.length - x.2.2).toNat) (_, _, _) (imp_covers ⟨rfl, rfl, rfl, rfl, rfl, rfl, trivial⟩) ?_ ?_
  · (try dsimp only)
    exact ⟨by omega, by omega, rfl⟩
  · intro x hI
    obtain ⟨t2, switches, t8⟩ := x
    replace hI : 0 ≤ t8 ∧ t8 ≤ l.length ∧ switches = rgK l t8.toNat := hI
    show codeT _ _ _ [(0, .par 0 (.sl l.length (l.map (.int .i64)))), (2, .val (.int .i64 t2)), (3, .val (.int .i64 switches)), (6, .par 0 (.sl l.length (l.map (.int .i64)))), (7, .val (.int .i64 l.length)), (8, .val (.int .i64 t8))] _
    obtain ⟨i1, i2, rfl⟩ := hI
    have hrg := rgK_le l t8.toNat
    refine code_seq (fun K5 hK5 => ?_)
    refine code_region ?_
    refine list_cons rfl (op_q (q_lt rfl rfl (by decide)) ?_)
    refine list_nil ?_
    refine hK5 _ ?_; clear hK5 K5
    refine code_seq (fun K6 hK6 => ?_)
    refine code_cond_d rfl (fun h1 => ?_) (fun h1 => ?_)
    · skip
      (try simp only [Decidable.not_not] at h1); (try have hm0 : 0 ≤ (t8 + 1) % (l.length : Int) ∧ (t8 + 1) % (l.length : Int) < l.length := ⟨Int.emod_nonneg _ (by omega), Int.emod_lt_of_pos _ (by omega)⟩); (try have hm1 : ((t8 + 1) % (l.length : Int)).toNat = (t8.toNat + 1) % l.length := by rw [Int.toNat_emod (by omega) (by omega), show (t8 + 1).toNat = t8.toNat + 1 by omega, Int.toNat_natCast]); (try have hb1 := hb t8.toNat (by omega)); (try have hb2 := hb ((t8 + 1) % (l.length : Int)).toNat (by omega)); (try have hx := xor13 (a := (l.getD t8.toNat 0).toNat) (b := (l.getD ((t8 + 1) % (l.length : Int)).toNat 0).toNat) (by omega) (by omega)); (try have hcn := cnt13_le ((((l.getD t8.toNat 0).toNat ^^^ (l.getD ((t8 + 1) % (l.length : Int)).toNat 0).toNat : Nat) : Int)).toNat)
      refine code_skip ?_
      refine hK6 _ ?_; clear hK6 K6
      refine code_seq (fun K7 hK7 => ?_)
      refine code_block ?_
      refine code_seq (fun K8 hK8 => ?_)
      refine code_region ?_
      refine list_cons rfl (op_q (q_move rfl (by decide)) ?_)
      refine list_cons rfl (op_q (q_indexAddr_rd sl_44 rfl (.inl ⟨_, rfl, rfl⟩) rfl (by omega) (by omega) (by decide)) ?_)
      refine list_cons rfl (op_q (q_load_rd one_3 rfl (.inl ⟨_, (by first | rfl | exact congrArg (SV.rpar _) (drop_map1 _ 0 _ (by first | omega | (simp; omega)))), rfl⟩) (by decide)) ?_)
      refine list_cons rfl (op_q (q_assign rfl (by decide)) ?_)
      refine list_cons rfl (op_q (q_assign rfl (by decide)) ?_)
      refine list_nil ?_
      refine hK8 _ ?_; clear hK8 K8
      refine code_region ?_
      refine list_cons rfl (op_q (q_move rfl (by decide)) ?_)
      refine list_cons rfl (op_q (q_move rfl (by decide)) ?_)
      refine list_cons rfl (op_q (q_move rfl (by decide)) ?_)
      refine list_cons rfl (op_q (q_move rfl (by decide)) ?_)
      refine list_cons rfl (op_q (by first | exact q_addI rfl rfl (by decide) (by omega) (by omega) | exact q_ib rfl rfl rfl (by decide)) ?_)
      refine list_cons rfl (op_q (q_move rfl (by decide)) ?_)
      refine list_cons rfl (op_q (q_len_sl Try.underlying44 rfl rfl (by decide)) ?_)
      refine list_cons rfl (op_q (by first | exact q_remI rfl rfl (by decide) (by omega) (by omega) | exact q_rem rfl rfl (by omega) (by decide)) ?_)
      refine list_cons rfl (op_q (q_indexAddr_rd sl_44 rfl (.inl ⟨_, rfl, rfl⟩) rfl (by omega) (by omega) (by decide)) ?_)
      refine list_cons rfl (op_q (q_load_rd one_3 rfl (.inl ⟨_, (by first | rfl | exact congrArg (SV.rpar _) (drop_map1 _ 0 _ (by first | omega | (simp; omega)))), rfl⟩) (by decide)) ?_)
      refine list_cons rfl (op_q (by first | exact q_xorI rfl rfl (by decide) (by omega) (by omega) (by omega) (by omega) | exact q_ib rfl rfl rfl (by decide)) ?_)
      refine list_cons rfl (op_q (by first | exact q_convU (by rw [Try.underlying3]; rfl) Try.underlying68 rfl (by decide) (by omega) (by omega) | exact q_conv (by rw [Try.underlying3]; rfl) Try.underlying68 rfl (by decide)) ?_)
      refine list_cons rfl (op_call _ (onesCount_13 _ (by omega) (by omega)) rfl rfl (by decide) (by decide) (by decide) rfl ?_)
      rintro _ rfl
      refine list_cons rfl (op_q (by first | exact q_addI rfl rfl (by decide) (by omega) (by omega) | exact q_ib rfl rfl rfl (by decide)) ?_)
      refine list_cons rfl (op_q (q_assign rfl (by decide)) ?_)
      refine list_nil ?_
      refine blk_n ?_
      refine hK7 _ ?_; clear hK7 K7
      refine codeT.imp (σ' := [(0, _), (2, _), (3, _), (4, _), (5, _), (6, _), (7, _), (8, _)]) ?_ (imp_covers ⟨rfl, rfl, rfl, rfl, rfl, rfl, rfl, rfl, trivial⟩)
      refine code_region ?_
      refine list_cons rfl (op_q (by first | exact q_addI rfl rfl (by decide) (by omega) (by omega) | exact q_ib rfl rfl rfl (by decide)) ?_)
      refine list_cons rfl (op_q (q_move rfl (by decide)) ?_)
      refine list_nil ?_
      refine then_n ⟨(_, _, _), imp_covers ⟨rfl, rfl, rfl, rfl, rfl, rfl, trivial⟩, ?_, ?_⟩
      · (try dsimp only)
        exact ⟨by omega, by omega, by rw [show (t8 + 1).toNat = t8.toNat + 1 by omega, rgK, rgS, ← hm1]; rfl⟩
      · (try dsimp only); omega
    (try simp only [Decidable.not_not] at h1); (try have hm0 : 0 ≤ (t8 + 1) % (l.length : Int) ∧ (t8 + 1) % (l.length : Int) < l.length := ⟨Int.emod_nonneg _ (by omega), Int.emod_lt_of_pos _ (by omega)⟩); (try have hm1 : ((t8 + 1) % (l.length : Int)).toNat = (t8.toNat + 1) % l.length := by rw [Int.toNat_emod (by omega) (by omega), show (t8 + 1).toNat = t8.toNat + 1 by omega, Int.toNat_natCast]); (try have hb1 := hb t8.toNat (by omega)); (try have hb2 := hb ((t8 + 1) % (l.length : Int)).toNat (by omega)); (try have hx := xor13 (a := (l.getD t8.toNat 0).toNat) (b := (l.getD ((t8 + 1) % (l.length : Int)).toNat 0).toNat) (by omega) (by omega)); (try have hcn := cnt13_le ((((l.getD t8.toNat 0).toNat ^^^ (l.getD ((t8 + 1) % (l.length : Int)).toNat 0).toNat : Nat) : Int)).toNat)
    refine code_exit ?_
    refine then_x ?_; clear hK6 K6
    refine then_x ?_
    refine blk_hit ?_
    refine hK3 _ ?_; clear hK3 K3
    refine code_seq (fun K9 hK9 => ?_)
    refine code_region ?_
    refine list_cons rfl (op_q (q_move rfl (by decide)) ?_)
    refine list_cons rfl (op_q (q_assign rfl (by decide)) ?_)
    refine list_nil ?_
    refine hK9 _ ?_; clear hK9 K9
    refine code_ret ?_
    refine ends_ret (cs := []) rfl rfl rfl rfl trivial ?_
    rw [show t8.toNat = l.length by omega]

def llt : List Int → List Int → Prop
  | a :: ar, b :: bs => a < b ∨ (a = b ∧ llt ar bs)
  | _, _ => False
instance lltDec : ∀ (a b : List Int), Decidable (llt a b)
  | a :: ar, b :: bs => by unfold llt; have := lltDec ar bs; exact inferInstance
  | [], _ => .isFalse (by simp [llt])
  | _ :: _, [] => .isFalse (by simp [llt])
theorem llt_irr : ∀ a : List Int, ¬ llt a a
  | [], h => h
  | a :: ar, h => by
    rcases h with h | ⟨_, h⟩
    · omega
    · exact llt_irr ar h
theorem llt_trans : ∀ {a b c : List Int}, llt a b → llt b c → llt a c
  | a :: ar, b :: bs, c :: cs, h, k => by
    rcases h with h | ⟨h1, h⟩ <;> rcases k with k | ⟨k1, k⟩
    · exact .inl (by omega)
    · exact .inl (by omega)
    · exact .inl (by omega)
    · exact .inr ⟨by omega, llt_trans h k⟩
  | [], _, _, h, _ => h.elim
  | _ :: _, [], _, h, _ => h.elim
  | _ :: _, _ :: _, [], _, k => k.elim
theorem llt_tri : ∀ {a b : List Int}, a.length = b.length → a = b ∨ llt a b ∨ llt b a
  | [], [], _ => .inl rfl
  | a :: ar, b :: bs, h => by
    rcases llt_tri (a := ar) (b := bs) (by simpa using h) with e | e | e
    · subst e
      rcases Int.lt_trichotomy a b with k | k | k
      · exact .inr (.inl (.inl k))
      · subst k; exact .inl rfl
      · exact .inr (.inr (.inl k))
    · rcases Int.lt_trichotomy a b with k | k | k
      · exact .inr (.inl (.inl k))
      · exact .inr (.inl (.inr ⟨k, e⟩))
      · exact .inr (.inr (.inl k))
    · rcases Int.lt_trichotomy a b with k | k | k
      · exact .inr (.inl (.inl k))
      · exact .inr (.inr (.inr ⟨k.symm, e⟩))
      · exact .inr (.inr (.inl k))
  | [], _ :: _, h => by simp at h
  | _ :: _, [], h => by simp at h
theorem llt_pre : ∀ (p : List Int) {a b : List Int}, llt (p ++ a) (p ++ b) ↔ llt a b
  | [], _, _ => Iff.rfl
  | x :: p, a, b => by
    show (x < x ∨ (x = x ∧ llt (p ++ a) (p ++ b))) ↔ _
    rw [llt_pre p]
    exact ⟨fun h => h.elim (fun z => absurd z (by omega)) (fun z => z.2), fun h => .inr ⟨rfl, h⟩⟩
def Asc (l : List Int) : Prop := l.Pairwise (· ≤ ·)
def Dsc (l : List Int) : Prop := l.Pairwise (fun a b => b ≤ a)
theorem dsc_max : ∀ {t r : List Int}, Dsc t → r.Perm t → ¬ llt t r
  | [], _, _, _, h => h
  | _ :: _, [], _, _, h => h
  | x :: t, y :: r, hd, hp, h => by
    have hd' := List.pairwise_cons.1 hd
    rcases h with h | ⟨h1, h⟩
    · have : y ∈ x :: t := hp.mem_iff.1 List.mem_cons_self
      rcases List.mem_cons.1 this with e | e
      · omega
      · have := hd'.1 y e; omega
    · subst h1
      exact dsc_max hd'.2 hp.cons_inv h
theorem asc_min : ∀ {s r : List Int}, Asc s → r.Perm s → r = s ∨ llt s r
  | [], r, _, hp => .inl (List.Perm.eq_nil hp)
  | x :: s, [], _, hp => by simp at hp
  | x :: s, y :: r, hd, hp => by
    have hd' := List.pairwise_cons.1 hd
    have : y ∈ x :: s := hp.mem_iff.1 List.mem_cons_self
    have hxy : x ≤ y := by
      rcases List.mem_cons.1 this with e | e
      · omega
      · exact hd'.1 y e
    by_cases e : x = y
    · subst e
      rcases asc_min hd'.2 hp.cons_inv with k | k
      · exact .inl (by rw [k])
      · exact .inr (.inr ⟨rfl, k⟩)
    · exact .inr (.inl (by omega))
theorem asc_rev {l : List Int} (h : Dsc l) : Asc l.reverse := by
  unfold Asc; rw [List.pairwise_reverse]; exact h
/-- The sequence that comes next is the least of those that are greater. -/
theorem next_min {P T1 T2 : List Int} {x y : Int} (hT : Dsc (T1 ++ y :: T2)) (hxy : x < y) (h2 : ∀ z ∈ T2, z ≤ x) {b : List Int} (hb : b.Perm (P ++ x :: (T1 ++ y :: T2))) (hl : llt (P ++ x :: (T1 ++ y :: T2)) b) :
    b = P ++ y :: (T1 ++ x :: T2).reverse ∨ llt (P ++ y :: (T1 ++ x :: T2).reverse) b := by
  induction P generalizing b with
  | cons p P ih =>
    cases b with
    | nil => exact hl.elim
    | cons c b =>
      rcases hl with hl | ⟨he, hl⟩
      · exact .inr (.inl hl)
      · subst he
        rcases ih (b := b) hb.cons_inv hl with k | k
        · exact .inl (by rw [k]; rfl)
        · exact .inr (.inr ⟨rfl, k⟩)
  | nil =>
    cases b with
    | nil => exact hl.elim
    | cons z R =>
      simp only [List.nil_append] at *
      rcases hl with hl | ⟨he, hl⟩
      · have hz : z ∈ x :: (T1 ++ y :: T2) := hb.mem_iff.1 List.mem_cons_self
        have hT' := List.pairwise_append.1 hT
        have hyz : y ≤ z := by
          rcases List.mem_cons.1 hz with e | e
          · omega
          · rcases List.mem_append.1 e with e | e
            · exact hT'.2.2 z e y List.mem_cons_self
            · rcases List.mem_cons.1 e with e | e
              · omega
              · have := h2 z e; omega
        by_cases e : y = z
        · subst e
          have hp : R.Perm (T1 ++ x :: T2) := by
            have h1 : (y :: R).Perm (y :: (T1 ++ x :: T2)) := hb.trans (by
              have a1 : (x :: (T1 ++ y :: T2)).Perm (x :: y :: (T1 ++ T2)) := List.Perm.cons x List.perm_middle
              have a2 : (y :: (T1 ++ x :: T2)).Perm (y :: x :: (T1 ++ T2)) := List.Perm.cons y List.perm_middle
              exact a1.trans ((List.Perm.swap y x _).trans a2.symm))
            exact h1.cons_inv
          have hdT : Dsc (T1 ++ x :: T2) := by
            have hy2 := List.pairwise_cons.1 hT'.2.1
            refine List.pairwise_append.2 ⟨hT'.1, List.pairwise_cons.2 ⟨h2, hy2.2⟩, fun a ha c hc => ?_⟩
            have hay := hT'.2.2 a ha y List.mem_cons_self
            rcases List.mem_cons.1 hc with e | e
            · omega
            · have := h2 c e; omega
          rcases asc_min (asc_rev hdT) (hp.trans (List.reverse_perm _).symm) with k | k
          · exact .inl (by rw [k])
          · exact .inr (.inr ⟨rfl, k⟩)
        · exact .inr (.inl (by omega))
      · subst he
        exact absurd hl (dsc_max hT hb.cons_inv)
theorem next_perm {P T1 T2 : List Int} {x y : Int} : (P ++ y :: (T1 ++ x :: T2).reverse).Perm (P ++ x :: (T1 ++ y :: T2)) := by
  refine List.Perm.append_left P ?_
  have a0 : (y :: (T1 ++ x :: T2).reverse).Perm (y :: (T1 ++ x :: T2)) := List.Perm.cons y (List.reverse_perm _)
  have a1 : (x :: (T1 ++ y :: T2)).Perm (x :: y :: (T1 ++ T2)) := List.Perm.cons x List.perm_middle
  have a2 : (y :: (T1 ++ x :: T2)).Perm (y :: x :: (T1 ++ T2)) := List.Perm.cons y List.perm_middle
  exact a0.trans (a2.trans ((List.Perm.swap x y _).trans a1.symm))
theorem next_gt {P T1 T2 : List Int} {x y : Int} (hxy : x < y) : llt (P ++ x :: (T1 ++ y :: T2)) (P ++ y :: (T1 ++ x :: T2).reverse) := by
  rw [llt_pre]; exact .inl hxy
theorem gmid (p q : List Int) (x : Int) : (p ++ x :: q).getD p.length 0 = x := by
  rw [List.getD_eq_getElem?_getD, List.getElem?_append_right (Nat.le_refl _), Nat.sub_self]; rfl
theorem gmid' (p q : List Int) (x : Int) {n : Nat} (h : p.length = n) : (p ++ x :: q).getD n 0 = x := by subst h; exact gmid p q x
theorem smid (p q : List Int) (x v : Int) {n : Nat} (h : p.length = n) : (p ++ x :: q).set n v = p ++ v :: q := by
  subst h
  rw [List.set_append_right _ _ (Nat.le_refl _), Nat.sub_self, List.set_cons_zero]
/-- Two places change their numbers. -/
def swpL (L : List Int) (p q : Nat) : List Int := (L.set p (L.getD q 0)).set q (L.getD p 0)
theorem swpL_len (L : List Int) (p q : Nat) : (swpL L p q).length = L.length := by simp [swpL]
theorem swpL_adj (p q : List Int) (x y : Int) {n : Nat} (h : p.length = n) : swpL (p ++ y :: x :: q) (n + 1) n = p ++ x :: y :: q := by
  have e1 := gmid' p (x :: q) y h
  have e2 : (p ++ y :: x :: q).getD (n + 1) 0 = x := by
    rw [show p ++ y :: x :: q = (p ++ [y]) ++ x :: q by simp]
    exact gmid' _ _ _ (by simp [h])
  unfold swpL
  rw [e1, e2]
  rw [show p ++ y :: x :: q = (p ++ [y]) ++ x :: q by simp, smid _ _ _ _ (by simp [h]), show (p ++ [y]) ++ y :: q = p ++ y :: y :: q by simp, smid _ _ _ _ h]
/-- The part of a row from o on, m places, turned round. -/
def revW (L : List Int) (o m : Nat) : List Int := L.take o ++ ((L.drop o).take m).reverse ++ L.drop (o + m)
theorem lst_ext {a b : List Int} (h : a.length = b.length) (he : ∀ q, q < a.length → a.getD q 0 = b.getD q 0) : a = b := by
  apply List.ext_getElem h
  intro q h1 h2
  have := he q h1
  rwa [List.getD_eq_getElem?_getD, List.getElem?_eq_getElem h1, List.getD_eq_getElem?_getD, List.getElem?_eq_getElem h2] at this
theorem setQ_at (L : List Int) (p : Nat) (v : Int) {q : Nat} (h : p < L.length) : (L.set p v).getD q 0 = if q = p then v else L.getD q 0 := by
  rw [List.getD_eq_getElem?_getD, List.getElem?_set]
  by_cases e : p = q
  · subst e; rw [if_pos rfl, if_pos h, if_pos rfl]; rfl
  · rw [if_neg e, if_neg (fun z => e z.symm), List.getD_eq_getElem?_getD]
theorem get_mapk (l : List Int) {k : Nat} (h : k < l.length) : (l.map (PV.int .i64))[k]? = some (.int .i64 (l.getD k 0)) := by
  have := get_map1 (PV.int .i64) 0 l (k := k) h
  rwa [Nat.mul_one] at this
theorem put_mapk (l : List Int) {k : Nat} (h : k < l.length) (v : Int) : putAt (l.map (PV.int .i64)) k [PV.int .i64 v] = (l.set k v).map (PV.int .i64) := by
  have := put_map1 (PV.int .i64) l h v
  rwa [Nat.mul_one] at this
theorem put2_swp {L : List Int} {p q p' q' : Nat} {v1 v2 : Int} (hp : p < L.length) (hq : q < L.length) (ep : p' = p) (eq : q' = q) (h1 : v1 = L.getD q 0) (h2 : v2 = L.getD p 0) : putAt (putAt (L.map (PV.int .i64)) p' [PV.int .i64 v1]) q' [PV.int .i64 v2] = (swpL L p q).map (PV.int .i64) := by
  subst ep; subst eq; subst h1; subst h2
  rw [put_mapk _ hp, put_mapk _ (by rw [List.length_set]; exact hq)]; rfl
theorem rev_len (l : List Int) : l.reverse.length = l.length := List.length_reverse
/-- Numbers in order. -/
def srt (l : List Int) : List Int := l.mergeSort fun x y => decide (x ≤ y)
theorem srt_len (l : List Int) : (srt l).length = l.length := List.length_mergeSort l
theorem srt_perm (l : List Int) : (srt l).Perm l := List.mergeSort_perm l _
theorem srt_asc (l : List Int) : Asc (srt l) := by
  have := List.pairwise_mergeSort (le := fun x y : Int => decide (x ≤ y)) (fun a b c h1 h2 => by simp at *; omega) (fun a b => by simp; omega) l
  exact this.imp (fun h => by simpa using h)


theorem reverse_row (zs : List Int) (h : zs.length ≤ 1000) : RowFn Try.prog 44 zs (List.reverse zs) := ⟨fun w b off cap hH hb => (Try.slices_Reverse_int b off cap zs w hH (by omega)).mono fun e w2 ⟨he, n, hw⟩ => ⟨he, n, #[], by rw [Sort.grow_empty]; exact hw⟩, fun hl a cap w => Try.slices_Reverse_int_empty a cap w⟩
theorem reverse_V (T o m : Nat) (L : List Int) (hn : o + m ≤ L.length) (hb : L.length ≤ 1000) : MCalls Try.prog 44 false (some (.vw T o m (L.map (.int .i64)))) [] fun rs cs => rs = [] ∧ cs = (L.take o ++ List.reverse ((L.drop o).take m) ++ L.drop (o + m)).map (.int .i64) :=
  mcalls_vw (enters_of Try.func44 (by kernel_rfl) rfl) hn (by rw [rev_len, List.length_take, List.length_drop]; omega) (reverse_row _ (by rw [List.length_take, List.length_drop]; omega))
theorem reverse_O (L : List Int) (hb : L.length ≤ 1000) : MCalls Try.prog 44 false (some (.own 3 1 L.length (L.map (.int .i64)))) [] fun rs cs => rs = [] ∧ cs = (List.reverse L).map (.int .i64) :=
  mcalls_row (enters_of Try.func44 (by kernel_rfl) rfl) (rev_len _) (reverse_row _ hb)

theorem sort_row (zs : List Int) (h : zs.length ≤ 1000) : RowFn Try.prog 26 zs (srt zs) := ⟨fun w b off cap hH hb => (Try.slices_Sort_int b off cap zs w hH hb (by omega)).mono fun e w2 ⟨he, n, os, hw⟩ => ⟨he, n, os, hw⟩, fun hl a cap w => Try.slices_Sort_int_none a cap w⟩
theorem sort_V (T o m : Nat) (L : List Int) (hn : o + m ≤ L.length) (hb : L.length ≤ 1000) : MCalls Try.prog 26 false (some (.vw T o m (L.map (.int .i64)))) [] fun rs cs => rs = [] ∧ cs = (L.take o ++ srt ((L.drop o).take m) ++ L.drop (o + m)).map (.int .i64) :=
  mcalls_vw (enters_of Try.func26 (by kernel_rfl) rfl) hn (by rw [srt_len, List.length_take, List.length_drop]; omega) (sort_row _ (by rw [List.length_take, List.length_drop]; omega))
theorem sort_O (L : List Int) (hb : L.length ≤ 1000) : MCalls Try.prog 26 false (some (.own 3 1 L.length (L.map (.int .i64)))) [] fun rs cs => rs = [] ∧ cs = (srt L).map (.int .i64) :=
  mcalls_row (enters_of Try.func26 (by kernel_rfl) rfl) (srt_len _) (sort_row _ hb)

/-- An array of ten that begins with a list. -/
def arr (a : List Int) : List Int := a ++ List.replicate (10 - a.length) 0
theorem arr_len {a : List Int} (h : a.length ≤ 10) : (arr a).length = 10 := by simp [arr]; omega
theorem arr_at {a : List Int} {j : Nat} (h : j < a.length) : (arr a).getD j 0 = a.getD j 0 := by
  unfold arr
  rw [List.getD_eq_getElem?_getD, List.getElem?_append_left h, ← List.getD_eq_getElem?_getD]
/-- The sequence that comes next. -/
def NextOf (a b : List Int) : Prop := (Dsc a ∧ b = a.reverse) ∨ ∃ (P T1 T2 : List Int) (x y : Int), a = P ++ x :: (T1 ++ y :: T2) ∧ Dsc (T1 ++ y :: T2) ∧ x < y ∧ (∀ z ∈ T2, z ≤ x) ∧ b = P ++ y :: (T1 ++ x :: T2).reverse
theorem NextOf.perm {a b : List Int} (h : NextOf a b) : b.Perm a := by
  rcases h with ⟨_, rfl⟩ | ⟨P, T1, T2, x, y, rfl, _, _, _, rfl⟩
  · exact List.reverse_perm _
  · exact next_perm
theorem swpL_mid (P T1 R : List Int) (x y : Int) {p q : Nat} (hp : P.length = p) (hq : p + 1 + T1.length = q) : swpL (P ++ x :: (T1 ++ y :: R)) p q = P ++ y :: (T1 ++ x :: R) := by
  have e1 := gmid' P (T1 ++ y :: R) x hp
  have e2 : (P ++ x :: (T1 ++ y :: R)).getD q 0 = y := by
    rw [show P ++ x :: (T1 ++ y :: R) = (P ++ x :: T1) ++ y :: R by simp]
    exact gmid' _ _ _ (by simp [hp]; omega)
  unfold swpL
  rw [e1, e2, smid _ _ _ _ hp, show P ++ y :: (T1 ++ y :: R) = (P ++ y :: T1) ++ y :: R by simp, smid _ _ _ _ (by simp [hp]; omega)]
  simp
theorem dsc_step {a : List Int} {t : Nat} (h1 : 0 < t) (h2 : t < a.length) (hd : Dsc (a.drop t)) (hge : a.getD t 0 ≤ a.getD (t - 1) 0) : Dsc (a.drop (t - 1)) := by
  have e : a.drop (t - 1) = a.getD (t - 1) 0 :: a.drop t := by
    rw [List.drop_eq_getElem_cons (show t - 1 < a.length by omega), show t - 1 + 1 = t by omega, List.getD_eq_getElem?_getD, List.getElem?_eq_getElem (show t - 1 < a.length by omega)]; rfl
  have e2 : a.drop t = a.getD t 0 :: a.drop (t + 1) := by
    rw [List.drop_eq_getElem_cons h2, List.getD_eq_getElem?_getD, List.getElem?_eq_getElem h2]; rfl
  rw [e]
  refine List.pairwise_cons.2 ⟨fun z hz => ?_, hd⟩
  rw [e2] at hz hd
  rcases List.mem_cons.1 hz with e3 | e3
  · omega
  · have := (List.pairwise_cons.1 hd).1 z e3; omega
theorem dsc_last (a : List Int) : Dsc (a.drop (a.length - 1)) := by
  have : (a.drop (a.length - 1)).length ≤ 1 := by rw [List.length_drop]; omega
  rcases h : a.drop (a.length - 1) with _ | ⟨x, _ | ⟨y, r⟩⟩
  · exact List.Pairwise.nil
  · exact List.pairwise_cons.2 ⟨fun z hz => by simp at hz, List.Pairwise.nil⟩
  · rw [h] at this; simp at this
theorem ld10 {l : List Int} (h : l.length = 10) : List.take 10 (List.drop 0 (l.map (PV.int .i64))) = l.map (PV.int .i64) := List.take_of_length_le (by rw [List.drop_zero, List.length_map, h]; exact Nat.le_refl _)
theorem aft_end0 {a : List Int} (hd : Dsc a) {o m : Nat} (ho : o = 0) (hm : m = a.length) : ∃ b, NextOf a b ∧ ((arr a).take o ++ (((arr a).drop o).take m).reverse ++ (arr a).drop (o + m)) = arr b := by
  subst ho; subst hm
  refine ⟨a.reverse, .inl ⟨hd, rfl⟩, ?_⟩
  unfold arr
  rw [List.take_zero, List.nil_append, List.drop_zero, Nat.zero_add, List.take_left, List.drop_left, List.length_reverse]
theorem aft_gt {a : List Int} {t g o m : Nat} (ht : 0 < t) (htn : t < a.length) (hd : Dsc (a.drop t)) (hg1 : t ≤ g) (hg2 : g < a.length) (hgt : a.getD (t - 1) 0 < a.getD g 0) (hle : ∀ j, g < j → j < a.length → a.getD j 0 ≤ a.getD (t - 1) 0) (ho : o = t) (hm : m = a.length - t) :
    ∃ b, NextOf a b ∧ ((swpL (arr a) (t - 1) g).take o ++ (((swpL (arr a) (t - 1) g).drop o).take m).reverse ++ (swpL (arr a) (t - 1) g).drop (o + m)) = arr b := by
  subst ho; subst hm
  obtain ⟨P, x, T1, y, T2, ha, hP, hT1⟩ : ∃ P x T1 y T2, a = P ++ x :: (T1 ++ y :: T2) ∧ P.length = o - 1 ∧ T1.length = g - o := by
    refine ⟨a.take (o - 1), a.getD (o - 1) 0, (a.drop o).take (g - o), a.getD g 0, a.drop (g + 1), ?_, by rw [List.length_take]; omega, by rw [List.length_take, List.length_drop]; omega⟩
    have e1 : a.drop g = a.getD g 0 :: a.drop (g + 1) := by
      rw [List.drop_eq_getElem_cons hg2, List.getD_eq_getElem?_getD, List.getElem?_eq_getElem hg2]; rfl
    have e2 : a.drop o = (a.drop o).take (g - o) ++ a.drop g := by
      conv => lhs; rw [← List.take_append_drop (g - o) (a.drop o)]
      rw [List.drop_drop, show o + (g - o) = g by omega]
    have e3 : a.drop (o - 1) = a.getD (o - 1) 0 :: a.drop o := by
      rw [List.drop_eq_getElem_cons (show o - 1 < a.length by omega), show o - 1 + 1 = o by omega, List.getD_eq_getElem?_getD, List.getElem?_eq_getElem (show o - 1 < a.length by omega)]; rfl
    rw [← e1, ← e2, ← e3, List.take_append_drop]
  have hx : a.getD (o - 1) 0 = x := by rw [ha]; exact gmid' P _ x hP
  have hy : a.getD g 0 = y := by
    rw [ha, show P ++ x :: (T1 ++ y :: T2) = (P ++ x :: T1) ++ y :: T2 by simp]
    exact gmid' _ _ _ (by simp [hP, hT1]; omega)
  have hdr : a.drop o = T1 ++ y :: T2 := by
    rw [ha, show P ++ x :: (T1 ++ y :: T2) = (P ++ [x]) ++ (T1 ++ y :: T2) by simp, List.drop_left' (by simp [hP]; omega)]
  have hal : a.length = P.length + 1 + (T1.length + 1 + T2.length) := by rw [ha]; simp; omega
  have hT2 : ∀ z ∈ T2, z ≤ x := fun z hz => by
    obtain ⟨i, hi, rfl⟩ := List.getElem_of_mem hz
    have h1 := hle (g + 1 + i) (by omega) (by omega)
    have h2 : a.getD (g + 1 + i) 0 = T2[i] := by
      rw [ha, show P ++ x :: (T1 ++ y :: T2) = (P ++ x :: T1 ++ [y]) ++ T2 by simp, List.getD_eq_getElem?_getD, List.getElem?_append_right (by simp [hP, hT1]; omega)]
      rw [show g + 1 + i - (P ++ x :: T1 ++ [y]).length = i by simp [hP, hT1]; omega, List.getElem?_eq_getElem hi]; rfl
    rw [h2, hx] at h1; exact h1
  refine ⟨P ++ y :: (T1 ++ x :: T2).reverse, .inr ⟨P, T1, T2, x, y, ha, by rw [← hdr]; exact hd, by rw [← hx, ← hy]; exact hgt, hT2, rfl⟩, ?_⟩
  have hs : swpL (arr a) (o - 1) g = P ++ y :: (T1 ++ x :: (T2 ++ List.replicate (10 - a.length) 0)) := by
    have hap : ∀ z : List Int, a ++ z = P ++ x :: (T1 ++ y :: (T2 ++ z)) := fun z => by rw [ha]; simp
    unfold arr
    rw [hap]
    exact swpL_mid P T1 _ x y hP (by omega)
  rw [hs, show P ++ y :: (T1 ++ x :: (T2 ++ List.replicate (10 - a.length) (0 : Int))) = (P ++ [y]) ++ ((T1 ++ x :: T2) ++ List.replicate (10 - a.length) 0) by simp]
  have l1 : (P ++ [y]).length = o := by simp [hP]; omega
  have l2 : (T1 ++ x :: T2).length = a.length - o := by simp; omega
  rw [List.take_left' l1, List.drop_left' l1, List.take_left' l2, ← List.drop_drop, List.drop_left' l1, List.drop_left' l2]
  unfold arr
  simp [hal]
  congr 1
  omega

set_option maxRecDepth 8000 in
set_option maxHeartbeats 4000000 in
theorem impl_afterSequence (a : List Int) (h10 : a.length ≤ 10) : PCalls Try.prog 27 [.agg ((arr a).map (.int .i64)), .int .i64 (a.length : Nat)] (fun rs => ∃ b, NextOf a b ∧ rs = [.val (.agg ((arr b).map (.int .i64)))]) := by
  refine pcalls_of_code (n := 55) az Try.func27 (by kernel_rfl) rfl rfl (Nat.le_of_ble_eq_true rfl) (by intro t u h; simp [Try.f27] at h; obtain ⟨_, rfl⟩ := h <;> first | exact resTy_agg agg_50 (by decide)) ?_
  have hfl := flat_map (PV.int .i64) (fun _ => rfl) (arr a)
  rw [show inits false 0 [.agg ((arr a).map (.int .i64)), .int .i64 (a.length : Nat)] = [(0, SV.val (.agg ((arr a).map (.int .i64)))), (1, SV.val (.int .i64 (a.length : Nat)))] from by simp [inits, PV.start, PV.flat, hfl]]
  refine code_seq (fun K1 hK1 => ?_)
  refine code_region ?_
  refine list_cons rfl (op_box rfl (.inl ⟨rfl, hfl⟩) (by decide) (by decide) rfl ?_)
  refine list_cons rfl (op_alloc zt_50 (by decide) (by decide) rfl ?_)
  refine list_nil ?_
  refine hK1 _ ?_; clear hK1 K1
  refine code_seq (fun K2 hK2 => ?_)
  refine code_region ?_
  refine list_cons rfl (op_q (q_move rfl (by decide)) ?_)
  refine list_cons rfl (op_q (by first | exact q_subI rfl rfl (by decide) (by omega) (by omega) | exact q_ib rfl rfl rfl (by decide)) ?_)
  refine list_cons rfl (op_q (q_max rfl rfl (by decide)) ?_)
  refine list_cons rfl (op_q (q_assign rfl (by decide)) ?_)
  refine list_nil ?_
  refine hK2 _ ?_; clear hK2 K2
  refine code_seq (fun K3 hK3 => ?_)
  refine code_block ?_
  refine code_loop (X := Int) (fun x => [(0, .val (.agg ((arr a).map (.int .i64)))), (1, .val (.int .i64 (a.length : Nat))), (2, .box 2 50 ((arr a).map (.int .i64))), (4, .box 4 50 ((List.replicate 10 0).map (.int .i64))), (5, .val (.int .i64 x))]) (fun x => 0 ≤ x ∧ (x + 1 ≤ a.length ∨ x = 0) ∧ Dsc (a.drop x.toNat)) (fun x => x.toNat) (_) (imp_covers ⟨rfl, rfl, rfl, rfl, rfl, trivial⟩) ?_ ?_
  · (try dsimp only)
    have hm : (if (0 : Int) > (a.length : Int) - 1 then (0 : Int) else (a.length : Int) - 1) = ((a.length - 1 : Nat) : Int) := by split <;> omega
    rw [hm]
    exact ⟨by omega, by omega, by rw [Int.toNat_natCast]; exact dsc_last a⟩
  · intro x hI
    revert hI; revert x; intro tail hI
    replace hI : 0 ≤ tail ∧ (tail + 1 ≤ a.length ∨ tail = 0) ∧ Dsc (a.drop tail.toNat) := hI
    show codeT _ _ _ [(0, .val (.agg ((arr a).map (.int .i64)))), (1, .val (.int .i64 (a.length : Nat))), (2, .box 2 50 ((arr a).map (.int .i64))), (4, .box 4 50 ((List.replicate 10 0).map (.int .i64))), (5, .val (.int .i64 tail))] _
    obtain ⟨i1, i2, i3⟩ := hI
    have hv1 := fun h : 0 < tail => arr_at (a := a) (j := (tail - 1).toNat) (by omega)
    have hv2 := fun h : 0 < tail => arr_at (a := a) (j := tail.toNat) (by omega)
    refine code_seq (fun K4 hK4 => ?_)
    refine code_seq (fun K5 hK5 => ?_)
    refine code_draw (by kernel_rfl) (by kernel_rfl) ?_
    refine draw_q rfl (q_move rfl (by decide)) ?_
    refine draw_q rfl (q_gt rfl rfl (by decide)) ?_
    refine draw_q rfl (q_move rfl (by decide)) ?_
    refine draw_guard_d rfl rfl rfl rfl (by decide) rfl (by decide) (fun h1 => q_move rfl (by decide)) (fun h1 => ?_) (fun h1 => ?_)
    · simp only [Bool.false_eq_true, if_true, if_false, Decidable.not_not] at h1
      refine draw_guard_y rfl rfl rfl rfl (by decide) rfl (by first | exact q_subI rfl rfl (by decide) (by omega) (by omega) | exact q_ib rfl rfl rfl (by decide)) ?_
      refine draw_guard_y rfl rfl rfl rfl (by decide) rfl (q_indexAddr_arr arr_50 rfl rfl rfl (by omega) (by omega) (by decide)) ?_
      refine draw_guard_y rfl rfl rfl rfl (by decide) rfl (q_load one_3 2 rfl rfl rfl (by first | exact get_map1 (PV.int .i64) 0 (arr a) (k := (tail - 1).toNat) (by rw [arr_len h10]; omega) | exact get_map1 (PV.int .i64) 0 (arr a) (k := tail.toNat) (by rw [arr_len h10]; omega)) (by decide)) ?_
      refine draw_guard_y rfl rfl rfl rfl (by decide) rfl (q_move rfl (by decide)) ?_
      refine draw_guard_y rfl rfl rfl rfl (by decide) rfl (q_indexAddr_arr arr_50 rfl rfl rfl (by omega) (by omega) (by decide)) ?_
      refine draw_guard_y rfl rfl rfl rfl (by decide) rfl (q_load one_3 2 rfl rfl rfl (by first | exact get_map1 (PV.int .i64) 0 (arr a) (k := (tail - 1).toNat) (by rw [arr_len h10]; omega) | exact get_map1 (PV.int .i64) 0 (arr a) (k := tail.toNat) (by rw [arr_len h10]; omega)) (by decide)) ?_
      refine draw_guard_y rfl rfl rfl rfl (by decide) rfl (q_ge rfl rfl (by decide)) ?_
      refine draw_q rfl (q_pick rfl rfl (by decide)) ?_
      refine draw_nil ?_
      refine hK5 _ ?_; clear hK5 K5
      refine codeT.imp (σ' := [(0, _), (1, _), (2, _), (4, _), (5, _), (21, _)]) ?_ (imp_covers ⟨rfl, rfl, rfl, rfl, rfl, rfl, trivial⟩)
      refine code_cond_d rfl (fun h2 => ?_) (fun h2 => ?_)
      · skip
        (try simp only [Decidable.not_not] at h2)
        refine code_skip ?_
        refine hK4 _ ?_; clear hK4 K4
        refine code_block ?_
        refine code_region ?_
        refine list_cons rfl (op_q (q_move rfl (by decide)) ?_)
        refine list_cons rfl (op_q (by first | exact q_subI rfl rfl (by decide) (by omega) (by omega) | exact q_ib rfl rfl rfl (by decide)) ?_)
        refine list_cons rfl (op_q (q_assign rfl (by decide)) ?_)
        refine list_nil ?_
        refine blk_n ?_
        refine then_n ⟨(_), imp_covers ⟨rfl, rfl, rfl, rfl, rfl, trivial⟩, ?_, ?_⟩
        · (try dsimp only)
          (have e1 := hv1 (by omega); have e2 := hv2 (by omega); have hx := h2; rw [e1, e2] at hx; exact ⟨by omega, by omega, by rw [show (tail - 1).toNat = tail.toNat - 1 by omega] at hx ⊢; exact dsc_step (by omega) (by omega) i3 (by omega)⟩)
        · (try dsimp only); omega
      (try simp only [Decidable.not_not] at h2)
      refine code_exit ?_
      refine then_x ?_; clear hK4 K4
      refine then_x ?_
      refine blk_hit ?_
      refine hK3 _ ?_; clear hK3 K3
      refine code_seq (fun K6 hK6 => ?_)
      refine code_seq (fun K7 hK7 => ?_)
      refine code_region ?_
      refine list_cons rfl (op_q (q_move rfl (by decide)) ?_)
      refine list_cons rfl (op_q (q_gt rfl rfl (by decide)) ?_)
      refine list_nil ?_
      refine hK7 _ ?_; clear hK7 K7
      refine code_cond_d rfl (fun h3 => ?_) (fun h3 => ?_)
      · skip
        (try simp only [Decidable.not_not] at h3)
        refine code_seq (fun K8 hK8 => ?_)
        refine code_region ?_
        refine list_cons rfl (op_q (q_move rfl (by decide)) ?_)
        refine list_cons rfl (op_q (by first | exact q_subI rfl rfl (by decide) (by omega) (by omega) | exact q_ib rfl rfl rfl (by decide)) ?_)
        refine list_cons rfl (op_q (q_assign rfl (by decide)) ?_)
        refine list_nil ?_
        refine hK8 _ ?_; clear hK8 K8
        refine code_seq (fun K9 hK9 => ?_)
        refine code_block ?_
        refine code_loop (X := Int) (fun x => [(0, .val (.agg ((arr a).map (.int .i64)))), (1, .val (.int .i64 (a.length : Nat))), (2, .box 2 50 ((arr a).map (.int .i64))), (4, .box 4 50 ((List.replicate 10 0).map (.int .i64))), (5, .val (.int .i64 tail)), (6, .val (.int .i64 x))]) (fun x => 0 < tail ∧ tail ≤ x ∧ x + 1 ≤ a.length ∧ a.getD (tail.toNat - 1) 0 < a.getD tail.toNat 0 ∧ ∀ j, x.toNat < j → j < a.length → a.getD j 0 ≤ a.getD (tail.toNat - 1) 0) (fun x => x.toNat) (_) (imp_covers ⟨rfl, rfl, rfl, rfl, rfl, rfl, trivial⟩) ?_ ?_
        · (try dsimp only)
          first
            | (exfalso; omega)
            | (have e1 := hv1 (by omega); have e2 := hv2 (by omega)
               have hx : ¬ (arr a).getD (tail - 1).toNat 0 ≥ (arr a).getD tail.toNat 0 := (by assumption)
               rw [e1, e2, show (tail - 1).toNat = tail.toNat - 1 by omega] at hx
               exact ⟨by omega, by omega, by omega, by omega, fun j h1 h2 => by omega⟩)
        · intro x hI
          revert hI; revert x; intro greater hI
          replace hI : 0 < tail ∧ tail ≤ greater ∧ greater + 1 ≤ a.length ∧ a.getD (tail.toNat - 1) 0 < a.getD tail.toNat 0 ∧ ∀ j, greater.toNat < j → j < a.length → a.getD j 0 ≤ a.getD (tail.toNat - 1) 0 := hI
          show codeT _ _ _ [(0, .val (.agg ((arr a).map (.int .i64)))), (1, .val (.int .i64 (a.length : Nat))), (2, .box 2 50 ((arr a).map (.int .i64))), (4, .box 4 50 ((List.replicate 10 0).map (.int .i64))), (5, .val (.int .i64 tail)), (6, .val (.int .i64 greater))] _
          obtain ⟨g1, g2, g3, g4, g5⟩ := hI
          have hv3 := arr_at (a := a) (j := greater.toNat) (by omega)
          have hv4 := arr_at (a := a) (j := (tail - 1).toNat) (by omega)
          refine code_seq (fun K10 hK10 => ?_)
          refine code_seq (fun K11 hK11 => ?_)
          refine code_draw (by kernel_rfl) (by kernel_rfl) ?_
          refine draw_q rfl (q_move rfl (by decide)) ?_
          refine draw_q rfl (q_indexAddr_arr arr_50 rfl rfl rfl (by omega) (by omega) (by decide)) ?_
          refine draw_q rfl (q_load one_3 2 rfl rfl rfl (by first | exact get_map1 (PV.int .i64) 0 (arr a) (k := greater.toNat) (by rw [arr_len h10]; omega) | exact get_map1 (PV.int .i64) 0 (arr a) (k := (tail - 1).toNat) (by rw [arr_len h10]; omega)) (by decide)) ?_
          refine draw_q rfl (q_move rfl (by decide)) ?_
          refine draw_q rfl (by first | exact q_subI rfl rfl (by decide) (by omega) (by omega) | exact q_ib rfl rfl rfl (by decide)) ?_
          refine draw_q rfl (q_indexAddr_arr arr_50 rfl rfl rfl (by omega) (by omega) (by decide)) ?_
          refine draw_q rfl (q_load one_3 2 rfl rfl rfl (by first | exact get_map1 (PV.int .i64) 0 (arr a) (k := greater.toNat) (by rw [arr_len h10]; omega) | exact get_map1 (PV.int .i64) 0 (arr a) (k := (tail - 1).toNat) (by rw [arr_len h10]; omega)) (by decide)) ?_
          refine draw_q rfl (q_le rfl rfl (by decide)) ?_
          refine draw_nil ?_
          refine hK11 _ ?_; clear hK11 K11
          refine codeT.imp (σ' := [(0, _), (1, _), (2, _), (4, _), (5, _), (6, _), (35, _)]) ?_ (imp_covers ⟨rfl, rfl, rfl, rfl, rfl, rfl, rfl, trivial⟩)
          refine code_cond_d rfl (fun h4 => ?_) (fun h4 => ?_)
          · skip
            (try simp only [Decidable.not_not] at h4)
            refine code_skip ?_
            refine hK10 _ ?_; clear hK10 K10
            refine code_block ?_
            refine code_region ?_
            refine list_cons rfl (op_q (q_move rfl (by decide)) ?_)
            refine list_cons rfl (op_q (by first | exact q_subI rfl rfl (by decide) (by omega) (by omega) | exact q_ib rfl rfl rfl (by decide)) ?_)
            refine list_cons rfl (op_q (q_assign rfl (by decide)) ?_)
            refine list_nil ?_
            refine blk_n ?_
            refine then_n ⟨(_), imp_covers ⟨rfl, rfl, rfl, rfl, rfl, rfl, trivial⟩, ?_, ?_⟩
            · (try dsimp only)
              have hx := h4
              rw [hv3, hv4, show (tail - 1).toNat = tail.toNat - 1 by omega] at hx
              have hne : greater ≠ tail := fun e => by rw [e] at hx; omega
              refine ⟨g1, by omega, by omega, g4, fun j h1 h2 => ?_⟩
              by_cases e : j = greater.toNat
              · subst e; exact hx
              · exact g5 j (by omega) h2
            · (try dsimp only); omega
          (try simp only [Decidable.not_not] at h4)
          refine code_exit ?_
          refine then_x ?_; clear hK10 K10
          refine then_x ?_
          refine blk_hit ?_
          refine hK9 _ ?_; clear hK9 K9
          refine any_start fun ob1_0 => ?_
          refine any_op (rd := [5]) ob1_0 rfl rfl rfl (anyT_quiet [(5, _)] ⟨rfl, trivial⟩ rfl (q_move rfl (by decide))) (fun ob1_1 => ?_)
          simp only [List.cons_append, List.nil_append] at ob1_1
          refine any_op (rd := [38]) ob1_1 rfl rfl rfl (anyT_quiet [(38, _)] ⟨rfl, trivial⟩ rfl (by first | exact q_subI rfl rfl (by decide) (by omega) (by omega) | exact q_ib rfl rfl rfl (by decide))) (fun ob1_2 => ?_)
          simp only [List.cons_append, List.nil_append] at ob1_2
          refine any_op (rd := [6]) ob1_2 rfl rfl rfl (anyT_quiet [(6, _)] ⟨rfl, trivial⟩ rfl (q_move rfl (by decide))) (fun ob1_3 => ?_)
          simp only [List.cons_append, List.nil_append] at ob1_3
          refine any_op (rd := [6]) ob1_3 rfl rfl rfl (anyT_quiet [(6, _)] ⟨rfl, trivial⟩ rfl (q_move rfl (by decide))) (fun ob1_4 => ?_)
          simp only [List.cons_append, List.nil_append] at ob1_4
          refine any_op (rd := [2, 41]) ob1_4 rfl rfl rfl (anyT_quiet [(2, _), (41, _)] ⟨rfl, rfl, trivial⟩ rfl (q_indexAddr_arr arr_50 rfl rfl rfl (by omega) (by omega) (by decide))) (fun ob1_5 => ?_)
          simp only [List.cons_append, List.nil_append] at ob1_5
          refine any_op (rd := [42, 2]) ob1_5 rfl rfl rfl (anyT_quiet [(42, _), (2, _)] ⟨rfl, rfl, trivial⟩ rfl (q_load one_3 2 rfl rfl rfl (by first | exact get_map1 (PV.int .i64) 0 (arr a) (k := greater.toNat) (by rw [arr_len h10]; omega) | exact get_map1 (PV.int .i64) 0 (arr a) (k := (tail - 1).toNat) (by rw [arr_len h10]; omega)) (by decide))) (fun ob1_6 => ?_)
          simp only [List.cons_append, List.nil_append] at ob1_6
          refine any_op (rd := [5]) ob1_6 rfl rfl rfl (anyT_quiet [(5, _)] ⟨rfl, trivial⟩ rfl (q_move rfl (by decide))) (fun ob1_7 => ?_)
          simp only [List.cons_append, List.nil_append] at ob1_7
          refine any_op (rd := [44]) ob1_7 rfl rfl rfl (anyT_quiet [(44, _)] ⟨rfl, trivial⟩ rfl (by first | exact q_subI rfl rfl (by decide) (by omega) (by omega) | exact q_ib rfl rfl rfl (by decide))) (fun ob1_8 => ?_)
          simp only [List.cons_append, List.nil_append] at ob1_8
          refine any_op (rd := [2, 45]) ob1_8 rfl rfl rfl (anyT_quiet [(2, _), (45, _)] ⟨rfl, rfl, trivial⟩ rfl (q_indexAddr_arr arr_50 rfl rfl rfl (by omega) (by omega) (by decide))) (fun ob1_9 => ?_)
          simp only [List.cons_append, List.nil_append] at ob1_9
          refine any_op (rd := [46, 2]) ob1_9 rfl rfl rfl (anyT_quiet [(46, _), (2, _)] ⟨rfl, rfl, trivial⟩ rfl (q_load one_3 2 rfl rfl rfl (by first | exact get_map1 (PV.int .i64) 0 (arr a) (k := greater.toNat) (by rw [arr_len h10]; omega) | exact get_map1 (PV.int .i64) 0 (arr a) (k := (tail - 1).toNat) (by rw [arr_len h10]; omega)) (by decide))) (fun ob1_10 => ?_)
          simp only [List.cons_append, List.nil_append] at ob1_10
          refine any_op (rd := [2, 39]) ob1_10 rfl rfl rfl (anyT_quiet [(2, _), (39, _)] ⟨rfl, rfl, trivial⟩ rfl (q_indexAddr_arr arr_50 rfl rfl rfl (by omega) (by omega) (by decide))) (fun ob1_11 => ?_)
          simp only [List.cons_append, List.nil_append] at ob1_11
          refine any_st (rd := [2, 42, 43, 46, 48]) ob1_11 rfl rfl (fun σ hag hfr => by have e2 : σ.at 2 = some _ := (hag 2 (by decide)).trans rfl; have e42 : σ.at 42 = some _ := (hag 42 (by decide)).trans rfl; have e43 : σ.at 43 = some _ := (hag 43 (by decide)).trans rfl; have e46 : σ.at 46 = some _ := (hag 46 (by decide)).trans rfl; have e48 : σ.at 48 = some _ := (hag 48 (by decide)).trans rfl; exact opT.mono (op_store (one_3).2 2 [2] (by intro t ht; simp only [List.mem_cons, List.not_mem_nil, or_false] at ht; subst ht; exact e2) (.inl e48) e2 rfl e43 rfl rfl rfl (by first | (rw [List.length_map, arr_len h10]; omega) | (unfold putAt; simp [arr_len h10]; omega)) (by decide) rfl rfl) (fun σ2 h2 => by subst h2; exact post_updA (L := 2) [42, 46, 48] e2 (by intro h hm; simp only [List.mem_cons, List.not_mem_nil, or_false] at hm; rcases hm with rfl | rfl | rfl <;> exact ⟨_, by assumption⟩) rfl hfr)) (fun ob1_12 => ?_)
          simp only [List.cons_append, List.nil_append] at ob1_12
          refine any_end [[], [0], [], [], [3], [3, 4], [], [6], [6, 7], [6, 7, 8], [0, 1, 3, 4, 5, 6, 7, 8, 9], [0, 1, 3, 4, 5, 6, 7, 8, 9, 10], [0, 1, 2, 3, 4, 5, 6, 7, 8, 9, 10, 11], [0, 1, 2, 3, 4, 5, 6, 7, 8, 9, 10, 11, 12]] ob1_12 (by kernel_rfl) (Nat.le_of_ble_eq_true rfl) (by decide) (by decide) (by kernel_rfl) (by kernel_rfl) (by kernel_rfl) (by kernel_rfl) (by kernel_rfl) ?_
          clear ob1_0 ob1_1 ob1_2 ob1_3 ob1_4 ob1_5 ob1_6 ob1_7 ob1_8 ob1_9 ob1_10 ob1_11 ob1_12
          refine listT.imp (σ' := [(0, _), (1, _), (2, _), (4, _), (5, _), (6, _), (35, _), (38, _), (39, _), (40, _), (41, _), (42, _), (43, _), (44, _), (45, _), (46, _), (47, _), (48, _)]) ?_ (imp_covers ⟨rfl, rfl, rfl, rfl, rfl, rfl, rfl, rfl, rfl, rfl, rfl, rfl, rfl, rfl, rfl, rfl, rfl, rfl, trivial⟩)
          refine list_cons rfl (op_q (q_indexAddr_arr arr_50 rfl rfl rfl (by omega) (by omega) (by decide)) ?_)
          refine list_cons rfl (op_store (one_3).2 2 [2] (by intro t ht; simp only [List.mem_cons, List.not_mem_nil, or_false] at ht; subst ht; rfl) (.inl rfl) rfl rfl rfl rfl rfl rfl (by first | (rw [List.length_map, arr_len h10]; omega) | (unfold putAt; simp [arr_len h10]; omega)) (by decide) rfl ?_)
          refine list_nil ?_
          refine hK6 _ ?_; clear hK6 K6
          refine codeT.imp (σ' := [(0, _), (1, _), (2, .box 2 50 ((swpL (arr a) (tail - 1).toNat greater.toNat).map (.int .i64))), (4, _), (5, _), (6, _)]) ?_ (imp_covers ⟨rfl, rfl, (congrArg (fun z => some (SV.box 2 50 z)) (put2_swp (by rw [arr_len h10]; omega) (by rw [arr_len h10]; omega) (Nat.mul_one _) (Nat.mul_one _) rfl rfl)), rfl, rfl, rfl, trivial⟩)
          refine code_seq (fun K12 hK12 => ?_)
          refine code_region ?_
          refine list_cons rfl (op_q (q_move rfl (by decide)) ?_)
          refine list_cons rfl (op_q (q_move rfl (by decide)) ?_)
          refine list_cons rfl (op_q (q_sliceBox Try.underlying50 one_3.2 rfl ⟨_, rfl⟩ ⟨_, rfl⟩ (by omega) (by omega) (by omega) (by decide)) ?_)
          refine listT.imp ?_ (imp_vbox (h := 2) (x := 52) rfl rfl)
          refine list_cons rfl (op_callM (reverse_V _ _ _ _ ?_ ?_) (.tmp 52) 2 [52] [] _ rfl rfl (by intro y hy; cases hy; exact ⟨rfl, (by intro t ht; simp only [List.mem_cons, List.not_mem_nil, or_false] at ht; subst ht; rfl), (by intro s hs; simp only [List.mem_cons, List.not_mem_nil, or_false] at hs; (try cases hs))⟩) (by decide) (by decide) (by decide) rfl (fun _ => rfl) ?_)
          · (simp [swpL_len, arr_len h10]; omega)
          · (simp [swpL_len, arr_len h10])
          rintro _ _ ⟨rfl, rfl⟩
          refine listT.imp ?_ (imp_unvbox (h := 2) (x := 52) rfl rfl)
          refine list_nil ?_
          refine hK12 _ ?_; clear hK12 K12
          refine codeT.imp (σ' := [(0, _), (1, _), (2, _), (4, _), (5, _), (6, _)]) ?_ (imp_covers ⟨rfl, rfl, rfl, rfl, rfl, rfl, trivial⟩)
          refine code_seq (fun K13 hK13 => ?_)
          refine code_region ?_
          refine list_cons rfl (op_q (q_cast (q_load_agg agg_50 2 (.inr ⟨rfl, _, rfl⟩) rfl rfl (by simp [swpL_len, arr_len h10]; omega) (by first | rfl | exact flat_part (flat_map _ (fun _ => rfl) _) _ _) (by decide)) (congrArg (fun z => SV.val (PV.agg z)) (ld10 (by simp [swpL_len, arr_len h10]; omega)))) ?_)
          refine list_cons rfl (op_store (agg_50).2 4 [4] (by intro t ht; simp only [List.mem_cons, List.not_mem_nil, or_false] at ht; subst ht; rfl) (.inr ⟨rfl, _, rfl⟩) rfl rfl rfl rfl (by first | rfl | exact flat_part (flat_map _ (fun _ => rfl) _) _ _ | exact flat_map _ (fun _ => rfl) _) (by first | rfl | (simp [PV.cells, swpL_len, arr_len h10]; omega)) (by decide) (by decide) rfl ?_)
          refine list_nil ?_
          refine hK13 _ ?_; clear hK13 K13
          refine codeT.imp (σ' := [(0, _), (1, _), (2, _), (4, .box 4 50 _), (5, _), (6, _)]) ?_ (imp_covers ⟨rfl, rfl, rfl, (congrArg (fun z => some (SV.box 4 50 z)) (put_all8 (n := 10) rfl (by simp [swpL_len, arr_len h10]; omega))), rfl, rfl, trivial⟩)
          refine code_ret ?_
          refine ends_ret (cs := []) (res_agg8 rfl rfl (flat_map _ (fun _ => rfl) _) (by show _ = 10; simp [swpL_len, arr_len h10]; omega)) rfl rfl rfl trivial ?_
          first
            | (have hx : ¬ (arr a).getD greater.toNat 0 ≤ (arr a).getD (tail - 1).toNat 0 := (by assumption)
               rw [hv3, hv4] at hx
               have e0 : (tail - 1).toNat = tail.toNat - 1 := by omega
               obtain ⟨b, hb1, hb2⟩ := aft_gt (a := a) (t := tail.toNat) (g := greater.toNat) (o := tail.toNat) (m := (a.length : Int).toNat - tail.toNat) (by omega) (by omega) i3 (by omega) (by omega) (by rw [← e0]; omega) g5 rfl (by omega)
               rw [← e0] at hb2
               exact ⟨b, hb1, by rw [hb2]⟩)
            | (have ht : tail.toNat = 0 := by omega
               obtain ⟨b, hb1, hb2⟩ := aft_end0 (a := a) (o := tail.toNat) (m := (a.length : Int).toNat - tail.toNat) (by rw [ht] at i3; exact i3) ht (by omega)
               exact ⟨b, hb1, by rw [hb2]⟩)
            | (exfalso
               have hx : ¬ (arr a).getD (tail - 1).toNat 0 ≥ (arr a).getD tail.toNat 0 := (by assumption)
               omega)
      (try simp only [Decidable.not_not] at h3)
      refine code_skip ?_
      refine hK6 _ ?_; clear hK6 K6
      refine code_seq (fun K14 hK14 => ?_)
      refine code_region ?_
      refine list_cons rfl (op_q (q_move rfl (by decide)) ?_)
      refine list_cons rfl (op_q (q_move rfl (by decide)) ?_)
      refine list_cons rfl (op_q (q_sliceBox Try.underlying50 one_3.2 rfl ⟨_, rfl⟩ ⟨_, rfl⟩ (by omega) (by omega) (by omega) (by decide)) ?_)
      refine listT.imp ?_ (imp_vbox (h := 2) (x := 52) rfl rfl)
      refine list_cons rfl (op_callM (reverse_V _ _ _ _ ?_ ?_) (.tmp 52) 2 [52] [] _ rfl rfl (by intro y hy; cases hy; exact ⟨rfl, (by intro t ht; simp only [List.mem_cons, List.not_mem_nil, or_false] at ht; subst ht; rfl), (by intro s hs; simp only [List.mem_cons, List.not_mem_nil, or_false] at hs; (try cases hs))⟩) (by decide) (by decide) (by decide) rfl (fun _ => rfl) ?_)
      · (simp [swpL_len, arr_len h10]; omega)
      · (simp [swpL_len, arr_len h10])
      rintro _ _ ⟨rfl, rfl⟩
      refine listT.imp ?_ (imp_unvbox (h := 2) (x := 52) rfl rfl)
      refine list_nil ?_
      refine hK14 _ ?_; clear hK14 K14
      refine codeT.imp (σ' := [(0, _), (1, _), (2, _), (4, _), (5, _)]) ?_ (imp_covers ⟨rfl, rfl, rfl, rfl, rfl, trivial⟩)
      refine code_seq (fun K15 hK15 => ?_)
      refine code_region ?_
      refine list_cons rfl (op_q (q_cast (q_load_agg agg_50 2 (.inr ⟨rfl, _, rfl⟩) rfl rfl (by simp [swpL_len, arr_len h10]; omega) (by first | rfl | exact flat_part (flat_map _ (fun _ => rfl) _) _ _) (by decide)) (congrArg (fun z => SV.val (PV.agg z)) (ld10 (by simp [swpL_len, arr_len h10]; omega)))) ?_)
      refine list_cons rfl (op_store (agg_50).2 4 [4] (by intro t ht; simp only [List.mem_cons, List.not_mem_nil, or_false] at ht; subst ht; rfl) (.inr ⟨rfl, _, rfl⟩) rfl rfl rfl rfl (by first | rfl | exact flat_part (flat_map _ (fun _ => rfl) _) _ _ | exact flat_map _ (fun _ => rfl) _) (by first | rfl | (simp [PV.cells, swpL_len, arr_len h10]; omega)) (by decide) (by decide) rfl ?_)
      refine list_nil ?_
      refine hK15 _ ?_; clear hK15 K15
      refine codeT.imp (σ' := [(0, _), (1, _), (2, _), (4, .box 4 50 _), (5, _)]) ?_ (imp_covers ⟨rfl, rfl, rfl, (congrArg (fun z => some (SV.box 4 50 z)) (put_all8 (n := 10) rfl (by simp [swpL_len, arr_len h10]; omega))), rfl, trivial⟩)
      refine code_ret ?_
      refine ends_ret (cs := []) (res_agg8 rfl rfl (flat_map _ (fun _ => rfl) _) (by show _ = 10; simp [swpL_len, arr_len h10]; omega)) rfl rfl rfl trivial ?_
      first
        | (have hx : ¬ (arr a).getD greater.toNat 0 ≤ (arr a).getD (tail - 1).toNat 0 := (by assumption)
           rw [hv3, hv4] at hx
           have e0 : (tail - 1).toNat = tail.toNat - 1 := by omega
           obtain ⟨b, hb1, hb2⟩ := aft_gt (a := a) (t := tail.toNat) (g := greater.toNat) (o := tail.toNat) (m := (a.length : Int).toNat - tail.toNat) (by omega) (by omega) i3 (by omega) (by omega) (by rw [← e0]; omega) g5 rfl (by omega)
           rw [← e0] at hb2
           exact ⟨b, hb1, by rw [hb2]⟩)
        | (have ht : tail.toNat = 0 := by omega
           obtain ⟨b, hb1, hb2⟩ := aft_end0 (a := a) (o := tail.toNat) (m := (a.length : Int).toNat - tail.toNat) (by rw [ht] at i3; exact i3) ht (by omega)
           exact ⟨b, hb1, by rw [hb2]⟩)
        | (exfalso
           have hx : ¬ (arr a).getD (tail - 1).toNat 0 ≥ (arr a).getD tail.toNat 0 := (by assumption)
           omega)
    simp only [Bool.false_eq_true, if_true, if_false, Decidable.not_not] at h1
    refine draw_guard_n rfl rfl rfl rfl (by decide) rfl ?_
    refine draw_guard_n rfl rfl rfl rfl (by decide) rfl ?_
    refine draw_guard_n rfl rfl rfl rfl (by decide) rfl ?_
    refine draw_guard_n rfl rfl rfl rfl (by decide) rfl ?_
    refine draw_guard_n rfl rfl rfl rfl (by decide) rfl ?_
    refine draw_guard_n rfl rfl rfl rfl (by decide) rfl ?_
    refine draw_guard_n rfl rfl rfl rfl (by decide) rfl ?_
    refine draw_q rfl (q_pick rfl rfl (by decide)) ?_
    refine draw_nil ?_
    refine hK5 _ ?_; clear hK5 K5
    refine code_cond_f rfl ?_
    refine code_exit ?_
    refine then_x ?_; clear hK4 K4
    refine then_x ?_
    refine blk_hit ?_
    refine hK3 _ ?_; clear hK3 K3
    refine code_seq (fun K16 hK16 => ?_)
    refine code_seq (fun K17 hK17 => ?_)
    refine code_region ?_
    refine list_cons rfl (op_q (q_move rfl (by decide)) ?_)
    refine list_cons rfl (op_q (q_gt rfl rfl (by decide)) ?_)
    refine list_nil ?_
    refine hK17 _ ?_; clear hK17 K17
    refine code_cond_d rfl (fun h5 => ?_) (fun h5 => ?_)
    · skip
      (try simp only [Decidable.not_not] at h5)
      refine code_seq (fun K18 hK18 => ?_)
      refine code_region ?_
      refine list_cons rfl (op_q (q_move rfl (by decide)) ?_)
      refine list_cons rfl (op_q (by first | exact q_subI rfl rfl (by decide) (by omega) (by omega) | exact q_ib rfl rfl rfl (by decide)) ?_)
      refine list_cons rfl (op_q (q_assign rfl (by decide)) ?_)
      refine list_nil ?_
      refine hK18 _ ?_; clear hK18 K18
      refine codeT.imp (σ' := [(0, _), (1, _), (2, _), (4, _), (5, _), (6, _)]) ?_ (imp_covers ⟨rfl, rfl, rfl, rfl, rfl, rfl, trivial⟩)
      refine code_seq (fun K19 hK19 => ?_)
      refine code_block ?_
      refine code_loop (X := Int) (fun x => [(0, .val (.agg ((arr a).map (.int .i64)))), (1, .val (.int .i64 (a.length : Nat))), (2, .box 2 50 ((arr a).map (.int .i64))), (4, .box 4 50 ((List.replicate 10 0).map (.int .i64))), (5, .val (.int .i64 tail)), (6, .val (.int .i64 x))]) (fun x => 0 < tail ∧ tail ≤ x ∧ x + 1 ≤ a.length ∧ a.getD (tail.toNat - 1) 0 < a.getD tail.toNat 0 ∧ ∀ j, x.toNat < j → j < a.length → a.getD j 0 ≤ a.getD (tail.toNat - 1) 0) (fun x => x.toNat) (_) (imp_covers ⟨rfl, rfl, rfl, rfl, rfl, rfl, trivial⟩) ?_ ?_
      · (try dsimp only)
        first
          | (exfalso; omega)
          | (have e1 := hv1 (by omega); have e2 := hv2 (by omega)
             have hx : ¬ (arr a).getD (tail - 1).toNat 0 ≥ (arr a).getD tail.toNat 0 := (by assumption)
             rw [e1, e2, show (tail - 1).toNat = tail.toNat - 1 by omega] at hx
             exact ⟨by omega, by omega, by omega, by omega, fun j h1 h2 => by omega⟩)
      · intro x hI
        revert hI; revert x; intro greater hI
        replace hI : 0 < tail ∧ tail ≤ greater ∧ greater + 1 ≤ a.length ∧ a.getD (tail.toNat - 1) 0 < a.getD tail.toNat 0 ∧ ∀ j, greater.toNat < j → j < a.length → a.getD j 0 ≤ a.getD (tail.toNat - 1) 0 := hI
        show codeT _ _ _ [(0, .val (.agg ((arr a).map (.int .i64)))), (1, .val (.int .i64 (a.length : Nat))), (2, .box 2 50 ((arr a).map (.int .i64))), (4, .box 4 50 ((List.replicate 10 0).map (.int .i64))), (5, .val (.int .i64 tail)), (6, .val (.int .i64 greater))] _
        obtain ⟨g1, g2, g3, g4, g5⟩ := hI
        have hv3 := arr_at (a := a) (j := greater.toNat) (by omega)
        have hv4 := arr_at (a := a) (j := (tail - 1).toNat) (by omega)
        refine code_seq (fun K20 hK20 => ?_)
        refine code_seq (fun K21 hK21 => ?_)
        refine code_draw (by kernel_rfl) (by kernel_rfl) ?_
        refine draw_q rfl (q_move rfl (by decide)) ?_
        refine draw_q rfl (q_indexAddr_arr arr_50 rfl rfl rfl (by omega) (by omega) (by decide)) ?_
        refine draw_q rfl (q_load one_3 2 rfl rfl rfl (by first | exact get_map1 (PV.int .i64) 0 (arr a) (k := greater.toNat) (by rw [arr_len h10]; omega) | exact get_map1 (PV.int .i64) 0 (arr a) (k := (tail - 1).toNat) (by rw [arr_len h10]; omega)) (by decide)) ?_
        refine draw_q rfl (q_move rfl (by decide)) ?_
        refine draw_q rfl (by first | exact q_subI rfl rfl (by decide) (by omega) (by omega) | exact q_ib rfl rfl rfl (by decide)) ?_
        refine draw_q rfl (q_indexAddr_arr arr_50 rfl rfl rfl (by omega) (by omega) (by decide)) ?_
        refine draw_q rfl (q_load one_3 2 rfl rfl rfl (by first | exact get_map1 (PV.int .i64) 0 (arr a) (k := greater.toNat) (by rw [arr_len h10]; omega) | exact get_map1 (PV.int .i64) 0 (arr a) (k := (tail - 1).toNat) (by rw [arr_len h10]; omega)) (by decide)) ?_
        refine draw_q rfl (q_le rfl rfl (by decide)) ?_
        refine draw_nil ?_
        refine hK21 _ ?_; clear hK21 K21
        refine codeT.imp (σ' := [(0, _), (1, _), (2, _), (4, _), (5, _), (6, _), (35, _)]) ?_ (imp_covers ⟨rfl, rfl, rfl, rfl, rfl, rfl, rfl, trivial⟩)
        refine code_cond_d rfl (fun h6 => ?_) (fun h6 => ?_)
        · skip
          (try simp only [Decidable.not_not] at h6)
          refine code_skip ?_
          refine hK20 _ ?_; clear hK20 K20
          refine code_block ?_
          refine code_region ?_
          refine list_cons rfl (op_q (q_move rfl (by decide)) ?_)
          refine list_cons rfl (op_q (by first | exact q_subI rfl rfl (by decide) (by omega) (by omega) | exact q_ib rfl rfl rfl (by decide)) ?_)
          refine list_cons rfl (op_q (q_assign rfl (by decide)) ?_)
          refine list_nil ?_
          refine blk_n ?_
          refine then_n ⟨(_), imp_covers ⟨rfl, rfl, rfl, rfl, rfl, rfl, trivial⟩, ?_, ?_⟩
          · (try dsimp only)
            have hx := h6
            rw [hv3, hv4, show (tail - 1).toNat = tail.toNat - 1 by omega] at hx
            have hne : greater ≠ tail := fun e => by rw [e] at hx; omega
            refine ⟨g1, by omega, by omega, g4, fun j h1 h2 => ?_⟩
            by_cases e : j = greater.toNat
            · subst e; exact hx
            · exact g5 j (by omega) h2
          · (try dsimp only); omega
        (try simp only [Decidable.not_not] at h6)
        refine code_exit ?_
        refine then_x ?_; clear hK20 K20
        refine then_x ?_
        refine blk_hit ?_
        refine hK19 _ ?_; clear hK19 K19
        refine any_start fun ob2_0 => ?_
        refine any_op (rd := [5]) ob2_0 rfl rfl rfl (anyT_quiet [(5, _)] ⟨rfl, trivial⟩ rfl (q_move rfl (by decide))) (fun ob2_1 => ?_)
        simp only [List.cons_append, List.nil_append] at ob2_1
        refine any_op (rd := [38]) ob2_1 rfl rfl rfl (anyT_quiet [(38, _)] ⟨rfl, trivial⟩ rfl (by first | exact q_subI rfl rfl (by decide) (by omega) (by omega) | exact q_ib rfl rfl rfl (by decide))) (fun ob2_2 => ?_)
        simp only [List.cons_append, List.nil_append] at ob2_2
        refine any_op (rd := [6]) ob2_2 rfl rfl rfl (anyT_quiet [(6, _)] ⟨rfl, trivial⟩ rfl (q_move rfl (by decide))) (fun ob2_3 => ?_)
        simp only [List.cons_append, List.nil_append] at ob2_3
        refine any_op (rd := [6]) ob2_3 rfl rfl rfl (anyT_quiet [(6, _)] ⟨rfl, trivial⟩ rfl (q_move rfl (by decide))) (fun ob2_4 => ?_)
        simp only [List.cons_append, List.nil_append] at ob2_4
        refine any_op (rd := [2, 41]) ob2_4 rfl rfl rfl (anyT_quiet [(2, _), (41, _)] ⟨rfl, rfl, trivial⟩ rfl (q_indexAddr_arr arr_50 rfl rfl rfl (by omega) (by omega) (by decide))) (fun ob2_5 => ?_)
        simp only [List.cons_append, List.nil_append] at ob2_5
        refine any_op (rd := [42, 2]) ob2_5 rfl rfl rfl (anyT_quiet [(42, _), (2, _)] ⟨rfl, rfl, trivial⟩ rfl (q_load one_3 2 rfl rfl rfl (by first | exact get_map1 (PV.int .i64) 0 (arr a) (k := greater.toNat) (by rw [arr_len h10]; omega) | exact get_map1 (PV.int .i64) 0 (arr a) (k := (tail - 1).toNat) (by rw [arr_len h10]; omega)) (by decide))) (fun ob2_6 => ?_)
        simp only [List.cons_append, List.nil_append] at ob2_6
        refine any_op (rd := [5]) ob2_6 rfl rfl rfl (anyT_quiet [(5, _)] ⟨rfl, trivial⟩ rfl (q_move rfl (by decide))) (fun ob2_7 => ?_)
        simp only [List.cons_append, List.nil_append] at ob2_7
        refine any_op (rd := [44]) ob2_7 rfl rfl rfl (anyT_quiet [(44, _)] ⟨rfl, trivial⟩ rfl (by first | exact q_subI rfl rfl (by decide) (by omega) (by omega) | exact q_ib rfl rfl rfl (by decide))) (fun ob2_8 => ?_)
        simp only [List.cons_append, List.nil_append] at ob2_8
        refine any_op (rd := [2, 45]) ob2_8 rfl rfl rfl (anyT_quiet [(2, _), (45, _)] ⟨rfl, rfl, trivial⟩ rfl (q_indexAddr_arr arr_50 rfl rfl rfl (by omega) (by omega) (by decide))) (fun ob2_9 => ?_)
        simp only [List.cons_append, List.nil_append] at ob2_9
        refine any_op (rd := [46, 2]) ob2_9 rfl rfl rfl (anyT_quiet [(46, _), (2, _)] ⟨rfl, rfl, trivial⟩ rfl (q_load one_3 2 rfl rfl rfl (by first | exact get_map1 (PV.int .i64) 0 (arr a) (k := greater.toNat) (by rw [arr_len h10]; omega) | exact get_map1 (PV.int .i64) 0 (arr a) (k := (tail - 1).toNat) (by rw [arr_len h10]; omega)) (by decide))) (fun ob2_10 => ?_)
        simp only [List.cons_append, List.nil_append] at ob2_10
        refine any_op (rd := [2, 39]) ob2_10 rfl rfl rfl (anyT_quiet [(2, _), (39, _)] ⟨rfl, rfl, trivial⟩ rfl (q_indexAddr_arr arr_50 rfl rfl rfl (by omega) (by omega) (by decide))) (fun ob2_11 => ?_)
        simp only [List.cons_append, List.nil_append] at ob2_11
        refine any_st (rd := [2, 42, 43, 46, 48]) ob2_11 rfl rfl (fun σ hag hfr => by have e2 : σ.at 2 = some _ := (hag 2 (by decide)).trans rfl; have e42 : σ.at 42 = some _ := (hag 42 (by decide)).trans rfl; have e43 : σ.at 43 = some _ := (hag 43 (by decide)).trans rfl; have e46 : σ.at 46 = some _ := (hag 46 (by decide)).trans rfl; have e48 : σ.at 48 = some _ := (hag 48 (by decide)).trans rfl; exact opT.mono (op_store (one_3).2 2 [2] (by intro t ht; simp only [List.mem_cons, List.not_mem_nil, or_false] at ht; subst ht; exact e2) (.inl e48) e2 rfl e43 rfl rfl rfl (by first | (rw [List.length_map, arr_len h10]; omega) | (unfold putAt; simp [arr_len h10]; omega)) (by decide) rfl rfl) (fun σ2 h2 => by subst h2; exact post_updA (L := 2) [42, 46, 48] e2 (by intro h hm; simp only [List.mem_cons, List.not_mem_nil, or_false] at hm; rcases hm with rfl | rfl | rfl <;> exact ⟨_, by assumption⟩) rfl hfr)) (fun ob2_12 => ?_)
        simp only [List.cons_append, List.nil_append] at ob2_12
        refine any_end [[], [0], [], [], [3], [3, 4], [], [6], [6, 7], [6, 7, 8], [0, 1, 3, 4, 5, 6, 7, 8, 9], [0, 1, 3, 4, 5, 6, 7, 8, 9, 10], [0, 1, 2, 3, 4, 5, 6, 7, 8, 9, 10, 11], [0, 1, 2, 3, 4, 5, 6, 7, 8, 9, 10, 11, 12]] ob2_12 (by kernel_rfl) (Nat.le_of_ble_eq_true rfl) (by decide) (by decide) (by kernel_rfl) (by kernel_rfl) (by kernel_rfl) (by kernel_rfl) (by kernel_rfl) ?_
        clear ob2_0 ob2_1 ob2_2 ob2_3 ob2_4 ob2_5 ob2_6 ob2_7 ob2_8 ob2_9 ob2_10 ob2_11 ob2_12
        refine listT.imp (σ' := [(0, _), (1, _), (2, _), (4, _), (5, _), (6, _), (35, _), (38, _), (39, _), (40, _), (41, _), (42, _), (43, _), (44, _), (45, _), (46, _), (47, _), (48, _)]) ?_ (imp_covers ⟨rfl, rfl, rfl, rfl, rfl, rfl, rfl, rfl, rfl, rfl, rfl, rfl, rfl, rfl, rfl, rfl, rfl, rfl, trivial⟩)
        refine list_cons rfl (op_q (q_indexAddr_arr arr_50 rfl rfl rfl (by omega) (by omega) (by decide)) ?_)
        refine list_cons rfl (op_store (one_3).2 2 [2] (by intro t ht; simp only [List.mem_cons, List.not_mem_nil, or_false] at ht; subst ht; rfl) (.inl rfl) rfl rfl rfl rfl rfl rfl (by first | (rw [List.length_map, arr_len h10]; omega) | (unfold putAt; simp [arr_len h10]; omega)) (by decide) rfl ?_)
        refine list_nil ?_
        refine hK16 _ ?_; clear hK16 K16
        refine codeT.imp (σ' := [(0, _), (1, _), (2, .box 2 50 ((swpL (arr a) (tail - 1).toNat greater.toNat).map (.int .i64))), (4, _), (5, _), (6, _)]) ?_ (imp_covers ⟨rfl, rfl, (congrArg (fun z => some (SV.box 2 50 z)) (put2_swp (by rw [arr_len h10]; omega) (by rw [arr_len h10]; omega) (Nat.mul_one _) (Nat.mul_one _) rfl rfl)), rfl, rfl, rfl, trivial⟩)
        refine code_seq (fun K22 hK22 => ?_)
        refine code_region ?_
        refine list_cons rfl (op_q (q_move rfl (by decide)) ?_)
        refine list_cons rfl (op_q (q_move rfl (by decide)) ?_)
        refine list_cons rfl (op_q (q_sliceBox Try.underlying50 one_3.2 rfl ⟨_, rfl⟩ ⟨_, rfl⟩ (by omega) (by omega) (by omega) (by decide)) ?_)
        refine listT.imp ?_ (imp_vbox (h := 2) (x := 52) rfl rfl)
        refine list_cons rfl (op_callM (reverse_V _ _ _ _ ?_ ?_) (.tmp 52) 2 [52] [] _ rfl rfl (by intro y hy; cases hy; exact ⟨rfl, (by intro t ht; simp only [List.mem_cons, List.not_mem_nil, or_false] at ht; subst ht; rfl), (by intro s hs; simp only [List.mem_cons, List.not_mem_nil, or_false] at hs; (try cases hs))⟩) (by decide) (by decide) (by decide) rfl (fun _ => rfl) ?_)
        · (simp [swpL_len, arr_len h10]; omega)
        · (simp [swpL_len, arr_len h10])
        rintro _ _ ⟨rfl, rfl⟩
        refine listT.imp ?_ (imp_unvbox (h := 2) (x := 52) rfl rfl)
        refine list_nil ?_
        refine hK22 _ ?_; clear hK22 K22
        refine codeT.imp (σ' := [(0, _), (1, _), (2, _), (4, _), (5, _), (6, _)]) ?_ (imp_covers ⟨rfl, rfl, rfl, rfl, rfl, rfl, trivial⟩)
        refine code_seq (fun K23 hK23 => ?_)
        refine code_region ?_
        refine list_cons rfl (op_q (q_cast (q_load_agg agg_50 2 (.inr ⟨rfl, _, rfl⟩) rfl rfl (by simp [swpL_len, arr_len h10]; omega) (by first | rfl | exact flat_part (flat_map _ (fun _ => rfl) _) _ _) (by decide)) (congrArg (fun z => SV.val (PV.agg z)) (ld10 (by simp [swpL_len, arr_len h10]; omega)))) ?_)
        refine list_cons rfl (op_store (agg_50).2 4 [4] (by intro t ht; simp only [List.mem_cons, List.not_mem_nil, or_false] at ht; subst ht; rfl) (.inr ⟨rfl, _, rfl⟩) rfl rfl rfl rfl (by first | rfl | exact flat_part (flat_map _ (fun _ => rfl) _) _ _ | exact flat_map _ (fun _ => rfl) _) (by first | rfl | (simp [PV.cells, swpL_len, arr_len h10]; omega)) (by decide) (by decide) rfl ?_)
        refine list_nil ?_
        refine hK23 _ ?_; clear hK23 K23
        refine codeT.imp (σ' := [(0, _), (1, _), (2, _), (4, .box 4 50 _), (5, _), (6, _)]) ?_ (imp_covers ⟨rfl, rfl, rfl, (congrArg (fun z => some (SV.box 4 50 z)) (put_all8 (n := 10) rfl (by simp [swpL_len, arr_len h10]; omega))), rfl, rfl, trivial⟩)
        refine code_ret ?_
        refine ends_ret (cs := []) (res_agg8 rfl rfl (flat_map _ (fun _ => rfl) _) (by show _ = 10; simp [swpL_len, arr_len h10]; omega)) rfl rfl rfl trivial ?_
        first
          | (have hx : ¬ (arr a).getD greater.toNat 0 ≤ (arr a).getD (tail - 1).toNat 0 := (by assumption)
             rw [hv3, hv4] at hx
             have e0 : (tail - 1).toNat = tail.toNat - 1 := by omega
             obtain ⟨b, hb1, hb2⟩ := aft_gt (a := a) (t := tail.toNat) (g := greater.toNat) (o := tail.toNat) (m := (a.length : Int).toNat - tail.toNat) (by omega) (by omega) i3 (by omega) (by omega) (by rw [← e0]; omega) g5 rfl (by omega)
             rw [← e0] at hb2
             exact ⟨b, hb1, by rw [hb2]⟩)
          | (have ht : tail.toNat = 0 := by omega
             obtain ⟨b, hb1, hb2⟩ := aft_end0 (a := a) (o := tail.toNat) (m := (a.length : Int).toNat - tail.toNat) (by rw [ht] at i3; exact i3) ht (by omega)
             exact ⟨b, hb1, by rw [hb2]⟩)
          | (exfalso
             have hx : ¬ (arr a).getD (tail - 1).toNat 0 ≥ (arr a).getD tail.toNat 0 := (by assumption)
             omega)
    (try simp only [Decidable.not_not] at h5)
    refine code_skip ?_
    refine hK16 _ ?_; clear hK16 K16
    refine code_seq (fun K24 hK24 => ?_)
    refine code_region ?_
    refine list_cons rfl (op_q (q_move rfl (by decide)) ?_)
    refine list_cons rfl (op_q (q_move rfl (by decide)) ?_)
    refine list_cons rfl (op_q (q_sliceBox Try.underlying50 one_3.2 rfl ⟨_, rfl⟩ ⟨_, rfl⟩ (by omega) (by omega) (by omega) (by decide)) ?_)
    refine listT.imp ?_ (imp_vbox (h := 2) (x := 52) rfl rfl)
    refine list_cons rfl (op_callM (reverse_V _ _ _ _ ?_ ?_) (.tmp 52) 2 [52] [] _ rfl rfl (by intro y hy; cases hy; exact ⟨rfl, (by intro t ht; simp only [List.mem_cons, List.not_mem_nil, or_false] at ht; subst ht; rfl), (by intro s hs; simp only [List.mem_cons, List.not_mem_nil, or_false] at hs; (try cases hs))⟩) (by decide) (by decide) (by decide) rfl (fun _ => rfl) ?_)
    · (simp [swpL_len, arr_len h10]; omega)
    · (simp [swpL_len, arr_len h10])
    rintro _ _ ⟨rfl, rfl⟩
    refine listT.imp ?_ (imp_unvbox (h := 2) (x := 52) rfl rfl)
    refine list_nil ?_
    refine hK24 _ ?_; clear hK24 K24
    refine codeT.imp (σ' := [(0, _), (1, _), (2, _), (4, _), (5, _)]) ?_ (imp_covers ⟨rfl, rfl, rfl, rfl, rfl, trivial⟩)
    refine code_seq (fun K25 hK25 => ?_)
    refine code_region ?_
    refine list_cons rfl (op_q (q_cast (q_load_agg agg_50 2 (.inr ⟨rfl, _, rfl⟩) rfl rfl (by simp [swpL_len, arr_len h10]; omega) (by first | rfl | exact flat_part (flat_map _ (fun _ => rfl) _) _ _) (by decide)) (congrArg (fun z => SV.val (PV.agg z)) (ld10 (by simp [swpL_len, arr_len h10]; omega)))) ?_)
    refine list_cons rfl (op_store (agg_50).2 4 [4] (by intro t ht; simp only [List.mem_cons, List.not_mem_nil, or_false] at ht; subst ht; rfl) (.inr ⟨rfl, _, rfl⟩) rfl rfl rfl rfl (by first | rfl | exact flat_part (flat_map _ (fun _ => rfl) _) _ _ | exact flat_map _ (fun _ => rfl) _) (by first | rfl | (simp [PV.cells, swpL_len, arr_len h10]; omega)) (by decide) (by decide) rfl ?_)
    refine list_nil ?_
    refine hK25 _ ?_; clear hK25 K25
    refine codeT.imp (σ' := [(0, _), (1, _), (2, _), (4, .box 4 50 _), (5, _)]) ?_ (imp_covers ⟨rfl, rfl, rfl, (congrArg (fun z => some (SV.box 4 50 z)) (put_all8 (n := 10) rfl (by simp [swpL_len, arr_len h10]; omega))), rfl, trivial⟩)
    refine code_ret ?_
    refine ends_ret (cs := []) (res_agg8 rfl rfl (flat_map _ (fun _ => rfl) _) (by show _ = 10; simp [swpL_len, arr_len h10]; omega)) rfl rfl rfl trivial ?_
    first
      | (have hx : ¬ (arr a).getD greater.toNat 0 ≤ (arr a).getD (tail - 1).toNat 0 := (by assumption)
         rw [hv3, hv4] at hx
         have e0 : (tail - 1).toNat = tail.toNat - 1 := by omega
         obtain ⟨b, hb1, hb2⟩ := aft_gt (a := a) (t := tail.toNat) (g := greater.toNat) (o := tail.toNat) (m := (a.length : Int).toNat - tail.toNat) (by omega) (by omega) i3 (by omega) (by omega) (by rw [← e0]; omega) g5 rfl (by omega)
         rw [← e0] at hb2
         exact ⟨b, hb1, by rw [hb2]⟩)
      | (have ht : tail.toNat = 0 := by omega
         obtain ⟨b, hb1, hb2⟩ := aft_end0 (a := a) (o := tail.toNat) (m := (a.length : Int).toNat - tail.toNat) (by rw [ht] at i3; exact i3) ht (by omega)
         exact ⟨b, hb1, by rw [hb2]⟩)
      | (exfalso
         have hx : ¬ (arr a).getD (tail - 1).toNat 0 ≥ (arr a).getD tail.toNat 0 := (by assumption)
         omega)

/-- All sequences of the elements of a list, by the place of the first. -/
def seqs {α : Type} (d : α) : Nat → List α → List (List α)
  | 0, _ => [[]]
  | n + 1, l => (List.range l.length).flatMap fun i => (seqs d n (l.take i ++ l.drop (i + 1))).map fun r => l.getD i d :: r
theorem cut_perm {α : Type} (d : α) {l : List α} {i : Nat} (h : i < l.length) : (l.getD i d :: (l.take i ++ l.drop (i + 1))).Perm l := by
  have e : l = l.take i ++ l[i] :: l.drop (i + 1) := by rw [← List.drop_eq_getElem_cons h, List.take_append_drop]
  have hg : l.getD i d = l[i] := by rw [List.getD_eq_getElem?_getD, List.getElem?_eq_getElem h]; rfl
  rw [hg]
  conv => rhs; rw [e]
  exact List.perm_middle.symm
theorem cut_len1 {α : Type} {l : List α} {i n : Nat} (h : i < l.length) (hl : l.length = n + 1) : (l.take i ++ l.drop (i + 1)).length = n := by
  rw [List.length_append, List.length_take, List.length_drop]; omega
theorem seqs_mem {α : Type} (d : α) : ∀ {n : Nat} {l c : List α}, l.length = n → (c ∈ seqs d n l ↔ c.Perm l)
  | 0, l, c, hl => by
    have : l = [] := List.eq_nil_of_length_eq_zero hl
    subst this
    simp [seqs]
  | n + 1, l, c, hl => by
    simp only [seqs, List.mem_flatMap, List.mem_range, List.mem_map]
    constructor
    · rintro ⟨i, hi, r, hr, rfl⟩
      have := (seqs_mem d (cut_len1 hi hl)).1 hr
      exact (List.Perm.cons _ this).trans (cut_perm d hi)
    · intro hp
      cases c with
      | nil => have := hp.length_eq; rw [hl] at this; simp at this
      | cons x r =>
        have hx : x ∈ l := hp.mem_iff.1 List.mem_cons_self
        obtain ⟨i, hi, he⟩ := List.getElem_of_mem hx
        have hg : l.getD i d = x := by rw [List.getD_eq_getElem?_getD, List.getElem?_eq_getElem hi]; exact he
        refine ⟨i, hi, r, (seqs_mem d (cut_len1 hi hl)).2 ?_, by rw [hg]⟩
        have h2 := hp.trans (cut_perm d hi).symm
        rw [hg] at h2
        exact h2.cons_inv
theorem seqs_map {α β : Type} (g : α → β) (d : α) : ∀ (n : Nat) (l : List α), (seqs d n l).map (List.map g) = seqs (g d) n (l.map g)
  | 0, _ => rfl
  | n + 1, l => by
    simp only [seqs, List.map_flatMap, List.length_map, List.map_map]
    rw [List.flatMap_def, List.flatMap_def]
    congr 1
    apply List.map_congr_left
    intro i _
    rw [← List.map_take, ← List.map_drop, ← List.map_append, ← seqs_map g d n, List.map_map]
    apply List.map_congr_left
    intro r _
    show g (l.getD i d) :: r.map g = (l.map g).getD i (g d) :: r.map g
    congr 1
    rw [List.getD_eq_getElem?_getD, List.getD_eq_getElem?_getD, List.getElem?_map]
    cases l[i]? <;> rfl
theorem flt_lt {α : Type} {p q : α → Bool} : ∀ {l : List α}, (∀ x ∈ l, p x = true → q x = true) → ∀ {x : α}, x ∈ l → q x = true → p x = false → (l.filter p).length < (l.filter q).length
  | [], _, x, hx, _, _ => by simp at hx
  | y :: l, h, x, hx, hq, hp => by
    have hle : (l.filter p).length ≤ (l.filter q).length := by
      have hh : ∀ z ∈ l, p z = true → q z = true := fun z hz => h z (List.mem_cons_of_mem _ hz)
      clear h hx hq hp
      induction l with
      | nil => simp
      | cons z l ih =>
        have h1 := hh z List.mem_cons_self
        have h2 := ih (fun w hw => hh w (List.mem_cons_of_mem _ hw))
        rw [List.filter_cons, List.filter_cons]
        cases hz : p z
        · cases q z <;> simp <;> omega
        · rw [h1 hz]; simp; omega
    rw [List.filter_cons, List.filter_cons]
    rcases List.mem_cons.1 hx with e | e
    · subst e; rw [hq, hp]; simp; omega
    · have ih := flt_lt (fun z hz => h z (List.mem_cons_of_mem _ hz)) e hq hp
      have h1 := h y List.mem_cons_self
      cases hy : p y
      · cases q y <;> simp <;> omega
      · rw [h1 hy]; simp; omega
/-- How many sequences come behind one; none behind the first, where the search ends. -/
def cntF (f o : List Int) : Nat := if o = f then 0 else 1 + ((seqs 0 f.length f).filter fun c => decide (llt o c)).length
theorem cntF_lt {f a b : List Int} (hb : b.Perm f) (ha : a ≠ f) (h : b = f ∨ llt a b) : cntF f b < cntF f a := by
  unfold cntF
  rw [if_neg ha]
  by_cases e : b = f
  · rw [if_pos e]; omega
  · rw [if_neg e]
    have hl := h.resolve_left e
    have := flt_lt (p := fun c => decide (llt b c)) (q := fun c => decide (llt a c)) (l := seqs 0 f.length f) (fun c _ hc => by
      simp only [decide_eq_true_eq] at hc ⊢; exact llt_trans hl hc) ((seqs_mem 0 rfl).2 hb) (by simpa using hl) (by simpa using llt_irr b)
    omega
def Bet (cost : List Int → Int) (x y : List Int) : Prop := cost x < cost y ∨ (cost x = cost y ∧ (x = y ∨ llt x y))
/-- The best of all sequences: the first one of the least cost. -/
def BstAll (cost : List Int → Int) (f best : List Int) : Prop := best.Perm f ∧ ∀ b, b.Perm f → Bet cost best b
def Hst (cost : List Int → Int) (f a best : List Int) : Prop := best.Perm f ∧ (best = a ∨ llt best a) ∧ ∀ b, b.Perm f → (b = a ∨ llt b a) → Bet cost best b
def Srch (cost : List Int → Int) (f o best : List Int) : Prop := best.Perm f ∧ o.Perm f ∧ ((o = f ∧ BstAll cost f best) ∨ (o ≠ f ∧ llt best o ∧ ∀ b, b.Perm f → llt b o → Bet cost best b))
theorem bst_one {cost : List Int → Int} {f x y : List Int} (h : BstAll cost f x) (k : BstAll cost f y) : x = y := by
  have h1 := h.2 y k.1
  have h2 := k.2 x h.1
  rcases h1 with h1 | ⟨h1, h3⟩
  · rcases h2 with h2 | ⟨h2, _⟩ <;> omega
  · rcases h2 with h2 | ⟨_, h4⟩
    · omega
    · rcases h3 with h3 | h3
      · exact h3
      · rcases h4 with h4 | h4
        · exact h4.symm
        · exact absurd (llt_trans h3 h4) (llt_irr _)
theorem asc_one {x y : List Int} (hx : Asc x) (hy : Asc y) (h : x.Perm y) : x = y := by
  rcases asc_min hy h with e | e
  · exact e
  · rcases asc_min hx h.symm with e2 | e2
    · exact e2.symm
    · exact absurd (llt_trans e e2) (llt_irr _)
theorem hst_0 (cost : List Int → Int) {f : List Int} (hf : Asc f) : Hst cost f f f := ⟨List.Perm.refl _, .inl rfl, fun b hb hl => by
  rcases hl with rfl | hl
  · exact .inr ⟨rfl, .inl rfl⟩
  · rcases asc_min hf hb with e | e
    · rw [e] at hl; exact absurd hl (llt_irr _)
    · exact absurd (llt_trans hl e) (llt_irr _)⟩
theorem hst_up {cost : List Int → Int} {f o best : List Int} (h : Srch cost f o best) (hne : o ≠ f) : Hst cost f o (if cost o < cost best then o else best) := by
  obtain ⟨hb, ho, h⟩ := h
  rcases h with ⟨e, _⟩ | ⟨_, hl, hall⟩
  · exact absurd e hne
  by_cases hc : cost o < cost best
  · rw [if_pos hc]
    refine ⟨ho, .inl rfl, fun b hb2 hbl => ?_⟩
    rcases hbl with rfl | hbl
    · exact .inr ⟨rfl, .inl rfl⟩
    · rcases hall b hb2 hbl with k | ⟨k, _⟩
      · exact .inl (by omega)
      · exact .inl (by omega)
  · rw [if_neg hc]
    refine ⟨hb, .inr hl, fun b hb2 hbl => ?_⟩
    rcases hbl with rfl | hbl
    · by_cases e : cost best = cost b
      · exact .inr ⟨e, .inr hl⟩
      · exact .inl (by omega)
    · exact hall b hb2 hbl
theorem srch_next {cost : List Int → Int} {f a b best : List Int} (hf : Asc f) (h : Hst cost f a best) (ha : a.Perm f) (hn : NextOf a b) : Srch cost f b best ∧ (b = f ∨ llt a b) := by
  have hb : b.Perm f := hn.perm.trans ha
  rcases hn with ⟨hd, rfl⟩ | ⟨P, T1, T2, x, y, rfl, hT, hxy, h2, rfl⟩
  · have e : a.reverse = f := asc_one (asc_rev hd) hf hb
    refine ⟨⟨h.1, hb, .inl ⟨e, h.1, fun c hc => h.2.2 c hc ?_⟩⟩, .inl e⟩
    have hca : c.Perm a := hc.trans ha.symm
    rcases llt_tri (hca.length_eq) with k | k | k
    · exact .inl k
    · exact .inr k
    · exact absurd k (dsc_max hd hca)
  · have hgt := next_gt (P := P) (T1 := T1) (T2 := T2) hxy
    refine ⟨⟨h.1, hb, .inr ⟨fun e => ?_, ?_, fun c hc hcl => h.2.2 c hc ?_⟩⟩, .inr hgt⟩
    · rcases asc_min hf ha with k | k
      · rw [e, ← k] at hgt; exact llt_irr _ hgt
      · rw [e] at hgt; exact llt_irr _ (llt_trans k hgt)
    · rcases h.2.1 with k | k
      · rw [k]; exact hgt
      · exact llt_trans k hgt
    · have hca := hc.trans ha.symm
      rcases llt_tri (hca.length_eq) with k | k | k
      · exact .inl k
      · exact .inr k
      · rcases next_min hT hxy h2 hca k with q | q
        · rw [q] at hcl; exact absurd hcl (llt_irr _)
        · exact absurd (llt_trans q hcl) (llt_irr _)
theorem srch_end {cost : List Int → Int} {f best : List Int} (h : Srch cost f f best) : BstAll cost f best := by
  rcases h.2.2 with h | h
  · exact h.2
  · exact absurd rfl h.1
theorem arr_inj {a b : List Int} (h : a.length = b.length) (e : arr a = arr b) : a = b := by
  have := congrArg (List.take a.length) e
  unfold arr at this
  rwa [List.take_left, h, List.take_left] at this
/-- The first of the least in a list. -/
def fstB {α : Type} (cost : α → Int) (b : α) (l : List α) : α := l.foldl (fun b c => if cost c < cost b then c else b) b
theorem fstB_ok {α : Type} (cost : α → Int) : ∀ (l : List α) (b : α) (p1 p2 : List α), (∀ e ∈ p1, cost b < cost e) → (∀ e ∈ p2, cost b ≤ cost e) → ∃ q1 q2, p1 ++ b :: p2 ++ l = q1 ++ fstB cost b l :: q2 ∧ (∀ e ∈ q1, cost (fstB cost b l) < cost e) ∧ (∀ e ∈ q2, cost (fstB cost b l) ≤ cost e)
  | [], b, p1, p2, h1, h2 => ⟨p1, p2, by simp [fstB], h1, h2⟩
  | c :: l, b, p1, p2, h1, h2 => by
    by_cases hc : cost c < cost b
    · obtain ⟨q1, q2, k1, k2, k3⟩ := fstB_ok cost l c (p1 ++ b :: p2) [] (fun e he => by
        rcases List.mem_append.1 he with k | k
        · have := h1 e k; omega
        · rcases List.mem_cons.1 k with k | k
          · rw [k]; exact hc
          · have := h2 e k; omega) (fun e he => by simp at he)
      have e : fstB cost b (c :: l) = fstB cost c l := by unfold fstB; rw [List.foldl_cons, if_pos hc]
      rw [e]
      exact ⟨q1, q2, by rw [← k1]; simp, k2, k3⟩
    · obtain ⟨q1, q2, k1, k2, k3⟩ := fstB_ok cost l b p1 (p2 ++ [c]) h1 (fun e he => by
        rcases List.mem_append.1 he with k | k
        · exact h2 e k
        · simp at k; rw [k]; omega)
      have e : fstB cost b (c :: l) = fstB cost b l := by unfold fstB; rw [List.foldl_cons, if_neg hc]
      rw [e]
      exact ⟨q1, q2, by rw [← k1]; simp, k2, k3⟩
/-- Whatever comes ahead in order stands ahead in the list. -/
def Gd (f : List Int) (M : List (List Int)) : Prop := ∀ p x q, M = p ++ x :: q → ∀ e, e.Perm f → llt e x → e ∈ p
theorem seqs_gd : ∀ {n : Nat} {f : List Int}, f.length = n → Asc f → Gd f (seqs 0 n f)
  | 0, f, hl, hf => by
    intro p x q h e he hlt
    have : f = [] := List.eq_nil_of_length_eq_zero hl
    subst this
    have := List.Perm.eq_nil he
    subst this
    exact hlt.elim
  | n + 1, f, hl, hf => by
    have key : ∀ m, m ≤ f.length → Gd f ((List.range m).flatMap fun i => (seqs 0 n (f.take i ++ f.drop (i + 1))).map fun r => f.getD i 0 :: r) := by
      intro m
      induction m with
      | zero => intro _ p x q h; simp at h
      | succ m ih =>
        intro hm p x q h e he hlt
        rw [List.range_succ, List.flatMap_append] at h
        have hB : ([m].flatMap fun i => (seqs 0 n (f.take i ++ f.drop (i + 1))).map fun r => f.getD i 0 :: r) = (seqs 0 n (f.take m ++ f.drop (m + 1))).map fun r => f.getD m 0 :: r := by simp
        rw [hB] at h
        have hsp := List.append_eq_append_iff.1 h
        rcases hsp with ⟨as2, h1, h2⟩ | ⟨bs2, h1, h2⟩
        · -- x lies in the last block
          subst h1
          obtain ⟨r1, r2, hr1, hr2, hr3⟩ := List.map_eq_append_iff.1 h2
          obtain ⟨s, r3, rfl, hs1, hs2⟩ := List.map_eq_cons_iff.1 hr3
          rw [← hs1] at hlt
          cases e with
          | nil => exact hlt.elim
          | cons v s' =>
            rcases hlt with hlt | ⟨hv, hlt⟩
            · have hvf : v ∈ f := he.mem_iff.1 List.mem_cons_self
              obtain ⟨j, hj, hje⟩ := List.getElem_of_mem hvf
              have hgj : f.getD j 0 = v := by rw [List.getD_eq_getElem?_getD, List.getElem?_eq_getElem hj]; exact hje
              have hjm : j < m := by
                by_cases hjm : j < m
                · exact hjm
                · exfalso
                  have hgm : f.getD m 0 = f[m] := by rw [List.getD_eq_getElem?_getD, List.getElem?_eq_getElem (show m < f.length by omega)]; rfl
                  by_cases e : m = j
                  · subst e; omega
                  · have := List.pairwise_iff_getElem.1 hf m j (by omega) hj (by omega)
                    omega
              refine List.mem_append.2 (.inl ?_)
              simp only [List.mem_flatMap, List.mem_range, List.mem_map]
              refine ⟨j, hjm, s', (seqs_mem 0 (cut_len1 hj hl)).2 ?_, by rw [hgj]⟩
              have h5 := he.trans (cut_perm 0 hj).symm
              rw [hgj] at h5
              exact h5.cons_inv
            · have hsf : Asc (f.take m ++ f.drop (m + 1)) := by
                have hsub : (f.take m ++ f.drop (m + 1)).Sublist f := by
                  conv => rhs; rw [← List.take_append_drop m f, List.drop_eq_getElem_cons (show m < f.length by omega)]
                  exact List.Sublist.append (List.Sublist.refl _) (List.sublist_cons_self _ _)
                exact hf.sublist hsub
              have h5 := he.trans (cut_perm 0 (show m < f.length by omega)).symm
              rw [hv] at h5
              have ih2 := seqs_gd (cut_len1 (show m < f.length by omega) hl) hsf r1 s r3 hr1 s' h5.cons_inv hlt
              refine List.mem_append.2 (.inr ?_)
              rw [← hr2, hv]
              exact List.mem_map.2 ⟨s', ih2, rfl⟩
        · cases bs2 with
          | nil =>
            -- x is the first of the last block
            rw [List.append_nil] at h1
            rw [List.nil_append] at h2
            obtain ⟨s, r3, hr1, hs1, hs2⟩ := List.map_eq_cons_iff.1 h2.symm
            rw [← hs1] at hlt
            cases e with
            | nil => exact hlt.elim
            | cons v s' =>
              rcases hlt with hlt | ⟨hv, hlt⟩
              · have hvf : v ∈ f := he.mem_iff.1 List.mem_cons_self
                obtain ⟨j, hj, hje⟩ := List.getElem_of_mem hvf
                have hgj : f.getD j 0 = v := by rw [List.getD_eq_getElem?_getD, List.getElem?_eq_getElem hj]; exact hje
                have hjm : j < m := by
                  by_cases hjm : j < m
                  · exact hjm
                  · exfalso
                    have hgm : f.getD m 0 = f[m] := by rw [List.getD_eq_getElem?_getD, List.getElem?_eq_getElem (show m < f.length by omega)]; rfl
                    by_cases e : m = j
                    · subst e; omega
                    · have := List.pairwise_iff_getElem.1 hf m j (by omega) hj (by omega)
                      omega
                rw [← h1]
                simp only [List.mem_flatMap, List.mem_range, List.mem_map]
                refine ⟨j, hjm, s', (seqs_mem 0 (cut_len1 hj hl)).2 ?_, by rw [hgj]⟩
                have h5 := he.trans (cut_perm 0 hj).symm
                rw [hgj] at h5
                exact h5.cons_inv
              · have hsf : Asc (f.take m ++ f.drop (m + 1)) := by
                  have hsub : (f.take m ++ f.drop (m + 1)).Sublist f := by
                    conv => rhs; rw [← List.take_append_drop m f, List.drop_eq_getElem_cons (show m < f.length by omega)]
                    exact List.Sublist.append (List.Sublist.refl _) (List.sublist_cons_self _ _)
                  exact hf.sublist hsub
                have h5 := he.trans (cut_perm 0 (show m < f.length by omega)).symm
                rw [hv] at h5
                have ih2 := seqs_gd (cut_len1 (show m < f.length by omega) hl) hsf [] s r3 (by rw [hr1]; rfl) s' h5.cons_inv hlt
                simp at ih2
          | cons y bs2 =>
            rw [List.cons_append] at h2
            injection h2 with h3 h4
            subst h3
            exact ih (by omega) p x bs2 h1 e he hlt
    have h := key f.length (Nat.le_refl _)
    exact h
theorem seqs_best {cost : List Int → Int} {f m : List Int} {M : List (List Int)} (hf : Asc f) (hM : seqs 0 f.length f = m :: M) : BstAll cost f (fstB cost m M) := by
  obtain ⟨q1, q2, k1, k2, k3⟩ := fstB_ok cost M m [] [] (fun e he => by simp at he) (fun e he => by simp at he)
  simp only [List.nil_append, List.singleton_append] at k1
  have hg := seqs_gd rfl hf q1 _ q2 (hM.trans k1)
  have hin : ∀ b, b.Perm f ↔ b ∈ q1 ++ fstB cost m M :: q2 := fun b => by rw [← k1, ← hM]; exact (seqs_mem 0 rfl).symm
  refine ⟨(hin _).2 (by simp), fun b hb => ?_⟩
  have hle : cost (fstB cost m M) ≤ cost b := by
    rcases List.mem_append.1 ((hin b).1 hb) with k | k
    · have := k2 b k; omega
    · rcases List.mem_cons.1 k with k | k
      · rw [k]; omega
      · exact k3 b k
  by_cases he : cost (fstB cost m M) = cost b
  · refine .inr ⟨he, ?_⟩
    have hp : b.Perm (fstB cost m M) := hb.trans ((hin _).2 (by simp)).symm
    rcases llt_tri hp.length_eq with k | k | k
    · exact .inl k.symm
    · have := k2 b (hg b hb k); omega
    · exact .inr k
  · exact .inl (by omega)

theorem arr_put {l : List Int} (h : l.length ≤ 10) : putAt (List.replicate 10 (PV.int .i64 0)) 0 (l.map (PV.int .i64)) = (arr l).map (PV.int .i64) := by
  unfold putAt arr
  rw [List.take_zero, List.nil_append, Nat.zero_add, List.length_map, List.drop_replicate, List.map_append, List.map_replicate]
theorem arr_srt {l : List Int} {m : Nat} (hm : m = l.length) : (arr l).take 0 ++ srt (((arr l).drop 0).take m) ++ (arr l).drop (0 + m) = arr (srt l) := by
  subst hm
  unfold arr
  rw [List.take_zero, List.nil_append, List.drop_zero, Nat.zero_add, List.take_left, List.drop_left, srt_len]
theorem arr_part {l : List Int} {m : Nat} (hm : m = l.length) : (((arr l).map (PV.int .i64)).drop 0).take m = l.map (PV.int .i64) := by
  subst hm
  unfold arr
  rw [List.drop_zero, List.map_append, List.take_left' (List.length_map _)]
theorem hasK_q : ∀ (n : Nat) (l : List Int), n ≤ l.length → HasK (List.replicate n [BK.int .i64]).flatten (l.map (PV.int .i64))
  | 0, _, _ => trivial
  | n + 1, [], h => absurd h (by simp)
  | n + 1, x :: l, h => by
    rw [List.replicate_succ, List.flatten_cons]
    exact ⟨PV.int .i64 x, l.map (PV.int .i64), rfl, ⟨x, rfl⟩, hasK_q n l (by simpa using h)⟩
theorem eqP_q : ∀ (a b : List Int), a.length = b.length → (EqP (a.map (PV.int .i64)) (b.map (PV.int .i64)) ↔ a = b)
  | [], [], _ => by simp [EqP]
  | [], _ :: _, h => by simp at h
  | _ :: _, [], h => by simp at h
  | x :: a, y :: b, h => by
    have ih := eqP_q a b (by simpa using h)
    simp only [List.map_cons, EqP, Eq1, ih, List.cons.injEq]
/-- The numbers of cells. -/
def unI (cs : List PV) : List Int := cs.map fun c => match c with | .int _ n => n | _ => 0
theorem unI_map (l : List Int) : unI (l.map (PV.int .i64)) = l := by
  unfold unI; rw [List.map_map]; exact List.map_id _
def muS (f : List Int) (cs : List PV) : Nat := cntF f ((unI cs).take f.length)
theorem muS_arr {f o : List Int} (h : o.length = f.length) : muS f ((arr o).map (PV.int .i64)) = cntF f o := by
  unfold muS
  rw [unI_map, ← h]; unfold arr; rw [List.take_left]
/-- The cost of a sequence of lines, as a ring. -/
def rgC (l : List Int) : Int := rgK l l.length
def LsP (k : Int) (fr : List (Int × Int)) : Prop := GdP k fr ∧ fr.length ≤ 6
instance (k : Int) (fr : List (Int × Int)) : Decidable (LsP k fr) := by unfold LsP; infer_instance
/-- Slots of lines. -/
def unL (l : List Int) : List (Int × Int) := l.map fun v => (v / 128, v % 128)
theorem unL_len (l : List Int) : (unL l).length = l.length := by simp [unL]
theorem unL_lnL {k : Int} {fr : List (Int × Int)} (hF : FrmP k fr) (hk : k ≤ 6) : unL (lnL fr) = fr := by
  unfold unL lnL
  rw [List.map_map]
  conv => rhs; rw [← List.map_id fr]
  apply List.map_congr_left
  intro s hs
  obtain ⟨j, hj, rfl⟩ := List.getElem_of_mem hs
  have h1 := hF.bd hk hj
  have hg : fr.getD j (0, 0) = fr[j] := by rw [List.getD_eq_getElem?_getD, List.getElem?_eq_getElem hj]; rfl
  rw [hg] at h1
  show (lnV fr[j] / 128, lnV fr[j] % 128) = fr[j]
  unfold lnV
  exact Prod.ext (by show (fr[j].1 * 128 + fr[j].2) / 128 = fr[j].1; omega) (by show (fr[j].1 * 128 + fr[j].2) % 128 = fr[j].2; omega)
theorem shN7 {v : Int} (h0 : 0 ≤ v) (h1 : v ≤ 8191) : ((shN v.toNat 7 : Nat) : Int) = v / 128 ∧ ((v.toNat &&& 127 : Nat) : Int) = v % 128 := by
  have h2 : v.toNat &&& 127 = v.toNat % 128 := Nat.and_two_pow_sub_one_eq_mod v.toNat 7
  have h3 : shN v.toNat 7 = v.toNat / 128 := by unfold shN; rfl
  rw [h2, h3]
  omega
theorem unL_fill {l : List Int} {j o : Nat} {v w : Int} (h : j < l.length) (ho : o = j) (hv : v = l.getD j 0 / 128) (hw : w = l.getD j 0 % 128) : putAt (fl (unL (l.take j) ++ List.replicate (l.length - j) (0, 0))) (o * 2) [PV.int .i64 v, PV.int .i64 w] = fl (unL (l.take (j + 1)) ++ List.replicate (l.length - (j + 1)) (0, 0)) := by
  subst ho; subst hv; subst hw
  have hl : (unL (l.take o)).length = o := by rw [unL_len, List.length_take]; omega
  have ht : l.take (o + 1) = l.take o ++ [l.getD o 0] := by
    rw [List.take_add_one, List.getElem?_eq_getElem h, List.getD_eq_getElem?_getD, List.getElem?_eq_getElem h]; rfl
  have hn : l.length - o = l.length - (o + 1) + 1 := by omega
  rw [hn, List.replicate_succ, fl_app8, fl_app8, ht]
  have hu : unL (l.take o ++ [l.getD o 0]) = unL (l.take o) ++ [(l.getD o 0 / 128, l.getD o 0 % 128)] := List.map_append
  rw [hu, fl_app8]
  have hfl : (fl (unL (l.take o))).length = o * 2 := by rw [fl_len, hl]
  unfold putAt
  rw [List.take_left' hfl, show o * 2 + [PV.int .i64 (l.getD o 0 / 128), PV.int .i64 (l.getD o 0 % 128)].length = o * 2 + 2 from rfl, ← List.drop_drop, List.drop_left' hfl, List.append_assoc, List.append_assoc]
  rfl

set_option maxRecDepth 8000 in
set_option maxHeartbeats 4000000 in
theorem impl_slotsOf (l : List Int) (h12 : l.length ≤ 12) (hb : ∀ j, j < l.length → 0 ≤ l.getD j 0 ∧ l.getD j 0 ≤ 8191) : PCalls Try.prog 28 [.sl l.length (l.map (.int .i64))] (· = [.own 0 38 2 (unL l).length (fl (unL l))]) := by
  refine pcalls_of_code (n := 26) az Try.func28 (by kernel_rfl) rfl rfl (Nat.le_of_ble_eq_true rfl) (by intro t u h; simp [Try.f28] at h) ?_
  refine code_seq (fun K1 hK1 => ?_)
  refine code_region ?_
  refine list_cons rfl (op_q (q_assign rfl (by decide)) ?_)
  refine list_nil ?_
  refine hK1 _ ?_; clear hK1 K1
  refine code_seq (fun K2 hK2 => ?_)
  refine code_region ?_
  refine list_cons rfl (op_q (q_move rfl (by decide)) ?_)
  refine list_cons rfl (op_q (q_len_sl Try.underlying44 rfl rfl (by decide)) ?_)
  refine list_cons rfl (op_make sl_26 rfl rfl (by omega) (by decide) (by decide) rfl ?_)
  refine list_cons rfl (op_q (q_assign rfl (by decide)) ?_)
  refine list_nil ?_
  refine hK2 _ ?_; clear hK2 K2
  refine code_seq (fun K3 hK3 => ?_)
  refine code_seq (fun K4 hK4 => ?_)
  refine code_region ?_
  refine list_cons rfl (op_q (q_move rfl (by decide)) ?_)
  refine list_cons rfl (op_q (q_len_sl Try.underlying44 rfl rfl (by decide)) ?_)
  refine list_cons rfl (op_q (q_move rfl (by decide)) ?_)
  refine list_nil ?_
  refine hK4 _ ?_; clear hK4 K4
  refine code_block ?_
  refine code_loop (X := PV × Nat × List PV × Int) (fun x => [(0, .par 0 (.sl l.length (l.map (.int .i64)))), (2, .val x.1), (3, .own 8 38 2 x.2.1 x.2.2.1), (9, .par 0 (.sl l.length (l.map (.int .i64)))), (10, .val (.int .i64 l.length)), (11, .val (.int .i64 x.2.2.2))]) (fun x => 0 ≤ x.2.2.2 ∧ x.2.2.2 ≤ l.length ∧ x.2.1 = l.length ∧ x.2.2.1 = fl (unL (l.take x.2.2.2.toNat) ++ List.replicate (l.length - x.2.2.2.toNat) (0, 0))) (fun x => (l.length - x.2.2.2).toNat) (_, _, _, _) (imp_covers ⟨rfl, rfl, rfl, rfl, rfl, rfl, trivial⟩) ?_ ?_
  · (try dsimp only)
    exact ⟨by omega, by omega, rfl, zeros_fl l.length⟩
  · intro x hI
    obtain ⟨t2_p, slots_n, slots_c, t11⟩ := x
    replace hI : 0 ≤ t11 ∧ t11 ≤ l.length ∧ slots_n = l.length ∧ slots_c = fl (unL (l.take t11.toNat) ++ List.replicate (l.length - t11.toNat) (0, 0)) := hI
    show codeT _ _ _ [(0, .par 0 (.sl l.length (l.map (.int .i64)))), (2, .val t2_p), (3, .own 8 38 2 slots_n slots_c), (9, .par 0 (.sl l.length (l.map (.int .i64)))), (10, .val (.int .i64 l.length)), (11, .val (.int .i64 t11))] _
    obtain ⟨i1, i2, rfl, rfl⟩ := hI
    have hbd := fun h : t11 < l.length => hb t11.toNat (by omega)
    refine code_seq (fun K5 hK5 => ?_)
    refine code_region ?_
    refine list_cons rfl (op_q (q_lt rfl rfl (by decide)) ?_)
    refine list_nil ?_
    refine hK5 _ ?_; clear hK5 K5
    refine code_seq (fun K6 hK6 => ?_)
    refine code_cond_d rfl (fun h1 => ?_) (fun h1 => ?_)
    · skip
      (try simp only [Decidable.not_not] at h1)
      refine code_skip ?_
      refine hK6 _ ?_; clear hK6 K6
      refine code_seq (fun K7 hK7 => ?_)
      refine code_block ?_
      refine code_seq (fun K8 hK8 => ?_)
      refine code_region ?_
      refine list_cons rfl (op_q (q_move rfl (by decide)) ?_)
      refine list_cons rfl (op_q (q_indexAddr_rd sl_44 rfl (.inl ⟨_, rfl, rfl⟩) rfl (by omega) (by omega) (by decide)) ?_)
      refine list_cons rfl (op_q (q_load_rd one_3 rfl (.inl ⟨_, (by first | rfl | exact congrArg (SV.rpar _) (drop_map1 _ 0 _ (by first | omega | (simp; omega)))), rfl⟩) (by decide)) ?_)
      refine list_cons rfl (op_q (q_assign rfl (by decide)) ?_)
      refine list_cons rfl (op_q (q_assign rfl (by decide)) ?_)
      refine list_nil ?_
      refine hK8 _ ?_; clear hK8 K8
      refine code_region ?_
      refine list_cons rfl (op_q (q_move rfl (by decide)) ?_)
      refine list_cons rfl (op_q (q_move rfl (by decide)) ?_)
      refine list_cons rfl (op_q (q_move rfl (by decide)) ?_)
      refine list_cons rfl (op_q (by first | exact q_shrN rfl rfl (by decide) (by omega) (by omega) (by omega) | exact q_shrI rfl rfl (by decide) (by omega) (by omega) (by omega) | exact q_shr rfl rfl (by omega) (by decide)) ?_)
      refine list_cons rfl (op_q (q_move rfl (by decide)) ?_)
      refine list_cons rfl (op_q (by first | exact q_andI rfl rfl (by decide) (by omega) (by omega) (by omega) (by omega) | exact q_ib rfl rfl rfl (by decide)) ?_)
      refine list_cons rfl (op_q (q_build bt_38 (parts := [(0, .tmp 19), (1, .tmp 21)]) rfl rfl (by decide)) ?_)
      refine list_cons rfl (op_q (q_indexAddr_own sl_26 rfl rfl (by omega) (by omega) (by decide)) ?_)
      refine list_cons rfl (op_store (agg_38).2 3 [3, 16] (by intro t ht; simp only [List.mem_cons, List.not_mem_nil, or_false] at ht; rcases ht with rfl | rfl <;> rfl) (.inl rfl) rfl rfl rfl rfl (by first | rfl | exact flat_part (flat_map _ (fun _ => rfl) _) _ _ | exact flat_map _ (fun _ => rfl) _) (by first | rfl | (simp [PV.cells]; done)) (by rw [fl_len, List.length_append, unL_len, List.length_take, List.length_replicate]; omega) (by decide) rfl ?_)
      refine list_nil ?_
      refine blk_n ?_
      refine hK7 _ ?_; clear hK7 K7
      refine codeT.imp (σ' := [(0, _), (2, _), (3, _), (4, _), (5, _), (9, _), (10, _), (11, _)]) ?_ (imp_covers ⟨rfl, rfl, rfl, rfl, rfl, rfl, rfl, rfl, trivial⟩)
      refine code_region ?_
      refine list_cons rfl (op_q (by first | exact q_addI rfl rfl (by decide) (by omega) (by omega) | exact q_ib rfl rfl rfl (by decide)) ?_)
      refine list_cons rfl (op_q (q_move rfl (by decide)) ?_)
      refine list_nil ?_
      refine then_n ⟨(_, _, _, _), imp_covers ⟨rfl, rfl, rfl, rfl, rfl, rfl, trivial⟩, ?_, ?_⟩
      · (try dsimp only)
        (have hb1 := hbd (by omega); have hs := shN7 hb1.1 hb1.2; exact ⟨by omega, by omega, rfl, by rw [show (t11 + 1).toNat = t11.toNat + 1 by omega]; exact unL_fill (by omega) rfl hs.1 hs.2⟩)
      · (try dsimp only); omega
    (try simp only [Decidable.not_not] at h1)
    refine code_exit ?_
    refine then_x ?_; clear hK6 K6
    refine then_x ?_
    refine blk_hit ?_
    refine hK3 _ ?_; clear hK3 K3
    refine code_seq (fun K9 hK9 => ?_)
    refine code_region ?_
    refine list_cons rfl (op_q (q_move rfl (by decide)) ?_)
    refine list_cons rfl (op_q (q_assign rfl (by decide)) ?_)
    refine list_nil ?_
    refine hK9 _ ?_; clear hK9 K9
    refine code_ret ?_
    refine ends_ret (cs := []) rfl rfl rfl rfl trivial ?_
    rw [show t11.toNat = l.length by omega, List.take_length, Nat.sub_self, List.replicate_zero, List.append_nil, unL_len]

theorem slotsE (n : Nat) (cs : List PV) (l : List Int) (h1 : n = l.length) (h2 : cs = l.map (.int .i64)) (h12 : l.length ≤ 12) (hb : ∀ j, j < l.length → 0 ≤ l.getD j 0 ∧ l.getD j 0 ≤ 8191) : PCalls Try.prog 28 [.sl n cs] (· = [.own 0 38 2 (unL l).length (fl (unL l))]) := by
  subst h1; subst h2; exact impl_slotsOf l h12 hb
theorem ringE (n : Nat) (cs : List PV) (l : List Int) (h1 : n = l.length) (h2 : cs = l.map (.int .i64)) (h12 : l.length ≤ 12) (hb : ∀ j, j < l.length → 0 ≤ l.getD j 0 ∧ l.getD j 0 ≤ 8191) : PCalls Try.prog 21 [.sl n cs] (· = [.val (.int .i64 (rgC l))]) := by
  subst h1; subst h2; exact impl_ringSwitches l h12 hb
theorem afterE (n : Int) (cs : List PV) (a : List Int) (h1 : n = a.length) (h2 : cs = (arr a).map (.int .i64)) (h10 : a.length ≤ 10) : PCalls Try.prog 27 [.agg cs, .int .i64 n] (fun rs => ∃ b, NextOf a b ∧ rs = [.val (.agg ((arr b).map (.int .i64)))]) := by
  subst h1; subst h2; exact impl_afterSequence a h10

theorem perm_bd {k : Int} {fr : List (Int × Int)} (hF : FrmP k fr) (hk : k ≤ 6) {b : List Int} (h : b.Perm (srt (lnL fr))) {j : Nat} (hj : j < b.length) : 0 ≤ b.getD j 0 ∧ b.getD j 0 ≤ 8191 := by
  have hm : b.getD j 0 ∈ b := by rw [List.getD_eq_getElem?_getD, List.getElem?_eq_getElem hj]; exact List.getElem_mem hj
  have h2 := (h.trans (srt_perm _)).mem_iff.1 hm
  obtain ⟨i, hi, he⟩ := List.getElem_of_mem h2
  have := lnL_bd hF hk hi
  rw [List.getD_eq_getElem?_getD (l := lnL fr), List.getElem?_eq_getElem hi, Option.getD_some, he] at this
  exact this

set_option maxRecDepth 8000 in
set_option maxHeartbeats 4000000 in
theorem impl_LeastSwitches (k : Int) (fr : List (Int × Int)) (hf : fr.length ≤ 1048576) : PCalls Try.prog 12 [.int .i64 k, .sl fr.length (fl fr)] (fun rs => ∃ b : List Int, (LsP k fr → BstAll rgC (srt (lnL fr)) b) ∧ rs = [.own 0 38 2 (if LsP k fr then unL b else []).length (fl (if LsP k fr then unL b else [])), .val (.int .i64 (if LsP k fr then rgC b else 0)), .val (.bool (decide (LsP k fr)))]) := by
  refine pcalls_of_code (n := 62) az Try.func12 (by kernel_rfl) rfl rfl (Nat.le_of_ble_eq_true rfl) (by intro t u h; simp [Try.f12] at h) ?_
  have hfa := srt_asc (lnL fr)
  refine code_seq (fun K1 hK1 => ?_)
  refine code_region ?_
  refine list_cons rfl (op_q (q_assign rfl (by decide)) ?_)
  refine list_cons rfl (op_q (q_assign rfl (by decide)) ?_)
  refine list_cons rfl (op_q (q_assign rfl (by decide)) ?_)
  refine list_nil ?_
  refine hK1 _ ?_; clear hK1 K1
  refine code_seq (fun K2 hK2 => ?_)
  refine code_seq (fun K3 hK3 => ?_)
  refine code_region ?_
  refine list_cons rfl (op_q (q_move rfl (by decide)) ?_)
  refine list_cons rfl (op_q (q_move rfl (by decide)) ?_)
  refine list_cons rfl (op_call _ (impl_IsFrame _ _ (by first | omega | (simp; omega))) rfl rfl (by decide) (by decide) (by decide) rfl ?_)
  rintro _ rfl
  refine list_cons rfl (op_q (q_move rfl (by decide)) ?_)
  refine list_cons rfl (op_q (q_extract rfl rfl (by decide)) ?_)
  refine list_cons rfl (op_q (q_extract rfl rfl (by decide)) ?_)
  refine list_cons rfl (op_q (q_assign rfl (by decide)) ?_)
  refine list_cons rfl (op_q (q_assign rfl (by decide)) ?_)
  refine list_nil ?_
  refine hK3 _ ?_; clear hK3 K3
  refine codeT.imp (σ' := [(0, _), (1, _), (4, _), (5, _), (6, _), (7, _)]) ?_ (imp_covers ⟨rfl, rfl, rfl, rfl, rfl, rfl, trivial⟩)
  refine code_seq (fun K4 hK4 => ?_)
  refine code_region ?_
  refine list_cons rfl (op_q (q_move rfl (by decide)) ?_)
  refine list_cons rfl (op_q (by first | exact q_notd rfl (by decide) | exact q_not rfl (by decide)) ?_)
  refine list_cons rfl (op_q (q_move rfl (by decide)) ?_)
  refine list_guard_d rfl rfl rfl rfl (by decide) rfl (by decide) (fun h1 => ?_) (fun h1 => ?_)
  · simp only [Bool.false_eq_true, if_true, if_false, Decidable.not_not] at h1
    (try simp only [Decidable.not_not] at h1); (try have hg := (h1 : GdP k fr); try have hk := hg.1; try have hF := hg.2; try have h12 := hF.1; try have hfl := fl_len fr; try have hpb : ∀ b : List Int, b.Perm (srt (lnL fr)) → ∀ j, j < b.length → 0 ≤ b.getD j 0 ∧ b.getD j 0 ≤ 8191 := fun b hb j hj => perm_bd hF hk.2 hb hj); (try have hne : o ≠ srt (lnL fr) := fun e => (h1 : ¬ EqP _ _) ((eqP_q _ _ (by rw [arr_len (by omega), arr_len (by rw [srt_len, lnL_len]; omega)])).2 (by rw [e]))); (try have heq : o = srt (lnL fr) := arr_inj (by rw [srt_len, lnL_len]; omega) ((eqP_q _ _ (by rw [arr_len (by omega), arr_len (by rw [srt_len, lnL_len]; omega)])).1 (h1 : EqP _ _)))
    refine id (op_q (q_move rfl (by decide)) ?_)
    refine list_guard_y rfl rfl rfl rfl (by decide) rfl ?_
    refine id (op_q (q_len_sl Try.underlying26 rfl rfl (by decide)) ?_)
    refine list_guard_y rfl rfl rfl rfl (by decide) rfl ?_
    refine id (op_q (q_gt rfl rfl (by decide)) ?_)
    refine list_cons rfl (op_q (q_pick rfl rfl (by decide)) ?_)
    refine list_nil ?_
    refine hK4 _ ?_; clear hK4 K4
    refine code_cond_d rfl (fun h2 => ?_) (fun h2 => ?_)
    · skip
      (try simp only [Decidable.not_not] at h2); (try have hg := (h2 : GdP k fr); try have hk := hg.1; try have hF := hg.2; try have h12 := hF.1; try have hfl := fl_len fr; try have hpb : ∀ b : List Int, b.Perm (srt (lnL fr)) → ∀ j, j < b.length → 0 ≤ b.getD j 0 ∧ b.getD j 0 ≤ 8191 := fun b hb j hj => perm_bd hF hk.2 hb hj); (try have hne : o ≠ srt (lnL fr) := fun e => (h2 : ¬ EqP _ _) ((eqP_q _ _ (by rw [arr_len (by omega), arr_len (by rw [srt_len, lnL_len]; omega)])).2 (by rw [e]))); (try have heq : o = srt (lnL fr) := arr_inj (by rw [srt_len, lnL_len]; omega) ((eqP_q _ _ (by rw [arr_len (by omega), arr_len (by rw [srt_len, lnL_len]; omega)])).1 (h2 : EqP _ _)))
      refine code_seq (fun K5 hK5 => ?_)
      refine code_region ?_
      refine list_cons rfl (op_buildSlice sl_26 (parts := []) rfl rfl rfl (by decide) (by decide) (by decide) rfl ?_)
      refine list_cons rfl (op_q (q_assign rfl (by decide)) ?_)
      refine list_cons rfl (op_q (q_assign rfl (by decide)) ?_)
      refine list_cons rfl (op_q (q_assign rfl (by decide)) ?_)
      refine list_nil ?_
      refine hK5 _ ?_; clear hK5 K5
      refine codeT.imp (σ' := [(0, _), (1, _), (4, _), (5, _), (6, _), (7, _)]) ?_ (imp_covers ⟨rfl, rfl, rfl, rfl, rfl, rfl, trivial⟩)
      refine code_ret ?_
      refine then_r ?_; clear hK2 K2
      refine ends_ret (cs := []) rfl rfl rfl rfl trivial ?_
      first
        | (have hLs : LsP k fr := ⟨hg, by omega⟩
           have hB : BstAll rgC (srt (lnL fr)) b := srch_end (by rw [heq] at hS; exact hS)
           refine ⟨b, fun _ => hB, ?_⟩
           simp only [if_pos hLs, decide_eq_true hLs]; done)
        | (have hLs : ¬ LsP k fr := fun z => by have z1 := z.1; have z2 := z.2; first | contradiction | omega
           refine ⟨[], fun z => absurd z hLs, ?_⟩
           simp only [if_neg hLs, decide_eq_false hLs]; first | done | rfl)
    (try simp only [Decidable.not_not] at h2); (try have hg := (h2 : GdP k fr); try have hk := hg.1; try have hF := hg.2; try have h12 := hF.1; try have hfl := fl_len fr; try have hpb : ∀ b : List Int, b.Perm (srt (lnL fr)) → ∀ j, j < b.length → 0 ≤ b.getD j 0 ∧ b.getD j 0 ≤ 8191 := fun b hb j hj => perm_bd hF hk.2 hb hj); (try have hne : o ≠ srt (lnL fr) := fun e => (h2 : ¬ EqP _ _) ((eqP_q _ _ (by rw [arr_len (by omega), arr_len (by rw [srt_len, lnL_len]; omega)])).2 (by rw [e]))); (try have heq : o = srt (lnL fr) := arr_inj (by rw [srt_len, lnL_len]; omega) ((eqP_q _ _ (by rw [arr_len (by omega), arr_len (by rw [srt_len, lnL_len]; omega)])).1 (h2 : EqP _ _)))
    refine code_skip ?_
    refine hK2 _ ?_; clear hK2 K2
    refine codeT.imp (σ' := [(0, _), (1, _), (4, _), (5, _), (6, _), (7, _)]) ?_ (imp_covers ⟨rfl, rfl, rfl, rfl, rfl, rfl, trivial⟩)
    refine code_seq (fun K6 hK6 => ?_)
    refine code_region ?_
    refine list_cons rfl (op_alloc zt_50 (by decide) (by decide) rfl ?_)
    refine list_nil ?_
    refine hK6 _ ?_; clear hK6 K6
    refine code_seq (fun K7 hK7 => ?_)
    refine any_start fun ob3_0 => ?_
    refine any_op (rd := [9]) ob3_0 rfl rfl rfl (anyT_quiet [(9, _)] ⟨rfl, trivial⟩ rfl (q_sliceBox Try.underlying50 one_3.2 rfl rfl rfl (by first | omega | (rw [lnL_len]; omega)) (by first | omega | (rw [lnL_len]; omega)) (by first | omega | (rw [lnL_len]; omega)) (by decide))) (fun ob3_1 => ?_)
    refine any_op (rd := [1]) ob3_1 rfl rfl rfl (anyT_quiet [(1, _)] ⟨rfl, trivial⟩ rfl (q_move rfl (by decide))) (fun ob3_2 => ?_)
    refine any_op (rd := [30]) ob3_2 rfl rfl rfl (fun σ hag hfr => by have e30 : σ.at 30 = some _ := (hag 30 (by decide)).trans rfl; exact op_call _ (impl_linesOf k fr hk.2 hF) (evs_cons e30 evs_nil) rfl (by decide) (by decide) (by decide) hfr (fun rs hR => by subst hR; rfl)) (fun ob3_3 => ?_)
    refine any_end [[], [], [1], [0, 1, 2], [0, 1, 2, 3]] ob3_3 (by kernel_rfl) (Nat.le_of_ble_eq_true rfl) (by decide) (by decide) (by kernel_rfl) (by kernel_rfl) (by kernel_rfl) (by kernel_rfl) (by kernel_rfl) ?_
    clear ob3_0 ob3_1 ob3_2 ob3_3
    refine listT.imp (σ' := [(0, _), (1, _), (4, _), (5, _), (6, _), (7, _), (9, _), (29, _), (30, _), (31, _)]) ?_ (imp_covers ⟨rfl, rfl, rfl, rfl, rfl, rfl, rfl, rfl, rfl, rfl, trivial⟩)
    refine list_cons rfl (op_copyV Try.underlying44 (by kernel_rfl) 9 rfl rfl rfl rfl (flat_map _ (fun _ => rfl) _) (by rw [List.length_map]) (by rw [lnL_len]; show _ ≤ 10; omega) (by decide) (by decide) ?_)
    refine list_cons rfl (op_q (q_assign rfl (by decide)) ?_)
    refine list_nil ?_
    refine hK7 _ ?_; clear hK7 K7
    refine codeT.imp (σ' := [(0, _), (1, _), (4, _), (5, _), (6, _), (7, _), (9, .box 9 50 ((arr (lnL fr)).map (.int .i64))), (10, _)]) ?_ (imp_covers ⟨rfl, rfl, rfl, rfl, rfl, rfl, (congrArg (fun z => some (SV.box 9 50 z)) (arr_put (by rw [lnL_len]; omega))), rfl, trivial⟩)
    refine code_seq (fun K8 hK8 => ?_)
    refine code_region ?_
    refine list_cons rfl (op_q (q_move rfl (by decide)) ?_)
    refine list_cons rfl (op_q (q_sliceBox Try.underlying50 one_3.2 rfl rfl ⟨_, rfl⟩ (by first | omega | (rw [lnL_len]; omega)) (by first | omega | (rw [lnL_len]; omega)) (by first | omega | (rw [lnL_len]; omega)) (by decide)) ?_)
    refine listT.imp ?_ (imp_vbox (h := 9) (x := 34) rfl rfl)
    refine list_cons rfl (op_callM (sort_V _ _ _ (arr (lnL fr)) ?_ ?_) (.tmp 34) 9 [34] [] _ rfl rfl (by intro y hy; cases hy; exact ⟨rfl, (by intro t ht; simp only [List.mem_cons, List.not_mem_nil, or_false] at ht; subst ht; rfl), (by intro s hs; simp only [List.mem_cons, List.not_mem_nil, or_false] at hs; (try cases hs))⟩) (by decide) (by decide) (by decide) rfl (fun _ => rfl) ?_)
    · (rw [arr_len (by rw [lnL_len]; omega), lnL_len]; omega)
    · (rw [arr_len (by rw [lnL_len]; omega)]; omega)
    rintro _ _ ⟨rfl, rfl⟩
    refine listT.imp ?_ (imp_unvbox (h := 9) (x := 34) rfl rfl)
    refine list_nil ?_
    refine hK8 _ ?_; clear hK8 K8
    refine codeT.imp (σ' := [(0, _), (1, _), (4, _), (5, _), (6, _), (7, _), (9, .box 9 50 ((arr (srt (lnL fr))).map (.int .i64))), (10, _)]) ?_ (imp_covers ⟨rfl, rfl, rfl, rfl, rfl, rfl, (congrArg (fun z => some (SV.box 9 50 (List.map (PV.int .i64) z))) (arr_srt (by rw [lnL_len]; omega))), rfl, trivial⟩)
    refine code_seq (fun K9 hK9 => ?_)
    refine any_start fun ob4_0 => ?_
    refine any_op (rd := [9]) ob4_0 rfl rfl rfl (anyT_quiet [(9, _)] ⟨rfl, trivial⟩ rfl (q_cast (q_load_agg agg_50 9 (.inr ⟨rfl, _, rfl⟩) rfl rfl (by first | exact Nat.le_of_ble_eq_true rfl | (rw [List.length_map, arr_len (by rw [srt_len, lnL_len]; omega)]; decide) | (rw [List.length_map, arr_len (by omega)]; decide) | (rw [List.length_map, arr_len (by rw [lnL_len]; omega)]; decide)) (by first | rfl | exact flat_part (flat_map _ (fun _ => rfl) _) _ _) (by decide)) (congrArg (fun z => SV.val (PV.agg z)) (ld10 (by first | exact arr_len (by rw [srt_len, lnL_len]; omega) | exact arr_len (by omega)))))) (fun ob4_1 => ?_)
    refine any_op (rd := [10]) ob4_1 rfl rfl rfl (anyT_quiet [(10, _)] ⟨rfl, trivial⟩ rfl (q_move rfl (by decide))) (fun ob4_2 => ?_)
    refine any_op (rd := [9, 37]) ob4_2 rfl rfl rfl (anyT_quiet [(9, _), (37, _)] ⟨rfl, rfl, trivial⟩ rfl (q_sliceBoxB Try.underlying50 one_3.2 rfl rfl ⟨_, rfl⟩ (by first | omega | (rw [lnL_len]; omega)) (by first | omega | (rw [lnL_len]; omega)) (by first | omega | (rw [lnL_len]; omega)) (by decide))) (fun ob4_3 => ?_)
    refine any_op (rd := [38]) ob4_3 rfl rfl rfl (fun σ hag hfr => by have e38 : σ.at 38 = some _ := (hag 38 (by decide)).trans rfl; exact op_call _ (ringE _ _ (srt (lnL fr)) (by rw [srt_len]; omega) (arr_part (by rw [srt_len]; omega)) (by rw [srt_len, lnL_len]; omega) (hpb _ (List.Perm.refl _))) (evs_cons e38 evs_nil) rfl (by decide) (by decide) (by decide) hfr (fun rs hR => by subst hR; rfl)) (fun ob4_4 => ?_)
    refine any_op (rd := []) ob4_4 rfl rfl rfl (fun σ hag hfr => op_alloc zt_50 (by decide) (by decide) (fr1000 hfr (by decide)) rfl) (fun ob4_5 => ?_)
    refine any_end [[], [], [1], [1, 2], [], [0, 1, 2, 3, 4], [0, 1, 2, 3, 4, 5]] ob4_5 (by kernel_rfl) (Nat.le_of_ble_eq_true rfl) (by decide) (by decide) (by kernel_rfl) (by kernel_rfl) (by kernel_rfl) (by kernel_rfl) (by kernel_rfl) ?_
    clear ob4_0 ob4_1 ob4_2 ob4_3 ob4_4 ob4_5
    refine listT.imp (σ' := [(0, _), (1, _), (4, _), (5, _), (6, _), (7, _), (9, _), (10, _), (11, _), (36, _), (37, _), (38, _), (39, _)]) ?_ (imp_covers ⟨rfl, rfl, rfl, rfl, rfl, rfl, rfl, rfl, rfl, rfl, rfl, rfl, rfl, trivial⟩)
    refine list_cons rfl (op_store (agg_50).2 11 [11] (by intro t ht; simp only [List.mem_cons, List.not_mem_nil, or_false] at ht; subst ht; rfl) (.inr ⟨rfl, _, rfl⟩) rfl rfl rfl rfl (by first | rfl | exact flat_part (flat_map _ (fun _ => rfl) _) _ _ | exact flat_map _ (fun _ => rfl) _) (by first | rfl | (simp only [PV.cells, List.length_map]; first | exact arr_len (by rw [srt_len, lnL_len]; omega) | exact arr_len (by omega))) (by first | decide | (rw [List.length_map, arr_len (by rw [srt_len, lnL_len]; omega)]; decide) | (rw [List.length_map, arr_len (by omega)]; decide)) (by decide) rfl ?_)
    refine list_cons rfl (op_q (q_assign rfl (by decide)) ?_)
    refine list_nil ?_
    refine hK9 _ ?_; clear hK9 K9
    refine codeT.imp (σ' := [(0, _), (1, _), (4, _), (5, _), (6, _), (7, _), (9, _), (10, _), (11, .box 11 50 _), (12, _)]) ?_ (imp_covers ⟨rfl, rfl, rfl, rfl, rfl, rfl, rfl, rfl, (congrArg (fun z => some (SV.box 11 50 z)) (put_all8 (n := 10) (by first | rfl | (simp only [List.length_map]; exact arr_len (by omega)) | (simp only [List.length_map]; exact arr_len (by rw [srt_len, lnL_len]; omega))) (by simp only [List.length_map]; first | exact arr_len (by omega) | exact arr_len (by rw [srt_len, lnL_len]; omega)))), rfl, trivial⟩)
    refine code_seq (fun K10 hK10 => ?_)
    refine code_seq (fun K11 hK11 => ?_)
    refine code_region ?_
    refine list_cons rfl (op_q (q_cast (q_load_agg agg_50 9 (.inr ⟨rfl, _, rfl⟩) rfl rfl (by first | exact Nat.le_of_ble_eq_true rfl | (rw [List.length_map, arr_len (by rw [srt_len, lnL_len]; omega)]; decide) | (rw [List.length_map, arr_len (by omega)]; decide) | (rw [List.length_map, arr_len (by rw [lnL_len]; omega)]; decide)) (by first | rfl | exact flat_part (flat_map _ (fun _ => rfl) _) _ _) (by decide)) (congrArg (fun z => SV.val (PV.agg z)) (ld10 (by first | exact arr_len (by rw [srt_len, lnL_len]; omega) | exact arr_len (by omega))))) ?_)
    refine list_cons rfl (op_q (q_move rfl (by decide)) ?_)
    refine list_cons rfl (op_call _ (afterE _ _ (srt (lnL fr)) (by rw [srt_len]) rfl (by rw [srt_len, lnL_len]; omega)) rfl rfl (by decide) (by decide) (by decide) rfl ?_)
    rintro _ ⟨o1, ho1, rfl⟩; have ho1l : o1.length ≤ 10 := by rw [ho1.perm.length_eq, srt_len, lnL_len]; omega
    refine list_cons rfl (op_alloc zt_50 (by decide) (by decide) rfl ?_)
    refine list_cons rfl (op_store (agg_50).2 13 [13] (by intro t ht; simp only [List.mem_cons, List.not_mem_nil, or_false] at ht; subst ht; rfl) (.inr ⟨rfl, _, rfl⟩) rfl rfl rfl rfl (by first | rfl | exact flat_part (flat_map _ (fun _ => rfl) _) _ _ | exact flat_map _ (fun _ => rfl) _) (by first | rfl | (simp only [PV.cells, List.length_map]; first | exact arr_len (by rw [srt_len, lnL_len]; omega) | exact arr_len (by omega))) (by first | decide | (rw [List.length_map, arr_len (by rw [srt_len, lnL_len]; omega)]; decide) | (rw [List.length_map, arr_len (by omega)]; decide)) (by decide) rfl ?_)
    refine list_nil ?_
    refine hK11 _ ?_; clear hK11 K11
    refine codeT.imp (σ' := [(0, _), (1, _), (4, _), (5, _), (6, _), (7, _), (9, _), (10, _), (11, _), (12, _), (13, .box 13 50 _)]) ?_ (imp_covers ⟨rfl, rfl, rfl, rfl, rfl, rfl, rfl, rfl, rfl, rfl, (congrArg (fun z => some (SV.box 13 50 z)) (put_all8 (n := 10) (by first | rfl | (simp only [List.length_map]; exact arr_len (by omega)) | (simp only [List.length_map]; exact arr_len (by rw [srt_len, lnL_len]; omega))) (by simp only [List.length_map]; first | exact arr_len (by omega) | exact arr_len (by rw [srt_len, lnL_len]; omega)))), trivial⟩)
    refine code_block ?_
    refine code_loop (X := PV × Int × Bool × Bool × List PV × Int × List PV) (fun x => [(0, .val (.int .i64 k)), (1, .par 1 (.sl fr.length (fl fr))), (4, .val x.1), (5, .val (.int .i64 x.2.1)), (6, .val (.bool x.2.2.1)), (7, .val (.bool x.2.2.2.1)), (9, .box 9 50 ((arr (srt (lnL fr))).map (.int .i64))), (10, .val (.int .i64 ((lnL fr).length : Nat))), (11, .box 11 50 x.2.2.2.2.1), (12, .val (.int .i64 x.2.2.2.2.2.1)), (13, .box 13 50 x.2.2.2.2.2.2)]) (fun x => ∃ o b : List Int, x.2.2.2.2.2.2 = (arr o).map (.int .i64) ∧ x.2.2.2.2.1 = (arr b).map (.int .i64) ∧ x.2.2.2.2.2.1 = rgC b ∧ Srch rgC (srt (lnL fr)) o b) (fun x => muS (srt (lnL fr)) x.2.2.2.2.2.2) (_, _, _, _, _, _, _) (imp_covers ⟨rfl, rfl, rfl, rfl, rfl, rfl, rfl, rfl, rfl, rfl, rfl, trivial⟩) ?_ ?_
    · (try dsimp only)
      exact ⟨o1, srt (lnL fr), rfl, rfl, rfl, (srch_next hfa (hst_0 rgC hfa) (List.Perm.refl _) ho1).1⟩
    · intro x hI
      obtain ⟨t4_p, t5, t6, is, best_c, fewest, order_c⟩ := x
      replace hI : ∃ o b : List Int, order_c = (arr o).map (.int .i64) ∧ best_c = (arr b).map (.int .i64) ∧ fewest = rgC b ∧ Srch rgC (srt (lnL fr)) o b := hI
      show codeT _ _ _ [(0, .val (.int .i64 k)), (1, .par 1 (.sl fr.length (fl fr))), (4, .val t4_p), (5, .val (.int .i64 t5)), (6, .val (.bool t6)), (7, .val (.bool is)), (9, .box 9 50 ((arr (srt (lnL fr))).map (.int .i64))), (10, .val (.int .i64 ((lnL fr).length : Nat))), (11, .box 11 50 best_c), (12, .val (.int .i64 fewest)), (13, .box 13 50 order_c)] _
      obtain ⟨o, b, rfl, rfl, rfl, hS⟩ := hI
      have hb := hS.1
      have ho := hS.2.1
      have hol : o.length = fr.length := by rw [ho.length_eq, srt_len, lnL_len]
      have hbl : b.length = fr.length := by rw [hb.length_eq, srt_len, lnL_len]
      refine code_seq (fun K12 hK12 => ?_)
      refine code_seq (fun K13 hK13 => ?_)
      refine code_region ?_
      refine list_cons rfl (op_q (q_cast (q_load_agg agg_50 13 (.inr ⟨rfl, _, rfl⟩) rfl rfl (by first | exact Nat.le_of_ble_eq_true rfl | (rw [List.length_map, arr_len (by rw [srt_len, lnL_len]; omega)]; decide) | (rw [List.length_map, arr_len (by omega)]; decide) | (rw [List.length_map, arr_len (by rw [lnL_len]; omega)]; decide)) (by first | rfl | exact flat_part (flat_map _ (fun _ => rfl) _) _ _) (by decide)) (congrArg (fun z => SV.val (PV.agg z)) (ld10 (by first | exact arr_len (by rw [srt_len, lnL_len]; omega) | exact arr_len (by omega))))) ?_)
      refine list_cons rfl (op_q (q_cast (q_load_agg agg_50 9 (.inr ⟨rfl, _, rfl⟩) rfl rfl (by first | exact Nat.le_of_ble_eq_true rfl | (rw [List.length_map, arr_len (by rw [srt_len, lnL_len]; omega)]; decide) | (rw [List.length_map, arr_len (by omega)]; decide) | (rw [List.length_map, arr_len (by rw [lnL_len]; omega)]; decide)) (by first | rfl | exact flat_part (flat_map _ (fun _ => rfl) _) _ _) (by decide)) (congrArg (fun z => SV.val (PV.agg z)) (ld10 (by first | exact arr_len (by rw [srt_len, lnL_len]; omega) | exact arr_len (by omega))))) ?_)
      refine list_cons rfl (op_q (q_aggne (by decide) agg_50 eqty_50 eqg_50 rfl rfl (hasK_q 10 _ (by first | (rw [arr_len (by rw [srt_len, lnL_len]; omega)]; decide) | (rw [arr_len (by omega)]; decide))) (hasK_q 10 _ (by first | (rw [arr_len (by rw [srt_len, lnL_len]; omega)]; decide) | (rw [arr_len (by omega)]; decide))) (by rw [List.length_map]; first | (rw [arr_len (by rw [srt_len, lnL_len]; omega)]; rfl) | (rw [arr_len (by omega)]; rfl)) (by rw [List.length_map]; first | (rw [arr_len (by rw [srt_len, lnL_len]; omega)]; rfl) | (rw [arr_len (by omega)]; rfl)) (by decide)) ?_)
      refine list_nil ?_
      refine hK13 _ ?_; clear hK13 K13
      refine code_cond_d rfl (fun h3 => ?_) (fun h3 => ?_)
      · skip
        (try simp only [Decidable.not_not] at h3); (try have hg := (h3 : GdP k fr); try have hk := hg.1; try have hF := hg.2; try have h12 := hF.1; try have hfl := fl_len fr; try have hpb : ∀ b : List Int, b.Perm (srt (lnL fr)) → ∀ j, j < b.length → 0 ≤ b.getD j 0 ∧ b.getD j 0 ≤ 8191 := fun b hb j hj => perm_bd hF hk.2 hb hj); (try have hne : o ≠ srt (lnL fr) := fun e => (h3 : ¬ EqP _ _) ((eqP_q _ _ (by rw [arr_len (by omega), arr_len (by rw [srt_len, lnL_len]; omega)])).2 (by rw [e]))); (try have heq : o = srt (lnL fr) := arr_inj (by rw [srt_len, lnL_len]; omega) ((eqP_q _ _ (by rw [arr_len (by omega), arr_len (by rw [srt_len, lnL_len]; omega)])).1 (h3 : EqP _ _)))
        refine code_skip ?_
        refine hK12 _ ?_; clear hK12 K12
        refine code_seq (fun K14 hK14 => ?_)
        refine code_block ?_
        refine code_seq (fun K15 hK15 => ?_)
        refine code_region ?_
        refine list_cons rfl (op_q (q_move rfl (by decide)) ?_)
        refine list_cons rfl (op_q (q_sliceBoxB Try.underlying50 one_3.2 rfl rfl ⟨_, rfl⟩ (by first | omega | (rw [lnL_len]; omega)) (by first | omega | (rw [lnL_len]; omega)) (by first | omega | (rw [lnL_len]; omega)) (by decide)) ?_)
        refine list_cons rfl (op_call _ (ringE _ _ o (by rw [hol, lnL_len]; omega) (arr_part (by rw [hol, lnL_len]; omega)) (by omega) (hpb o ho)) rfl rfl (by decide) (by decide) (by decide) rfl ?_)
        rintro _ rfl
        refine list_cons rfl (op_q (q_assign rfl (by decide)) ?_)
        refine list_nil ?_
        refine hK15 _ ?_; clear hK15 K15
        refine codeT.imp (σ' := [(0, _), (1, _), (4, _), (5, _), (6, _), (7, _), (9, _), (10, _), (11, _), (12, _), (13, _), (14, _)]) ?_ (imp_covers ⟨rfl, rfl, rfl, rfl, rfl, rfl, rfl, rfl, rfl, rfl, rfl, rfl, trivial⟩)
        refine code_seq (fun K16 hK16 => ?_)
        refine code_region ?_
        refine list_cons rfl (op_q (q_move rfl (by decide)) ?_)
        refine list_cons rfl (op_q (q_move rfl (by decide)) ?_)
        refine list_cons rfl (op_q (q_lt rfl rfl (by decide)) ?_)
        refine list_nil ?_
        refine hK16 _ ?_; clear hK16 K16
        refine code_cond_d rfl (fun h4 => ?_) (fun h4 => ?_)
        · skip
          (try simp only [Decidable.not_not] at h4); (try have hg := (h4 : GdP k fr); try have hk := hg.1; try have hF := hg.2; try have h12 := hF.1; try have hfl := fl_len fr; try have hpb : ∀ b : List Int, b.Perm (srt (lnL fr)) → ∀ j, j < b.length → 0 ≤ b.getD j 0 ∧ b.getD j 0 ≤ 8191 := fun b hb j hj => perm_bd hF hk.2 hb hj); (try have hne : o ≠ srt (lnL fr) := fun e => (h4 : ¬ EqP _ _) ((eqP_q _ _ (by rw [arr_len (by omega), arr_len (by rw [srt_len, lnL_len]; omega)])).2 (by rw [e]))); (try have heq : o = srt (lnL fr) := arr_inj (by rw [srt_len, lnL_len]; omega) ((eqP_q _ _ (by rw [arr_len (by omega), arr_len (by rw [srt_len, lnL_len]; omega)])).1 (h4 : EqP _ _)))
          refine code_region ?_
          refine list_cons rfl (op_q (q_cast (q_load_agg agg_50 13 (.inr ⟨rfl, _, rfl⟩) rfl rfl (by first | exact Nat.le_of_ble_eq_true rfl | (rw [List.length_map, arr_len (by rw [srt_len, lnL_len]; omega)]; decide) | (rw [List.length_map, arr_len (by omega)]; decide) | (rw [List.length_map, arr_len (by rw [lnL_len]; omega)]; decide)) (by first | rfl | exact flat_part (flat_map _ (fun _ => rfl) _) _ _) (by decide)) (congrArg (fun z => SV.val (PV.agg z)) (ld10 (by first | exact arr_len (by rw [srt_len, lnL_len]; omega) | exact arr_len (by omega))))) ?_)
          refine list_cons rfl (op_q (q_move rfl (by decide)) ?_)
          refine list_cons rfl (op_store (agg_50).2 11 [11] (by intro t ht; simp only [List.mem_cons, List.not_mem_nil, or_false] at ht; subst ht; rfl) (.inr ⟨rfl, _, rfl⟩) rfl rfl rfl rfl (by first | rfl | exact flat_part (flat_map _ (fun _ => rfl) _) _ _ | exact flat_map _ (fun _ => rfl) _) (by first | rfl | (simp only [PV.cells, List.length_map]; first | exact arr_len (by rw [srt_len, lnL_len]; omega) | exact arr_len (by omega))) (by first | decide | (rw [List.length_map, arr_len (by rw [srt_len, lnL_len]; omega)]; decide) | (rw [List.length_map, arr_len (by omega)]; decide)) (by decide) rfl ?_)
          refine list_cons rfl (op_q (q_assign rfl (by decide)) ?_)
          refine list_nil ?_
          refine blk_n ?_
          refine hK14 _ ?_; clear hK14 K14
          refine codeT.imp (σ' := [(0, _), (1, _), (4, _), (5, _), (6, _), (7, _), (9, _), (10, _), (11, .box 11 50 _), (12, _), (13, _), (14, _)]) ?_ (imp_covers ⟨rfl, rfl, rfl, rfl, rfl, rfl, rfl, rfl, (congrArg (fun z => some (SV.box 11 50 z)) (put_all8 (n := 10) (by first | rfl | (simp only [List.length_map]; exact arr_len (by omega)) | (simp only [List.length_map]; exact arr_len (by rw [srt_len, lnL_len]; omega))) (by simp only [List.length_map]; first | exact arr_len (by omega) | exact arr_len (by rw [srt_len, lnL_len]; omega)))), rfl, rfl, rfl, trivial⟩)
          refine code_seq (fun K17 hK17 => ?_)
          refine code_seq (fun K18 hK18 => ?_)
          refine code_region ?_
          refine list_cons rfl (op_q (q_cast (q_load_agg agg_50 13 (.inr ⟨rfl, _, rfl⟩) rfl rfl (by first | exact Nat.le_of_ble_eq_true rfl | (rw [List.length_map, arr_len (by rw [srt_len, lnL_len]; omega)]; decide) | (rw [List.length_map, arr_len (by omega)]; decide) | (rw [List.length_map, arr_len (by rw [lnL_len]; omega)]; decide)) (by first | rfl | exact flat_part (flat_map _ (fun _ => rfl) _) _ _) (by decide)) (congrArg (fun z => SV.val (PV.agg z)) (ld10 (by first | exact arr_len (by rw [srt_len, lnL_len]; omega) | exact arr_len (by omega))))) ?_)
          refine list_nil ?_
          refine hK18 _ ?_; clear hK18 K18
          refine code_region ?_
          refine listT.imp (σ' := [(0, _), (1, _), (4, _), (5, _), (6, _), (7, _), (9, _), (10, _), (11, _), (12, _), (14, _), (57, _)]) ?_ (imp_covers ⟨rfl, rfl, rfl, rfl, rfl, rfl, rfl, rfl, rfl, rfl, rfl, rfl, trivial⟩)
          refine list_cons rfl (op_alloc zt_50 (by decide) (by decide) rfl ?_)
          refine list_cons rfl (op_store (agg_50).2 13 [13] (by intro t ht; simp only [List.mem_cons, List.not_mem_nil, or_false] at ht; subst ht; rfl) (.inr ⟨rfl, _, rfl⟩) rfl rfl rfl rfl (by first | rfl | exact flat_part (flat_map _ (fun _ => rfl) _) _ _ | exact flat_map _ (fun _ => rfl) _) (by first | rfl | (simp only [PV.cells, List.length_map]; first | exact arr_len (by rw [srt_len, lnL_len]; omega) | exact arr_len (by omega))) (by first | decide | (rw [List.length_map, arr_len (by rw [srt_len, lnL_len]; omega)]; decide) | (rw [List.length_map, arr_len (by omega)]; decide)) (by decide) rfl ?_)
          refine list_nil ?_
          refine hK17 _ ?_; clear hK17 K17
          refine codeT.imp (σ' := [(0, _), (1, _), (4, _), (5, _), (6, _), (7, _), (9, _), (10, _), (11, _), (12, _), (13, .box 13 50 _), (14, _), (57, _)]) ?_ (imp_covers ⟨rfl, rfl, rfl, rfl, rfl, rfl, rfl, rfl, rfl, rfl, (congrArg (fun z => some (SV.box 13 50 z)) (put_all8 (n := 10) (by first | rfl | (simp only [List.length_map]; exact arr_len (by omega)) | (simp only [List.length_map]; exact arr_len (by rw [srt_len, lnL_len]; omega))) (by simp only [List.length_map]; first | exact arr_len (by omega) | exact arr_len (by rw [srt_len, lnL_len]; omega)))), rfl, rfl, trivial⟩)
          refine code_region ?_
          refine list_cons rfl (op_q (q_cast (q_load_agg agg_50 13 (.inr ⟨rfl, _, rfl⟩) rfl rfl (by first | exact Nat.le_of_ble_eq_true rfl | (rw [List.length_map, arr_len (by rw [srt_len, lnL_len]; omega)]; decide) | (rw [List.length_map, arr_len (by omega)]; decide) | (rw [List.length_map, arr_len (by rw [lnL_len]; omega)]; decide)) (by first | rfl | exact flat_part (flat_map _ (fun _ => rfl) _) _ _) (by decide)) (congrArg (fun z => SV.val (PV.agg z)) (ld10 (by first | exact arr_len (by rw [srt_len, lnL_len]; omega) | exact arr_len (by omega))))) ?_)
          refine list_cons rfl (op_q (q_move rfl (by decide)) ?_)
          refine list_cons rfl (op_call _ (afterE _ _ o (by rw [hol, lnL_len]) rfl (by omega)) rfl rfl (by decide) (by decide) (by decide) rfl ?_)
          rintro _ ⟨o2, ho2, rfl⟩; have ho2l : o2.length ≤ 10 := by rw [ho2.perm.length_eq]; omega
          refine list_cons rfl (op_store (agg_50).2 13 [13] (by intro t ht; simp only [List.mem_cons, List.not_mem_nil, or_false] at ht; subst ht; rfl) (.inr ⟨rfl, _, rfl⟩) rfl rfl rfl rfl (by first | rfl | exact flat_part (flat_map _ (fun _ => rfl) _) _ _ | exact flat_map _ (fun _ => rfl) _) (by first | rfl | (simp only [PV.cells, List.length_map]; first | exact arr_len (by rw [srt_len, lnL_len]; omega) | exact arr_len (by omega))) (by first | decide | (rw [List.length_map, arr_len (by rw [srt_len, lnL_len]; omega)]; decide) | (rw [List.length_map, arr_len (by omega)]; decide)) (by decide) rfl ?_)
          refine list_nil ?_
          refine then_n ⟨(_, _, _, _, _, _, _), imp_covers ⟨rfl, rfl, rfl, rfl, rfl, rfl, rfl, rfl, rfl, rfl, rfl, trivial⟩, ?_, ?_⟩
          · (try dsimp only)
            have hH := hst_up hS hne
            first
              | (have hx : rgC o < rgC b := (by assumption)
                 rw [if_pos hx] at hH
                 exact ⟨o2, o, (put_all8 (n := 10) (by first | rfl | (simp only [List.length_map]; exact arr_len (by omega)) | (simp only [List.length_map]; exact arr_len (by rw [srt_len, lnL_len]; omega))) (by simp only [List.length_map]; first | exact arr_len (by omega) | exact arr_len (by rw [srt_len, lnL_len]; omega))), rfl, rfl, (srch_next hfa hH ho ho2).1⟩)
              | (have hx : ¬ rgC o < rgC b := (by assumption)
                 rw [if_neg hx] at hH
                 exact ⟨o2, b, (put_all8 (n := 10) (by first | rfl | (simp only [List.length_map]; exact arr_len (by omega)) | (simp only [List.length_map]; exact arr_len (by rw [srt_len, lnL_len]; omega))) (by simp only [List.length_map]; first | exact arr_len (by omega) | exact arr_len (by rw [srt_len, lnL_len]; omega))), rfl, rfl, (srch_next hfa hH ho ho2).1⟩)
          · (have hq : putAt ((arr o).map (PV.int .i64)) 0 (PV.agg ((arr o2).map (PV.int .i64))).cells = (arr o2).map (PV.int .i64) := put_all8 (n := 10) (by rw [List.length_map]; exact arr_len (by omega)) (by rw [List.length_map]; exact arr_len (by omega)); show muS (srt (lnL fr)) (putAt ((arr o).map (PV.int .i64)) 0 (PV.agg ((arr o2).map (PV.int .i64))).cells) < muS (srt (lnL fr)) ((arr o).map (PV.int .i64)); rw [hq, muS_arr (by rw [ho2.perm.length_eq, ho.length_eq]), muS_arr ho.length_eq]; exact cntF_lt (ho2.perm.trans ho) hne (srch_next hfa (hst_up hS hne) ho ho2).2)
        (try simp only [Decidable.not_not] at h4); (try have hg := (h4 : GdP k fr); try have hk := hg.1; try have hF := hg.2; try have h12 := hF.1; try have hfl := fl_len fr; try have hpb : ∀ b : List Int, b.Perm (srt (lnL fr)) → ∀ j, j < b.length → 0 ≤ b.getD j 0 ∧ b.getD j 0 ≤ 8191 := fun b hb j hj => perm_bd hF hk.2 hb hj); (try have hne : o ≠ srt (lnL fr) := fun e => (h4 : ¬ EqP _ _) ((eqP_q _ _ (by rw [arr_len (by omega), arr_len (by rw [srt_len, lnL_len]; omega)])).2 (by rw [e]))); (try have heq : o = srt (lnL fr) := arr_inj (by rw [srt_len, lnL_len]; omega) ((eqP_q _ _ (by rw [arr_len (by omega), arr_len (by rw [srt_len, lnL_len]; omega)])).1 (h4 : EqP _ _)))
        refine code_skip ?_
        refine blk_n ?_
        refine hK14 _ ?_; clear hK14 K14
        refine codeT.imp (σ' := [(0, _), (1, _), (4, _), (5, _), (6, _), (7, _), (9, _), (10, _), (11, _), (12, _), (13, _), (14, _)]) ?_ (imp_covers ⟨rfl, rfl, rfl, rfl, rfl, rfl, rfl, rfl, rfl, rfl, rfl, rfl, trivial⟩)
        refine code_seq (fun K19 hK19 => ?_)
        refine code_seq (fun K20 hK20 => ?_)
        refine code_region ?_
        refine list_cons rfl (op_q (q_cast (q_load_agg agg_50 13 (.inr ⟨rfl, _, rfl⟩) rfl rfl (by first | exact Nat.le_of_ble_eq_true rfl | (rw [List.length_map, arr_len (by rw [srt_len, lnL_len]; omega)]; decide) | (rw [List.length_map, arr_len (by omega)]; decide) | (rw [List.length_map, arr_len (by rw [lnL_len]; omega)]; decide)) (by first | rfl | exact flat_part (flat_map _ (fun _ => rfl) _) _ _) (by decide)) (congrArg (fun z => SV.val (PV.agg z)) (ld10 (by first | exact arr_len (by rw [srt_len, lnL_len]; omega) | exact arr_len (by omega))))) ?_)
        refine list_nil ?_
        refine hK20 _ ?_; clear hK20 K20
        refine code_region ?_
        refine listT.imp (σ' := [(0, _), (1, _), (4, _), (5, _), (6, _), (7, _), (9, _), (10, _), (11, _), (12, _), (14, _), (57, _)]) ?_ (imp_covers ⟨rfl, rfl, rfl, rfl, rfl, rfl, rfl, rfl, rfl, rfl, rfl, rfl, trivial⟩)
        refine list_cons rfl (op_alloc zt_50 (by decide) (by decide) rfl ?_)
        refine list_cons rfl (op_store (agg_50).2 13 [13] (by intro t ht; simp only [List.mem_cons, List.not_mem_nil, or_false] at ht; subst ht; rfl) (.inr ⟨rfl, _, rfl⟩) rfl rfl rfl rfl (by first | rfl | exact flat_part (flat_map _ (fun _ => rfl) _) _ _ | exact flat_map _ (fun _ => rfl) _) (by first | rfl | (simp only [PV.cells, List.length_map]; first | exact arr_len (by rw [srt_len, lnL_len]; omega) | exact arr_len (by omega))) (by first | decide | (rw [List.length_map, arr_len (by rw [srt_len, lnL_len]; omega)]; decide) | (rw [List.length_map, arr_len (by omega)]; decide)) (by decide) rfl ?_)
        refine list_nil ?_
        refine hK19 _ ?_; clear hK19 K19
        refine codeT.imp (σ' := [(0, _), (1, _), (4, _), (5, _), (6, _), (7, _), (9, _), (10, _), (11, _), (12, _), (13, .box 13 50 _), (14, _), (57, _)]) ?_ (imp_covers ⟨rfl, rfl, rfl, rfl, rfl, rfl, rfl, rfl, rfl, rfl, (congrArg (fun z => some (SV.box 13 50 z)) (put_all8 (n := 10) (by first | rfl | (simp only [List.length_map]; exact arr_len (by omega)) | (simp only [List.length_map]; exact arr_len (by rw [srt_len, lnL_len]; omega))) (by simp only [List.length_map]; first | exact arr_len (by omega) | exact arr_len (by rw [srt_len, lnL_len]; omega)))), rfl, rfl, trivial⟩)
        refine code_region ?_
        refine list_cons rfl (op_q (q_cast (q_load_agg agg_50 13 (.inr ⟨rfl, _, rfl⟩) rfl rfl (by first | exact Nat.le_of_ble_eq_true rfl | (rw [List.length_map, arr_len (by rw [srt_len, lnL_len]; omega)]; decide) | (rw [List.length_map, arr_len (by omega)]; decide) | (rw [List.length_map, arr_len (by rw [lnL_len]; omega)]; decide)) (by first | rfl | exact flat_part (flat_map _ (fun _ => rfl) _) _ _) (by decide)) (congrArg (fun z => SV.val (PV.agg z)) (ld10 (by first | exact arr_len (by rw [srt_len, lnL_len]; omega) | exact arr_len (by omega))))) ?_)
        refine list_cons rfl (op_q (q_move rfl (by decide)) ?_)
        refine list_cons rfl (op_call _ (afterE _ _ o (by rw [hol, lnL_len]) rfl (by omega)) rfl rfl (by decide) (by decide) (by decide) rfl ?_)
        rintro _ ⟨o2, ho2, rfl⟩; have ho2l : o2.length ≤ 10 := by rw [ho2.perm.length_eq]; omega
        refine list_cons rfl (op_store (agg_50).2 13 [13] (by intro t ht; simp only [List.mem_cons, List.not_mem_nil, or_false] at ht; subst ht; rfl) (.inr ⟨rfl, _, rfl⟩) rfl rfl rfl rfl (by first | rfl | exact flat_part (flat_map _ (fun _ => rfl) _) _ _ | exact flat_map _ (fun _ => rfl) _) (by first | rfl | (simp only [PV.cells, List.length_map]; first | exact arr_len (by rw [srt_len, lnL_len]; omega) | exact arr_len (by omega))) (by first | decide | (rw [List.length_map, arr_len (by rw [srt_len, lnL_len]; omega)]; decide) | (rw [List.length_map, arr_len (by omega)]; decide)) (by decide) rfl ?_)
        refine list_nil ?_
        refine then_n ⟨(_, _, _, _, _, _, _), imp_covers ⟨rfl, rfl, rfl, rfl, rfl, rfl, rfl, rfl, rfl, rfl, rfl, trivial⟩, ?_, ?_⟩
        · (try dsimp only)
          have hH := hst_up hS hne
          first
            | (have hx : rgC o < rgC b := (by assumption)
               rw [if_pos hx] at hH
               exact ⟨o2, o, (put_all8 (n := 10) (by first | rfl | (simp only [List.length_map]; exact arr_len (by omega)) | (simp only [List.length_map]; exact arr_len (by rw [srt_len, lnL_len]; omega))) (by simp only [List.length_map]; first | exact arr_len (by omega) | exact arr_len (by rw [srt_len, lnL_len]; omega))), rfl, rfl, (srch_next hfa hH ho ho2).1⟩)
            | (have hx : ¬ rgC o < rgC b := (by assumption)
               rw [if_neg hx] at hH
               exact ⟨o2, b, (put_all8 (n := 10) (by first | rfl | (simp only [List.length_map]; exact arr_len (by omega)) | (simp only [List.length_map]; exact arr_len (by rw [srt_len, lnL_len]; omega))) (by simp only [List.length_map]; first | exact arr_len (by omega) | exact arr_len (by rw [srt_len, lnL_len]; omega))), rfl, rfl, (srch_next hfa hH ho ho2).1⟩)
        · (have hq : putAt ((arr o).map (PV.int .i64)) 0 (PV.agg ((arr o2).map (PV.int .i64))).cells = (arr o2).map (PV.int .i64) := put_all8 (n := 10) (by rw [List.length_map]; exact arr_len (by omega)) (by rw [List.length_map]; exact arr_len (by omega)); show muS (srt (lnL fr)) (putAt ((arr o).map (PV.int .i64)) 0 (PV.agg ((arr o2).map (PV.int .i64))).cells) < muS (srt (lnL fr)) ((arr o).map (PV.int .i64)); rw [hq, muS_arr (by rw [ho2.perm.length_eq, ho.length_eq]), muS_arr ho.length_eq]; exact cntF_lt (ho2.perm.trans ho) hne (srch_next hfa (hst_up hS hne) ho ho2).2)
      (try simp only [Decidable.not_not] at h3); (try have hg := (h3 : GdP k fr); try have hk := hg.1; try have hF := hg.2; try have h12 := hF.1; try have hfl := fl_len fr; try have hpb : ∀ b : List Int, b.Perm (srt (lnL fr)) → ∀ j, j < b.length → 0 ≤ b.getD j 0 ∧ b.getD j 0 ≤ 8191 := fun b hb j hj => perm_bd hF hk.2 hb hj); (try have hne : o ≠ srt (lnL fr) := fun e => (h3 : ¬ EqP _ _) ((eqP_q _ _ (by rw [arr_len (by omega), arr_len (by rw [srt_len, lnL_len]; omega)])).2 (by rw [e]))); (try have heq : o = srt (lnL fr) := arr_inj (by rw [srt_len, lnL_len]; omega) ((eqP_q _ _ (by rw [arr_len (by omega), arr_len (by rw [srt_len, lnL_len]; omega)])).1 (h3 : EqP _ _)))
      refine code_exit ?_
      refine then_x ?_; clear hK12 K12
      refine then_x ?_
      refine blk_hit ?_
      refine hK10 _ ?_; clear hK10 K10
      refine codeT.imp (σ' := [(0, _), (1, _), (4, _), (5, _), (6, _), (7, _), (9, _), (10, _), (11, _), (12, _), (13, _)]) ?_ (imp_covers ⟨rfl, rfl, rfl, rfl, rfl, rfl, rfl, rfl, rfl, rfl, rfl, trivial⟩)
      refine code_seq (fun K21 hK21 => ?_)
      refine code_region ?_
      refine list_cons rfl (op_q (q_move rfl (by decide)) ?_)
      refine list_cons rfl (op_q (q_sliceBoxB Try.underlying50 one_3.2 rfl rfl ⟨_, rfl⟩ (by first | omega | (rw [lnL_len]; omega)) (by first | omega | (rw [lnL_len]; omega)) (by first | omega | (rw [lnL_len]; omega)) (by decide)) ?_)
      refine list_cons rfl (op_call _ (slotsE _ _ b (by rw [hbl, lnL_len]; omega) (arr_part (by rw [hbl, lnL_len]; omega)) (by omega) (hpb b hb)) rfl rfl (by decide) (by decide) (by decide) rfl ?_)
      rintro _ rfl
      refine list_cons rfl (op_q (q_move rfl (by decide)) ?_)
      refine list_cons rfl (op_q (q_assign rfl (by decide)) ?_)
      refine list_cons rfl (op_q (q_assign rfl (by decide)) ?_)
      refine list_cons rfl (op_q (q_assign rfl (by decide)) ?_)
      refine list_nil ?_
      refine hK21 _ ?_; clear hK21 K21
      refine codeT.imp (σ' := [(0, _), (1, _), (4, _), (5, _), (6, _), (7, _), (9, _), (10, _), (11, _), (12, _), (13, _)]) ?_ (imp_covers ⟨rfl, rfl, rfl, rfl, rfl, rfl, rfl, rfl, rfl, rfl, rfl, trivial⟩)
      refine code_ret ?_
      refine ends_ret (cs := []) rfl rfl rfl rfl trivial ?_
      first
        | (have hLs : LsP k fr := ⟨hg, by omega⟩
           have hB : BstAll rgC (srt (lnL fr)) b := srch_end (by rw [heq] at hS; exact hS)
           refine ⟨b, fun _ => hB, ?_⟩
           simp only [if_pos hLs, decide_eq_true hLs]; done)
        | (have hLs : ¬ LsP k fr := fun z => by have z1 := z.1; have z2 := z.2; first | contradiction | omega
           refine ⟨[], fun z => absurd z hLs, ?_⟩
           simp only [if_neg hLs, decide_eq_false hLs]; first | done | rfl)
  simp only [Bool.false_eq_true, if_true, if_false, Decidable.not_not] at h1
  (try simp only [Decidable.not_not] at h1); (try have hg := (h1 : GdP k fr); try have hk := hg.1; try have hF := hg.2; try have h12 := hF.1; try have hfl := fl_len fr; try have hpb : ∀ b : List Int, b.Perm (srt (lnL fr)) → ∀ j, j < b.length → 0 ≤ b.getD j 0 ∧ b.getD j 0 ≤ 8191 := fun b hb j hj => perm_bd hF hk.2 hb hj); (try have hne : o ≠ srt (lnL fr) := fun e => (h1 : ¬ EqP _ _) ((eqP_q _ _ (by rw [arr_len (by omega), arr_len (by rw [srt_len, lnL_len]; omega)])).2 (by rw [e]))); (try have heq : o = srt (lnL fr) := arr_inj (by rw [srt_len, lnL_len]; omega) ((eqP_q _ _ (by rw [arr_len (by omega), arr_len (by rw [srt_len, lnL_len]; omega)])).1 (h1 : EqP _ _)))
  refine list_guard_n rfl rfl rfl rfl (by decide) rfl ?_
  refine list_guard_n rfl rfl rfl rfl (by decide) rfl ?_
  refine list_cons rfl (op_q (q_pick rfl rfl (by decide)) ?_)
  refine list_nil ?_
  refine hK4 _ ?_; clear hK4 K4
  refine code_cond_t rfl ?_
  refine code_seq (fun K22 hK22 => ?_)
  refine code_region ?_
  refine list_cons rfl (op_buildSlice sl_26 (parts := []) rfl rfl rfl (by decide) (by decide) (by decide) rfl ?_)
  refine list_cons rfl (op_q (q_assign rfl (by decide)) ?_)
  refine list_cons rfl (op_q (q_assign rfl (by decide)) ?_)
  refine list_cons rfl (op_q (q_assign rfl (by decide)) ?_)
  refine list_nil ?_
  refine hK22 _ ?_; clear hK22 K22
  refine code_ret ?_
  refine then_r ?_; clear hK2 K2
  refine ends_ret (cs := []) rfl rfl rfl rfl trivial ?_
  first
    | (have hLs : LsP k fr := ⟨hg, by omega⟩
       have hB : BstAll rgC (srt (lnL fr)) b := srch_end (by rw [heq] at hS; exact hS)
       refine ⟨b, fun _ => hB, ?_⟩
       simp only [if_pos hLs, decide_eq_true hLs]; done)
    | (have hLs : ¬ LsP k fr := fun z => by have z1 := z.1; have z2 := z.2; first | contradiction | omega
       refine ⟨[], fun z => absurd z hLs, ?_⟩
       simp only [if_neg hLs, decide_eq_false hLs]; first | done | rfl)

/-- The cells of a slice of slices of slots. -/
def qC (M : List (List (Int × Int))) : List PV := M.map fun r => PV.sl r.length (fl r)
theorem qC_len (M : List (List (Int × Int))) : (qC M).length = M.length := by simp [qC]
theorem qC_at {M : List (List (Int × Int))} {x : Nat} (h : x < M.length) : (qC M)[x * 1]? = some (PV.sl (M.getD x []).length (fl (M.getD x []))) := by
  unfold qC
  rw [Nat.mul_one]
  rw [List.getElem?_map, List.getD_eq_getElem?_getD, List.getElem?_eq_getElem h]; rfl
def sqA (fr : List (Int × Int)) : List (List (Int × Int)) := seqs (0, 0) fr.length fr
def cutA (fr : List (Int × Int)) (i : Nat) : List (Int × Int) := fr.take i ++ fr.drop (i + 1)
theorem cutA_len {fr : List (Int × Int)} {i : Nat} (h : i < fr.length) : (cutA fr i).length + 1 = fr.length := by
  unfold cutA; rw [List.length_append, List.length_take, List.length_drop]; omega
/-- All sequences that begin with one of the first so many slots. -/
def sqI (fr : List (Int × Int)) (i : Nat) : List (List (Int × Int)) := (List.range i).flatMap fun j => (sqA (cutA fr j)).map fun r => fr.getD j (0, 0) :: r
theorem sqI_succ (fr : List (Int × Int)) (i : Nat) : sqI fr (i + 1) = sqI fr i ++ (sqA (cutA fr i)).map fun r => fr.getD i (0, 0) :: r := by
  unfold sqI
  rw [List.range_succ, List.flatMap_append]
  simp
theorem sqA_all {fr : List (Int × Int)} (h : 0 < fr.length) : sqI fr fr.length = sqA fr := by
  obtain ⟨n, hn⟩ : ∃ n, fr.length = n + 1 := ⟨fr.length - 1, by omega⟩
  have e : sqA fr = seqs (0, 0) (n + 1) fr := by unfold sqA; rw [hn]
  rw [e]
  unfold sqI
  simp only [seqs]
  rw [List.flatMap_def, List.flatMap_def]
  congr 1
  apply List.map_congr_left
  intro i hi
  have hi2 := List.mem_range.1 hi
  have hc : (cutA fr i).length = n := by have := cutA_len hi2; omega
  unfold sqA
  rw [hc]
  rfl
theorem sqA_mem {fr c : List (Int × Int)} : c ∈ sqA fr ↔ c.Perm fr := seqs_mem (0, 0) rfl
theorem flatMap_le {α β : Type} (f : α → List β) (b : Nat) : ∀ l : List α, (∀ x ∈ l, (f x).length ≤ b) → (l.flatMap f).length ≤ l.length * b
  | [], _ => by simp
  | x :: l, h => by
    have ih := flatMap_le f b l fun y hy => h y (List.mem_cons_of_mem _ hy)
    have h1 := h x List.mem_cons_self
    rw [List.flatMap_cons, List.length_append, List.length_cons, Nat.add_mul]; omega
theorem sqA_bd : ∀ (n : Nat) (fr : List (Int × Int)), fr.length = n → n ≤ 6 → (sqA fr).length ≤ 6 ^ n
  | 0, fr, h, _ => by
    have : fr = [] := List.eq_nil_of_length_eq_zero h
    subst this; decide
  | n + 1, fr, h, h6 => by
    rw [← sqA_all (by omega)]
    unfold sqI
    have h1 := flatMap_le (fun j => (sqA (cutA fr j)).map fun r => fr.getD j (0, 0) :: r) (6 ^ n) (List.range fr.length) (fun j hj => by
      have hj2 := List.mem_range.1 hj
      rw [List.length_map]
      exact sqA_bd n _ (by have := cutA_len hj2; omega) (by omega))
    rw [List.length_range, h] at h1
    have h2 : (n + 1) * 6 ^ n ≤ 6 * 6 ^ n := Nat.mul_le_mul_right _ (by omega)
    rw [h, Nat.pow_succ]; omega
theorem sqA_le {fr : List (Int × Int)} (h : fr.length ≤ 6) : (sqA fr).length ≤ 46656 := by
  have h1 := sqA_bd fr.length fr rfl h
  have h2 : 6 ^ fr.length ≤ 6 ^ 6 := Nat.pow_le_pow_right (by omega) h
  omega
theorem sqI_le {fr : List (Int × Int)} (h : fr.length ≤ 6) : ∀ i, i ≤ fr.length → (sqI fr i).length ≤ 46656 * i
  | 0, _ => by simp [sqI]
  | i + 1, hi => by
    have ih := sqI_le h i (by omega)
    have h1 := sqA_le (fr := cutA fr i) (by have := cutA_len (fr := fr) (i := i) (by omega); omega)
    rw [sqI_succ, List.length_append, List.length_map]; omega
theorem sqA_pos {fr : List (Int × Int)} : 0 < (sqA fr).length := List.length_pos_of_mem (sqA_mem.2 (List.Perm.refl fr))
theorem qC_snoc (M : List (List (Int × Int))) (s : Int × Int) (r : List (Int × Int)) : qC M ++ [PV.sl (1 + r.length) ([PV.int .i64 s.1, PV.int .i64 s.2] ++ fl r)] = qC (M ++ [s :: r]) := by
  unfold qC
  rw [List.map_append, Nat.add_comm]; rfl
theorem take_snoc {α : Type} (l : List α) (d : α) {x : Nat} (h : x < l.length) : l.take (x + 1) = l.take x ++ [l.getD x d] := by
  rw [List.take_add_one, List.getElem?_eq_getElem h, List.getD_eq_getElem?_getD, List.getElem?_eq_getElem h]; rfl
def slLt (a b : Int × Int) : Prop := if a.1 ≠ b.1 then a.1 < b.1 else a.2 < b.2
instance (a b : Int × Int) : Decidable (slLt a b) := by unfold slLt; infer_instance
theorem slLt_ln {a b : Int × Int} (ha : 0 ≤ a.2 ∧ a.2 ≤ 127) (hb : 0 ≤ b.2 ∧ b.2 ≤ 127) : slLt a b ↔ lnV a < lnV b := by
  unfold slLt lnV; split <;> omega
theorem asc_ins {l : List Int} {n : Nat} {v : Int} (hl : Asc l) (hn : n ≤ l.length) (h1 : ∀ j, j < n → l.getD j 0 ≤ v) (h2 : n < l.length → v ≤ l.getD n 0) : Asc (l.take n ++ [v] ++ l.drop n) := by
  have hx : ∀ x ∈ l.take n, x ≤ v := fun x hx => by
    obtain ⟨j, hj, rfl⟩ := List.getElem_of_mem hx
    have hj2 : j < n := by rw [List.length_take] at hj; omega
    have := h1 j hj2
    rw [List.getD_eq_getElem?_getD, List.getElem?_eq_getElem (show j < l.length by omega)] at this
    rw [List.getElem_take]; exact this
  have hy : ∀ y ∈ l.drop n, v ≤ y := fun y hy => by
    obtain ⟨j, hj, rfl⟩ := List.getElem_of_mem hy
    rw [List.length_drop] at hj
    have h3 := h2 (by omega)
    rw [List.getD_eq_getElem?_getD, List.getElem?_eq_getElem (show n < l.length by omega)] at h3
    rw [List.getElem_drop]
    have h3 : v ≤ l[n] := h3
    by_cases e : j = 0
    · subst e; exact h3
    · have := List.pairwise_iff_getElem.1 hl n (n + j) (by omega) (by omega) (by omega)
      omega
  unfold Asc
  rw [List.pairwise_append, List.pairwise_append]
  refine ⟨⟨hl.sublist (List.take_sublist n l), List.pairwise_singleton _ _, fun a ha b hb => ?_⟩, hl.sublist (List.drop_sublist n l), fun a ha b hb => ?_⟩
  · rw [List.mem_singleton.1 hb]; exact hx a ha
  · rcases List.mem_append.1 ha with k | k
    · have h3 := hx a k; have h4 := hy b hb; omega
    · rw [List.mem_singleton.1 k]; exact hy b hb
theorem GdP.perm {k : Int} {a b : List (Int × Int)} (h : GdP k b) (hp : a.Perm b) : GdP k a := ⟨h.1, by rw [hp.length_eq]; exact h.2.1, fun j hj => by
  have hm : a[j] ∈ b := hp.mem_iff.1 (List.getElem_mem hj)
  obtain ⟨i, hi, he⟩ := List.getElem_of_mem hm
  have h1 := h.2.2 i hi
  rw [List.getD_eq_getElem?_getD, List.getElem?_eq_getElem hi, Option.getD_some, he] at h1
  rw [List.getD_eq_getElem?_getD, List.getElem?_eq_getElem hj]
  exact h1⟩
def swC (r : List (Int × Int)) : Int := swK r r.length
theorem fstB_map {α β : Type} (g : α → β) {c1 : α → Int} {c2 : β → Int} : ∀ (l : List α) (b : α), (∀ c ∈ b :: l, c2 (g c) = c1 c) → g (fstB c1 b l) = fstB c2 (g b) (l.map g)
  | [], b, _ => rfl
  | c :: l, b, h => by
    have h1 := h b List.mem_cons_self
    have h2 := h c (List.mem_cons_of_mem _ List.mem_cons_self)
    have e1 : fstB c1 b (c :: l) = fstB c1 (if c1 c < c1 b then c else b) l := rfl
    have e2 : fstB c2 (g b) ((c :: l).map g) = fstB c2 (if c2 (g c) < c2 (g b) then g c else g b) (l.map g) := rfl
    rw [e1, e2, h1, h2]
    by_cases hc : c1 c < c1 b
    · rw [if_pos hc, if_pos hc]
      exact fstB_map g l c fun x hx => h x (List.mem_cons_of_mem _ hx)
    · rw [if_neg hc, if_neg hc]
      exact fstB_map g l b fun x hx => by
        rcases List.mem_cons.1 hx with k | k
        · rw [k]; exact h1
        · exact h x (List.mem_cons_of_mem _ (List.mem_cons_of_mem _ k))
theorem fstB_snoc {α : Type} (cost : α → Int) (b : α) (l : List α) (c : α) : fstB cost b (l ++ [c]) = if cost c < cost (fstB cost b l) then c else fstB cost b l := by
  unfold fstB; rw [List.foldl_append]; rfl
theorem fstB_mem {α : Type} (cost : α → Int) : ∀ (l : List α) (b : α), fstB cost b l ∈ b :: l
  | [], b => List.mem_singleton.2 rfl
  | c :: l, b => by
    have e : fstB cost b (c :: l) = fstB cost (if cost c < cost b then c else b) l := rfl
    rw [e]
    by_cases hc : cost c < cost b
    · rw [if_pos hc]; exact List.mem_cons_of_mem _ (fstB_mem cost l c)
    · rw [if_neg hc]
      rcases List.mem_cons.1 (fstB_mem cost l b) with k | k
      · rw [k]; exact List.mem_cons_self
      · exact List.mem_cons_of_mem _ (List.mem_cons_of_mem _ k)
theorem mem_bd {k : Int} {fr : List (Int × Int)} (hF : FrmP k fr) (hk : k ≤ 6) {s : Int × Int} (h : s ∈ fr) : 0 ≤ s.2 ∧ s.2 ≤ 127 := by
  obtain ⟨j, hj, rfl⟩ := List.getElem_of_mem h
  have h1 := hF.bd hk hj
  rw [List.getD_eq_getElem?_getD, List.getElem?_eq_getElem hj] at h1
  exact h1.2
theorem getD_mem {α : Type} {l : List α} {d : α} {j : Nat} (h : j < l.length) : l.getD j d ∈ l := by
  rw [List.getD_eq_getElem?_getD, List.getElem?_eq_getElem h]; exact List.getElem_mem h
/-- A slot is put in where it belongs. -/
theorem ins_ok {k : Int} {fr L : List (Int × Int)} (hF : FrmP k fr) (hk : k ≤ 6) {i n : Nat} (hi : i < fr.length) (hp : L.Perm (fr.take i)) (ha : Asc (lnL L)) (hn : n ≤ L.length) (h1 : ∀ j, j < n → ¬ slLt (fr.getD i (0, 0)) (L.getD j (0, 0))) (h2 : n < L.length → slLt (fr.getD i (0, 0)) (L.getD n (0, 0))) : (L.take n ++ [fr.getD i (0, 0)] ++ L.drop n).Perm (fr.take (i + 1)) ∧ Asc (lnL (L.take n ++ [fr.getD i (0, 0)] ++ L.drop n)) := by
  have hfb := mem_bd hF hk (getD_mem (d := (0, 0)) hi)
  have hLb : ∀ j, j < L.length → 0 ≤ (L.getD j (0, 0)).2 ∧ (L.getD j (0, 0)).2 ≤ 127 := fun j hj => mem_bd hF hk (List.mem_of_mem_take (hp.mem_iff.1 (getD_mem hj)))
  constructor
  · rw [take_snoc fr (0, 0) hi, List.append_assoc, List.singleton_append]
    refine List.perm_middle.trans ?_
    rw [List.take_append_drop]
    exact (List.Perm.cons _ hp).trans (List.perm_append_singleton _ _).symm
  · have e : lnL (L.take n ++ [fr.getD i (0, 0)] ++ L.drop n) = (lnL L).take n ++ [lnV (fr.getD i (0, 0))] ++ (lnL L).drop n := by
      unfold lnL; rw [List.map_append, List.map_append, List.map_take, List.map_drop]; rfl
    rw [e]
    refine asc_ins ha (by rw [lnL_len]; exact hn) (fun j hj => ?_) (fun h => ?_)
    · rw [lnL_at (by omega)]
      have := mt (slLt_ln hfb (hLb j (by omega))).2 (h1 j hj)
      omega
    · rw [lnL_len] at h
      rw [lnL_at h]
      have := (slLt_ln hfb (hLb n h)).1 (h2 h)
      omega
theorem ins_fl {L : List (Int × Int)} {n : Nat} (f : Int × Int) {m : Nat} (hm : m = L.length) : [] ++ ((fl L).drop (0 * 2)).take ((n - 0) * 2) ++ [PV.int .i64 f.1, PV.int .i64 f.2] ++ ((fl L).drop (n * 2)).take ((m - n) * 2) = fl (L.take n ++ [f] ++ L.drop n) := by
  subst hm
  rw [fl_cut8, fl_cut8, fl_app8, fl_app8, List.take_of_length_le (l := L.drop n) (by rw [List.length_drop]; exact Nat.le_refl _)]; rfl
/-- The best among the first so many sequences. -/
def bsI (M : List (List (Int × Int))) (i : Nat) : List (Int × Int) := fstB swC (M.getD 0 []) ((M.take i).drop 1)
theorem bsI_1 (M : List (List (Int × Int))) : bsI M 1 = M.getD 0 [] := by
  cases M <;> rfl
theorem bsI_succ {M : List (List (Int × Int))} {i : Nat} (h1 : 1 ≤ i) (h : i < M.length) : bsI M (i + 1) = if swC (M.getD i []) < swC (bsI M i) then M.getD i [] else bsI M i := by
  unfold bsI
  rw [take_snoc M [] h, List.drop_append_of_le_length (by rw [List.length_take]; omega), fstB_snoc]
theorem sqA_in {fr : List (Int × Int)} {i : Nat} (h : i < (sqA fr).length) : ((sqA fr).getD i []).Perm fr := by
  rw [List.getD_eq_getElem?_getD, List.getElem?_eq_getElem h]
  exact sqA_mem.1 (List.getElem_mem h)
theorem bsI_perm {fr : List (Int × Int)} : ∀ {i : Nat}, 1 ≤ i → i ≤ (sqA fr).length → (bsI (sqA fr) i).Perm fr
  | 0, h, _ => absurd h (by omega)
  | 1, _, _ => by rw [bsI_1]; exact sqA_in sqA_pos
  | i + 2, h, h2 => by
    rw [bsI_succ (by omega) (by omega)]
    split
    · exact sqA_in (by omega)
    · exact bsI_perm (by omega) (by omega)
theorem sq_best {k : Int} {fr L : List (Int × Int)} (hg : GdP k fr) (hp : L.Perm fr) (ha : Asc (lnL L)) : BstAll rgC (srt (lnL fr)) (lnL (bsI (sqA L) (sqA L).length)) := by
  have hL : lnL L = srt (lnL fr) := asc_one ha (srt_asc _) ((hp.map lnV).trans (srt_perm _).symm)
  rw [← hL]
  obtain ⟨m, M, hM⟩ : ∃ m M, sqA L = m :: M := by
    cases h : sqA L with
    | nil => have := sqA_pos (fr := L); rw [h] at this; simp at this
    | cons m M => exact ⟨m, M, rfl⟩
  have hb : bsI (sqA L) (sqA L).length = fstB swC m M := by
    rw [hM]; unfold bsI; rw [List.take_length]; rfl
  rw [hb, fstB_map lnL (c2 := rgC) M m (fun c hc => by
    have hc2 : c.Perm L := sqA_mem.1 (by rw [hM]; exact hc)
    have hG := hg.perm (hc2.trans hp)
    show rgK (lnL c) (lnL c).length = swK c c.length
    rw [lnL_len]
    exact rg_swK hG.2 hG.1.2 _ (Nat.le_refl _))]
  refine seqs_best ha ?_
  have h1 := seqs_map lnV (0, 0) L.length L
  rw [lnL_len]
  show seqs (lnV (0, 0)) L.length (L.map lnV) = _
  rw [← h1]
  show (sqA L).map (List.map lnV) = _
  rw [hM]; rfl

set_option maxRecDepth 8000 in
set_option maxHeartbeats 4000000 in
theorem spec_l8SeqStep (fr : List (Int × Int)) (h6 : fr.length ≤ 6) (IH : ∀ f2 : List (Int × Int), f2.length + 1 = fr.length → PCalls Try.prog 25 [.sl f2.length (fl f2)] (· = [.own 0 26 1 (sqA f2).length (qC (sqA f2))])) : PCalls Try.prog 25 [.sl fr.length (fl fr)] (· = [.own 0 26 1 (sqA fr).length (qC (sqA fr))]) := by
  refine pcalls_of_code (n := 43) az Try.func25 (by kernel_rfl) rfl rfl (Nat.le_of_ble_eq_true rfl) (by intro t u h; simp [Try.f25] at h) ?_
  have hfl := fl_len fr
  have hff := fl_flat fr
  refine code_seq (fun K1 hK1 => ?_)
  refine code_region ?_
  refine list_cons rfl (op_q (q_assign rfl (by decide)) ?_)
  refine list_nil ?_
  refine hK1 _ ?_; clear hK1 K1
  refine code_seq (fun K2 hK2 => ?_)
  refine code_seq (fun K3 hK3 => ?_)
  refine code_region ?_
  refine list_cons rfl (op_q (q_move rfl (by decide)) ?_)
  refine list_cons rfl (op_q (q_len_sl Try.underlying26 rfl rfl (by decide)) ?_)
  refine list_cons rfl (op_q (q_eq rfl rfl (by decide)) ?_)
  refine list_nil ?_
  refine hK3 _ ?_; clear hK3 K3
  refine code_cond_d rfl (fun h1 => ?_) (fun h1 => ?_)
  · skip
    (try simp only [Decidable.not_not] at h1)
    refine code_seq (fun K4 hK4 => ?_)
    refine code_region ?_
    refine list_cons rfl (op_buildSlice sl_26 (parts := []) rfl rfl rfl (by decide) (by decide) (by decide) rfl ?_)
    refine list_cons rfl (op_buildSlice_own sl_47 rfl (by decide) (by decide) (by decide) rfl ?_)
    refine list_cons rfl (op_q (q_assign rfl (by decide)) ?_)
    refine list_nil ?_
    refine hK4 _ ?_; clear hK4 K4
    refine code_ret ?_
    refine then_r ?_; clear hK2 K2
    refine ends_ret (cs := []) rfl rfl rfl rfl trivial ?_
    first
      | (have h0 : fr = [] := List.eq_nil_of_length_eq_zero (by omega)
         subst h0; rfl)
      | (rw [show i.toNat = fr.length by omega, sqA_all (by omega)]; done)
  (try simp only [Decidable.not_not] at h1)
  refine code_skip ?_
  refine hK2 _ ?_; clear hK2 K2
  refine code_seq (fun K5 hK5 => ?_)
  refine code_region ?_
  refine list_cons rfl (op_buildSlice sl_47 (parts := []) rfl rfl rfl (by decide) (by decide) (by decide) rfl ?_)
  refine list_cons rfl (op_q (q_assign rfl (by decide)) ?_)
  refine list_nil ?_
  refine hK5 _ ?_; clear hK5 K5
  refine code_seq (fun K6 hK6 => ?_)
  refine code_seq (fun K7 hK7 => ?_)
  refine code_region ?_
  refine list_cons rfl (op_q (q_assign rfl (by decide)) ?_)
  refine list_nil ?_
  refine hK7 _ ?_; clear hK7 K7
  refine code_block ?_
  refine code_loop (X := PV × Nat × List PV × Int) (fun x => [(0, .par 0 (.sl fr.length (fl fr))), (2, .val x.1), (3, .own 12 26 1 x.2.1 x.2.2.1), (4, .val (.int .i64 x.2.2.2))]) (fun x => 0 ≤ x.2.2.2 ∧ x.2.2.2 ≤ fr.length ∧ x.2.1 = (sqI fr x.2.2.2.toNat).length ∧ x.2.2.1 = qC (sqI fr x.2.2.2.toNat)) (fun x => (fr.length - x.2.2.2).toNat) (_, _, _, _) (imp_covers ⟨rfl, rfl, rfl, rfl, trivial⟩) ?_ ?_
  · (try dsimp only)
    exact ⟨by omega, by omega, rfl, rfl⟩
  · intro x hI
    obtain ⟨t2_p, out_n, out_c, i⟩ := x
    replace hI : 0 ≤ i ∧ i ≤ fr.length ∧ out_n = (sqI fr i.toNat).length ∧ out_c = qC (sqI fr i.toNat) := hI
    show codeT _ _ _ [(0, .par 0 (.sl fr.length (fl fr))), (2, .val t2_p), (3, .own 12 26 1 out_n out_c), (4, .val (.int .i64 i))] _
    obtain ⟨i1, i2, rfl, rfl⟩ := hI
    have hsl := sqI_le h6 i.toNat (by omega)
    have hcl := fun h : i < fr.length => cutA_len (fr := fr) (i := i.toNat) (by omega)
    have hrl := fun h : i < fr.length => sqA_le (fr := cutA fr i.toNat) (by have := hcl h; omega)
    refine code_seq (fun K8 hK8 => ?_)
    refine code_seq (fun K9 hK9 => ?_)
    refine code_region ?_
    refine list_cons rfl (op_q (q_move rfl (by decide)) ?_)
    refine list_cons rfl (op_q (q_move rfl (by decide)) ?_)
    refine list_cons rfl (op_q (q_len_sl Try.underlying26 rfl rfl (by decide)) ?_)
    refine list_cons rfl (op_q (q_lt rfl rfl (by decide)) ?_)
    refine list_nil ?_
    refine hK9 _ ?_; clear hK9 K9
    refine code_cond_d rfl (fun h2 => ?_) (fun h2 => ?_)
    · skip
      (try simp only [Decidable.not_not] at h2)
      refine code_skip ?_
      refine hK8 _ ?_; clear hK8 K8
      refine code_seq (fun K10 hK10 => ?_)
      refine code_block ?_
      refine code_seq (fun K11 hK11 => ?_)
      refine code_region ?_
      refine list_cons rfl (op_q (q_move rfl (by decide)) ?_)
      refine list_cons rfl (op_q (q_move rfl (by decide)) ?_)
      refine list_cons rfl (op_call _ (spec_l8Without fr i (by omega) (by omega) (by omega)) rfl rfl (by decide) (by decide) (by decide) rfl ?_)
      rintro _ rfl
      refine list_cons rfl (op_call _ (IH (cutA fr i.toNat) (cutA_len (by omega))) rfl rfl (by decide) (by decide) (by decide) rfl ?_)
      rintro _ rfl
      refine list_cons rfl (op_q (q_assign rfl (by decide)) ?_)
      refine list_nil ?_
      refine hK11 _ ?_; clear hK11 K11
      refine codeT.imp (σ' := [(0, _), (2, _), (3, _), (4, _), (5, _)]) ?_ (imp_covers ⟨rfl, rfl, rfl, rfl, rfl, trivial⟩)
      refine code_seq (fun K12 hK12 => ?_)
      refine code_region ?_
      refine list_cons rfl (op_q (q_assign rfl (by decide)) ?_)
      refine list_nil ?_
      refine hK12 _ ?_; clear hK12 K12
      refine code_block ?_
      refine code_loop (X := PV × Nat × List PV × Int) (fun x => [(0, .par 0 (.sl fr.length (fl fr))), (2, .val x.1), (3, .own 12 26 1 x.2.1 x.2.2.1), (4, .val (.int .i64 i)), (5, .own 22 26 1 (sqA (cutA fr i.toNat)).length (qC (sqA (cutA fr i.toNat)))), (6, .val (.int .i64 x.2.2.2))]) (fun x => 0 ≤ x.2.2.2 ∧ x.2.2.2 ≤ (sqA (cutA fr i.toNat)).length ∧ ∃ M, x.2.1 = M.length ∧ x.2.2.1 = qC M ∧ M = sqI fr i.toNat ++ ((sqA (cutA fr i.toNat)).take x.2.2.2.toNat).map fun r => fr.getD i.toNat (0, 0) :: r) (fun x => ((sqA (cutA fr i.toNat)).length - x.2.2.2).toNat) (_, _, _, _) (imp_covers ⟨rfl, rfl, rfl, rfl, rfl, rfl, trivial⟩) ?_ ?_
      · (try dsimp only)
        exact ⟨by omega, by omega, _, rfl, rfl, by simp⟩
      · intro x hI
        obtain ⟨t2_p, out_n, out_c, x_⟩ := x
        replace hI : 0 ≤ x_ ∧ x_ ≤ (sqA (cutA fr i.toNat)).length ∧ ∃ M, out_n = M.length ∧ out_c = qC M ∧ M = sqI fr i.toNat ++ ((sqA (cutA fr i.toNat)).take x_.toNat).map fun r => fr.getD i.toNat (0, 0) :: r := hI
        show codeT _ _ _ [(0, .par 0 (.sl fr.length (fl fr))), (2, .val t2_p), (3, .own 12 26 1 out_n out_c), (4, .val (.int .i64 i)), (5, .own 22 26 1 (sqA (cutA fr i.toNat)).length (qC (sqA (cutA fr i.toNat)))), (6, .val (.int .i64 x_))] _
        obtain ⟨x1, x2, M, rfl, rfl, hM⟩ := hI
        have hml : M.length ≤ 373248 := by rw [hM, List.length_append, List.length_map, List.length_take]; have := hrl (by omega); omega
        have hfr := fl_len ((sqA (cutA fr i.toNat)).getD x_.toNat [])
        have hrx : x_ < (sqA (cutA fr i.toNat)).length → ((sqA (cutA fr i.toNat)).getD x_.toNat []).length ≤ 6 := fun h => by
          have hm : (sqA (cutA fr i.toNat)).getD x_.toNat [] ∈ sqA (cutA fr i.toNat) := by rw [List.getD_eq_getElem?_getD, List.getElem?_eq_getElem (show x_.toNat < (sqA (cutA fr i.toNat)).length by omega)]; exact List.getElem_mem _
          have := (sqA_mem.1 hm).length_eq; omega
        refine code_seq (fun K13 hK13 => ?_)
        refine code_seq (fun K14 hK14 => ?_)
        refine code_region ?_
        refine list_cons rfl (op_q (q_move rfl (by decide)) ?_)
        refine list_cons rfl (op_q (q_move rfl (by decide)) ?_)
        refine list_cons rfl (op_q (q_len_sl Try.underlying47 rfl rfl (by decide)) ?_)
        refine list_cons rfl (op_q (q_lt rfl rfl (by decide)) ?_)
        refine list_nil ?_
        refine hK14 _ ?_; clear hK14 K14
        refine code_cond_d rfl (fun h3 => ?_) (fun h3 => ?_)
        · skip
          (try simp only [Decidable.not_not] at h3)
          refine code_skip ?_
          refine hK13 _ ?_; clear hK13 K13
          refine code_seq (fun K15 hK15 => ?_)
          refine code_block ?_
          refine any_start fun ob5_0 => ?_
          refine any_op (rd := [3]) ob5_0 rfl rfl rfl (anyT_quiet [(3, _)] ⟨rfl, trivial⟩ rfl (q_move rfl (by decide))) (fun ob5_1 => ?_)
          simp only [List.cons_append, List.nil_append] at ob5_1
          refine any_op (rd := [0]) ob5_1 rfl rfl rfl (anyT_quiet [(0, _)] ⟨rfl, trivial⟩ rfl (q_move rfl (by decide))) (fun ob5_2 => ?_)
          simp only [List.cons_append, List.nil_append] at ob5_2
          refine any_op (rd := [4]) ob5_2 rfl rfl rfl (anyT_quiet [(4, _)] ⟨rfl, trivial⟩ rfl (q_move rfl (by decide))) (fun ob5_3 => ?_)
          simp only [List.cons_append, List.nil_append] at ob5_3
          refine any_op (rd := [30, 31]) ob5_3 rfl rfl rfl (anyT_quiet [(30, _), (31, _)] ⟨rfl, rfl, trivial⟩ rfl (q_indexAddr_rd sl_26 rfl (.inl ⟨_, rfl, rfl⟩) rfl (by omega) (by omega) (by decide))) (fun ob5_4 => ?_)
          simp only [List.cons_append, List.nil_append] at ob5_4
          refine any_op (rd := [32]) ob5_4 rfl rfl rfl (anyT_quiet [(32, _)] ⟨rfl, trivial⟩ rfl (q_load_rd_aggE agg_38 rfl (.inl ⟨_, rfl⟩) (by first | exact qC_at (by omega) | (rw [List.length_drop, fl_len]; omega)) (fl_at fr i.toNat (by omega)) rfl (by decide))) (fun ob5_5 => ?_)
          simp only [List.cons_append, List.nil_append] at ob5_5
          refine any_op (rd := [33]) ob5_5 rfl rfl rfl (fun σ hag hfr => by have e33 : σ.at 33 = some _ := (hag 33 (by decide)).trans rfl; exact op_buildSlice sl_26 (parts := [(0, .tmp 33)]) (evp_cons (by first | rfl | assumption) rfl rfl evp_nil) rfl rfl (by decide) (by decide) (by decide) (fr1000 hfr (by decide)) rfl) (fun ob5_6 => ?_)
          simp only [List.cons_append, List.nil_append] at ob5_6
          refine any_op (rd := [5]) ob5_6 rfl rfl rfl (anyT_quiet [(5, _)] ⟨rfl, trivial⟩ rfl (q_move rfl (by decide))) (fun ob5_7 => ?_)
          simp only [List.cons_append, List.nil_append] at ob5_7
          refine any_op (rd := [6]) ob5_7 rfl rfl rfl (anyT_quiet [(6, _)] ⟨rfl, trivial⟩ rfl (q_move rfl (by decide))) (fun ob5_8 => ?_)
          simp only [List.cons_append, List.nil_append] at ob5_8
          refine any_op (rd := [35, 36]) ob5_8 rfl rfl rfl (anyT_quiet [(35, _), (36, _)] ⟨rfl, rfl, trivial⟩ rfl (q_indexAddr_own sl_47 rfl rfl (by omega) (by omega) (by decide))) (fun ob5_9 => ?_)
          simp only [List.cons_append, List.nil_append] at ob5_9
          refine any_op (rd := [37, 5]) ob5_9 rfl rfl rfl (anyT_quiet [(37, _), (5, _)] ⟨rfl, rfl, trivial⟩ rfl (q_load one_26 5 rfl rfl rfl (by first | exact qC_at (by omega) | (rw [List.length_drop, fl_len]; omega)) (by decide))) (fun ob5_10 => ?_)
          simp only [List.cons_append, List.nil_append] at ob5_10
          refine any_st (rd := [34, 38]) ob5_10 rfl rfl (fun σ hag hfr => by have e34 : σ.at 34 = some _ := (hag 34 (by decide)).trans rfl; have e38 : σ.at 38 = some _ := (hag 38 (by decide)).trans rfl; exact opT.mono (op_append_gen sl_26 (l := 34) (l2 := none) (.inl e34) e38 rfl (.inl ⟨rfl, (fl_flat _)⟩) (by first | (rw [fl_len]; done) | rfl | simp) (by omega) (by decide) (by decide) (by decide) rfl) (fun σ2 h2 => by subst h2; exact post_take (h0 := 34) (hs := []) (L := 34) (l := 34) (by intro h hm; simp only [List.mem_cons, List.not_mem_nil, or_false] at hm; subst hm; exact ⟨_, e34, List.mem_cons_self⟩) rfl hfr)) (fun ob5_11 => ?_)
          simp only [List.cons_append, List.nil_append] at ob5_11
          refine any_st (rd := [39]) ob5_11 rfl rfl (fun σ hag hfr => by have e39 : σ.at 39 = some _ := (hag 39 (by decide)).trans rfl; exact opT.mono (op_buildSlice_ownL sl_47 (l := 34) e39 (by decide) (by decide) rfl) (fun σ2 h2 => by subst h2; exact post_take (h0 := 39) (hs := []) (L := 34) (l := 34) (by intro h hm; simp only [List.mem_cons, List.not_mem_nil, or_false] at hm; subst hm; exact ⟨_, e39, List.mem_cons_self⟩) rfl hfr)) (fun ob5_12 => ?_)
          simp only [List.cons_append, List.nil_append] at ob5_12
          refine any_end [[], [], [], [1, 2], [1, 2, 3], [1, 2, 3, 4], [], [], [6, 7], [6, 7, 8], [1, 2, 3, 4, 5, 6, 7, 8, 9], [1, 2, 3, 4, 5, 6, 7, 8, 9, 10], [0, 1, 2, 3, 4, 5, 6, 7, 8, 9, 10, 11], [0, 1, 2, 3, 4, 5, 6, 7, 8, 9, 10, 11, 12]] ob5_12 (by kernel_rfl) (Nat.le_of_ble_eq_true rfl) (by decide) (by decide) (by kernel_rfl) (by kernel_rfl) (by kernel_rfl) (by kernel_rfl) (by kernel_rfl) ?_
          clear ob5_0 ob5_1 ob5_2 ob5_3 ob5_4 ob5_5 ob5_6 ob5_7 ob5_8 ob5_9 ob5_10 ob5_11 ob5_12
          refine listT.imp (σ' := [(0, _), (2, _), (3, _), (4, _), (5, _), (6, _), (23, _), (24, _), (25, _), (26, _), (29, _), (30, _), (31, _), (32, _), (33, _), (34, _), (35, _), (36, _), (37, _), (38, _), (39, _), (40, _)]) ?_ (imp_covers ⟨rfl, rfl, rfl, rfl, rfl, rfl, rfl, rfl, rfl, rfl, rfl, rfl, rfl, rfl, rfl, rfl, rfl, rfl, rfl, rfl, rfl, rfl, trivial⟩)
          refine list_cons rfl (op_append_gen sl_47 (l := 12) (.inl rfl) rfl rfl (l2 := some 34) (.inr ⟨_, _, _, rfl, by decide, rfl⟩) (by first | (rw [fl_len]; done) | rfl | simp) (by omega) (by decide) (by decide) (by decide) ?_)
          refine list_cons rfl (op_q (q_assign rfl (by decide)) ?_)
          refine list_nil ?_
          refine blk_n ?_
          refine hK15 _ ?_; clear hK15 K15
          refine codeT.imp (σ' := [(0, _), (2, _), (3, _), (4, _), (5, _), (6, _)]) ?_ (imp_covers ⟨rfl, rfl, rfl, rfl, rfl, rfl, trivial⟩)
          refine code_region ?_
          refine list_cons rfl (op_q (q_move rfl (by decide)) ?_)
          refine list_cons rfl (op_q (by first | exact q_addI rfl rfl (by decide) (by omega) (by omega) | exact q_ib rfl rfl rfl (by decide)) ?_)
          refine list_cons rfl (op_q (q_assign rfl (by decide)) ?_)
          refine list_nil ?_
          refine then_n ⟨(_, _, _, _), imp_covers ⟨rfl, rfl, rfl, rfl, rfl, rfl, trivial⟩, ?_, ?_⟩
          · (try dsimp only)
            exact ⟨by omega, by omega, M ++ [fr.getD i.toNat (0, 0) :: (sqA (cutA fr i.toNat)).getD x_.toNat []], by rw [List.length_append]; rfl, qC_snoc _ _ _, by rw [hM, show (x_ + 1).toNat = x_.toNat + 1 by omega, take_snoc _ [] (by omega), List.map_append, List.append_assoc]; rfl⟩
          · (try dsimp only); omega
        (try simp only [Decidable.not_not] at h3)
        refine code_exit ?_
        refine then_x ?_; clear hK13 K13
        refine then_x ?_
        refine blk_hit ?_
        refine blk_n ?_
        refine hK10 _ ?_; clear hK10 K10
        refine code_region ?_
        refine list_cons rfl (op_q (q_move rfl (by decide)) ?_)
        refine list_cons rfl (op_q (by first | exact q_addI rfl rfl (by decide) (by omega) (by omega) | exact q_ib rfl rfl rfl (by decide)) ?_)
        refine list_cons rfl (op_q (q_assign rfl (by decide)) ?_)
        refine list_nil ?_
        refine then_n ⟨(_, _, _, _), imp_covers ⟨rfl, rfl, rfl, rfl, trivial⟩, ?_, ?_⟩
        · (try dsimp only)
          (have hMe : M = sqI fr (i + 1).toNat := by
            rw [hM, show (i + 1).toNat = i.toNat + 1 by omega, sqI_succ, show x_.toNat = (sqA (cutA fr i.toNat)).length by omega, List.take_length])
          exact ⟨by omega, by omega, by rw [← hMe], by rw [← hMe]; rfl⟩
        · (try dsimp only); omega
    (try simp only [Decidable.not_not] at h2)
    refine code_exit ?_
    refine then_x ?_; clear hK8 K8
    refine then_x ?_
    refine blk_hit ?_
    refine hK6 _ ?_; clear hK6 K6
    refine code_seq (fun K16 hK16 => ?_)
    refine code_region ?_
    refine list_cons rfl (op_q (q_move rfl (by decide)) ?_)
    refine list_cons rfl (op_q (q_assign rfl (by decide)) ?_)
    refine list_nil ?_
    refine hK16 _ ?_; clear hK16 K16
    refine code_ret ?_
    refine ends_ret (cs := []) rfl rfl rfl rfl trivial ?_
    first
      | (have h0 : fr = [] := List.eq_nil_of_length_eq_zero (by omega)
         subst h0; rfl)
      | (rw [show i.toNat = fr.length by omega, sqA_all (by omega)]; done)

theorem spec_l8Sequences : ∀ (n : Nat) (fr : List (Int × Int)), fr.length = n → n ≤ 6 → PCalls Try.prog 25 [.sl fr.length (fl fr)] (· = [.own 0 26 1 (sqA fr).length (qC (sqA fr))])
  | 0, fr, hn, h6 => spec_l8SeqStep fr (by omega) (fun f2 h => by omega)
  | n + 1, fr, hn, h6 => spec_l8SeqStep fr (by omega) (fun f2 h => spec_l8Sequences n f2 (by omega) (by omega))

set_option maxRecDepth 4000 in
theorem spec_l8Less (a b : Int × Int) : PCalls Try.prog 24 [.agg [.int .i64 a.1, .int .i64 a.2], .agg [.int .i64 b.1, .int .i64 b.2]] (· = [.val (.bool (decide (slLt a b)))]) := by
  refine pcalls_of_code (n := 20) az Try.func24 (by kernel_rfl) rfl rfl (Nat.le_of_ble_eq_true rfl) (by intro t u h; simp [Try.f24] at h) ?_
  refine code_seq (fun K1 hK1 => ?_)
  refine code_region ?_
  refine list_cons rfl (op_box rfl (.inl ⟨rfl, rfl⟩) (by decide) (by decide) rfl ?_)
  refine list_cons rfl (op_box rfl (.inl ⟨rfl, rfl⟩) (by decide) (by decide) rfl ?_)
  refine list_cons rfl (op_q (q_assign rfl (by decide)) ?_)
  refine list_nil ?_
  refine hK1 _ ?_; clear hK1 K1
  refine code_seq (fun K2 hK2 => ?_)
  refine code_seq (fun K3 hK3 => ?_)
  refine code_region ?_
  refine list_cons rfl (op_q (q_fieldAddr fi_38_0 rfl rfl (by decide)) ?_)
  refine list_cons rfl (op_q (q_load one_3 2 rfl rfl rfl (by first | rfl | exact get_map1 _ 0 _ (by first | omega | (simp; omega))) (by decide)) ?_)
  refine list_cons rfl (op_q (q_fieldAddr fi_38_0 rfl rfl (by decide)) ?_)
  refine list_cons rfl (op_q (q_load one_3 3 rfl rfl rfl (by first | rfl | exact get_map1 _ 0 _ (by first | omega | (simp; omega))) (by decide)) ?_)
  refine list_cons rfl (op_q (q_ne rfl rfl (by decide)) ?_)
  refine list_nil ?_
  refine hK3 _ ?_; clear hK3 K3
  refine code_cond_d rfl (fun h1 => ?_) (fun h1 => ?_)
  · skip
    (try simp only [Decidable.not_not] at h1)
    refine code_seq (fun K4 hK4 => ?_)
    refine code_region ?_
    refine list_cons rfl (op_q (q_fieldAddr fi_38_0 rfl rfl (by decide)) ?_)
    refine list_cons rfl (op_q (q_load one_3 2 rfl rfl rfl (by first | rfl | exact get_map1 _ 0 _ (by first | omega | (simp; omega))) (by decide)) ?_)
    refine list_cons rfl (op_q (q_fieldAddr fi_38_0 rfl rfl (by decide)) ?_)
    refine list_cons rfl (op_q (q_load one_3 3 rfl rfl rfl (by first | rfl | exact get_map1 _ 0 _ (by first | omega | (simp; omega))) (by decide)) ?_)
    refine list_cons rfl (op_q (q_lt rfl rfl (by decide)) ?_)
    refine list_cons rfl (op_q (q_assign rfl (by decide)) ?_)
    refine list_nil ?_
    refine hK4 _ ?_; clear hK4 K4
    refine codeT.imp (σ' := [(0, _), (1, _), (2, _), (3, _), (4, _)]) ?_ (imp_covers ⟨rfl, rfl, rfl, rfl, rfl, trivial⟩)
    refine code_ret ?_
    refine then_r ?_; clear hK2 K2
    refine ends_ret (cs := []) rfl rfl rfl rfl trivial ?_
    first | (unfold slLt; simp only [if_pos h1]; done) | (unfold slLt; simp only [if_neg (fun z : a.1 ≠ b.1 => z h1)]; done)
  (try simp only [Decidable.not_not] at h1)
  refine code_skip ?_
  refine hK2 _ ?_; clear hK2 K2
  refine code_seq (fun K5 hK5 => ?_)
  refine code_region ?_
  refine list_cons rfl (op_q (q_fieldAddr fi_38_1 rfl rfl (by decide)) ?_)
  refine list_cons rfl (op_q (q_load one_3 2 rfl rfl rfl (by first | rfl | exact get_map1 _ 0 _ (by first | omega | (simp; omega))) (by decide)) ?_)
  refine list_cons rfl (op_q (q_fieldAddr fi_38_1 rfl rfl (by decide)) ?_)
  refine list_cons rfl (op_q (q_load one_3 3 rfl rfl rfl (by first | rfl | exact get_map1 _ 0 _ (by first | omega | (simp; omega))) (by decide)) ?_)
  refine list_cons rfl (op_q (q_lt rfl rfl (by decide)) ?_)
  refine list_cons rfl (op_q (q_assign rfl (by decide)) ?_)
  refine list_nil ?_
  refine hK5 _ ?_; clear hK5 K5
  refine codeT.imp (σ' := [(0, _), (1, _), (2, _), (3, _), (4, _)]) ?_ (imp_covers ⟨rfl, rfl, rfl, rfl, rfl, trivial⟩)
  refine code_ret ?_
  refine ends_ret (cs := []) rfl rfl rfl rfl trivial ?_
  first | (unfold slLt; simp only [if_pos h1]; done) | (unfold slLt; simp only [if_neg (fun z : a.1 ≠ b.1 => z h1)]; done)

set_option maxRecDepth 8000 in
set_option maxHeartbeats 4000000 in
theorem spec_LeastSwitches (k : Int) (fr : List (Int × Int)) (hf : fr.length ≤ 1048576) : PCalls Try.prog 11 [.int .i64 k, .sl fr.length (fl fr)] (fun rs => ∃ b : List (Int × Int), (LsP k fr → b.Perm fr ∧ BstAll rgC (srt (lnL fr)) (lnL b)) ∧ rs = [.bor 0 (.sl (if LsP k fr then b else []).length (fl (if LsP k fr then b else []))), .val (.int .i64 (if LsP k fr then swK b b.length else 0)), .val (.bool (decide (LsP k fr)))]) := by
  refine pcalls_of_code (n := 89) az Try.func11 (by kernel_rfl) rfl rfl (Nat.le_of_ble_eq_true rfl) (by intro t u h; simp [Try.f11] at h) ?_
  have hfl := fl_len fr
  have hff := fl_flat fr
  refine code_seq (fun K1 hK1 => ?_)
  refine code_region ?_
  refine list_cons rfl (op_q (q_assign rfl (by decide)) ?_)
  refine list_cons rfl (op_q (q_assign rfl (by decide)) ?_)
  refine list_cons rfl (op_q (q_assign rfl (by decide)) ?_)
  refine list_nil ?_
  refine hK1 _ ?_; clear hK1 K1
  refine code_seq (fun K2 hK2 => ?_)
  refine code_seq (fun K3 hK3 => ?_)
  refine code_region ?_
  refine list_cons rfl (op_q (q_move rfl (by decide)) ?_)
  refine list_cons rfl (op_q (q_move rfl (by decide)) ?_)
  refine list_cons rfl (op_call _ (spec_l8Good _ _ (by first | omega | (simp; omega))) rfl rfl (by decide) (by decide) (by decide) rfl ?_)
  rintro _ rfl
  refine list_cons rfl (op_q (by first | exact q_notd rfl (by decide) | exact q_not rfl (by decide)) ?_)
  refine list_cons rfl (op_q (q_move rfl (by decide)) ?_)
  refine list_guard_d rfl rfl rfl rfl (by decide) rfl (by decide) (fun h1 => ?_) (fun h1 => ?_)
  · simp only [Bool.false_eq_true, if_true, if_false, Decidable.not_not] at h1
    (try simp only [Decidable.not_not] at h1)
    refine id (op_q (q_move rfl (by decide)) ?_)
    refine list_guard_y rfl rfl rfl rfl (by decide) rfl ?_
    refine id (op_q (q_len_sl Try.underlying26 rfl rfl (by decide)) ?_)
    refine list_guard_y rfl rfl rfl rfl (by decide) rfl ?_
    refine id (op_q (q_gt rfl rfl (by decide)) ?_)
    refine list_cons rfl (op_q (q_pick rfl rfl (by decide)) ?_)
    refine list_nil ?_
    refine hK3 _ ?_; clear hK3 K3
    refine codeT.imp (σ' := [(0, _), (1, _), (4, _), (5, _), (6, _), (21, _)]) ?_ (imp_covers ⟨rfl, rfl, rfl, rfl, rfl, rfl, trivial⟩)
    refine code_cond_d rfl (fun h2 => ?_) (fun h2 => ?_)
    · skip
      (try simp only [Decidable.not_not] at h2)
      refine code_seq (fun K4 hK4 => ?_)
      refine code_region ?_
      refine list_cons rfl (op_buildSlice sl_26 (parts := []) rfl rfl rfl (by decide) (by decide) (by decide) rfl ?_)
      refine list_cons rfl (op_q (q_assign rfl (by decide)) ?_)
      refine list_cons rfl (op_q (q_assign rfl (by decide)) ?_)
      refine list_cons rfl (op_q (q_assign rfl (by decide)) ?_)
      refine list_nil ?_
      refine hK4 _ ?_; clear hK4 K4
      refine codeT.imp ?_ (imp_frz (x := 4) rfl)
      refine codeT.imp ?_ imp_unfrz
      refine code_ret ?_
      refine then_r ?_; clear hK2 K2
      refine ends_ret (cs := []) rfl rfl rfl rfl trivial ?_
      first
        | (have hLs : ¬ LsP k fr := fun z => by have z1 := z.1; have z2 := z.2; first | contradiction | omega
           refine ⟨[], fun z => absurd z hLs, ?_⟩
           simp only [if_neg hLs, decide_eq_false hLs]; first | done | rfl)
        | (have hie : i_12.toNat = (sqA L).length := by omega
           have hb := sq_best hLs.1 hLF hLa
           rw [hie]
           refine ⟨bsI (sqA L) (sqA L).length, fun _ => ⟨(bsI_perm (by omega) (Nat.le_refl _)).trans hLF, hb⟩, ?_⟩
           simp only [if_pos hLs, decide_eq_true hLs]; done)
    (try simp only [Decidable.not_not] at h2)
    refine code_skip ?_
    refine hK2 _ ?_; clear hK2 K2
    refine code_seq (fun K5 hK5 => ?_)
    refine code_region ?_
    refine list_cons rfl (op_buildSlice sl_26 (parts := []) rfl rfl rfl (by decide) (by decide) (by decide) rfl ?_)
    refine list_cons rfl (op_q (q_assign rfl (by decide)) ?_)
    refine list_nil ?_
    refine hK5 _ ?_; clear hK5 K5
    refine code_seq (fun K6 hK6 => ?_)
    refine code_seq (fun K7 hK7 => ?_)
    refine code_region ?_
    refine list_cons rfl (op_q (q_assign rfl (by decide)) ?_)
    refine list_nil ?_
    refine hK7 _ ?_; clear hK7 K7
    refine code_block ?_
    refine code_loop (X := PV × Int × Bool × Nat × List PV × Int) (fun x => [(0, .val (.int .i64 k)), (1, .par 1 (.sl fr.length (fl fr))), (4, .val x.1), (5, .val (.int .i64 x.2.1)), (6, .val (.bool x.2.2.1)), (7, .own 23 38 2 x.2.2.2.1 x.2.2.2.2.1), (8, .val (.int .i64 x.2.2.2.2.2))]) (fun x => LsP k fr ∧ 0 ≤ x.2.2.2.2.2 ∧ x.2.2.2.2.2 ≤ fr.length ∧ ∃ L : List (Int × Int), x.2.2.2.1 = L.length ∧ x.2.2.2.2.1 = fl L ∧ L.Perm (fr.take x.2.2.2.2.2.toNat) ∧ Asc (lnL L)) (fun x => (fr.length - x.2.2.2.2.2).toNat) (_, _, _, _, _, _) (imp_covers ⟨rfl, rfl, rfl, rfl, rfl, rfl, rfl, trivial⟩) ?_ ?_
    · (try dsimp only)
      exact ⟨⟨by assumption, by omega⟩, by omega, by omega, [], rfl, rfl, List.Perm.refl _, List.Pairwise.nil⟩
    · intro x hI
      obtain ⟨t4_p, t5, t6, sorted_n, sorted_c, i⟩ := x
      replace hI : LsP k fr ∧ 0 ≤ i ∧ i ≤ fr.length ∧ ∃ L : List (Int × Int), sorted_n = L.length ∧ sorted_c = fl L ∧ L.Perm (fr.take i.toNat) ∧ Asc (lnL L) := hI
      show codeT _ _ _ [(0, .val (.int .i64 k)), (1, .par 1 (.sl fr.length (fl fr))), (4, .val t4_p), (5, .val (.int .i64 t5)), (6, .val (.bool t6)), (7, .own 23 38 2 sorted_n sorted_c), (8, .val (.int .i64 i))] _
      obtain ⟨hLs, i1, i2, L, rfl, rfl, hLp, hLa⟩ := hI
      have hLl := hLp.length_eq
      rw [List.length_take] at hLl
      have hflL := fl_len L
      have h6 := hLs.2
      have hsp := sqA_pos (fr := L)
      have hsl := sqA_le (fr := L) (by omega)
      refine code_seq (fun K8 hK8 => ?_)
      refine code_seq (fun K9 hK9 => ?_)
      refine code_region ?_
      refine list_cons rfl (op_q (q_move rfl (by decide)) ?_)
      refine list_cons rfl (op_q (q_move rfl (by decide)) ?_)
      refine list_cons rfl (op_q (q_len_sl Try.underlying26 rfl rfl (by decide)) ?_)
      refine list_cons rfl (op_q (q_lt rfl rfl (by decide)) ?_)
      refine list_nil ?_
      refine hK9 _ ?_; clear hK9 K9
      refine code_cond_d rfl (fun h3 => ?_) (fun h3 => ?_)
      · skip
        (try simp only [Decidable.not_not] at h3)
        refine code_skip ?_
        refine hK8 _ ?_; clear hK8 K8
        refine code_seq (fun K10 hK10 => ?_)
        refine code_block ?_
        refine code_seq (fun K11 hK11 => ?_)
        refine code_region ?_
        refine list_cons rfl (op_q (q_assign rfl (by decide)) ?_)
        refine list_nil ?_
        refine hK11 _ ?_; clear hK11 K11
        refine code_seq (fun K12 hK12 => ?_)
        refine code_block ?_
        refine code_loop (X := PV × Int × Bool × Int) (fun x => [(0, .val (.int .i64 k)), (1, .par 1 (.sl fr.length (fl fr))), (4, .val x.1), (5, .val (.int .i64 x.2.1)), (6, .val (.bool x.2.2.1)), (7, .own 23 38 2 (L).length (fl (L))), (8, .val (.int .i64 i)), (9, .val (.int .i64 x.2.2.2))]) (fun x => 0 ≤ x.2.2.2 ∧ x.2.2.2 ≤ L.length ∧ ∀ j, j < x.2.2.2.toNat → ¬ slLt (fr.getD i.toNat (0, 0)) (L.getD j (0, 0))) (fun x => (L.length - x.2.2.2).toNat) (_, _, _, _) (imp_covers ⟨rfl, rfl, rfl, rfl, rfl, rfl, rfl, rfl, trivial⟩) ?_ ?_
        · (try dsimp only)
          exact ⟨by omega, by omega, fun j hj => by simp at hj⟩
        · intro x hI
          obtain ⟨t4_p, t5, t6, n⟩ := x
          replace hI : 0 ≤ n ∧ n ≤ L.length ∧ ∀ j, j < n.toNat → ¬ slLt (fr.getD i.toNat (0, 0)) (L.getD j (0, 0)) := hI
          show codeT _ _ _ [(0, .val (.int .i64 k)), (1, .par 1 (.sl fr.length (fl fr))), (4, .val t4_p), (5, .val (.int .i64 t5)), (6, .val (.bool t6)), (7, .own 23 38 2 (L).length (fl (L))), (8, .val (.int .i64 i)), (9, .val (.int .i64 n))] _
          obtain ⟨n1, n2, hnl⟩ := hI
          refine code_seq (fun K13 hK13 => ?_)
          refine code_seq (fun K14 hK14 => ?_)
          refine code_draw (by kernel_rfl) (by kernel_rfl) ?_
          refine draw_q rfl (q_move rfl (by decide)) ?_
          refine draw_q rfl (q_move rfl (by decide)) ?_
          refine draw_q rfl (q_len_sl Try.underlying26 rfl rfl (by decide)) ?_
          refine draw_q rfl (q_lt rfl rfl (by decide)) ?_
          refine draw_q rfl (q_move rfl (by decide)) ?_
          refine draw_guard_d rfl rfl rfl rfl (by decide) rfl (by decide) (fun h4 => q_move rfl (by decide)) (fun h4 => ?_) (fun h4 => ?_)
          · simp only [Bool.false_eq_true, if_true, if_false, Decidable.not_not] at h4
            (try simp only [Decidable.not_not] at h4)
            refine draw_guard_y rfl rfl rfl rfl (by decide) rfl (q_move rfl (by decide)) ?_
            refine draw_guard_y rfl rfl rfl rfl (by decide) rfl (q_indexAddr_rd sl_26 rfl (.inl ⟨_, rfl, rfl⟩) rfl (by omega) (by omega) (by decide)) ?_
            refine draw_guard_y rfl rfl rfl rfl (by decide) rfl (q_load_rd_aggE agg_38 rfl (.inl ⟨_, rfl⟩) (by first | decide | omega | exact Nat.le_refl _ | (simp; done) | (simp; omega)) (fl_at fr i.toNat (by omega)) rfl (by decide)) ?_
            refine draw_guard_y rfl rfl rfl rfl (by decide) rfl (q_move rfl (by decide)) ?_
            refine draw_guard_y rfl rfl rfl rfl (by decide) rfl (q_move rfl (by decide)) ?_
            refine draw_guard_y rfl rfl rfl rfl (by decide) rfl (q_indexAddr_own sl_26 rfl rfl (by omega) (by omega) (by decide)) ?_
            refine draw_guard_y rfl rfl rfl rfl (by decide) rfl (q_cast (q_load_agg agg_38 7 (.inl rfl) rfl rfl (by first | decide | omega | exact Nat.le_refl _ | (simp; done) | (simp; omega)) (flat_part (fl_flat L) _ _) (by decide)) (congrArg (fun z => SV.val (PV.agg z)) (fl_at L n.toNat (by omega)))) ?_
            refine draw_callW _ (spec_l8Less (fr.getD i.toNat (0, 0)) (L.getD n.toNat (0, 0))) rfl rfl rfl (by decide) (wanted_of rfl rfl rfl (by decide)) ?_
            refine draw_guard_y rfl rfl rfl rfl (by decide) rfl (by first | exact q_notd rfl (by decide) | exact q_not rfl (by decide)) ?_
            refine draw_q rfl (q_pick rfl rfl (by decide)) ?_
            refine draw_nil ?_
            refine hK14 _ ?_; clear hK14 K14
            refine codeT.imp (σ' := [(0, _), (1, _), (4, _), (5, _), (6, _), (7, _), (8, _), (9, _), (45, _)]) ?_ (imp_covers ⟨rfl, rfl, rfl, rfl, rfl, rfl, rfl, rfl, rfl, trivial⟩)
            refine code_cond_d rfl (fun h5 => ?_) (fun h5 => ?_)
            · skip
              (try simp only [Decidable.not_not] at h5)
              refine code_skip ?_
              refine hK13 _ ?_; clear hK13 K13
              refine code_block ?_
              refine code_region ?_
              refine list_cons rfl (op_q (q_move rfl (by decide)) ?_)
              refine list_cons rfl (op_q (by first | exact q_addI rfl rfl (by decide) (by omega) (by omega) | exact q_ib rfl rfl rfl (by decide)) ?_)
              refine list_cons rfl (op_q (q_assign rfl (by decide)) ?_)
              refine list_nil ?_
              refine blk_n ?_
              refine then_n ⟨(_, _, _, _), imp_covers ⟨rfl, rfl, rfl, rfl, rfl, rfl, rfl, rfl, trivial⟩, ?_, ?_⟩
              · (try dsimp only)
                first | exact ⟨by omega, by omega, fun j hj => by
                    by_cases e : j = n.toNat
                    · subst e; assumption
                    · exact hnl j (by omega)⟩
              · (try dsimp only); omega
            (try simp only [Decidable.not_not] at h5)
            refine code_exit ?_
            refine then_x ?_; clear hK13 K13
            refine then_x ?_
            refine blk_hit ?_
            refine hK12 _ ?_; clear hK12 K12
            refine any_start fun ob6_0 => ?_
            refine any_op (rd := []) ob6_0 rfl rfl rfl (fun σ hag hfr => by exact op_buildSlice sl_26 (parts := []) evp_nil rfl rfl (by decide) (by decide) (by decide) (fr1000 hfr (by decide)) rfl) (fun ob6_1 => ?_)
            simp only [List.cons_append, List.nil_append] at ob6_1
            refine any_op (rd := [7]) ob6_1 rfl rfl rfl (anyT_quiet [(7, _)] ⟨rfl, trivial⟩ rfl (q_move rfl (by decide))) (fun ob6_2 => ?_)
            simp only [List.cons_append, List.nil_append] at ob6_2
            refine any_op (rd := [9]) ob6_2 rfl rfl rfl (anyT_quiet [(9, _)] ⟨rfl, trivial⟩ rfl (q_move rfl (by decide))) (fun ob6_3 => ?_)
            simp only [List.cons_append, List.nil_append] at ob6_3
            refine any_op (rd := [49, 50]) ob6_3 rfl rfl rfl (anyT_quiet [(49, _), (50, _)] ⟨rfl, rfl, trivial⟩ rfl (q_slice_sl sl_26 rfl rfl rfl ⟨_, rfl⟩ (by omega) (by omega) (by omega) rfl (by decide))) (fun ob6_4 => ?_)
            simp only [List.cons_append, List.nil_append] at ob6_4
            refine any_st (rd := [48, 51]) ob6_4 rfl rfl (fun σ hag hfr => by have e48 : σ.at 48 = some _ := (hag 48 (by decide)).trans rfl; have e51 : σ.at 51 = some _ := (hag 51 (by decide)).trans rfl; exact opT.mono (op_append_gen sl_26 (l := 48) (l2 := none) (.inl e48) e51 rfl (.inl ⟨rfl, (by first | rfl | exact fl_flat _ | exact flat_part (fl_flat _) _ _)⟩) (by first | rfl | (rw [fl_len]; done) | (simp only [List.length_take, List.length_drop, fl_len]; omega)) (by omega) (by decide) (by decide) (by decide) rfl) (fun σ2 h2 => by subst h2; exact post_take (h0 := 48) (hs := []) (L := 48) (l := 48) (by intro h hm; simp only [List.mem_cons, List.not_mem_nil, or_false] at hm; subst hm; exact ⟨_, e48, List.mem_cons_self⟩) rfl hfr)) (fun ob6_5 => ?_)
            simp only [List.cons_append, List.nil_append] at ob6_5
            refine any_op (rd := [1]) ob6_5 rfl rfl rfl (anyT_quiet [(1, _)] ⟨rfl, trivial⟩ rfl (q_move rfl (by decide))) (fun ob6_6 => ?_)
            simp only [List.cons_append, List.nil_append] at ob6_6
            refine any_op (rd := [8]) ob6_6 rfl rfl rfl (anyT_quiet [(8, _)] ⟨rfl, trivial⟩ rfl (q_move rfl (by decide))) (fun ob6_7 => ?_)
            simp only [List.cons_append, List.nil_append] at ob6_7
            refine any_op (rd := [53, 54]) ob6_7 rfl rfl rfl (anyT_quiet [(53, _), (54, _)] ⟨rfl, rfl, trivial⟩ rfl (q_indexAddr_rd sl_26 rfl (.inl ⟨_, rfl, rfl⟩) rfl (by omega) (by omega) (by decide))) (fun ob6_8 => ?_)
            simp only [List.cons_append, List.nil_append] at ob6_8
            refine any_op (rd := [55]) ob6_8 rfl rfl rfl (anyT_quiet [(55, _)] ⟨rfl, trivial⟩ rfl (q_load_rd_aggE agg_38 rfl (.inl ⟨_, rfl⟩) (by first | decide | omega | exact Nat.le_refl _ | (simp; done) | (simp; omega)) (fl_at fr i.toNat (by omega)) rfl (by decide))) (fun ob6_9 => ?_)
            simp only [List.cons_append, List.nil_append] at ob6_9
            refine any_op (rd := [56]) ob6_9 rfl rfl rfl (fun σ hag hfr => by have e56 : σ.at 56 = some _ := (hag 56 (by decide)).trans rfl; exact op_buildSlice sl_26 (parts := [(0, .tmp 56)]) (evp_cons (by first | rfl | assumption) rfl rfl evp_nil) rfl rfl (by decide) (by decide) (by decide) (fr1000 hfr (by decide)) rfl) (fun ob6_10 => ?_)
            simp only [List.cons_append, List.nil_append] at ob6_10
            refine any_st (rd := [52, 57]) ob6_10 rfl rfl (fun σ hag hfr => by have e52 : σ.at 52 = some _ := (hag 52 (by decide)).trans rfl; have e57 : σ.at 57 = some _ := (hag 57 (by decide)).trans rfl; exact opT.mono (op_append_gen sl_26 (l := 48) (l2 := none) (.inl e52) e57 rfl (.inl ⟨rfl, (by first | rfl | exact fl_flat _ | exact flat_part (fl_flat _) _ _)⟩) (by first | rfl | (rw [fl_len]; done) | (simp only [List.length_take, List.length_drop, fl_len]; omega)) (by omega) (by decide) (by decide) (by decide) rfl) (fun σ2 h2 => by subst h2; exact post_take (h0 := 52) (hs := []) (L := 48) (l := 48) (by intro h hm; simp only [List.mem_cons, List.not_mem_nil, or_false] at hm; subst hm; exact ⟨_, e52, List.mem_cons_self⟩) rfl hfr)) (fun ob6_11 => ?_)
            simp only [List.cons_append, List.nil_append] at ob6_11
            refine any_op (rd := [7]) ob6_11 rfl rfl rfl (anyT_quiet [(7, _)] ⟨rfl, trivial⟩ rfl (q_move rfl (by decide))) (fun ob6_12 => ?_)
            simp only [List.cons_append, List.nil_append] at ob6_12
            refine any_op (rd := [9]) ob6_12 rfl rfl rfl (anyT_quiet [(9, _)] ⟨rfl, trivial⟩ rfl (q_move rfl (by decide))) (fun ob6_13 => ?_)
            simp only [List.cons_append, List.nil_append] at ob6_13
            refine any_op (rd := [59, 60]) ob6_13 rfl rfl rfl (anyT_quiet [(59, _), (60, _)] ⟨rfl, rfl, trivial⟩ rfl (q_slice_sl sl_26 rfl rfl ⟨_, rfl⟩ rfl (by omega) (by omega) (by omega) rfl (by decide))) (fun ob6_14 => ?_)
            simp only [List.cons_append, List.nil_append] at ob6_14
            refine any_end [[], [], [], [1, 2], [0, 1, 2, 3], [], [], [5, 6], [5, 6, 7], [5, 6, 7, 8], [0, 1, 2, 3, 4, 5, 6, 7, 8, 9], [], [], [11, 12], [0, 1, 2, 3, 4, 5, 6, 7, 8, 9, 10, 11, 12, 13], [0, 1, 2, 3, 4, 5, 6, 7, 8, 9, 10, 11, 12, 13, 14]] ob6_14 (by kernel_rfl) (Nat.le_of_ble_eq_true rfl) (by decide) (by decide) (by kernel_rfl) (by kernel_rfl) (by kernel_rfl) (by kernel_rfl) (by kernel_rfl) ?_
            clear ob6_0 ob6_1 ob6_2 ob6_3 ob6_4 ob6_5 ob6_6 ob6_7 ob6_8 ob6_9 ob6_10 ob6_11 ob6_12 ob6_13 ob6_14
            refine listT.imp (σ' := [(0, _), (1, _), (4, _), (5, _), (6, _), (7, _), (8, _), (9, _), (45, _), (48, _), (49, _), (50, _), (51, _), (52, _), (53, _), (54, _), (55, _), (56, _), (57, _), (58, _), (59, _), (60, _), (61, _)]) ?_ (imp_covers ⟨rfl, rfl, rfl, rfl, rfl, rfl, rfl, rfl, rfl, rfl, rfl, rfl, rfl, rfl, rfl, rfl, rfl, rfl, rfl, rfl, rfl, rfl, rfl, trivial⟩)
            refine list_cons rfl (op_append_gen sl_26 (l := 48) (.inl rfl) rfl rfl (l2 := none) (.inl ⟨rfl, (by first | rfl | exact fl_flat _ | exact flat_part (fl_flat _) _ _)⟩) (by first | rfl | (rw [fl_len]; done) | (simp only [List.length_take, List.length_drop, fl_len]; omega)) (by omega) (by decide) (by decide) (by decide) ?_)
            refine list_cons rfl (op_q (q_assign rfl (by decide)) ?_)
            refine list_nil ?_
            refine blk_n ?_
            refine hK10 _ ?_; clear hK10 K10
            refine codeT.imp (σ' := [(0, _), (1, _), (4, _), (5, _), (6, _), (7, _), (8, _), (9, _)]) ?_ (imp_covers ⟨rfl, rfl, rfl, rfl, rfl, rfl, rfl, rfl, trivial⟩)
            refine code_region ?_
            refine list_cons rfl (op_q (q_move rfl (by decide)) ?_)
            refine list_cons rfl (op_q (by first | exact q_addI rfl rfl (by decide) (by omega) (by omega) | exact q_ib rfl rfl rfl (by decide)) ?_)
            refine list_cons rfl (op_q (q_assign rfl (by decide)) ?_)
            refine list_nil ?_
            refine then_n ⟨(_, _, _, _, _, _), (imp_covers (σ' := [(0, _), (1, _), (4, _), (5, _), (6, _), (7, _), (8, _)]) ⟨rfl, rfl, rfl, rfl, rfl, rfl, rfl, trivial⟩).trans ((imp_ren 48 23 (by decide) (by decide) rfl).trans (imp_covers ⟨rfl, rfl, rfl, rfl, rfl, rfl, rfl, trivial⟩)), ?_, ?_⟩
            · (try dsimp only)
              have hio := ins_ok hLs.1.2 hLs.1.1.2 (i := i.toNat) (n := n.toNat) (by omega) hLp hLa (by omega) hnl (fun h => by first | assumption | (exfalso; omega))
              exact ⟨hLs, by omega, by omega, L.take n.toNat ++ [fr.getD i.toNat (0, 0)] ++ L.drop n.toNat, by simp only [List.length_append, List.length_take, List.length_drop, List.length_singleton]; omega, ins_fl _ (by omega), by rw [show (i + 1).toNat = i.toNat + 1 by omega]; exact hio.1, hio.2⟩
            · (try dsimp only); omega
          simp only [Bool.false_eq_true, if_true, if_false, Decidable.not_not] at h4
          (try simp only [Decidable.not_not] at h4)
          refine draw_guard_n rfl rfl rfl rfl (by decide) rfl ?_
          refine draw_guard_n rfl rfl rfl rfl (by decide) rfl ?_
          refine draw_guard_n rfl rfl rfl rfl (by decide) rfl ?_
          refine draw_guard_n rfl rfl rfl rfl (by decide) rfl ?_
          refine draw_guard_n rfl rfl rfl rfl (by decide) rfl ?_
          refine draw_guard_n rfl rfl rfl rfl (by decide) rfl ?_
          refine draw_guard_n rfl rfl rfl rfl (by decide) rfl ?_
          refine draw_guard_n rfl rfl rfl rfl (by decide) rfl ?_
          refine draw_guard_n rfl rfl rfl rfl (by decide) rfl ?_
          refine draw_q rfl (q_pick rfl rfl (by decide)) ?_
          refine draw_nil ?_
          refine hK14 _ ?_; clear hK14 K14
          refine code_cond_f rfl ?_
          refine code_exit ?_
          refine then_x ?_; clear hK13 K13
          refine then_x ?_
          refine blk_hit ?_
          refine hK12 _ ?_; clear hK12 K12
          refine any_start fun ob7_0 => ?_
          refine any_op (rd := []) ob7_0 rfl rfl rfl (fun σ hag hfr => by exact op_buildSlice sl_26 (parts := []) evp_nil rfl rfl (by decide) (by decide) (by decide) (fr1000 hfr (by decide)) rfl) (fun ob7_1 => ?_)
          simp only [List.cons_append, List.nil_append] at ob7_1
          refine any_op (rd := [7]) ob7_1 rfl rfl rfl (anyT_quiet [(7, _)] ⟨rfl, trivial⟩ rfl (q_move rfl (by decide))) (fun ob7_2 => ?_)
          simp only [List.cons_append, List.nil_append] at ob7_2
          refine any_op (rd := [9]) ob7_2 rfl rfl rfl (anyT_quiet [(9, _)] ⟨rfl, trivial⟩ rfl (q_move rfl (by decide))) (fun ob7_3 => ?_)
          simp only [List.cons_append, List.nil_append] at ob7_3
          refine any_op (rd := [49, 50]) ob7_3 rfl rfl rfl (anyT_quiet [(49, _), (50, _)] ⟨rfl, rfl, trivial⟩ rfl (q_slice_sl sl_26 rfl rfl rfl ⟨_, rfl⟩ (by omega) (by omega) (by omega) rfl (by decide))) (fun ob7_4 => ?_)
          simp only [List.cons_append, List.nil_append] at ob7_4
          refine any_st (rd := [48, 51]) ob7_4 rfl rfl (fun σ hag hfr => by have e48 : σ.at 48 = some _ := (hag 48 (by decide)).trans rfl; have e51 : σ.at 51 = some _ := (hag 51 (by decide)).trans rfl; exact opT.mono (op_append_gen sl_26 (l := 48) (l2 := none) (.inl e48) e51 rfl (.inl ⟨rfl, (by first | rfl | exact fl_flat _ | exact flat_part (fl_flat _) _ _)⟩) (by first | rfl | (rw [fl_len]; done) | (simp only [List.length_take, List.length_drop, fl_len]; omega)) (by omega) (by decide) (by decide) (by decide) rfl) (fun σ2 h2 => by subst h2; exact post_take (h0 := 48) (hs := []) (L := 48) (l := 48) (by intro h hm; simp only [List.mem_cons, List.not_mem_nil, or_false] at hm; subst hm; exact ⟨_, e48, List.mem_cons_self⟩) rfl hfr)) (fun ob7_5 => ?_)
          simp only [List.cons_append, List.nil_append] at ob7_5
          refine any_op (rd := [1]) ob7_5 rfl rfl rfl (anyT_quiet [(1, _)] ⟨rfl, trivial⟩ rfl (q_move rfl (by decide))) (fun ob7_6 => ?_)
          simp only [List.cons_append, List.nil_append] at ob7_6
          refine any_op (rd := [8]) ob7_6 rfl rfl rfl (anyT_quiet [(8, _)] ⟨rfl, trivial⟩ rfl (q_move rfl (by decide))) (fun ob7_7 => ?_)
          simp only [List.cons_append, List.nil_append] at ob7_7
          refine any_op (rd := [53, 54]) ob7_7 rfl rfl rfl (anyT_quiet [(53, _), (54, _)] ⟨rfl, rfl, trivial⟩ rfl (q_indexAddr_rd sl_26 rfl (.inl ⟨_, rfl, rfl⟩) rfl (by omega) (by omega) (by decide))) (fun ob7_8 => ?_)
          simp only [List.cons_append, List.nil_append] at ob7_8
          refine any_op (rd := [55]) ob7_8 rfl rfl rfl (anyT_quiet [(55, _)] ⟨rfl, trivial⟩ rfl (q_load_rd_aggE agg_38 rfl (.inl ⟨_, rfl⟩) (by first | decide | omega | exact Nat.le_refl _ | (simp; done) | (simp; omega)) (fl_at fr i.toNat (by omega)) rfl (by decide))) (fun ob7_9 => ?_)
          simp only [List.cons_append, List.nil_append] at ob7_9
          refine any_op (rd := [56]) ob7_9 rfl rfl rfl (fun σ hag hfr => by have e56 : σ.at 56 = some _ := (hag 56 (by decide)).trans rfl; exact op_buildSlice sl_26 (parts := [(0, .tmp 56)]) (evp_cons (by first | rfl | assumption) rfl rfl evp_nil) rfl rfl (by decide) (by decide) (by decide) (fr1000 hfr (by decide)) rfl) (fun ob7_10 => ?_)
          simp only [List.cons_append, List.nil_append] at ob7_10
          refine any_st (rd := [52, 57]) ob7_10 rfl rfl (fun σ hag hfr => by have e52 : σ.at 52 = some _ := (hag 52 (by decide)).trans rfl; have e57 : σ.at 57 = some _ := (hag 57 (by decide)).trans rfl; exact opT.mono (op_append_gen sl_26 (l := 48) (l2 := none) (.inl e52) e57 rfl (.inl ⟨rfl, (by first | rfl | exact fl_flat _ | exact flat_part (fl_flat _) _ _)⟩) (by first | rfl | (rw [fl_len]; done) | (simp only [List.length_take, List.length_drop, fl_len]; omega)) (by omega) (by decide) (by decide) (by decide) rfl) (fun σ2 h2 => by subst h2; exact post_take (h0 := 52) (hs := []) (L := 48) (l := 48) (by intro h hm; simp only [List.mem_cons, List.not_mem_nil, or_false] at hm; subst hm; exact ⟨_, e52, List.mem_cons_self⟩) rfl hfr)) (fun ob7_11 => ?_)
          simp only [List.cons_append, List.nil_append] at ob7_11
          refine any_op (rd := [7]) ob7_11 rfl rfl rfl (anyT_quiet [(7, _)] ⟨rfl, trivial⟩ rfl (q_move rfl (by decide))) (fun ob7_12 => ?_)
          simp only [List.cons_append, List.nil_append] at ob7_12
          refine any_op (rd := [9]) ob7_12 rfl rfl rfl (anyT_quiet [(9, _)] ⟨rfl, trivial⟩ rfl (q_move rfl (by decide))) (fun ob7_13 => ?_)
          simp only [List.cons_append, List.nil_append] at ob7_13
          refine any_op (rd := [59, 60]) ob7_13 rfl rfl rfl (anyT_quiet [(59, _), (60, _)] ⟨rfl, rfl, trivial⟩ rfl (q_slice_sl sl_26 rfl rfl ⟨_, rfl⟩ rfl (by omega) (by omega) (by omega) rfl (by decide))) (fun ob7_14 => ?_)
          simp only [List.cons_append, List.nil_append] at ob7_14
          refine any_end [[], [], [], [1, 2], [0, 1, 2, 3], [], [], [5, 6], [5, 6, 7], [5, 6, 7, 8], [0, 1, 2, 3, 4, 5, 6, 7, 8, 9], [], [], [11, 12], [0, 1, 2, 3, 4, 5, 6, 7, 8, 9, 10, 11, 12, 13], [0, 1, 2, 3, 4, 5, 6, 7, 8, 9, 10, 11, 12, 13, 14]] ob7_14 (by kernel_rfl) (Nat.le_of_ble_eq_true rfl) (by decide) (by decide) (by kernel_rfl) (by kernel_rfl) (by kernel_rfl) (by kernel_rfl) (by kernel_rfl) ?_
          clear ob7_0 ob7_1 ob7_2 ob7_3 ob7_4 ob7_5 ob7_6 ob7_7 ob7_8 ob7_9 ob7_10 ob7_11 ob7_12 ob7_13 ob7_14
          refine listT.imp (σ' := [(0, _), (1, _), (4, _), (5, _), (6, _), (7, _), (8, _), (9, _), (30, _), (31, _), (32, _), (33, _), (34, _), (45, _), (48, _), (49, _), (50, _), (51, _), (52, _), (53, _), (54, _), (55, _), (56, _), (57, _), (58, _), (59, _), (60, _), (61, _)]) ?_ (imp_covers ⟨rfl, rfl, rfl, rfl, rfl, rfl, rfl, rfl, rfl, rfl, rfl, rfl, rfl, rfl, rfl, rfl, rfl, rfl, rfl, rfl, rfl, rfl, rfl, rfl, rfl, rfl, rfl, rfl, trivial⟩)
          refine list_cons rfl (op_append_gen sl_26 (l := 48) (.inl rfl) rfl rfl (l2 := none) (.inl ⟨rfl, (by first | rfl | exact fl_flat _ | exact flat_part (fl_flat _) _ _)⟩) (by first | rfl | (rw [fl_len]; done) | (simp only [List.length_take, List.length_drop, fl_len]; omega)) (by omega) (by decide) (by decide) (by decide) ?_)
          refine list_cons rfl (op_q (q_assign rfl (by decide)) ?_)
          refine list_nil ?_
          refine blk_n ?_
          refine hK10 _ ?_; clear hK10 K10
          refine codeT.imp (σ' := [(0, _), (1, _), (4, _), (5, _), (6, _), (7, _), (8, _), (9, _)]) ?_ (imp_covers ⟨rfl, rfl, rfl, rfl, rfl, rfl, rfl, rfl, trivial⟩)
          refine code_region ?_
          refine list_cons rfl (op_q (q_move rfl (by decide)) ?_)
          refine list_cons rfl (op_q (by first | exact q_addI rfl rfl (by decide) (by omega) (by omega) | exact q_ib rfl rfl rfl (by decide)) ?_)
          refine list_cons rfl (op_q (q_assign rfl (by decide)) ?_)
          refine list_nil ?_
          refine then_n ⟨(_, _, _, _, _, _), (imp_covers (σ' := [(0, _), (1, _), (4, _), (5, _), (6, _), (7, _), (8, _)]) ⟨rfl, rfl, rfl, rfl, rfl, rfl, rfl, trivial⟩).trans ((imp_ren 48 23 (by decide) (by decide) rfl).trans (imp_covers ⟨rfl, rfl, rfl, rfl, rfl, rfl, rfl, trivial⟩)), ?_, ?_⟩
          · (try dsimp only)
            have hio := ins_ok hLs.1.2 hLs.1.1.2 (i := i.toNat) (n := n.toNat) (by omega) hLp hLa (by omega) hnl (fun h => by first | assumption | (exfalso; omega))
            exact ⟨hLs, by omega, by omega, L.take n.toNat ++ [fr.getD i.toNat (0, 0)] ++ L.drop n.toNat, by simp only [List.length_append, List.length_take, List.length_drop, List.length_singleton]; omega, ins_fl _ (by omega), by rw [show (i + 1).toNat = i.toNat + 1 by omega]; exact hio.1, hio.2⟩
          · (try dsimp only); omega
      (try simp only [Decidable.not_not] at h3)
      refine code_exit ?_
      refine then_x ?_; clear hK8 K8
      refine then_x ?_
      refine blk_hit ?_
      refine hK6 _ ?_; clear hK6 K6
      refine code_seq (fun K15 hK15 => ?_)
      refine code_region ?_
      refine list_cons rfl (op_q (q_move rfl (by decide)) ?_)
      refine list_cons rfl (op_call _ (spec_l8Sequences _ L rfl (by have := hLp.length_eq; rw [List.length_take] at this; have := hLs.2; omega)) rfl rfl (by decide) (by decide) (by decide) rfl ?_)
      rintro _ rfl
      refine list_cons rfl (op_q (q_assign rfl (by decide)) ?_)
      refine list_nil ?_
      refine hK15 _ ?_; clear hK15 K15
      refine codeT.imp (σ' := [(0, _), (1, _), (4, _), (5, _), (6, _), (7, _), (8, _), (10, _)]) ?_ (imp_covers ⟨rfl, rfl, rfl, rfl, rfl, rfl, rfl, rfl, trivial⟩)
      refine code_seq (fun K16 hK16 => ?_)
      refine code_region ?_
      refine list_cons rfl (op_q (q_move rfl (by decide)) ?_)
      refine list_cons rfl (op_q (q_indexAddr_own sl_47 rfl rfl (by omega) (by omega) (by decide)) ?_)
      refine list_cons rfl (op_q (q_load one_26 10 rfl rfl rfl (qC_at (by omega)) (by decide)) ?_)
      refine list_cons rfl (op_q (q_assign rfl (by decide)) ?_)
      refine list_nil ?_
      refine hK16 _ ?_; clear hK16 K16
      refine code_seq (fun K17 hK17 => ?_)
      refine code_seq (fun K18 hK18 => ?_)
      refine code_region ?_
      refine list_cons rfl (op_q (q_assign rfl (by decide)) ?_)
      refine list_nil ?_
      refine hK18 _ ?_; clear hK18 K18
      refine code_block ?_
      refine code_loop (X := PV × Int × Bool × Nat × List PV × Int × PV × Int) (fun x => [(0, .val (.int .i64 k)), (1, .par 1 (.sl fr.length (fl fr))), (4, .val x.1), (5, .val (.int .i64 x.2.1)), (6, .val (.bool x.2.2.1)), (7, .own 23 38 2 x.2.2.2.1 x.2.2.2.2.1), (8, .val (.int .i64 x.2.2.2.2.2.1)), (10, .own 64 26 1 (sqA L).length (qC (sqA L))), (11, .bor 64 x.2.2.2.2.2.2.1), (12, .val (.int .i64 x.2.2.2.2.2.2.2))]) (fun x => 1 ≤ x.2.2.2.2.2.2.2 ∧ x.2.2.2.2.2.2.2 ≤ (sqA L).length ∧ x.2.2.2.2.2.2.1 = .sl (bsI (sqA L) x.2.2.2.2.2.2.2.toNat).length (fl (bsI (sqA L) x.2.2.2.2.2.2.2.toNat))) (fun x => ((sqA L).length - x.2.2.2.2.2.2.2).toNat) (_, _, _, _, _, _, _, _) (imp_covers ⟨rfl, rfl, rfl, rfl, rfl, rfl, rfl, rfl, rfl, rfl, trivial⟩) ?_ ?_
      · (try dsimp only)
        exact ⟨by omega, by omega, by rw [show (1 : Int).toNat = 1 from rfl, bsI_1]; rfl⟩
      · intro x hI
        obtain ⟨t4_p, t5, t6, sorted_n, sorted_c, i, best_p, i_12⟩ := x
        replace hI : 1 ≤ i_12 ∧ i_12 ≤ (sqA L).length ∧ best_p = .sl (bsI (sqA L) i_12.toNat).length (fl (bsI (sqA L) i_12.toNat)) := hI
        show codeT _ _ _ [(0, .val (.int .i64 k)), (1, .par 1 (.sl fr.length (fl fr))), (4, .val t4_p), (5, .val (.int .i64 t5)), (6, .val (.bool t6)), (7, .own 23 38 2 sorted_n sorted_c), (8, .val (.int .i64 i)), (10, .own 64 26 1 (sqA L).length (qC (sqA L))), (11, .bor 64 best_p), (12, .val (.int .i64 i_12))] _
        obtain ⟨i1, i2, rfl⟩ := hI
        have hLF : L.Perm fr := by rw [List.take_of_length_le (by omega)] at hLp; exact hLp
        have hLG : GdP k L := hLs.1.perm hLF
        refine code_seq (fun K19 hK19 => ?_)
        refine code_seq (fun K20 hK20 => ?_)
        refine code_region ?_
        refine list_cons rfl (op_q (q_move rfl (by decide)) ?_)
        refine list_cons rfl (op_q (q_move rfl (by decide)) ?_)
        refine list_cons rfl (op_q (q_len_sl Try.underlying47 rfl rfl (by decide)) ?_)
        refine list_cons rfl (op_q (q_lt rfl rfl (by decide)) ?_)
        refine list_nil ?_
        refine hK20 _ ?_; clear hK20 K20
        refine code_cond_d rfl (fun h6 => ?_) (fun h6 => ?_)
        · skip
          (try simp only [Decidable.not_not] at h6)
          refine code_skip ?_
          refine hK19 _ ?_; clear hK19 K19
          refine code_seq (fun K21 hK21 => ?_)
          refine code_block ?_
          refine code_seq (fun K22 hK22 => ?_)
          refine code_region ?_
          refine list_cons rfl (op_q (q_move rfl (by decide)) ?_)
          refine list_cons rfl (op_q (q_move rfl (by decide)) ?_)
          refine list_cons rfl (op_q (q_indexAddr_own sl_47 rfl rfl (by omega) (by omega) (by decide)) ?_)
          refine list_cons rfl (op_q (q_load one_26 10 rfl rfl rfl (qC_at (by omega)) (by decide)) ?_)
          refine list_cons rfl (op_call _ (spec_l8Switches k ((sqA L).getD i_12.toNat []) (hLG.perm (sqA_in (by omega)))) rfl rfl (by decide) (by decide) (by decide) rfl ?_)
          rintro _ rfl
          refine list_cons rfl (op_q (q_move rfl (by decide)) ?_)
          refine list_cons rfl (op_call _ (spec_l8Switches k (bsI (sqA L) i_12.toNat) (hLG.perm (bsI_perm (by omega) (by omega)))) rfl rfl (by decide) (by decide) (by decide) rfl ?_)
          rintro _ rfl
          refine list_cons rfl (op_q (q_lt rfl rfl (by decide)) ?_)
          refine list_nil ?_
          refine hK22 _ ?_; clear hK22 K22
          refine codeT.imp (σ' := [(0, _), (1, _), (4, _), (5, _), (6, _), (7, _), (8, _), (10, _), (11, _), (12, _), (81, _)]) ?_ (imp_covers ⟨rfl, rfl, rfl, rfl, rfl, rfl, rfl, rfl, rfl, rfl, rfl, trivial⟩)
          refine code_cond_d rfl (fun h7 => ?_) (fun h7 => ?_)
          · skip
            (try simp only [Decidable.not_not] at h7)
            refine code_region ?_
            refine list_cons rfl (op_q (q_move rfl (by decide)) ?_)
            refine list_cons rfl (op_q (q_move rfl (by decide)) ?_)
            refine list_cons rfl (op_q (q_indexAddr_own sl_47 rfl rfl (by omega) (by omega) (by decide)) ?_)
            refine list_cons rfl (op_q (q_load one_26 10 rfl rfl rfl (qC_at (by omega)) (by decide)) ?_)
            refine list_cons rfl (op_q (q_assign rfl (by decide)) ?_)
            refine list_nil ?_
            refine blk_n ?_
            refine hK21 _ ?_; clear hK21 K21
            refine code_region ?_
            refine list_cons rfl (op_q (q_move rfl (by decide)) ?_)
            refine list_cons rfl (op_q (by first | exact q_addI rfl rfl (by decide) (by omega) (by omega) | exact q_ib rfl rfl rfl (by decide)) ?_)
            refine list_cons rfl (op_q (q_assign rfl (by decide)) ?_)
            refine list_nil ?_
            refine then_n ⟨(_, _, _, _, _, _, _, _), imp_covers ⟨rfl, rfl, rfl, rfl, rfl, rfl, rfl, rfl, rfl, rfl, trivial⟩, ?_, ?_⟩
            · (try dsimp only)
              have hi : (i_12 + 1).toNat = i_12.toNat + 1 := by omega
              have hbs := bsI_succ (M := sqA L) (i := i_12.toNat) (by omega) (by omega)
              first
                | (have hx : swC ((sqA L).getD i_12.toNat []) < swC (bsI (sqA L) i_12.toNat) := by assumption
                   rw [if_pos hx] at hbs
                   exact ⟨by omega, by omega, by rw [hi, hbs]⟩)
                | (have hx : ¬ swC ((sqA L).getD i_12.toNat []) < swC (bsI (sqA L) i_12.toNat) := by assumption
                   rw [if_neg hx] at hbs
                   exact ⟨by omega, by omega, by rw [hi, hbs]⟩)
            · (try dsimp only); omega
          (try simp only [Decidable.not_not] at h7)
          refine code_skip ?_
          refine blk_n ?_
          refine hK21 _ ?_; clear hK21 K21
          refine code_region ?_
          refine list_cons rfl (op_q (q_move rfl (by decide)) ?_)
          refine list_cons rfl (op_q (by first | exact q_addI rfl rfl (by decide) (by omega) (by omega) | exact q_ib rfl rfl rfl (by decide)) ?_)
          refine list_cons rfl (op_q (q_assign rfl (by decide)) ?_)
          refine list_nil ?_
          refine then_n ⟨(_, _, _, _, _, _, _, _), imp_covers ⟨rfl, rfl, rfl, rfl, rfl, rfl, rfl, rfl, rfl, rfl, trivial⟩, ?_, ?_⟩
          · (try dsimp only)
            have hi : (i_12 + 1).toNat = i_12.toNat + 1 := by omega
            have hbs := bsI_succ (M := sqA L) (i := i_12.toNat) (by omega) (by omega)
            first
              | (have hx : swC ((sqA L).getD i_12.toNat []) < swC (bsI (sqA L) i_12.toNat) := by assumption
                 rw [if_pos hx] at hbs
                 exact ⟨by omega, by omega, by rw [hi, hbs]⟩)
              | (have hx : ¬ swC ((sqA L).getD i_12.toNat []) < swC (bsI (sqA L) i_12.toNat) := by assumption
                 rw [if_neg hx] at hbs
                 exact ⟨by omega, by omega, by rw [hi, hbs]⟩)
          · (try dsimp only); omega
        (try simp only [Decidable.not_not] at h6)
        refine code_exit ?_
        refine then_x ?_; clear hK19 K19
        refine then_x ?_
        refine blk_hit ?_
        refine hK17 _ ?_; clear hK17 K17
        refine code_seq (fun K23 hK23 => ?_)
        refine code_region ?_
        refine list_cons rfl (op_q (q_move rfl (by decide)) ?_)
        refine list_cons rfl (op_q (q_move rfl (by decide)) ?_)
        refine list_cons rfl (op_call _ (spec_l8Switches k (bsI (sqA L) i_12.toNat) (hLG.perm (bsI_perm (by omega) (by omega)))) rfl rfl (by decide) (by decide) (by decide) rfl ?_)
        rintro _ rfl
        refine list_cons rfl (op_q (q_assign rfl (by decide)) ?_)
        refine list_cons rfl (op_q (q_assign rfl (by decide)) ?_)
        refine list_cons rfl (op_q (q_assign rfl (by decide)) ?_)
        refine list_nil ?_
        refine hK23 _ ?_; clear hK23 K23
        refine codeT.imp (σ' := [(0, _), (1, _), (4, _), (5, _), (6, _), (7, _), (8, _), (10, _), (11, _), (12, _)]) ?_ (imp_covers ⟨rfl, rfl, rfl, rfl, rfl, rfl, rfl, rfl, rfl, rfl, trivial⟩)
        refine code_ret ?_
        refine ends_ret (cs := []) rfl rfl rfl rfl trivial ?_
        first
          | (have hLs : ¬ LsP k fr := fun z => by have z1 := z.1; have z2 := z.2; first | contradiction | omega
             refine ⟨[], fun z => absurd z hLs, ?_⟩
             simp only [if_neg hLs, decide_eq_false hLs]; first | done | rfl)
          | (have hie : i_12.toNat = (sqA L).length := by omega
             have hb := sq_best hLs.1 hLF hLa
             rw [hie]
             refine ⟨bsI (sqA L) (sqA L).length, fun _ => ⟨(bsI_perm (by omega) (Nat.le_refl _)).trans hLF, hb⟩, ?_⟩
             simp only [if_pos hLs, decide_eq_true hLs]; done)
  simp only [Bool.false_eq_true, if_true, if_false, Decidable.not_not] at h1
  (try simp only [Decidable.not_not] at h1)
  refine list_guard_n rfl rfl rfl rfl (by decide) rfl ?_
  refine list_guard_n rfl rfl rfl rfl (by decide) rfl ?_
  refine list_cons rfl (op_q (q_pick rfl rfl (by decide)) ?_)
  refine list_nil ?_
  refine hK3 _ ?_; clear hK3 K3
  refine code_cond_t rfl ?_
  refine code_seq (fun K24 hK24 => ?_)
  refine code_region ?_
  refine list_cons rfl (op_buildSlice sl_26 (parts := []) rfl rfl rfl (by decide) (by decide) (by decide) rfl ?_)
  refine list_cons rfl (op_q (q_assign rfl (by decide)) ?_)
  refine list_cons rfl (op_q (q_assign rfl (by decide)) ?_)
  refine list_cons rfl (op_q (q_assign rfl (by decide)) ?_)
  refine list_nil ?_
  refine hK24 _ ?_; clear hK24 K24
  refine codeT.imp (σ' := [(0, _), (1, _), (4, _), (5, _), (6, _)]) ?_ (imp_covers ⟨rfl, rfl, rfl, rfl, rfl, trivial⟩)
  refine codeT.imp ?_ (imp_frz (x := 4) rfl)
  refine codeT.imp ?_ imp_unfrz
  refine code_ret ?_
  refine then_r ?_; clear hK2 K2
  refine ends_ret (cs := []) rfl rfl rfl rfl trivial ?_
  first
    | (have hLs : ¬ LsP k fr := fun z => by have z1 := z.1; have z2 := z.2; first | contradiction | omega
       refine ⟨[], fun z => absurd z hLs, ?_⟩
       simp only [if_neg hLs, decide_eq_false hLs]; first | done | rfl)
    | (have hie : i_12.toNat = (sqA L).length := by omega
       have hb := sq_best hLs.1 hLF hLa
       rw [hie]
       refine ⟨bsI (sqA L) (sqA L).length, fun _ => ⟨(bsI_perm (by omega) (Nat.le_refl _)).trans hLF, hb⟩, ?_⟩
       simp only [if_pos hLs, decide_eq_true hLs]; done)

def bsD (fr : List (Int × Int)) : List (Int × Int) := bsI (sqA (unL (srt (lnL fr)))) (sqA (unL (srt (lnL fr)))).length
def lsF (k : Int) (fr : List (Int × Int)) : List (Int × Int) := if LsP k fr then bsD fr else []
def lsV (k : Int) (fr : List (Int × Int)) : Int := if LsP k fr then swK (bsD fr) (bsD fr).length else 0
theorem unL_asc {k : Int} {fr : List (Int × Int)} (hg : GdP k fr) : (unL (srt (lnL fr))).Perm fr ∧ lnL (unL (srt (lnL fr))) = srt (lnL fr) := by
  have hp : (unL (srt (lnL fr))).Perm fr := by
    have h1 : (unL (srt (lnL fr))).Perm (unL (lnL fr)) := (srt_perm (lnL fr)).map _
    rw [unL_lnL hg.2 hg.1.2] at h1
    exact h1
  refine ⟨hp, ?_⟩
  unfold lnL unL
  rw [List.map_map]
  conv => rhs; rw [← List.map_id (srt _)]
  apply List.map_congr_left
  intro v _
  show v / 128 * 128 + v % 128 = v
  omega
theorem bsD_best {k : Int} {fr : List (Int × Int)} (hg : GdP k fr) : (bsD fr).Perm fr ∧ BstAll rgC (srt (lnL fr)) (lnL (bsD fr)) := by
  obtain ⟨h1, h2⟩ := unL_asc hg
  have h3 := sqA_pos (fr := unL (srt (lnL fr)))
  exact ⟨(bsI_perm (by omega) (Nat.le_refl _)).trans h1, sq_best hg h1 (by rw [h2]; exact srt_asc _)⟩
theorem spec_LeastSwitchesD (k : Int) (fr : List (Int × Int)) (hf : fr.length ≤ 1048576) : PCalls Try.prog 11 [.int .i64 k, .sl fr.length (fl fr)] (· = [.bor 0 (.sl (lsF k fr).length (fl (lsF k fr))), .val (.int .i64 (lsV k fr)), .val (.bool (decide (LsP k fr)))]) := by
  refine (spec_LeastSwitches k fr hf).mono ?_
  rintro _ ⟨b, hb, rfl⟩
  by_cases h : LsP k fr
  · obtain ⟨h1, h2⟩ := hb h
    obtain ⟨h3, h4⟩ := bsD_best h.1
    have e : b = bsD fr := by
      have hG1 := h.1.perm h1
      have hG2 := h.1.perm h3
      rw [← unL_lnL hG1.2 hG1.1.2, ← unL_lnL hG2.2 hG2.1.2, bst_one h2 h4]
    subst e
    unfold lsF lsV
    simp only [if_pos h]
  · unfold lsF lsV
    simp only [if_neg h]
theorem impl_LeastSwitchesD (k : Int) (fr : List (Int × Int)) (hf : fr.length ≤ 1048576) : PCalls Try.prog 12 [.int .i64 k, .sl fr.length (fl fr)] (· = [.own 0 38 2 (lsF k fr).length (fl (lsF k fr)), .val (.int .i64 (lsV k fr)), .val (.bool (decide (LsP k fr)))]) := by
  refine (impl_LeastSwitches k fr hf).mono ?_
  rintro _ ⟨b, hb, rfl⟩
  by_cases h : LsP k fr
  · obtain ⟨h3, h4⟩ := bsD_best h.1
    have hG2 := h.1.perm h3
    have e : b = lnL (bsD fr) := bst_one (hb h) h4
    have e2 : rgC (lnL (bsD fr)) = swK (bsD fr) (bsD fr).length := by
      show rgK (lnL (bsD fr)) (lnL (bsD fr)).length = _
      rw [lnL_len]; exact rg_swK hG2.2 hG2.1.2 _ (Nat.le_refl _)
    subst e
    unfold lsF lsV
    simp only [if_pos h, unL_lnL hG2.2 hG2.1.2, e2]
  · unfold lsF lsV
    simp only [if_neg h]

end Go.Proofs.Ytlmmjegbnmolcab
