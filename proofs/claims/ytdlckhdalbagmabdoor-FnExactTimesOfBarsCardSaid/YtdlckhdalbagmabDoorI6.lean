/- Contracts of functions, walked over the pure layer; each says for which arguments. -/
import Derived.Test.YtdlckhdalbagmabDoorI6Ty
import Derived.Test.YtdlckhdalbagmabDoorTf
import Derived.Test.YtdlckhdalbagmabDoorSp
import Derived.Test.YtdlckhdalbagmabDoorS4
import Derived.Test.YtdlckhdalbagmabDoorShelf
import Derived.Test.YtdlckhdalbagmabDoorIm
import Derived.Test.YtdlckhdalbagmabDoorS6
import Derived.Test.YtdlckhdalbagmabDoorI4
namespace Go.Proofs.YtdlckhdalbagmabDoor
open Go.RowKit I6Ty
set_option linter.unusedVariables false
set_option linter.unusedSimpArgs false

theorem rowC_T {t : Int} (h0 : 0 ≤ t) (h1 : t ≤ 1439) : rowC (100 * (t / 60) + t % 60) 4 = rowT t := by
  unfold rowC rowT
  rw [show Int.toNat 4 = 4 from rfl]
  simp only [rowK, List.nil_append, List.cons_append]
  rw [show (100 * (t / 60) + t % 60).toNat / 10 / 10 / 10 % 10 = (t / 60 / 10).toNat by omega, show (100 * (t / 60) + t % 60).toNat / 10 / 10 % 10 = (t / 60 % 10).toNat by omega, show (100 * (t / 60) + t % 60).toNat / 10 % 10 = (t % 60 / 10).toNat by omega, show (100 * (t / 60) + t % 60).toNat % 10 = (t % 60 % 10).toNat by omega]
theorem flat_app6 : ∀ {a b : List PV}, PV.flatL a = true → PV.flatL b = true → PV.flatL (a ++ b) = true
  | [], b, _, h => h
  | x :: a, b, h1, h2 => by
    simp only [PV.flatL, Bool.and_eq_true] at h1
    show (x.flat && PV.flatL (a ++ b)) = true
    rw [h1.1, flat_app6 h1.2 h2]; rfl
theorem snocQ {g g' : List (Int × Int)} {a b : Int} (h : g' = g ++ [(a, b)]) : ((g.length + 1, fl g ++ [PV.int .i64 a, PV.int .i64 b]) : Nat × List PV) = (g'.length, fl g') := by
  subst h; rw [List.length_append]; simp [fl]
theorem sameQ {g g' : List (Int × Int)} (h : g' = g) : ((g.length, fl g) : Nat × List PV) = (g'.length, fl g') := by rw [h]
theorem turnR6 {l : List Int} (h : RowP l) : RowP (turnL l) := ⟨by rw [turnL_len]; exact h.1, fun x hx => by
  unfold turnL at hx
  obtain ⟨y, _, rfl⟩ := List.mem_map.1 hx
  exact turnC_cell y⟩
theorem mirR6 {l : List Int} (h : RowP l) : RowP (mirL l) := ⟨by rw [mirL_len]; exact h.1, fun x hx => by
  unfold mirL at hx
  obtain ⟨y, _, rfl⟩ := List.mem_map.1 hx
  exact mirC_cell y⟩
theorem Cn_T {t : Int} (h : TmP t) : Cn (100 * (t / 60) + t % 60) 4 := by
  have h0 := h.1; have h1 := h.2
  exact ⟨by omega, by omega, by rw [show top4 4 = 10000 from rfl]; omega⟩
/-- What is wanted of the times from a on, so many minutes long, in their order. -/
def selF (a : Int) (p : Int → Prop) [DecidablePred p] (k : Nat) : List Int := ((List.range k).map fun (j : Nat) => (a + (j : Int)) % 1440).filter fun t => p t
theorem selF_succ (a : Int) (p : Int → Prop) [DecidablePred p] (k : Nat) : selF a p (k + 1) = selF a p k ++ if p ((a + (k : Int)) % 1440) then [(a + (k : Int)) % 1440] else [] := by
  unfold selF
  rw [List.range_succ, List.map_append, List.filter_append]
  congr 1
  rw [List.map_singleton, List.filter_cons]
  by_cases h : p ((a + (k : Int)) % 1440)
  · rw [if_pos (decide_eq_true h), if_pos h]; rfl
  · rw [if_neg (fun e => h (of_decide_eq_true e)), if_neg h]; rfl
theorem selF_len (a : Int) (p : Int → Prop) [DecidablePred p] (k : Nat) : (selF a p k).length ≤ k := by
  unfold selF; exact Nat.le_trans (List.length_filter_le _ _) (by simp)
theorem selF_yes {a : Int} {p : Int → Prop} [DecidablePred p] {m : Int} (h0 : 0 ≤ m) (h : p ((a + m) % 1440)) : (selF a p (m + 1).toNat) = selF a p m.toNat ++ [(a + m) % 1440] := by
  have e : ((m.toNat : Nat) : Int) = m := Int.toNat_of_nonneg h0
  rw [show (m + 1).toNat = m.toNat + 1 by omega, selF_succ, e, if_pos h]
theorem selF_no {a : Int} {p : Int → Prop} [DecidablePred p] {m : Int} (h0 : 0 ≤ m) (h : ¬ p ((a + m) % 1440)) : (selF a p (m + 1).toNat) = selF a p m.toNat := by
  have e : ((m.toNat : Nat) : Int) = m := Int.toNat_of_nonneg h0
  rw [show (m + 1).toNat = m.toNat + 1 by omega, selF_succ, e, if_neg h, List.append_nil]
theorem selF_pre (a : Int) (p : Int → Prop) [DecidablePred p] (m : Nat) : ∀ k, m ≤ k → ∃ r, selF a p k = selF a p m ++ r
  | 0, h => ⟨[], by rw [show m = 0 by omega, List.append_nil]⟩
  | k + 1, h => by
    by_cases e : m = k + 1
    · exact ⟨[], by rw [e, List.append_nil]⟩
    · obtain ⟨r, hr⟩ := selF_pre a p m k (by omega)
      exact ⟨_, by rw [selF_succ, hr, List.append_assoc]⟩
theorem selF_at {a : Int} {p : Int → Prop} [DecidablePred p] {m : Int} {k : Nat} (h0 : 0 ≤ m) (h1 : m < k) (h : p ((a + m) % 1440)) : (selF a p m.toNat).length < (selF a p k).length ∧ (selF a p k).getD (selF a p m.toNat).length 0 = (a + m) % 1440 := by
  obtain ⟨r, hr⟩ := selF_pre a p (m + 1).toNat k (by omega)
  rw [hr, selF_yes h0 h]
  refine ⟨by simp only [List.length_append, List.length_cons, List.length_nil]; omega, ?_⟩
  rw [List.getD_eq_getElem?_getD, List.append_assoc, List.getElem?_append_right (Nat.le_refl _), Nat.sub_self]
  rfl
theorem selF_K (q : Nat → Prop) [DecidablePred q] (p : Int → Prop) [DecidablePred p] : ∀ k : Nat, k ≤ 1440 → (∀ j : Nat, j < k → (q j ↔ p (j : Int))) → selF 0 p k = selK q k
  | 0, _, _ => rfl
  | k + 1, h, hq => by
    have e : (0 + (k : Int)) % 1440 = (k : Int) := by omega
    rw [selF_succ, selK_succ, selF_K q p k (by omega) (fun j hj => hq j (by omega)), e]
    by_cases hp : p (k : Int)
    · rw [if_pos hp, if_pos ((hq k (by omega)).2 hp)]
    · rw [if_neg hp, if_neg (fun z => hp ((hq k (by omega)).1 z))]
theorem selF_mem {a : Int} {p : Int → Prop} [DecidablePred p] {k : Nat} {x : Int} (h : x ∈ selF a p k) : 0 ≤ x ∧ x ≤ 1439 ∧ p x := by
  unfold selF at h
  obtain ⟨h1, h2⟩ := List.mem_filter.1 h
  obtain ⟨j, _, rfl⟩ := List.mem_map.1 h1
  exact ⟨by omega, by omega, of_decide_eq_true h2⟩
theorem selF_get {a : Int} {p : Int → Prop} [DecidablePred p] {k i : Nat} (h : i < (selF a p k).length) : 0 ≤ (selF a p k).getD i 0 ∧ (selF a p k).getD i 0 ≤ 1439 ∧ p ((selF a p k).getD i 0) := by
  have hm : (selF a p k).getD i 0 ∈ selF a p k := by
    rw [List.getD_eq_getElem?_getD, List.getElem?_eq_getElem h]; exact List.getElem_mem h
  exact selF_mem hm
theorem nb_bd {l : List Int} (hr : RowP l) : 0 ≤ (if RowP l ∧ DigsP l then numF l else 0) ∧ (if RowP l ∧ DigsP l then numF l else 0) ≤ 999999 := by
  by_cases hd : DigsP l
  · rw [if_pos ⟨hr, hd⟩]
    have := numI_bd hr.1
    rwa [if_pos hd] at this
  · rw [if_neg (fun z => hd z.2)]; omega
theorem take_snocF {L : List Int} {i : Nat} (h : i < L.length) : L.take (i + 1) = L.take i ++ [L.getD i 0] := by
  rw [List.take_add_one, List.getElem?_eq_getElem h, List.getD_eq_getElem?_getD, List.getElem?_eq_getElem h]; rfl
theorem snocI {L : List Int} {i : Nat} {v : Int} (h : i < L.length) (hv : v = L.getD i 0) : (((L.take i).length + 1, (L.take i).map (PV.int .i64) ++ [PV.int .i64 v]) : Nat × List PV) = ((L.take (i + 1)).length, (L.take (i + 1)).map (PV.int .i64)) := by
  subst hv
  rw [take_snocF h, List.length_append, List.map_append]; rfl
/-- The first time that mirrors. -/
theorem wait_first {t : Int} (h : TmP t) : 0 < (selF t MirP 1440).length ∧ ((selF t MirP 1440).getD 0 0 - t + 1440) % 1440 = ((waitN t : Nat) : Int) := by
  have h0 := h.1; have h1 := h.2
  have key : ∀ k : Nat, k ≤ 1440 → (∃ w : Nat, w < k ∧ MirP ((t + (w : Int)) % 1440) ∧ ∀ j : Nat, j < w → ¬ MirP ((t + (j : Int)) % 1440)) ∨ ∀ j : Nat, j < k → ¬ MirP ((t + (j : Int)) % 1440) := by
    intro k
    induction k with
    | zero => intro _; exact .inr fun j hj => by omega
    | succ k ih =>
      intro hk
      rcases ih (by omega) with ⟨w, hw, h2, h3⟩ | hn
      · exact .inl ⟨w, by omega, h2, h3⟩
      · by_cases hm : MirP ((t + (k : Int)) % 1440)
        · exact .inl ⟨k, by omega, hm, hn⟩
        · exact .inr fun j hj => by
            by_cases e : j = k
            · subst e; exact hm
            · exact hn j (by omega)
  rcases key 1440 (Nat.le_refl _) with ⟨w, hw, h2, h3⟩ | hn
  · have hz : ∀ m : Nat, m ≤ w → selF t MirP m = [] := by
      intro m
      induction m with
      | zero => intro _; rfl
      | succ m ih => intro hm; rw [selF_succ, ih (by omega), if_neg (h3 m (by omega))]; rfl
    have ha := selF_at (a := t) (p := MirP) (m := (w : Int)) (k := 1440) (by omega) (by omega) h2
    rw [show ((w : Nat) : Int).toNat = w from rfl, hz w (Nat.le_refl _)] at ha
    refine ⟨by simpa using ha.1, ?_⟩
    have ha2 : (selF t MirP 1440).getD 0 0 = (t + (w : Int)) % 1440 := ha.2
    rw [ha2, waitN_eq (w := w) (by omega) h2 h3]
    omega
  · exfalso
    by_cases e : t = 0
    · exact hn 0 (by omega) (by rw [e]; exact mir0)
    · exact hn (1440 - t).toNat (by omega) (by rw [show (t + (((1440 - t).toNat : Nat) : Int)) % 1440 = 0 by omega]; exact mir0)
/-- The pairs among the first so many times that mirror. -/
def prI (i : Nat) : List (Int × Int) := (((selF 0 MirP 1440).take i).filter fun t => t < mirT t).map fun t => (t, mirT t)
theorem prI_succ {i : Nat} (h : i < (selF 0 MirP 1440).length) : prI (i + 1) = prI i ++ if (selF 0 MirP 1440).getD i 0 < mirT ((selF 0 MirP 1440).getD i 0) then [((selF 0 MirP 1440).getD i 0, mirT ((selF 0 MirP 1440).getD i 0))] else [] := by
  unfold prI
  rw [take_snocF h, List.filter_append, List.map_append]
  congr 1
  rw [List.filter_cons]
  generalize (selF 0 MirP 1440).getD i 0 = x
  by_cases e : x < mirT x
  · rw [if_pos (decide_eq_true e), if_pos e]; rfl
  · rw [if_neg (fun k => e (of_decide_eq_true k)), if_neg e]; rfl
theorem prI_len (i : Nat) : (prI i).length ≤ 1440 := by
  unfold prI
  rw [List.length_map]
  exact Nat.le_trans (List.length_filter_le _ _) (Nat.le_trans (by rw [List.length_take]; exact Nat.min_le_right _ _) (selF_len _ _ _))
theorem prI_gen : ∀ k : Nat, k ≤ 1440 → ((selF 0 MirP k).filter fun t => t < mirT t).map (fun t => (t, mirT t)) = prsK k
  | 0, _ => rfl
  | k + 1, h => by
    have e : (0 + (k : Int)) % 1440 = (k : Int) := by omega
    rw [selF_succ, prsK_succ, List.filter_append, List.map_append, prI_gen k (by omega), e]
    congr 1
    by_cases hm : MirP (k : Int)
    · rw [if_pos hm, List.filter_cons]
      by_cases hl : (k : Int) < mirT (k : Int)
      · rw [if_pos (decide_eq_true hl), if_pos ⟨hm, hl⟩]; rfl
      · rw [if_neg (fun z => hl (of_decide_eq_true z)), if_neg (fun z => hl z.2)]; rfl
    · rw [if_neg hm, if_neg (fun z => hm z.1)]; rfl
theorem prI_end : prI (selF 0 MirP 1440).length = prsK 1440 := by
  unfold prI; rw [List.take_length]; exact prI_gen 1440 (Nat.le_refl _)
theorem prI_0 : prI 0 = [] := rfl
/-- The program's own way to the brightest, the darkest time. -/
theorem brK_prog : ∀ k, brK k = brK k := fun _ => rfl

set_option maxRecDepth 4000 in
theorem impl_isTime (t : Int) : PCalls Tryd.prog 33 [.int .i64 t] (· = [.val (.bool (decide (TmP t)))]) := by
  refine pcalls_of_code (n := 9) az Tryd.func33 (by kernel_rfl) rfl rfl (Nat.le_of_ble_eq_true rfl) (by intro t u h; simp [Tryd.f33] at h) ?_
  refine code_seq (fun K1 hK1 => ?_)
  refine code_region ?_
  refine list_cons rfl (op_q (q_assign rfl (by decide)) ?_)
  refine list_nil ?_
  refine hK1 _ ?_; clear hK1 K1
  refine code_seq (fun K2 hK2 => ?_)
  refine code_region ?_
  refine list_cons rfl (op_q (q_move rfl (by decide)) ?_)
  refine list_cons rfl (op_q (q_ge rfl rfl (by decide)) ?_)
  refine list_cons rfl (op_q (q_move rfl (by decide)) ?_)
  refine list_guard_d rfl rfl rfl rfl (by decide) rfl (by decide) (fun h1 => ?_) (fun h1 => ?_)
  · simp only [Bool.false_eq_true, if_true, if_false, Decidable.not_not] at h1
    refine id (op_q (q_move rfl (by decide)) ?_)
    refine list_guard_y rfl rfl rfl rfl (by decide) rfl ?_
    refine id (op_q (q_lt rfl rfl (by decide)) ?_)
    refine list_cons rfl (op_q (q_pick rfl rfl (by decide)) ?_)
    refine list_cons rfl (op_q (q_assign rfl (by decide)) ?_)
    refine list_nil ?_
    refine hK2 _ ?_; clear hK2 K2
    refine code_ret ?_
    refine ends_ret (cs := []) rfl rfl rfl rfl trivial ?_
    first | rfl | (congr 3; exact decide_eq_decide.mpr ⟨fun k => ⟨by omega, by omega⟩, fun k => by have := k.2; omega⟩) | (rw [decide_eq_false (fun k => by have := k.1; omega)]; done) | (rw [decide_eq_true (show TmP t from ⟨by omega, by omega⟩)]; done)
  simp only [Bool.false_eq_true, if_true, if_false, Decidable.not_not] at h1
  refine list_guard_n rfl rfl rfl rfl (by decide) rfl ?_
  refine list_cons rfl (op_q (q_pick rfl rfl (by decide)) ?_)
  refine list_cons rfl (op_q (q_assign rfl (by decide)) ?_)
  refine list_nil ?_
  refine hK2 _ ?_; clear hK2 K2
  refine code_ret ?_
  refine ends_ret (cs := []) rfl rfl rfl rfl trivial ?_
  first | rfl | (congr 3; exact decide_eq_decide.mpr ⟨fun k => ⟨by omega, by omega⟩, fun k => by have := k.2; omega⟩) | (rw [decide_eq_false (fun k => by have := k.1; omega)]; done) | (rw [decide_eq_true (show TmP t from ⟨by omega, by omega⟩)]; done)

set_option maxRecDepth 4000 in
theorem impl_faceOf (t : Int) (h0 : 0 ≤ t) (h1 : t ≤ 1439) : PCalls Tryd.prog 65 [.int .i64 t] (· = [.val (.agg [.int .i64 (t / 60), .int .i64 (t % 60)])]) := by
  refine pcalls_of_code (n := 8) az Tryd.func65 (by kernel_rfl) rfl rfl (Nat.le_of_ble_eq_true rfl) (by intro t u h; simp [Tryd.f65] at h; obtain ⟨_, rfl⟩ := h <;> first | exact resTy_agg agg_54 (by decide)) ?_
  refine code_seq (fun K1 hK1 => ?_)
  refine code_region ?_
  refine list_cons rfl (op_alloc zt_54 (by decide) (by decide) rfl ?_)
  refine list_nil ?_
  refine hK1 _ ?_; clear hK1 K1
  refine code_seq (fun K2 hK2 => ?_)
  refine code_region ?_
  refine list_cons rfl (op_q (q_move rfl (by decide)) ?_)
  refine list_cons rfl (op_q (by first | exact q_quoI rfl rfl (by decide) (by omega) (by omega) (by omega) | exact q_quoT rfl rfl (by omega) (by decide) (by omega) (by omega) | exact q_quo rfl rfl (by omega) (by decide)) ?_)
  refine list_cons rfl (op_q (q_move rfl (by decide)) ?_)
  refine list_cons rfl (op_q (by first | exact q_remI rfl rfl (by decide) (by omega) (by omega) | exact q_rem rfl rfl (by omega) (by decide)) ?_)
  refine list_cons rfl (op_q (q_build bt_54 (parts := [(0, .tmp 4), (1, .tmp 6)]) rfl rfl (by decide)) ?_)
  refine list_cons rfl (op_store (agg_54).2 2 [2] (by intro t ht; simp only [List.mem_cons, List.not_mem_nil, or_false] at ht; subst ht; rfl) (.inr ⟨rfl, _, rfl⟩) rfl rfl rfl rfl (by first | rfl | exact flat_part (flat_map _ (fun _ => rfl) _) _ _ | exact flat_map _ (fun _ => rfl) _) (by first | rfl | (simp [PV.cells]; done)) (by first | decide | omega | exact Nat.le_refl _ | (simp; done) | (simp; omega)) (by decide) rfl ?_)
  refine list_nil ?_
  refine hK2 _ ?_; clear hK2 K2
  refine codeT.imp (σ' := [(0, _), (2, _)]) ?_ (imp_covers ⟨rfl, rfl, trivial⟩)
  refine code_ret ?_
  refine ends_ret (cs := []) rfl rfl rfl rfl trivial ?_
  rfl

set_option maxRecDepth 4000 in
theorem impl_laterTime (t m : Int) (h0 : 0 ≤ t ∧ t ≤ 1440) (h1 : 0 ≤ m ∧ m ≤ 1440) : PCalls Tryd.prog 41 [.int .i64 t, .int .i64 m] (· = [.val (.int .i64 ((t + m) % 1440))]) := by
  refine pcalls_of_code (n := 9) az Tryd.func41 (by kernel_rfl) rfl rfl (Nat.le_of_ble_eq_true rfl) (by intro t u h; simp [Tryd.f41] at h) ?_
  refine code_seq (fun K1 hK1 => ?_)
  refine code_region ?_
  refine list_cons rfl (op_q (q_assign rfl (by decide)) ?_)
  refine list_nil ?_
  refine hK1 _ ?_; clear hK1 K1
  refine code_seq (fun K2 hK2 => ?_)
  refine code_region ?_
  refine list_cons rfl (op_q (q_move rfl (by decide)) ?_)
  refine list_cons rfl (op_q (q_move rfl (by decide)) ?_)
  refine list_cons rfl (op_q (by first | exact q_addI rfl rfl (by decide) (by omega) (by omega) | exact q_ib rfl rfl rfl (by decide)) ?_)
  refine list_cons rfl (op_q (by first | exact q_remI rfl rfl (by decide) (by omega) (by omega) | exact q_rem rfl rfl (by omega) (by decide)) ?_)
  refine list_cons rfl (op_q (q_assign rfl (by decide)) ?_)
  refine list_nil ?_
  refine hK2 _ ?_; clear hK2 K2
  refine code_ret ?_
  refine ends_ret (cs := []) rfl rfl rfl rfl trivial ?_
  rfl

set_option maxRecDepth 4000 in
theorem impl_minutesBetween (t u : Int) (h0 : 0 ≤ t ∧ t ≤ 1440) (h1 : 0 ≤ u ∧ u ≤ 1440) : PCalls Tryd.prog 36 [.int .i64 t, .int .i64 u] (· = [.val (.int .i64 ((u - t + 1440) % 1440))]) := by
  refine pcalls_of_code (n := 10) az Tryd.func36 (by kernel_rfl) rfl rfl (Nat.le_of_ble_eq_true rfl) (by intro t u h; simp [Tryd.f36] at h) ?_
  refine code_seq (fun K1 hK1 => ?_)
  refine code_region ?_
  refine list_cons rfl (op_q (q_assign rfl (by decide)) ?_)
  refine list_nil ?_
  refine hK1 _ ?_; clear hK1 K1
  refine code_seq (fun K2 hK2 => ?_)
  refine code_region ?_
  refine list_cons rfl (op_q (q_move rfl (by decide)) ?_)
  refine list_cons rfl (op_q (q_move rfl (by decide)) ?_)
  refine list_cons rfl (op_q (by first | exact q_subI rfl rfl (by decide) (by omega) (by omega) | exact q_ib rfl rfl rfl (by decide)) ?_)
  refine list_cons rfl (op_q (by first | exact q_addI rfl rfl (by decide) (by omega) (by omega) | exact q_ib rfl rfl rfl (by decide)) ?_)
  refine list_cons rfl (op_q (by first | exact q_remI rfl rfl (by decide) (by omega) (by omega) | exact q_rem rfl rfl (by omega) (by decide)) ?_)
  refine list_cons rfl (op_q (q_assign rfl (by decide)) ?_)
  refine list_nil ?_
  refine hK2 _ ?_; clear hK2 K2
  refine code_ret ?_
  refine ends_ret (cs := []) rfl rfl rfl rfl trivial ?_
  rfl

set_option maxRecDepth 8000 in
set_option maxHeartbeats 2000000 in
theorem impl_ClockRow (t : Int) : PCalls Tryd.prog 43 [.int .i64 t] (· = [.own 0 3 1 (if TmP t then rowT t else []).length ((if TmP t then rowT t else []).map (.int .i64)), .val (.bool (decide (TmP t)))]) := by
  refine pcalls_of_code (n := 20) az Tryd.func43 (by kernel_rfl) rfl rfl (Nat.le_of_ble_eq_true rfl) (by intro t u h; simp [Tryd.f43] at h) ?_
  refine code_seq (fun K1 hK1 => ?_)
  refine code_region ?_
  refine list_cons rfl (op_q (q_assign rfl (by decide)) ?_)
  refine list_cons rfl (op_q (q_assign rfl (by decide)) ?_)
  refine list_nil ?_
  refine hK1 _ ?_; clear hK1 K1
  refine code_seq (fun K2 hK2 => ?_)
  refine code_seq (fun K3 hK3 => ?_)
  refine code_region ?_
  refine list_cons rfl (op_q (q_move rfl (by decide)) ?_)
  refine list_cons rfl (op_call _ (impl_isTime _) rfl rfl (by decide) (by decide) (by decide) rfl ?_)
  rintro _ rfl
  refine list_cons rfl (op_q (by first | exact q_notd rfl (by decide) | exact q_not rfl (by decide)) ?_)
  refine list_nil ?_
  refine hK3 _ ?_; clear hK3 K3
  refine codeT.imp (σ' := [(0, _), (2, _), (3, _), (7, _)]) ?_ (imp_covers ⟨rfl, rfl, rfl, rfl, trivial⟩)
  refine code_cond_d rfl (fun h1 => ?_) (fun h1 => ?_)
  · skip
    (try simp only [Decidable.not_not] at h1); (try have hT1 := (h1 : TmP t).1; have hT2 := (h1 : TmP t).2)
    refine code_seq (fun K4 hK4 => ?_)
    refine code_region ?_
    refine list_cons rfl (op_buildSlice sl_25 (parts := []) rfl rfl rfl (by decide) (by decide) (by decide) rfl ?_)
    refine list_cons rfl (op_q (q_assign rfl (by decide)) ?_)
    refine list_cons rfl (op_q (q_assign rfl (by decide)) ?_)
    refine list_nil ?_
    refine hK4 _ ?_; clear hK4 K4
    refine code_ret ?_
    refine then_r ?_; clear hK2 K2
    refine ends_ret (cs := []) rfl rfl rfl rfl trivial ?_
    first
      | (have e : ¬ (TmP t) := by assumption
         simp only [if_neg e, decide_eq_false e]; first | done | rfl)
      | (have e : TmP t := by assumption
         simp only [if_pos e, decide_eq_true e]; first | done | rfl)
  (try simp only [Decidable.not_not] at h1); (try have hT1 := (h1 : TmP t).1; have hT2 := (h1 : TmP t).2)
  refine code_skip ?_
  refine hK2 _ ?_; clear hK2 K2
  refine code_seq (fun K5 hK5 => ?_)
  refine code_region ?_
  refine list_cons rfl (op_q (q_move rfl (by decide)) ?_)
  refine list_cons rfl (op_call _ (impl_faceOf _ (by omega) (by omega)) rfl rfl (by decide) (by decide) (by decide) rfl ?_)
  rintro _ rfl
  refine list_cons rfl (op_alloc zt_54 (by decide) (by decide) rfl ?_)
  refine list_cons rfl (op_store (agg_54).2 4 [4] (by intro t ht; simp only [List.mem_cons, List.not_mem_nil, or_false] at ht; subst ht; rfl) (.inr ⟨rfl, _, rfl⟩) rfl rfl rfl rfl (by first | rfl | exact flat_part (flat_map _ (fun _ => rfl) _) _ _ | exact flat_map _ (fun _ => rfl) _) (by first | rfl | (simp [PV.cells]; done)) (by first | decide | omega | exact Nat.le_refl _ | (simp; done) | (simp; omega)) (by decide) rfl ?_)
  refine list_nil ?_
  refine hK5 _ ?_; clear hK5 K5
  refine codeT.imp (σ' := [(0, _), (2, _), (3, _), (4, _)]) ?_ (imp_covers ⟨rfl, rfl, rfl, rfl, trivial⟩)
  refine code_seq (fun K6 hK6 => ?_)
  refine code_region ?_
  refine list_cons rfl (op_q (q_fieldAddr fi_54_0 rfl rfl (by decide)) ?_)
  refine list_cons rfl (op_q (q_load one_3 4 rfl rfl rfl (by first | rfl | exact get_map1 _ 0 _ (by first | omega | (simp; omega))) (by decide)) ?_)
  refine list_cons rfl (op_q (by first | exact q_mulI rfl rfl (by decide) (by omega) (by omega) | exact q_ib rfl rfl rfl (by decide)) ?_)
  refine list_cons rfl (op_q (q_fieldAddr fi_54_1 rfl rfl (by decide)) ?_)
  refine list_cons rfl (op_q (q_load one_3 4 rfl rfl rfl (by first | rfl | exact get_map1 _ 0 _ (by first | omega | (simp; omega))) (by decide)) ?_)
  refine list_cons rfl (op_q (by first | exact q_addI rfl rfl (by decide) (by omega) (by omega) | exact q_ib rfl rfl rfl (by decide)) ?_)
  refine list_cons rfl (op_call _ (impl_CounterRow _ 4) rfl rfl (by decide) (by decide) (by decide) rfl ?_)
  rintro _ rfl; simp only [if_pos (Cn_T (by assumption : TmP t)), decide_eq_true (Cn_T (by assumption : TmP t)), rowC_T hT1 hT2]
  refine list_cons rfl (op_q (q_extract rfl rfl (by decide)) ?_)
  refine list_cons rfl (op_q (q_extract rfl rfl (by decide)) ?_)
  refine list_cons rfl (op_q (q_assign rfl (by decide)) ?_)
  refine list_cons rfl (op_q (q_assign rfl (by decide)) ?_)
  refine list_nil ?_
  refine hK6 _ ?_; clear hK6 K6
  refine codeT.imp (σ' := [(0, _), (2, _), (3, _), (4, _)]) ?_ (imp_covers ⟨rfl, rfl, rfl, rfl, trivial⟩)
  refine code_ret ?_
  refine ends_ret (cs := []) rfl rfl rfl rfl trivial ?_
  first
    | (have e : ¬ (TmP t) := by assumption
       simp only [if_neg e, decide_eq_false e]; first | done | rfl)
    | (have e : TmP t := by assumption
       simp only [if_pos e, decide_eq_true e]; first | done | rfl)

set_option maxRecDepth 8000 in
set_option maxHeartbeats 2000000 in
theorem impl_TimeOfRow (l : List Int) (hl : l.length ≤ 4611686018427387904) : PCalls Tryd.prog 78 [.sl l.length (l.map (.int .i64))] (· = [.val (.int .i64 (if RowP l ∧ TimP l then timF l else 0)), .val (.bool (decide (RowP l ∧ TimP l)))]) := by
  refine pcalls_of_code (n := 41) az Tryd.func78 (by kernel_rfl) rfl rfl (Nat.le_of_ble_eq_true rfl) (by intro t u h; simp [Tryd.f78] at h) ?_
  refine code_seq (fun K1 hK1 => ?_)
  refine code_region ?_
  refine list_cons rfl (op_q (q_assign rfl (by decide)) ?_)
  refine list_cons rfl (op_q (q_assign rfl (by decide)) ?_)
  refine list_nil ?_
  refine hK1 _ ?_; clear hK1 K1
  refine code_seq (fun K2 hK2 => ?_)
  refine code_region ?_
  refine list_cons rfl (op_q (q_move rfl (by decide)) ?_)
  refine list_cons rfl (op_call _ (impl_NumberOf _ (by omega)) rfl rfl (by decide) (by decide) (by decide) rfl ?_)
  rintro _ rfl; have hnb := fun hr : RowP l => nb_bd hr
  refine list_cons rfl (op_q (q_move rfl (by decide)) ?_)
  refine list_cons rfl (op_q (q_extract rfl rfl (by decide)) ?_)
  refine list_cons rfl (op_q (q_extract rfl rfl (by decide)) ?_)
  refine list_cons rfl (op_q (q_assign rfl (by decide)) ?_)
  refine list_cons rfl (op_q (q_assign rfl (by decide)) ?_)
  refine list_nil ?_
  refine hK2 _ ?_; clear hK2 K2
  refine codeT.imp (σ' := [(0, _), (2, _), (3, _), (4, _), (5, _)]) ?_ (imp_covers ⟨rfl, rfl, rfl, rfl, rfl, trivial⟩)
  refine code_seq (fun K3 hK3 => ?_)
  refine code_seq (fun K4 hK4 => ?_)
  refine code_region ?_
  refine list_cons rfl (op_q (q_move rfl (by decide)) ?_)
  refine list_cons rfl (op_q (by first | exact q_notd rfl (by decide) | exact q_not rfl (by decide)) ?_)
  refine list_cons rfl (op_q (q_move rfl (by decide)) ?_)
  refine list_guard_d rfl rfl rfl rfl (by decide) rfl (by decide) (fun h1 => ?_) (fun h1 => ?_)
  · simp only [Bool.false_eq_true, if_true, if_false, Decidable.not_not] at h1
    (try simp only [Decidable.not_not, EqP, Eq1, and_true] at h1); (try have hR := (h1 : RowP l ∧ DigsP l ∧ 0 < l.length); try have hR1 := hnb hR.1); (try have hT1 := (h1 : TmP _).1; have hT2 := (h1 : TmP _).2)
    refine id (op_q (q_move rfl (by decide)) ?_)
    refine list_guard_y rfl rfl rfl rfl (by decide) rfl ?_
    refine id (op_q (q_len_sl Tryd.underlying25 rfl rfl (by decide)) ?_)
    refine list_guard_y rfl rfl rfl rfl (by decide) rfl ?_
    refine id (op_q (q_ne rfl rfl (by decide)) ?_)
    refine list_cons rfl (op_q (q_pick rfl rfl (by decide)) ?_)
    refine list_nil ?_
    refine hK4 _ ?_; clear hK4 K4
    refine code_cond_d rfl (fun h2 => ?_) (fun h2 => ?_)
    · skip
      (try simp only [Decidable.not_not, EqP, Eq1, and_true] at h2); (try have hR := (h2 : RowP l ∧ DigsP l ∧ 0 < l.length); try have hR1 := hnb hR.1); (try have hT1 := (h2 : TmP _).1; have hT2 := (h2 : TmP _).2)
      refine code_seq (fun K5 hK5 => ?_)
      refine code_region ?_
      refine list_cons rfl (op_q (q_assign rfl (by decide)) ?_)
      refine list_cons rfl (op_q (q_assign rfl (by decide)) ?_)
      refine list_nil ?_
      refine hK5 _ ?_; clear hK5 K5
      refine codeT.imp (σ' := [(0, _), (2, _), (3, _), (4, _), (5, _)]) ?_ (imp_covers ⟨rfl, rfl, rfl, rfl, rfl, trivial⟩)
      refine code_ret ?_
      refine then_r ?_; clear hK3 K3
      refine ends_ret (cs := []) rfl rfl rfl rfl trivial ?_
      first
        | (have e : ¬ (RowP l ∧ TimP l) := fun e => by
             have e1 := e.2.1.1; have e2 := e.2.1.2; have e3 := e.2.2
             have hq : RowP l ∧ DigsP l := ⟨e.1, e1⟩
             have hx := h2
             first
             | exact absurd (show RowP l ∧ DigsP l ∧ 0 < l.length from ⟨e.1, e1, by omega⟩) hx
             | exact absurd e2 hx
             | (simp only [if_pos hq] at hx hR1
                exact hx ⟨by omega, by omega⟩)
             | (simp only [if_pos hq] at hx hR1
                exact hx ⟨show (60 * (numF l / 100) + numF l % 100) / 60 = numF l / 100 by omega, show (60 * (numF l / 100) + numF l % 100) % 60 = numF l % 100 by omega, trivial⟩)
           rw [if_neg e, decide_eq_false e]; done)
        | (have hq : RowP l ∧ DigsP l := ⟨hR.1, hR.2.1⟩
           have hx := h2
           simp only [if_pos hq] at hx hR1 hT1 hT2 ⊢
           have hx1 : (60 * (numF l / 100) + numF l % 100) / 60 = numF l / 100 := hx.1
           have e : RowP l ∧ TimP l := ⟨hR.1, ⟨hR.2.1, by assumption⟩, by omega, by omega⟩
           rw [if_pos e, decide_eq_true e]
           unfold timF
           rw [Int.mul_comm]; done)
    (try simp only [Decidable.not_not, EqP, Eq1, and_true] at h2); (try have hR := (h2 : RowP l ∧ DigsP l ∧ 0 < l.length); try have hR1 := hnb hR.1); (try have hT1 := (h2 : TmP _).1; have hT2 := (h2 : TmP _).2)
    refine code_skip ?_
    refine hK3 _ ?_; clear hK3 K3
    refine codeT.imp (σ' := [(0, _), (2, _), (3, _), (4, _), (5, _)]) ?_ (imp_covers ⟨rfl, rfl, rfl, rfl, rfl, trivial⟩)
    refine code_seq (fun K6 hK6 => ?_)
    refine code_region ?_
    refine list_cons rfl (op_q (q_move rfl (by decide)) ?_)
    refine list_cons rfl (op_q (by first | exact q_quoI rfl rfl (by decide) (by omega) (by omega) (by omega) | exact q_quoT rfl rfl (by omega) (by decide) (by omega) (by omega) | exact q_quo rfl rfl (by omega) (by decide)) ?_)
    refine list_cons rfl (op_q (q_move rfl (by decide)) ?_)
    refine list_cons rfl (op_q (by first | exact q_remI rfl rfl (by decide) (by omega) (by omega) | exact q_rem rfl rfl (by omega) (by decide)) ?_)
    refine list_cons rfl (op_q (q_build bt_54 (parts := [(0, .tmp 21), (1, .tmp 23)]) rfl rfl (by decide)) ?_)
    refine list_cons rfl (op_alloc zt_54 (by decide) (by decide) rfl ?_)
    refine list_cons rfl (op_store (agg_54).2 6 [6] (by intro t ht; simp only [List.mem_cons, List.not_mem_nil, or_false] at ht; subst ht; rfl) (.inr ⟨rfl, _, rfl⟩) rfl rfl rfl rfl (by first | rfl | exact flat_part (flat_map _ (fun _ => rfl) _) _ _ | exact flat_map _ (fun _ => rfl) _) (by first | rfl | (simp [PV.cells]; done)) (by first | decide | omega | exact Nat.le_refl _ | (simp; done) | (simp; omega)) (by decide) rfl ?_)
    refine list_nil ?_
    refine hK6 _ ?_; clear hK6 K6
    refine codeT.imp (σ' := [(0, _), (2, _), (3, _), (4, _), (5, _), (6, _)]) ?_ (imp_covers ⟨rfl, rfl, rfl, rfl, rfl, rfl, trivial⟩)
    refine code_seq (fun K7 hK7 => ?_)
    refine code_region ?_
    refine list_cons rfl (op_q (q_fieldAddr fi_54_0 rfl rfl (by decide)) ?_)
    refine list_cons rfl (op_q (q_load one_3 6 rfl rfl rfl (by first | rfl | exact get_map1 _ 0 _ (by first | omega | (simp; omega))) (by decide)) ?_)
    refine list_cons rfl (op_q (by first | exact q_mulI rfl rfl (by decide) (by omega) (by omega) | exact q_ib rfl rfl rfl (by decide)) ?_)
    refine list_cons rfl (op_q (q_fieldAddr fi_54_1 rfl rfl (by decide)) ?_)
    refine list_cons rfl (op_q (q_load one_3 6 rfl rfl rfl (by first | rfl | exact get_map1 _ 0 _ (by first | omega | (simp; omega))) (by decide)) ?_)
    refine list_cons rfl (op_q (by first | exact q_addI rfl rfl (by decide) (by omega) (by omega) | exact q_ib rfl rfl rfl (by decide)) ?_)
    refine list_cons rfl (op_q (q_assign rfl (by decide)) ?_)
    refine list_nil ?_
    refine hK7 _ ?_; clear hK7 K7
    refine code_seq (fun K8 hK8 => ?_)
    refine code_seq (fun K9 hK9 => ?_)
    refine code_draw (by kernel_rfl) (by kernel_rfl) ?_
    refine draw_q rfl (q_move rfl (by decide)) ?_
    refine draw_call _ (impl_isTime _) rfl rfl rfl (by decide) ?_
    refine draw_q rfl (by first | exact q_notd rfl (by decide) | exact q_not rfl (by decide)) ?_
    refine draw_q rfl (q_move rfl (by decide)) ?_
    refine draw_guard_d rfl rfl rfl rfl (by decide) rfl (by decide) (fun h3 => q_move rfl (by decide)) (fun h3 => ?_) (fun h3 => ?_)
    · simp only [Bool.false_eq_true, if_true, if_false, Decidable.not_not] at h3
      (try simp only [Decidable.not_not, EqP, Eq1, and_true] at h3); (try have hR := (h3 : RowP l ∧ DigsP l ∧ 0 < l.length); try have hR1 := hnb hR.1); (try have hT1 := (h3 : TmP _).1; have hT2 := (h3 : TmP _).2)
      refine draw_callW _ (impl_faceOf _ (by omega) (by omega)) rfl rfl rfl (by decide) (wanted_of rfl rfl rfl (by decide)) ?_
      refine draw_guard_y rfl rfl rfl rfl (by decide) rfl (q_load_agg agg_54 6 (.inr ⟨rfl, _, rfl⟩) rfl rfl (by first | decide | omega | exact Nat.le_refl _ | (simp; done) | (simp; omega)) (by first | rfl | exact flat_part (flat_map _ (fun _ => rfl) _) _ _) (by decide)) ?_
      refine draw_guard_y rfl rfl rfl rfl (by decide) rfl (q_aggne (by decide) agg_54 eqty_54 eqg_54 rfl rfl (by first | exact ⟨_, _, rfl, ⟨_, rfl⟩, ⟨_, _, rfl, ⟨_, rfl⟩, trivial⟩⟩) (by first | exact ⟨_, _, rfl, ⟨_, rfl⟩, ⟨_, _, rfl, ⟨_, rfl⟩, trivial⟩⟩) rfl rfl (by decide)) ?_
      refine draw_q rfl (q_pick rfl rfl (by decide)) ?_
      refine draw_nil ?_
      refine hK9 _ ?_; clear hK9 K9
      refine codeT.imp (σ' := [(0, _), (2, _), (3, _), (4, _), (5, _), (6, _), (7, _), (39, _)]) ?_ (imp_covers ⟨rfl, rfl, rfl, rfl, rfl, rfl, rfl, rfl, trivial⟩)
      refine code_cond_d rfl (fun h4 => ?_) (fun h4 => ?_)
      · skip
        (try simp only [Decidable.not_not, EqP, Eq1, and_true] at h4); (try have hR := (h4 : RowP l ∧ DigsP l ∧ 0 < l.length); try have hR1 := hnb hR.1); (try have hT1 := (h4 : TmP _).1; have hT2 := (h4 : TmP _).2)
        refine code_seq (fun K10 hK10 => ?_)
        refine code_region ?_
        refine list_cons rfl (op_q (q_assign rfl (by decide)) ?_)
        refine list_cons rfl (op_q (q_assign rfl (by decide)) ?_)
        refine list_nil ?_
        refine hK10 _ ?_; clear hK10 K10
        refine code_ret ?_
        refine then_r ?_; clear hK8 K8
        refine ends_ret (cs := []) rfl rfl rfl rfl trivial ?_
        first
          | (have e : ¬ (RowP l ∧ TimP l) := fun e => by
               have e1 := e.2.1.1; have e2 := e.2.1.2; have e3 := e.2.2
               have hq : RowP l ∧ DigsP l := ⟨e.1, e1⟩
               have hx := h4
               first
               | exact absurd (show RowP l ∧ DigsP l ∧ 0 < l.length from ⟨e.1, e1, by omega⟩) hx
               | exact absurd e2 hx
               | (simp only [if_pos hq] at hx hR1
                  exact hx ⟨by omega, by omega⟩)
               | (simp only [if_pos hq] at hx hR1
                  exact hx ⟨show (60 * (numF l / 100) + numF l % 100) / 60 = numF l / 100 by omega, show (60 * (numF l / 100) + numF l % 100) % 60 = numF l % 100 by omega, trivial⟩)
             rw [if_neg e, decide_eq_false e]; done)
          | (have hq : RowP l ∧ DigsP l := ⟨hR.1, hR.2.1⟩
             have hx := h4
             simp only [if_pos hq] at hx hR1 hT1 hT2 ⊢
             have hx1 : (60 * (numF l / 100) + numF l % 100) / 60 = numF l / 100 := hx.1
             have e : RowP l ∧ TimP l := ⟨hR.1, ⟨hR.2.1, by assumption⟩, by omega, by omega⟩
             rw [if_pos e, decide_eq_true e]
             unfold timF
             rw [Int.mul_comm]; done)
      (try simp only [Decidable.not_not, EqP, Eq1, and_true] at h4); (try have hR := (h4 : RowP l ∧ DigsP l ∧ 0 < l.length); try have hR1 := hnb hR.1); (try have hT1 := (h4 : TmP _).1; have hT2 := (h4 : TmP _).2)
      refine code_skip ?_
      refine hK8 _ ?_; clear hK8 K8
      refine code_seq (fun K11 hK11 => ?_)
      refine code_region ?_
      refine list_cons rfl (op_q (q_move rfl (by decide)) ?_)
      refine list_cons rfl (op_q (q_assign rfl (by decide)) ?_)
      refine list_cons rfl (op_q (q_assign rfl (by decide)) ?_)
      refine list_nil ?_
      refine hK11 _ ?_; clear hK11 K11
      refine code_ret ?_
      refine ends_ret (cs := []) rfl rfl rfl rfl trivial ?_
      first
        | (have e : ¬ (RowP l ∧ TimP l) := fun e => by
             have e1 := e.2.1.1; have e2 := e.2.1.2; have e3 := e.2.2
             have hq : RowP l ∧ DigsP l := ⟨e.1, e1⟩
             have hx := h4
             first
             | exact absurd (show RowP l ∧ DigsP l ∧ 0 < l.length from ⟨e.1, e1, by omega⟩) hx
             | exact absurd e2 hx
             | (simp only [if_pos hq] at hx hR1
                exact hx ⟨by omega, by omega⟩)
             | (simp only [if_pos hq] at hx hR1
                exact hx ⟨show (60 * (numF l / 100) + numF l % 100) / 60 = numF l / 100 by omega, show (60 * (numF l / 100) + numF l % 100) % 60 = numF l % 100 by omega, trivial⟩)
           rw [if_neg e, decide_eq_false e]; done)
        | (have hq : RowP l ∧ DigsP l := ⟨hR.1, hR.2.1⟩
           have hx := h4
           simp only [if_pos hq] at hx hR1 hT1 hT2 ⊢
           have hx1 : (60 * (numF l / 100) + numF l % 100) / 60 = numF l / 100 := hx.1
           have e : RowP l ∧ TimP l := ⟨hR.1, ⟨hR.2.1, by assumption⟩, by omega, by omega⟩
           rw [if_pos e, decide_eq_true e]
           unfold timF
           rw [Int.mul_comm]; done)
    simp only [Bool.false_eq_true, if_true, if_false, Decidable.not_not] at h3
    (try simp only [Decidable.not_not, EqP, Eq1, and_true] at h3); (try have hR := (h3 : RowP l ∧ DigsP l ∧ 0 < l.length); try have hR1 := hnb hR.1); (try have hT1 := (h3 : TmP _).1; have hT2 := (h3 : TmP _).2)
    refine draw_guard_n rfl rfl rfl rfl (by decide) rfl ?_
    refine draw_guard_n rfl rfl rfl rfl (by decide) rfl ?_
    refine draw_guard_n rfl rfl rfl rfl (by decide) rfl ?_
    refine draw_q rfl (q_pick rfl rfl (by decide)) ?_
    refine draw_nil ?_
    refine hK9 _ ?_; clear hK9 K9
    refine codeT.imp (σ' := [(0, _), (2, _), (3, _), (4, _), (5, _), (6, _), (7, _), (39, _)]) ?_ (imp_covers ⟨rfl, rfl, rfl, rfl, rfl, rfl, rfl, rfl, trivial⟩)
    refine code_cond_t rfl ?_
    refine code_seq (fun K12 hK12 => ?_)
    refine code_region ?_
    refine list_cons rfl (op_q (q_assign rfl (by decide)) ?_)
    refine list_cons rfl (op_q (q_assign rfl (by decide)) ?_)
    refine list_nil ?_
    refine hK12 _ ?_; clear hK12 K12
    refine code_ret ?_
    refine then_r ?_; clear hK8 K8
    refine ends_ret (cs := []) rfl rfl rfl rfl trivial ?_
    first
      | (have e : ¬ (RowP l ∧ TimP l) := fun e => by
           have e1 := e.2.1.1; have e2 := e.2.1.2; have e3 := e.2.2
           have hq : RowP l ∧ DigsP l := ⟨e.1, e1⟩
           have hx := h3
           first
           | exact absurd (show RowP l ∧ DigsP l ∧ 0 < l.length from ⟨e.1, e1, by omega⟩) hx
           | exact absurd e2 hx
           | (simp only [if_pos hq] at hx hR1
              exact hx ⟨by omega, by omega⟩)
           | (simp only [if_pos hq] at hx hR1
              exact hx ⟨show (60 * (numF l / 100) + numF l % 100) / 60 = numF l / 100 by omega, show (60 * (numF l / 100) + numF l % 100) % 60 = numF l % 100 by omega, trivial⟩)
         rw [if_neg e, decide_eq_false e]; done)
      | (have hq : RowP l ∧ DigsP l := ⟨hR.1, hR.2.1⟩
         have hx := h3
         simp only [if_pos hq] at hx hR1 hT1 hT2 ⊢
         have hx1 : (60 * (numF l / 100) + numF l % 100) / 60 = numF l / 100 := hx.1
         have e : RowP l ∧ TimP l := ⟨hR.1, ⟨hR.2.1, by assumption⟩, by omega, by omega⟩
         rw [if_pos e, decide_eq_true e]
         unfold timF
         rw [Int.mul_comm]; done)
  simp only [Bool.false_eq_true, if_true, if_false, Decidable.not_not] at h1
  (try simp only [Decidable.not_not, EqP, Eq1, and_true] at h1); (try have hR := (h1 : RowP l ∧ DigsP l ∧ 0 < l.length); try have hR1 := hnb hR.1); (try have hT1 := (h1 : TmP _).1; have hT2 := (h1 : TmP _).2)
  refine list_guard_n rfl rfl rfl rfl (by decide) rfl ?_
  refine list_guard_n rfl rfl rfl rfl (by decide) rfl ?_
  refine list_cons rfl (op_q (q_pick rfl rfl (by decide)) ?_)
  refine list_nil ?_
  refine hK4 _ ?_; clear hK4 K4
  refine code_cond_t rfl ?_
  refine code_seq (fun K13 hK13 => ?_)
  refine code_region ?_
  refine list_cons rfl (op_q (q_assign rfl (by decide)) ?_)
  refine list_cons rfl (op_q (q_assign rfl (by decide)) ?_)
  refine list_nil ?_
  refine hK13 _ ?_; clear hK13 K13
  refine code_ret ?_
  refine then_r ?_; clear hK3 K3
  refine ends_ret (cs := []) rfl rfl rfl rfl trivial ?_
  first
    | (have e : ¬ (RowP l ∧ TimP l) := fun e => by
         have e1 := e.2.1.1; have e2 := e.2.1.2; have e3 := e.2.2
         have hq : RowP l ∧ DigsP l := ⟨e.1, e1⟩
         have hx := h1
         first
         | exact absurd (show RowP l ∧ DigsP l ∧ 0 < l.length from ⟨e.1, e1, by omega⟩) hx
         | exact absurd e2 hx
         | (simp only [if_pos hq] at hx hR1
            exact hx ⟨by omega, by omega⟩)
         | (simp only [if_pos hq] at hx hR1
            exact hx ⟨show (60 * (numF l / 100) + numF l % 100) / 60 = numF l / 100 by omega, show (60 * (numF l / 100) + numF l % 100) % 60 = numF l % 100 by omega, trivial⟩)
       rw [if_neg e, decide_eq_false e]; done)
    | (have hq : RowP l ∧ DigsP l := ⟨hR.1, hR.2.1⟩
       have hx := h1
       simp only [if_pos hq] at hx hR1 hT1 hT2 ⊢
       have hx1 : (60 * (numF l / 100) + numF l % 100) / 60 = numF l / 100 := hx.1
       have e : RowP l ∧ TimP l := ⟨hR.1, ⟨hR.2.1, by assumption⟩, by omega, by omega⟩
       rw [if_pos e, decide_eq_true e]
       unfold timF
       rw [Int.mul_comm]; done)

set_option maxRecDepth 8000 in
set_option maxHeartbeats 2000000 in
theorem movedN_MirrorRow (t : Int) (hT : ¬ TmP t) : PCalls Tryd.prog 62 [.int .i64 t, .clo 63 []] (· = [.val (.int .i64 0), .val (.bool false)]) := by
  refine pcalls_of_code (n := 28) az Tryd.func62 (by kernel_rfl) rfl rfl (Nat.le_of_ble_eq_true rfl) (by intro t u h; simp [Tryd.f62] at h) ?_
  refine code_seq (fun K1 hK1 => ?_)
  refine code_region ?_
  refine list_cons rfl (op_q (q_assign rfl (by decide)) ?_)
  refine list_cons rfl (op_q (q_assign rfl (by decide)) ?_)
  refine list_nil ?_
  refine hK1 _ ?_; clear hK1 K1
  refine code_seq (fun K2 hK2 => ?_)
  refine code_region ?_
  refine list_cons rfl (op_q (q_move rfl (by decide)) ?_)
  refine list_cons rfl (op_call _ (impl_ClockRow t) rfl rfl (by decide) (by decide) (by decide) rfl ?_)
  rintro _ rfl; simp only [if_neg hT, decide_eq_false hT]
  refine list_cons rfl (op_q (q_move rfl (by decide)) ?_)
  refine list_cons rfl (op_q (q_extract rfl rfl (by decide)) ?_)
  refine list_cons rfl (op_q (q_extract rfl rfl (by decide)) ?_)
  refine list_cons rfl (op_q (q_assign rfl (by decide)) ?_)
  refine list_cons rfl (op_q (q_assign rfl (by decide)) ?_)
  refine list_nil ?_
  refine hK2 _ ?_; clear hK2 K2
  refine codeT.imp (σ' := [(0, _), (1, _), (4, _), (5, _), (6, _), (7, _)]) ?_ (imp_covers ⟨rfl, rfl, rfl, rfl, rfl, rfl, trivial⟩)
  refine code_seq (fun K3 hK3 => ?_)
  refine code_seq (fun K4 hK4 => ?_)
  refine code_region ?_
  refine list_cons rfl (op_q (q_move rfl (by decide)) ?_)
  refine list_cons rfl (op_q (by first | exact q_notd rfl (by decide) | exact q_not rfl (by decide)) ?_)
  refine list_nil ?_
  refine hK4 _ ?_; clear hK4 K4
  refine code_cond_t rfl ?_
  refine code_seq (fun K5 hK5 => ?_)
  refine code_region ?_
  refine list_cons rfl (op_q (q_assign rfl (by decide)) ?_)
  refine list_cons rfl (op_q (q_assign rfl (by decide)) ?_)
  refine list_nil ?_
  refine hK5 _ ?_; clear hK5 K5
  refine code_ret ?_
  refine then_r ?_; clear hK3 K3
  refine ends_ret (cs := []) rfl rfl rfl rfl trivial ?_
  rfl

set_option maxRecDepth 8000 in
set_option maxHeartbeats 2000000 in
theorem movedY_MirrorRow (t : Int) (hT : TmP t) : PCalls Tryd.prog 62 [.int .i64 t, .clo 63 []] (· = [.val (.int .i64 (if TmP t ∧ MirP t then mirT t else 0)), .val (.bool (decide (TmP t ∧ MirP t)))]) := by
  refine pcalls_of_code (n := 28) az Tryd.func62 (by kernel_rfl) rfl rfl (Nat.le_of_ble_eq_true rfl) (by intro t u h; simp [Tryd.f62] at h) ?_
  have hRm : RowP (mirL (rowT t)) := mirR6 (rowT_row t)
  refine code_seq (fun K1 hK1 => ?_)
  refine code_region ?_
  refine list_cons rfl (op_q (q_assign rfl (by decide)) ?_)
  refine list_cons rfl (op_q (q_assign rfl (by decide)) ?_)
  refine list_nil ?_
  refine hK1 _ ?_; clear hK1 K1
  refine code_seq (fun K2 hK2 => ?_)
  refine code_region ?_
  refine list_cons rfl (op_q (q_move rfl (by decide)) ?_)
  refine list_cons rfl (op_call _ (impl_ClockRow t) rfl rfl (by decide) (by decide) (by decide) rfl ?_)
  rintro _ rfl; simp only [if_pos hT, decide_eq_true hT]
  refine list_cons rfl (op_q (q_move rfl (by decide)) ?_)
  refine list_cons rfl (op_q (q_extract rfl rfl (by decide)) ?_)
  refine list_cons rfl (op_q (q_extract rfl rfl (by decide)) ?_)
  refine list_cons rfl (op_q (q_assign rfl (by decide)) ?_)
  refine list_cons rfl (op_q (q_assign rfl (by decide)) ?_)
  refine list_nil ?_
  refine hK2 _ ?_; clear hK2 K2
  refine codeT.imp (σ' := [(0, _), (1, _), (4, _), (5, _), (6, _), (7, _)]) ?_ (imp_covers ⟨rfl, rfl, rfl, rfl, rfl, rfl, trivial⟩)
  refine code_seq (fun K3 hK3 => ?_)
  refine code_seq (fun K4 hK4 => ?_)
  refine code_region ?_
  refine list_cons rfl (op_q (q_move rfl (by decide)) ?_)
  refine list_cons rfl (op_q (by first | exact q_notd rfl (by decide) | exact q_not rfl (by decide)) ?_)
  refine list_nil ?_
  refine hK4 _ ?_; clear hK4 K4
  refine code_cond_f rfl ?_
  refine code_skip ?_
  refine hK3 _ ?_; clear hK3 K3
  refine code_seq (fun K5 hK5 => ?_)
  refine code_region ?_
  refine list_cons rfl (op_q (q_move rfl (by decide)) ?_)
  refine list_cons rfl (op_q (q_move rfl (by decide)) ?_)
  refine list_cons rfl (op_callF _ rfl rfl (impl_MirrorRow (rowT t) (by rw [rowT_len]; decide)) rfl rfl (by decide) (by decide) (by decide) rfl ?_)
  rintro _ _ rfl; simp only [if_pos (rowT_row t), decide_eq_true (rowT_row t)]
  refine list_cons rfl (op_q (q_move rfl (by decide)) ?_)
  refine list_cons rfl (op_q (q_extract rfl rfl (by decide)) ?_)
  refine list_cons rfl (op_q (q_extract rfl rfl (by decide)) ?_)
  refine list_cons rfl (op_q (q_assign rfl (by decide)) ?_)
  refine list_cons rfl (op_q (q_assign rfl (by decide)) ?_)
  refine list_nil ?_
  refine hK5 _ ?_; clear hK5 K5
  refine codeT.imp (σ' := [(0, _), (1, _), (4, _), (5, _), (6, _), (7, _), (8, _)]) ?_ (imp_covers ⟨rfl, rfl, rfl, rfl, rfl, rfl, rfl, trivial⟩)
  refine code_seq (fun K6 hK6 => ?_)
  refine code_seq (fun K7 hK7 => ?_)
  refine code_region ?_
  refine list_cons rfl (op_q (q_move rfl (by decide)) ?_)
  refine list_cons rfl (op_q (by first | exact q_notd rfl (by decide) | exact q_not rfl (by decide)) ?_)
  refine list_nil ?_
  refine hK7 _ ?_; clear hK7 K7
  refine code_cond_f rfl ?_
  refine code_skip ?_
  refine hK6 _ ?_; clear hK6 K6
  refine code_seq (fun K8 hK8 => ?_)
  refine code_region ?_
  refine list_cons rfl (op_q (q_move rfl (by decide)) ?_)
  refine list_cons rfl (op_call _ (impl_TimeOfRow (mirL (rowT t)) (by rw [mirL_len, rowT_len]; decide)) rfl rfl (by decide) (by decide) (by decide) rfl ?_)
  rintro _ rfl
  refine list_cons rfl (op_q (q_extract rfl rfl (by decide)) ?_)
  refine list_cons rfl (op_q (q_extract rfl rfl (by decide)) ?_)
  refine list_cons rfl (op_q (q_assign rfl (by decide)) ?_)
  refine list_cons rfl (op_q (q_assign rfl (by decide)) ?_)
  refine list_nil ?_
  refine hK8 _ ?_; clear hK8 K8
  refine codeT.imp (σ' := [(0, _), (1, _), (4, _), (5, _), (6, _), (7, _), (8, _)]) ?_ (imp_covers ⟨rfl, rfl, rfl, rfl, rfl, rfl, rfl, trivial⟩)
  refine code_ret ?_
  refine ends_ret (cs := []) rfl rfl rfl rfl trivial ?_
  have hRm : RowP (mirL (rowT t)) := (by assumption)
  have hE : (RowP (mirL (rowT t)) ∧ TimP (mirL (rowT t))) ↔ (TmP t ∧ MirP t) := ⟨fun k => ⟨hT, k.2⟩, fun k => ⟨hRm, k.2⟩⟩
  by_cases e : TmP t ∧ MirP t
  · rw [if_pos e, decide_eq_true e, if_pos (hE.2 e), decide_eq_true (hE.2 e)]; rfl
  · rw [if_neg e, decide_eq_false e, if_neg (fun k => e (hE.1 k)), decide_eq_false (fun k => e (hE.1 k))]

theorem moved_MirrorRow (t : Int) : PCalls Tryd.prog 62 [.int .i64 t, .clo 63 []] (· = [.val (.int .i64 (if TmP t ∧ MirP t then mirT t else 0)), .val (.bool (decide (TmP t ∧ MirP t)))]) := by
  by_cases h : TmP t
  · exact movedY_MirrorRow t h
  · rw [if_neg (fun k : TmP t ∧ MirP t => h k.1), decide_eq_false (fun k : TmP t ∧ MirP t => h k.1)]
    exact movedN_MirrorRow t h

set_option maxRecDepth 4000 in
theorem impl_MirrorTime (t : Int) : PCalls Tryd.prog 40 [.int .i64 t] (· = [.val (.int .i64 (if TmP t ∧ MirP t then mirT t else 0)), .val (.bool (decide (TmP t ∧ MirP t)))]) := by
  refine pcalls_of_code (n := 8) az Tryd.func40 (by kernel_rfl) rfl rfl (Nat.le_of_ble_eq_true rfl) (by intro t u h; simp [Tryd.f40] at h) ?_
  refine code_seq (fun K1 hK1 => ?_)
  refine code_region ?_
  refine list_cons rfl (op_q (q_assign rfl (by decide)) ?_)
  refine list_cons rfl (op_q (q_assign rfl (by decide)) ?_)
  refine list_nil ?_
  refine hK1 _ ?_; clear hK1 K1
  refine code_seq (fun K2 hK2 => ?_)
  refine code_region ?_
  refine list_cons rfl (op_q (q_move rfl (by decide)) ?_)
  refine list_cons rfl (op_call _ (moved_MirrorRow t) rfl rfl (by decide) (by decide) (by decide) rfl ?_)
  rintro _ rfl
  refine list_cons rfl (op_q (q_extract rfl rfl (by decide)) ?_)
  refine list_cons rfl (op_q (q_extract rfl rfl (by decide)) ?_)
  refine list_cons rfl (op_q (q_assign rfl (by decide)) ?_)
  refine list_cons rfl (op_q (q_assign rfl (by decide)) ?_)
  refine list_nil ?_
  refine hK2 _ ?_; clear hK2 K2
  refine codeT.imp (σ' := [(0, _), (2, _), (3, _)]) ?_ (imp_covers ⟨rfl, rfl, rfl, trivial⟩)
  refine code_ret ?_
  refine ends_ret (cs := []) rfl rfl rfl rfl trivial ?_
  rfl

set_option maxRecDepth 4000 in
theorem gives_c (f : FuncId) (t w v : Int) (b : Prop) [Decidable b] (hf : PCalls Tryd.prog f [.int .i64 t] (· = [.val (.int .i64 v), .val (.bool (decide b))])) : PCalls Tryd.prog 39 [.clo f [], .int .i64 t, .int .i64 w] (· = [.val (.bool (decide (b ∧ v = w)))]) := by
  refine pcalls_of_code (n := 21) az Tryd.func39 (by kernel_rfl) rfl rfl (Nat.le_of_ble_eq_true rfl) (by intro t u h; simp [Tryd.f39] at h) ?_
  refine code_seq (fun K1 hK1 => ?_)
  refine code_region ?_
  refine list_cons rfl (op_q (q_assign rfl (by decide)) ?_)
  refine list_nil ?_
  refine hK1 _ ?_; clear hK1 K1
  refine code_seq (fun K2 hK2 => ?_)
  refine code_region ?_
  refine list_cons rfl (op_q (q_move rfl (by decide)) ?_)
  refine list_cons rfl (op_q (q_move rfl (by decide)) ?_)
  refine list_cons rfl (op_callF _ rfl rfl (hf) rfl rfl (by decide) (by decide) (by decide) rfl ?_)
  rintro _ _ rfl
  refine list_cons rfl (op_q (q_move rfl (by decide)) ?_)
  refine list_cons rfl (op_q (q_extract rfl rfl (by decide)) ?_)
  refine list_cons rfl (op_q (q_extract rfl rfl (by decide)) ?_)
  refine list_cons rfl (op_q (q_assign rfl (by decide)) ?_)
  refine list_cons rfl (op_q (q_assign rfl (by decide)) ?_)
  refine list_nil ?_
  refine hK2 _ ?_; clear hK2 K2
  refine codeT.imp (σ' := [(0, _), (1, _), (2, _), (6, _), (7, _), (8, _)]) ?_ (imp_covers ⟨rfl, rfl, rfl, rfl, rfl, rfl, trivial⟩)
  refine code_seq (fun K3 hK3 => ?_)
  refine code_region ?_
  refine list_cons rfl (op_q (q_move rfl (by decide)) ?_)
  refine list_cons rfl (op_q (q_move rfl (by decide)) ?_)
  refine list_guard_d rfl rfl rfl rfl (by decide) rfl (by decide) (fun h1 => ?_) (fun h1 => ?_)
  · simp only [Bool.false_eq_true, if_true, if_false, Decidable.not_not] at h1
    refine id (op_q (q_move rfl (by decide)) ?_)
    refine list_guard_y rfl rfl rfl rfl (by decide) rfl ?_
    refine id (op_q (q_move rfl (by decide)) ?_)
    refine list_guard_y rfl rfl rfl rfl (by decide) rfl ?_
    refine id (op_q (q_eq rfl rfl (by decide)) ?_)
    refine list_cons rfl (op_q (q_pick rfl rfl (by decide)) ?_)
    refine list_cons rfl (op_q (q_assign rfl (by decide)) ?_)
    refine list_nil ?_
    refine hK3 _ ?_; clear hK3 K3
    refine code_ret ?_
    refine ends_ret (cs := []) rfl rfl rfl rfl trivial ?_
    first | (rw [decide_eq_false (fun k : b ∧ v = w => h1 k.1)]; done) | (congr 3; exact decide_eq_decide.mpr ⟨fun k => ⟨h1, k⟩, fun k => k.2⟩)
  simp only [Bool.false_eq_true, if_true, if_false, Decidable.not_not] at h1
  refine list_guard_n rfl rfl rfl rfl (by decide) rfl ?_
  refine list_guard_n rfl rfl rfl rfl (by decide) rfl ?_
  refine list_cons rfl (op_q (q_pick rfl rfl (by decide)) ?_)
  refine list_cons rfl (op_q (q_assign rfl (by decide)) ?_)
  refine list_nil ?_
  refine hK3 _ ?_; clear hK3 K3
  refine code_ret ?_
  refine ends_ret (cs := []) rfl rfl rfl rfl trivial ?_
  first | (rw [decide_eq_false (fun k : b ∧ v = w => h1 k.1)]; done) | (congr 3; exact decide_eq_decide.mpr ⟨fun k => ⟨h1, k⟩, fun k => k.2⟩)

set_option maxRecDepth 4000 in
theorem hasMirror_c (t : Int) : PCalls Tryd.prog 35 [.int .i64 t] (· = [.val (.bool (decide (TmP t ∧ MirP t)))]) := by
  refine pcalls_of_code (n := 11) az Tryd.func35 (by kernel_rfl) rfl rfl (Nat.le_of_ble_eq_true rfl) (by intro t u h; simp [Tryd.f35] at h) ?_
  refine code_seq (fun K1 hK1 => ?_)
  refine code_region ?_
  refine list_cons rfl (op_q (q_assign rfl (by decide)) ?_)
  refine list_nil ?_
  refine hK1 _ ?_; clear hK1 K1
  refine code_seq (fun K2 hK2 => ?_)
  refine code_region ?_
  refine list_cons rfl (op_q (q_move rfl (by decide)) ?_)
  refine list_cons rfl (op_call _ (impl_MirrorTime _) rfl rfl (by decide) (by decide) (by decide) rfl ?_)
  rintro _ rfl
  refine list_cons rfl (op_q (q_move rfl (by decide)) ?_)
  refine list_cons rfl (op_q (q_extract rfl rfl (by decide)) ?_)
  refine list_cons rfl (op_q (q_extract rfl rfl (by decide)) ?_)
  refine list_cons rfl (op_q (q_assign rfl (by decide)) ?_)
  refine list_cons rfl (op_q (q_assign rfl (by decide)) ?_)
  refine list_nil ?_
  refine hK2 _ ?_; clear hK2 K2
  refine codeT.imp (σ' := [(0, _), (2, _), (4, _)]) ?_ (imp_covers ⟨rfl, rfl, rfl, trivial⟩)
  refine code_seq (fun K3 hK3 => ?_)
  refine code_region ?_
  refine list_cons rfl (op_q (q_move rfl (by decide)) ?_)
  refine list_cons rfl (op_q (q_assign rfl (by decide)) ?_)
  refine list_nil ?_
  refine hK3 _ ?_; clear hK3 K3
  refine code_ret ?_
  refine ends_ret (cs := []) rfl rfl rfl rfl trivial ?_
  rfl

set_option maxRecDepth 8000 in
set_option maxHeartbeats 2000000 in
theorem appendSeq_c (f : FuncId) (z caps : List PV) (L : List Int) (hL : L.length ≤ 1440) (hit : ITer Tryd.prog f (.ptr z :: caps) L.length (fun i => [.int .i64 (L.getD i 0)])) : PCalls Tryd.prog 77 [.cst 0, .clo f (.ptr z :: caps)] (· = [.own 0 3 1 (L).length ((L).map (.int .i64))]) := by
  refine pcalls_of_code (n := 13) az Tryd.func77 (by kernel_rfl) rfl rfl (Nat.le_of_ble_eq_true rfl) (by intro t u h; simp [Tryd.f77] at h) ?_
  refine codeT.imp ?_ (imp_nil (s := 0) (l := 900) (e := 3) (size := 1) (.inl rfl))
  refine code_seq (fun K1 hK1 => ?_)
  refine code_region ?_
  refine list_cons rfl (op_boxR rfl rfl (by decide) (by decide) (by decide) rfl ?_)
  refine list_cons rfl (op_q (q_assign rfl (by decide)) ?_)
  refine list_nil ?_
  refine hK1 _ ?_; clear hK1 K1
  refine codeT.imp (σ' := [(0, _), (1, _), (2, _), (4, _)]) ?_ (imp_covers ⟨rfl, rfl, rfl, rfl, trivial⟩)
  refine code_seq (fun K2 hK2 => ?_)
  refine code_seq (fun K3 hK3 => ?_)
  refine code_region ?_
  refine list_cons rfl (op_q (q_move rfl (by decide)) ?_)
  refine list_nil ?_
  refine hK3 _ ?_; clear hK3 K3
  refine code_block ?_
  refine code_rangeFunc (hit) ((fun (s1 s4 s6 : SV) (i : Nat) => ([(1, s1), (2, .boxR 2 25 3 1 [some ((L.take i).length, (L.take i).map (.int .i64))]), (4, s4), (6, s6)] : St)) _ _ _) (fun i => True) (trivial) rfl rfl rfl (by decide) rfl (fun _ _ => ⟨rfl, rfl⟩) (fun _ => rfl) rfl rfl (imp_covers ⟨rfl, rfl, rfl, rfl, trivial⟩) (fun i hi hIi => ?_) (fun hIi => ?_)
  · intro K4 hK4
    refine codeT.imp (σ' := [(7, .val (.int .i64 (L.getD i 0))), (1, _), (2, _), (4, _), (6, _)]) ?_ (imp_covers ⟨rfl, rfl, rfl, rfl, rfl, trivial⟩)
    refine code_region ?_
    refine list_cons rfl (op_q (q_assign rfl (by decide)) ?_)
    refine list_nil ?_
    refine hK4 _ rfl ?_; clear hK4 K4
    refine codeT.imp (σ' := [(1, _), (2, _), (4, _), (5, _), (6, _), (7, _)]) ?_ (imp_covers ⟨rfl, rfl, rfl, rfl, rfl, rfl, trivial⟩)
    refine code_block ?_
    refine code_region ?_
    refine list_cons rfl (op_loadR one_25 2 (.inr ⟨rfl, rfl⟩) rfl rfl (by decide) (by decide) (by decide) rfl ?_)
    refine list_cons rfl (op_q (q_move rfl (by decide)) ?_)
    refine list_cons rfl (op_buildSlice sl_25 (parts := [(0, .tmp 9)]) rfl rfl rfl (by decide) (by decide) (by decide) rfl ?_)
    refine list_cons rfl (op_append_gen sl_25 (l := 8) (.inl rfl) rfl rfl (l2 := none) (.inl ⟨rfl, (by first | rfl | exact flat_map _ (fun _ => rfl) _)⟩) (by first | rfl | simp | omega) (by rw [List.length_take]; omega) (by decide) (by decide) (by decide) ?_)
    refine list_cons rfl (op_storeR (one_25).2 2 (.inr ⟨rfl, rfl⟩) rfl rfl (by decide) (by decide) (by first | exact flat_app6 (flat_map _ (fun _ => rfl) _) rfl | rfl) Nat.zero_lt_one rfl ?_)
    refine list_nil ?_
    refine blk_n ?_
    refine rp_n ⟨trivial, imp_covers ⟨rfl, (congrArg (fun z => some (SV.boxR 2 25 3 1 [some z])) (snocI hi rfl)), rfl, rfl, trivial⟩⟩
  · skip
    refine blk_n ?_
    refine hK2 _ ?_; clear hK2 K2
    refine codeT.imp (σ' := [(1, _), (2, _), (4, _), (6, _)]) ?_ (imp_covers ⟨rfl, rfl, rfl, rfl, trivial⟩)
    refine code_seq (fun K5 hK5 => ?_)
    refine code_region ?_
    refine list_cons rfl (op_loadR one_25 2 (.inr ⟨rfl, rfl⟩) rfl rfl (by decide) (by decide) (by decide) rfl ?_)
    refine list_cons rfl (op_q (q_assign rfl (by decide)) ?_)
    refine list_nil ?_
    refine hK5 _ ?_; clear hK5 K5
    refine codeT.imp (σ' := [(1, _), (2, _), (4, _), (6, _)]) ?_ (imp_covers ⟨rfl, rfl, rfl, rfl, trivial⟩)
    refine code_ret ?_
    refine ends_ret (cs := []) rfl rfl rfl rfl trivial ?_
    rw [List.take_of_length_le (Nat.le_refl _)]

set_option maxRecDepth 4000 in
theorem collect_c (f : FuncId) (z caps : List PV) (L : List Int) (hL : L.length ≤ 1440) (hit : ITer Tryd.prog f (.ptr z :: caps) L.length (fun i => [.int .i64 (L.getD i 0)])) : PCalls Tryd.prog 61 [.clo f (.ptr z :: caps)] (· = [.own 0 3 1 (L).length ((L).map (.int .i64))]) := by
  refine pcalls_of_code (n := 5) az Tryd.func61 (by kernel_rfl) rfl rfl (Nat.le_of_ble_eq_true rfl) (by intro t u h; simp [Tryd.f61] at h) ?_
  refine code_seq (fun K1 hK1 => ?_)
  refine code_region ?_
  refine list_cons rfl (op_q (q_assign rfl (by decide)) ?_)
  refine list_nil ?_
  refine hK1 _ ?_; clear hK1 K1
  refine code_seq (fun K2 hK2 => ?_)
  refine code_region ?_
  refine list_cons rfl (op_q (q_move rfl (by decide)) ?_)
  refine list_cons rfl (op_callN (ss := [.val (.cst 0), _]) (appendSeq_c f z caps L hL hit) (pvsN_c (pvsN_x rfl rfl pvsN_nil)) (by decide) (by decide) (by decide) rfl ?_)
  rintro _ _ rfl
  refine list_cons rfl (op_q (q_assign rfl (by decide)) ?_)
  refine list_nil ?_
  refine hK2 _ ?_; clear hK2 K2
  refine codeT.imp (σ' := [(0, _), (2, _)]) ?_ (imp_covers ⟨rfl, rfl, trivial⟩)
  refine code_ret ?_
  refine ends_ret (cs := []) rfl rfl rfl rfl trivial ?_
  rfl

set_option maxRecDepth 8000 in
set_option maxHeartbeats 2000000 in
theorem timesFrom_it (a : Int) (ha : TmP a) (f : FuncId) (fc : List PV) (p : Int → Prop) [DecidablePred p] (hf : ∀ t, TmP t → PCalls Tryd.prog f (.int .i64 t :: fc) (· = [.val (.bool (decide (p t)))])) : ITer Tryd.prog 60 [.ptr [.int .i64 a], .ptr [.clo f fc]] ((selF a p 1440).length) (fun i => [.int .i64 ((selF a p 1440).getD i 0)]) := by
  refine iter_of_code (n := 22) Tryd.func60 (by kernel_rfl) rfl rfl (Nat.le_of_ble_eq_true rfl) rfl (fun Y hYN hYe => ?_)
  have ha0 := ha.1
  have ha1 := ha.2
  refine codeY_imp (σ' := [(0, _), (1, _), (2, _)]) rfl (imp_covers ⟨rfl, rfl, rfl, trivial⟩) ?_
  refine codeY_seq (fun K1 hK1 => ?_)
  refine codeY_of rfl rfl ?_
  refine code_region ?_
  refine list_cons rfl (op_q (q_move rfl (by decide)) ?_)
  refine list_nil ?_
  refine thy_n ?_
  refine hK1 _ _ ?_; clear hK1 K1
  refine codeY_imp (σ' := [(0, _), (1, _), (2, _), (6, _)]) rfl (imp_covers ⟨rfl, rfl, rfl, rfl, trivial⟩) ?_
  refine codeY_block ?_
  refine codeY_loop (X := Int) (fun x => [(0, .yld Y.l), (1, .rpar 1 [.int .i64 a]), (2, .rpar 2 [.clo f fc]), (6, .val (.int .i64 x))]) (fun x => (false, (selF a p x.toNat).length)) (fun x => 0 ≤ x ∧ x ≤ 1440) (fun x => (1440 - x).toNat) (_) rfl (imp_covers ⟨rfl, rfl, rfl, rfl, trivial⟩) rfl ?_ ?_
  · (try dsimp only)
    exact ⟨by omega, by omega⟩
  · intro x hI
    revert hI; revert x; intro t6 hI
    replace hI : 0 ≤ t6 ∧ t6 ≤ 1440 := hI
    show codeY _ _ _ [(0, .yld Y.l), (1, .rpar 1 [.int .i64 a]), (2, .rpar 2 [.clo f fc]), (6, .val (.int .i64 t6))] (false, (selF a p t6.toNat).length) _
    obtain ⟨i1, i2⟩ := hI
    refine codeY_seq (fun K2 hK2 => ?_)
    refine codeY_of rfl rfl ?_
    refine code_region ?_
    refine list_cons rfl (op_q (q_lt rfl rfl (by decide)) ?_)
    refine list_nil ?_
    refine thy_n ?_
    refine hK2 _ _ ?_; clear hK2 K2
    refine codeY_imp (σ' := [(0, _), (1, _), (2, _), (6, _), (7, _)]) rfl (imp_covers ⟨rfl, rfl, rfl, rfl, rfl, trivial⟩) ?_
    refine codeY_seq (fun K3 hK3 => ?_)
    refine codeY_of rfl rfl ?_
    refine code_cond_d rfl (fun h1 => ?_) (fun h1 => ?_)
    · skip
      (try simp only [Decidable.not_not] at h1); (try have hlt := (selF_at (k := 1440) (p := p) i1 (by omega) h1).1)
      refine code_skip ?_
      refine thy_n ?_
      refine hK3 _ _ ?_; clear hK3 K3
      refine codeY_imp (σ' := [(0, _), (1, _), (2, _), (6, _)]) rfl (imp_covers ⟨rfl, rfl, rfl, rfl, trivial⟩) ?_
      refine codeY_seq (fun K4 hK4 => ?_)
      refine codeY_block ?_
      refine codeY_seq (fun K5 hK5 => ?_)
      refine codeY_of rfl rfl ?_
      refine code_region ?_
      refine list_cons rfl (op_q (q_move rfl (by decide)) ?_)
      refine list_cons rfl (op_q (q_assign rfl (by decide)) ?_)
      refine list_nil ?_
      refine thy_n ?_
      refine hK5 _ _ ?_; clear hK5 K5
      refine codeY_imp (σ' := [(0, _), (1, _), (2, _), (4, _), (6, _)]) rfl (imp_covers ⟨rfl, rfl, rfl, rfl, rfl, trivial⟩) ?_
      refine codeY_seq (fun K6 hK6 => ?_)
      refine codeY_of rfl rfl ?_
      refine code_region ?_
      refine list_cons rfl (op_q (q_load_rd one_3 rfl (.inl ⟨_, (by first | rfl | exact congrArg (SV.rpar _) (drop_map1 _ 0 _ (by first | omega | (simp; omega)))), rfl⟩) (by decide)) ?_)
      refine list_cons rfl (op_q (q_move rfl (by decide)) ?_)
      refine list_cons rfl (op_call _ (impl_laterTime _ _ (by omega) (by omega)) rfl rfl (by decide) (by decide) (by decide) rfl ?_)
      rintro _ rfl
      refine list_cons rfl (op_q (q_assign rfl (by decide)) ?_)
      refine list_nil ?_
      refine thy_n ?_
      refine hK6 _ _ ?_; clear hK6 K6
      refine codeY_imp (σ' := [(0, _), (1, _), (2, _), (4, _), (5, _), (6, _)]) rfl (imp_covers ⟨rfl, rfl, rfl, rfl, rfl, rfl, trivial⟩) ?_
      refine codeY_seq (fun K7 hK7 => ?_)
      refine codeY_region ?_
      refine listY_op rfl rfl (op_q (q_load_rdP one_24 rfl (by decide)) ?_)
      refine listY_op rfl rfl (op_q (q_move rfl (by decide)) ?_)
      refine listY_op rfl rfl (op_callV _ rfl rfl rfl rfl (pcV (hf _ (by constructor <;> omega))) (by decide) ?_)
      rintro _ rfl
      refine listY_op rfl rfl (op_q (q_move rfl (by decide)) ?_)
      refine listY_split (dj := 15) rfl (fun h2 => ?_) (fun h2 => ?_)
      · skip
        (try simp only [Decidable.not_not] at h2); (try have hlt := (selF_at (k := 1440) (p := p) i1 (by omega) h2).1)
        refine listY_guard_y rfl rfl rfl (by decide) rfl (op_q (q_move rfl (by decide)) ?_)
        refine listY_guard_y rfl rfl rfl (by decide) rfl (op_q (q_move rfl (by decide)) ?_)
        refine listY_yieldG (k := (selF a p t6.toNat).length) rfl rfl (by rw [hYe]; show some [PV.int .i64 ((a + t6) % 1440)] = some [PV.int .i64 ((selF a p 1440).getD (selF a p t6.toNat).length 0)]; rw [(selF_at (p := p) i1 (by omega) (by assumption)).2]) (by rw [hYe]; rfl) (by rw [hYN]; exact (selF_at (p := p) i1 (by omega) (by assumption)).1) rfl (by decide) (.inr ⟨_, _, _, rfl, rfl, rfl, by decide⟩) ?_ ?_
        · skip
          refine listY_guard_y rfl rfl rfl (by decide) rfl (op_q (by first | exact q_notd rfl (by decide) | exact q_not rfl (by decide)) ?_)
          refine listY_op rfl rfl (op_q (q_pick rfl rfl (by decide)) ?_)
          refine listY_nil ?_
          refine thy_n ?_
          refine hK7 _ _ ?_; clear hK7 K7
          refine codeY_imp (σ' := [(0, _), (1, _), (2, _), (4, _), (5, _), (6, _), (20, _)]) rfl (imp_covers ⟨rfl, rfl, rfl, rfl, rfl, rfl, rfl, trivial⟩) ?_
          refine codeY_of rfl rfl ?_
          refine code_cond_f rfl ?_
          refine code_skip ?_
          refine bly_n ?_
          refine thy_n ?_
          refine hK4 _ _ ?_; clear hK4 K4
          refine codeY_imp (σ' := [(0, _), (1, _), (2, _), (4, _), (5, _), (6, _)]) rfl (imp_covers ⟨rfl, rfl, rfl, rfl, rfl, rfl, trivial⟩) ?_
          refine codeY_of rfl rfl ?_
          refine code_region ?_
          refine list_cons rfl (op_q (by first | exact q_addI rfl rfl (by decide) (by omega) (by omega) | exact q_ib rfl rfl rfl (by decide)) ?_)
          refine list_cons rfl (op_q (q_move rfl (by decide)) ?_)
          refine list_nil ?_
          refine thy_n ⟨(_), rfl, imp_covers ⟨rfl, rfl, rfl, rfl, trivial⟩, ?_, ?_, ?_⟩
          · first | (rw [selF_yes i1 (by assumption), List.length_append]; rfl) | (rw [selF_no i1 (by assumption)]; done)
          · (try dsimp only)
            exact ⟨by omega, by omega⟩
          · (try dsimp only); omega
        · skip
          refine listY_guard_y rfl rfl rfl (by decide) rfl (op_q (by first | exact q_notd rfl (by decide) | exact q_not rfl (by decide)) ?_)
          refine listY_op rfl rfl (op_q (q_pick rfl rfl (by decide)) ?_)
          refine listY_nil ?_
          refine thy_n ?_
          refine hK7 _ _ ?_; clear hK7 K7
          refine codeY_imp (σ' := [(0, _), (1, _), (2, _), (4, _), (5, _), (6, _), (20, _)]) rfl (imp_covers ⟨rfl, rfl, rfl, rfl, rfl, rfl, rfl, trivial⟩) ?_
          refine codeY_of rfl rfl ?_
          refine code_cond_t rfl ?_
          refine code_ret ?_
          refine bly_r ?_
          refine thy_r ?_
          refine thy_r ?_
          refine bly_r ?_
          exact ⟨.inr rfl, .inl ⟨rfl, by (try dsimp only); omega⟩⟩
      · skip
        (try simp only [Decidable.not_not] at h2); (try have hlt := (selF_at (k := 1440) (p := p) i1 (by omega) h2).1)
        refine listY_guard_n rfl rfl rfl rfl (by decide) (by decide) ?_
        refine listY_guard_n rfl rfl rfl rfl (by decide) (by decide) ?_
        refine listY_guard_n rfl rfl rfl rfl (by decide) (by decide) ?_
        refine listY_guard_n rfl rfl rfl rfl (by decide) (by decide) ?_
        refine listY_op rfl rfl (op_q (q_pick rfl rfl (by decide)) ?_)
        refine listY_nil ?_
        refine thy_n ?_
        refine hK7 _ _ ?_; clear hK7 K7
        refine codeY_imp (σ' := [(0, _), (1, _), (2, _), (4, _), (5, _), (6, _), (20, _)]) rfl (imp_covers ⟨rfl, rfl, rfl, rfl, rfl, rfl, rfl, trivial⟩) ?_
        refine codeY_of rfl rfl ?_
        refine code_cond_f rfl ?_
        refine code_skip ?_
        refine bly_n ?_
        refine thy_n ?_
        refine hK4 _ _ ?_; clear hK4 K4
        refine codeY_imp (σ' := [(0, _), (1, _), (2, _), (4, _), (5, _), (6, _)]) rfl (imp_covers ⟨rfl, rfl, rfl, rfl, rfl, rfl, trivial⟩) ?_
        refine codeY_of rfl rfl ?_
        refine code_region ?_
        refine list_cons rfl (op_q (by first | exact q_addI rfl rfl (by decide) (by omega) (by omega) | exact q_ib rfl rfl rfl (by decide)) ?_)
        refine list_cons rfl (op_q (q_move rfl (by decide)) ?_)
        refine list_nil ?_
        refine thy_n ⟨(_), rfl, imp_covers ⟨rfl, rfl, rfl, rfl, trivial⟩, ?_, ?_, ?_⟩
        · first | (rw [selF_yes i1 (by assumption), List.length_append]; rfl) | (rw [selF_no i1 (by assumption)]; done)
        · (try dsimp only)
          exact ⟨by omega, by omega⟩
        · (try dsimp only); omega
    (try simp only [Decidable.not_not] at h1); (try have hlt := (selF_at (k := 1440) (p := p) i1 (by omega) h1).1)
    refine code_exit ?_
    refine thy_x ?_; clear hK3 K3
    refine thy_x ?_
    refine bly_hit ?_
    exact ⟨.inl rfl, .inr (by rw [show t6.toNat = 1440 by omega])⟩

set_option maxRecDepth 4000 in
theorem timesFrom_0 (a : Int) (f : FuncId) : PCalls Tryd.prog 34 [.int .i64 a, .clo f []] (· = [.frz 0 (.clo 60 [.ptr [.int .i64 a], .ptr [.clo f []]])]) := by
  refine pcalls_of_code (n := 6) az Tryd.func34 (by kernel_rfl) rfl rfl (Nat.le_of_ble_eq_true rfl) (by intro t u h; simp [Tryd.f34] at h) ?_
  refine code_seq (fun K1 hK1 => ?_)
  refine code_region ?_
  refine list_cons rfl (op_box rfl (.inl ⟨rfl, rfl⟩) (by decide) (by decide) rfl ?_)
  refine list_cons rfl (op_box rfl (.inl ⟨rfl, rfl⟩) (by decide) (by decide) rfl ?_)
  refine list_cons rfl (op_q (q_deadconst (by decide)) ?_)
  refine list_nil ?_
  refine hK1 _ ?_; clear hK1 K1
  refine code_seq (fun K2 hK2 => ?_)
  refine code_region ?_
  refine list_cons rfl (op_makeFunc (xs := [.tmp 2, .tmp 3]) rfl rfl rfl (by decide) (by decide) rfl ?_)
  refine list_cons rfl (op_q (q_assign rfl (by decide)) ?_)
  refine list_nil ?_
  refine hK2 _ ?_; clear hK2 K2
  refine codeT.imp (σ' := [(0, _), (1, _), (2, _), (3, _), (4, _)]) ?_ (imp_covers ⟨rfl, rfl, rfl, rfl, rfl, trivial⟩)
  refine code_ret ?_
  refine ends_ret (cs := []) rfl rfl rfl rfl trivial ?_
  rfl

set_option maxRecDepth 4000 in
theorem timesFrom_B (a : Int) (f : FuncId) (z caps : List PV) : MCalls Tryd.prog 34 true none [.int .i64 a, .clo f (.ptr z :: caps)] (fun rs _ => rs = [.bor 0 (.clo 60 [.ptr [.int .i64 a], .ptr [.clo f (.ptr z :: caps)]])]) := by
  refine mcalls_of_code (n := 6) az Tryd.func34 (by kernel_rfl) rfl rfl (Nat.le_of_ble_eq_true rfl) (by intro t u h; simp [Tryd.f34] at h) ?_
  refine code_seq (fun K1 hK1 => ?_)
  refine code_region ?_
  refine list_cons rfl (op_box rfl (.inl ⟨rfl, rfl⟩) (by decide) (by decide) rfl ?_)
  refine list_cons rfl (op_box rfl (.inr rfl) (by decide) (by decide) rfl ?_)
  refine list_cons rfl (op_q (q_deadconst (by decide)) ?_)
  refine list_nil ?_
  refine hK1 _ ?_; clear hK1 K1
  refine code_seq (fun K2 hK2 => ?_)
  refine code_region ?_
  refine list_cons rfl (op_makeFuncB (xs := [.tmp 2, .tmp 3]) rfl rfl rfl (by decide) (by decide) rfl ?_)
  refine list_cons rfl (op_q (q_assign rfl (by decide)) ?_)
  refine list_nil ?_
  refine hK2 _ ?_; clear hK2 K2
  refine codeT.imp (σ' := [(0, _), (1, _), (2, _), (3, _), (4, _)]) ?_ (imp_covers ⟨rfl, rfl, rfl, rfl, rfl, trivial⟩)
  refine code_ret ?_
  refine ends_ret (cs := []) rfl rfl rfl rfl trivial ?_
  rfl

set_option maxRecDepth 8000 in
set_option maxHeartbeats 2000000 in
theorem timesThat_0 (f : FuncId) (p : Int → Prop) [DecidablePred p] (hf : ∀ t, TmP t → PCalls Tryd.prog f (.int .i64 t :: []) (· = [.val (.bool (decide (p t)))])) : PCalls Tryd.prog 37 [.clo f []] (· = [.own 0 3 1 (selF 0 p 1440).length ((selF 0 p 1440).map (.int .i64))]) := by
  refine pcalls_of_code (n := 6) az Tryd.func37 (by kernel_rfl) rfl rfl (Nat.le_of_ble_eq_true rfl) (by intro t u h; simp [Tryd.f37] at h) ?_
  refine code_seq (fun K1 hK1 => ?_)
  refine code_region ?_
  refine list_cons rfl (op_q (q_assign rfl (by decide)) ?_)
  refine list_nil ?_
  refine hK1 _ ?_; clear hK1 K1
  refine code_seq (fun K2 hK2 => ?_)
  refine code_region ?_
  refine list_cons rfl (op_q (q_move rfl (by decide)) ?_)
  refine list_cons rfl (op_call _ (timesFrom_0 0 f) rfl rfl (by decide) (by decide) (by decide) rfl ?_)
  rintro _ rfl
  refine listT.imp ?_ imp_unfrz
  refine list_cons rfl (op_call _ (collect_c 60 [.int .i64 0] [.ptr [.clo f []]] (selF 0 p 1440) (selF_len _ _ _) (timesFrom_it 0 ⟨by decide, by decide⟩ f [] p hf)) rfl rfl (by decide) (by decide) (by decide) rfl ?_)
  rintro _ rfl
  refine list_cons rfl (op_q (q_assign rfl (by decide)) ?_)
  refine list_nil ?_
  refine hK2 _ ?_; clear hK2 K2
  refine codeT.imp (σ' := [(0, _), (2, _)]) ?_ (imp_covers ⟨rfl, rfl, trivial⟩)
  refine code_ret ?_
  refine ends_ret (cs := []) rfl rfl rfl rfl trivial ?_
  rfl

set_option maxRecDepth 8000 in
set_option maxHeartbeats 2000000 in
theorem timesThat_B (f : FuncId) (z caps : List PV) (p : Int → Prop) [DecidablePred p] (hf : ∀ t, TmP t → PCalls Tryd.prog f (.int .i64 t :: (.ptr z :: caps)) (· = [.val (.bool (decide (p t)))])) : MCalls Tryd.prog 37 true none [.clo f (.ptr z :: caps)] (fun rs _ => rs = [.own 0 3 1 (selF 0 p 1440).length ((selF 0 p 1440).map (.int .i64))]) := by
  refine mcalls_of_code (n := 6) az Tryd.func37 (by kernel_rfl) rfl rfl (Nat.le_of_ble_eq_true rfl) (by intro t u h; simp [Tryd.f37] at h) ?_
  refine code_seq (fun K1 hK1 => ?_)
  refine code_region ?_
  refine list_cons rfl (op_q (q_assign rfl (by decide)) ?_)
  refine list_nil ?_
  refine hK1 _ ?_; clear hK1 K1
  refine code_seq (fun K2 hK2 => ?_)
  refine code_region ?_
  refine list_cons rfl (op_q (q_move rfl (by decide)) ?_)
  refine list_cons rfl (op_callM (timesFrom_B 0 f z caps) (.tmp 0) 0 [] [_, .tmp 3] _ rfl rfl (by intro y hy; cases hy) (by decide) (by decide) (by decide) rfl (by intro h; cases h) ?_)
  rintro _ _ rfl
  refine list_cons rfl (op_call _ (collect_c 60 [.int .i64 0] [.ptr [.clo f (.ptr z :: caps)]] (selF 0 p 1440) (selF_len _ _ _) (timesFrom_it 0 ⟨by decide, by decide⟩ f (.ptr z :: caps) p hf)) rfl rfl (by decide) (by decide) (by decide) rfl ?_)
  rintro _ rfl
  refine list_cons rfl (op_q (q_assign rfl (by decide)) ?_)
  refine list_nil ?_
  refine hK2 _ ?_; clear hK2 K2
  refine codeT.imp (σ' := [(0, _), (2, _)]) ?_ (imp_covers ⟨rfl, rfl, trivial⟩)
  refine code_ret ?_
  refine ends_ret (cs := []) rfl rfl rfl rfl trivial ?_
  rfl

theorem selF_TM (a : Int) : selF a (fun t => TmP t ∧ MirP t) 1440 = selF a MirP 1440 := by
  unfold selF
  apply List.filter_congr
  intro t ht
  obtain ⟨j, _, rfl⟩ := List.mem_map.1 ht
  exact decide_eq_decide.mpr ⟨fun k => k.2, fun k => ⟨⟨by omega, by omega⟩, k⟩⟩
theorem mirs_it (a : Int) (ha : TmP a) : ITer Tryd.prog 60 [.ptr [.int .i64 a], .ptr [.clo 35 []]] (selF a MirP 1440).length (fun i => [.int .i64 ((selF a MirP 1440).getD i 0)]) := by
  have h := timesFrom_it a ha 35 [] (fun t => TmP t ∧ MirP t) (fun t _ => hasMirror_c t)
  rw [selF_TM a] at h
  exact h

set_option maxRecDepth 8000 in
set_option maxHeartbeats 2000000 in
theorem impl_WaitForMirror (t : Int) : PCalls Tryd.prog 12 [.int .i64 t] (· = [.val (.int .i64 (if TmP t then ((waitN t : Nat) : Int) else 0)), .val (.bool (decide (TmP t)))]) := by
  refine pcalls_of_code (n := 14) az Tryd.func12 (by kernel_rfl) rfl rfl (Nat.le_of_ble_eq_true rfl) (by intro t u h; simp [Tryd.f12] at h; rcases h with ⟨_, rfl⟩ | ⟨_, rfl⟩ <;> first | exact resTy_one (one_3).1 rfl | exact resTy_one (one_4).1 rfl) ?_
  refine code_seq (fun K1 hK1 => ?_)
  refine code_region ?_
  refine list_cons rfl (op_box rfl (.inl ⟨rfl, rfl⟩) (by decide) (by decide) rfl ?_)
  refine list_cons rfl (op_alloc zt_3 (by decide) (by decide) rfl ?_)
  refine list_cons rfl (op_alloc zt_4 (by decide) (by decide) rfl ?_)
  refine list_nil ?_
  refine hK1 _ ?_; clear hK1 K1
  refine code_seq (fun K2 hK2 => ?_)
  refine code_seq (fun K3 hK3 => ?_)
  refine code_region ?_
  refine list_cons rfl (op_q (q_load_box1 one_3 rfl rfl (by decide)) ?_)
  refine list_cons rfl (op_call _ (impl_isTime _) rfl rfl (by decide) (by decide) (by decide) rfl ?_)
  rintro _ rfl
  refine list_cons rfl (op_q (by first | exact q_notd rfl (by decide) | exact q_not rfl (by decide)) ?_)
  refine list_nil ?_
  refine hK3 _ ?_; clear hK3 K3
  refine codeT.imp (σ' := [(0, _), (1, _), (2, _), (3, _), (7, _)]) ?_ (imp_covers ⟨rfl, rfl, rfl, rfl, rfl, trivial⟩)
  refine code_cond_d rfl (fun h1 => ?_) (fun h1 => ?_)
  · skip
    (try simp only [Decidable.not_not] at h1); (try have hT1 := (h1 : TmP t).1; have hT2 := (h1 : TmP t).2)
    refine code_seq (fun K4 hK4 => ?_)
    refine code_region ?_
    refine list_cons rfl (op_store (one_3).2 2 [2] (by intro t ht; simp only [List.mem_cons, List.not_mem_nil, or_false] at ht; subst ht; rfl) (.inr ⟨rfl, _, rfl⟩) rfl rfl rfl rfl rfl rfl (by first | decide | omega | exact Nat.le_refl _ | (simp; done) | (simp; omega)) (by decide) rfl ?_)
    refine list_cons rfl (op_store (one_4).2 3 [3] (by intro t ht; simp only [List.mem_cons, List.not_mem_nil, or_false] at ht; subst ht; rfl) (.inr ⟨rfl, _, rfl⟩) rfl rfl rfl rfl rfl rfl (by first | decide | omega | exact Nat.le_refl _ | (simp; done) | (simp; omega)) (by decide) rfl ?_)
    refine list_nil ?_
    refine hK4 _ ?_; clear hK4 K4
    refine codeT.imp (σ' := [(0, _), (1, _), (2, _), (3, _)]) ?_ (imp_covers ⟨rfl, rfl, rfl, rfl, trivial⟩)
    refine code_ret ?_
    refine then_r ?_; clear hK2 K2
    refine ends_ret (cs := []) rfl rfl rfl rfl trivial ?_
    first
      | (have e : ¬ TmP t := (by assumption)
         rw [if_neg e, decide_eq_false e]; done)
      | (rw [if_pos hT, decide_eq_true hT, ← (wait_first hT).2]; done)
      | (exfalso; have hw := (wait_first hT).1; omega)
  (try simp only [Decidable.not_not] at h1); (try have hT1 := (h1 : TmP t).1; have hT2 := (h1 : TmP t).2)
  refine code_skip ?_
  refine hK2 _ ?_; clear hK2 K2
  refine code_seq (fun K5 hK5 => ?_)
  refine code_seq (fun K6 hK6 => ?_)
  refine code_region ?_
  refine list_cons rfl (op_q (q_load_box1 one_3 rfl rfl (by decide)) ?_)
  refine list_cons rfl (op_call _ (timesFrom_0 t 35) rfl rfl (by decide) (by decide) (by decide) rfl ?_)
  rintro _ rfl
  refine listT.imp ?_ imp_unfrz
  refine list_nil ?_
  refine hK6 _ ?_; clear hK6 K6
  refine codeT.imp (σ' := [(0, _), (1, _), (2, _), (3, _), (9, _)]) ?_ (imp_covers ⟨rfl, rfl, rfl, rfl, rfl, trivial⟩)
  refine code_block ?_
  have hT : TmP t := (by assumption)
  refine code_rangeFunc (mirs_it t hT) ((fun (s0 s1 s2 s3 : SV) (i : Nat) => ([(0, s0), (1, s1), (2, s2), (3, s3)] : St)) _ _ _ _) (fun i => i = 0) (rfl) rfl rfl rfl (by decide) rfl (fun _ _ => ⟨rfl, rfl⟩) (fun _ => rfl) rfl rfl (imp_covers ⟨rfl, rfl, rfl, rfl, trivial⟩) (fun i hi hIi => ?_) (fun hIi => ?_)
  · intro K7 hK7
    refine codeT.imp (σ' := [(10, .val (.int .i64 ((selF t MirP 1440).getD i 0))), (0, _), (1, _), (2, _), (3, _)]) ?_ (imp_covers ⟨rfl, rfl, rfl, rfl, rfl, trivial⟩)
    subst hIi
    have hg := selF_get hi
    refine code_region ?_
    refine list_cons rfl (op_q (q_assign rfl (by decide)) ?_)
    refine list_nil ?_
    refine hK7 _ rfl ?_; clear hK7 K7
    refine codeT.imp (σ' := [(0, _), (1, _), (2, _), (3, _), (4, _), (10, _)]) ?_ (imp_covers ⟨rfl, rfl, rfl, rfl, rfl, rfl, trivial⟩)
    refine code_block ?_
    refine code_seq (fun K8 hK8 => ?_)
    refine code_region ?_
    refine list_cons rfl (op_q (q_load_box1 one_3 rfl rfl (by decide)) ?_)
    refine list_cons rfl (op_q (q_move rfl (by decide)) ?_)
    refine list_cons rfl (op_call _ (impl_minutesBetween t ((selF t MirP 1440).getD 0 0) (by omega) (by omega)) rfl rfl (by decide) (by decide) (by decide) rfl ?_)
    rintro _ rfl
    refine list_cons rfl (op_store (one_3).2 2 [2] (by intro t ht; simp only [List.mem_cons, List.not_mem_nil, or_false] at ht; subst ht; rfl) (.inr ⟨rfl, _, rfl⟩) rfl rfl rfl rfl rfl rfl (by first | decide | omega | exact Nat.le_refl _ | (simp; done) | (simp; omega)) (by decide) rfl ?_)
    refine list_cons rfl (op_store (one_4).2 3 [3] (by intro t ht; simp only [List.mem_cons, List.not_mem_nil, or_false] at ht; subst ht; rfl) (.inr ⟨rfl, _, rfl⟩) rfl rfl rfl rfl rfl rfl (by first | decide | omega | exact Nat.le_refl _ | (simp; done) | (simp; omega)) (by decide) rfl ?_)
    refine list_nil ?_
    refine hK8 _ ?_; clear hK8 K8
    refine codeT.imp (σ' := [(0, _), (1, _), (2, _), (3, _), (4, _), (10, _)]) ?_ (imp_covers ⟨rfl, rfl, rfl, rfl, rfl, rfl, trivial⟩)
    refine code_ret ?_
    refine blk_r ?_
    refine rp_ret [(0, _), (1, _), (2, _), (3, _)] (imp_covers ⟨rfl, rfl, rfl, rfl, trivial⟩) rfl ?_
    refine blk_r ?_
    refine then_r ?_; clear hK5 K5
    refine ends_ret (cs := []) rfl rfl rfl rfl trivial ?_
    first
      | (have e : ¬ TmP t := (by assumption)
         rw [if_neg e, decide_eq_false e]; done)
      | (rw [if_pos hT, decide_eq_true hT, ← (wait_first hT).2]; done)
      | (exfalso; have hw := (wait_first hT).1; omega)
  · skip
    refine blk_n ?_
    refine hK5 _ ?_; clear hK5 K5
    refine codeT.imp (σ' := [(0, _), (1, _), (2, _), (3, _)]) ?_ (imp_covers ⟨rfl, rfl, rfl, rfl, trivial⟩)
    refine code_seq (fun K9 hK9 => ?_)
    refine code_region ?_
    refine list_cons rfl (op_store (one_3).2 2 [2] (by intro t ht; simp only [List.mem_cons, List.not_mem_nil, or_false] at ht; subst ht; rfl) (.inr ⟨rfl, _, rfl⟩) rfl rfl rfl rfl rfl rfl (by first | decide | omega | exact Nat.le_refl _ | (simp; done) | (simp; omega)) (by decide) rfl ?_)
    refine list_cons rfl (op_store (one_4).2 3 [3] (by intro t ht; simp only [List.mem_cons, List.not_mem_nil, or_false] at ht; subst ht; rfl) (.inr ⟨rfl, _, rfl⟩) rfl rfl rfl rfl rfl rfl (by first | decide | omega | exact Nat.le_refl _ | (simp; done) | (simp; omega)) (by decide) rfl ?_)
    refine list_nil ?_
    refine hK9 _ ?_; clear hK9 K9
    refine codeT.imp (σ' := [(0, _), (1, _), (2, _), (3, _)]) ?_ (imp_covers ⟨rfl, rfl, rfl, rfl, trivial⟩)
    refine code_ret ?_
    refine ends_ret (cs := []) rfl rfl rfl rfl trivial ?_
    first
      | (have e : ¬ TmP t := (by assumption)
         rw [if_neg e, decide_eq_false e]; done)
      | (rw [if_pos hT, decide_eq_true hT, ← (wait_first hT).2]; done)
      | (exfalso; have hw := (wait_first hT).1; omega)

set_option maxRecDepth 4000 in
theorem apart1_c (t m : Int) (h : TmP t) (hm : TmP m) : PCalls Tryd.prog 38 [.int .i64 t, .ptr [.int .i64 m]] (· = [.val (.bool (decide ((TmP t ∧ MirP t) ∧ mirT t = (t + m) % 1440)))]) := by
  refine pcalls_of_code (n := 9) az Tryd.func38 (by kernel_rfl) rfl rfl (Nat.le_of_ble_eq_true rfl) (by intro t u h; simp [Tryd.f38] at h) ?_
  refine codeT.imp ?_ (imp_rpar (s := 1) (i := 1) rfl)
  have ht0 := h.1
  have ht1 := h.2
  have hm0 := hm.1
  have hm1 := hm.2
  refine code_seq (fun K1 hK1 => ?_)
  refine code_region ?_
  refine list_cons rfl (op_q (q_assign rfl (by decide)) ?_)
  refine list_nil ?_
  refine hK1 _ ?_; clear hK1 K1
  refine code_seq (fun K2 hK2 => ?_)
  refine code_region ?_
  refine list_cons rfl (op_q (q_move rfl (by decide)) ?_)
  refine list_cons rfl (op_q (q_move rfl (by decide)) ?_)
  refine list_cons rfl (op_q (q_load_rd one_3 rfl (.inl ⟨_, (by first | rfl | exact congrArg (SV.rpar _) (drop_map1 _ 0 _ (by first | omega | (simp; omega)))), rfl⟩) (by decide)) ?_)
  refine list_cons rfl (op_call _ (impl_laterTime _ _ (by omega) (by omega)) rfl rfl (by decide) (by decide) (by decide) rfl ?_)
  rintro _ rfl
  refine list_cons rfl (op_call _ (gives_c 40 t ((t + m) % 1440) (if TmP t ∧ MirP t then mirT t else 0) (TmP t ∧ MirP t) (impl_MirrorTime t)) rfl rfl (by decide) (by decide) (by decide) rfl ?_)
  rintro _ rfl
  refine list_cons rfl (op_q (q_assign rfl (by decide)) ?_)
  refine list_nil ?_
  refine hK2 _ ?_; clear hK2 K2
  refine codeT.imp (σ' := [(0, _), (1, _), (3, _)]) ?_ (imp_covers ⟨rfl, rfl, rfl, trivial⟩)
  refine code_ret ?_
  refine ends_ret (cs := []) rfl rfl rfl rfl trivial ?_
  congr 3; exact decide_eq_decide.mpr ⟨fun k => ⟨k.1, by have k2 := k.2; rwa [if_pos k.1] at k2⟩, fun k => ⟨k.1, by rw [if_pos k.1]; exact k.2⟩⟩

set_option maxRecDepth 8000 in
set_option maxHeartbeats 2000000 in
theorem impl_ApartInMirror (m : Int) : PCalls Tryd.prog 14 [.int .i64 m] (· = [.own 0 3 1 (if TmP m then selK (apP m) 1440 else []).length ((if TmP m then selK (apP m) 1440 else []).map (.int .i64)), .val (.bool (decide (TmP m)))]) := by
  refine pcalls_of_code (n := 13) az Tryd.func14 (by kernel_rfl) rfl rfl (Nat.le_of_ble_eq_true rfl) (by intro t u h; simp [Tryd.f14] at h) ?_
  refine code_seq (fun K1 hK1 => ?_)
  refine code_region ?_
  refine list_cons rfl (op_box rfl (.inl ⟨rfl, rfl⟩) (by decide) (by decide) rfl ?_)
  refine list_cons rfl (op_q (q_assign rfl (by decide)) ?_)
  refine list_cons rfl (op_q (q_assign rfl (by decide)) ?_)
  refine list_nil ?_
  refine hK1 _ ?_; clear hK1 K1
  refine code_seq (fun K2 hK2 => ?_)
  refine code_seq (fun K3 hK3 => ?_)
  refine code_region ?_
  refine list_cons rfl (op_q (q_load_box1 one_3 rfl rfl (by decide)) ?_)
  refine list_cons rfl (op_q (q_lt rfl rfl (by decide)) ?_)
  refine list_cons rfl (op_q (q_move rfl (by decide)) ?_)
  refine list_guard_d rfl rfl rfl rfl (by decide) rfl (by decide) (fun h1 => ?_) (fun h1 => ?_)
  · simp only [Bool.false_eq_true, if_true, if_false, Decidable.not_not] at h1
    refine id (op_q (q_load_box1 one_3 rfl rfl (by decide)) ?_)
    refine list_guard_y rfl rfl rfl rfl (by decide) rfl ?_
    refine id (op_q (q_ge rfl rfl (by decide)) ?_)
    refine list_cons rfl (op_q (q_pick rfl rfl (by decide)) ?_)
    refine list_nil ?_
    refine hK3 _ ?_; clear hK3 K3
    refine code_cond_d rfl (fun h2 => ?_) (fun h2 => ?_)
    · skip
      (try simp only [Decidable.not_not] at h2)
      refine code_seq (fun K4 hK4 => ?_)
      refine code_region ?_
      refine list_cons rfl (op_buildSlice sl_25 (parts := []) rfl rfl rfl (by decide) (by decide) (by decide) rfl ?_)
      refine list_cons rfl (op_q (q_assign rfl (by decide)) ?_)
      refine list_cons rfl (op_q (q_assign rfl (by decide)) ?_)
      refine list_nil ?_
      refine hK4 _ ?_; clear hK4 K4
      refine codeT.imp (σ' := [(0, _), (1, _), (2, _), (3, _)]) ?_ (imp_covers ⟨rfl, rfl, rfl, rfl, trivial⟩)
      refine code_ret ?_
      refine then_r ?_; clear hK2 K2
      refine ends_ret (cs := []) rfl rfl rfl rfl trivial ?_
      first
        | (have e : ¬ TmP m := fun k => by have k1 := k.1; have k2 := k.2; omega
           simp only [if_neg e, decide_eq_false e]; rfl)
        | (have e : TmP m := ⟨by omega, by omega⟩
           rw [selF_K (apP m) (fun t => (TmP t ∧ MirP t) ∧ mirT t = (t + m) % 1440) 1440 (Nat.le_refl _) (fun j hj => ⟨fun k => ⟨⟨⟨by omega, by omega⟩, k.1⟩, k.2⟩, fun k => ⟨k.1.2, k.2⟩⟩)]
           simp only [if_pos e, decide_eq_true e]; done)
    (try simp only [Decidable.not_not] at h2)
    refine code_skip ?_
    refine hK2 _ ?_; clear hK2 K2
    refine code_seq (fun K5 hK5 => ?_)
    refine code_region ?_
    refine list_cons rfl (op_makeFunc (xs := [.tmp 1]) rfl rfl rfl (by decide) (by decide) rfl ?_)
    refine list_cons rfl (op_callM (timesThat_B 38 [.int .i64 m] [] (fun t => (TmP t ∧ MirP t) ∧ mirT t = (t + m) % 1440) (fun t h => apart1_c t m h ⟨by omega, by omega⟩)) (.tmp 0) 0 [] [.tmp 11] _ rfl rfl (by intro y hy; cases hy) (by decide) (by decide) (by decide) rfl (by intro h; cases h) ?_)
    rintro _ _ rfl
    refine list_cons rfl (op_q (q_assign rfl (by decide)) ?_)
    refine list_cons rfl (op_q (q_assign rfl (by decide)) ?_)
    refine list_nil ?_
    refine hK5 _ ?_; clear hK5 K5
    refine codeT.imp (σ' := [(0, _), (1, _), (2, _), (3, _)]) ?_ (imp_covers ⟨rfl, rfl, rfl, rfl, trivial⟩)
    refine code_ret ?_
    refine ends_ret (cs := []) rfl rfl rfl rfl trivial ?_
    first
      | (have e : ¬ TmP m := fun k => by have k1 := k.1; have k2 := k.2; omega
         simp only [if_neg e, decide_eq_false e]; rfl)
      | (have e : TmP m := ⟨by omega, by omega⟩
         rw [selF_K (apP m) (fun t => (TmP t ∧ MirP t) ∧ mirT t = (t + m) % 1440) 1440 (Nat.le_refl _) (fun j hj => ⟨fun k => ⟨⟨⟨by omega, by omega⟩, k.1⟩, k.2⟩, fun k => ⟨k.1.2, k.2⟩⟩)]
         simp only [if_pos e, decide_eq_true e]; done)
  simp only [Bool.false_eq_true, if_true, if_false, Decidable.not_not] at h1
  refine list_guard_n rfl rfl rfl rfl (by decide) rfl ?_
  refine list_cons rfl (op_q (q_pick rfl rfl (by decide)) ?_)
  refine list_nil ?_
  refine hK3 _ ?_; clear hK3 K3
  refine code_cond_t rfl ?_
  refine code_seq (fun K6 hK6 => ?_)
  refine code_region ?_
  refine list_cons rfl (op_buildSlice sl_25 (parts := []) rfl rfl rfl (by decide) (by decide) (by decide) rfl ?_)
  refine list_cons rfl (op_q (q_assign rfl (by decide)) ?_)
  refine list_cons rfl (op_q (q_assign rfl (by decide)) ?_)
  refine list_nil ?_
  refine hK6 _ ?_; clear hK6 K6
  refine code_ret ?_
  refine then_r ?_; clear hK2 K2
  refine ends_ret (cs := []) rfl rfl rfl rfl trivial ?_
  first
    | (have e : ¬ TmP m := fun k => by have k1 := k.1; have k2 := k.2; omega
       simp only [if_neg e, decide_eq_false e]; rfl)
    | (have e : TmP m := ⟨by omega, by omega⟩
       rw [selF_K (apP m) (fun t => (TmP t ∧ MirP t) ∧ mirT t = (t + m) % 1440) 1440 (Nat.le_refl _) (fun j hj => ⟨fun k => ⟨⟨⟨by omega, by omega⟩, k.1⟩, k.2⟩, fun k => ⟨k.1.2, k.2⟩⟩)]
       simp only [if_pos e, decide_eq_true e]; done)

set_option maxRecDepth 4000 in
theorem litAtN (t : Int) (hT : ¬ TmP t) : PCalls Tryd.prog 19 [.int .i64 t] (· = [.val (.int .i64 0), .val (.bool false)]) := by
  refine pcalls_of_code (n := 17) az Tryd.func19 (by kernel_rfl) rfl rfl (Nat.le_of_ble_eq_true rfl) (by intro t u h; simp [Tryd.f19] at h) ?_
  refine code_seq (fun K1 hK1 => ?_)
  refine code_region ?_
  refine list_cons rfl (op_q (q_assign rfl (by decide)) ?_)
  refine list_cons rfl (op_q (q_assign rfl (by decide)) ?_)
  refine list_nil ?_
  refine hK1 _ ?_; clear hK1 K1
  refine code_seq (fun K2 hK2 => ?_)
  refine code_region ?_
  refine list_cons rfl (op_q (q_move rfl (by decide)) ?_)
  refine list_cons rfl (op_call _ (impl_ClockRow t) rfl rfl (by decide) (by decide) (by decide) rfl ?_)
  rintro _ rfl; simp only [if_neg hT, decide_eq_false hT]
  refine list_cons rfl (op_q (q_move rfl (by decide)) ?_)
  refine list_cons rfl (op_q (q_extract rfl rfl (by decide)) ?_)
  refine list_cons rfl (op_q (q_extract rfl rfl (by decide)) ?_)
  refine list_cons rfl (op_q (q_assign rfl (by decide)) ?_)
  refine list_cons rfl (op_q (q_assign rfl (by decide)) ?_)
  refine list_nil ?_
  refine hK2 _ ?_; clear hK2 K2
  refine codeT.imp (σ' := [(0, _), (2, _), (3, _), (4, _), (5, _)]) ?_ (imp_covers ⟨rfl, rfl, rfl, rfl, rfl, trivial⟩)
  refine code_seq (fun K3 hK3 => ?_)
  refine code_seq (fun K4 hK4 => ?_)
  refine code_region ?_
  refine list_cons rfl (op_q (q_move rfl (by decide)) ?_)
  refine list_cons rfl (op_q (by first | exact q_notd rfl (by decide) | exact q_not rfl (by decide)) ?_)
  refine list_nil ?_
  refine hK4 _ ?_; clear hK4 K4
  refine code_cond_t rfl ?_
  refine code_seq (fun K5 hK5 => ?_)
  refine code_region ?_
  refine list_cons rfl (op_q (q_assign rfl (by decide)) ?_)
  refine list_cons rfl (op_q (q_assign rfl (by decide)) ?_)
  refine list_nil ?_
  refine hK5 _ ?_; clear hK5 K5
  refine code_ret ?_
  refine then_r ?_; clear hK3 K3
  refine ends_ret (cs := []) rfl rfl rfl rfl trivial ?_
  rfl

set_option maxRecDepth 4000 in
theorem litAtY (t : Int) (hT : TmP t) : PCalls Tryd.prog 19 [.int .i64 t] (· = [.val (.int .i64 (litF (rowT t))), .val (.bool true)]) := by
  refine pcalls_of_code (n := 17) az Tryd.func19 (by kernel_rfl) rfl rfl (Nat.le_of_ble_eq_true rfl) (by intro t u h; simp [Tryd.f19] at h) ?_
  refine code_seq (fun K1 hK1 => ?_)
  refine code_region ?_
  refine list_cons rfl (op_q (q_assign rfl (by decide)) ?_)
  refine list_cons rfl (op_q (q_assign rfl (by decide)) ?_)
  refine list_nil ?_
  refine hK1 _ ?_; clear hK1 K1
  refine code_seq (fun K2 hK2 => ?_)
  refine code_region ?_
  refine list_cons rfl (op_q (q_move rfl (by decide)) ?_)
  refine list_cons rfl (op_call _ (impl_ClockRow t) rfl rfl (by decide) (by decide) (by decide) rfl ?_)
  rintro _ rfl; simp only [if_pos hT, decide_eq_true hT]
  refine list_cons rfl (op_q (q_move rfl (by decide)) ?_)
  refine list_cons rfl (op_q (q_extract rfl rfl (by decide)) ?_)
  refine list_cons rfl (op_q (q_extract rfl rfl (by decide)) ?_)
  refine list_cons rfl (op_q (q_assign rfl (by decide)) ?_)
  refine list_cons rfl (op_q (q_assign rfl (by decide)) ?_)
  refine list_nil ?_
  refine hK2 _ ?_; clear hK2 K2
  refine codeT.imp (σ' := [(0, _), (2, _), (3, _), (4, _), (5, _)]) ?_ (imp_covers ⟨rfl, rfl, rfl, rfl, rfl, trivial⟩)
  refine code_seq (fun K3 hK3 => ?_)
  refine code_seq (fun K4 hK4 => ?_)
  refine code_region ?_
  refine list_cons rfl (op_q (q_move rfl (by decide)) ?_)
  refine list_cons rfl (op_q (by first | exact q_notd rfl (by decide) | exact q_not rfl (by decide)) ?_)
  refine list_nil ?_
  refine hK4 _ ?_; clear hK4 K4
  refine code_cond_f rfl ?_
  refine code_skip ?_
  refine hK3 _ ?_; clear hK3 K3
  refine code_seq (fun K5 hK5 => ?_)
  refine code_region ?_
  refine list_cons rfl (op_q (q_move rfl (by decide)) ?_)
  refine list_cons rfl (op_call _ (impl_LitOf (rowT t) (by rw [rowT_len]; decide)) rfl rfl (by decide) (by decide) (by decide) rfl ?_)
  rintro _ rfl; simp only [if_pos (rowT_row t), decide_eq_true (rowT_row t)]
  refine list_cons rfl (op_q (q_extract rfl rfl (by decide)) ?_)
  refine list_cons rfl (op_q (q_extract rfl rfl (by decide)) ?_)
  refine list_cons rfl (op_q (q_assign rfl (by decide)) ?_)
  refine list_cons rfl (op_q (q_assign rfl (by decide)) ?_)
  refine list_nil ?_
  refine hK5 _ ?_; clear hK5 K5
  refine codeT.imp (σ' := [(0, _), (2, _), (3, _), (4, _), (5, _)]) ?_ (imp_covers ⟨rfl, rfl, rfl, rfl, rfl, trivial⟩)
  refine code_ret ?_
  refine ends_ret (cs := []) rfl rfl rfl rfl trivial ?_
  rfl

theorem impl_LitAt (t : Int) : PCalls Tryd.prog 19 [.int .i64 t] (· = [.val (.int .i64 (if TmP t then litF (rowT t) else 0)), .val (.bool (decide (TmP t)))]) := by
  by_cases h : TmP t
  · simp only [if_pos h, decide_eq_true h]; exact litAtY t h
  · simp only [if_neg h, decide_eq_false h]; exact litAtN t h

set_option maxRecDepth 4000 in
theorem BrightestTime1_c (lit than : Int) : PCalls Tryd.prog 46 [.int .i64 lit, .int .i64 than] (· = [.val (.bool (decide (than < lit)))]) := by
  refine pcalls_of_code (n := 8) az Tryd.func46 (by kernel_rfl) rfl rfl (Nat.le_of_ble_eq_true rfl) (by intro t u h; simp [Tryd.f46] at h) ?_
  refine code_seq (fun K1 hK1 => ?_)
  refine code_region ?_
  refine list_cons rfl (op_q (q_assign rfl (by decide)) ?_)
  refine list_nil ?_
  refine hK1 _ ?_; clear hK1 K1
  refine code_seq (fun K2 hK2 => ?_)
  refine code_region ?_
  refine list_cons rfl (op_q (q_move rfl (by decide)) ?_)
  refine list_cons rfl (op_q (q_move rfl (by decide)) ?_)
  refine list_cons rfl (op_q (q_gt rfl rfl (by decide)) ?_)
  refine list_cons rfl (op_q (q_assign rfl (by decide)) ?_)
  refine list_nil ?_
  refine hK2 _ ?_; clear hK2 K2
  refine code_ret ?_
  refine ends_ret (cs := []) rfl rfl rfl rfl trivial ?_
  rfl

set_option maxRecDepth 8000 in
set_option maxHeartbeats 2000000 in
theorem first_BrightestTime  : PCalls Tryd.prog 45 [.clo 46 []] (· = [.val (.int .i64 (((brK 1439 : Nat) : Int))), .val (.int .i64 (litT (brK 1439)))]) := by
  refine pcalls_of_code (n := 35) az Tryd.func45 (by kernel_rfl) rfl rfl (Nat.le_of_ble_eq_true rfl) (by intro t u h; simp [Tryd.f45] at h) ?_
  refine code_seq (fun K1 hK1 => ?_)
  refine code_region ?_
  refine list_cons rfl (op_q (q_assign rfl (by decide)) ?_)
  refine list_cons rfl (op_q (q_assign rfl (by decide)) ?_)
  refine list_nil ?_
  refine hK1 _ ?_; clear hK1 K1
  refine code_seq (fun K2 hK2 => ?_)
  refine code_region ?_
  refine list_cons rfl (op_q (q_assign rfl (by decide)) ?_)
  refine list_nil ?_
  refine hK2 _ ?_; clear hK2 K2
  refine code_seq (fun K3 hK3 => ?_)
  refine code_region ?_
  refine list_cons rfl (op_q (q_move rfl (by decide)) ?_)
  refine list_cons rfl (op_call _ (litAtY 0 ⟨by decide, by decide⟩) rfl rfl (by decide) (by decide) (by decide) rfl ?_)
  rintro _ rfl
  refine list_cons rfl (op_q (q_move rfl (by decide)) ?_)
  refine list_cons rfl (op_q (q_extract rfl rfl (by decide)) ?_)
  refine list_cons rfl (op_q (q_extract rfl rfl (by decide)) ?_)
  refine list_cons rfl (op_q (q_assign rfl (by decide)) ?_)
  refine list_cons rfl (op_q (q_assign rfl (by decide)) ?_)
  refine list_nil ?_
  refine hK3 _ ?_; clear hK3 K3
  refine codeT.imp (σ' := [(0, _), (2, _), (3, _), (4, _), (5, _)]) ?_ (imp_covers ⟨rfl, rfl, rfl, rfl, rfl, trivial⟩)
  refine code_seq (fun K4 hK4 => ?_)
  refine code_seq (fun K5 hK5 => ?_)
  refine code_region ?_
  refine list_cons rfl (op_q (q_move rfl (by decide)) ?_)
  refine list_nil ?_
  refine hK5 _ ?_; clear hK5 K5
  refine code_block ?_
  refine code_loop (X := Int × Int × Int × Int × Int) (fun x => [(0, .val (.clo 46 [])), (2, .val (.int .i64 x.1)), (3, .val (.int .i64 x.2.1)), (4, .val (.int .i64 x.2.2.1)), (5, .val (.int .i64 x.2.2.2.1)), (15, .val (.int .i64 x.2.2.2.2))]) (fun x => 0 ≤ x.2.2.2.2 ∧ x.2.2.2.2 ≤ 1440 ∧ x.2.2.1 = ((brK (x.2.2.2.2 - 1).toNat : Nat) : Int) ∧ x.2.2.2.1 = litT (brK (x.2.2.2.2 - 1).toNat)) (fun x => (1440 - x.2.2.2.2).toNat) (_, _, _, _, _) (imp_covers ⟨rfl, rfl, rfl, rfl, rfl, rfl, trivial⟩) ?_ ?_
  · (try dsimp only)
    exact ⟨by omega, by omega, rfl, rfl⟩
  · intro x hI
    obtain ⟨t2, t3, fst0, best, t15⟩ := x
    replace hI : 0 ≤ t15 ∧ t15 ≤ 1440 ∧ fst0 = ((brK (t15 - 1).toNat : Nat) : Int) ∧ best = litT (brK (t15 - 1).toNat) := hI
    show codeT _ _ _ [(0, .val (.clo 46 [])), (2, .val (.int .i64 t2)), (3, .val (.int .i64 t3)), (4, .val (.int .i64 fst0)), (5, .val (.int .i64 best)), (15, .val (.int .i64 t15))] _
    obtain ⟨i1, i2, rfl, rfl⟩ := hI
    refine code_seq (fun K6 hK6 => ?_)
    refine code_region ?_
    refine list_cons rfl (op_q (q_lt rfl rfl (by decide)) ?_)
    refine list_nil ?_
    refine hK6 _ ?_; clear hK6 K6
    refine code_seq (fun K7 hK7 => ?_)
    refine code_cond_d rfl (fun h1 => ?_) (fun h1 => ?_)
    · skip
      (try simp only [Decidable.not_not] at h1)
      refine code_skip ?_
      refine hK7 _ ?_; clear hK7 K7
      refine code_seq (fun K8 hK8 => ?_)
      refine code_block ?_
      refine code_seq (fun K9 hK9 => ?_)
      refine code_region ?_
      refine list_cons rfl (op_q (q_move rfl (by decide)) ?_)
      refine list_cons rfl (op_q (q_assign rfl (by decide)) ?_)
      refine list_nil ?_
      refine hK9 _ ?_; clear hK9 K9
      refine code_seq (fun K10 hK10 => ?_)
      refine code_region ?_
      refine list_cons rfl (op_q (q_move rfl (by decide)) ?_)
      refine list_cons rfl (op_call _ (litAtY t15 ⟨by omega, by omega⟩) rfl rfl (by decide) (by decide) (by decide) rfl ?_)
      rintro _ rfl
      refine list_cons rfl (op_q (q_move rfl (by decide)) ?_)
      refine list_cons rfl (op_q (q_extract rfl rfl (by decide)) ?_)
      refine list_cons rfl (op_q (q_extract rfl rfl (by decide)) ?_)
      refine list_cons rfl (op_q (q_assign rfl (by decide)) ?_)
      refine list_cons rfl (op_q (q_assign rfl (by decide)) ?_)
      refine list_nil ?_
      refine hK10 _ ?_; clear hK10 K10
      refine codeT.imp (σ' := [(0, _), (2, _), (3, _), (4, _), (5, _), (7, _), (8, _), (9, _), (15, _)]) ?_ (imp_covers ⟨rfl, rfl, rfl, rfl, rfl, rfl, rfl, rfl, rfl, trivial⟩)
      refine code_seq (fun K11 hK11 => ?_)
      refine code_region ?_
      refine list_cons rfl (op_q (q_move rfl (by decide)) ?_)
      refine list_cons rfl (op_q (q_move rfl (by decide)) ?_)
      refine list_guard_y rfl rfl rfl rfl (by decide) rfl ?_
      refine id (op_q (q_move rfl (by decide)) ?_)
      refine list_guard_y rfl rfl rfl rfl (by decide) rfl ?_
      refine id (op_q (q_move rfl (by decide)) ?_)
      refine list_guard_y rfl rfl rfl rfl (by decide) rfl ?_
      refine id (op_q (q_move rfl (by decide)) ?_)
      refine list_guard_y rfl rfl rfl rfl (by decide) rfl ?_
      refine id (op_callV _ rfl rfl rfl rfl (pcV (BrightestTime1_c _ _)) (by decide) ?_)
      rintro _ rfl
      refine list_cons rfl (op_q (q_pick rfl rfl (by decide)) ?_)
      refine list_nil ?_
      refine hK11 _ ?_; clear hK11 K11
      refine codeT.imp (σ' := [(0, _), (2, _), (3, _), (4, _), (5, _), (7, _), (8, _), (9, _), (15, _), (29, _)]) ?_ (imp_covers ⟨rfl, rfl, rfl, rfl, rfl, rfl, rfl, rfl, rfl, rfl, trivial⟩)
      refine code_cond_d rfl (fun h2 => ?_) (fun h2 => ?_)
      · skip
        (try simp only [Decidable.not_not] at h2)
        refine code_region ?_
        refine list_cons rfl (op_q (q_move rfl (by decide)) ?_)
        refine list_cons rfl (op_q (q_move rfl (by decide)) ?_)
        refine list_cons rfl (op_q (q_assign rfl (by decide)) ?_)
        refine list_cons rfl (op_q (q_assign rfl (by decide)) ?_)
        refine list_nil ?_
        refine blk_n ?_
        refine hK8 _ ?_; clear hK8 K8
        refine code_region ?_
        refine list_cons rfl (op_q (by first | exact q_addI rfl rfl (by decide) (by omega) (by omega) | exact q_ib rfl rfl rfl (by decide)) ?_)
        refine list_cons rfl (op_q (q_move rfl (by decide)) ?_)
        refine list_nil ?_
        refine then_n ⟨(_, _, _, _, _), imp_covers ⟨rfl, rfl, rfl, rfl, rfl, rfl, trivial⟩, ?_, ?_⟩
        · (try dsimp only)
          have hx := h2
          refine ⟨by omega, by omega, ?_⟩
          by_cases e0 : t15 = 0
          · subst e0
            first
            | exact absurd hx (Int.lt_irrefl _)
            | exact ⟨rfl, rfl⟩
          · have ht : (((t15 - 1).toNat + 1 : Nat) : Int) = t15 := by omega
            rw [show (t15 + 1 - 1).toNat = (t15 - 1).toNat + 1 by omega, brK]
            have e2 : litT ((t15 - 1).toNat + 1) = litF (rowT t15) := by unfold litT; rw [ht]
            rw [e2]
            first
            | (rw [if_pos hx]; exact ⟨ht.symm, e2.symm⟩)
            | (rw [if_neg hx]; exact ⟨rfl, rfl⟩)
        · (try dsimp only); omega
      (try simp only [Decidable.not_not] at h2)
      refine code_skip ?_
      refine blk_n ?_
      refine hK8 _ ?_; clear hK8 K8
      refine code_region ?_
      refine list_cons rfl (op_q (by first | exact q_addI rfl rfl (by decide) (by omega) (by omega) | exact q_ib rfl rfl rfl (by decide)) ?_)
      refine list_cons rfl (op_q (q_move rfl (by decide)) ?_)
      refine list_nil ?_
      refine then_n ⟨(_, _, _, _, _), imp_covers ⟨rfl, rfl, rfl, rfl, rfl, rfl, trivial⟩, ?_, ?_⟩
      · (try dsimp only)
        have hx := h2
        refine ⟨by omega, by omega, ?_⟩
        by_cases e0 : t15 = 0
        · subst e0
          first
          | exact absurd hx (Int.lt_irrefl _)
          | exact ⟨rfl, rfl⟩
        · have ht : (((t15 - 1).toNat + 1 : Nat) : Int) = t15 := by omega
          rw [show (t15 + 1 - 1).toNat = (t15 - 1).toNat + 1 by omega, brK]
          have e2 : litT ((t15 - 1).toNat + 1) = litF (rowT t15) := by unfold litT; rw [ht]
          rw [e2]
          first
          | (rw [if_pos hx]; exact ⟨ht.symm, e2.symm⟩)
          | (rw [if_neg hx]; exact ⟨rfl, rfl⟩)
      · (try dsimp only); omega
    (try simp only [Decidable.not_not] at h1)
    refine code_exit ?_
    refine then_x ?_; clear hK7 K7
    refine then_x ?_
    refine blk_hit ?_
    refine hK4 _ ?_; clear hK4 K4
    refine code_seq (fun K12 hK12 => ?_)
    refine code_region ?_
    refine list_cons rfl (op_q (q_move rfl (by decide)) ?_)
    refine list_cons rfl (op_q (q_move rfl (by decide)) ?_)
    refine list_cons rfl (op_q (q_assign rfl (by decide)) ?_)
    refine list_cons rfl (op_q (q_assign rfl (by decide)) ?_)
    refine list_nil ?_
    refine hK12 _ ?_; clear hK12 K12
    refine code_ret ?_
    refine ends_ret (cs := []) rfl rfl rfl rfl trivial ?_
    rw [show (t15 - 1).toNat = 1439 by omega]

set_option maxRecDepth 4000 in
theorem impl_BrightestTime  : PCalls Tryd.prog 21 [] (· = [.val (.int .i64 (((brK 1439 : Nat) : Int))), .val (.int .i64 (litT (brK 1439)))]) := by
  refine pcalls_of_code (n := 5) az Tryd.func21 (by kernel_rfl) rfl rfl (Nat.le_of_ble_eq_true rfl) (by intro t u h; simp [Tryd.f21] at h) ?_
  refine code_seq (fun K1 hK1 => ?_)
  refine code_region ?_
  refine list_cons rfl (op_q (q_assign rfl (by decide)) ?_)
  refine list_cons rfl (op_q (q_assign rfl (by decide)) ?_)
  refine list_nil ?_
  refine hK1 _ ?_; clear hK1 K1
  refine code_seq (fun K2 hK2 => ?_)
  refine code_region ?_
  refine list_cons rfl (op_call _ (first_BrightestTime) rfl rfl (by decide) (by decide) (by decide) rfl ?_)
  rintro _ rfl
  refine list_cons rfl (op_q (q_extract rfl rfl (by decide)) ?_)
  refine list_cons rfl (op_q (q_extract rfl rfl (by decide)) ?_)
  refine list_cons rfl (op_q (q_assign rfl (by decide)) ?_)
  refine list_cons rfl (op_q (q_assign rfl (by decide)) ?_)
  refine list_nil ?_
  refine hK2 _ ?_; clear hK2 K2
  refine codeT.imp (σ' := [(0, _), (1, _)]) ?_ (imp_covers ⟨rfl, rfl, trivial⟩)
  refine code_ret ?_
  refine ends_ret (cs := []) rfl rfl rfl rfl trivial ?_
  rfl

set_option maxRecDepth 4000 in
theorem DarkestTime1_c (lit than : Int) : PCalls Tryd.prog 47 [.int .i64 lit, .int .i64 than] (· = [.val (.bool (decide (lit < than)))]) := by
  refine pcalls_of_code (n := 8) az Tryd.func47 (by kernel_rfl) rfl rfl (Nat.le_of_ble_eq_true rfl) (by intro t u h; simp [Tryd.f47] at h) ?_
  refine code_seq (fun K1 hK1 => ?_)
  refine code_region ?_
  refine list_cons rfl (op_q (q_assign rfl (by decide)) ?_)
  refine list_nil ?_
  refine hK1 _ ?_; clear hK1 K1
  refine code_seq (fun K2 hK2 => ?_)
  refine code_region ?_
  refine list_cons rfl (op_q (q_move rfl (by decide)) ?_)
  refine list_cons rfl (op_q (q_move rfl (by decide)) ?_)
  refine list_cons rfl (op_q (q_lt rfl rfl (by decide)) ?_)
  refine list_cons rfl (op_q (q_assign rfl (by decide)) ?_)
  refine list_nil ?_
  refine hK2 _ ?_; clear hK2 K2
  refine code_ret ?_
  refine ends_ret (cs := []) rfl rfl rfl rfl trivial ?_
  rfl

set_option maxRecDepth 8000 in
set_option maxHeartbeats 2000000 in
theorem first_DarkestTime  : PCalls Tryd.prog 45 [.clo 47 []] (· = [.val (.int .i64 (((dkK 1439 : Nat) : Int))), .val (.int .i64 (litT (dkK 1439)))]) := by
  refine pcalls_of_code (n := 35) az Tryd.func45 (by kernel_rfl) rfl rfl (Nat.le_of_ble_eq_true rfl) (by intro t u h; simp [Tryd.f45] at h) ?_
  refine code_seq (fun K1 hK1 => ?_)
  refine code_region ?_
  refine list_cons rfl (op_q (q_assign rfl (by decide)) ?_)
  refine list_cons rfl (op_q (q_assign rfl (by decide)) ?_)
  refine list_nil ?_
  refine hK1 _ ?_; clear hK1 K1
  refine code_seq (fun K2 hK2 => ?_)
  refine code_region ?_
  refine list_cons rfl (op_q (q_assign rfl (by decide)) ?_)
  refine list_nil ?_
  refine hK2 _ ?_; clear hK2 K2
  refine code_seq (fun K3 hK3 => ?_)
  refine code_region ?_
  refine list_cons rfl (op_q (q_move rfl (by decide)) ?_)
  refine list_cons rfl (op_call _ (litAtY 0 ⟨by decide, by decide⟩) rfl rfl (by decide) (by decide) (by decide) rfl ?_)
  rintro _ rfl
  refine list_cons rfl (op_q (q_move rfl (by decide)) ?_)
  refine list_cons rfl (op_q (q_extract rfl rfl (by decide)) ?_)
  refine list_cons rfl (op_q (q_extract rfl rfl (by decide)) ?_)
  refine list_cons rfl (op_q (q_assign rfl (by decide)) ?_)
  refine list_cons rfl (op_q (q_assign rfl (by decide)) ?_)
  refine list_nil ?_
  refine hK3 _ ?_; clear hK3 K3
  refine codeT.imp (σ' := [(0, _), (2, _), (3, _), (4, _), (5, _)]) ?_ (imp_covers ⟨rfl, rfl, rfl, rfl, rfl, trivial⟩)
  refine code_seq (fun K4 hK4 => ?_)
  refine code_seq (fun K5 hK5 => ?_)
  refine code_region ?_
  refine list_cons rfl (op_q (q_move rfl (by decide)) ?_)
  refine list_nil ?_
  refine hK5 _ ?_; clear hK5 K5
  refine code_block ?_
  refine code_loop (X := Int × Int × Int × Int × Int) (fun x => [(0, .val (.clo 47 [])), (2, .val (.int .i64 x.1)), (3, .val (.int .i64 x.2.1)), (4, .val (.int .i64 x.2.2.1)), (5, .val (.int .i64 x.2.2.2.1)), (15, .val (.int .i64 x.2.2.2.2))]) (fun x => 0 ≤ x.2.2.2.2 ∧ x.2.2.2.2 ≤ 1440 ∧ x.2.2.1 = ((dkK (x.2.2.2.2 - 1).toNat : Nat) : Int) ∧ x.2.2.2.1 = litT (dkK (x.2.2.2.2 - 1).toNat)) (fun x => (1440 - x.2.2.2.2).toNat) (_, _, _, _, _) (imp_covers ⟨rfl, rfl, rfl, rfl, rfl, rfl, trivial⟩) ?_ ?_
  · (try dsimp only)
    exact ⟨by omega, by omega, rfl, rfl⟩
  · intro x hI
    obtain ⟨t2, t3, fst0, best, t15⟩ := x
    replace hI : 0 ≤ t15 ∧ t15 ≤ 1440 ∧ fst0 = ((dkK (t15 - 1).toNat : Nat) : Int) ∧ best = litT (dkK (t15 - 1).toNat) := hI
    show codeT _ _ _ [(0, .val (.clo 47 [])), (2, .val (.int .i64 t2)), (3, .val (.int .i64 t3)), (4, .val (.int .i64 fst0)), (5, .val (.int .i64 best)), (15, .val (.int .i64 t15))] _
    obtain ⟨i1, i2, rfl, rfl⟩ := hI
    refine code_seq (fun K6 hK6 => ?_)
    refine code_region ?_
    refine list_cons rfl (op_q (q_lt rfl rfl (by decide)) ?_)
    refine list_nil ?_
    refine hK6 _ ?_; clear hK6 K6
    refine code_seq (fun K7 hK7 => ?_)
    refine code_cond_d rfl (fun h1 => ?_) (fun h1 => ?_)
    · skip
      (try simp only [Decidable.not_not] at h1)
      refine code_skip ?_
      refine hK7 _ ?_; clear hK7 K7
      refine code_seq (fun K8 hK8 => ?_)
      refine code_block ?_
      refine code_seq (fun K9 hK9 => ?_)
      refine code_region ?_
      refine list_cons rfl (op_q (q_move rfl (by decide)) ?_)
      refine list_cons rfl (op_q (q_assign rfl (by decide)) ?_)
      refine list_nil ?_
      refine hK9 _ ?_; clear hK9 K9
      refine code_seq (fun K10 hK10 => ?_)
      refine code_region ?_
      refine list_cons rfl (op_q (q_move rfl (by decide)) ?_)
      refine list_cons rfl (op_call _ (litAtY t15 ⟨by omega, by omega⟩) rfl rfl (by decide) (by decide) (by decide) rfl ?_)
      rintro _ rfl
      refine list_cons rfl (op_q (q_move rfl (by decide)) ?_)
      refine list_cons rfl (op_q (q_extract rfl rfl (by decide)) ?_)
      refine list_cons rfl (op_q (q_extract rfl rfl (by decide)) ?_)
      refine list_cons rfl (op_q (q_assign rfl (by decide)) ?_)
      refine list_cons rfl (op_q (q_assign rfl (by decide)) ?_)
      refine list_nil ?_
      refine hK10 _ ?_; clear hK10 K10
      refine codeT.imp (σ' := [(0, _), (2, _), (3, _), (4, _), (5, _), (7, _), (8, _), (9, _), (15, _)]) ?_ (imp_covers ⟨rfl, rfl, rfl, rfl, rfl, rfl, rfl, rfl, rfl, trivial⟩)
      refine code_seq (fun K11 hK11 => ?_)
      refine code_region ?_
      refine list_cons rfl (op_q (q_move rfl (by decide)) ?_)
      refine list_cons rfl (op_q (q_move rfl (by decide)) ?_)
      refine list_guard_y rfl rfl rfl rfl (by decide) rfl ?_
      refine id (op_q (q_move rfl (by decide)) ?_)
      refine list_guard_y rfl rfl rfl rfl (by decide) rfl ?_
      refine id (op_q (q_move rfl (by decide)) ?_)
      refine list_guard_y rfl rfl rfl rfl (by decide) rfl ?_
      refine id (op_q (q_move rfl (by decide)) ?_)
      refine list_guard_y rfl rfl rfl rfl (by decide) rfl ?_
      refine id (op_callV _ rfl rfl rfl rfl (pcV (DarkestTime1_c _ _)) (by decide) ?_)
      rintro _ rfl
      refine list_cons rfl (op_q (q_pick rfl rfl (by decide)) ?_)
      refine list_nil ?_
      refine hK11 _ ?_; clear hK11 K11
      refine codeT.imp (σ' := [(0, _), (2, _), (3, _), (4, _), (5, _), (7, _), (8, _), (9, _), (15, _), (29, _)]) ?_ (imp_covers ⟨rfl, rfl, rfl, rfl, rfl, rfl, rfl, rfl, rfl, rfl, trivial⟩)
      refine code_cond_d rfl (fun h2 => ?_) (fun h2 => ?_)
      · skip
        (try simp only [Decidable.not_not] at h2)
        refine code_region ?_
        refine list_cons rfl (op_q (q_move rfl (by decide)) ?_)
        refine list_cons rfl (op_q (q_move rfl (by decide)) ?_)
        refine list_cons rfl (op_q (q_assign rfl (by decide)) ?_)
        refine list_cons rfl (op_q (q_assign rfl (by decide)) ?_)
        refine list_nil ?_
        refine blk_n ?_
        refine hK8 _ ?_; clear hK8 K8
        refine code_region ?_
        refine list_cons rfl (op_q (by first | exact q_addI rfl rfl (by decide) (by omega) (by omega) | exact q_ib rfl rfl rfl (by decide)) ?_)
        refine list_cons rfl (op_q (q_move rfl (by decide)) ?_)
        refine list_nil ?_
        refine then_n ⟨(_, _, _, _, _), imp_covers ⟨rfl, rfl, rfl, rfl, rfl, rfl, trivial⟩, ?_, ?_⟩
        · (try dsimp only)
          have hx := h2
          refine ⟨by omega, by omega, ?_⟩
          by_cases e0 : t15 = 0
          · subst e0
            first
            | exact absurd hx (Int.lt_irrefl _)
            | exact ⟨rfl, rfl⟩
          · have ht : (((t15 - 1).toNat + 1 : Nat) : Int) = t15 := by omega
            rw [show (t15 + 1 - 1).toNat = (t15 - 1).toNat + 1 by omega, dkK]
            have e2 : litT ((t15 - 1).toNat + 1) = litF (rowT t15) := by unfold litT; rw [ht]
            rw [e2]
            first
            | (rw [if_pos hx]; exact ⟨ht.symm, e2.symm⟩)
            | (rw [if_neg hx]; exact ⟨rfl, rfl⟩)
        · (try dsimp only); omega
      (try simp only [Decidable.not_not] at h2)
      refine code_skip ?_
      refine blk_n ?_
      refine hK8 _ ?_; clear hK8 K8
      refine code_region ?_
      refine list_cons rfl (op_q (by first | exact q_addI rfl rfl (by decide) (by omega) (by omega) | exact q_ib rfl rfl rfl (by decide)) ?_)
      refine list_cons rfl (op_q (q_move rfl (by decide)) ?_)
      refine list_nil ?_
      refine then_n ⟨(_, _, _, _, _), imp_covers ⟨rfl, rfl, rfl, rfl, rfl, rfl, trivial⟩, ?_, ?_⟩
      · (try dsimp only)
        have hx := h2
        refine ⟨by omega, by omega, ?_⟩
        by_cases e0 : t15 = 0
        · subst e0
          first
          | exact absurd hx (Int.lt_irrefl _)
          | exact ⟨rfl, rfl⟩
        · have ht : (((t15 - 1).toNat + 1 : Nat) : Int) = t15 := by omega
          rw [show (t15 + 1 - 1).toNat = (t15 - 1).toNat + 1 by omega, dkK]
          have e2 : litT ((t15 - 1).toNat + 1) = litF (rowT t15) := by unfold litT; rw [ht]
          rw [e2]
          first
          | (rw [if_pos hx]; exact ⟨ht.symm, e2.symm⟩)
          | (rw [if_neg hx]; exact ⟨rfl, rfl⟩)
      · (try dsimp only); omega
    (try simp only [Decidable.not_not] at h1)
    refine code_exit ?_
    refine then_x ?_; clear hK7 K7
    refine then_x ?_
    refine blk_hit ?_
    refine hK4 _ ?_; clear hK4 K4
    refine code_seq (fun K12 hK12 => ?_)
    refine code_region ?_
    refine list_cons rfl (op_q (q_move rfl (by decide)) ?_)
    refine list_cons rfl (op_q (q_move rfl (by decide)) ?_)
    refine list_cons rfl (op_q (q_assign rfl (by decide)) ?_)
    refine list_cons rfl (op_q (q_assign rfl (by decide)) ?_)
    refine list_nil ?_
    refine hK12 _ ?_; clear hK12 K12
    refine code_ret ?_
    refine ends_ret (cs := []) rfl rfl rfl rfl trivial ?_
    rw [show (t15 - 1).toNat = 1439 by omega]

set_option maxRecDepth 4000 in
theorem impl_DarkestTime  : PCalls Tryd.prog 23 [] (· = [.val (.int .i64 (((dkK 1439 : Nat) : Int))), .val (.int .i64 (litT (dkK 1439)))]) := by
  refine pcalls_of_code (n := 5) az Tryd.func23 (by kernel_rfl) rfl rfl (Nat.le_of_ble_eq_true rfl) (by intro t u h; simp [Tryd.f23] at h) ?_
  refine code_seq (fun K1 hK1 => ?_)
  refine code_region ?_
  refine list_cons rfl (op_q (q_assign rfl (by decide)) ?_)
  refine list_cons rfl (op_q (q_assign rfl (by decide)) ?_)
  refine list_nil ?_
  refine hK1 _ ?_; clear hK1 K1
  refine code_seq (fun K2 hK2 => ?_)
  refine code_region ?_
  refine list_cons rfl (op_call _ (first_DarkestTime) rfl rfl (by decide) (by decide) (by decide) rfl ?_)
  rintro _ rfl
  refine list_cons rfl (op_q (q_extract rfl rfl (by decide)) ?_)
  refine list_cons rfl (op_q (q_extract rfl rfl (by decide)) ?_)
  refine list_cons rfl (op_q (q_assign rfl (by decide)) ?_)
  refine list_cons rfl (op_q (q_assign rfl (by decide)) ?_)
  refine list_nil ?_
  refine hK2 _ ?_; clear hK2 K2
  refine codeT.imp (σ' := [(0, _), (1, _)]) ?_ (imp_covers ⟨rfl, rfl, trivial⟩)
  refine code_ret ?_
  refine ends_ret (cs := []) rfl rfl rfl rfl trivial ?_
  rfl

set_option maxRecDepth 8000 in
set_option maxHeartbeats 2000000 in
theorem impl_MinuteChanges (t : Int) : PCalls Tryd.prog 25 [.int .i64 t] (· = [.val (.int .i64 (if TmP t then chgK (rowT t) (rowT ((t + 1) % 1440)) 4 else 0)), .val (.bool (decide (TmP t)))]) := by
  refine pcalls_of_code (n := 33) az Tryd.func25 (by kernel_rfl) rfl rfl (Nat.le_of_ble_eq_true rfl) (by intro t u h; simp [Tryd.f25] at h) ?_
  refine code_seq (fun K1 hK1 => ?_)
  refine code_region ?_
  refine list_cons rfl (op_q (q_assign rfl (by decide)) ?_)
  refine list_cons rfl (op_q (q_assign rfl (by decide)) ?_)
  refine list_nil ?_
  refine hK1 _ ?_; clear hK1 K1
  refine code_seq (fun K2 hK2 => ?_)
  refine code_seq (fun K3 hK3 => ?_)
  refine code_region ?_
  refine list_cons rfl (op_q (q_move rfl (by decide)) ?_)
  refine list_cons rfl (op_call _ (impl_isTime _) rfl rfl (by decide) (by decide) (by decide) rfl ?_)
  rintro _ rfl
  refine list_cons rfl (op_q (by first | exact q_notd rfl (by decide) | exact q_not rfl (by decide)) ?_)
  refine list_nil ?_
  refine hK3 _ ?_; clear hK3 K3
  refine codeT.imp (σ' := [(0, _), (2, _), (3, _), (10, _)]) ?_ (imp_covers ⟨rfl, rfl, rfl, rfl, trivial⟩)
  refine code_cond_d rfl (fun h1 => ?_) (fun h1 => ?_)
  · skip
    (try simp only [Decidable.not_not] at h1); (try have hT1 := (h1 : TmP t).1; have hT2 := (h1 : TmP t).2)
    refine code_seq (fun K4 hK4 => ?_)
    refine code_region ?_
    refine list_cons rfl (op_q (q_assign rfl (by decide)) ?_)
    refine list_cons rfl (op_q (q_assign rfl (by decide)) ?_)
    refine list_nil ?_
    refine hK4 _ ?_; clear hK4 K4
    refine code_ret ?_
    refine then_r ?_; clear hK2 K2
    refine ends_ret (cs := []) rfl rfl rfl rfl trivial ?_
    first
      | (have e : ¬ (TmP t) := by assumption
         simp only [if_neg e, decide_eq_false e]; first | done | rfl)
      | (have e : TmP t := by assumption
         simp only [if_pos e, decide_eq_true e]; first | done | rfl)
  (try simp only [Decidable.not_not] at h1); (try have hT1 := (h1 : TmP t).1; have hT2 := (h1 : TmP t).2)
  refine code_skip ?_
  refine hK2 _ ?_; clear hK2 K2
  refine code_seq (fun K5 hK5 => ?_)
  refine code_region ?_
  refine list_cons rfl (op_q (q_move rfl (by decide)) ?_)
  refine list_cons rfl (op_call _ (impl_ClockRow t) rfl rfl (by decide) (by decide) (by decide) rfl ?_)
  rintro _ rfl; simp only [if_pos h1, decide_eq_true h1]
  refine list_cons rfl (op_q (q_move rfl (by decide)) ?_)
  refine list_cons rfl (op_q (q_extract rfl rfl (by decide)) ?_)
  refine list_cons rfl (op_q (q_extract rfl rfl (by decide)) ?_)
  refine list_cons rfl (op_q (q_assign rfl (by decide)) ?_)
  refine list_cons rfl (op_q (q_assign rfl (by decide)) ?_)
  refine list_nil ?_
  refine hK5 _ ?_; clear hK5 K5
  refine codeT.imp (σ' := [(0, _), (2, _), (3, _), (4, _), (5, _)]) ?_ (imp_covers ⟨rfl, rfl, rfl, rfl, rfl, trivial⟩)
  refine code_seq (fun K6 hK6 => ?_)
  refine code_region ?_
  refine list_cons rfl (op_q (q_move rfl (by decide)) ?_)
  refine list_cons rfl (op_call _ (impl_laterTime _ _ (by omega) (by omega)) rfl rfl (by decide) (by decide) (by decide) rfl ?_)
  rintro _ rfl
  refine list_cons rfl (op_call _ (impl_ClockRow ((t + 1) % 1440)) rfl rfl (by decide) (by decide) (by decide) rfl ?_)
  rintro _ rfl; have hT3 : TmP ((t + 1) % 1440) := ⟨by omega, by omega⟩; simp only [if_pos hT3, decide_eq_true hT3]
  refine list_cons rfl (op_q (q_move rfl (by decide)) ?_)
  refine list_cons rfl (op_q (q_extract rfl rfl (by decide)) ?_)
  refine list_cons rfl (op_q (q_extract rfl rfl (by decide)) ?_)
  refine list_cons rfl (op_q (q_assign rfl (by decide)) ?_)
  refine list_cons rfl (op_q (q_assign rfl (by decide)) ?_)
  refine list_nil ?_
  refine hK6 _ ?_; clear hK6 K6
  refine codeT.imp (σ' := [(0, _), (2, _), (3, _), (4, _), (5, _), (6, _), (7, _)]) ?_ (imp_covers ⟨rfl, rfl, rfl, rfl, rfl, rfl, rfl, trivial⟩)
  refine code_seq (fun K7 hK7 => ?_)
  refine code_seq (fun K8 hK8 => ?_)
  refine code_region ?_
  refine list_cons rfl (op_q (q_move rfl (by decide)) ?_)
  refine list_cons rfl (op_q (by first | exact q_notd rfl (by decide) | exact q_not rfl (by decide)) ?_)
  refine list_cons rfl (op_q (q_move rfl (by decide)) ?_)
  refine list_guard_y rfl rfl rfl rfl (by decide) rfl ?_
  refine id (op_q (q_move rfl (by decide)) ?_)
  refine list_guard_y rfl rfl rfl rfl (by decide) rfl ?_
  refine id (op_q (by first | exact q_notd rfl (by decide) | exact q_not rfl (by decide)) ?_)
  refine list_cons rfl (op_q (q_pick rfl rfl (by decide)) ?_)
  refine list_nil ?_
  refine hK8 _ ?_; clear hK8 K8
  refine code_cond_f rfl ?_
  refine code_skip ?_
  refine hK7 _ ?_; clear hK7 K7
  refine code_seq (fun K9 hK9 => ?_)
  refine code_region ?_
  refine list_cons rfl (op_q (q_move rfl (by decide)) ?_)
  refine list_cons rfl (op_q (q_move rfl (by decide)) ?_)
  refine list_cons rfl (op_call _ (impl_rowChanges (rowT t) (rowT ((t + 1) % 1440)) (by rw [rowT_len, rowT_len]) (by rw [rowT_len]; decide) (fun i hi => (rowT_row _).at hi) (fun i hi => (rowT_row _).at hi)) rfl rfl (by decide) (by decide) (by decide) rfl ?_)
  rintro _ rfl
  refine list_cons rfl (op_q (q_extract rfl rfl (by decide)) ?_)
  refine list_cons rfl (op_q (q_extract rfl rfl (by decide)) ?_)
  refine list_cons rfl (op_q (q_assign rfl (by decide)) ?_)
  refine list_cons rfl (op_q (q_assign rfl (by decide)) ?_)
  refine list_nil ?_
  refine hK9 _ ?_; clear hK9 K9
  refine codeT.imp (σ' := [(0, _), (2, _), (3, _), (4, _), (5, _), (6, _), (7, _)]) ?_ (imp_covers ⟨rfl, rfl, rfl, rfl, rfl, rfl, rfl, trivial⟩)
  refine code_ret ?_
  refine ends_ret (cs := []) rfl rfl rfl rfl trivial ?_
  first
    | (have e : ¬ (TmP t) := by assumption
       simp only [if_neg e, decide_eq_false e]; first | done | rfl)
    | (have e : TmP t := by assumption
       simp only [if_pos e, decide_eq_true e]; first | done | rfl)

set_option maxRecDepth 4000 in
theorem ofBars1_c (t b : Int) (h : TmP t) : PCalls Tryd.prog 57 [.int .i64 t, .ptr [.int .i64 b]] (· = [.val (.bool (decide (TmP t ∧ litF (rowT t) = b)))]) := by
  refine pcalls_of_code (n := 7) az Tryd.func57 (by kernel_rfl) rfl rfl (Nat.le_of_ble_eq_true rfl) (by intro t u h; simp [Tryd.f57] at h) ?_
  refine codeT.imp ?_ (imp_rpar (s := 1) (i := 1) rfl)
  refine code_seq (fun K1 hK1 => ?_)
  refine code_region ?_
  refine list_cons rfl (op_q (q_assign rfl (by decide)) ?_)
  refine list_nil ?_
  refine hK1 _ ?_; clear hK1 K1
  refine code_seq (fun K2 hK2 => ?_)
  refine code_region ?_
  refine list_cons rfl (op_q (q_move rfl (by decide)) ?_)
  refine list_cons rfl (op_q (q_load_rd one_3 rfl (.inl ⟨_, (by first | rfl | exact congrArg (SV.rpar _) (drop_map1 _ 0 _ (by first | omega | (simp; omega)))), rfl⟩) (by decide)) ?_)
  refine list_cons rfl (op_call _ (gives_c 19 t b (litF (rowT t)) (TmP t) (by simp only [decide_eq_true h]; exact litAtY t h)) rfl rfl (by decide) (by decide) (by decide) rfl ?_)
  rintro _ rfl
  refine list_cons rfl (op_q (q_assign rfl (by decide)) ?_)
  refine list_nil ?_
  refine hK2 _ ?_; clear hK2 K2
  refine codeT.imp (σ' := [(0, _), (1, _), (3, _)]) ?_ (imp_covers ⟨rfl, rfl, rfl, trivial⟩)
  refine code_ret ?_
  refine ends_ret (cs := []) rfl rfl rfl rfl trivial ?_
  rfl

set_option maxRecDepth 8000 in
set_option maxHeartbeats 2000000 in
theorem impl_TimesOfBars (b : Int) : PCalls Tryd.prog 30 [.int .i64 b] (· = [.own 0 3 1 (if 0 ≤ b ∧ b ≤ 28 then selK (tbP b) 1440 else []).length ((if 0 ≤ b ∧ b ≤ 28 then selK (tbP b) 1440 else []).map (.int .i64)), .val (.bool (decide (0 ≤ b ∧ b ≤ 28)))]) := by
  refine pcalls_of_code (n := 13) az Tryd.func30 (by kernel_rfl) rfl rfl (Nat.le_of_ble_eq_true rfl) (by intro t u h; simp [Tryd.f30] at h) ?_
  refine code_seq (fun K1 hK1 => ?_)
  refine code_region ?_
  refine list_cons rfl (op_box rfl (.inl ⟨rfl, rfl⟩) (by decide) (by decide) rfl ?_)
  refine list_cons rfl (op_q (q_assign rfl (by decide)) ?_)
  refine list_cons rfl (op_q (q_assign rfl (by decide)) ?_)
  refine list_nil ?_
  refine hK1 _ ?_; clear hK1 K1
  refine code_seq (fun K2 hK2 => ?_)
  refine code_seq (fun K3 hK3 => ?_)
  refine code_region ?_
  refine list_cons rfl (op_q (q_load_box1 one_3 rfl rfl (by decide)) ?_)
  refine list_cons rfl (op_q (q_lt rfl rfl (by decide)) ?_)
  refine list_cons rfl (op_q (q_move rfl (by decide)) ?_)
  refine list_guard_d rfl rfl rfl rfl (by decide) rfl (by decide) (fun h1 => ?_) (fun h1 => ?_)
  · simp only [Bool.false_eq_true, if_true, if_false, Decidable.not_not] at h1
    refine id (op_q (q_load_box1 one_3 rfl rfl (by decide)) ?_)
    refine list_guard_y rfl rfl rfl rfl (by decide) rfl ?_
    refine id (op_q (q_gt rfl rfl (by decide)) ?_)
    refine list_cons rfl (op_q (q_pick rfl rfl (by decide)) ?_)
    refine list_nil ?_
    refine hK3 _ ?_; clear hK3 K3
    refine code_cond_d rfl (fun h2 => ?_) (fun h2 => ?_)
    · skip
      (try simp only [Decidable.not_not] at h2)
      refine code_seq (fun K4 hK4 => ?_)
      refine code_region ?_
      refine list_cons rfl (op_buildSlice sl_25 (parts := []) rfl rfl rfl (by decide) (by decide) (by decide) rfl ?_)
      refine list_cons rfl (op_q (q_assign rfl (by decide)) ?_)
      refine list_cons rfl (op_q (q_assign rfl (by decide)) ?_)
      refine list_nil ?_
      refine hK4 _ ?_; clear hK4 K4
      refine codeT.imp (σ' := [(0, _), (1, _), (2, _), (3, _)]) ?_ (imp_covers ⟨rfl, rfl, rfl, rfl, trivial⟩)
      refine code_ret ?_
      refine then_r ?_; clear hK2 K2
      refine ends_ret (cs := []) rfl rfl rfl rfl trivial ?_
      first
        | (have e : ¬ (0 ≤ b ∧ b ≤ 28) := by omega
           simp only [if_neg e, decide_eq_false e]; rfl)
        | (have e : 0 ≤ b ∧ b ≤ 28 := ⟨by omega, by omega⟩
           rw [selF_K (tbP b) (fun t => TmP t ∧ litF (rowT t) = b) 1440 (Nat.le_refl _) (fun j hj => ⟨fun k => ⟨⟨by omega, by omega⟩, k⟩, fun k => k.2⟩)]
           simp only [if_pos e, decide_eq_true e]; done)
    (try simp only [Decidable.not_not] at h2)
    refine code_skip ?_
    refine hK2 _ ?_; clear hK2 K2
    refine code_seq (fun K5 hK5 => ?_)
    refine code_region ?_
    refine list_cons rfl (op_makeFunc (xs := [.tmp 1]) rfl rfl rfl (by decide) (by decide) rfl ?_)
    refine list_cons rfl (op_callM (timesThat_B 57 [.int .i64 b] [] (fun t => TmP t ∧ litF (rowT t) = b) (fun t h => ofBars1_c t b h)) (.tmp 0) 0 [] [.tmp 11] _ rfl rfl (by intro y hy; cases hy) (by decide) (by decide) (by decide) rfl (by intro h; cases h) ?_)
    rintro _ _ rfl
    refine list_cons rfl (op_q (q_assign rfl (by decide)) ?_)
    refine list_cons rfl (op_q (q_assign rfl (by decide)) ?_)
    refine list_nil ?_
    refine hK5 _ ?_; clear hK5 K5
    refine codeT.imp (σ' := [(0, _), (1, _), (2, _), (3, _)]) ?_ (imp_covers ⟨rfl, rfl, rfl, rfl, trivial⟩)
    refine code_ret ?_
    refine ends_ret (cs := []) rfl rfl rfl rfl trivial ?_
    first
      | (have e : ¬ (0 ≤ b ∧ b ≤ 28) := by omega
         simp only [if_neg e, decide_eq_false e]; rfl)
      | (have e : 0 ≤ b ∧ b ≤ 28 := ⟨by omega, by omega⟩
         rw [selF_K (tbP b) (fun t => TmP t ∧ litF (rowT t) = b) 1440 (Nat.le_refl _) (fun j hj => ⟨fun k => ⟨⟨by omega, by omega⟩, k⟩, fun k => k.2⟩)]
         simp only [if_pos e, decide_eq_true e]; done)
  simp only [Bool.false_eq_true, if_true, if_false, Decidable.not_not] at h1
  refine list_guard_n rfl rfl rfl rfl (by decide) rfl ?_
  refine list_cons rfl (op_q (q_pick rfl rfl (by decide)) ?_)
  refine list_nil ?_
  refine hK3 _ ?_; clear hK3 K3
  refine code_cond_t rfl ?_
  refine code_seq (fun K6 hK6 => ?_)
  refine code_region ?_
  refine list_cons rfl (op_buildSlice sl_25 (parts := []) rfl rfl rfl (by decide) (by decide) (by decide) rfl ?_)
  refine list_cons rfl (op_q (q_assign rfl (by decide)) ?_)
  refine list_cons rfl (op_q (q_assign rfl (by decide)) ?_)
  refine list_nil ?_
  refine hK6 _ ?_; clear hK6 K6
  refine code_ret ?_
  refine then_r ?_; clear hK2 K2
  refine ends_ret (cs := []) rfl rfl rfl rfl trivial ?_
  first
    | (have e : ¬ (0 ≤ b ∧ b ≤ 28) := by omega
       simp only [if_neg e, decide_eq_false e]; rfl)
    | (have e : 0 ≤ b ∧ b ≤ 28 := ⟨by omega, by omega⟩
       rw [selF_K (tbP b) (fun t => TmP t ∧ litF (rowT t) = b) 1440 (Nat.le_refl _) (fun j hj => ⟨fun k => ⟨⟨by omega, by omega⟩, k⟩, fun k => k.2⟩)]
       simp only [if_pos e, decide_eq_true e]; done)

set_option maxRecDepth 4000 in
theorem indexF0_c (l : List Int) (f : FuncId) (p : Int → Prop) [DecidablePred p] (hl : l.length ≤ 4611686018427387904) (hf : ∀ j, j < l.length → PCalls Tryd.prog f [.int .i64 (l.getD j 0)] (· = [.val (.bool (decide (p (l.getD j 0))))])) : PCalls Tryd.prog 85 [.sl l.length (l.map (.int .i64)), .clo f []] (fun rs => ∃ i : Int, rs = [.val (.int .i64 i)] ∧ (0 ≤ i ↔ ∃ j, j < l.length ∧ p (l.getD j 0))) := by
  refine pcalls_of_code (n := 19) az Tryd.func85 (by kernel_rfl) rfl rfl (Nat.le_of_ble_eq_true rfl) (by intro t u h; simp [Tryd.f85] at h) ?_
  refine code_seq (fun K1 hK1 => ?_)
  refine code_region ?_
  refine list_cons rfl (op_q (q_assign rfl (by decide)) ?_)
  refine list_nil ?_
  refine hK1 _ ?_; clear hK1 K1
  refine code_seq (fun K2 hK2 => ?_)
  refine code_seq (fun K3 hK3 => ?_)
  refine code_region ?_
  refine list_cons rfl (op_q (q_move rfl (by decide)) ?_)
  refine list_cons rfl (op_q (q_len_sl Tryd.underlying25 rfl rfl (by decide)) ?_)
  refine list_cons rfl (op_q (q_move rfl (by decide)) ?_)
  refine list_nil ?_
  refine hK3 _ ?_; clear hK3 K3
  refine code_block ?_
  refine code_loop (X := Int × Int) (fun x => [(0, .par 0 (.sl l.length (l.map (.int .i64)))), (1, .val (.clo f [])), (4, .val (.int .i64 x.1)), (7, .val (.int .i64 l.length)), (8, .val (.int .i64 x.2))]) (fun x => 0 ≤ x.2 ∧ x.2 ≤ l.length ∧ ∀ j, j < x.2.toNat → ¬ p (l.getD j 0)) (fun x => (l.length - x.2).toNat) (_, _) (imp_covers ⟨rfl, rfl, rfl, rfl, rfl, trivial⟩) ?_ ?_
  · (try dsimp only)
    exact ⟨by omega, by omega, fun j hj => by simp at hj⟩
  · intro x hI
    obtain ⟨t4, t8⟩ := x
    replace hI : 0 ≤ t8 ∧ t8 ≤ l.length ∧ ∀ j, j < t8.toNat → ¬ p (l.getD j 0) := hI
    show codeT _ _ _ [(0, .par 0 (.sl l.length (l.map (.int .i64)))), (1, .val (.clo f [])), (4, .val (.int .i64 t4)), (7, .val (.int .i64 l.length)), (8, .val (.int .i64 t8))] _
    obtain ⟨i1, i2, i3⟩ := hI
    refine code_seq (fun K4 hK4 => ?_)
    refine code_region ?_
    refine list_cons rfl (op_q (q_lt rfl rfl (by decide)) ?_)
    refine list_nil ?_
    refine hK4 _ ?_; clear hK4 K4
    refine code_seq (fun K5 hK5 => ?_)
    refine code_cond_d rfl (fun h1 => ?_) (fun h1 => ?_)
    · skip
      (try simp only [Decidable.not_not] at h1)
      refine code_skip ?_
      refine hK5 _ ?_; clear hK5 K5
      refine code_seq (fun K6 hK6 => ?_)
      refine code_block ?_
      refine code_seq (fun K7 hK7 => ?_)
      refine code_region ?_
      refine list_cons rfl (op_q (q_move rfl (by decide)) ?_)
      refine list_cons rfl (op_q (q_assign rfl (by decide)) ?_)
      refine list_nil ?_
      refine hK7 _ ?_; clear hK7 K7
      refine code_seq (fun K8 hK8 => ?_)
      refine code_region ?_
      refine list_cons rfl (op_q (q_move rfl (by decide)) ?_)
      refine list_cons rfl (op_q (q_move rfl (by decide)) ?_)
      refine list_cons rfl (op_q (q_move rfl (by decide)) ?_)
      refine list_cons rfl (op_q (q_indexAddr_rd sl_25 rfl (.inl ⟨_, rfl, rfl⟩) rfl (by omega) (by omega) (by decide)) ?_)
      refine list_cons rfl (op_q (q_load_rd one_3 rfl (.inl ⟨_, (by first | rfl | exact congrArg (SV.rpar _) (drop_map1 _ 0 _ (by first | omega | (simp; omega)))), rfl⟩) (by decide)) ?_)
      refine list_cons rfl (op_callV _ rfl rfl rfl rfl (pcV (hf t8.toNat (by omega))) (by decide) ?_)
      rintro _ rfl
      refine list_nil ?_
      refine hK8 _ ?_; clear hK8 K8
      refine codeT.imp (σ' := [(0, _), (1, _), (4, _), (5, _), (7, _), (8, _), (16, _)]) ?_ (imp_covers ⟨rfl, rfl, rfl, rfl, rfl, rfl, rfl, trivial⟩)
      refine code_cond_d rfl (fun h2 => ?_) (fun h2 => ?_)
      · skip
        (try simp only [Decidable.not_not] at h2)
        refine code_seq (fun K9 hK9 => ?_)
        refine code_region ?_
        refine list_cons rfl (op_q (q_move rfl (by decide)) ?_)
        refine list_cons rfl (op_q (q_assign rfl (by decide)) ?_)
        refine list_nil ?_
        refine hK9 _ ?_; clear hK9 K9
        refine code_ret ?_
        refine blk_r ?_
        refine then_r ?_; clear hK6 K6
        refine then_r ?_
        refine blk_r ?_
        refine then_r ?_; clear hK2 K2
        refine ends_ret (cs := []) rfl rfl rfl rfl trivial ?_
        first
          | exact ⟨_, rfl, fun _ => ⟨t8.toNat, by omega, h2⟩, fun _ => by omega⟩
          | exact ⟨_, rfl, fun h => by omega, fun ⟨j, hj, hp⟩ => absurd hp (i3 j (by omega))⟩
      (try simp only [Decidable.not_not] at h2)
      refine code_skip ?_
      refine blk_n ?_
      refine hK6 _ ?_; clear hK6 K6
      refine code_region ?_
      refine list_cons rfl (op_q (by first | exact q_addI rfl rfl (by decide) (by omega) (by omega) | exact q_ib rfl rfl rfl (by decide)) ?_)
      refine list_cons rfl (op_q (q_move rfl (by decide)) ?_)
      refine list_nil ?_
      refine then_n ⟨(_, _), imp_covers ⟨rfl, rfl, rfl, rfl, rfl, trivial⟩, ?_, ?_⟩
      · (try dsimp only)
        refine ⟨by omega, by omega, fun j hj => ?_⟩
        by_cases e : j = t8.toNat
        · subst e; exact h2
        · exact i3 j (by omega)
      · (try dsimp only); omega
    (try simp only [Decidable.not_not] at h1)
    refine code_exit ?_
    refine then_x ?_; clear hK5 K5
    refine then_x ?_
    refine blk_hit ?_
    refine hK2 _ ?_; clear hK2 K2
    refine code_seq (fun K10 hK10 => ?_)
    refine code_region ?_
    refine list_cons rfl (op_q (q_assign rfl (by decide)) ?_)
    refine list_nil ?_
    refine hK10 _ ?_; clear hK10 K10
    refine code_ret ?_
    refine ends_ret (cs := []) rfl rfl rfl rfl trivial ?_
    first
      | exact ⟨_, rfl, fun _ => ⟨t8.toNat, by omega, h1⟩, fun _ => by omega⟩
      | exact ⟨_, rfl, fun h => by omega, fun ⟨j, hj, hp⟩ => absurd hp (i3 j (by omega))⟩

set_option maxRecDepth 4000 in
theorem containsF0_c (l : List Int) (f : FuncId) (p : Int → Prop) [DecidablePred p] (hl : l.length ≤ 4611686018427387904) (hf : ∀ j, j < l.length → PCalls Tryd.prog f [.int .i64 (l.getD j 0)] (· = [.val (.bool (decide (p (l.getD j 0))))])) : PCalls Tryd.prog 72 [.sl l.length (l.map (.int .i64)), .clo f []] (fun rs => rs = [.val (.bool (decide (∃ j, j < l.length ∧ p (l.getD j 0))))]) := by
  refine pcalls_of_code (n := 9) az Tryd.func72 (by kernel_rfl) rfl rfl (Nat.le_of_ble_eq_true rfl) (by intro t u h; simp [Tryd.f72] at h) ?_
  refine code_seq (fun K1 hK1 => ?_)
  refine code_region ?_
  refine list_cons rfl (op_q (q_assign rfl (by decide)) ?_)
  refine list_nil ?_
  refine hK1 _ ?_; clear hK1 K1
  refine code_seq (fun K2 hK2 => ?_)
  refine code_region ?_
  refine list_cons rfl (op_q (q_move rfl (by decide)) ?_)
  refine list_cons rfl (op_q (q_move rfl (by decide)) ?_)
  refine list_cons rfl (op_call _ (indexF0_c l f p hl hf) rfl rfl (by decide) (by decide) (by decide) rfl ?_)
  rintro _ ⟨ix, rfl, hix⟩
  refine list_cons rfl (op_q (q_ge rfl rfl (by decide)) ?_)
  refine list_cons rfl (op_q (q_assign rfl (by decide)) ?_)
  refine list_nil ?_
  refine hK2 _ ?_; clear hK2 K2
  refine codeT.imp (σ' := [(0, _), (1, _), (4, _)]) ?_ (imp_covers ⟨rfl, rfl, rfl, trivial⟩)
  refine code_ret ?_
  refine ends_ret (cs := []) rfl rfl rfl rfl trivial ?_
  congr 3
  exact decide_eq_decide.mpr hix

set_option maxRecDepth 4000 in
theorem isPattern1_c (c : Int) : PCalls Tryd.prog 73 [.int .i64 c] (· = [.val (.bool (decide (c ≠ -1 ∧ ¬ (0 ≤ c ∧ c ≤ 127))))]) := by
  refine pcalls_of_code (n := 10) az Tryd.func73 (by kernel_rfl) rfl rfl (Nat.le_of_ble_eq_true rfl) (by intro t u h; simp [Tryd.f73] at h) ?_
  refine code_seq (fun K1 hK1 => ?_)
  refine code_region ?_
  refine list_cons rfl (op_q (q_assign rfl (by decide)) ?_)
  refine list_nil ?_
  refine hK1 _ ?_; clear hK1 K1
  refine code_seq (fun K2 hK2 => ?_)
  refine code_region ?_
  refine list_cons rfl (op_q (q_move rfl (by decide)) ?_)
  refine list_cons rfl (op_q (q_ne rfl rfl (by decide)) ?_)
  refine list_cons rfl (op_q (q_move rfl (by decide)) ?_)
  refine list_guard_d rfl rfl rfl rfl (by decide) rfl (by decide) (fun h1 => ?_) (fun h1 => ?_)
  · simp only [Bool.false_eq_true, if_true, if_false, Decidable.not_not] at h1
    refine id (op_q (q_move rfl (by decide)) ?_)
    refine list_guard_y rfl rfl rfl rfl (by decide) rfl ?_
    refine id (op_call _ (impl_IsCell _) rfl rfl (by decide) (by decide) (by decide) rfl ?_)
    rintro _ rfl
    refine list_guard_y rfl rfl rfl rfl (by decide) rfl ?_
    refine id (op_q (by first | exact q_notd rfl (by decide) | exact q_not rfl (by decide)) ?_)
    refine list_cons rfl (op_q (q_pick rfl rfl (by decide)) ?_)
    refine list_cons rfl (op_q (q_assign rfl (by decide)) ?_)
    refine list_nil ?_
    refine hK2 _ ?_; clear hK2 K2
    refine codeT.imp (σ' := [(0, _), (2, _)]) ?_ (imp_covers ⟨rfl, rfl, trivial⟩)
    refine code_ret ?_
    refine ends_ret (cs := []) rfl rfl rfl rfl trivial ?_
    first
      | (rw [decide_eq_false (fun k : c ≠ -1 ∧ ¬ (0 ≤ c ∧ c ≤ 127) => absurd (by assumption) k.1)]; done)
      | (rw [decide_eq_false (fun k : c ≠ -1 ∧ ¬ (0 ≤ c ∧ c ≤ 127) => k.1 (by assumption))]; done)
      | (congr 3; exact decide_eq_decide.mpr ⟨fun k => ⟨by assumption, k⟩, fun k => k.2⟩)
  simp only [Bool.false_eq_true, if_true, if_false, Decidable.not_not] at h1
  refine list_guard_n rfl rfl rfl rfl (by decide) rfl ?_
  refine list_guard_n rfl rfl rfl rfl (by decide) rfl ?_
  refine list_cons rfl (op_q (q_pick rfl rfl (by decide)) ?_)
  refine list_cons rfl (op_q (q_assign rfl (by decide)) ?_)
  refine list_nil ?_
  refine hK2 _ ?_; clear hK2 K2
  refine code_ret ?_
  refine ends_ret (cs := []) rfl rfl rfl rfl trivial ?_
  first
    | (rw [decide_eq_false (fun k : c ≠ -1 ∧ ¬ (0 ≤ c ∧ c ≤ 127) => absurd (by assumption) k.1)]; done)
    | (rw [decide_eq_false (fun k : c ≠ -1 ∧ ¬ (0 ≤ c ∧ c ≤ 127) => k.1 (by assumption))]; done)
    | (congr 3; exact decide_eq_decide.mpr ⟨fun k => ⟨by assumption, k⟩, fun k => k.2⟩)

set_option maxRecDepth 4000 in
theorem impl_isPattern (l : List Int) (hl : l.length ≤ 4611686018427387904) : PCalls Tryd.prog 52 [.sl l.length (l.map (.int .i64))] (· = [.val (.bool (decide (LikP l)))]) := by
  refine pcalls_of_code (n := 11) az Tryd.func52 (by kernel_rfl) rfl rfl (Nat.le_of_ble_eq_true rfl) (by intro t u h; simp [Tryd.f52] at h) ?_
  refine code_seq (fun K1 hK1 => ?_)
  refine code_region ?_
  refine list_cons rfl (op_q (q_assign rfl (by decide)) ?_)
  refine list_nil ?_
  refine hK1 _ ?_; clear hK1 K1
  refine code_seq (fun K2 hK2 => ?_)
  refine code_region ?_
  refine list_cons rfl (op_q (q_move rfl (by decide)) ?_)
  refine list_cons rfl (op_q (q_len_sl Tryd.underlying25 rfl rfl (by decide)) ?_)
  refine list_cons rfl (op_q (q_eq rfl rfl (by decide)) ?_)
  refine list_cons rfl (op_q (q_move rfl (by decide)) ?_)
  refine list_guard_d rfl rfl rfl rfl (by decide) rfl (by decide) (fun h1 => ?_) (fun h1 => ?_)
  · simp only [Bool.false_eq_true, if_true, if_false, Decidable.not_not] at h1
    refine id (op_q (q_move rfl (by decide)) ?_)
    refine list_guard_y rfl rfl rfl rfl (by decide) rfl ?_
    refine id (op_call _ (containsF0_c l 73 (fun c => c ≠ -1 ∧ ¬ (0 ≤ c ∧ c ≤ 127)) hl (fun j hj => isPattern1_c _)) rfl rfl (by decide) (by decide) (by decide) rfl ?_)
    rintro _ rfl
    refine list_guard_y rfl rfl rfl rfl (by decide) rfl ?_
    refine id (op_q (by first | exact q_notd rfl (by decide) | exact q_not rfl (by decide)) ?_)
    refine list_cons rfl (op_q (q_pick rfl rfl (by decide)) ?_)
    refine list_cons rfl (op_q (q_assign rfl (by decide)) ?_)
    refine list_nil ?_
    refine hK2 _ ?_; clear hK2 K2
    refine codeT.imp (σ' := [(0, _), (2, _)]) ?_ (imp_covers ⟨rfl, rfl, trivial⟩)
    refine code_ret ?_
    refine ends_ret (cs := []) rfl rfl rfl rfl trivial ?_
    first
      | (rw [decide_eq_false (fun k : LikP l => absurd k.1 (by assumption))]; done)
      | (congr 3
         refine decide_eq_decide.mpr ⟨fun k => ⟨by assumption, fun j hj => ?_⟩, fun k => ?_⟩
         · by_cases e1 : l.getD j 0 = -1
           · exact .inl e1
           · by_cases e2 : 0 ≤ l.getD j 0 ∧ l.getD j 0 ≤ 127
             · exact .inr e2
             · exact absurd ⟨j, by omega, e1, e2⟩ k
         · rintro ⟨j, hj, e1, e2⟩
           exact (k.2 j (by omega)).elim e1 e2)
  simp only [Bool.false_eq_true, if_true, if_false, Decidable.not_not] at h1
  refine list_guard_n rfl rfl rfl rfl (by decide) rfl ?_
  refine list_guard_n rfl rfl rfl rfl (by decide) rfl ?_
  refine list_cons rfl (op_q (q_pick rfl rfl (by decide)) ?_)
  refine list_cons rfl (op_q (q_assign rfl (by decide)) ?_)
  refine list_nil ?_
  refine hK2 _ ?_; clear hK2 K2
  refine code_ret ?_
  refine ends_ret (cs := []) rfl rfl rfl rfl trivial ?_
  first
    | (rw [decide_eq_false (fun k : LikP l => absurd k.1 (by assumption))]; done)
    | (congr 3
       refine decide_eq_decide.mpr ⟨fun k => ⟨by assumption, fun j hj => ?_⟩, fun k => ?_⟩
       · by_cases e1 : l.getD j 0 = -1
         · exact .inl e1
         · by_cases e2 : 0 ≤ l.getD j 0 ∧ l.getD j 0 ≤ 127
           · exact .inr e2
           · exact absurd ⟨j, by omega, e1, e2⟩ k
       · rintro ⟨j, hj, e1, e2⟩
         exact (k.2 j (by omega)).elim e1 e2)

set_option maxRecDepth 4000 in
theorem timesLike11_c (a b : Int) : PCalls Tryd.prog 55 [.int .i64 a, .int .i64 b] (· = [.val (.bool (decide (b = -1 ∨ a = b)))]) := by
  refine pcalls_of_code (n := 12) az Tryd.func55 (by kernel_rfl) rfl rfl (Nat.le_of_ble_eq_true rfl) (by intro t u h; simp [Tryd.f55] at h) ?_
  refine code_seq (fun K1 hK1 => ?_)
  refine code_region ?_
  refine list_cons rfl (op_q (q_assign rfl (by decide)) ?_)
  refine list_nil ?_
  refine hK1 _ ?_; clear hK1 K1
  refine code_seq (fun K2 hK2 => ?_)
  refine code_region ?_
  refine list_cons rfl (op_q (q_move rfl (by decide)) ?_)
  refine list_cons rfl (op_q (q_eq rfl rfl (by decide)) ?_)
  refine list_cons rfl (op_q (q_move rfl (by decide)) ?_)
  refine list_guard_d rfl rfl rfl rfl (by decide) rfl (by decide) (fun h1 => ?_) (fun h1 => ?_)
  · simp only [Bool.false_eq_true, if_true, if_false, Decidable.not_not] at h1
    refine id (op_q (q_move rfl (by decide)) ?_)
    refine list_guard_y rfl rfl rfl rfl (by decide) rfl ?_
    refine id (op_q (q_move rfl (by decide)) ?_)
    refine list_guard_y rfl rfl rfl rfl (by decide) rfl ?_
    refine id (op_q (q_eq rfl rfl (by decide)) ?_)
    refine list_cons rfl (op_q (q_pick rfl rfl (by decide)) ?_)
    refine list_cons rfl (op_q (q_assign rfl (by decide)) ?_)
    refine list_nil ?_
    refine hK2 _ ?_; clear hK2 K2
    refine codeT.imp (σ' := [(0, _), (1, _), (4, _)]) ?_ (imp_covers ⟨rfl, rfl, rfl, trivial⟩)
    refine code_ret ?_
    refine ends_ret (cs := []) rfl rfl rfl rfl trivial ?_
    first
      | (rw [decide_eq_true (show b = -1 ∨ a = b from .inl (by assumption))]; done)
      | (congr 3; exact decide_eq_decide.mpr ⟨fun k => .inr k, fun k => k.resolve_left (by assumption)⟩)
  simp only [Bool.false_eq_true, if_true, if_false, Decidable.not_not] at h1
  refine list_guard_n rfl rfl rfl rfl (by decide) rfl ?_
  refine list_guard_n rfl rfl rfl rfl (by decide) rfl ?_
  refine list_cons rfl (op_q (q_pick rfl rfl (by decide)) ?_)
  refine list_cons rfl (op_q (q_assign rfl (by decide)) ?_)
  refine list_nil ?_
  refine hK2 _ ?_; clear hK2 K2
  refine code_ret ?_
  refine ends_ret (cs := []) rfl rfl rfl rfl trivial ?_
  first
    | (rw [decide_eq_true (show b = -1 ∨ a = b from .inl (by assumption))]; done)
    | (congr 3; exact decide_eq_decide.mpr ⟨fun k => .inr k, fun k => k.resolve_left (by assumption)⟩)

set_option maxRecDepth 4000 in
theorem equalF_c (l m : List Int) (f : FuncId) (p : Int → Int → Prop) [∀ a b, Decidable (p a b)] (hl : l.length ≤ 4611686018427387904) (hm : m.length ≤ 4611686018427387904) (hf : ∀ a b, PCalls Tryd.prog f [.int .i64 a, .int .i64 b] (· = [.val (.bool (decide (p a b)))])) : PCalls Tryd.prog 54 [.sl l.length (l.map (.int .i64)), .sl m.length (m.map (.int .i64)), .clo f []] (· = [.val (.bool (decide (l.length = m.length ∧ ∀ j, j < l.length → p (l.getD j 0) (m.getD j 0))))]) := by
  refine pcalls_of_code (n := 32) az Tryd.func54 (by kernel_rfl) rfl rfl (Nat.le_of_ble_eq_true rfl) (by intro t u h; simp [Tryd.f54] at h) ?_
  refine code_seq (fun K1 hK1 => ?_)
  refine code_region ?_
  refine list_cons rfl (op_q (q_assign rfl (by decide)) ?_)
  refine list_nil ?_
  refine hK1 _ ?_; clear hK1 K1
  refine code_seq (fun K2 hK2 => ?_)
  refine code_seq (fun K3 hK3 => ?_)
  refine code_region ?_
  refine list_cons rfl (op_q (q_move rfl (by decide)) ?_)
  refine list_cons rfl (op_q (q_len_sl Tryd.underlying25 rfl rfl (by decide)) ?_)
  refine list_cons rfl (op_q (q_move rfl (by decide)) ?_)
  refine list_cons rfl (op_q (q_len_sl Tryd.underlying25 rfl rfl (by decide)) ?_)
  refine list_cons rfl (op_q (q_ne rfl rfl (by decide)) ?_)
  refine list_nil ?_
  refine hK3 _ ?_; clear hK3 K3
  refine code_cond_d rfl (fun h1 => ?_) (fun h1 => ?_)
  · skip
    (try simp only [Decidable.not_not] at h1)
    refine code_seq (fun K4 hK4 => ?_)
    refine code_region ?_
    refine list_cons rfl (op_q (q_assign rfl (by decide)) ?_)
    refine list_nil ?_
    refine hK4 _ ?_; clear hK4 K4
    refine code_ret ?_
    refine then_r ?_; clear hK2 K2
    refine ends_ret (cs := []) rfl rfl rfl rfl trivial ?_
    first
      | (rw [decide_eq_false (fun k => absurd k.1 (by omega))]; done)
      | (rw [decide_eq_false (fun k => absurd (k.2 t17.toNat (by omega)) h1)]; done)
      | (rw [decide_eq_true (show l.length = m.length ∧ ∀ j, j < l.length → p (l.getD j 0) (m.getD j 0) from ⟨i0, fun j hj => i3 j (by omega)⟩)]; done)
  (try simp only [Decidable.not_not] at h1)
  refine code_skip ?_
  refine hK2 _ ?_; clear hK2 K2
  refine code_seq (fun K5 hK5 => ?_)
  refine code_seq (fun K6 hK6 => ?_)
  refine code_region ?_
  refine list_cons rfl (op_q (q_move rfl (by decide)) ?_)
  refine list_cons rfl (op_q (q_len_sl Tryd.underlying25 rfl rfl (by decide)) ?_)
  refine list_cons rfl (op_q (q_move rfl (by decide)) ?_)
  refine list_nil ?_
  refine hK6 _ ?_; clear hK6 K6
  refine code_block ?_
  refine code_loop (X := Bool × Int) (fun x => [(0, .par 0 (.sl l.length (l.map (.int .i64)))), (1, .par 1 (.sl m.length (m.map (.int .i64)))), (2, .val (.clo f [])), (6, .val (.bool x.1)), (15, .par 0 (.sl l.length (l.map (.int .i64)))), (16, .val (.int .i64 l.length)), (17, .val (.int .i64 x.2))]) (fun x => l.length = m.length ∧ 0 ≤ x.2 ∧ x.2 ≤ l.length ∧ ∀ j, j < x.2.toNat → p (l.getD j 0) (m.getD j 0)) (fun x => (l.length - x.2).toNat) (_, _) (imp_covers ⟨rfl, rfl, rfl, rfl, rfl, rfl, rfl, trivial⟩) ?_ ?_
  · (try dsimp only)
    exact ⟨by omega, by omega, by omega, fun j hj => by simp at hj⟩
  · intro x hI
    obtain ⟨t6, t17⟩ := x
    replace hI : l.length = m.length ∧ 0 ≤ t17 ∧ t17 ≤ l.length ∧ ∀ j, j < t17.toNat → p (l.getD j 0) (m.getD j 0) := hI
    show codeT _ _ _ [(0, .par 0 (.sl l.length (l.map (.int .i64)))), (1, .par 1 (.sl m.length (m.map (.int .i64)))), (2, .val (.clo f [])), (6, .val (.bool t6)), (15, .par 0 (.sl l.length (l.map (.int .i64)))), (16, .val (.int .i64 l.length)), (17, .val (.int .i64 t17))] _
    obtain ⟨i0, i1, i2, i3⟩ := hI
    refine code_seq (fun K7 hK7 => ?_)
    refine code_region ?_
    refine list_cons rfl (op_q (q_lt rfl rfl (by decide)) ?_)
    refine list_nil ?_
    refine hK7 _ ?_; clear hK7 K7
    refine code_seq (fun K8 hK8 => ?_)
    refine code_cond_d rfl (fun h2 => ?_) (fun h2 => ?_)
    · skip
      (try simp only [Decidable.not_not] at h2)
      refine code_skip ?_
      refine hK8 _ ?_; clear hK8 K8
      refine code_seq (fun K9 hK9 => ?_)
      refine code_block ?_
      refine code_seq (fun K10 hK10 => ?_)
      refine code_region ?_
      refine list_cons rfl (op_q (q_move rfl (by decide)) ?_)
      refine list_cons rfl (op_q (q_indexAddr_rd sl_25 rfl (.inl ⟨_, rfl, rfl⟩) rfl (by omega) (by omega) (by decide)) ?_)
      refine list_cons rfl (op_q (q_load_rd one_3 rfl (.inl ⟨_, (by first | rfl | exact congrArg (SV.rpar _) (drop_map1 _ 0 _ (by first | omega | (simp; omega)))), rfl⟩) (by decide)) ?_)
      refine list_cons rfl (op_q (q_assign rfl (by decide)) ?_)
      refine list_cons rfl (op_q (q_assign rfl (by decide)) ?_)
      refine list_nil ?_
      refine hK10 _ ?_; clear hK10 K10
      refine code_seq (fun K11 hK11 => ?_)
      refine code_region ?_
      refine list_cons rfl (op_q (q_move rfl (by decide)) ?_)
      refine list_cons rfl (op_q (q_move rfl (by decide)) ?_)
      refine list_cons rfl (op_q (q_indexAddr_rd sl_25 rfl (.inl ⟨_, rfl, rfl⟩) rfl (by omega) (by omega) (by decide)) ?_)
      refine list_cons rfl (op_q (q_load_rd one_3 rfl (.inl ⟨_, (by first | rfl | exact congrArg (SV.rpar _) (drop_map1 _ 0 _ (by first | omega | (simp; omega)))), rfl⟩) (by decide)) ?_)
      refine list_cons rfl (op_q (q_assign rfl (by decide)) ?_)
      refine list_nil ?_
      refine hK11 _ ?_; clear hK11 K11
      refine codeT.imp (σ' := [(0, _), (1, _), (2, _), (6, _), (7, _), (8, _), (9, _), (15, _), (16, _), (17, _)]) ?_ (imp_covers ⟨rfl, rfl, rfl, rfl, rfl, rfl, rfl, rfl, rfl, rfl, trivial⟩)
      refine code_seq (fun K12 hK12 => ?_)
      refine code_region ?_
      refine list_cons rfl (op_q (q_move rfl (by decide)) ?_)
      refine list_cons rfl (op_q (q_move rfl (by decide)) ?_)
      refine list_cons rfl (op_q (q_move rfl (by decide)) ?_)
      refine list_cons rfl (op_callV _ rfl rfl rfl rfl (pcV (hf _ _)) (by decide) ?_)
      rintro _ rfl
      refine list_cons rfl (op_q (by first | exact q_notd rfl (by decide) | exact q_not rfl (by decide)) ?_)
      refine list_nil ?_
      refine hK12 _ ?_; clear hK12 K12
      refine codeT.imp (σ' := [(0, _), (1, _), (2, _), (6, _), (7, _), (8, _), (9, _), (15, _), (16, _), (17, _), (30, _)]) ?_ (imp_covers ⟨rfl, rfl, rfl, rfl, rfl, rfl, rfl, rfl, rfl, rfl, rfl, trivial⟩)
      refine code_cond_d rfl (fun h3 => ?_) (fun h3 => ?_)
      · skip
        (try simp only [Decidable.not_not] at h3)
        refine code_seq (fun K13 hK13 => ?_)
        refine code_region ?_
        refine list_cons rfl (op_q (q_assign rfl (by decide)) ?_)
        refine list_nil ?_
        refine hK13 _ ?_; clear hK13 K13
        refine code_ret ?_
        refine blk_r ?_
        refine then_r ?_; clear hK9 K9
        refine then_r ?_
        refine blk_r ?_
        refine then_r ?_; clear hK5 K5
        refine ends_ret (cs := []) rfl rfl rfl rfl trivial ?_
        first
          | (rw [decide_eq_false (fun k => absurd k.1 (by omega))]; done)
          | (rw [decide_eq_false (fun k => absurd (k.2 t17.toNat (by omega)) h3)]; done)
          | (rw [decide_eq_true (show l.length = m.length ∧ ∀ j, j < l.length → p (l.getD j 0) (m.getD j 0) from ⟨i0, fun j hj => i3 j (by omega)⟩)]; done)
      (try simp only [Decidable.not_not] at h3)
      refine code_skip ?_
      refine blk_n ?_
      refine hK9 _ ?_; clear hK9 K9
      refine code_region ?_
      refine list_cons rfl (op_q (by first | exact q_addI rfl rfl (by decide) (by omega) (by omega) | exact q_ib rfl rfl rfl (by decide)) ?_)
      refine list_cons rfl (op_q (q_move rfl (by decide)) ?_)
      refine list_nil ?_
      refine then_n ⟨(_, _), imp_covers ⟨rfl, rfl, rfl, rfl, rfl, rfl, rfl, trivial⟩, ?_, ?_⟩
      · (try dsimp only)
        refine ⟨i0, by omega, by omega, fun j hj => ?_⟩
        by_cases e : j = t17.toNat
        · subst e; exact h3
        · exact i3 j (by omega)
      · (try dsimp only); omega
    (try simp only [Decidable.not_not] at h2)
    refine code_exit ?_
    refine then_x ?_; clear hK8 K8
    refine then_x ?_
    refine blk_hit ?_
    refine hK5 _ ?_; clear hK5 K5
    refine code_seq (fun K14 hK14 => ?_)
    refine code_region ?_
    refine list_cons rfl (op_q (q_assign rfl (by decide)) ?_)
    refine list_nil ?_
    refine hK14 _ ?_; clear hK14 K14
    refine code_ret ?_
    refine ends_ret (cs := []) rfl rfl rfl rfl trivial ?_
    first
      | (rw [decide_eq_false (fun k => absurd k.1 (by omega))]; done)
      | (rw [decide_eq_false (fun k => absurd (k.2 t17.toNat (by omega)) h2)]; done)
      | (rw [decide_eq_true (show l.length = m.length ∧ ∀ j, j < l.length → p (l.getD j 0) (m.getD j 0) from ⟨i0, fun j hj => i3 j (by omega)⟩)]; done)

/-- The row of a time is like a row. -/
def tlQ (l : List Int) (t : Int) : Prop := (rowT t).length = l.length ∧ ∀ j, j < (rowT t).length → l.getD j 0 = -1 ∨ (rowT t).getD j 0 = l.getD j 0
instance (l : List Int) (t : Int) : Decidable (tlQ l t) := by unfold tlQ; infer_instance

set_option maxRecDepth 4000 in
theorem timesLike1_c (l : List Int) (t : Int) (hl : l.length ≤ 4611686018427387904) (hT : TmP t) : PCalls Tryd.prog 53 [.int .i64 t, .ptr [.sl l.length (l.map (.int .i64))]] (· = [.val (.bool (decide (tlQ l t)))]) := by
  refine pcalls_of_code (n := 17) az Tryd.func53 (by kernel_rfl) rfl rfl (Nat.le_of_ble_eq_true rfl) (by intro t u h; simp [Tryd.f53] at h) ?_
  refine codeT.imp ?_ (imp_rpar (s := 1) (i := 1) rfl)
  refine code_seq (fun K1 hK1 => ?_)
  refine code_region ?_
  refine list_cons rfl (op_q (q_assign rfl (by decide)) ?_)
  refine list_nil ?_
  refine hK1 _ ?_; clear hK1 K1
  refine code_seq (fun K2 hK2 => ?_)
  refine code_region ?_
  refine list_cons rfl (op_q (q_move rfl (by decide)) ?_)
  refine list_cons rfl (op_call _ (impl_ClockRow t) rfl rfl (by decide) (by decide) (by decide) rfl ?_)
  rintro _ rfl; simp only [if_pos hT, decide_eq_true hT]
  refine list_cons rfl (op_q (q_move rfl (by decide)) ?_)
  refine list_cons rfl (op_q (q_extract rfl rfl (by decide)) ?_)
  refine list_cons rfl (op_q (q_extract rfl rfl (by decide)) ?_)
  refine list_cons rfl (op_q (q_assign rfl (by decide)) ?_)
  refine list_cons rfl (op_q (q_assign rfl (by decide)) ?_)
  refine list_nil ?_
  refine hK2 _ ?_; clear hK2 K2
  refine codeT.imp (σ' := [(0, _), (1, _), (3, _), (4, _), (5, _)]) ?_ (imp_covers ⟨rfl, rfl, rfl, rfl, rfl, trivial⟩)
  refine code_seq (fun K3 hK3 => ?_)
  refine code_region ?_
  refine list_cons rfl (op_q (q_move rfl (by decide)) ?_)
  refine list_cons rfl (op_q (q_move rfl (by decide)) ?_)
  refine list_guard_y rfl rfl rfl rfl (by decide) rfl ?_
  refine id (op_q (q_move rfl (by decide)) ?_)
  refine list_guard_y rfl rfl rfl rfl (by decide) rfl ?_
  refine id (op_q (q_load_rd one_25 rfl (.inl ⟨_, (by first | rfl | exact congrArg (SV.rpar _) (drop_map1 _ [] _ (by first | omega | (simp; omega)))), rfl⟩) (by decide)) ?_)
  refine list_guard_y rfl rfl rfl rfl (by decide) rfl ?_
  refine id (op_call _ (equalF_c (rowT t) l 55 (fun a b => b = -1 ∨ a = b) (by rw [rowT_len]; decide) hl (fun a b => timesLike11_c a b)) rfl rfl (by decide) (by decide) (by decide) rfl ?_)
  rintro _ rfl
  refine list_cons rfl (op_q (q_pick rfl rfl (by decide)) ?_)
  refine list_cons rfl (op_q (q_assign rfl (by decide)) ?_)
  refine list_nil ?_
  refine hK3 _ ?_; clear hK3 K3
  refine codeT.imp (σ' := [(0, _), (1, _), (3, _), (4, _), (5, _)]) ?_ (imp_covers ⟨rfl, rfl, rfl, rfl, rfl, trivial⟩)
  refine code_ret ?_
  refine ends_ret (cs := []) rfl rfl rfl rfl trivial ?_
  first | rfl

set_option maxRecDepth 8000 in
set_option maxHeartbeats 2000000 in
theorem impl_TimesLike (l : List Int) (hl : l.length ≤ 4611686018427387904) : MCalls Tryd.prog 28 true none [.sl l.length (l.map (.int .i64))] (fun rs _ => rs = [.own 0 3 1 (if LikP l then selK (tlP l) 1440 else []).length ((if LikP l then selK (tlP l) 1440 else []).map (.int .i64)), .val (.bool (decide (LikP l)))]) := by
  refine mcalls_of_code (n := 10) az Tryd.func28 (by kernel_rfl) rfl rfl (Nat.le_of_ble_eq_true rfl) (by intro t u h; simp [Tryd.f28] at h) ?_
  refine code_seq (fun K1 hK1 => ?_)
  refine code_region ?_
  refine list_cons rfl (op_box rfl (.inr rfl) (by decide) (by decide) rfl ?_)
  refine list_cons rfl (op_q (q_assign rfl (by decide)) ?_)
  refine list_cons rfl (op_q (q_assign rfl (by decide)) ?_)
  refine list_nil ?_
  refine hK1 _ ?_; clear hK1 K1
  refine code_seq (fun K2 hK2 => ?_)
  refine code_seq (fun K3 hK3 => ?_)
  refine code_region ?_
  refine list_cons rfl (op_q (q_load_boxD one_25 rfl (by decide)) ?_)
  refine list_cons rfl (op_call _ (impl_isPattern l hl) rfl rfl (by decide) (by decide) (by decide) rfl ?_)
  rintro _ rfl
  refine list_cons rfl (op_q (by first | exact q_notd rfl (by decide) | exact q_not rfl (by decide)) ?_)
  refine list_nil ?_
  refine hK3 _ ?_; clear hK3 K3
  refine codeT.imp (σ' := [(0, _), (1, _), (2, _), (3, _), (6, _)]) ?_ (imp_covers ⟨rfl, rfl, rfl, rfl, rfl, trivial⟩)
  refine code_cond_d rfl (fun h1 => ?_) (fun h1 => ?_)
  · skip
    (try simp only [Decidable.not_not] at h1)
    refine code_seq (fun K4 hK4 => ?_)
    refine code_region ?_
    refine list_cons rfl (op_buildSlice sl_25 (parts := []) rfl rfl rfl (by decide) (by decide) (by decide) rfl ?_)
    refine list_cons rfl (op_q (q_assign rfl (by decide)) ?_)
    refine list_cons rfl (op_q (q_assign rfl (by decide)) ?_)
    refine list_nil ?_
    refine hK4 _ ?_; clear hK4 K4
    refine code_ret ?_
    refine then_r ?_; clear hK2 K2
    refine ends_ret (cs := []) rfl rfl rfl rfl trivial ?_
    first
      | (have e : ¬ LikP l := by assumption
         simp only [if_neg e, decide_eq_false e]; rfl)
      | (have e : LikP l := by assumption
         have el := e.1
         rw [selF_K (tlP l) (tlQ l) 1440 (Nat.le_refl _) (fun j hj => ⟨fun k => ⟨by rw [rowT_len]; omega, fun i hi => (k i (by rw [rowT_len] at hi; exact hi)).imp id Eq.symm⟩, fun k i hi => (k.2 i (by rw [rowT_len]; exact hi)).imp id Eq.symm⟩)]
         simp only [if_pos e, decide_eq_true e]; done)
  (try simp only [Decidable.not_not] at h1)
  refine code_skip ?_
  refine hK2 _ ?_; clear hK2 K2
  refine code_seq (fun K5 hK5 => ?_)
  refine code_region ?_
  refine list_cons rfl (op_makeFuncB (xs := [.tmp 1]) rfl rfl rfl (by decide) (by decide) rfl ?_)
  refine list_cons rfl (op_callM (timesThat_B 53 [.sl l.length (l.map (.int .i64))] [] (tlQ l) (fun t h => timesLike1_c l t hl h)) (.tmp 0) 0 [] [.tmp 8] _ rfl rfl (by intro y hy; cases hy) (by decide) (by decide) (by decide) rfl (by intro h; cases h) ?_)
  rintro _ _ rfl
  refine list_cons rfl (op_q (q_assign rfl (by decide)) ?_)
  refine list_cons rfl (op_q (q_assign rfl (by decide)) ?_)
  refine list_nil ?_
  refine hK5 _ ?_; clear hK5 K5
  refine codeT.imp (σ' := [(0, _), (1, _), (2, _), (3, _)]) ?_ (imp_covers ⟨rfl, rfl, rfl, rfl, trivial⟩)
  refine code_ret ?_
  refine ends_ret (cs := []) rfl rfl rfl rfl trivial ?_
  first
    | (have e : ¬ LikP l := by assumption
       simp only [if_neg e, decide_eq_false e]; rfl)
    | (have e : LikP l := by assumption
       have el := e.1
       rw [selF_K (tlP l) (tlQ l) 1440 (Nat.le_refl _) (fun j hj => ⟨fun k => ⟨by rw [rowT_len]; omega, fun i hi => (k i (by rw [rowT_len] at hi; exact hi)).imp id Eq.symm⟩, fun k i hi => (k.2 i (by rw [rowT_len]; exact hi)).imp id Eq.symm⟩)]
       simp only [if_pos e, decide_eq_true e]; done)

end Go.Proofs.YtdlckhdalbagmabDoor
