/- Contracts of functions, walked over the pure layer; each says for which arguments. -/
import Derived.Test.YtdlckhdalbagmaaDoorl4Ty
import Derived.Test.YtdlckhdalbagmaaDoorTf
import Derived.Test.YtdlckhdalbagmaaDoorl1
import Derived.Test.YtdlckhdalbagmaaDoorShelf
import Derived.Test.YtdlckhdalbagmaaDoorl2
import Derived.Test.YtdlckhdalbagmaaDoorl3
namespace Go.Proofs.YtdlckhdalbagmaaDoor
open Go.RowKit l4Ty
set_option linter.unusedVariables false
set_option linter.unusedSimpArgs false

theorem mem_selK {p : Nat → Prop} [DecidablePred p] {k : Nat} {x : Int} : x ∈ selK p k ↔ ∃ j : Nat, j < k ∧ p j ∧ x = (j : Int) := by
  unfold selK
  rw [List.mem_map]
  constructor
  · rintro ⟨j, hj, rfl⟩
    have := List.mem_filter.1 hj
    exact ⟨j, List.mem_range.1 this.1, of_decide_eq_true this.2, rfl⟩
  · rintro ⟨j, h1, h2, rfl⟩
    exact ⟨j, List.mem_filter.2 ⟨List.mem_range.2 h1, decide_eq_true h2⟩, rfl⟩
theorem selK_at {p : Nat → Prop} [DecidablePred p] {k i : Nat} (h : i < (selK p k).length) : ∃ j : Nat, j < k ∧ p j ∧ (selK p k).getD i 0 = (j : Int) := by
  refine mem_selK.1 ?_
  rw [List.getD_eq_getElem?_getD, List.getElem?_eq_getElem h]; exact List.getElem_mem h
theorem brK_max : ∀ k j, j ≤ k → litT j ≤ litT (brK k)
  | 0, j, h => by rw [show j = 0 by omega]; exact Int.le_refl _
  | k + 1, j, h => by
    unfold brK
    by_cases e : j = k + 1
    · subst e; split
      · exact Int.le_refl _
      · omega
    · have := brK_max k j (by omega)
      split
      · omega
      · exact this
theorem dkK_min : ∀ k j, j ≤ k → litT (dkK k) ≤ litT j
  | 0, j, h => by rw [show j = 0 by omega]; exact Int.le_refl _
  | k + 1, j, h => by
    unfold dkK
    by_cases e : j = k + 1
    · subst e; split
      · exact Int.le_refl _
      · omega
    · have := dkK_min k j (by omega)
      split
      · omega
      · exact this
set_option maxRecDepth 100000 in
theorem day_all (t : Nat) (h : t < 1440) : (MirP (t : Int) → MirP (mirT (t : Int)) ∧ mirT (mirT (t : Int)) = (t : Int)) ∧ (TurP (t : Int) → TurP (turT (t : Int)) ∧ turT (turT (t : Int)) = (t : Int)) ∧ TimP (rowT (t : Int)) ∧ timF (rowT (t : Int)) = (t : Int) := by
  have k : below 1440 (fun t => decide ((MirP ((t : Nat) : Int) → MirP (mirT (t : Int)) ∧ mirT (mirT (t : Int)) = (t : Int)) ∧ (TurP (t : Int) → TurP (turT (t : Int)) ∧ turT (turT (t : Int)) = (t : Int)) ∧ TimP (rowT (t : Int)) ∧ timF (rowT (t : Int)) = (t : Int))) = true := by kernel_rfl
  exact of_decide_eq_true (below_ok k t h)
theorem mir_back {t : Int} (h : TmP t) (hm : MirP t) : TmP (mirT t) ∧ MirP (mirT t) ∧ mirT (mirT t) = t := by
  have h1 := h.1; have h2 := h.2
  have k := (day_all t.toNat (by omega)).1
  rw [Int.toNat_of_nonneg h1] at k
  exact ⟨TimP.bd hm, k hm⟩
theorem tur_back {t : Int} (h : TmP t) (hm : TurP t) : TmP (turT t) ∧ TurP (turT t) ∧ turT (turT t) = t := by
  have h1 := h.1; have h2 := h.2
  have k := (day_all t.toNat (by omega)).2.1
  rw [Int.toNat_of_nonneg h1] at k
  exact ⟨TimP.bd hm, k hm⟩
theorem row_back {t : Int} (h : TmP t) : TimP (rowT t) ∧ timF (rowT t) = t := by
  have h1 := h.1; have h2 := h.2
  have k := (day_all t.toNat (by omega)).2.2
  rw [Int.toNat_of_nonneg h1] at k
  exact k
theorem same_mem {t : Int} (h : TmP t) (hm : MirP t) : mirT t = t ↔ t ∈ selK smP 1440 := by
  have h1 := h.1; have h2 := h.2
  rw [mem_selK]
  constructor
  · intro e
    exact ⟨t.toNat, by omega, by unfold smP; rw [Int.toNat_of_nonneg h1]; exact ⟨hm, e⟩, by omega⟩
  · rintro ⟨j, _, hj, rfl⟩; exact hj.2
theorem mem_prsK {k : Nat} {x : Int × Int} : x ∈ prsK k ↔ ∃ j : Nat, j < k ∧ (MirP (j : Int) ∧ (j : Int) < mirT (j : Int)) ∧ x = ((j : Int), mirT (j : Int)) := by
  unfold prsK
  rw [List.mem_map]
  constructor
  · rintro ⟨j, hj, rfl⟩
    have := List.mem_filter.1 hj
    exact ⟨j, List.mem_range.1 this.1, of_decide_eq_true this.2, rfl⟩
  · rintro ⟨j, h1, h2, rfl⟩
    exact ⟨j, List.mem_filter.2 ⟨List.mem_range.2 h1, decide_eq_true h2⟩, rfl⟩
/-- A time that mirrors to another one stands in a pair with it. -/
theorem pair_of {t : Int} (h : TmP t) (hm : MirP t) (hne : mirT t ≠ t) : ∃ i, i < (prsK 1440).length ∧ ((((prsK 1440).getD i (0, 0)).1 = t ∧ ((prsK 1440).getD i (0, 0)).2 = mirT t) ∨ (((prsK 1440).getD i (0, 0)).2 = t ∧ ((prsK 1440).getD i (0, 0)).1 = mirT t)) := by
  have h1 := h.1; have h2 := h.2
  have hb := mir_back h hm
  have hb1 := hb.1.1; have hb2 := hb.1.2
  have key : ∀ x : Int × Int, x ∈ prsK 1440 → ∃ i, i < (prsK 1440).length ∧ (prsK 1440).getD i (0, 0) = x := fun x hx => by
    obtain ⟨i, hi, e⟩ := List.getElem_of_mem hx
    exact ⟨i, hi, by rw [List.getD_eq_getElem?_getD, List.getElem?_eq_getElem hi]; exact e⟩
  by_cases hlt : t < mirT t
  · obtain ⟨i, hi, e⟩ := key (t, mirT t) (mem_prsK.2 ⟨t.toNat, by omega, by rw [Int.toNat_of_nonneg h1]; exact ⟨hm, hlt⟩, by rw [Int.toNat_of_nonneg h1]⟩)
    exact ⟨i, hi, .inl (by rw [e]; exact ⟨rfl, rfl⟩)⟩
  · obtain ⟨i, hi, e⟩ := key (mirT t, t) (mem_prsK.2 ⟨(mirT t).toNat, by omega, by rw [Int.toNat_of_nonneg hb1, hb.2.2]; exact ⟨hb.2.1, by omega⟩, by rw [Int.toNat_of_nonneg hb1, hb.2.2]⟩)
    exact ⟨i, hi, .inr (by rw [e]; exact ⟨rfl, rfl⟩)⟩
theorem list_eq_ofP6 (a b : List (Int × Int)) (hl : a.length = b.length) (h : ∀ j, j < a.length → a.getD j (0, 0) = b.getD j (0, 0)) : a = b := by
  apply List.ext_getElem hl
  intro j h1 h2
  have := h j h1
  rw [List.getD_eq_getElem?_getD, List.getElem?_eq_getElem h1, List.getD_eq_getElem?_getD, List.getElem?_eq_getElem h2] at this
  exact this
theorem fl_getA6 : ∀ (gs : List (Int × Int)) (k : Nat), k < gs.length → (fl gs)[k * 2]? = some (PV.int .i64 (gs.getD k (0, 0)).1) ∧ (fl gs)[k * 2 + 1]? = some (PV.int .i64 (gs.getD k (0, 0)).2)
  | g :: gs, 0, _ => ⟨rfl, rfl⟩
  | g :: gs, k + 1, h => by
    have ih := fl_getA6 gs k (by simpa using h)
    show (PV.int .i64 g.1 :: PV.int .i64 g.2 :: fl gs)[(k + 1) * 2]? = _ ∧ (PV.int .i64 g.1 :: PV.int .i64 g.2 :: fl gs)[(k + 1) * 2 + 1]? = _
    rw [show (k + 1) * 2 = k * 2 + 1 + 1 by omega]
    exact ih
theorem pr6_ld0 {gs : List (Int × Int)} {k : Nat} (h : k < gs.length) : (fl gs)[k * 2 + Int.toNat 0 * 1]? = some (PV.int .i64 (gs.getD k (0, 0)).1) := (fl_getA6 gs k h).1
theorem pr6_ld1 {gs : List (Int × Int)} {k : Nat} (h : k < gs.length) : (fl gs)[k * 2 + Int.toNat 1 * 1]? = some (PV.int .i64 (gs.getD k (0, 0)).2) := (fl_getA6 gs k h).2
theorem ckI_len (t : Int) : (if TmP t then rowT t else []).length ≤ 4 := by
  split
  · rw [rowT_len]; decide
  · simp
theorem apI_len (m : Int) : (if TmP m then selK (apP m) 1440 else []).length ≤ 1440 := by
  split
  · exact selK_len _ _
  · simp
theorem tbI_len (b : Int) : (if 0 ≤ b ∧ b ≤ 28 then selK (tbP b) 1440 else []).length ≤ 1440 := by
  split
  · exact selK_len _ _
  · simp
theorem tlI_len (l : List Int) : (if LikP l then selK (tlP l) 1440 else []).length ≤ 1440 := by
  split
  · exact selK_len _ _
  · simp
theorem wait_0 {t : Int} (h : TmP t ∧ MirP t) : (if TmP t then ((waitN t : Nat) : Int) else 0) = 0 := by
  have h0 := h.1.1; have h1 := h.1.2
  rw [if_pos h.1, waitN_eq (t := t) (w := 0) (by omega) (by rw [show (t + ((0 : Nat) : Int)) % 1440 = t by omega]; exact h.2) (fun j hj => by omega)]; rfl
theorem clk1 {t : Int} (h : TmP t ∧ MirP t) : TmP (if TmP t ∧ MirP t then mirT t else 0) ∧ MirP (if TmP t ∧ MirP t then mirT t else 0) := by
  rw [if_pos h]; exact ⟨(mir_back h.1 h.2).1, (mir_back h.1 h.2).2.1⟩
theorem clk2 {t : Int} (h : TmP t ∧ MirP t) : (if TmP (if TmP t ∧ MirP t then mirT t else 0) ∧ MirP (if TmP t ∧ MirP t then mirT t else 0) then mirT (if TmP t ∧ MirP t then mirT t else 0) else 0) = t := by
  rw [if_pos (clk1 h), if_pos h]; exact (mir_back h.1 h.2).2.2
theorem clk3 {t : Int} (h : TmP t ∧ MirP t) : decide ((if TmP t ∧ MirP t then mirT t else 0) = t) = decide (t ∈ selK smP 1440) := decide_eq_decide.mpr (by rw [if_pos h]; exact same_mem h.1 h.2)
/-- A time, or a pair among the first so many, tells that t mirrors to x. -/
def FndP (t x : Int) (k : Nat) : Prop := x = t ∨ ∃ j, j < k ∧ ((((prsK 1440).getD j (0, 0)).1 = t ∧ ((prsK 1440).getD j (0, 0)).2 = x) ∨ (((prsK 1440).getD j (0, 0)).2 = t ∧ ((prsK 1440).getD j (0, 0)).1 = x))
noncomputable instance (t x : Int) (k : Nat) : Decidable (FndP t x k) := by unfold FndP; infer_instance
theorem fnd_0 (t x : Int) : decide (x = t) = decide (FndP t x 0) := decide_eq_decide.mpr ⟨.inl, fun h => h.resolve_right (fun ⟨j, hj, _⟩ => by omega)⟩
theorem fnd_up {t x : Int} {k : Nat} (h : FndP t x k) : true = decide (FndP t x (k + 1)) := (decide_eq_true (h.imp id fun ⟨j, hj, h⟩ => ⟨j, by omega, h⟩)).symm
theorem fnd_a {t x : Int} {k : Nat} (h1 : ((prsK 1440).getD k (0, 0)).1 = t) (h2 : ((prsK 1440).getD k (0, 0)).2 = x) : true = decide (FndP t x (k + 1)) := (decide_eq_true (.inr ⟨k, by omega, .inl ⟨h1, h2⟩⟩)).symm
theorem fnd_b {t x : Int} {k : Nat} (hf : ¬ FndP t x k) (h0 : ¬ (((prsK 1440).getD k (0, 0)).1 = t ∧ ((prsK 1440).getD k (0, 0)).2 = x)) (h1 : ((prsK 1440).getD k (0, 0)).2 = t) : decide (((prsK 1440).getD k (0, 0)).1 = x) = decide (FndP t x (k + 1)) := by
  refine decide_eq_decide.mpr ⟨fun h => .inr ⟨k, by omega, .inr ⟨h1, h⟩⟩, ?_⟩
  rintro (h | ⟨j, hj, h⟩)
  · exact absurd (.inl h) hf
  · by_cases e : j = k
    · subst e; exact (h.resolve_left h0).2
    · exact absurd (.inr ⟨j, by omega, h⟩) hf
theorem fnd_c {t x : Int} {k : Nat} (hf : ¬ FndP t x k) (h0 : ¬ (((prsK 1440).getD k (0, 0)).1 = t ∧ ((prsK 1440).getD k (0, 0)).2 = x)) (h1 : ¬ ((prsK 1440).getD k (0, 0)).2 = t) : false = decide (FndP t x (k + 1)) := by
  refine (decide_eq_false ?_).symm
  rintro (h | ⟨j, hj, h⟩)
  · exact absurd (.inl h) hf
  · by_cases e : j = k
    · subst e; exact h.elim h0 (fun z => h1 z.1)
    · exact absurd (.inr ⟨j, by omega, h⟩) hf
theorem clk4 {t : Int} (h : TmP t ∧ MirP t) {k : Nat} (hk : (prsK 1440).length ≤ k) : FndP t (if TmP t ∧ MirP t then mirT t else 0) k := by
  rw [if_pos h]
  by_cases e : mirT t = t
  · exact .inl e
  · obtain ⟨i, hi, hp⟩ := pair_of h.1 h.2 e
    exact .inr ⟨i, Nat.lt_of_lt_of_le hi hk, hp⟩
theorem clk5 {t : Int} (h : TmP t ∧ TurP t) : TmP (if TmP t ∧ TurP t then turT t else 0) ∧ TurP (if TmP t ∧ TurP t then turT t else 0) := by
  rw [if_pos h]; exact ⟨(tur_back h.1 h.2).1, (tur_back h.1 h.2).2.1⟩
theorem clk6 {t : Int} (h : TmP t ∧ TurP t) : (if TmP (if TmP t ∧ TurP t then turT t else 0) ∧ TurP (if TmP t ∧ TurP t then turT t else 0) then turT (if TmP t ∧ TurP t then turT t else 0) else 0) = t := by
  rw [if_pos (clk5 h), if_pos h]; exact (tur_back h.1 h.2).2.2
theorem clk7 {m : Int} {j : Nat} (hj : j < (if TmP m then selK (apP m) 1440 else []).length) : TmP m ∧ (TmP ((if TmP m then selK (apP m) 1440 else []).getD j 0) ∧ MirP ((if TmP m then selK (apP m) 1440 else []).getD j 0)) ∧ (if TmP ((if TmP m then selK (apP m) 1440 else []).getD j 0) ∧ MirP ((if TmP m then selK (apP m) 1440 else []).getD j 0) then mirT ((if TmP m then selK (apP m) 1440 else []).getD j 0) else 0) = ((if TmP m then selK (apP m) 1440 else []).getD j 0 + m) % 1440 := by
  by_cases h : TmP m
  · simp only [if_pos h] at hj ⊢
    obtain ⟨i, hi, hp, e⟩ := selK_at hj
    rw [e]
    have hT : TmP (i : Int) ∧ MirP (i : Int) := ⟨⟨by omega, by omega⟩, hp.1⟩
    exact ⟨h, hT, by rw [if_pos hT]; exact hp.2⟩
  · rw [if_neg h] at hj; simp at hj
theorem clk9 {t : Int} (h : TmP t) : RowP (if TmP t then rowT t else []) ∧ TimP (if TmP t then rowT t else []) := by
  rw [if_pos h]; exact ⟨rowT_row t, (row_back h).1⟩
theorem clk8 {t : Int} (h : TmP t) : (if RowP (if TmP t then rowT t else []) ∧ TimP (if TmP t then rowT t else []) then timF (if TmP t then rowT t else []) else 0) = t := by
  rw [if_pos (clk9 h), if_pos h]; exact (row_back h).2
theorem lik1 {l : List Int} {j : Nat} (hj : j < (if LikP l then selK (tlP l) 1440 else []).length) : LikP l ∧ TmP ((if LikP l then selK (tlP l) 1440 else []).getD j 0) ∧ ∀ i, i < 4 → l.getD i 0 = -1 ∨ l.getD i 0 = (rowT ((if LikP l then selK (tlP l) 1440 else []).getD j 0)).getD i 0 := by
  by_cases h : LikP l
  · simp only [if_pos h] at hj ⊢
    obtain ⟨i, hi, hp, e⟩ := selK_at hj
    rw [e]
    exact ⟨h, ⟨by omega, by omega⟩, hp⟩
  · rw [if_neg h] at hj; simp at hj
theorem lts1 {b lo hi : Int} (hlo : litT (dkK 1439) = lo) (hhi : litT (brK 1439) = hi) (h3 : 0 ≤ b ∧ b ≤ 28) (h : b < lo ∨ hi < b) : (((if 0 ≤ b ∧ b ≤ 28 then selK (tbP b) 1440 else []).length : Nat) : Int) = 0 := by
  rw [if_pos h3]
  have e : selK (tbP b) 1440 = [] := by
    cases hl : selK (tbP b) 1440 with
    | nil => rfl
    | cons x r =>
      exfalso
      obtain ⟨j, hj, hp, _⟩ := mem_selK.1 (show x ∈ selK (tbP b) 1440 by rw [hl]; exact List.mem_cons_self)
      have h1 := dkK_min 1439 j (by omega)
      have h2 := brK_max 1439 j (by omega)
      have h4 : litT j = b := hp
      rw [h4, hlo] at h1
      rw [h4, hhi] at h2
      omega
  rw [e]; rfl
theorem lts2 {t b : Int} (h : TmP t) (h3 : 0 ≤ b ∧ b ≤ 28) : decide ((if TmP t then litF (rowT t) else 0) = b) = decide (t ∈ (if 0 ≤ b ∧ b ≤ 28 then selK (tbP b) 1440 else [])) := by
  have h0 := h.1; have h1 := h.2
  refine decide_eq_decide.mpr ?_
  rw [if_pos h, if_pos h3, mem_selK]
  constructor
  · intro e
    exact ⟨t.toNat, by omega, by unfold tbP; rw [Int.toNat_of_nonneg h0]; exact e, by omega⟩
  · rintro ⟨j, _, hp, rfl⟩; exact hp
theorem lts3 {t : Int} (h : TmP t) : RowP (if TmP t then rowT t else []) := by rw [if_pos h]; exact rowT_row t
theorem lts4 {t : Int} (h : TmP t) : (if RowP (if TmP t then rowT t else []) then litF (if TmP t then rowT t else []) else 0) = (if TmP t then litF (rowT t) else 0) := by
  rw [if_pos (lts3 h), if_pos h, if_pos h]
theorem lts5 {t lo : Int} (hlo : litT (dkK 1439) = lo) (h : TmP t) : lo ≤ (if TmP t then litF (rowT t) else 0) := by
  have h0 := h.1; have h1 := h.2
  have := dkK_min 1439 t.toNat (by omega)
  have e : litT t.toNat = litF (rowT t) := by unfold litT; rw [Int.toNat_of_nonneg h0]
  rw [e, hlo] at this
  rw [if_pos h]; exact this
theorem lts6 {t hi : Int} (hhi : litT (brK 1439) = hi) (h : TmP t) : (if TmP t then litF (rowT t) else 0) ≤ hi := by
  have h0 := h.1; have h1 := h.2
  have := brK_max 1439 t.toNat (by omega)
  have e : litT t.toNat = litF (rowT t) := by unfold litT; rw [Int.toNat_of_nonneg h0]
  rw [e, hhi] at this
  rw [if_pos h]; exact this

set_option maxRecDepth 4000 in
theorem rInts_c (a b : List Int) (ha : a.length ≤ 4611686018427387904) : PCalls Tryd.prog 29 [.sl a.length (a.map (.int .i64)), .sl b.length (b.map (.int .i64))] (· = [.val (.bool (decide (a = b)))]) := by
  refine pcalls_of_code (n := 26) az Tryd.func29 (by kernel_rfl) rfl rfl (Nat.le_of_ble_eq_true rfl) (by intro t u h; simp [Tryd.f29] at h) ?_
  refine code_seq (fun K1 hK1 => ?_)
  refine code_region ?_
  refine list_cons rfl (op_q (q_assign rfl (by decide)) ?_)
  refine list_nil ?_
  refine hK1 _ ?_; clear hK1 K1
  refine code_seq (fun K2 hK2 => ?_)
  refine code_seq (fun K3 hK3 => ?_)
  refine code_region ?_
  refine list_cons rfl (op_q (q_move rfl (by decide)) ?_)
  refine list_cons rfl (op_q (q_len_sl Tryd.underlying35 rfl rfl (by decide)) ?_)
  refine list_cons rfl (op_q (q_move rfl (by decide)) ?_)
  refine list_cons rfl (op_q (q_len_sl Tryd.underlying35 rfl rfl (by decide)) ?_)
  refine list_cons rfl (op_q (q_ne rfl rfl (by decide)) ?_)
  refine list_nil ?_
  refine hK3 _ ?_; clear hK3 K3
  refine code_cond_d rfl (fun h1 => ?_) (fun h1 => ?_)
  · skip
    (try simp only [Decidable.not_not] at h1)
    refine code_seq (fun K4 hK4 => ?_)
    refine code_region ?_
    refine list_cons rfl (op_q (q_assign rfl (by decide)) ?_)
    refine list_nil ?_
    refine hK4 _ ?_; clear hK4 K4
    refine code_ret ?_
    refine then_r ?_; clear hK2 K2
    refine ends_ret (cs := []) rfl rfl rfl rfl trivial ?_
    rw [decide_eq_false (fun e => h1 (by rw [e]))]
  (try simp only [Decidable.not_not] at h1)
  refine code_skip ?_
  refine hK2 _ ?_; clear hK2 K2
  refine code_seq (fun K5 hK5 => ?_)
  refine code_seq (fun K6 hK6 => ?_)
  refine code_region ?_
  refine list_cons rfl (op_q (q_assign rfl (by decide)) ?_)
  refine list_nil ?_
  refine hK6 _ ?_; clear hK6 K6
  refine code_block ?_
  refine code_loop (X := Bool × Int) (fun x => [(0, .par 0 (.sl a.length (a.map (.int .i64)))), (1, .par 1 (.sl b.length (b.map (.int .i64)))), (4, .val (.bool x.1)), (5, .val (.int .i64 x.2))]) (fun x => 0 ≤ x.2 ∧ x.2 ≤ a.length ∧ ∀ j, j < x.2.toNat → a.getD j 0 = b.getD j 0) (fun x => a.length - x.2.toNat) (_, _) (imp_covers ⟨rfl, rfl, rfl, rfl, trivial⟩) ?_ ?_
  · (try dsimp only)
    refine ⟨by omega, by omega, fun j hj => by simp at hj⟩
  · intro x hI
    obtain ⟨t4, i⟩ := x
    replace hI : 0 ≤ i ∧ i ≤ a.length ∧ ∀ j, j < i.toNat → a.getD j 0 = b.getD j 0 := hI
    show codeT _ _ _ [(0, .par 0 (.sl a.length (a.map (.int .i64)))), (1, .par 1 (.sl b.length (b.map (.int .i64)))), (4, .val (.bool t4)), (5, .val (.int .i64 i))] _
    obtain ⟨i1, i2, i3⟩ := hI
    refine code_seq (fun K7 hK7 => ?_)
    refine code_seq (fun K8 hK8 => ?_)
    refine code_region ?_
    refine list_cons rfl (op_q (q_move rfl (by decide)) ?_)
    refine list_cons rfl (op_q (q_move rfl (by decide)) ?_)
    refine list_cons rfl (op_q (q_len_sl Tryd.underlying35 rfl rfl (by decide)) ?_)
    refine list_cons rfl (op_q (q_lt rfl rfl (by decide)) ?_)
    refine list_nil ?_
    refine hK8 _ ?_; clear hK8 K8
    refine code_cond_d rfl (fun h2 => ?_) (fun h2 => ?_)
    · skip
      (try simp only [Decidable.not_not] at h2)
      refine code_skip ?_
      refine hK7 _ ?_; clear hK7 K7
      refine code_seq (fun K9 hK9 => ?_)
      refine code_block ?_
      refine code_seq (fun K10 hK10 => ?_)
      refine code_draw (by kernel_rfl) (by kernel_rfl) ?_
      refine draw_q rfl (q_move rfl (by decide)) ?_
      refine draw_q rfl (q_move rfl (by decide)) ?_
      refine draw_q rfl (q_indexAddr_rd sl_35 rfl (.inl ⟨_, rfl, rfl⟩) rfl (by omega) (by omega) (by decide)) ?_
      refine draw_q rfl (q_load_rd one_3 rfl (.inl ⟨_, (by first | rfl | exact congrArg (SV.rpar _) (drop_map1 _ 0 _ (by first | omega | (simp; omega)))), rfl⟩) (by decide)) ?_
      refine draw_q rfl (q_move rfl (by decide)) ?_
      refine draw_q rfl (q_move rfl (by decide)) ?_
      refine draw_q rfl (q_indexAddr_rd sl_35 rfl (.inl ⟨_, rfl, rfl⟩) rfl (by omega) (by omega) (by decide)) ?_
      refine draw_q rfl (q_load_rd one_3 rfl (.inl ⟨_, (by first | rfl | exact congrArg (SV.rpar _) (drop_map1 _ 0 _ (by first | omega | (simp; omega)))), rfl⟩) (by decide)) ?_
      refine draw_q rfl (q_ne rfl rfl (by decide)) ?_
      refine draw_nil ?_
      refine hK10 _ ?_; clear hK10 K10
      refine codeT.imp (σ' := [(0, _), (1, _), (4, _), (5, _), (25, _)]) ?_ (imp_covers ⟨rfl, rfl, rfl, rfl, rfl, trivial⟩)
      refine code_cond_d rfl (fun h3 => ?_) (fun h3 => ?_)
      · skip
        (try simp only [Decidable.not_not] at h3)
        refine code_seq (fun K11 hK11 => ?_)
        refine code_region ?_
        refine list_cons rfl (op_q (q_assign rfl (by decide)) ?_)
        refine list_nil ?_
        refine hK11 _ ?_; clear hK11 K11
        refine code_ret ?_
        refine blk_r ?_
        refine then_r ?_; clear hK9 K9
        refine then_r ?_
        refine blk_r ?_
        refine then_r ?_; clear hK5 K5
        refine ends_ret (cs := []) rfl rfl rfl rfl trivial ?_
        rw [decide_eq_false (list_ne_ofI 0 i.toNat h3)]
      (try simp only [Decidable.not_not] at h3)
      refine code_skip ?_
      refine blk_n ?_
      refine hK9 _ ?_; clear hK9 K9
      refine code_region ?_
      refine list_cons rfl (op_q (q_move rfl (by decide)) ?_)
      refine list_cons rfl (op_q (by first | exact q_addI rfl rfl (by decide) (by omega) (by omega) | exact q_ib rfl rfl rfl (by decide)) ?_)
      refine list_cons rfl (op_q (q_assign rfl (by decide)) ?_)
      refine list_nil ?_
      refine then_n ⟨(_, _), imp_covers ⟨rfl, rfl, rfl, rfl, trivial⟩, ?_, ?_⟩
      · (try dsimp only)
        refine ⟨by omega, by omega, fun j hj => ?_⟩
        by_cases e : j = i.toNat
        · subst e; exact h3
        · exact i3 j (by omega)
      · (try dsimp only); omega
    (try simp only [Decidable.not_not] at h2)
    refine code_exit ?_
    refine then_x ?_; clear hK7 K7
    refine then_x ?_
    refine blk_hit ?_
    refine hK5 _ ?_; clear hK5 K5
    refine code_seq (fun K12 hK12 => ?_)
    refine code_region ?_
    refine list_cons rfl (op_q (q_assign rfl (by decide)) ?_)
    refine list_nil ?_
    refine hK12 _ ?_; clear hK12 K12
    refine code_ret ?_
    refine ends_ret (cs := []) rfl rfl rfl rfl trivial ?_
    rw [decide_eq_true (list_eq_ofI 0 a b (by omega) fun j hj => i3 j (by omega))]

set_option maxRecDepth 4000 in
theorem rBig_c (code : List UInt8) : PCalls Tryd.prog 15 [.sl code.length (bytesP code)] (· = [.val (.bool (decide (65536 < code.length)))]) := by
  refine pcalls_of_code (n := 6) az Tryd.func15 (by kernel_rfl) rfl rfl (Nat.le_of_ble_eq_true rfl) (by intro t u h; simp [Tryd.f15] at h) ?_
  refine code_seq (fun K1 hK1 => ?_)
  refine code_region ?_
  refine list_cons rfl (op_q (q_assign rfl (by decide)) ?_)
  refine list_nil ?_
  refine hK1 _ ?_; clear hK1 K1
  refine code_seq (fun K2 hK2 => ?_)
  refine code_region ?_
  refine list_cons rfl (op_q (q_move rfl (by decide)) ?_)
  refine list_cons rfl (op_q (q_len_sl Tryd.underlying22 rfl rfl (by decide)) ?_)
  refine list_cons rfl (op_q (q_gt rfl rfl (by decide)) ?_)
  refine list_cons rfl (op_q (q_assign rfl (by decide)) ?_)
  refine list_nil ?_
  refine hK2 _ ?_; clear hK2 K2
  refine code_ret ?_
  refine ends_ret (cs := []) rfl rfl rfl rfl trivial ?_
  first | rfl | (congr 3; exact decide_eq_decide.mpr (by omega))

theorem mem_of_getD {l : List Int} {k : Nat} {x : Int} (h : k < l.length) (e : l.getD k 0 = x) : x ∈ l := by
  rw [← e, List.getD_eq_getElem?_getD, List.getElem?_eq_getElem h]; exact List.getElem_mem h

set_option maxRecDepth 4000 in
theorem rHas_c (l : List Int) (w : Int) (hl : l.length ≤ 4611686018427387904) : PCalls Tryd.prog 59 [.sl l.length (l.map (.int .i64)), .int .i64 w] (· = [.val (.bool (decide (w ∈ l)))]) := by
  refine pcalls_of_code (n := 18) az Tryd.func59 (by kernel_rfl) rfl rfl (Nat.le_of_ble_eq_true rfl) (by intro t u h; simp [Tryd.f59] at h) ?_
  refine code_seq (fun K1 hK1 => ?_)
  refine code_region ?_
  refine list_cons rfl (op_q (q_assign rfl (by decide)) ?_)
  refine list_nil ?_
  refine hK1 _ ?_; clear hK1 K1
  refine code_seq (fun K2 hK2 => ?_)
  refine code_seq (fun K3 hK3 => ?_)
  refine code_region ?_
  refine list_cons rfl (op_q (q_assign rfl (by decide)) ?_)
  refine list_nil ?_
  refine hK3 _ ?_; clear hK3 K3
  refine code_block ?_
  refine code_loop (X := Bool × Int) (fun x => [(0, .par 0 (.sl l.length (l.map (.int .i64)))), (1, .val (.int .i64 w)), (4, .val (.bool x.1)), (5, .val (.int .i64 x.2))]) (fun x => 0 ≤ x.2 ∧ x.2 ≤ l.length ∧ ∀ j, j < x.2.toNat → l.getD j 0 ≠ w) (fun x => l.length - x.2.toNat) (_, _) (imp_covers ⟨rfl, rfl, rfl, rfl, trivial⟩) ?_ ?_
  · (try dsimp only)
    refine ⟨by omega, by omega, fun j hj => by simp at hj⟩
  · intro x hI
    obtain ⟨t4, i⟩ := x
    replace hI : 0 ≤ i ∧ i ≤ l.length ∧ ∀ j, j < i.toNat → l.getD j 0 ≠ w := hI
    show codeT _ _ _ [(0, .par 0 (.sl l.length (l.map (.int .i64)))), (1, .val (.int .i64 w)), (4, .val (.bool t4)), (5, .val (.int .i64 i))] _
    obtain ⟨i1, i2, i3⟩ := hI
    refine code_seq (fun K4 hK4 => ?_)
    refine code_seq (fun K5 hK5 => ?_)
    refine code_region ?_
    refine list_cons rfl (op_q (q_move rfl (by decide)) ?_)
    refine list_cons rfl (op_q (q_move rfl (by decide)) ?_)
    refine list_cons rfl (op_q (q_len_sl Tryd.underlying35 rfl rfl (by decide)) ?_)
    refine list_cons rfl (op_q (q_lt rfl rfl (by decide)) ?_)
    refine list_nil ?_
    refine hK5 _ ?_; clear hK5 K5
    refine code_cond_d rfl (fun h1 => ?_) (fun h1 => ?_)
    · skip
      (try simp only [Decidable.not_not] at h1)
      refine code_skip ?_
      refine hK4 _ ?_; clear hK4 K4
      refine code_seq (fun K6 hK6 => ?_)
      refine code_block ?_
      refine code_seq (fun K7 hK7 => ?_)
      refine code_region ?_
      refine list_cons rfl (op_q (q_move rfl (by decide)) ?_)
      refine list_cons rfl (op_q (q_move rfl (by decide)) ?_)
      refine list_cons rfl (op_q (q_indexAddr_rd sl_35 rfl (.inl ⟨_, rfl, rfl⟩) rfl (by omega) (by omega) (by decide)) ?_)
      refine list_cons rfl (op_q (q_load_rd one_3 rfl (.inl ⟨_, (by first | rfl | exact congrArg (SV.rpar _) (drop_map1 _ 0 _ (by first | omega | (simp; omega)))), rfl⟩) (by decide)) ?_)
      refine list_cons rfl (op_q (q_move rfl (by decide)) ?_)
      refine list_cons rfl (op_q (q_eq rfl rfl (by decide)) ?_)
      refine list_nil ?_
      refine hK7 _ ?_; clear hK7 K7
      refine codeT.imp (σ' := [(0, _), (1, _), (4, _), (5, _), (17, _)]) ?_ (imp_covers ⟨rfl, rfl, rfl, rfl, rfl, trivial⟩)
      refine code_cond_d rfl (fun h2 => ?_) (fun h2 => ?_)
      · skip
        (try simp only [Decidable.not_not] at h2)
        refine code_seq (fun K8 hK8 => ?_)
        refine code_region ?_
        refine list_cons rfl (op_q (q_assign rfl (by decide)) ?_)
        refine list_nil ?_
        refine hK8 _ ?_; clear hK8 K8
        refine code_ret ?_
        refine blk_r ?_
        refine then_r ?_; clear hK6 K6
        refine then_r ?_
        refine blk_r ?_
        refine then_r ?_; clear hK2 K2
        refine ends_ret (cs := []) rfl rfl rfl rfl trivial ?_
        first
          | (rw [decide_eq_true (show w ∈ l from mem_of_getD (by omega) h2)]; done)
          | (rw [decide_eq_false (fun e => by obtain ⟨j, hj, rfl⟩ := List.getElem_of_mem e; exact i3 j (by omega) (by simp [hj]))]; done)
      (try simp only [Decidable.not_not] at h2)
      refine code_skip ?_
      refine blk_n ?_
      refine hK6 _ ?_; clear hK6 K6
      refine code_region ?_
      refine list_cons rfl (op_q (q_move rfl (by decide)) ?_)
      refine list_cons rfl (op_q (by first | exact q_addI rfl rfl (by decide) (by omega) (by omega) | exact q_ib rfl rfl rfl (by decide)) ?_)
      refine list_cons rfl (op_q (q_assign rfl (by decide)) ?_)
      refine list_nil ?_
      refine then_n ⟨(_, _), imp_covers ⟨rfl, rfl, rfl, rfl, trivial⟩, ?_, ?_⟩
      · (try dsimp only)
        refine ⟨by omega, by omega, fun j hj => ?_⟩
        by_cases e : j = i.toNat
        · subst e; exact h2
        · exact i3 j (by omega)
      · (try dsimp only); omega
    (try simp only [Decidable.not_not] at h1)
    refine code_exit ?_
    refine then_x ?_; clear hK4 K4
    refine then_x ?_
    refine blk_hit ?_
    refine hK2 _ ?_; clear hK2 K2
    refine code_seq (fun K9 hK9 => ?_)
    refine code_region ?_
    refine list_cons rfl (op_q (q_assign rfl (by decide)) ?_)
    refine list_nil ?_
    refine hK9 _ ?_; clear hK9 K9
    refine code_ret ?_
    refine ends_ret (cs := []) rfl rfl rfl rfl trivial ?_
    first
      | (rw [decide_eq_true (show w ∈ l from mem_of_getD (by omega) h1)]; done)
      | (rw [decide_eq_false (fun e => by obtain ⟨j, hj, rfl⟩ := List.getElem_of_mem e; exact i3 j (by omega) (by simp [hj]))]; done)

set_option maxRecDepth 8000 in
set_option maxHeartbeats 16000000 in
theorem FnClockLights_law (code : List UInt8) (p0 : code.length ≤ 9223372036854775807) : MCalls Tryd.prog 5 true none [.sl code.length (bytesP code)] fun rs _ => rs = [.val (.bool true)] := by
  refine mcalls_of_code (n := 254) az Tryd.func5 (by kernel_rfl) rfl rfl (Nat.le_of_ble_eq_true rfl) (by intro t u h; simp [Tryd.f5] at h) ?_
  obtain ⟨lo, hlo⟩ : ∃ z : Int, litT (dkK 1439) = z := ⟨_, rfl⟩
  obtain ⟨hi, hhi⟩ : ∃ z : Int, litT (brK 1439) = z := ⟨_, rfl⟩
  obtain ⟨bt, hbt⟩ : ∃ z : Int, ((brK 1439 : Nat) : Int) = z := ⟨_, rfl⟩
  obtain ⟨dt, hdt⟩ : ∃ z : Int, ((dkK 1439 : Nat) : Int) = z := ⟨_, rfl⟩
  refine code_seq (fun K1 hK1 => ?_)
  refine code_region ?_
  refine list_cons rfl (op_q (q_assign rfl (by decide)) ?_)
  refine list_nil ?_
  refine hK1 _ ?_; clear hK1 K1
  refine code_seq (fun K2 hK2 => ?_)
  refine code_seq (fun K3 hK3 => ?_)
  refine code_region ?_
  refine list_cons rfl (op_q (q_move rfl (by decide)) ?_)
  refine list_cons rfl (op_call _ (rBig_c _) rfl rfl (by decide) (by decide) (by decide) rfl ?_)
  rintro _ rfl
  refine list_nil ?_
  refine hK3 _ ?_; clear hK3 K3
  refine codeT.imp (σ' := [(0, .ext _), (2, .val (.bool _)), (39, .val (.bool _))]) ?_ (imp_covers ⟨rfl, rfl, rfl, trivial⟩)
  refine code_cond_d rfl (fun h1 => ?_) (fun h1 => ?_)
  · skip
    (try simp only [Decidable.not_not] at h1); (try have hj8 := hj8f (by have := h1; omega); try have hv0 := hj8.2.1.1; try have hv1 := hj8.2.1.2)
    refine code_seq (fun K4 hK4 => ?_)
    refine code_region ?_
    refine list_cons rfl (op_q (q_assign rfl (by decide)) ?_)
    refine list_nil ?_
    refine hK4 _ ?_; clear hK4 K4
    refine code_ret ?_
    refine then_r ?_; clear hK2 K2
    refine ends_ret (cs := []) rfl rfl rfl rfl trivial ?_
    first
      | rfl
      | (rw [decide_eq_true (lts6 hhi (t := t) (by assumption))]; done)
  (try simp only [Decidable.not_not] at h1); (try have hj8 := hj8f (by have := h1; omega); try have hv0 := hj8.2.1.1; try have hv1 := hj8.2.1.2)
  refine code_skip ?_
  refine hK2 _ ?_; clear hK2 K2
  refine code_seq (fun K5 hK5 => ?_)
  refine code_region ?_
  refine list_cons rfl (op_q (q_move rfl (by decide)) ?_)
  refine list_cons rfl (op_callM (DrawLitAt_c _ ?_) (.tmp 0) 0 [] [.tmp 40] _ rfl rfl (by intro y hy; cases hy) (by decide) (by decide) (by decide) rfl (by intro h; cases h) ?_)
  · first | assumption | omega | (simp; omega)
  rintro _ _ ⟨t, ht, rfl⟩
  refine list_cons rfl (op_q (q_assign rfl (by decide)) ?_)
  refine list_nil ?_
  refine hK5 _ ?_; clear hK5 K5
  refine codeT.imp (σ' := [(0, .ext _), (2, .val (.bool _)), (3, .val (.int .i64 _))]) ?_ (imp_covers ⟨rfl, rfl, rfl, trivial⟩)
  refine code_seq (fun K6 hK6 => ?_)
  refine code_region ?_
  refine list_cons rfl (op_q (q_move rfl (by decide)) ?_)
  refine list_cons rfl (op_call _ (impl_LitAt _) rfl rfl (by decide) (by decide) (by decide) rfl ?_)
  rintro _ rfl
  refine list_cons rfl (op_q (q_move rfl (by decide)) ?_)
  refine list_cons rfl (op_q (q_extract rfl rfl (by decide)) ?_)
  refine list_cons rfl (op_q (q_extract rfl rfl (by decide)) ?_)
  refine list_cons rfl (op_q (q_assign rfl (by decide)) ?_)
  refine list_cons rfl (op_q (q_assign rfl (by decide)) ?_)
  refine list_nil ?_
  refine hK6 _ ?_; clear hK6 K6
  refine codeT.imp (σ' := [(0, .ext _), (2, .val (.bool _)), (3, .val (.int .i64 _)), (4, .val (.int .i64 _)), (5, .val (.bool _))]) ?_ (imp_covers ⟨rfl, rfl, rfl, rfl, rfl, trivial⟩)
  refine code_seq (fun K7 hK7 => ?_)
  refine code_seq (fun K8 hK8 => ?_)
  refine code_region ?_
  refine list_cons rfl (op_q (q_move rfl (by decide)) ?_)
  refine list_cons rfl (op_call _ (spec_LitAt _) rfl rfl (by decide) (by decide) (by decide) rfl ?_)
  rintro _ rfl
  refine list_cons rfl (op_q (q_move rfl (by decide)) ?_)
  refine list_cons rfl (op_q (q_extract rfl rfl (by decide)) ?_)
  refine list_cons rfl (op_q (q_extract rfl rfl (by decide)) ?_)
  refine list_cons rfl (op_q (q_assign rfl (by decide)) ?_)
  refine list_cons rfl (op_q (q_assign rfl (by decide)) ?_)
  refine list_nil ?_
  refine hK8 _ ?_; clear hK8 K8
  refine codeT.imp (σ' := [(0, .ext _), (2, .val (.bool _)), (3, .val (.int .i64 _)), (4, .val (.int .i64 _)), (5, .val (.bool _)), (6, .val (.int .i64 _)), (7, .val (.bool _))]) ?_ (imp_covers ⟨rfl, rfl, rfl, rfl, rfl, rfl, rfl, trivial⟩)
  refine code_seq (fun K9 hK9 => ?_)
  refine code_region ?_
  refine list_cons rfl (op_q (q_move rfl (by decide)) ?_)
  refine list_cons rfl (op_q (q_move rfl (by decide)) ?_)
  refine list_cons rfl (op_q (q_ne rfl rfl (by decide)) ?_)
  refine list_cons rfl (op_q (q_move rfl (by decide)) ?_)
  refine list_guard_d rfl rfl rfl rfl (by decide) rfl (by decide) (fun h2 => ?_) (fun h2 => ?_)
  · simp only [Bool.false_eq_true, if_true, if_false, Decidable.not_not] at h2
    (try simp only [Decidable.not_not] at h2); (try have hj8 := hj8f (by have := h2; omega); try have hv0 := hj8.2.1.1; try have hv1 := hj8.2.1.2)
    refine id (op_q (q_move rfl (by decide)) ?_)
    refine list_guard_y rfl rfl rfl rfl (by decide) rfl ?_
    refine id (op_q (q_move rfl (by decide)) ?_)
    refine list_guard_y rfl rfl rfl rfl (by decide) rfl ?_
    refine id (op_q (q_bne Tryd.underlying4 rfl rfl (by decide)) ?_)
    refine list_cons rfl (op_q (q_pick rfl rfl (by decide)) ?_)
    refine list_nil ?_
    refine hK9 _ ?_; clear hK9 K9
    refine codeT.imp (σ' := [(0, .ext _), (2, .val (.bool _)), (3, .val (.int .i64 _)), (4, .val (.int .i64 _)), (5, .val (.bool _)), (6, .val (.int .i64 _)), (7, .val (.bool _)), (59, .val (.bool _))]) ?_ (imp_covers ⟨rfl, rfl, rfl, rfl, rfl, rfl, rfl, rfl, trivial⟩)
    refine code_cond_d rfl (fun h3 => ?_) (fun h3 => ?_)
    · skip
      (try simp only [Decidable.not_not] at h3); (try have hj8 := hj8f (by have := h3; omega); try have hv0 := hj8.2.1.1; try have hv1 := hj8.2.1.2)
      exfalso
      first | exact absurd rfl h3 | exact h3 trivial | (simp at h3; done)
    (try simp only [Decidable.not_not] at h3); (try have hj8 := hj8f (by have := h3; omega); try have hv0 := hj8.2.1.1; try have hv1 := hj8.2.1.2)
    refine code_skip ?_
    refine hK7 _ ?_; clear hK7 K7
    refine code_seq (fun K10 hK10 => ?_)
    refine code_region ?_
    refine list_cons rfl (op_q (q_move rfl (by decide)) ?_)
    refine list_cons rfl (op_call _ (impl_MinuteChanges _) rfl rfl (by decide) (by decide) (by decide) rfl ?_)
    rintro _ rfl
    refine list_cons rfl (op_q (q_move rfl (by decide)) ?_)
    refine list_cons rfl (op_q (q_extract rfl rfl (by decide)) ?_)
    refine list_cons rfl (op_q (q_extract rfl rfl (by decide)) ?_)
    refine list_cons rfl (op_q (q_assign rfl (by decide)) ?_)
    refine list_cons rfl (op_q (q_assign rfl (by decide)) ?_)
    refine list_nil ?_
    refine hK10 _ ?_; clear hK10 K10
    refine codeT.imp (σ' := [(0, .ext _), (2, .val (.bool _)), (3, .val (.int .i64 _)), (4, .val (.int .i64 _)), (5, .val (.bool _)), (6, .val (.int .i64 _)), (7, .val (.bool _)), (8, .val (.int .i64 _)), (9, .val (.bool _))]) ?_ (imp_covers ⟨rfl, rfl, rfl, rfl, rfl, rfl, rfl, rfl, rfl, trivial⟩)
    refine code_seq (fun K11 hK11 => ?_)
    refine code_seq (fun K12 hK12 => ?_)
    refine code_region ?_
    refine list_cons rfl (op_q (q_move rfl (by decide)) ?_)
    refine list_cons rfl (op_call _ (spec_MinuteChanges _) rfl rfl (by decide) (by decide) (by decide) rfl ?_)
    rintro _ rfl
    refine list_cons rfl (op_q (q_move rfl (by decide)) ?_)
    refine list_cons rfl (op_q (q_extract rfl rfl (by decide)) ?_)
    refine list_cons rfl (op_q (q_extract rfl rfl (by decide)) ?_)
    refine list_cons rfl (op_q (q_assign rfl (by decide)) ?_)
    refine list_cons rfl (op_q (q_assign rfl (by decide)) ?_)
    refine list_nil ?_
    refine hK12 _ ?_; clear hK12 K12
    refine codeT.imp (σ' := [(0, .ext _), (2, .val (.bool _)), (3, .val (.int .i64 _)), (4, .val (.int .i64 _)), (5, .val (.bool _)), (6, .val (.int .i64 _)), (7, .val (.bool _)), (8, .val (.int .i64 _)), (9, .val (.bool _)), (10, .val (.int .i64 _)), (11, .val (.bool _))]) ?_ (imp_covers ⟨rfl, rfl, rfl, rfl, rfl, rfl, rfl, rfl, rfl, rfl, rfl, trivial⟩)
    refine code_seq (fun K13 hK13 => ?_)
    refine code_region ?_
    refine list_cons rfl (op_q (q_move rfl (by decide)) ?_)
    refine list_cons rfl (op_q (q_move rfl (by decide)) ?_)
    refine list_cons rfl (op_q (q_ne rfl rfl (by decide)) ?_)
    refine list_cons rfl (op_q (q_move rfl (by decide)) ?_)
    refine list_guard_d rfl rfl rfl rfl (by decide) rfl (by decide) (fun h4 => ?_) (fun h4 => ?_)
    · simp only [Bool.false_eq_true, if_true, if_false, Decidable.not_not] at h4
      (try simp only [Decidable.not_not] at h4); (try have hj8 := hj8f (by have := h4; omega); try have hv0 := hj8.2.1.1; try have hv1 := hj8.2.1.2)
      refine id (op_q (q_move rfl (by decide)) ?_)
      refine list_guard_y rfl rfl rfl rfl (by decide) rfl ?_
      refine id (op_q (q_move rfl (by decide)) ?_)
      refine list_guard_y rfl rfl rfl rfl (by decide) rfl ?_
      refine id (op_q (q_bne Tryd.underlying4 rfl rfl (by decide)) ?_)
      refine list_cons rfl (op_q (q_pick rfl rfl (by decide)) ?_)
      refine list_cons rfl (op_q (q_move rfl (by decide)) ?_)
      refine list_guard_d rfl rfl rfl rfl (by decide) rfl (by decide) (fun h5 => ?_) (fun h5 => ?_)
      · simp only [Bool.false_eq_true, if_true, if_false, Decidable.not_not] at h5
        (try simp only [Decidable.not_not] at h5); (try have hj8 := hj8f (by have := h5; omega); try have hv0 := hj8.2.1.1; try have hv1 := hj8.2.1.2)
        refine id (op_q (q_move rfl (by decide)) ?_)
        refine list_guard_y rfl rfl rfl rfl (by decide) rfl ?_
        refine id (op_q (q_move rfl (by decide)) ?_)
        refine list_guard_y rfl rfl rfl rfl (by decide) rfl ?_
        refine id (op_q (q_bne Tryd.underlying4 rfl rfl (by decide)) ?_)
        refine list_cons rfl (op_q (q_pick rfl rfl (by decide)) ?_)
        refine list_nil ?_
        refine hK13 _ ?_; clear hK13 K13
        refine codeT.imp (σ' := [(0, .ext _), (2, .val (.bool _)), (3, .val (.int .i64 _)), (4, .val (.int .i64 _)), (5, .val (.bool _)), (6, .val (.int .i64 _)), (7, .val (.bool _)), (8, .val (.int .i64 _)), (9, .val (.bool _)), (10, .val (.int .i64 _)), (11, .val (.bool _)), (82, .val (.bool _))]) ?_ (imp_covers ⟨rfl, rfl, rfl, rfl, rfl, rfl, rfl, rfl, rfl, rfl, rfl, rfl, trivial⟩)
        refine code_cond_d rfl (fun h6 => ?_) (fun h6 => ?_)
        · skip
          (try simp only [Decidable.not_not] at h6); (try have hj8 := hj8f (by have := h6; omega); try have hv0 := hj8.2.1.1; try have hv1 := hj8.2.1.2)
          exfalso
          first | exact absurd rfl h6 | exact h6 trivial | (simp at h6; done)
        (try simp only [Decidable.not_not] at h6); (try have hj8 := hj8f (by have := h6; omega); try have hv0 := hj8.2.1.1; try have hv1 := hj8.2.1.2)
        refine code_skip ?_
        refine hK11 _ ?_; clear hK11 K11
        refine code_seq (fun K14 hK14 => ?_)
        refine code_region ?_
        refine list_cons rfl (op_call _ (impl_BrightestTime) rfl rfl (by decide) (by decide) (by decide) rfl ?_)
        rintro _ rfl; rw [hbt, hhi]
        refine list_cons rfl (op_q (q_move rfl (by decide)) ?_)
        refine list_cons rfl (op_q (q_extract rfl rfl (by decide)) ?_)
        refine list_cons rfl (op_q (q_extract rfl rfl (by decide)) ?_)
        refine list_cons rfl (op_q (q_assign rfl (by decide)) ?_)
        refine list_cons rfl (op_q (q_assign rfl (by decide)) ?_)
        refine list_nil ?_
        refine hK14 _ ?_; clear hK14 K14
        refine codeT.imp (σ' := [(0, .ext _), (2, .val (.bool _)), (3, .val (.int .i64 _)), (4, .val (.int .i64 _)), (5, .val (.bool _)), (6, .val (.int .i64 _)), (7, .val (.bool _)), (8, .val (.int .i64 _)), (9, .val (.bool _)), (10, .val (.int .i64 _)), (11, .val (.bool _)), (12, .val (.int .i64 _)), (13, .val (.int .i64 _))]) ?_ (imp_covers ⟨rfl, rfl, rfl, rfl, rfl, rfl, rfl, rfl, rfl, rfl, rfl, rfl, rfl, trivial⟩)
        refine code_seq (fun K15 hK15 => ?_)
        refine code_seq (fun K16 hK16 => ?_)
        refine code_region ?_
        refine list_cons rfl (op_call _ (spec_BrightestTime) rfl rfl (by decide) (by decide) (by decide) rfl ?_)
        rintro _ rfl; rw [hbt, hhi]
        refine list_cons rfl (op_q (q_move rfl (by decide)) ?_)
        refine list_cons rfl (op_q (q_extract rfl rfl (by decide)) ?_)
        refine list_cons rfl (op_q (q_extract rfl rfl (by decide)) ?_)
        refine list_cons rfl (op_q (q_assign rfl (by decide)) ?_)
        refine list_cons rfl (op_q (q_assign rfl (by decide)) ?_)
        refine list_nil ?_
        refine hK16 _ ?_; clear hK16 K16
        refine codeT.imp (σ' := [(0, .ext _), (2, .val (.bool _)), (3, .val (.int .i64 _)), (4, .val (.int .i64 _)), (5, .val (.bool _)), (6, .val (.int .i64 _)), (7, .val (.bool _)), (8, .val (.int .i64 _)), (9, .val (.bool _)), (10, .val (.int .i64 _)), (11, .val (.bool _)), (12, .val (.int .i64 _)), (13, .val (.int .i64 _)), (14, .val (.int .i64 _)), (15, .val (.int .i64 _))]) ?_ (imp_covers ⟨rfl, rfl, rfl, rfl, rfl, rfl, rfl, rfl, rfl, rfl, rfl, rfl, rfl, rfl, rfl, trivial⟩)
        refine code_seq (fun K17 hK17 => ?_)
        refine code_region ?_
        refine list_cons rfl (op_q (q_move rfl (by decide)) ?_)
        refine list_cons rfl (op_q (q_move rfl (by decide)) ?_)
        refine list_cons rfl (op_q (q_ne rfl rfl (by decide)) ?_)
        refine list_cons rfl (op_q (q_move rfl (by decide)) ?_)
        refine list_guard_d rfl rfl rfl rfl (by decide) rfl (by decide) (fun h7 => ?_) (fun h7 => ?_)
        · simp only [Bool.false_eq_true, if_true, if_false, Decidable.not_not] at h7
          (try simp only [Decidable.not_not] at h7); (try have hj8 := hj8f (by have := h7; omega); try have hv0 := hj8.2.1.1; try have hv1 := hj8.2.1.2)
          refine id (op_q (q_move rfl (by decide)) ?_)
          refine list_guard_y rfl rfl rfl rfl (by decide) rfl ?_
          refine id (op_q (q_move rfl (by decide)) ?_)
          refine list_guard_y rfl rfl rfl rfl (by decide) rfl ?_
          refine id (op_q (q_ne rfl rfl (by decide)) ?_)
          refine list_cons rfl (op_q (q_pick rfl rfl (by decide)) ?_)
          refine list_nil ?_
          refine hK17 _ ?_; clear hK17 K17
          refine codeT.imp (σ' := [(0, .ext _), (2, .val (.bool _)), (3, .val (.int .i64 _)), (4, .val (.int .i64 _)), (5, .val (.bool _)), (6, .val (.int .i64 _)), (7, .val (.bool _)), (8, .val (.int .i64 _)), (9, .val (.bool _)), (10, .val (.int .i64 _)), (11, .val (.bool _)), (12, .val (.int .i64 _)), (13, .val (.int .i64 _)), (14, .val (.int .i64 _)), (15, .val (.int .i64 _)), (98, .val (.bool _))]) ?_ (imp_covers ⟨rfl, rfl, rfl, rfl, rfl, rfl, rfl, rfl, rfl, rfl, rfl, rfl, rfl, rfl, rfl, rfl, trivial⟩)
          refine code_cond_d rfl (fun h8 => ?_) (fun h8 => ?_)
          · skip
            (try simp only [Decidable.not_not] at h8); (try have hj8 := hj8f (by have := h8; omega); try have hv0 := hj8.2.1.1; try have hv1 := hj8.2.1.2)
            exfalso
            first | exact absurd rfl h8 | exact h8 trivial | (simp at h8; done)
          (try simp only [Decidable.not_not] at h8); (try have hj8 := hj8f (by have := h8; omega); try have hv0 := hj8.2.1.1; try have hv1 := hj8.2.1.2)
          refine code_skip ?_
          refine hK15 _ ?_; clear hK15 K15
          refine code_seq (fun K18 hK18 => ?_)
          refine code_region ?_
          refine list_cons rfl (op_call _ (impl_DarkestTime) rfl rfl (by decide) (by decide) (by decide) rfl ?_)
          rintro _ rfl; rw [hdt, hlo]
          refine list_cons rfl (op_q (q_move rfl (by decide)) ?_)
          refine list_cons rfl (op_q (q_extract rfl rfl (by decide)) ?_)
          refine list_cons rfl (op_q (q_extract rfl rfl (by decide)) ?_)
          refine list_cons rfl (op_q (q_assign rfl (by decide)) ?_)
          refine list_cons rfl (op_q (q_assign rfl (by decide)) ?_)
          refine list_nil ?_
          refine hK18 _ ?_; clear hK18 K18
          refine codeT.imp (σ' := [(0, .ext _), (2, .val (.bool _)), (3, .val (.int .i64 _)), (4, .val (.int .i64 _)), (5, .val (.bool _)), (6, .val (.int .i64 _)), (7, .val (.bool _)), (8, .val (.int .i64 _)), (9, .val (.bool _)), (10, .val (.int .i64 _)), (11, .val (.bool _)), (12, .val (.int .i64 _)), (13, .val (.int .i64 _)), (14, .val (.int .i64 _)), (15, .val (.int .i64 _)), (16, .val (.int .i64 _)), (17, .val (.int .i64 _))]) ?_ (imp_covers ⟨rfl, rfl, rfl, rfl, rfl, rfl, rfl, rfl, rfl, rfl, rfl, rfl, rfl, rfl, rfl, rfl, rfl, trivial⟩)
          refine code_seq (fun K19 hK19 => ?_)
          refine code_seq (fun K20 hK20 => ?_)
          refine code_region ?_
          refine list_cons rfl (op_call _ (spec_DarkestTime) rfl rfl (by decide) (by decide) (by decide) rfl ?_)
          rintro _ rfl; rw [hdt, hlo]
          refine list_cons rfl (op_q (q_move rfl (by decide)) ?_)
          refine list_cons rfl (op_q (q_extract rfl rfl (by decide)) ?_)
          refine list_cons rfl (op_q (q_extract rfl rfl (by decide)) ?_)
          refine list_cons rfl (op_q (q_assign rfl (by decide)) ?_)
          refine list_cons rfl (op_q (q_assign rfl (by decide)) ?_)
          refine list_nil ?_
          refine hK20 _ ?_; clear hK20 K20
          refine codeT.imp (σ' := [(0, .ext _), (2, .val (.bool _)), (3, .val (.int .i64 _)), (4, .val (.int .i64 _)), (5, .val (.bool _)), (6, .val (.int .i64 _)), (7, .val (.bool _)), (8, .val (.int .i64 _)), (9, .val (.bool _)), (10, .val (.int .i64 _)), (11, .val (.bool _)), (12, .val (.int .i64 _)), (13, .val (.int .i64 _)), (14, .val (.int .i64 _)), (15, .val (.int .i64 _)), (16, .val (.int .i64 _)), (17, .val (.int .i64 _)), (18, .val (.int .i64 _)), (19, .val (.int .i64 _))]) ?_ (imp_covers ⟨rfl, rfl, rfl, rfl, rfl, rfl, rfl, rfl, rfl, rfl, rfl, rfl, rfl, rfl, rfl, rfl, rfl, rfl, rfl, trivial⟩)
          refine code_seq (fun K21 hK21 => ?_)
          refine code_region ?_
          refine list_cons rfl (op_q (q_move rfl (by decide)) ?_)
          refine list_cons rfl (op_q (q_move rfl (by decide)) ?_)
          refine list_cons rfl (op_q (q_ne rfl rfl (by decide)) ?_)
          refine list_cons rfl (op_q (q_move rfl (by decide)) ?_)
          refine list_guard_d rfl rfl rfl rfl (by decide) rfl (by decide) (fun h9 => ?_) (fun h9 => ?_)
          · simp only [Bool.false_eq_true, if_true, if_false, Decidable.not_not] at h9
            (try simp only [Decidable.not_not] at h9); (try have hj8 := hj8f (by have := h9; omega); try have hv0 := hj8.2.1.1; try have hv1 := hj8.2.1.2)
            refine id (op_q (q_move rfl (by decide)) ?_)
            refine list_guard_y rfl rfl rfl rfl (by decide) rfl ?_
            refine id (op_q (q_move rfl (by decide)) ?_)
            refine list_guard_y rfl rfl rfl rfl (by decide) rfl ?_
            refine id (op_q (q_ne rfl rfl (by decide)) ?_)
            refine list_cons rfl (op_q (q_pick rfl rfl (by decide)) ?_)
            refine list_nil ?_
            refine hK21 _ ?_; clear hK21 K21
            refine codeT.imp (σ' := [(0, .ext _), (2, .val (.bool _)), (3, .val (.int .i64 _)), (4, .val (.int .i64 _)), (5, .val (.bool _)), (6, .val (.int .i64 _)), (7, .val (.bool _)), (8, .val (.int .i64 _)), (9, .val (.bool _)), (10, .val (.int .i64 _)), (11, .val (.bool _)), (12, .val (.int .i64 _)), (13, .val (.int .i64 _)), (14, .val (.int .i64 _)), (15, .val (.int .i64 _)), (16, .val (.int .i64 _)), (17, .val (.int .i64 _)), (18, .val (.int .i64 _)), (19, .val (.int .i64 _)), (114, .val (.bool _))]) ?_ (imp_covers ⟨rfl, rfl, rfl, rfl, rfl, rfl, rfl, rfl, rfl, rfl, rfl, rfl, rfl, rfl, rfl, rfl, rfl, rfl, rfl, rfl, trivial⟩)
            refine code_cond_d rfl (fun h10 => ?_) (fun h10 => ?_)
            · skip
              (try simp only [Decidable.not_not] at h10); (try have hj8 := hj8f (by have := h10; omega); try have hv0 := hj8.2.1.1; try have hv1 := hj8.2.1.2)
              exfalso
              first | exact absurd rfl h10 | exact h10 trivial | (simp at h10; done)
            (try simp only [Decidable.not_not] at h10); (try have hj8 := hj8f (by have := h10; omega); try have hv0 := hj8.2.1.1; try have hv1 := hj8.2.1.2)
            refine code_skip ?_
            refine hK19 _ ?_; clear hK19 K19
            refine code_seq (fun K22 hK22 => ?_)
            refine code_region ?_
            refine list_cons rfl (op_q (q_move rfl (by decide)) ?_)
            refine list_cons rfl (op_callM (DrawTimesLike_c _ ?_) (.tmp 0) 0 [] [.tmp 115] _ rfl rfl (by intro y hy; cases hy) (by decide) (by decide) (by decide) rfl (by intro h; cases h) ?_)
            · first | assumption | omega | (simp; omega)
            rintro _ _ ⟨r1, hr1, rfl⟩
            refine list_cons rfl (op_q (q_assign rfl (by decide)) ?_)
            refine list_nil ?_
            refine hK22 _ ?_; clear hK22 K22
            refine codeT.imp (σ' := [(0, .ext _), (2, .val (.bool _)), (3, .val (.int .i64 _)), (4, .val (.int .i64 _)), (5, .val (.bool _)), (6, .val (.int .i64 _)), (7, .val (.bool _)), (8, .val (.int .i64 _)), (9, .val (.bool _)), (10, .val (.int .i64 _)), (11, .val (.bool _)), (12, .val (.int .i64 _)), (13, .val (.int .i64 _)), (14, .val (.int .i64 _)), (15, .val (.int .i64 _)), (16, .val (.int .i64 _)), (17, .val (.int .i64 _)), (18, .val (.int .i64 _)), (19, .val (.int .i64 _)), (20, .own 116 3 1 _ _)]) ?_ (imp_covers ⟨rfl, rfl, rfl, rfl, rfl, rfl, rfl, rfl, rfl, rfl, rfl, rfl, rfl, rfl, rfl, rfl, rfl, rfl, rfl, rfl, trivial⟩)
            refine code_seq (fun K23 hK23 => ?_)
            refine code_region ?_
            refine list_cons rfl (op_q (q_move rfl (by decide)) ?_)
            refine list_cons rfl (op_callM (impl_TimesLike _ (by omega)) (.tmp 0) 0 [] [.tmp 118] _ rfl rfl (by intro y hy; cases hy) (by decide) (by decide) (by decide) rfl (by intro h; cases h) ?_)
            rintro _ _ rfl; have hll := tlI_len r1
            refine list_cons rfl (op_q (q_move rfl (by decide)) ?_)
            refine list_cons rfl (op_q (q_extract rfl rfl (by decide)) ?_)
            refine list_cons rfl (op_q (q_extract rfl rfl (by decide)) ?_)
            refine list_cons rfl (op_q (q_assign rfl (by decide)) ?_)
            refine list_cons rfl (op_q (q_assign rfl (by decide)) ?_)
            refine list_nil ?_
            refine hK23 _ ?_; clear hK23 K23
            refine codeT.imp (σ' := [(0, .ext _), (2, .val (.bool _)), (3, .val (.int .i64 _)), (4, .val (.int .i64 _)), (5, .val (.bool _)), (6, .val (.int .i64 _)), (7, .val (.bool _)), (8, .val (.int .i64 _)), (9, .val (.bool _)), (10, .val (.int .i64 _)), (11, .val (.bool _)), (12, .val (.int .i64 _)), (13, .val (.int .i64 _)), (14, .val (.int .i64 _)), (15, .val (.int .i64 _)), (16, .val (.int .i64 _)), (17, .val (.int .i64 _)), (18, .val (.int .i64 _)), (19, .val (.int .i64 _)), (20, .own 116 3 1 _ _), (21, .own 119 3 1 _ _), (22, .val (.bool _))]) ?_ (imp_covers ⟨rfl, rfl, rfl, rfl, rfl, rfl, rfl, rfl, rfl, rfl, rfl, rfl, rfl, rfl, rfl, rfl, rfl, rfl, rfl, rfl, rfl, rfl, trivial⟩)
            refine code_seq (fun K24 hK24 => ?_)
            refine code_seq (fun K25 hK25 => ?_)
            refine code_region ?_
            refine list_cons rfl (op_q (q_move rfl (by decide)) ?_)
            refine list_cons rfl (op_call _ (spec_TimesLike _ (by omega)) rfl rfl (by decide) (by decide) (by decide) rfl ?_)
            rintro _ rfl
            refine list_cons rfl (op_q (q_move rfl (by decide)) ?_)
            refine list_cons rfl (op_q (q_extract rfl rfl (by decide)) ?_)
            refine list_cons rfl (op_q (q_extract rfl rfl (by decide)) ?_)
            refine list_cons rfl (op_q (q_assign rfl (by decide)) ?_)
            refine list_cons rfl (op_q (q_assign rfl (by decide)) ?_)
            refine list_nil ?_
            refine hK25 _ ?_; clear hK25 K25
            refine codeT.imp (σ' := [(0, .ext _), (2, .val (.bool _)), (3, .val (.int .i64 _)), (4, .val (.int .i64 _)), (5, .val (.bool _)), (6, .val (.int .i64 _)), (7, .val (.bool _)), (8, .val (.int .i64 _)), (9, .val (.bool _)), (10, .val (.int .i64 _)), (11, .val (.bool _)), (12, .val (.int .i64 _)), (13, .val (.int .i64 _)), (14, .val (.int .i64 _)), (15, .val (.int .i64 _)), (16, .val (.int .i64 _)), (17, .val (.int .i64 _)), (18, .val (.int .i64 _)), (19, .val (.int .i64 _)), (20, .own 116 3 1 _ _), (21, .own 119 3 1 _ _), (22, .val (.bool _)), (23, .own 124 3 1 _ _), (24, .val (.bool _))]) ?_ (imp_covers ⟨rfl, rfl, rfl, rfl, rfl, rfl, rfl, rfl, rfl, rfl, rfl, rfl, rfl, rfl, rfl, rfl, rfl, rfl, rfl, rfl, rfl, rfl, rfl, rfl, trivial⟩)
            refine code_seq (fun K26 hK26 => ?_)
            refine code_region ?_
            refine list_cons rfl (op_q (q_move rfl (by decide)) ?_)
            refine list_cons rfl (op_q (q_move rfl (by decide)) ?_)
            refine list_cons rfl (op_q (q_bne Tryd.underlying4 rfl rfl (by decide)) ?_)
            refine list_cons rfl (op_q (q_move rfl (by decide)) ?_)
            refine list_guard_d rfl rfl rfl rfl (by decide) rfl (by decide) (fun h11 => ?_) (fun h11 => ?_)
            · simp only [Bool.false_eq_true, if_true, if_false, Decidable.not_not] at h11
              (try simp only [Decidable.not_not] at h11); (try have hj8 := hj8f (by have := h11; omega); try have hv0 := hj8.2.1.1; try have hv1 := hj8.2.1.2)
              refine id (op_q (q_move rfl (by decide)) ?_)
              refine list_guard_y rfl rfl rfl rfl (by decide) rfl ?_
              refine id (op_q (q_move rfl (by decide)) ?_)
              refine list_guard_y rfl rfl rfl rfl (by decide) rfl ?_
              refine id (op_call _ (rInts_c _ _ (by first | omega | (simp; omega))) rfl rfl (by decide) (by decide) (by decide) rfl ?_)
              rintro _ rfl
              refine list_guard_y rfl rfl rfl rfl (by decide) rfl ?_
              refine id (op_q (by first | exact q_notd rfl (by decide) | exact q_not rfl (by decide)) ?_)
              refine list_cons rfl (op_q (q_pick rfl rfl (by decide)) ?_)
              refine list_nil ?_
              refine hK26 _ ?_; clear hK26 K26
              refine codeT.imp (σ' := [(0, .ext _), (2, .val (.bool _)), (3, .val (.int .i64 _)), (4, .val (.int .i64 _)), (5, .val (.bool _)), (6, .val (.int .i64 _)), (7, .val (.bool _)), (8, .val (.int .i64 _)), (9, .val (.bool _)), (10, .val (.int .i64 _)), (11, .val (.bool _)), (12, .val (.int .i64 _)), (13, .val (.int .i64 _)), (14, .val (.int .i64 _)), (15, .val (.int .i64 _)), (16, .val (.int .i64 _)), (17, .val (.int .i64 _)), (18, .val (.int .i64 _)), (19, .val (.int .i64 _)), (20, .own 116 3 1 _ _), (21, .own 119 3 1 _ _), (22, .val (.bool _)), (23, .own 124 3 1 _ _), (24, .val (.bool _)), (135, .val (.bool _))]) ?_ (imp_covers ⟨rfl, rfl, rfl, rfl, rfl, rfl, rfl, rfl, rfl, rfl, rfl, rfl, rfl, rfl, rfl, rfl, rfl, rfl, rfl, rfl, rfl, rfl, rfl, rfl, rfl, trivial⟩)
              refine code_cond_d rfl (fun h12 => ?_) (fun h12 => ?_)
              · skip
                (try simp only [Decidable.not_not] at h12); (try have hj8 := hj8f (by have := h12; omega); try have hv0 := hj8.2.1.1; try have hv1 := hj8.2.1.2)
                exfalso
                first | exact absurd rfl h12 | exact h12 trivial | (simp at h12; done)
              (try simp only [Decidable.not_not] at h12); (try have hj8 := hj8f (by have := h12; omega); try have hv0 := hj8.2.1.1; try have hv1 := hj8.2.1.2)
              refine code_skip ?_
              refine hK24 _ ?_; clear hK24 K24
              refine code_seq (fun K27 hK27 => ?_)
              refine code_region ?_
              refine list_cons rfl (op_q (q_move rfl (by decide)) ?_)
              refine list_cons rfl (op_callM (DrawTimesOfBars_c _ ?_) (.tmp 0) 0 [] [.tmp 136] _ rfl rfl (by intro y hy; cases hy) (by decide) (by decide) (by decide) rfl (by intro h; cases h) ?_)
              · first | assumption | omega | (simp; omega)
              rintro _ _ ⟨b, rfl⟩
              refine list_cons rfl (op_q (q_assign rfl (by decide)) ?_)
              refine list_nil ?_
              refine hK27 _ ?_; clear hK27 K27
              refine codeT.imp (σ' := [(0, .ext _), (2, .val (.bool _)), (3, .val (.int .i64 _)), (4, .val (.int .i64 _)), (5, .val (.bool _)), (6, .val (.int .i64 _)), (7, .val (.bool _)), (8, .val (.int .i64 _)), (9, .val (.bool _)), (10, .val (.int .i64 _)), (11, .val (.bool _)), (12, .val (.int .i64 _)), (13, .val (.int .i64 _)), (14, .val (.int .i64 _)), (15, .val (.int .i64 _)), (16, .val (.int .i64 _)), (17, .val (.int .i64 _)), (18, .val (.int .i64 _)), (19, .val (.int .i64 _)), (20, .own 116 3 1 _ _), (21, .own 119 3 1 _ _), (22, .val (.bool _)), (23, .own 124 3 1 _ _), (24, .val (.bool _)), (25, .val (.int .i64 _))]) ?_ (imp_covers ⟨rfl, rfl, rfl, rfl, rfl, rfl, rfl, rfl, rfl, rfl, rfl, rfl, rfl, rfl, rfl, rfl, rfl, rfl, rfl, rfl, rfl, rfl, rfl, rfl, rfl, trivial⟩)
              refine code_seq (fun K28 hK28 => ?_)
              refine code_region ?_
              refine list_cons rfl (op_q (q_move rfl (by decide)) ?_)
              refine list_cons rfl (op_call _ (impl_TimesOfBars _) rfl rfl (by decide) (by decide) (by decide) rfl ?_)
              rintro _ rfl; have htl := tbI_len b
              refine list_cons rfl (op_q (q_move rfl (by decide)) ?_)
              refine list_cons rfl (op_q (q_extract rfl rfl (by decide)) ?_)
              refine list_cons rfl (op_q (q_extract rfl rfl (by decide)) ?_)
              refine list_cons rfl (op_q (q_assign rfl (by decide)) ?_)
              refine list_cons rfl (op_q (q_assign rfl (by decide)) ?_)
              refine list_nil ?_
              refine hK28 _ ?_; clear hK28 K28
              refine codeT.imp (σ' := [(0, .ext _), (2, .val (.bool _)), (3, .val (.int .i64 _)), (4, .val (.int .i64 _)), (5, .val (.bool _)), (6, .val (.int .i64 _)), (7, .val (.bool _)), (8, .val (.int .i64 _)), (9, .val (.bool _)), (10, .val (.int .i64 _)), (11, .val (.bool _)), (12, .val (.int .i64 _)), (13, .val (.int .i64 _)), (14, .val (.int .i64 _)), (15, .val (.int .i64 _)), (16, .val (.int .i64 _)), (17, .val (.int .i64 _)), (18, .val (.int .i64 _)), (19, .val (.int .i64 _)), (20, .own 116 3 1 _ _), (21, .own 119 3 1 _ _), (22, .val (.bool _)), (23, .own 124 3 1 _ _), (24, .val (.bool _)), (25, .val (.int .i64 _)), (26, .own 140 3 1 _ _), (27, .val (.bool _))]) ?_ (imp_covers ⟨rfl, rfl, rfl, rfl, rfl, rfl, rfl, rfl, rfl, rfl, rfl, rfl, rfl, rfl, rfl, rfl, rfl, rfl, rfl, rfl, rfl, rfl, rfl, rfl, rfl, rfl, rfl, trivial⟩)
              refine code_seq (fun K29 hK29 => ?_)
              refine code_seq (fun K30 hK30 => ?_)
              refine code_region ?_
              refine list_cons rfl (op_q (q_move rfl (by decide)) ?_)
              refine list_cons rfl (op_call _ (spec_TimesOfBars _) rfl rfl (by decide) (by decide) (by decide) rfl ?_)
              rintro _ rfl
              refine list_cons rfl (op_q (q_move rfl (by decide)) ?_)
              refine list_cons rfl (op_q (q_extract rfl rfl (by decide)) ?_)
              refine list_cons rfl (op_q (q_extract rfl rfl (by decide)) ?_)
              refine list_cons rfl (op_q (q_assign rfl (by decide)) ?_)
              refine list_cons rfl (op_q (q_assign rfl (by decide)) ?_)
              refine list_nil ?_
              refine hK30 _ ?_; clear hK30 K30
              refine codeT.imp (σ' := [(0, .ext _), (2, .val (.bool _)), (3, .val (.int .i64 _)), (4, .val (.int .i64 _)), (5, .val (.bool _)), (6, .val (.int .i64 _)), (7, .val (.bool _)), (8, .val (.int .i64 _)), (9, .val (.bool _)), (10, .val (.int .i64 _)), (11, .val (.bool _)), (12, .val (.int .i64 _)), (13, .val (.int .i64 _)), (14, .val (.int .i64 _)), (15, .val (.int .i64 _)), (16, .val (.int .i64 _)), (17, .val (.int .i64 _)), (18, .val (.int .i64 _)), (19, .val (.int .i64 _)), (20, .own 116 3 1 _ _), (21, .own 119 3 1 _ _), (22, .val (.bool _)), (23, .own 124 3 1 _ _), (24, .val (.bool _)), (25, .val (.int .i64 _)), (26, .own 140 3 1 _ _), (27, .val (.bool _)), (28, .own 145 3 1 _ _), (29, .val (.bool _))]) ?_ (imp_covers ⟨rfl, rfl, rfl, rfl, rfl, rfl, rfl, rfl, rfl, rfl, rfl, rfl, rfl, rfl, rfl, rfl, rfl, rfl, rfl, rfl, rfl, rfl, rfl, rfl, rfl, rfl, rfl, rfl, rfl, trivial⟩)
              refine code_seq (fun K31 hK31 => ?_)
              refine code_region ?_
              refine list_cons rfl (op_q (q_move rfl (by decide)) ?_)
              refine list_cons rfl (op_q (q_move rfl (by decide)) ?_)
              refine list_cons rfl (op_q (q_bne Tryd.underlying4 rfl rfl (by decide)) ?_)
              refine list_cons rfl (op_q (q_move rfl (by decide)) ?_)
              refine list_guard_d rfl rfl rfl rfl (by decide) rfl (by decide) (fun h13 => ?_) (fun h13 => ?_)
              · simp only [Bool.false_eq_true, if_true, if_false, Decidable.not_not] at h13
                (try simp only [Decidable.not_not] at h13); (try have hj8 := hj8f (by have := h13; omega); try have hv0 := hj8.2.1.1; try have hv1 := hj8.2.1.2)
                refine id (op_q (q_move rfl (by decide)) ?_)
                refine list_guard_y rfl rfl rfl rfl (by decide) rfl ?_
                refine id (op_q (q_move rfl (by decide)) ?_)
                refine list_guard_y rfl rfl rfl rfl (by decide) rfl ?_
                refine id (op_call _ (rInts_c _ _ (by first | omega | (simp; omega))) rfl rfl (by decide) (by decide) (by decide) rfl ?_)
                rintro _ rfl
                refine list_guard_y rfl rfl rfl rfl (by decide) rfl ?_
                refine id (op_q (by first | exact q_notd rfl (by decide) | exact q_not rfl (by decide)) ?_)
                refine list_cons rfl (op_q (q_pick rfl rfl (by decide)) ?_)
                refine list_nil ?_
                refine hK31 _ ?_; clear hK31 K31
                refine codeT.imp (σ' := ((0, .ext _) :: (2, .val (.bool _)) :: (3, .val (.int .i64 _)) :: (4, .val (.int .i64 _)) :: (5, .val (.bool _)) :: (6, .val (.int .i64 _)) :: (7, .val (.bool _)) :: (8, .val (.int .i64 _)) :: (9, .val (.bool _)) :: (10, .val (.int .i64 _)) :: (11, .val (.bool _)) :: (12, .val (.int .i64 _)) :: (13, .val (.int .i64 _)) :: (14, .val (.int .i64 _)) :: (15, .val (.int .i64 _)) :: (16, .val (.int .i64 _)) :: (17, .val (.int .i64 _)) :: (18, .val (.int .i64 _)) :: (19, .val (.int .i64 _)) :: (20, .own 116 3 1 _ _) :: (21, .own 119 3 1 _ _) :: (22, .val (.bool _)) :: (23, .own 124 3 1 _ _) :: (24, .val (.bool _)) :: (25, .val (.int .i64 _)) :: (26, .own 140 3 1 _ _) :: (27, .val (.bool _)) :: (28, .own 145 3 1 _ _) :: (29, .val (.bool _)) :: (156, .val (.bool _)) :: [])) ?_ (imp_covers ⟨rfl, rfl, rfl, rfl, rfl, rfl, rfl, rfl, rfl, rfl, rfl, rfl, rfl, rfl, rfl, rfl, rfl, rfl, rfl, rfl, rfl, rfl, rfl, rfl, rfl, rfl, rfl, rfl, rfl, rfl, trivial⟩)
                refine code_cond_d rfl (fun h14 => ?_) (fun h14 => ?_)
                · skip
                  (try simp only [Decidable.not_not] at h14); (try have hj8 := hj8f (by have := h14; omega); try have hv0 := hj8.2.1.1; try have hv1 := hj8.2.1.2)
                  exfalso
                  first | exact absurd rfl h14 | exact h14 trivial | (simp at h14; done)
                (try simp only [Decidable.not_not] at h14); (try have hj8 := hj8f (by have := h14; omega); try have hv0 := hj8.2.1.1; try have hv1 := hj8.2.1.2)
                refine code_skip ?_
                refine hK29 _ ?_; clear hK29 K29
                refine code_seq (fun K32 hK32 => ?_)
                refine code_seq (fun K33 hK33 => ?_)
                refine code_region ?_
                refine list_cons rfl (op_q (q_assign rfl (by decide)) ?_)
                refine list_nil ?_
                refine hK33 _ ?_; clear hK33 K33
                refine code_block ?_
                refine code_loop (X := Int × Bool × Int × Bool × Int × Bool × Int × Int × Int × Int × Int × Int × Bool × Nat × List PV × Bool × Nat × List PV × Bool × Int) (fun x => [(0, .ext (.sl code.length (bytesP code))), (2, .val (.bool false)), (3, .val (.int .i64 (t))), (4, .val (.int .i64 (if TmP t then litF (rowT t) else 0))), (5, .val (.bool (decide (TmP t)))), (6, .val (.int .i64 x.1)), (7, .val (.bool x.2.1)), (8, .val (.int .i64 x.2.2.1)), (9, .val (.bool x.2.2.2.1)), (10, .val (.int .i64 x.2.2.2.2.1)), (11, .val (.bool x.2.2.2.2.2.1)), (12, .val (.int .i64 x.2.2.2.2.2.2.1)), (13, .val (.int .i64 (hi))), (14, .val (.int .i64 x.2.2.2.2.2.2.2.1)), (15, .val (.int .i64 x.2.2.2.2.2.2.2.2.1)), (16, .val (.int .i64 x.2.2.2.2.2.2.2.2.2.1)), (17, .val (.int .i64 (lo))), (18, .val (.int .i64 x.2.2.2.2.2.2.2.2.2.2.1)), (19, .val (.int .i64 x.2.2.2.2.2.2.2.2.2.2.2.1)), (20, .own 116 3 1 (r1).length ((r1).map (.int .i64))), (21, .own 119 3 1 (if LikP r1 then selK (tlP r1) 1440 else []).length ((if LikP r1 then selK (tlP r1) 1440 else []).map (.int .i64))), (22, .val (.bool x.2.2.2.2.2.2.2.2.2.2.2.2.1)), (23, .own 124 3 1 x.2.2.2.2.2.2.2.2.2.2.2.2.2.1 x.2.2.2.2.2.2.2.2.2.2.2.2.2.2.1), (24, .val (.bool x.2.2.2.2.2.2.2.2.2.2.2.2.2.2.2.1)), (25, .val (.int .i64 (b))), (26, .own 140 3 1 (if 0 ≤ b ∧ b ≤ 28 then selK (tbP b) 1440 else []).length ((if 0 ≤ b ∧ b ≤ 28 then selK (tbP b) 1440 else []).map (.int .i64))), (27, .val (.bool (decide (0 ≤ b ∧ b ≤ 28)))), (28, .own 145 3 1 x.2.2.2.2.2.2.2.2.2.2.2.2.2.2.2.2.1 x.2.2.2.2.2.2.2.2.2.2.2.2.2.2.2.2.2.1), (29, .val (.bool x.2.2.2.2.2.2.2.2.2.2.2.2.2.2.2.2.2.2.1)), (30, .val (.int .i64 x.2.2.2.2.2.2.2.2.2.2.2.2.2.2.2.2.2.2.2))]) (fun x => 0 ≤ x.2.2.2.2.2.2.2.2.2.2.2.2.2.2.2.2.2.2.2 ∧ x.2.2.2.2.2.2.2.2.2.2.2.2.2.2.2.2.2.2.2 ≤ (if LikP r1 then selK (tlP r1) 1440 else []).length) (fun x => (if LikP r1 then selK (tlP r1) 1440 else []).length - x.2.2.2.2.2.2.2.2.2.2.2.2.2.2.2.2.2.2.2.toNat) (_, _, _, _, _, _, _, _, _, _, _, _, _, _, _, _, _, _, _, _) (imp_covers ⟨rfl, rfl, rfl, rfl, rfl, rfl, rfl, rfl, rfl, rfl, rfl, rfl, rfl, rfl, rfl, rfl, rfl, rfl, rfl, rfl, rfl, rfl, rfl, rfl, rfl, rfl, rfl, rfl, rfl, rfl, trivial⟩) ?_ ?_
                · (try dsimp only)
                  exact ⟨by omega, by omega⟩
                · intro x hI
                  obtain ⟨want, wants, changes, one, want_10, wants_11, bright, x_, y, dark, x__18, y_19, two, want_23_n, want_23_c, wants_24, want_28_n, want_28_c, wants_29, i⟩ := x
                  replace hI : 0 ≤ i ∧ i ≤ (if LikP r1 then selK (tlP r1) 1440 else []).length := hI
                  show codeT _ _ _ [(0, .ext (.sl code.length (bytesP code))), (2, .val (.bool false)), (3, .val (.int .i64 (t))), (4, .val (.int .i64 (if TmP t then litF (rowT t) else 0))), (5, .val (.bool (decide (TmP t)))), (6, .val (.int .i64 want)), (7, .val (.bool wants)), (8, .val (.int .i64 changes)), (9, .val (.bool one)), (10, .val (.int .i64 want_10)), (11, .val (.bool wants_11)), (12, .val (.int .i64 bright)), (13, .val (.int .i64 (hi))), (14, .val (.int .i64 x_)), (15, .val (.int .i64 y)), (16, .val (.int .i64 dark)), (17, .val (.int .i64 (lo))), (18, .val (.int .i64 x__18)), (19, .val (.int .i64 y_19)), (20, .own 116 3 1 (r1).length ((r1).map (.int .i64))), (21, .own 119 3 1 (if LikP r1 then selK (tlP r1) 1440 else []).length ((if LikP r1 then selK (tlP r1) 1440 else []).map (.int .i64))), (22, .val (.bool two)), (23, .own 124 3 1 want_23_n want_23_c), (24, .val (.bool wants_24)), (25, .val (.int .i64 (b))), (26, .own 140 3 1 (if 0 ≤ b ∧ b ≤ 28 then selK (tbP b) 1440 else []).length ((if 0 ≤ b ∧ b ≤ 28 then selK (tbP b) 1440 else []).map (.int .i64))), (27, .val (.bool (decide (0 ≤ b ∧ b ≤ 28)))), (28, .own 145 3 1 want_28_n want_28_c), (29, .val (.bool wants_29)), (30, .val (.int .i64 i))] _
                  obtain ⟨i1, i2⟩ := hI
                  have hll := tlI_len r1
                  have htl := tbI_len b
                  have hj8f := fun h : i.toNat < (if LikP r1 then selK (tlP r1) 1440 else []).length => lik1 h
                  refine code_seq (fun K34 hK34 => ?_)
                  refine code_seq (fun K35 hK35 => ?_)
                  refine code_region ?_
                  refine list_cons rfl (op_q (q_move rfl (by decide)) ?_)
                  refine list_cons rfl (op_q (q_move rfl (by decide)) ?_)
                  refine list_cons rfl (op_q (q_len_sl Tryd.underlying35 rfl rfl (by decide)) ?_)
                  refine list_cons rfl (op_q (q_lt rfl rfl (by decide)) ?_)
                  refine list_cons rfl (op_q (q_move rfl (by decide)) ?_)
                  refine list_guard_d rfl rfl rfl rfl (by decide) rfl (by decide) (fun h15 => ?_) (fun h15 => ?_)
                  · simp only [Bool.false_eq_true, if_true, if_false, Decidable.not_not] at h15
                    (try simp only [Decidable.not_not] at h15); (try have hj8 := hj8f (by have := h15; omega); try have hv0 := hj8.2.1.1; try have hv1 := hj8.2.1.2)
                    refine id (op_q (q_move rfl (by decide)) ?_)
                    refine list_guard_y rfl rfl rfl rfl (by decide) rfl ?_
                    refine id (op_q (q_lt rfl rfl (by decide)) ?_)
                    refine list_cons rfl (op_q (q_pick rfl rfl (by decide)) ?_)
                    refine list_nil ?_
                    refine hK35 _ ?_; clear hK35 K35
                    refine codeT.imp (σ' := ((0, .ext _) :: (2, .val (.bool _)) :: (3, .val (.int .i64 _)) :: (4, .val (.int .i64 _)) :: (5, .val (.bool _)) :: (6, .val (.int .i64 _)) :: (7, .val (.bool _)) :: (8, .val (.int .i64 _)) :: (9, .val (.bool _)) :: (10, .val (.int .i64 _)) :: (11, .val (.bool _)) :: (12, .val (.int .i64 _)) :: (13, .val (.int .i64 _)) :: (14, .val (.int .i64 _)) :: (15, .val (.int .i64 _)) :: (16, .val (.int .i64 _)) :: (17, .val (.int .i64 _)) :: (18, .val (.int .i64 _)) :: (19, .val (.int .i64 _)) :: (20, .own 116 3 1 _ _) :: (21, .own 119 3 1 _ _) :: (22, .val (.bool _)) :: (23, .own 124 3 1 _ _) :: (24, .val (.bool _)) :: (25, .val (.int .i64 _)) :: (26, .own 140 3 1 _ _) :: (27, .val (.bool _)) :: (28, .own 145 3 1 _ _) :: (29, .val (.bool _)) :: (30, .val (.int .i64 _)) :: (164, .val (.bool _)) :: [])) ?_ (imp_covers ⟨rfl, rfl, rfl, rfl, rfl, rfl, rfl, rfl, rfl, rfl, rfl, rfl, rfl, rfl, rfl, rfl, rfl, rfl, rfl, rfl, rfl, rfl, rfl, rfl, rfl, rfl, rfl, rfl, rfl, rfl, rfl, trivial⟩)
                    refine code_cond_d rfl (fun h16 => ?_) (fun h16 => ?_)
                    · skip
                      (try simp only [Decidable.not_not] at h16); (try have hj8 := hj8f (by have := h16; omega); try have hv0 := hj8.2.1.1; try have hv1 := hj8.2.1.2)
                      refine code_skip ?_
                      refine hK34 _ ?_; clear hK34 K34
                      refine code_seq (fun K36 hK36 => ?_)
                      refine code_block ?_
                      refine code_seq (fun K37 hK37 => ?_)
                      refine code_region ?_
                      refine list_cons rfl (op_q (q_move rfl (by decide)) ?_)
                      refine list_cons rfl (op_q (q_move rfl (by decide)) ?_)
                      refine list_cons rfl (op_q (q_indexAddr_own sl_35 rfl rfl (by omega) (by omega) (by decide)) ?_)
                      refine list_cons rfl (op_q (q_load one_3 21 rfl rfl rfl (by exact get_map1 (PV.int .i64) 0 (if LikP r1 then selK (tlP r1) 1440 else []) (by omega)) (by decide)) ?_)
                      refine list_cons rfl (op_call _ (impl_ClockRow _) rfl rfl (by decide) (by decide) (by decide) rfl ?_)
                      rintro _ rfl; have hcv := ckI_len ((if LikP r1 then selK (tlP r1) 1440 else []).getD i.toNat 0)
                      refine list_cons rfl (op_q (q_move rfl (by decide)) ?_)
                      refine list_cons rfl (op_q (q_extract rfl rfl (by decide)) ?_)
                      refine list_cons rfl (op_q (q_extract rfl rfl (by decide)) ?_)
                      refine list_cons rfl (op_q (q_assign rfl (by decide)) ?_)
                      refine list_cons rfl (op_q (q_assign rfl (by decide)) ?_)
                      refine list_nil ?_
                      refine hK37 _ ?_; clear hK37 K37
                      refine codeT.imp (σ' := ((0, .ext _) :: (2, .val (.bool _)) :: (3, .val (.int .i64 _)) :: (4, .val (.int .i64 _)) :: (5, .val (.bool _)) :: (6, .val (.int .i64 _)) :: (7, .val (.bool _)) :: (8, .val (.int .i64 _)) :: (9, .val (.bool _)) :: (10, .val (.int .i64 _)) :: (11, .val (.bool _)) :: (12, .val (.int .i64 _)) :: (13, .val (.int .i64 _)) :: (14, .val (.int .i64 _)) :: (15, .val (.int .i64 _)) :: (16, .val (.int .i64 _)) :: (17, .val (.int .i64 _)) :: (18, .val (.int .i64 _)) :: (19, .val (.int .i64 _)) :: (20, .own 116 3 1 _ _) :: (21, .own 119 3 1 _ _) :: (22, .val (.bool _)) :: (23, .own 124 3 1 _ _) :: (24, .val (.bool _)) :: (25, .val (.int .i64 _)) :: (26, .own 140 3 1 _ _) :: (27, .val (.bool _)) :: (28, .own 145 3 1 _ _) :: (29, .val (.bool _)) :: (30, .val (.int .i64 _)) :: (31, .own 172 3 1 _ _) :: (32, .val (.bool _)) :: [])) ?_ (imp_covers ⟨rfl, rfl, rfl, rfl, rfl, rfl, rfl, rfl, rfl, rfl, rfl, rfl, rfl, rfl, rfl, rfl, rfl, rfl, rfl, rfl, rfl, rfl, rfl, rfl, rfl, rfl, rfl, rfl, rfl, rfl, rfl, rfl, trivial⟩)
                      refine code_seq (fun K38 hK38 => ?_)
                      refine code_seq (fun K39 hK39 => ?_)
                      refine code_region ?_
                      refine list_cons rfl (op_q (q_move rfl (by decide)) ?_)
                      refine list_cons rfl (op_q (by first | exact q_notd rfl (by decide) | exact q_not rfl (by decide)) ?_)
                      refine list_nil ?_
                      refine hK39 _ ?_; clear hK39 K39
                      refine code_cond_d rfl (fun h17 => ?_) (fun h17 => ?_)
                      · skip
                        (try simp only [Decidable.not_not] at h17); (try have hj8 := hj8f (by have := h17; omega); try have hv0 := hj8.2.1.1; try have hv1 := hj8.2.1.2)
                        exfalso
                        exact h17 hj8.2.1
                      (try simp only [Decidable.not_not] at h17); (try have hj8 := hj8f (by have := h17; omega); try have hv0 := hj8.2.1.1; try have hv1 := hj8.2.1.2)
                      refine code_skip ?_
                      refine hK38 _ ?_; clear hK38 K38
                      refine code_seq (fun K40 hK40 => ?_)
                      refine code_region ?_
                      refine list_cons rfl (op_q (q_assign rfl (by decide)) ?_)
                      refine list_nil ?_
                      refine hK40 _ ?_; clear hK40 K40
                      refine code_block ?_
                      refine code_loop (X := Int × Bool × Int × Bool × Int × Bool × Int × Int × Int × Int × Int × Int × Bool × Nat × List PV × Bool × Nat × List PV × Bool × Bool × Int) (fun x => [(0, .ext (.sl code.length (bytesP code))), (2, .val (.bool false)), (3, .val (.int .i64 (t))), (4, .val (.int .i64 (if TmP t then litF (rowT t) else 0))), (5, .val (.bool (decide (TmP t)))), (6, .val (.int .i64 x.1)), (7, .val (.bool x.2.1)), (8, .val (.int .i64 x.2.2.1)), (9, .val (.bool x.2.2.2.1)), (10, .val (.int .i64 x.2.2.2.2.1)), (11, .val (.bool x.2.2.2.2.2.1)), (12, .val (.int .i64 x.2.2.2.2.2.2.1)), (13, .val (.int .i64 (hi))), (14, .val (.int .i64 x.2.2.2.2.2.2.2.1)), (15, .val (.int .i64 x.2.2.2.2.2.2.2.2.1)), (16, .val (.int .i64 x.2.2.2.2.2.2.2.2.2.1)), (17, .val (.int .i64 (lo))), (18, .val (.int .i64 x.2.2.2.2.2.2.2.2.2.2.1)), (19, .val (.int .i64 x.2.2.2.2.2.2.2.2.2.2.2.1)), (20, .own 116 3 1 (r1).length ((r1).map (.int .i64))), (21, .own 119 3 1 (if LikP r1 then selK (tlP r1) 1440 else []).length ((if LikP r1 then selK (tlP r1) 1440 else []).map (.int .i64))), (22, .val (.bool x.2.2.2.2.2.2.2.2.2.2.2.2.1)), (23, .own 124 3 1 x.2.2.2.2.2.2.2.2.2.2.2.2.2.1 x.2.2.2.2.2.2.2.2.2.2.2.2.2.2.1), (24, .val (.bool x.2.2.2.2.2.2.2.2.2.2.2.2.2.2.2.1)), (25, .val (.int .i64 (b))), (26, .own 140 3 1 (if 0 ≤ b ∧ b ≤ 28 then selK (tbP b) 1440 else []).length ((if 0 ≤ b ∧ b ≤ 28 then selK (tbP b) 1440 else []).map (.int .i64))), (27, .val (.bool (decide (0 ≤ b ∧ b ≤ 28)))), (28, .own 145 3 1 x.2.2.2.2.2.2.2.2.2.2.2.2.2.2.2.2.1 x.2.2.2.2.2.2.2.2.2.2.2.2.2.2.2.2.2.1), (29, .val (.bool x.2.2.2.2.2.2.2.2.2.2.2.2.2.2.2.2.2.2.1)), (30, .val (.int .i64 i)), (31, .own 172 3 1 (if TmP ((if LikP r1 then selK (tlP r1) 1440 else []).getD i.toNat 0) then rowT ((if LikP r1 then selK (tlP r1) 1440 else []).getD i.toNat 0) else []).length ((if TmP ((if LikP r1 then selK (tlP r1) 1440 else []).getD i.toNat 0) then rowT ((if LikP r1 then selK (tlP r1) 1440 else []).getD i.toNat 0) else []).map (.int .i64))), (32, .val (.bool x.2.2.2.2.2.2.2.2.2.2.2.2.2.2.2.2.2.2.2.1)), (33, .val (.int .i64 x.2.2.2.2.2.2.2.2.2.2.2.2.2.2.2.2.2.2.2.2))]) (fun x => 0 ≤ x.2.2.2.2.2.2.2.2.2.2.2.2.2.2.2.2.2.2.2.2 ∧ x.2.2.2.2.2.2.2.2.2.2.2.2.2.2.2.2.2.2.2.2 ≤ 4) (fun x => 4 - x.2.2.2.2.2.2.2.2.2.2.2.2.2.2.2.2.2.2.2.2.toNat) (_, _, _, _, _, _, _, _, _, _, _, _, _, _, _, _, _, _, _, _, _) (imp_covers ⟨rfl, rfl, rfl, rfl, rfl, rfl, rfl, rfl, rfl, rfl, rfl, rfl, rfl, rfl, rfl, rfl, rfl, rfl, rfl, rfl, rfl, rfl, rfl, rfl, rfl, rfl, rfl, rfl, rfl, rfl, rfl, rfl, rfl, trivial⟩) ?_ ?_
                      · (try dsimp only)
                        exact ⟨by omega, by omega⟩
                      · intro x hI
                        obtain ⟨want, wants, changes, one, want_10, wants_11, bright, x_, y, dark, x__18, y_19, two, want_23_n, want_23_c, wants_24, want_28_n, want_28_c, wants_29, four, k⟩ := x
                        replace hI : 0 ≤ k ∧ k ≤ 4 := hI
                        show codeT _ _ _ [(0, .ext (.sl code.length (bytesP code))), (2, .val (.bool false)), (3, .val (.int .i64 (t))), (4, .val (.int .i64 (if TmP t then litF (rowT t) else 0))), (5, .val (.bool (decide (TmP t)))), (6, .val (.int .i64 want)), (7, .val (.bool wants)), (8, .val (.int .i64 changes)), (9, .val (.bool one)), (10, .val (.int .i64 want_10)), (11, .val (.bool wants_11)), (12, .val (.int .i64 bright)), (13, .val (.int .i64 (hi))), (14, .val (.int .i64 x_)), (15, .val (.int .i64 y)), (16, .val (.int .i64 dark)), (17, .val (.int .i64 (lo))), (18, .val (.int .i64 x__18)), (19, .val (.int .i64 y_19)), (20, .own 116 3 1 (r1).length ((r1).map (.int .i64))), (21, .own 119 3 1 (if LikP r1 then selK (tlP r1) 1440 else []).length ((if LikP r1 then selK (tlP r1) 1440 else []).map (.int .i64))), (22, .val (.bool two)), (23, .own 124 3 1 want_23_n want_23_c), (24, .val (.bool wants_24)), (25, .val (.int .i64 (b))), (26, .own 140 3 1 (if 0 ≤ b ∧ b ≤ 28 then selK (tbP b) 1440 else []).length ((if 0 ≤ b ∧ b ≤ 28 then selK (tbP b) 1440 else []).map (.int .i64))), (27, .val (.bool (decide (0 ≤ b ∧ b ≤ 28)))), (28, .own 145 3 1 want_28_n want_28_c), (29, .val (.bool wants_29)), (30, .val (.int .i64 i)), (31, .own 172 3 1 (if TmP ((if LikP r1 then selK (tlP r1) 1440 else []).getD i.toNat 0) then rowT ((if LikP r1 then selK (tlP r1) 1440 else []).getD i.toNat 0) else []).length ((if TmP ((if LikP r1 then selK (tlP r1) 1440 else []).getD i.toNat 0) then rowT ((if LikP r1 then selK (tlP r1) 1440 else []).getD i.toNat 0) else []).map (.int .i64))), (32, .val (.bool four)), (33, .val (.int .i64 k))] _
                        obtain ⟨k1, k2⟩ := hI
                        have hr4 := hj8.1.1
                        have hrl : (if TmP ((if LikP r1 then selK (tlP r1) 1440 else []).getD i.toNat 0) then rowT ((if LikP r1 then selK (tlP r1) 1440 else []).getD i.toNat 0) else []).length = 4 := by rw [if_pos hj8.2.1]; rfl
                        refine code_seq (fun K41 hK41 => ?_)
                        refine code_seq (fun K42 hK42 => ?_)
                        refine code_region ?_
                        refine list_cons rfl (op_q (q_move rfl (by decide)) ?_)
                        refine list_cons rfl (op_q (q_lt rfl rfl (by decide)) ?_)
                        refine list_nil ?_
                        refine hK42 _ ?_; clear hK42 K42
                        refine code_cond_d rfl (fun h18 => ?_) (fun h18 => ?_)
                        · skip
                          (try simp only [Decidable.not_not] at h18); (try have hj8 := hj8f (by have := h18; omega); try have hv0 := hj8.2.1.1; try have hv1 := hj8.2.1.2)
                          refine code_skip ?_
                          refine hK41 _ ?_; clear hK41 K41
                          refine code_seq (fun K43 hK43 => ?_)
                          refine code_block ?_
                          refine code_seq (fun K44 hK44 => ?_)
                          refine code_draw (by kernel_rfl) (by kernel_rfl) ?_
                          refine draw_q rfl (q_move rfl (by decide)) ?_
                          refine draw_q rfl (q_move rfl (by decide)) ?_
                          refine draw_q rfl (q_indexAddr_own sl_35 rfl rfl (by omega) (by omega) (by decide)) ?_
                          refine draw_q rfl (q_load one_3 20 rfl rfl rfl (by first | exact get_map1 (PV.int .i64) 0 r1 (by omega) | exact get_map1 (PV.int .i64) 0 (if TmP ((if LikP r1 then selK (tlP r1) 1440 else []).getD i.toNat 0) then rowT ((if LikP r1 then selK (tlP r1) 1440 else []).getD i.toNat 0) else []) (by omega)) (by decide)) ?_
                          refine draw_q rfl (q_ne rfl rfl (by decide)) ?_
                          refine draw_q rfl (q_move rfl (by decide)) ?_
                          refine draw_guard_d rfl rfl rfl rfl (by decide) rfl (by decide) (fun h19 => q_move rfl (by decide)) (fun h19 => ?_) (fun h19 => ?_)
                          · simp only [Bool.false_eq_true, if_true, if_false, Decidable.not_not] at h19
                            (try simp only [Decidable.not_not] at h19); (try have hj8 := hj8f (by have := h19; omega); try have hv0 := hj8.2.1.1; try have hv1 := hj8.2.1.2)
                            refine draw_guard_y rfl rfl rfl rfl (by decide) rfl (q_move rfl (by decide)) ?_
                            refine draw_guard_y rfl rfl rfl rfl (by decide) rfl (q_indexAddr_own sl_35 rfl rfl (by omega) (by omega) (by decide)) ?_
                            refine draw_guard_y rfl rfl rfl rfl (by decide) rfl (q_load one_3 20 rfl rfl rfl (by first | exact get_map1 (PV.int .i64) 0 r1 (by omega) | exact get_map1 (PV.int .i64) 0 (if TmP ((if LikP r1 then selK (tlP r1) 1440 else []).getD i.toNat 0) then rowT ((if LikP r1 then selK (tlP r1) 1440 else []).getD i.toNat 0) else []) (by omega)) (by decide)) ?_
                            refine draw_guard_y rfl rfl rfl rfl (by decide) rfl (q_move rfl (by decide)) ?_
                            refine draw_guard_y rfl rfl rfl rfl (by decide) rfl (q_move rfl (by decide)) ?_
                            refine draw_guard_y rfl rfl rfl rfl (by decide) rfl (q_indexAddr_own sl_35 rfl rfl (by omega) (by omega) (by decide)) ?_
                            refine draw_guard_y rfl rfl rfl rfl (by decide) rfl (q_load one_3 31 rfl rfl rfl (by first | exact get_map1 (PV.int .i64) 0 r1 (by omega) | exact get_map1 (PV.int .i64) 0 (if TmP ((if LikP r1 then selK (tlP r1) 1440 else []).getD i.toNat 0) then rowT ((if LikP r1 then selK (tlP r1) 1440 else []).getD i.toNat 0) else []) (by omega)) (by decide)) ?_
                            refine draw_guard_y rfl rfl rfl rfl (by decide) rfl (q_ne rfl rfl (by decide)) ?_
                            refine draw_q rfl (q_pick rfl rfl (by decide)) ?_
                            refine draw_nil ?_
                            refine hK44 _ ?_; clear hK44 K44
                            refine codeT.imp (σ' := ((0, .ext _) :: (2, .val (.bool _)) :: (3, .val (.int .i64 _)) :: (4, .val (.int .i64 _)) :: (5, .val (.bool _)) :: (6, .val (.int .i64 _)) :: (7, .val (.bool _)) :: (8, .val (.int .i64 _)) :: (9, .val (.bool _)) :: (10, .val (.int .i64 _)) :: (11, .val (.bool _)) :: (12, .val (.int .i64 _)) :: (13, .val (.int .i64 _)) :: (14, .val (.int .i64 _)) :: (15, .val (.int .i64 _)) :: (16, .val (.int .i64 _)) :: (17, .val (.int .i64 _)) :: (18, .val (.int .i64 _)) :: (19, .val (.int .i64 _)) :: (20, .own 116 3 1 _ _) :: (21, .own 119 3 1 _ _) :: (22, .val (.bool _)) :: (23, .own 124 3 1 _ _) :: (24, .val (.bool _)) :: (25, .val (.int .i64 _)) :: (26, .own 140 3 1 _ _) :: (27, .val (.bool _)) :: (28, .own 145 3 1 _ _) :: (29, .val (.bool _)) :: (30, .val (.int .i64 _)) :: (31, .own 172 3 1 _ _) :: (32, .val (.bool _)) :: (33, .val (.int .i64 _)) :: (196, .val (.bool _)) :: [])) ?_ (imp_covers ⟨rfl, rfl, rfl, rfl, rfl, rfl, rfl, rfl, rfl, rfl, rfl, rfl, rfl, rfl, rfl, rfl, rfl, rfl, rfl, rfl, rfl, rfl, rfl, rfl, rfl, rfl, rfl, rfl, rfl, rfl, rfl, rfl, rfl, rfl, trivial⟩)
                            refine code_cond_d rfl (fun h20 => ?_) (fun h20 => ?_)
                            · skip
                              (try simp only [Decidable.not_not] at h20); (try have hj8 := hj8f (by have := h20; omega); try have hv0 := hj8.2.1.1; try have hv1 := hj8.2.1.2)
                              exfalso
                              exact (hj8.2.2 k.toNat (by omega)).elim (by assumption) (fun z => h20 (by first | exact z | (rw [if_pos hj8.2.1]; exact z)))
                            (try simp only [Decidable.not_not] at h20); (try have hj8 := hj8f (by have := h20; omega); try have hv0 := hj8.2.1.1; try have hv1 := hj8.2.1.2)
                            refine code_skip ?_
                            refine blk_n ?_
                            refine hK43 _ ?_; clear hK43 K43
                            refine code_region ?_
                            refine list_cons rfl (op_q (q_move rfl (by decide)) ?_)
                            refine list_cons rfl (op_q (by first | exact q_addI rfl rfl (by decide) (by omega) (by omega) | exact q_ib rfl rfl rfl (by decide)) ?_)
                            refine list_cons rfl (op_q (q_assign rfl (by decide)) ?_)
                            refine list_nil ?_
                            refine then_n ⟨(_, _, _, _, _, _, _, _, _, _, _, _, _, _, _, _, _, _, _, _, _), imp_covers ⟨rfl, rfl, rfl, rfl, rfl, rfl, rfl, rfl, rfl, rfl, rfl, rfl, rfl, rfl, rfl, rfl, rfl, rfl, rfl, rfl, rfl, rfl, rfl, rfl, rfl, rfl, rfl, rfl, rfl, rfl, rfl, rfl, rfl, trivial⟩, ?_, ?_⟩
                            · (try dsimp only)
                              exact ⟨by omega, by omega⟩
                            · (try dsimp only); omega
                          simp only [Bool.false_eq_true, if_true, if_false, Decidable.not_not] at h19
                          (try simp only [Decidable.not_not] at h19); (try have hj8 := hj8f (by have := h19; omega); try have hv0 := hj8.2.1.1; try have hv1 := hj8.2.1.2)
                          refine draw_guard_nT rfl rfl rfl rfl (by decide) (by decide) ?_
                          refine draw_guard_nT rfl rfl rfl rfl (by decide) (by decide) ?_
                          refine draw_guard_nT rfl rfl rfl rfl (by decide) (by decide) ?_
                          refine draw_guard_nT rfl rfl rfl rfl (by decide) (by decide) ?_
                          refine draw_guard_nT rfl rfl rfl rfl (by decide) (by decide) ?_
                          refine draw_guard_nT rfl rfl rfl rfl (by decide) (by decide) ?_
                          refine draw_guard_nT rfl rfl rfl rfl (by decide) (by decide) ?_
                          refine draw_guard_nT rfl rfl rfl rfl (by decide) (by decide) ?_
                          refine draw_q rfl (q_pick rfl rfl (by decide)) ?_
                          refine draw_nil ?_
                          refine hK44 _ ?_; clear hK44 K44
                          refine codeT.imp (σ' := ((0, .ext _) :: (2, .val (.bool _)) :: (3, .val (.int .i64 _)) :: (4, .val (.int .i64 _)) :: (5, .val (.bool _)) :: (6, .val (.int .i64 _)) :: (7, .val (.bool _)) :: (8, .val (.int .i64 _)) :: (9, .val (.bool _)) :: (10, .val (.int .i64 _)) :: (11, .val (.bool _)) :: (12, .val (.int .i64 _)) :: (13, .val (.int .i64 _)) :: (14, .val (.int .i64 _)) :: (15, .val (.int .i64 _)) :: (16, .val (.int .i64 _)) :: (17, .val (.int .i64 _)) :: (18, .val (.int .i64 _)) :: (19, .val (.int .i64 _)) :: (20, .own 116 3 1 _ _) :: (21, .own 119 3 1 _ _) :: (22, .val (.bool _)) :: (23, .own 124 3 1 _ _) :: (24, .val (.bool _)) :: (25, .val (.int .i64 _)) :: (26, .own 140 3 1 _ _) :: (27, .val (.bool _)) :: (28, .own 145 3 1 _ _) :: (29, .val (.bool _)) :: (30, .val (.int .i64 _)) :: (31, .own 172 3 1 _ _) :: (32, .val (.bool _)) :: (33, .val (.int .i64 _)) :: (196, .val (.bool _)) :: [])) ?_ (imp_covers ⟨rfl, rfl, rfl, rfl, rfl, rfl, rfl, rfl, rfl, rfl, rfl, rfl, rfl, rfl, rfl, rfl, rfl, rfl, rfl, rfl, rfl, rfl, rfl, rfl, rfl, rfl, rfl, rfl, rfl, rfl, rfl, rfl, rfl, rfl, trivial⟩)
                          refine code_cond_f rfl ?_
                          refine code_skip ?_
                          refine blk_n ?_
                          refine hK43 _ ?_; clear hK43 K43
                          refine code_region ?_
                          refine list_cons rfl (op_q (q_move rfl (by decide)) ?_)
                          refine list_cons rfl (op_q (by first | exact q_addI rfl rfl (by decide) (by omega) (by omega) | exact q_ib rfl rfl rfl (by decide)) ?_)
                          refine list_cons rfl (op_q (q_assign rfl (by decide)) ?_)
                          refine list_nil ?_
                          refine then_n ⟨(_, _, _, _, _, _, _, _, _, _, _, _, _, _, _, _, _, _, _, _, _), imp_covers ⟨rfl, rfl, rfl, rfl, rfl, rfl, rfl, rfl, rfl, rfl, rfl, rfl, rfl, rfl, rfl, rfl, rfl, rfl, rfl, rfl, rfl, rfl, rfl, rfl, rfl, rfl, rfl, rfl, rfl, rfl, rfl, rfl, rfl, trivial⟩, ?_, ?_⟩
                          · (try dsimp only)
                            exact ⟨by omega, by omega⟩
                          · (try dsimp only); omega
                        (try simp only [Decidable.not_not] at h18); (try have hj8 := hj8f (by have := h18; omega); try have hv0 := hj8.2.1.1; try have hv1 := hj8.2.1.2)
                        refine code_exit ?_
                        refine then_x ?_; clear hK41 K41
                        refine then_x ?_
                        refine blk_hit ?_
                        refine blk_n ?_
                        refine hK36 _ ?_; clear hK36 K36
                        refine code_region ?_
                        refine list_cons rfl (op_q (q_move rfl (by decide)) ?_)
                        refine list_cons rfl (op_q (by first | exact q_addI rfl rfl (by decide) (by omega) (by omega) | exact q_ib rfl rfl rfl (by decide)) ?_)
                        refine list_cons rfl (op_q (q_assign rfl (by decide)) ?_)
                        refine list_nil ?_
                        refine then_n ⟨(_, _, _, _, _, _, _, _, _, _, _, _, _, _, _, _, _, _, _, _), imp_covers ⟨rfl, rfl, rfl, rfl, rfl, rfl, rfl, rfl, rfl, rfl, rfl, rfl, rfl, rfl, rfl, rfl, rfl, rfl, rfl, rfl, rfl, rfl, rfl, rfl, rfl, rfl, rfl, rfl, rfl, rfl, trivial⟩, ?_, ?_⟩
                        · (try dsimp only)
                          exact ⟨by omega, by omega⟩
                        · (try dsimp only); omega
                    (try simp only [Decidable.not_not] at h16); (try have hj8 := hj8f (by have := h16; omega); try have hv0 := hj8.2.1.1; try have hv1 := hj8.2.1.2)
                    refine code_exit ?_
                    refine then_x ?_; clear hK34 K34
                    refine then_x ?_
                    refine blk_hit ?_
                    refine hK32 _ ?_; clear hK32 K32
                    refine codeT.imp (σ' := [(2, .val (.bool _)), (3, .val (.int .i64 _)), (4, .val (.int .i64 _)), (5, .val (.bool _)), (13, .val (.int .i64 _)), (17, .val (.int .i64 _)), (25, .val (.int .i64 _)), (26, .own 140 3 1 _ _), (27, .val (.bool _))]) ?_ (imp_covers ⟨rfl, rfl, rfl, rfl, rfl, rfl, rfl, rfl, rfl, trivial⟩)
                    refine code_seq_same ?_ ?_
                    · skip
                      refine code_seq (fun K45 hK45 => ?_)
                      refine code_region ?_
                      refine list_cons rfl (op_q (q_move rfl (by decide)) ?_)
                      refine list_cons rfl (op_q (q_move rfl (by decide)) ?_)
                      refine list_guard_d rfl rfl rfl rfl (by decide) rfl (by decide) (fun h21 => ?_) (fun h21 => ?_)
                      · simp only [Bool.false_eq_true, if_true, if_false, Decidable.not_not] at h21
                        (try simp only [Decidable.not_not] at h21); (try have hj8 := hj8f (by have := h21; omega); try have hv0 := hj8.2.1.1; try have hv1 := hj8.2.1.2)
                        refine id (op_q (q_move rfl (by decide)) ?_)
                        refine list_guard_y rfl rfl rfl rfl (by decide) rfl ?_
                        refine id (op_q (q_move rfl (by decide)) ?_)
                        refine list_guard_y rfl rfl rfl rfl (by decide) rfl ?_
                        refine id (op_q (q_lt rfl rfl (by decide)) ?_)
                        refine list_guard_y rfl rfl rfl rfl (by decide) rfl ?_
                        refine id (op_q (q_move rfl (by decide)) ?_)
                        refine list_guard_d rfl rfl rfl rfl (by decide) rfl (by decide) (fun h22 => ?_) (fun h22 => ?_)
                        · simp only [Bool.false_eq_true, if_true, if_false, Decidable.not_not] at h22
                          (try simp only [Decidable.not_not] at h22); (try have hj8 := hj8f (by have := h22; omega); try have hv0 := hj8.2.1.1; try have hv1 := hj8.2.1.2)
                          refine id (op_q (q_move rfl (by decide)) ?_)
                          refine list_guard_y rfl rfl rfl rfl (by decide) rfl ?_
                          refine id (op_q (q_move rfl (by decide)) ?_)
                          refine list_guard_y rfl rfl rfl rfl (by decide) rfl ?_
                          refine id (op_q (q_gt rfl rfl (by decide)) ?_)
                          refine list_guard_y rfl rfl rfl rfl (by decide) rfl ?_
                          refine id (op_q (q_pick rfl rfl (by decide)) ?_)
                          refine list_cons rfl (op_q (q_pick rfl rfl (by decide)) ?_)
                          refine list_cons rfl (op_q (q_move rfl (by decide)) ?_)
                          refine list_guard_d rfl rfl rfl rfl (by decide) rfl (by decide) (fun h23 => ?_) (fun h23 => ?_)
                          · simp only [Bool.false_eq_true, if_true, if_false, Decidable.not_not] at h23
                            (try simp only [Decidable.not_not] at h23); (try have hj8 := hj8f (by have := h23; omega); try have hv0 := hj8.2.1.1; try have hv1 := hj8.2.1.2)
                            refine id (op_q (q_move rfl (by decide)) ?_)
                            refine list_guard_y rfl rfl rfl rfl (by decide) rfl ?_
                            refine id (op_q (q_len_sl Tryd.underlying35 rfl rfl (by decide)) ?_)
                            refine list_guard_y rfl rfl rfl rfl (by decide) rfl ?_
                            refine id (op_q (q_ne rfl rfl (by decide)) ?_)
                            refine list_cons rfl (op_q (q_pick rfl rfl (by decide)) ?_)
                            refine list_nil ?_
                            refine hK45 _ ?_; clear hK45 K45
                            refine codeT.imp (σ' := [(2, .val (.bool _)), (3, .val (.int .i64 _)), (4, .val (.int .i64 _)), (5, .val (.bool _)), (13, .val (.int .i64 _)), (17, .val (.int .i64 _)), (25, .val (.int .i64 _)), (26, .own 140 3 1 _ _), (27, .val (.bool _)), (212, .val (.bool _))]) ?_ (imp_covers ⟨rfl, rfl, rfl, rfl, rfl, rfl, rfl, rfl, rfl, rfl, trivial⟩)
                            refine code_cond_d rfl (fun h24 => ?_) (fun h24 => ?_)
                            · skip
                              (try simp only [Decidable.not_not] at h24); (try have hj8 := hj8f (by have := h24; omega); try have hv0 := hj8.2.1.1; try have hv1 := hj8.2.1.2)
                              exfalso
                              have h3 : 0 ≤ b ∧ b ≤ 28 := by assumption
                              exact h24 (lts1 hlo hhi h3 (by first | exact .inl (by assumption) | exact .inr (by assumption)))
                            (try simp only [Decidable.not_not] at h24); (try have hj8 := hj8f (by have := h24; omega); try have hv0 := hj8.2.1.1; try have hv1 := hj8.2.1.2)
                            refine code_skip ?_
                            exact then_n (imp_covers ⟨rfl, rfl, rfl, rfl, rfl, rfl, rfl, rfl, rfl, trivial⟩)
                          simp only [Bool.false_eq_true, if_true, if_false, Decidable.not_not] at h23
                          (try simp only [Decidable.not_not] at h23); (try have hj8 := hj8f (by have := h23; omega); try have hv0 := hj8.2.1.1; try have hv1 := hj8.2.1.2)
                          refine list_guard_nT rfl rfl rfl rfl (by decide) (by decide) ?_
                          refine list_guard_nT rfl rfl rfl rfl (by decide) (by decide) ?_
                          refine list_cons rfl (op_q (q_pick rfl rfl (by decide)) ?_)
                          refine list_nil ?_
                          refine hK45 _ ?_; clear hK45 K45
                          refine codeT.imp (σ' := [(2, .val (.bool _)), (3, .val (.int .i64 _)), (4, .val (.int .i64 _)), (5, .val (.bool _)), (13, .val (.int .i64 _)), (17, .val (.int .i64 _)), (25, .val (.int .i64 _)), (26, .own 140 3 1 _ _), (27, .val (.bool _)), (212, .val (.bool _))]) ?_ (imp_covers ⟨rfl, rfl, rfl, rfl, rfl, rfl, rfl, rfl, rfl, rfl, trivial⟩)
                          refine code_cond_f rfl ?_
                          refine code_skip ?_
                          exact then_n (imp_covers ⟨rfl, rfl, rfl, rfl, rfl, rfl, rfl, rfl, rfl, trivial⟩)
                        simp only [Bool.false_eq_true, if_true, if_false, Decidable.not_not] at h22
                        (try simp only [Decidable.not_not] at h22); (try have hj8 := hj8f (by have := h22; omega); try have hv0 := hj8.2.1.1; try have hv1 := hj8.2.1.2)
                        refine list_guard_nT rfl rfl rfl rfl (by decide) (by decide) ?_
                        refine list_guard_nT rfl rfl rfl rfl (by decide) (by decide) ?_
                        refine list_guard_y rfl rfl rfl rfl (by decide) rfl ?_
                        refine id (op_q (q_pick rfl rfl (by decide)) ?_)
                        refine list_cons rfl (op_q (q_pick rfl rfl (by decide)) ?_)
                        refine list_cons rfl (op_q (q_move rfl (by decide)) ?_)
                        refine list_guard_y rfl rfl rfl rfl (by decide) rfl ?_
                        refine id (op_q (q_move rfl (by decide)) ?_)
                        refine list_guard_y rfl rfl rfl rfl (by decide) rfl ?_
                        refine id (op_q (q_len_sl Tryd.underlying35 rfl rfl (by decide)) ?_)
                        refine list_guard_y rfl rfl rfl rfl (by decide) rfl ?_
                        refine id (op_q (q_ne rfl rfl (by decide)) ?_)
                        refine list_cons rfl (op_q (q_pick rfl rfl (by decide)) ?_)
                        refine list_nil ?_
                        refine hK45 _ ?_; clear hK45 K45
                        refine codeT.imp (σ' := [(2, .val (.bool _)), (3, .val (.int .i64 _)), (4, .val (.int .i64 _)), (5, .val (.bool _)), (13, .val (.int .i64 _)), (17, .val (.int .i64 _)), (25, .val (.int .i64 _)), (26, .own 140 3 1 _ _), (27, .val (.bool _)), (212, .val (.bool _))]) ?_ (imp_covers ⟨rfl, rfl, rfl, rfl, rfl, rfl, rfl, rfl, rfl, rfl, trivial⟩)
                        refine code_cond_d rfl (fun h25 => ?_) (fun h25 => ?_)
                        · skip
                          (try simp only [Decidable.not_not] at h25); (try have hj8 := hj8f (by have := h25; omega); try have hv0 := hj8.2.1.1; try have hv1 := hj8.2.1.2)
                          exfalso
                          have h3 : 0 ≤ b ∧ b ≤ 28 := by assumption
                          exact h25 (lts1 hlo hhi h3 (by first | exact .inl (by assumption) | exact .inr (by assumption)))
                        (try simp only [Decidable.not_not] at h25); (try have hj8 := hj8f (by have := h25; omega); try have hv0 := hj8.2.1.1; try have hv1 := hj8.2.1.2)
                        refine code_skip ?_
                        exact then_n (imp_covers ⟨rfl, rfl, rfl, rfl, rfl, rfl, rfl, rfl, rfl, trivial⟩)
                      simp only [Bool.false_eq_true, if_true, if_false, Decidable.not_not] at h21
                      (try simp only [Decidable.not_not] at h21); (try have hj8 := hj8f (by have := h21; omega); try have hv0 := hj8.2.1.1; try have hv1 := hj8.2.1.2)
                      refine list_guard_nT rfl rfl rfl rfl (by decide) (by decide) ?_
                      refine list_guard_nT rfl rfl rfl rfl (by decide) (by decide) ?_
                      refine list_guard_nT rfl rfl rfl rfl (by decide) (by decide) ?_
                      refine list_guard_u rfl rfl rfl rfl (by decide) (by decide) ?_
                      refine list_guard_u rfl rfl rfl rfl (by decide) (by decide) ?_
                      refine list_guard_u rfl rfl rfl rfl (by decide) (by decide) ?_
                      refine list_guard_nT rfl rfl rfl rfl (by decide) (by decide) ?_
                      refine list_cons rfl (op_q (q_pick rfl rfl (by decide)) ?_)
                      refine list_cons rfl (op_q (q_move rfl (by decide)) ?_)
                      refine list_guard_nT rfl rfl rfl rfl (by decide) (by decide) ?_
                      refine list_guard_nT rfl rfl rfl rfl (by decide) (by decide) ?_
                      refine list_guard_nT rfl rfl rfl rfl (by decide) (by decide) ?_
                      refine list_cons rfl (op_q (q_pick rfl rfl (by decide)) ?_)
                      refine list_nil ?_
                      refine hK45 _ ?_; clear hK45 K45
                      refine codeT.imp (σ' := [(2, .val (.bool _)), (3, .val (.int .i64 _)), (4, .val (.int .i64 _)), (5, .val (.bool _)), (13, .val (.int .i64 _)), (17, .val (.int .i64 _)), (25, .val (.int .i64 _)), (26, .own 140 3 1 _ _), (27, .val (.bool _)), (212, .val (.bool _))]) ?_ (imp_covers ⟨rfl, rfl, rfl, rfl, rfl, rfl, rfl, rfl, rfl, rfl, trivial⟩)
                      refine code_cond_f rfl ?_
                      refine code_skip ?_
                      exact then_n (imp_covers ⟨rfl, rfl, rfl, rfl, rfl, rfl, rfl, rfl, rfl, trivial⟩)
                    refine code_seq (fun K46 hK46 => ?_)
                    refine code_seq (fun K47 hK47 => ?_)
                    refine code_region ?_
                    refine list_cons rfl (op_q (q_move rfl (by decide)) ?_)
                    refine list_cons rfl (op_q (by first | exact q_notd rfl (by decide) | exact q_not rfl (by decide)) ?_)
                    refine list_nil ?_
                    refine hK47 _ ?_; clear hK47 K47
                    refine code_cond_d rfl (fun h26 => ?_) (fun h26 => ?_)
                    · skip
                      (try simp only [Decidable.not_not] at h26); (try have hj8 := hj8f (by have := h26; omega); try have hv0 := hj8.2.1.1; try have hv1 := hj8.2.1.2)
                      refine code_seq (fun K48 hK48 => ?_)
                      refine code_region ?_
                      refine list_cons rfl (op_q (q_assign rfl (by decide)) ?_)
                      refine list_nil ?_
                      refine hK48 _ ?_; clear hK48 K48
                      refine code_ret ?_
                      refine then_r ?_; clear hK46 K46
                      refine ends_ret (cs := []) rfl rfl rfl rfl trivial ?_
                      first
                        | rfl
                        | (rw [decide_eq_true (lts6 hhi (t := t) (by assumption))]; done)
                    (try simp only [Decidable.not_not] at h26); (try have hj8 := hj8f (by have := h26; omega); try have hv0 := hj8.2.1.1; try have hv1 := hj8.2.1.2)
                    refine code_skip ?_
                    refine hK46 _ ?_; clear hK46 K46
                    refine codeT.imp (σ' := [(2, .val (.bool _)), (3, .val (.int .i64 _)), (4, .val (.int .i64 _)), (13, .val (.int .i64 _)), (17, .val (.int .i64 _)), (25, .val (.int .i64 _)), (26, .own 140 3 1 _ _), (27, .val (.bool _))]) ?_ (imp_covers ⟨rfl, rfl, rfl, rfl, rfl, rfl, rfl, rfl, trivial⟩)
                    refine code_seq_same ?_ ?_
                    · skip
                      refine code_seq (fun K49 hK49 => ?_)
                      refine code_region ?_
                      refine list_cons rfl (op_q (q_move rfl (by decide)) ?_)
                      refine list_cons rfl (op_q (q_move rfl (by decide)) ?_)
                      refine list_guard_d rfl rfl rfl rfl (by decide) rfl (by decide) (fun h27 => ?_) (fun h27 => ?_)
                      · simp only [Bool.false_eq_true, if_true, if_false, Decidable.not_not] at h27
                        (try simp only [Decidable.not_not] at h27); (try have hj8 := hj8f (by have := h27; omega); try have hv0 := hj8.2.1.1; try have hv1 := hj8.2.1.2)
                        refine id (op_q (q_move rfl (by decide)) ?_)
                        refine list_guard_y rfl rfl rfl rfl (by decide) rfl ?_
                        refine id (op_q (q_move rfl (by decide)) ?_)
                        refine list_guard_y rfl rfl rfl rfl (by decide) rfl ?_
                        refine id (op_q (q_eq rfl rfl (by decide)) ?_)
                        refine list_guard_y rfl rfl rfl rfl (by decide) rfl ?_
                        refine id (op_q (q_move rfl (by decide)) ?_)
                        refine list_guard_y rfl rfl rfl rfl (by decide) rfl ?_
                        refine id (op_q (q_move rfl (by decide)) ?_)
                        refine list_guard_y rfl rfl rfl rfl (by decide) rfl ?_
                        refine id (op_call _ (rHas_c _ _ (by first | omega | (simp; omega))) rfl rfl (by decide) (by decide) (by decide) rfl ?_)
                        rintro _ rfl
                        refine list_guard_y rfl rfl rfl rfl (by decide) rfl ?_
                        refine id (op_q (q_bne Tryd.underlying4 rfl rfl (by decide)) ?_)
                        refine list_cons rfl (op_q (q_pick rfl rfl (by decide)) ?_)
                        refine list_nil ?_
                        refine hK49 _ ?_; clear hK49 K49
                        refine codeT.imp (σ' := [(2, .val (.bool _)), (3, .val (.int .i64 _)), (4, .val (.int .i64 _)), (13, .val (.int .i64 _)), (17, .val (.int .i64 _)), (25, .val (.int .i64 _)), (26, .own 140 3 1 _ _), (27, .val (.bool _)), (224, .val (.bool _))]) ?_ (imp_covers ⟨rfl, rfl, rfl, rfl, rfl, rfl, rfl, rfl, rfl, trivial⟩)
                        refine code_cond_d rfl (fun h28 => ?_) (fun h28 => ?_)
                        · skip
                          (try simp only [Decidable.not_not] at h28); (try have hj8 := hj8f (by have := h28; omega); try have hv0 := hj8.2.1.1; try have hv1 := hj8.2.1.2)
                          exfalso
                          have hT : TmP t := by assumption
                          have h3 : 0 ≤ b ∧ b ≤ 28 := by assumption
                          exact h28 (lts2 hT h3)
                        (try simp only [Decidable.not_not] at h28); (try have hj8 := hj8f (by have := h28; omega); try have hv0 := hj8.2.1.1; try have hv1 := hj8.2.1.2)
                        refine code_skip ?_
                        exact then_n (imp_covers ⟨rfl, rfl, rfl, rfl, rfl, rfl, rfl, rfl, trivial⟩)
                      simp only [Bool.false_eq_true, if_true, if_false, Decidable.not_not] at h27
                      (try simp only [Decidable.not_not] at h27); (try have hj8 := hj8f (by have := h27; omega); try have hv0 := hj8.2.1.1; try have hv1 := hj8.2.1.2)
                      refine list_guard_nT rfl rfl rfl rfl (by decide) (by decide) ?_
                      refine list_guard_nT rfl rfl rfl rfl (by decide) (by decide) ?_
                      refine list_guard_nT rfl rfl rfl rfl (by decide) (by decide) ?_
                      refine list_guard_nT rfl rfl rfl rfl (by decide) (by decide) ?_
                      refine list_guard_nT rfl rfl rfl rfl (by decide) (by decide) ?_
                      refine list_guard_nT rfl rfl rfl rfl (by decide) (by decide) ?_
                      refine list_cons rfl (op_q (q_pick rfl rfl (by decide)) ?_)
                      refine list_nil ?_
                      refine hK49 _ ?_; clear hK49 K49
                      refine codeT.imp (σ' := [(2, .val (.bool _)), (3, .val (.int .i64 _)), (4, .val (.int .i64 _)), (13, .val (.int .i64 _)), (17, .val (.int .i64 _)), (25, .val (.int .i64 _)), (26, .own 140 3 1 _ _), (27, .val (.bool _)), (224, .val (.bool _))]) ?_ (imp_covers ⟨rfl, rfl, rfl, rfl, rfl, rfl, rfl, rfl, rfl, trivial⟩)
                      refine code_cond_f rfl ?_
                      refine code_skip ?_
                      exact then_n (imp_covers ⟨rfl, rfl, rfl, rfl, rfl, rfl, rfl, rfl, trivial⟩)
                    refine code_seq (fun K50 hK50 => ?_)
                    refine code_region ?_
                    refine list_cons rfl (op_q (q_move rfl (by decide)) ?_)
                    refine list_cons rfl (op_call _ (impl_ClockRow _) rfl rfl (by decide) (by decide) (by decide) rfl ?_)
                    rintro _ rfl; have hcl := ckI_len t
                    refine list_cons rfl (op_q (q_move rfl (by decide)) ?_)
                    refine list_cons rfl (op_q (q_extract rfl rfl (by decide)) ?_)
                    refine list_cons rfl (op_q (q_extract rfl rfl (by decide)) ?_)
                    refine list_cons rfl (op_q (q_assign rfl (by decide)) ?_)
                    refine list_cons rfl (op_q (q_assign rfl (by decide)) ?_)
                    refine list_nil ?_
                    refine hK50 _ ?_; clear hK50 K50
                    refine codeT.imp (σ' := [(2, .val (.bool _)), (3, .val (.int .i64 _)), (4, .val (.int .i64 _)), (13, .val (.int .i64 _)), (17, .val (.int .i64 _)), (25, .val (.int .i64 _)), (26, .own 140 3 1 _ _), (27, .val (.bool _)), (34, .own 227 3 1 _ _), (35, .val (.bool _))]) ?_ (imp_covers ⟨rfl, rfl, rfl, rfl, rfl, rfl, rfl, rfl, rfl, rfl, trivial⟩)
                    refine code_seq (fun K51 hK51 => ?_)
                    refine code_region ?_
                    refine list_cons rfl (op_q (q_move rfl (by decide)) ?_)
                    refine list_cons rfl (op_call _ (impl_LitOf _ (by first | omega | (simp; omega))) rfl rfl (by decide) (by decide) (by decide) rfl ?_)
                    rintro _ rfl
                    refine list_cons rfl (op_q (q_move rfl (by decide)) ?_)
                    refine list_cons rfl (op_q (q_extract rfl rfl (by decide)) ?_)
                    refine list_cons rfl (op_q (q_extract rfl rfl (by decide)) ?_)
                    refine list_cons rfl (op_q (q_assign rfl (by decide)) ?_)
                    refine list_cons rfl (op_q (q_assign rfl (by decide)) ?_)
                    refine list_nil ?_
                    refine hK51 _ ?_; clear hK51 K51
                    refine codeT.imp (σ' := [(2, .val (.bool _)), (3, .val (.int .i64 _)), (4, .val (.int .i64 _)), (13, .val (.int .i64 _)), (17, .val (.int .i64 _)), (25, .val (.int .i64 _)), (26, .own 140 3 1 _ _), (27, .val (.bool _)), (34, .own 227 3 1 _ _), (35, .val (.bool _)), (36, .val (.int .i64 _)), (37, .val (.bool _))]) ?_ (imp_covers ⟨rfl, rfl, rfl, rfl, rfl, rfl, rfl, rfl, rfl, rfl, rfl, rfl, trivial⟩)
                    refine code_seq (fun K52 hK52 => ?_)
                    refine code_region ?_
                    refine list_cons rfl (op_q (q_move rfl (by decide)) ?_)
                    refine list_cons rfl (op_q (q_move rfl (by decide)) ?_)
                    refine list_guard_d rfl rfl rfl rfl (by decide) rfl (by decide) (fun h29 => ?_) (fun h29 => ?_)
                    · simp only [Bool.false_eq_true, if_true, if_false, Decidable.not_not] at h29
                      (try simp only [Decidable.not_not] at h29); (try have hj8 := hj8f (by have := h29; omega); try have hv0 := hj8.2.1.1; try have hv1 := hj8.2.1.2)
                      refine id (op_q (q_move rfl (by decide)) ?_)
                      refine list_cons rfl (op_q (q_pick rfl rfl (by decide)) ?_)
                      refine list_cons rfl (op_q (q_move rfl (by decide)) ?_)
                      refine list_guard_d rfl rfl rfl rfl (by decide) rfl (by decide) (fun h30 => ?_) (fun h30 => ?_)
                      · simp only [Bool.false_eq_true, if_true, if_false, Decidable.not_not] at h30
                        (try simp only [Decidable.not_not] at h30); (try have hj8 := hj8f (by have := h30; omega); try have hv0 := hj8.2.1.1; try have hv1 := hj8.2.1.2)
                        refine id (op_q (q_move rfl (by decide)) ?_)
                        refine list_guard_y rfl rfl rfl rfl (by decide) rfl ?_
                        refine id (op_q (q_move rfl (by decide)) ?_)
                        refine list_guard_y rfl rfl rfl rfl (by decide) rfl ?_
                        refine id (op_q (q_eq rfl rfl (by decide)) ?_)
                        refine list_cons rfl (op_q (q_pick rfl rfl (by decide)) ?_)
                        refine list_cons rfl (op_q (q_move rfl (by decide)) ?_)
                        refine list_guard_d rfl rfl rfl rfl (by decide) rfl (by decide) (fun h31 => ?_) (fun h31 => ?_)
                        · simp only [Bool.false_eq_true, if_true, if_false, Decidable.not_not] at h31
                          (try simp only [Decidable.not_not] at h31); (try have hj8 := hj8f (by have := h31; omega); try have hv0 := hj8.2.1.1; try have hv1 := hj8.2.1.2)
                          refine id (op_q (q_move rfl (by decide)) ?_)
                          refine list_guard_y rfl rfl rfl rfl (by decide) rfl ?_
                          refine id (op_q (q_move rfl (by decide)) ?_)
                          refine list_guard_y rfl rfl rfl rfl (by decide) rfl ?_
                          refine id (op_q (q_ge rfl rfl (by decide)) ?_)
                          refine list_cons rfl (op_q (q_pick rfl rfl (by decide)) ?_)
                          refine list_cons rfl (op_q (q_move rfl (by decide)) ?_)
                          refine list_guard_d rfl rfl rfl rfl (by decide) rfl (by decide) (fun h32 => ?_) (fun h32 => ?_)
                          · simp only [Bool.false_eq_true, if_true, if_false, Decidable.not_not] at h32
                            (try simp only [Decidable.not_not] at h32); (try have hj8 := hj8f (by have := h32; omega); try have hv0 := hj8.2.1.1; try have hv1 := hj8.2.1.2)
                            refine id (op_q (q_move rfl (by decide)) ?_)
                            refine list_guard_y rfl rfl rfl rfl (by decide) rfl ?_
                            refine id (op_q (q_move rfl (by decide)) ?_)
                            refine list_guard_y rfl rfl rfl rfl (by decide) rfl ?_
                            refine id (op_q (q_le rfl rfl (by decide)) ?_)
                            refine list_cons rfl (op_q (q_pick rfl rfl (by decide)) ?_)
                            refine list_cons rfl (op_q (q_assign rfl (by decide)) ?_)
                            refine list_nil ?_
                            refine hK52 _ ?_; clear hK52 K52
                            refine codeT.imp (σ' := [(2, .val (.bool _)), (3, .val (.int .i64 _)), (4, .val (.int .i64 _)), (13, .val (.int .i64 _)), (17, .val (.int .i64 _)), (25, .val (.int .i64 _)), (26, .own 140 3 1 _ _), (27, .val (.bool _)), (34, .own 227 3 1 _ _), (35, .val (.bool _)), (36, .val (.int .i64 _)), (37, .val (.bool _))]) ?_ (imp_covers ⟨rfl, rfl, rfl, rfl, rfl, rfl, rfl, rfl, rfl, rfl, rfl, rfl, trivial⟩)
                            refine code_ret ?_
                            refine ends_ret (cs := []) rfl rfl rfl rfl trivial ?_
                            first
                              | rfl
                              | (rw [decide_eq_true (lts6 hhi (t := t) (by assumption))]; done)
                          simp only [Bool.false_eq_true, if_true, if_false, Decidable.not_not] at h32
                          (try simp only [Decidable.not_not] at h32); (try have hj8 := hj8f (by have := h32; omega); try have hv0 := hj8.2.1.1; try have hv1 := hj8.2.1.2)
                          exfalso
                          have hT : TmP t := by assumption
                          exact h32 (lts5 hlo hT)
                        simp only [Bool.false_eq_true, if_true, if_false, Decidable.not_not] at h31
                        (try simp only [Decidable.not_not] at h31); (try have hj8 := hj8f (by have := h31; omega); try have hv0 := hj8.2.1.1; try have hv1 := hj8.2.1.2)
                        exfalso
                        have hT : TmP t := by assumption
                        exact h31 (lts4 hT)
                      simp only [Bool.false_eq_true, if_true, if_false, Decidable.not_not] at h30
                      (try simp only [Decidable.not_not] at h30); (try have hj8 := hj8f (by have := h30; omega); try have hv0 := hj8.2.1.1; try have hv1 := hj8.2.1.2)
                      exfalso
                      have hT : TmP t := by assumption
                      exact h30 (lts3 hT)
                    simp only [Bool.false_eq_true, if_true, if_false, Decidable.not_not] at h29
                    (try simp only [Decidable.not_not] at h29); (try have hj8 := hj8f (by have := h29; omega); try have hv0 := hj8.2.1.1; try have hv1 := hj8.2.1.2)
                    exfalso
                    have hT : TmP t := by assumption
                    exact h29 hT
                  simp only [Bool.false_eq_true, if_true, if_false, Decidable.not_not] at h15
                  (try simp only [Decidable.not_not] at h15); (try have hj8 := hj8f (by have := h15; omega); try have hv0 := hj8.2.1.1; try have hv1 := hj8.2.1.2)
                  refine list_guard_nT rfl rfl rfl rfl (by decide) (by decide) ?_
                  refine list_cons rfl (op_q (q_pick rfl rfl (by decide)) ?_)
                  refine list_nil ?_
                  refine hK35 _ ?_; clear hK35 K35
                  refine code_cond_f rfl ?_
                  refine code_exit ?_
                  refine then_x ?_; clear hK34 K34
                  refine then_x ?_
                  refine blk_hit ?_
                  refine hK32 _ ?_; clear hK32 K32
                  refine codeT.imp (σ' := ((0, .ext _) :: (2, .val (.bool _)) :: (3, .val (.int .i64 _)) :: (4, .val (.int .i64 _)) :: (5, .val (.bool _)) :: (6, .val (.int .i64 _)) :: (7, .val (.bool _)) :: (8, .val (.int .i64 _)) :: (9, .val (.bool _)) :: (10, .val (.int .i64 _)) :: (11, .val (.bool _)) :: (12, .val (.int .i64 _)) :: (13, .val (.int .i64 _)) :: (14, .val (.int .i64 _)) :: (15, .val (.int .i64 _)) :: (16, .val (.int .i64 _)) :: (17, .val (.int .i64 _)) :: (18, .val (.int .i64 _)) :: (19, .val (.int .i64 _)) :: (20, .own 116 3 1 _ _) :: (21, .own 119 3 1 _ _) :: (22, .val (.bool _)) :: (23, .own 124 3 1 _ _) :: (24, .val (.bool _)) :: (25, .val (.int .i64 _)) :: (26, .own 140 3 1 _ _) :: (27, .val (.bool _)) :: (28, .own 145 3 1 _ _) :: (29, .val (.bool _)) :: (30, .val (.int .i64 _)) :: [])) ?_ (imp_covers ⟨rfl, rfl, rfl, rfl, rfl, rfl, rfl, rfl, rfl, rfl, rfl, rfl, rfl, rfl, rfl, rfl, rfl, rfl, rfl, rfl, rfl, rfl, rfl, rfl, rfl, rfl, rfl, rfl, rfl, rfl, trivial⟩)
                  refine codeT.imp (σ' := [(2, .val (.bool _)), (3, .val (.int .i64 _)), (4, .val (.int .i64 _)), (5, .val (.bool _)), (13, .val (.int .i64 _)), (17, .val (.int .i64 _)), (25, .val (.int .i64 _)), (26, .own 140 3 1 _ _), (27, .val (.bool _))]) ?_ (imp_covers ⟨rfl, rfl, rfl, rfl, rfl, rfl, rfl, rfl, rfl, trivial⟩)
                  refine code_seq_same ?_ ?_
                  · skip
                    refine code_seq (fun K53 hK53 => ?_)
                    refine code_region ?_
                    refine list_cons rfl (op_q (q_move rfl (by decide)) ?_)
                    refine list_cons rfl (op_q (q_move rfl (by decide)) ?_)
                    refine list_guard_d rfl rfl rfl rfl (by decide) rfl (by decide) (fun h33 => ?_) (fun h33 => ?_)
                    · simp only [Bool.false_eq_true, if_true, if_false, Decidable.not_not] at h33
                      (try simp only [Decidable.not_not] at h33); (try have hj8 := hj8f (by have := h33; omega); try have hv0 := hj8.2.1.1; try have hv1 := hj8.2.1.2)
                      refine id (op_q (q_move rfl (by decide)) ?_)
                      refine list_guard_y rfl rfl rfl rfl (by decide) rfl ?_
                      refine id (op_q (q_move rfl (by decide)) ?_)
                      refine list_guard_y rfl rfl rfl rfl (by decide) rfl ?_
                      refine id (op_q (q_lt rfl rfl (by decide)) ?_)
                      refine list_guard_y rfl rfl rfl rfl (by decide) rfl ?_
                      refine id (op_q (q_move rfl (by decide)) ?_)
                      refine list_guard_d rfl rfl rfl rfl (by decide) rfl (by decide) (fun h34 => ?_) (fun h34 => ?_)
                      · simp only [Bool.false_eq_true, if_true, if_false, Decidable.not_not] at h34
                        (try simp only [Decidable.not_not] at h34); (try have hj8 := hj8f (by have := h34; omega); try have hv0 := hj8.2.1.1; try have hv1 := hj8.2.1.2)
                        refine id (op_q (q_move rfl (by decide)) ?_)
                        refine list_guard_y rfl rfl rfl rfl (by decide) rfl ?_
                        refine id (op_q (q_move rfl (by decide)) ?_)
                        refine list_guard_y rfl rfl rfl rfl (by decide) rfl ?_
                        refine id (op_q (q_gt rfl rfl (by decide)) ?_)
                        refine list_guard_y rfl rfl rfl rfl (by decide) rfl ?_
                        refine id (op_q (q_pick rfl rfl (by decide)) ?_)
                        refine list_cons rfl (op_q (q_pick rfl rfl (by decide)) ?_)
                        refine list_cons rfl (op_q (q_move rfl (by decide)) ?_)
                        refine list_guard_d rfl rfl rfl rfl (by decide) rfl (by decide) (fun h35 => ?_) (fun h35 => ?_)
                        · simp only [Bool.false_eq_true, if_true, if_false, Decidable.not_not] at h35
                          (try simp only [Decidable.not_not] at h35); (try have hj8 := hj8f (by have := h35; omega); try have hv0 := hj8.2.1.1; try have hv1 := hj8.2.1.2)
                          refine id (op_q (q_move rfl (by decide)) ?_)
                          refine list_guard_y rfl rfl rfl rfl (by decide) rfl ?_
                          refine id (op_q (q_len_sl Tryd.underlying35 rfl rfl (by decide)) ?_)
                          refine list_guard_y rfl rfl rfl rfl (by decide) rfl ?_
                          refine id (op_q (q_ne rfl rfl (by decide)) ?_)
                          refine list_cons rfl (op_q (q_pick rfl rfl (by decide)) ?_)
                          refine list_nil ?_
                          refine hK53 _ ?_; clear hK53 K53
                          refine codeT.imp (σ' := [(2, .val (.bool _)), (3, .val (.int .i64 _)), (4, .val (.int .i64 _)), (5, .val (.bool _)), (13, .val (.int .i64 _)), (17, .val (.int .i64 _)), (25, .val (.int .i64 _)), (26, .own 140 3 1 _ _), (27, .val (.bool _)), (212, .val (.bool _))]) ?_ (imp_covers ⟨rfl, rfl, rfl, rfl, rfl, rfl, rfl, rfl, rfl, rfl, trivial⟩)
                          refine code_cond_d rfl (fun h36 => ?_) (fun h36 => ?_)
                          · skip
                            (try simp only [Decidable.not_not] at h36); (try have hj8 := hj8f (by have := h36; omega); try have hv0 := hj8.2.1.1; try have hv1 := hj8.2.1.2)
                            exfalso
                            have h3 : 0 ≤ b ∧ b ≤ 28 := by assumption
                            exact h36 (lts1 hlo hhi h3 (by first | exact .inl (by assumption) | exact .inr (by assumption)))
                          (try simp only [Decidable.not_not] at h36); (try have hj8 := hj8f (by have := h36; omega); try have hv0 := hj8.2.1.1; try have hv1 := hj8.2.1.2)
                          refine code_skip ?_
                          exact then_n (imp_covers ⟨rfl, rfl, rfl, rfl, rfl, rfl, rfl, rfl, rfl, trivial⟩)
                        simp only [Bool.false_eq_true, if_true, if_false, Decidable.not_not] at h35
                        (try simp only [Decidable.not_not] at h35); (try have hj8 := hj8f (by have := h35; omega); try have hv0 := hj8.2.1.1; try have hv1 := hj8.2.1.2)
                        refine list_guard_nT rfl rfl rfl rfl (by decide) (by decide) ?_
                        refine list_guard_nT rfl rfl rfl rfl (by decide) (by decide) ?_
                        refine list_cons rfl (op_q (q_pick rfl rfl (by decide)) ?_)
                        refine list_nil ?_
                        refine hK53 _ ?_; clear hK53 K53
                        refine codeT.imp (σ' := [(2, .val (.bool _)), (3, .val (.int .i64 _)), (4, .val (.int .i64 _)), (5, .val (.bool _)), (13, .val (.int .i64 _)), (17, .val (.int .i64 _)), (25, .val (.int .i64 _)), (26, .own 140 3 1 _ _), (27, .val (.bool _)), (212, .val (.bool _))]) ?_ (imp_covers ⟨rfl, rfl, rfl, rfl, rfl, rfl, rfl, rfl, rfl, rfl, trivial⟩)
                        refine code_cond_f rfl ?_
                        refine code_skip ?_
                        exact then_n (imp_covers ⟨rfl, rfl, rfl, rfl, rfl, rfl, rfl, rfl, rfl, trivial⟩)
                      simp only [Bool.false_eq_true, if_true, if_false, Decidable.not_not] at h34
                      (try simp only [Decidable.not_not] at h34); (try have hj8 := hj8f (by have := h34; omega); try have hv0 := hj8.2.1.1; try have hv1 := hj8.2.1.2)
                      refine list_guard_nT rfl rfl rfl rfl (by decide) (by decide) ?_
                      refine list_guard_nT rfl rfl rfl rfl (by decide) (by decide) ?_
                      refine list_guard_y rfl rfl rfl rfl (by decide) rfl ?_
                      refine id (op_q (q_pick rfl rfl (by decide)) ?_)
                      refine list_cons rfl (op_q (q_pick rfl rfl (by decide)) ?_)
                      refine list_cons rfl (op_q (q_move rfl (by decide)) ?_)
                      refine list_guard_y rfl rfl rfl rfl (by decide) rfl ?_
                      refine id (op_q (q_move rfl (by decide)) ?_)
                      refine list_guard_y rfl rfl rfl rfl (by decide) rfl ?_
                      refine id (op_q (q_len_sl Tryd.underlying35 rfl rfl (by decide)) ?_)
                      refine list_guard_y rfl rfl rfl rfl (by decide) rfl ?_
                      refine id (op_q (q_ne rfl rfl (by decide)) ?_)
                      refine list_cons rfl (op_q (q_pick rfl rfl (by decide)) ?_)
                      refine list_nil ?_
                      refine hK53 _ ?_; clear hK53 K53
                      refine codeT.imp (σ' := [(2, .val (.bool _)), (3, .val (.int .i64 _)), (4, .val (.int .i64 _)), (5, .val (.bool _)), (13, .val (.int .i64 _)), (17, .val (.int .i64 _)), (25, .val (.int .i64 _)), (26, .own 140 3 1 _ _), (27, .val (.bool _)), (212, .val (.bool _))]) ?_ (imp_covers ⟨rfl, rfl, rfl, rfl, rfl, rfl, rfl, rfl, rfl, rfl, trivial⟩)
                      refine code_cond_d rfl (fun h37 => ?_) (fun h37 => ?_)
                      · skip
                        (try simp only [Decidable.not_not] at h37); (try have hj8 := hj8f (by have := h37; omega); try have hv0 := hj8.2.1.1; try have hv1 := hj8.2.1.2)
                        exfalso
                        have h3 : 0 ≤ b ∧ b ≤ 28 := by assumption
                        exact h37 (lts1 hlo hhi h3 (by first | exact .inl (by assumption) | exact .inr (by assumption)))
                      (try simp only [Decidable.not_not] at h37); (try have hj8 := hj8f (by have := h37; omega); try have hv0 := hj8.2.1.1; try have hv1 := hj8.2.1.2)
                      refine code_skip ?_
                      exact then_n (imp_covers ⟨rfl, rfl, rfl, rfl, rfl, rfl, rfl, rfl, rfl, trivial⟩)
                    simp only [Bool.false_eq_true, if_true, if_false, Decidable.not_not] at h33
                    (try simp only [Decidable.not_not] at h33); (try have hj8 := hj8f (by have := h33; omega); try have hv0 := hj8.2.1.1; try have hv1 := hj8.2.1.2)
                    refine list_guard_nT rfl rfl rfl rfl (by decide) (by decide) ?_
                    refine list_guard_nT rfl rfl rfl rfl (by decide) (by decide) ?_
                    refine list_guard_nT rfl rfl rfl rfl (by decide) (by decide) ?_
                    refine list_guard_u rfl rfl rfl rfl (by decide) (by decide) ?_
                    refine list_guard_u rfl rfl rfl rfl (by decide) (by decide) ?_
                    refine list_guard_u rfl rfl rfl rfl (by decide) (by decide) ?_
                    refine list_guard_nT rfl rfl rfl rfl (by decide) (by decide) ?_
                    refine list_cons rfl (op_q (q_pick rfl rfl (by decide)) ?_)
                    refine list_cons rfl (op_q (q_move rfl (by decide)) ?_)
                    refine list_guard_nT rfl rfl rfl rfl (by decide) (by decide) ?_
                    refine list_guard_nT rfl rfl rfl rfl (by decide) (by decide) ?_
                    refine list_guard_nT rfl rfl rfl rfl (by decide) (by decide) ?_
                    refine list_cons rfl (op_q (q_pick rfl rfl (by decide)) ?_)
                    refine list_nil ?_
                    refine hK53 _ ?_; clear hK53 K53
                    refine codeT.imp (σ' := [(2, .val (.bool _)), (3, .val (.int .i64 _)), (4, .val (.int .i64 _)), (5, .val (.bool _)), (13, .val (.int .i64 _)), (17, .val (.int .i64 _)), (25, .val (.int .i64 _)), (26, .own 140 3 1 _ _), (27, .val (.bool _)), (212, .val (.bool _))]) ?_ (imp_covers ⟨rfl, rfl, rfl, rfl, rfl, rfl, rfl, rfl, rfl, rfl, trivial⟩)
                    refine code_cond_f rfl ?_
                    refine code_skip ?_
                    exact then_n (imp_covers ⟨rfl, rfl, rfl, rfl, rfl, rfl, rfl, rfl, rfl, trivial⟩)
                  refine code_seq (fun K54 hK54 => ?_)
                  refine code_seq (fun K55 hK55 => ?_)
                  refine code_region ?_
                  refine list_cons rfl (op_q (q_move rfl (by decide)) ?_)
                  refine list_cons rfl (op_q (by first | exact q_notd rfl (by decide) | exact q_not rfl (by decide)) ?_)
                  refine list_nil ?_
                  refine hK55 _ ?_; clear hK55 K55
                  refine code_cond_d rfl (fun h38 => ?_) (fun h38 => ?_)
                  · skip
                    (try simp only [Decidable.not_not] at h38); (try have hj8 := hj8f (by have := h38; omega); try have hv0 := hj8.2.1.1; try have hv1 := hj8.2.1.2)
                    refine code_seq (fun K56 hK56 => ?_)
                    refine code_region ?_
                    refine list_cons rfl (op_q (q_assign rfl (by decide)) ?_)
                    refine list_nil ?_
                    refine hK56 _ ?_; clear hK56 K56
                    refine code_ret ?_
                    refine then_r ?_; clear hK54 K54
                    refine ends_ret (cs := []) rfl rfl rfl rfl trivial ?_
                    first
                      | rfl
                      | (rw [decide_eq_true (lts6 hhi (t := t) (by assumption))]; done)
                  (try simp only [Decidable.not_not] at h38); (try have hj8 := hj8f (by have := h38; omega); try have hv0 := hj8.2.1.1; try have hv1 := hj8.2.1.2)
                  refine code_skip ?_
                  refine hK54 _ ?_; clear hK54 K54
                  refine codeT.imp (σ' := [(2, .val (.bool _)), (3, .val (.int .i64 _)), (4, .val (.int .i64 _)), (13, .val (.int .i64 _)), (17, .val (.int .i64 _)), (25, .val (.int .i64 _)), (26, .own 140 3 1 _ _), (27, .val (.bool _))]) ?_ (imp_covers ⟨rfl, rfl, rfl, rfl, rfl, rfl, rfl, rfl, trivial⟩)
                  refine code_seq_same ?_ ?_
                  · skip
                    refine code_seq (fun K57 hK57 => ?_)
                    refine code_region ?_
                    refine list_cons rfl (op_q (q_move rfl (by decide)) ?_)
                    refine list_cons rfl (op_q (q_move rfl (by decide)) ?_)
                    refine list_guard_d rfl rfl rfl rfl (by decide) rfl (by decide) (fun h39 => ?_) (fun h39 => ?_)
                    · simp only [Bool.false_eq_true, if_true, if_false, Decidable.not_not] at h39
                      (try simp only [Decidable.not_not] at h39); (try have hj8 := hj8f (by have := h39; omega); try have hv0 := hj8.2.1.1; try have hv1 := hj8.2.1.2)
                      refine id (op_q (q_move rfl (by decide)) ?_)
                      refine list_guard_y rfl rfl rfl rfl (by decide) rfl ?_
                      refine id (op_q (q_move rfl (by decide)) ?_)
                      refine list_guard_y rfl rfl rfl rfl (by decide) rfl ?_
                      refine id (op_q (q_eq rfl rfl (by decide)) ?_)
                      refine list_guard_y rfl rfl rfl rfl (by decide) rfl ?_
                      refine id (op_q (q_move rfl (by decide)) ?_)
                      refine list_guard_y rfl rfl rfl rfl (by decide) rfl ?_
                      refine id (op_q (q_move rfl (by decide)) ?_)
                      refine list_guard_y rfl rfl rfl rfl (by decide) rfl ?_
                      refine id (op_call _ (rHas_c _ _ (by first | omega | (simp; omega))) rfl rfl (by decide) (by decide) (by decide) rfl ?_)
                      rintro _ rfl
                      refine list_guard_y rfl rfl rfl rfl (by decide) rfl ?_
                      refine id (op_q (q_bne Tryd.underlying4 rfl rfl (by decide)) ?_)
                      refine list_cons rfl (op_q (q_pick rfl rfl (by decide)) ?_)
                      refine list_nil ?_
                      refine hK57 _ ?_; clear hK57 K57
                      refine codeT.imp (σ' := [(2, .val (.bool _)), (3, .val (.int .i64 _)), (4, .val (.int .i64 _)), (13, .val (.int .i64 _)), (17, .val (.int .i64 _)), (25, .val (.int .i64 _)), (26, .own 140 3 1 _ _), (27, .val (.bool _)), (224, .val (.bool _))]) ?_ (imp_covers ⟨rfl, rfl, rfl, rfl, rfl, rfl, rfl, rfl, rfl, trivial⟩)
                      refine code_cond_d rfl (fun h40 => ?_) (fun h40 => ?_)
                      · skip
                        (try simp only [Decidable.not_not] at h40); (try have hj8 := hj8f (by have := h40; omega); try have hv0 := hj8.2.1.1; try have hv1 := hj8.2.1.2)
                        exfalso
                        have hT : TmP t := by assumption
                        have h3 : 0 ≤ b ∧ b ≤ 28 := by assumption
                        exact h40 (lts2 hT h3)
                      (try simp only [Decidable.not_not] at h40); (try have hj8 := hj8f (by have := h40; omega); try have hv0 := hj8.2.1.1; try have hv1 := hj8.2.1.2)
                      refine code_skip ?_
                      exact then_n (imp_covers ⟨rfl, rfl, rfl, rfl, rfl, rfl, rfl, rfl, trivial⟩)
                    simp only [Bool.false_eq_true, if_true, if_false, Decidable.not_not] at h39
                    (try simp only [Decidable.not_not] at h39); (try have hj8 := hj8f (by have := h39; omega); try have hv0 := hj8.2.1.1; try have hv1 := hj8.2.1.2)
                    refine list_guard_nT rfl rfl rfl rfl (by decide) (by decide) ?_
                    refine list_guard_nT rfl rfl rfl rfl (by decide) (by decide) ?_
                    refine list_guard_nT rfl rfl rfl rfl (by decide) (by decide) ?_
                    refine list_guard_nT rfl rfl rfl rfl (by decide) (by decide) ?_
                    refine list_guard_nT rfl rfl rfl rfl (by decide) (by decide) ?_
                    refine list_guard_nT rfl rfl rfl rfl (by decide) (by decide) ?_
                    refine list_cons rfl (op_q (q_pick rfl rfl (by decide)) ?_)
                    refine list_nil ?_
                    refine hK57 _ ?_; clear hK57 K57
                    refine codeT.imp (σ' := [(2, .val (.bool _)), (3, .val (.int .i64 _)), (4, .val (.int .i64 _)), (13, .val (.int .i64 _)), (17, .val (.int .i64 _)), (25, .val (.int .i64 _)), (26, .own 140 3 1 _ _), (27, .val (.bool _)), (224, .val (.bool _))]) ?_ (imp_covers ⟨rfl, rfl, rfl, rfl, rfl, rfl, rfl, rfl, rfl, trivial⟩)
                    refine code_cond_f rfl ?_
                    refine code_skip ?_
                    exact then_n (imp_covers ⟨rfl, rfl, rfl, rfl, rfl, rfl, rfl, rfl, trivial⟩)
                  refine code_seq (fun K58 hK58 => ?_)
                  refine code_region ?_
                  refine list_cons rfl (op_q (q_move rfl (by decide)) ?_)
                  refine list_cons rfl (op_call _ (impl_ClockRow _) rfl rfl (by decide) (by decide) (by decide) rfl ?_)
                  rintro _ rfl; have hcl := ckI_len t
                  refine list_cons rfl (op_q (q_move rfl (by decide)) ?_)
                  refine list_cons rfl (op_q (q_extract rfl rfl (by decide)) ?_)
                  refine list_cons rfl (op_q (q_extract rfl rfl (by decide)) ?_)
                  refine list_cons rfl (op_q (q_assign rfl (by decide)) ?_)
                  refine list_cons rfl (op_q (q_assign rfl (by decide)) ?_)
                  refine list_nil ?_
                  refine hK58 _ ?_; clear hK58 K58
                  refine codeT.imp (σ' := [(2, .val (.bool _)), (3, .val (.int .i64 _)), (4, .val (.int .i64 _)), (13, .val (.int .i64 _)), (17, .val (.int .i64 _)), (25, .val (.int .i64 _)), (26, .own 140 3 1 _ _), (27, .val (.bool _)), (34, .own 227 3 1 _ _), (35, .val (.bool _))]) ?_ (imp_covers ⟨rfl, rfl, rfl, rfl, rfl, rfl, rfl, rfl, rfl, rfl, trivial⟩)
                  refine code_seq (fun K59 hK59 => ?_)
                  refine code_region ?_
                  refine list_cons rfl (op_q (q_move rfl (by decide)) ?_)
                  refine list_cons rfl (op_call _ (impl_LitOf _ (by first | omega | (simp; omega))) rfl rfl (by decide) (by decide) (by decide) rfl ?_)
                  rintro _ rfl
                  refine list_cons rfl (op_q (q_move rfl (by decide)) ?_)
                  refine list_cons rfl (op_q (q_extract rfl rfl (by decide)) ?_)
                  refine list_cons rfl (op_q (q_extract rfl rfl (by decide)) ?_)
                  refine list_cons rfl (op_q (q_assign rfl (by decide)) ?_)
                  refine list_cons rfl (op_q (q_assign rfl (by decide)) ?_)
                  refine list_nil ?_
                  refine hK59 _ ?_; clear hK59 K59
                  refine codeT.imp (σ' := [(2, .val (.bool _)), (3, .val (.int .i64 _)), (4, .val (.int .i64 _)), (13, .val (.int .i64 _)), (17, .val (.int .i64 _)), (25, .val (.int .i64 _)), (26, .own 140 3 1 _ _), (27, .val (.bool _)), (34, .own 227 3 1 _ _), (35, .val (.bool _)), (36, .val (.int .i64 _)), (37, .val (.bool _))]) ?_ (imp_covers ⟨rfl, rfl, rfl, rfl, rfl, rfl, rfl, rfl, rfl, rfl, rfl, rfl, trivial⟩)
                  refine code_seq (fun K60 hK60 => ?_)
                  refine code_region ?_
                  refine list_cons rfl (op_q (q_move rfl (by decide)) ?_)
                  refine list_cons rfl (op_q (q_move rfl (by decide)) ?_)
                  refine list_guard_d rfl rfl rfl rfl (by decide) rfl (by decide) (fun h41 => ?_) (fun h41 => ?_)
                  · simp only [Bool.false_eq_true, if_true, if_false, Decidable.not_not] at h41
                    (try simp only [Decidable.not_not] at h41); (try have hj8 := hj8f (by have := h41; omega); try have hv0 := hj8.2.1.1; try have hv1 := hj8.2.1.2)
                    refine id (op_q (q_move rfl (by decide)) ?_)
                    refine list_cons rfl (op_q (q_pick rfl rfl (by decide)) ?_)
                    refine list_cons rfl (op_q (q_move rfl (by decide)) ?_)
                    refine list_guard_d rfl rfl rfl rfl (by decide) rfl (by decide) (fun h42 => ?_) (fun h42 => ?_)
                    · simp only [Bool.false_eq_true, if_true, if_false, Decidable.not_not] at h42
                      (try simp only [Decidable.not_not] at h42); (try have hj8 := hj8f (by have := h42; omega); try have hv0 := hj8.2.1.1; try have hv1 := hj8.2.1.2)
                      refine id (op_q (q_move rfl (by decide)) ?_)
                      refine list_guard_y rfl rfl rfl rfl (by decide) rfl ?_
                      refine id (op_q (q_move rfl (by decide)) ?_)
                      refine list_guard_y rfl rfl rfl rfl (by decide) rfl ?_
                      refine id (op_q (q_eq rfl rfl (by decide)) ?_)
                      refine list_cons rfl (op_q (q_pick rfl rfl (by decide)) ?_)
                      refine list_cons rfl (op_q (q_move rfl (by decide)) ?_)
                      refine list_guard_d rfl rfl rfl rfl (by decide) rfl (by decide) (fun h43 => ?_) (fun h43 => ?_)
                      · simp only [Bool.false_eq_true, if_true, if_false, Decidable.not_not] at h43
                        (try simp only [Decidable.not_not] at h43); (try have hj8 := hj8f (by have := h43; omega); try have hv0 := hj8.2.1.1; try have hv1 := hj8.2.1.2)
                        refine id (op_q (q_move rfl (by decide)) ?_)
                        refine list_guard_y rfl rfl rfl rfl (by decide) rfl ?_
                        refine id (op_q (q_move rfl (by decide)) ?_)
                        refine list_guard_y rfl rfl rfl rfl (by decide) rfl ?_
                        refine id (op_q (q_ge rfl rfl (by decide)) ?_)
                        refine list_cons rfl (op_q (q_pick rfl rfl (by decide)) ?_)
                        refine list_cons rfl (op_q (q_move rfl (by decide)) ?_)
                        refine list_guard_d rfl rfl rfl rfl (by decide) rfl (by decide) (fun h44 => ?_) (fun h44 => ?_)
                        · simp only [Bool.false_eq_true, if_true, if_false, Decidable.not_not] at h44
                          (try simp only [Decidable.not_not] at h44); (try have hj8 := hj8f (by have := h44; omega); try have hv0 := hj8.2.1.1; try have hv1 := hj8.2.1.2)
                          refine id (op_q (q_move rfl (by decide)) ?_)
                          refine list_guard_y rfl rfl rfl rfl (by decide) rfl ?_
                          refine id (op_q (q_move rfl (by decide)) ?_)
                          refine list_guard_y rfl rfl rfl rfl (by decide) rfl ?_
                          refine id (op_q (q_le rfl rfl (by decide)) ?_)
                          refine list_cons rfl (op_q (q_pick rfl rfl (by decide)) ?_)
                          refine list_cons rfl (op_q (q_assign rfl (by decide)) ?_)
                          refine list_nil ?_
                          refine hK60 _ ?_; clear hK60 K60
                          refine codeT.imp (σ' := [(2, .val (.bool _)), (3, .val (.int .i64 _)), (4, .val (.int .i64 _)), (13, .val (.int .i64 _)), (17, .val (.int .i64 _)), (25, .val (.int .i64 _)), (26, .own 140 3 1 _ _), (27, .val (.bool _)), (34, .own 227 3 1 _ _), (35, .val (.bool _)), (36, .val (.int .i64 _)), (37, .val (.bool _))]) ?_ (imp_covers ⟨rfl, rfl, rfl, rfl, rfl, rfl, rfl, rfl, rfl, rfl, rfl, rfl, trivial⟩)
                          refine code_ret ?_
                          refine ends_ret (cs := []) rfl rfl rfl rfl trivial ?_
                          first
                            | rfl
                            | (rw [decide_eq_true (lts6 hhi (t := t) (by assumption))]; done)
                        simp only [Bool.false_eq_true, if_true, if_false, Decidable.not_not] at h44
                        (try simp only [Decidable.not_not] at h44); (try have hj8 := hj8f (by have := h44; omega); try have hv0 := hj8.2.1.1; try have hv1 := hj8.2.1.2)
                        exfalso
                        have hT : TmP t := by assumption
                        exact h44 (lts5 hlo hT)
                      simp only [Bool.false_eq_true, if_true, if_false, Decidable.not_not] at h43
                      (try simp only [Decidable.not_not] at h43); (try have hj8 := hj8f (by have := h43; omega); try have hv0 := hj8.2.1.1; try have hv1 := hj8.2.1.2)
                      exfalso
                      have hT : TmP t := by assumption
                      exact h43 (lts4 hT)
                    simp only [Bool.false_eq_true, if_true, if_false, Decidable.not_not] at h42
                    (try simp only [Decidable.not_not] at h42); (try have hj8 := hj8f (by have := h42; omega); try have hv0 := hj8.2.1.1; try have hv1 := hj8.2.1.2)
                    exfalso
                    have hT : TmP t := by assumption
                    exact h42 (lts3 hT)
                  simp only [Bool.false_eq_true, if_true, if_false, Decidable.not_not] at h41
                  (try simp only [Decidable.not_not] at h41); (try have hj8 := hj8f (by have := h41; omega); try have hv0 := hj8.2.1.1; try have hv1 := hj8.2.1.2)
                  exfalso
                  have hT : TmP t := by assumption
                  exact h41 hT
              simp only [Bool.false_eq_true, if_true, if_false, Decidable.not_not] at h13
              (try simp only [Decidable.not_not] at h13); (try have hj8 := hj8f (by have := h13; omega); try have hv0 := hj8.2.1.1; try have hv1 := hj8.2.1.2)
              exfalso
              first | exact absurd rfl h13 | exact h13 trivial | (simp at h13; done)
            simp only [Bool.false_eq_true, if_true, if_false, Decidable.not_not] at h11
            (try simp only [Decidable.not_not] at h11); (try have hj8 := hj8f (by have := h11; omega); try have hv0 := hj8.2.1.1; try have hv1 := hj8.2.1.2)
            exfalso
            first | exact absurd rfl h11 | exact h11 trivial | (simp at h11; done)
          simp only [Bool.false_eq_true, if_true, if_false, Decidable.not_not] at h9
          (try simp only [Decidable.not_not] at h9); (try have hj8 := hj8f (by have := h9; omega); try have hv0 := hj8.2.1.1; try have hv1 := hj8.2.1.2)
          exfalso
          first | exact absurd rfl h9 | exact h9 trivial | (simp at h9; done)
        simp only [Bool.false_eq_true, if_true, if_false, Decidable.not_not] at h7
        (try simp only [Decidable.not_not] at h7); (try have hj8 := hj8f (by have := h7; omega); try have hv0 := hj8.2.1.1; try have hv1 := hj8.2.1.2)
        exfalso
        first | exact absurd rfl h7 | exact h7 trivial | (simp at h7; done)
      simp only [Bool.false_eq_true, if_true, if_false, Decidable.not_not] at h5
      (try simp only [Decidable.not_not] at h5); (try have hj8 := hj8f (by have := h5; omega); try have hv0 := hj8.2.1.1; try have hv1 := hj8.2.1.2)
      exfalso
      first | exact absurd rfl h5 | exact h5 trivial | (simp at h5; done)
    simp only [Bool.false_eq_true, if_true, if_false, Decidable.not_not] at h4
    (try simp only [Decidable.not_not] at h4); (try have hj8 := hj8f (by have := h4; omega); try have hv0 := hj8.2.1.1; try have hv1 := hj8.2.1.2)
    exfalso
    first | exact absurd rfl h4 | exact h4 trivial | (simp at h4; done)
  simp only [Bool.false_eq_true, if_true, if_false, Decidable.not_not] at h2
  (try simp only [Decidable.not_not] at h2); (try have hj8 := hj8f (by have := h2; omega); try have hv0 := hj8.2.1.1; try have hv1 := hj8.2.1.2)
  exfalso
  first | exact absurd rfl h2 | exact h2 trivial | (simp at h2; done)

end Go.Proofs.YtdlckhdalbagmaaDoor
