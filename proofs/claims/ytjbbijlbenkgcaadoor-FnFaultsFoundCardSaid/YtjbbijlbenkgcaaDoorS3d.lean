/- Contracts of functions, walked over the pure layer; each says for which arguments. -/
import Derived.Test.YtjbbijlbenkgcaaDoorS3dTy
import Derived.Test.YtjbbijlbenkgcaaDoorTf
import Derived.Test.YtjbbijlbenkgcaaDoorSp
import Derived.Test.YtjbbijlbenkgcaaDoorS3
import Derived.Test.YtjbbijlbenkgcaaDoorS3b
namespace Go.Proofs.YtjbbijlbenkgcaaDoor
open Go.RowKit S3dTy
set_option linter.unusedVariables false
set_option linter.unusedSimpArgs false

abbrev shD (fx fy : Int) (d : Nat) : Int := shF fx fy (digT.getD d 0)
/-- One digit more, under its image. -/
def upI (c d : Int) : List (Int × List Int) → List (Int × List Int)
  | [] => [(c, [d])]
  | p :: r => if c = p.1 then (c, p.2 ++ [d]) :: r else p :: upI c d r
def gI (fx fy : Int) : Nat → List (Int × List Int)
  | 0 => []
  | k + 1 => upI (shD fx fy k) (k : Int) (gI fx fy k)
def posI (c : Int) : List (Int × List Int) → Nat → Option Nat
  | [], _ => none
  | p :: r, i => if c = p.1 then some i else posI c r (i + 1)
theorem upI_len (c d : Int) : ∀ m : List (Int × List Int), (upI c d m).length ≤ m.length + 1
  | [] => by simp [upI]
  | p :: r => by
    have := upI_len c d r
    unfold upI
    split <;> simp <;> omega
theorem gI_len (fx fy : Int) : ∀ k, (gI fx fy k).length ≤ k
  | 0 => by simp [gI]
  | k + 1 => by
    have h1 := gI_len fx fy k
    have h2 := upI_len (shD fx fy k) (k : Int) (gI fx fy k)
    show (upI _ _ _).length ≤ _
    omega
theorem posI_le (c : Int) : ∀ (m : List (Int × List Int)) (i j : Nat), posI c m i = some j → i ≤ j
  | [], i, j, h => by simp [posI] at h
  | p :: r, i, j, h => by
    unfold posI at h
    split at h
    · simp only [Option.some.injEq] at h; omega
    · have := posI_le c r (i + 1) j h; omega
theorem posI_at (c : Int) : ∀ (m : List (Int × List Int)) (i j : Nat), posI c m i = some j → ∃ v, m[j - i]? = some (c, v)
  | [], i, j, h => by simp [posI] at h
  | p :: r, i, j, h => by
    unfold posI at h
    split at h
    · rename_i hc
      simp only [Option.some.injEq] at h; subst h
      exact ⟨p.2, by simp [hc]⟩
    · have hle := posI_le c r (i + 1) j h
      obtain ⟨v, hv⟩ := posI_at c r (i + 1) j h
      exact ⟨v, by rw [show j - i = (j - (i + 1)) + 1 by omega]; simpa using hv⟩
theorem posI_none (c : Int) : ∀ (m : List (Int × List Int)) (i : Nat), posI c m i = none ↔ ∀ p ∈ m, p.1 ≠ c
  | [], i => by simp [posI]
  | p :: r, i => by
    unfold posI
    have ih := posI_none c r (i + 1)
    split
    · rename_i hc; simp [hc]
    · rename_i hc
      rw [ih]; simp only [List.mem_cons, forall_eq_or_imp]
      exact ⟨fun h => ⟨fun e => hc e.symm, h⟩, fun h => h.2⟩
/-- The keys are those that were there, and c. -/
theorem upI_keys (c d : Int) : ∀ m : List (Int × List Int), (upI c d m).map (·.1) = if ∀ p ∈ m, p.1 ≠ c then m.map (·.1) ++ [c] else m.map (·.1)
  | [] => by simp [upI]
  | p :: r => by
    have ih := upI_keys c d r
    unfold upI
    by_cases hc : c = p.1
    · rw [if_pos hc, if_neg (fun h => h p (by simp) hc.symm)]; simp [hc]
    · rw [if_neg hc, List.map_cons, ih]
      by_cases hr : ∀ p ∈ r, p.1 ≠ c
      · rw [if_pos hr, if_pos (by intro q hq; rcases List.mem_cons.1 hq with rfl | hq; · exact fun e => hc e.symm
                                  · exact hr q hq)]; simp
      · rw [if_neg hr, if_neg (fun h => hr (fun q hq => h q (by simp [hq])))]; simp
theorem upI_mem {c d : Int} : ∀ {m : List (Int × List Int)} {p : Int × List Int}, (m.map (·.1)).Nodup → p ∈ upI c d m → (p.1 ≠ c ∧ p ∈ m) ∨ (p.1 = c ∧ ((∀ q ∈ m, q.1 ≠ c) ∧ p.2 = [d] ∨ ∃ v, (c, v) ∈ m ∧ p.2 = v ++ [d]))
  | [], p, _, h => by simp [upI] at h; subst h; exact .inr ⟨rfl, .inl ⟨by simp, rfl⟩⟩
  | q :: r, p, hn, h => by
    simp only [List.map_cons, List.nodup_cons] at hn
    unfold upI at h
    split at h
    · rename_i hc
      rcases List.mem_cons.1 h with rfl | h
      · exact .inr ⟨rfl, .inr ⟨q.2, by simp [hc], rfl⟩⟩
      · refine .inl ⟨fun e => hn.1 ?_, by simp [h]⟩
        rw [← hc, ← e]; exact List.mem_map_of_mem h
    · rename_i hc
      rcases List.mem_cons.1 h with rfl | h
      · exact .inl ⟨fun e => hc e.symm, by simp⟩
      · rcases upI_mem hn.2 h with ⟨h1, h2⟩ | ⟨h1, h2⟩
        · exact .inl ⟨h1, by simp [h2]⟩
        · refine .inr ⟨h1, ?_⟩
          rcases h2 with ⟨h2, h3⟩ | ⟨v, h2, h3⟩
          · exact .inl ⟨by intro q' hq'; rcases List.mem_cons.1 hq' with rfl | hq'; · exact fun e => hc e.symm
                           · exact h2 q' hq', h3⟩
          · exact .inr ⟨v, by simp [h2], h3⟩
def isFst (fx fy : Int) (k : Nat) : Prop := ∀ j, j < k → shD fx fy j ≠ shD fx fy k
instance (fx fy : Int) (k : Nat) : Decidable (isFst fx fy k) := by unfold isFst; infer_instance
def fstK (fx fy : Int) (k : Nat) : List Nat := (List.range k).filter fun d => isFst fx fy d
theorem fstK_succ (fx fy : Int) (k : Nat) : fstK fx fy (k + 1) = fstK fx fy k ++ if isFst fx fy k then [k] else [] := by
  unfold fstK
  rw [List.range_succ, List.filter_append, List.filter_cons]
  by_cases h : isFst fx fy k
  · rw [if_pos (decide_eq_true h), if_pos h]; rfl
  · rw [if_neg (fun e => h (of_decide_eq_true e)), if_neg h]; rfl
theorem fstK_len (fx fy : Int) (k : Nat) : (fstK fx fy k).length ≤ k := by
  unfold fstK; exact Nat.le_trans (List.length_filter_le _ _) (by simp)
theorem digsK_mem {fx fy c : Int} {k : Nat} {d : Int} : d ∈ digsK fx fy c k ↔ ∃ j : Nat, j < k ∧ shD fx fy j = c ∧ d = (j : Int) := by
  unfold digsK
  simp only [List.mem_map, List.mem_filter, List.mem_range, decide_eq_true_eq]
  constructor
  · rintro ⟨j, ⟨h1, h2⟩, rfl⟩; exact ⟨j, h1, h2, rfl⟩
  · rintro ⟨j, h1, h2, rfl⟩; exact ⟨j, ⟨h1, h2⟩, rfl⟩
theorem digsK_nil {fx fy c : Int} {k : Nat} : digsK fx fy c k = [] ↔ ∀ j, j < k → shD fx fy j ≠ c := by
  rw [List.eq_nil_iff_forall_not_mem]
  constructor
  · intro h j hj e; exact h _ (digsK_mem.2 ⟨j, hj, e, rfl⟩)
  · intro h d hd; obtain ⟨j, h1, h2, _⟩ := digsK_mem.1 hd; exact h j h1 h2
/-- The entries: their keys are the images in order of their first digits, each once; under each its digits. -/
theorem gI_ok (fx fy : Int) : ∀ k, (gI fx fy k).map (·.1) = (fstK fx fy k).map (shD fx fy) ∧ ((gI fx fy k).map (·.1)).Nodup ∧ (∀ p ∈ gI fx fy k, p.2 = digsK fx fy p.1 k ∧ p.2 ≠ []) ∧ ∀ c, (∀ p ∈ gI fx fy k, p.1 ≠ c) ↔ digsK fx fy c k = []
  | 0 => ⟨rfl, by simp [gI], by simp [gI], fun c => by simp [gI, digsK]⟩
  | k + 1 => by
    obtain ⟨h1, h2, h3, h4⟩ := gI_ok fx fy k
    have hk := upI_keys (shD fx fy k) (k : Int) (gI fx fy k)
    have hfst : (∀ p ∈ gI fx fy k, p.1 ≠ shD fx fy k) ↔ isFst fx fy k := by
      rw [h4, digsK_nil]; exact Iff.rfl
    refine ⟨?_, ?_, ?_, ?_⟩
    · show (upI _ _ _).map _ = _
      rw [hk, fstK_succ, h1]
      by_cases hf : isFst fx fy k
      · rw [if_pos (hfst.2 hf), if_pos hf, List.map_append]; rfl
      · rw [if_neg (fun h => hf (hfst.1 h)), if_neg hf, List.append_nil]
    · show ((upI _ _ _).map _).Nodup
      rw [hk]
      split
      · rename_i h
        refine List.nodup_append.2 ⟨h2, by simp, fun a ha b hb e => ?_⟩
        obtain ⟨p, hp, rfl⟩ := List.mem_map.1 ha
        simp only [List.mem_singleton] at hb
        exact h p hp (e.trans hb)
      · exact h2
    · intro p hp
      have hp' : p ∈ upI (shD fx fy k) (k : Int) (gI fx fy k) := hp
      rw [digsK_succ]
      rcases upI_mem h2 hp' with ⟨g1, g2⟩ | ⟨g1, g2⟩
      · rw [if_neg (fun e => g1 e.symm), List.append_nil]; exact h3 p g2
      · rw [if_pos g1.symm]
        rcases g2 with ⟨g2, g3⟩ | ⟨v, g2, g3⟩
        · have := (h4 (shD fx fy k)).1 g2
          rw [g3, g1, this]; simp
        · have := (h3 _ g2).1
          simp only at this
          rw [g3, g1, ← this]; simp
    · intro c
      rw [digsK_succ, List.append_eq_nil_iff, ← h4 c]
      have hkeys : ∀ c, (∀ p ∈ upI (shD fx fy k) (k : Int) (gI fx fy k), p.1 ≠ c) ↔ c ∉ (upI (shD fx fy k) (k : Int) (gI fx fy k)).map (·.1) := fun c => by
        simp only [List.mem_map, not_exists, not_and]
      show (∀ p ∈ upI (shD fx fy k) (k : Int) (gI fx fy k), p.1 ≠ c) ↔ _
      rw [hkeys, hk]
      have hold : (∀ p ∈ gI fx fy k, p.1 ≠ c) ↔ c ∉ (gI fx fy k).map (·.1) := by simp only [List.mem_map, not_exists, not_and]
      rw [hold]
      by_cases hs : shD fx fy k = c
      · have hne : ¬ ((if shD fx fy k = c then [(k : Int)] else []) = []) := by rw [if_pos hs]; simp
        refine ⟨fun h => absurd ?_ h, fun h => absurd h.2 hne⟩
        split
        · simp [hs]
        · rename_i hh
          have hh2 : ¬ ∀ p ∈ gI fx fy k, p.1 ≠ c := by rw [← hs]; exact hh
          rw [hold] at hh2
          exact Decidable.not_not.1 hh2
      · rw [if_neg hs]
        split
        · simp only [List.mem_append, List.mem_singleton, not_or, and_true]
          exact ⟨fun h => h.1, fun h => ⟨h, fun e => hs e.symm⟩⟩
        · simp
theorem gI_find (fx fy c : Int) (k : Nat) : (digsK fx fy c k = [] ∧ posI c (gI fx fy k) 0 = none) ∨ (digsK fx fy c k ≠ [] ∧ ∃ i, posI c (gI fx fy k) 0 = some i ∧ (gI fx fy k)[i]? = some (c, digsK fx fy c k)) := by
  obtain ⟨_, _, h3, h4⟩ := gI_ok fx fy k
  cases hp : posI c (gI fx fy k) 0 with
  | none => exact .inl ⟨(h4 c).1 ((posI_none c _ 0).1 hp), rfl⟩
  | some i =>
    obtain ⟨v, hv⟩ := posI_at c _ 0 i hp
    rw [Nat.sub_zero] at hv
    have := h3 _ (List.mem_of_getElem? hv)
    simp only at this
    refine .inr ⟨by rw [← this.1]; exact this.2, i, rfl, by rw [hv, this.1]⟩
/-- All groups, in order of their first digits. -/
def grp (fx fy : Int) : List (List Int) := (gI fx fy 10).map (·.2)
theorem gI_fst (fx fy : Int) : gI fx fy 10 = (fstK fx fy 10).map fun d => (shD fx fy d, digs fx fy (shD fx fy d)) := by
  obtain ⟨h1, _, h3, _⟩ := gI_ok fx fy 10
  have hl : (gI fx fy 10).length = (fstK fx fy 10).length := by have := congrArg List.length h1; simpa using this
  apply List.ext_getElem (by simp [hl])
  intro i g1 g2
  have e1 : (gI fx fy 10)[i].1 = shD fx fy ((fstK fx fy 10)[i]'(by rw [← hl]; exact g1)) := by
    have := congrArg (fun l => l[i]?) h1
    simp only [List.getElem?_map, List.getElem?_eq_getElem g1, List.getElem?_eq_getElem (show i < (fstK fx fy 10).length by rw [← hl]; exact g1), Option.map_some, Option.some.injEq] at this
    exact this
  have e2 := (h3 _ (List.getElem_mem g1)).1
  rw [List.getElem_map]
  apply Prod.ext
  · exact e1
  · rw [e2, e1]; rfl
theorem grp_eq (fx fy : Int) : grp fx fy = (fstK fx fy 10).map fun d => digs fx fy (shD fx fy d) := by
  unfold grp; rw [gI_fst, List.map_map]; rfl
theorem grp_len (fx fy : Int) : (grp fx fy).length ≤ 10 := by unfold grp; rw [List.length_map]; exact gI_len fx fy 10
/-- Slices of numbers, as cells. -/
def slI (gs : List (List Int)) : List PV := gs.map fun g => .sl g.length (g.map (.int .i64))
theorem slI_len (gs : List (List Int)) : (slI gs).length = gs.length := by simp [slI]
def grpK (fx fy : Int) (k : Nat) : List (List Int) := (fstK fx fy k).map fun d => digs fx fy (shD fx fy d)
theorem grpK_succ (fx fy : Int) (k : Nat) : grpK fx fy (k + 1) = grpK fx fy k ++ if isFst fx fy k then [digs fx fy (shD fx fy k)] else [] := by
  unfold grpK; rw [fstK_succ, List.map_append]; congr 1; split <;> rfl
theorem grpK_len (fx fy : Int) (k : Nat) : (grpK fx fy k).length ≤ k := by unfold grpK; rw [List.length_map]; exact fstK_len fx fy k
/-- The first digit of a group. -/
theorem digs_head (fx fy : Int) {k : Nat} (hk : k < 10) : digs fx fy (shD fx fy k) ≠ [] ∧ ((digs fx fy (shD fx fy k)).getD 0 0 = (k : Int) ↔ isFst fx fy k) := by
  have hne : digs fx fy (shD fx fy k) ≠ [] := fun h => digsK_nil.1 h k hk rfl
  refine ⟨hne, ?_⟩
  have key : ∀ m, digsK fx fy (shD fx fy k) m ≠ [] → ∃ j : Nat, (digsK fx fy (shD fx fy k) m).getD 0 0 = (j : Int) ∧ j < m ∧ shD fx fy j = shD fx fy k ∧ ∀ i, i < j → shD fx fy i ≠ shD fx fy k := by
    intro m
    induction m with
    | zero => intro h; exact absurd rfl h
    | succ m ih =>
      intro h
      rw [digsK_succ] at h ⊢
      by_cases hm : digsK fx fy (shD fx fy k) m = []
      · rw [hm, List.nil_append] at h ⊢
        split at h
        · rename_i hs
          rw [if_pos hs]
          exact ⟨m, rfl, by omega, hs, digsK_nil.1 hm⟩
        · exact absurd rfl h
      · obtain ⟨j, h1, h2, h3, h4⟩ := ih hm
        refine ⟨j, ?_, by omega, h3, h4⟩
        rw [← h1]
        cases hc : digsK fx fy (shD fx fy k) m with
        | nil => exact absurd hc hm
        | cons a b => rfl
  obtain ⟨j, h1, h2, h3, h4⟩ := key 10 hne
  have h1' : (digs fx fy (shD fx fy k)).getD 0 0 = (j : Int) := h1
  rw [h1']
  constructor
  · intro e
    have : j = k := by omega
    subst this; exact h4
  · intro hf
    by_cases hjk : j < k
    · exact absurd h3 (hf j hjk)
    · by_cases hkj : k < j
      · exact absurd rfl (h4 k hkj)
      · have : j = k := by omega
        rw [this]

end Go.Proofs.YtjbbijlbenkgcaaDoor
