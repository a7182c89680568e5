/- Slices of variables that are arrays, handed on to functions that write to them. Own work; no conditions; nothing here is about one program. -/
import Derived.Test.YtppocfcopnaebaaDoorPwVx
namespace Go.Proofs.YtppocfcopnaebaaDoor
open Go.RowKit
set_option linter.unusedVariables false
set_option linter.unusedSimpArgs false
section
variable {P : Program} {n : Nat} {σ : St} {K : St → Prop} {d : Nat} {ty : TypeId} {pos : String} {af : Array Edge} {gd : Option (Nat × Bool)}
theorem imp_vbox {n : Nat} {σ : St} {h x l T off m : Nat} {cs : List PV} (hh : σ.at h = some (.box l T cs)) (hx : σ.at x = some (.view l off m)) : Imp n σ ((x, .vbox l T off m cs) :: (h, .adr l 0) :: σ) := by
  intro C a w hS
  obtain ⟨G, hG, hE⟩ := hS.gh
  refine ⟨hS.fp, hS.below, hS.dfs, hS.size, G, hG, fun t z hz => ?_⟩
  obtain ⟨vs, hv, hg, hhb, hr⟩ := hE h _ hh
  obtain ⟨off', cap, hxv, hmc, ho⟩ := hE x _ hx
  simp only [St.at] at hz
  split at hz
  · rename_i he; subst he
    simp only [Option.some.injEq] at hz; subst hz
    exact ⟨off', cap, vs, hxv, hmc, ho, hg, hhb, hr⟩
  · split at hz
    · rename_i he; subst he
      simp only [Option.some.injEq] at hz; subst hz
      exact hv
    · exact hE t z hz
theorem imp_unvbox {n : Nat} {σ : St} {h x l T off m : Nat} {cs : List PV} (hh : σ.at h = some (.adr l 0)) (hx : σ.at x = some (.vbox l T off m cs)) : Imp n σ ((x, .dead) :: (h, .box l T cs) :: σ) := by
  intro C a w hS
  obtain ⟨G, hG, hE⟩ := hS.gh
  refine ⟨hS.fp, hS.below, hS.dfs, hS.size, G, hG, fun t z hz => ?_⟩
  have hv := hE h _ hh
  obtain ⟨off', cap, vs, hxv, hmc, ho, hg, hhb, hr⟩ := hE x _ hx
  simp only [St.at] at hz
  split at hz
  · simp only [Option.some.injEq] at hz; subst hz; trivial
  · split at hz
    · rename_i he; subst he
      simp only [Option.some.injEq] at hz; subst hz
      exact ⟨vs, hv, hg, hhb, hr⟩
    · exact hE t z hz
end
theorem post_updA {σ : St} {h l L : Nat} {s : SV} {cs : List PV} (ads : List Nat) (hh : σ.at h = some s) (ha : ∀ a ∈ ads, ∃ o, σ.at a = some (.adr l o)) (hl : Nat.beq (l % 1000) L = true) (hf : frh L (h :: ads) σ) : Post [(h, s.upd cs)] σ (σ.upd [h] l cs) := by
  refine ⟨fun t => ?_, fun k hk => .inl (upd_labels σ k hk)⟩
  rw [at_one, upd_at_eq]
  by_cases ht : h = t
  · subst ht; rw [hh, if_pos rfl]; simp
  · rw [if_neg ht, Option.none_or]
    have h4 : ([h].contains t) = false := by simpa using fun k : t = h => ht k.symm
    by_cases hm : t ∈ ads
    · obtain ⟨o, ho⟩ := ha t hm
      rw [ho]
      simp only [Option.map_some, h4]
      rfl
    · cases e : σ.at t with
      | none => rfl
      | some y =>
        have h1 := List.all_eq_true.1 (hf t y (by simp only [List.mem_cons, not_or]; exact ⟨fun k => ht k.symm, hm⟩) e)
        have h2 : y.labels.contains l = false := by
          cases hc : y.labels.contains l with
          | false => rfl
          | true =>
            have h3 := h1 l (by simpa using hc)
            rw [Nat.eq_of_beq_eq_true hl] at h3
            simp at h3
        simp only [Option.map_some, h4, h2]
        simp
section
variable {P : Program} {n : Nat} {σ : St} {K : St → Prop} {d : Nat} {ty : TypeId} {pos : String} {af : Array Edge} {gd : Option (Nat × Bool)}
end
end Go.Proofs.YtppocfcopnaebaaDoor
