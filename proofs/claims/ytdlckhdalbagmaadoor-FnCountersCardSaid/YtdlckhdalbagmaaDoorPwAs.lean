/- Nil slices that are known to be such; captured functions' values. Own work; no conditions; nothing here is about one program. -/
import Derived.Test.YtdlckhdalbagmaaDoorPwAr
namespace Go.Proofs.YtdlckhdalbagmaaDoor
open Go.RowKit
set_option linter.unusedVariables false
set_option linter.unusedSimpArgs false

section
variable {P : Program} {n : Nat} {σ : St} {K : St → Prop} {d : Nat} {ty : TypeId} {pos : String} {af : Array Edge} {gd : Option (Nat × Bool)}

/-- The slice that is nil may be appended to. -/
theorem imp_nil {s l e size : Nat} (h : σ.at s = some (.val (.cst 0)) ∨ σ.at s = some (.val (.sl 0 []))) : Imp n σ ((s, .own l e size 0 []) :: σ) := by
  intro C a w hS
  obtain ⟨G, hG, hE⟩ := hS.gh
  refine ⟨hS.fp, hS.below, hS.dfs, hS.size, G, hG, fun t x hx => ?_⟩
  simp only [St.at] at hx
  split at hx
  · rename_i he
    subst he
    cases hx
    have hv : a.tmps.getD s undef = .slice none 0 0 := by
      rcases h with h | h
      · have := hE _ _ h; simp only [Ok, Rep, cstV] at this; exact this
      · have := hE _ _ h
        simp only [Ok, Rep] at this
        rcases this with ⟨hv, _⟩ | ⟨b, _, _, _, _, hf, _⟩
        · exact hv
        · exact hf.elim
    rw [hv]
    exact ⟨[], World.ownsRow_nil _ _ _ _, fun b hb => by simp [Value.ownBlock] at hb, rfl⟩
  · exact hE t x hx

/-- Read from what is only read: the value stays part of that memory. -/
theorem q_load_rdP {t : TypeId} (ht : OneTy P t) {x : Operand} {i : Nat} {c : PV} {cs : List PV} (hx : σ.ev x = some (.rpar i (c :: cs))) (hd : d < n) : quietT P n ⟨some d, .load t x, ty, pos, af, gd⟩ σ d (.par i c) := by
  refine ⟨rfl, hd, fun C a w G hS hG hE => ?_⟩
  have e1 := hE.ev hx
  obtain ⟨b, off, vs, hv, hc, hb, hr⟩ := e1
  obtain ⟨v, h3, _, h4⟩ := hr.get 0 c rfl
  have hc0 : w.cell? ⟨b, off, none⟩ = some v := by simpa using hc 0 v h3
  exact ⟨v, fun w2 hw2 => by simp [execOp, hv, Instr.loadAt, Instr.sureAddr, run_loadVar_one ht ((hw2.cell (p := ⟨b, off, none⟩) (World.block_lt_of_cell? w _ hc0)).trans hc0)], h4⟩

end
end Go.Proofs.YtdlckhdalbagmaaDoor
