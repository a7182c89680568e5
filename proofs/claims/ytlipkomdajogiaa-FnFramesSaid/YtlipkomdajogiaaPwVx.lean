/- Rows that the function made are copied into, elements of any size; a part of a variable that is an array is read as a slice. Own work; no conditions; nothing here is about one program. -/
import Derived.Test.YtlipkomdajogiaaPwVw
namespace Go.Proofs.Ytlipkomdajogiaa
open Go.RowKit
set_option linter.unusedVariables false
set_option linter.unusedSimpArgs false
section
variable {P : Program} {n : Nat} {σ : St} {K : St → Prop} {d : Nat} {ty : TypeId} {pos : String} {af : Array Edge} {gd : Option (Nat × Bool)}
theorem q_sliceBoxB {t N e : Nat} (hty : P.underlying t = some (.array N e)) (hsz : ∀ w, (sizeOf e).run P w = .ok 1 w) {x : Operand} {lo hi : Option Operand} {l T : Nat} {cs : List PV} {i j : Int} (hx : σ.ev x = some (.box l T cs))
    (hl : match lo with | none => i = 0 | some l => ∃ k, σ.ev l = some (.val (.int k i))) (hh : match hi with | none => j = N | some h => ∃ k, σ.ev h = some (.val (.int k j)))
    (h0 : 0 ≤ i) (h1 : i ≤ j) (h2 : j ≤ N) (hd : d < n) : quietT P n ⟨some d, .slice t x lo hi none, ty, pos, af, gd⟩ σ d (.bor l (.sl (j.toNat - i.toNat) ((cs.drop i.toNat).take (j.toNat - i.toNat)))) := by
  obtain ⟨g1, g2, g3⟩ := q_sliceBox (d := d) (ty := ty) (pos := pos) (af := af) (gd := gd) (n := n) hty hsz hx hl hh h0 h1 h2 hd
  refine ⟨g1, g2, fun C a w G hS hG hE => ?_⟩
  obtain ⟨v, hrun, off', cap, hv, hkc, hoff⟩ := g3 C a w G hS hG hE
  obtain ⟨vs, hbv, hg, hhb, hr⟩ := hE.ev hx
  refine ⟨v, hrun, ?_⟩
  show Rep w (G.see C l) (.sl _ _) v
  simp only [Rep]
  by_cases hn0 : j.toNat - i.toNat = 0
  · refine .inr ⟨G.r l, off', cap, [], hv, .inl hg, hkc, fun j u h => by simp at h, ?_⟩
    rw [hn0, List.take_zero]; rfl
  · have := hoff hn0
    subst this
    refine .inr ⟨G.r l, i.toNat, cap, (vs.drop i.toNat).take (j.toNat - i.toNat), hv, .inl hg, hkc, fun q u hq => ?_, ?_⟩
    · have hq2 : vs[i.toNat + q]? = some u := by
        rw [List.getElem?_take] at hq
        split at hq
        · rwa [List.getElem?_drop] at hq
        · simp at hq
      simp [World.cell?, hhb, hq2]
    · exact RepL.mono (fun b hb => hb.imp (fun h => h.1) id) (fun _ _ => rfl) _ _ ((hr.drop _).take _)
end
end Go.Proofs.Ytlipkomdajogiaa
