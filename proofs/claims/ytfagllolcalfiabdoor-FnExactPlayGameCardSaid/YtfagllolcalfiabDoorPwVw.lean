/- Parts of rows that are written to: slices of variables that are arrays, of slices that the function made; copy and clear over them. Own work; no conditions; nothing here is about one program. -/
import Derived.Test.YtfagllolcalfiabDoorPwAs
namespace Go.Proofs.YtfagllolcalfiabDoor
open Go.RowKit
set_option linter.unusedVariables false
set_option linter.unusedSimpArgs false
section
variable {P : Program} {n : Nat} {σ : St} {K : St → Prop} {d : Nat} {ty : TypeId} {pos : String} {af : Array Edge} {gd : Option (Nat × Bool)}
theorem q_sliceOwn {t e size bytes : Nat} {zc : List PV} (hty : SlTy P t e size bytes zc) {x : Operand} {lo hi : Option Operand} {l e' s' m : Nat} {cs : List PV} {i j : Int} (hx : σ.ev x = some (.own l e' s' m cs)) (hm0 : m ≠ 0)
    (hl : match lo with | none => i = 0 | some l => ∃ k, σ.ev l = some (.val (.int k i))) (hh : match hi with | none => j = m | some h => ∃ k, σ.ev h = some (.val (.int k j)))
    (h0 : 0 ≤ i) (h1 : i ≤ j) (h2 : j ≤ m) (hd : d < n) : quietT P n ⟨some d, .slice t x lo hi none, ty, pos, af, gd⟩ σ d (.view l (i.toNat * size) (j.toNat - i.toNat)) := by
  refine ⟨rfl, hd, fun C a w G hS hG hE => ?_⟩
  obtain ⟨g1, ii, z, g2, g3, g4, _⟩ := hty
  obtain ⟨vs, ho, hb, hr⟩ := hE.ev hx
  have hlb : ∀ (w2 : World) (y : Nat), i ≤ y → ∀ code, match lo with | none => True | some l => (Instr.sliceBound (a.eval l) y code).run P w2 = .ok i.toNat w2 := by
    intro w2 y hy code
    cases lo with
    | none => trivial
    | some l =>
      obtain ⟨k, hk⟩ := hl
      have e2 := hE.ev hk
      simp only [Ok, Rep] at e2
      simp [Instr.sliceBound, asIntOf, e2, h0, hy]
  have hhb2 : ∀ (w2 : World) (y : Nat), j ≤ y → ∀ code, match hi with | none => True | some h => (Instr.sliceBound (a.eval h) y code).run P w2 = .ok j.toNat w2 := by
    intro w2 y hy code
    cases hi with
    | none => trivial
    | some h =>
      obtain ⟨k, hk⟩ := hh
      have e2 := hE.ev hk
      simp only [Ok, Rep] at e2
      simp [Instr.sliceBound, asIntOf, e2, show 0 ≤ j by omega, hy]
  rcases ho.2 with ⟨_, hm⟩ | ⟨g, cap, cur, hv, hbg, hgg, hmc, rest⟩
  · exact absurd hm hm0
  have hrun : ∀ w2, (execOp a.eval ⟨some d, .slice t x lo hi none, ty, pos, af, gd⟩).run P w2 =
      .ok (.value (.slice (if cap = i.toNat then some ⟨g, 0, none⟩ else (some (⟨g, 0, none⟩ : Addr)).map (·.add (i.toNat * size))) (j.toNat - i.toNat) (cap - i.toNat))) w2 := by
    intro w2
    have q1 := hlb w2 j.toNat (by omega)
    have q2 := hhb2 w2 cap (by omega)
    have q3 := hlb w2 m (by omega)
    cases lo <;> cases hi <;> simp only at hl hh q1 q2 q3
    · subst hl; subst hh
      simp [execOp, hv, Instr.sliceAt, Instr.slice, Instr.sliceBounds, run_underlying g1, sizeOf, typeInfo, g2]
    · subst hl
      simp [execOp, hv, Instr.sliceAt, Instr.slice, Instr.sliceBounds, run_underlying g1, sizeOf, typeInfo, g2, q2]
    · subst hh
      simp [execOp, hv, Instr.sliceAt, Instr.slice, Instr.sliceBounds, run_underlying g1, sizeOf, typeInfo, g2, g4, q3]
    · simp [execOp, hv, Instr.sliceAt, Instr.slice, Instr.sliceBounds, run_underlying g1, sizeOf, typeInfo, g2, g4, q1, q2]
  have hgr : g = G.r l := (hb g (by rw [hv]; rfl)).1
  subst hgr
  refine ⟨_, fun w2 _ => hrun w2, ?_⟩
  by_cases hN : cap = i.toNat
  · rw [if_pos hN]
    exact ⟨0, _, rfl, by omega, fun h => by omega⟩
  · rw [if_neg hN]
    exact ⟨i.toNat * size, cap - i.toNat, by simp [Addr.add_lit], by omega, fun _ => rfl⟩
theorem q_sliceOwnP {t e size bytes : Nat} {zc : List PV} (hty : SlTy P t e size bytes zc) {x : Operand} {hi : Option Operand} {l e' m : Nat} {cs : List PV} {j : Int} (hx : σ.ev x = some (.own l e' size m cs)) (hm0 : m ≠ 0)
    (hh : match hi with | none => j = m | some h => ∃ k, σ.ev h = some (.val (.int k j))) (h1 : 0 ≤ j) (h2 : j ≤ m) (hd : d < n) : quietT P n ⟨some d, .slice t x none hi none, ty, pos, af, gd⟩ σ d (.own l e' size j.toNat (cs.take (j.toNat * size))) := by
  refine ⟨rfl, hd, fun C a w G hS hG hE => ?_⟩
  obtain ⟨g1, ii, z, g2, g3, g4, _⟩ := hty
  obtain ⟨vs, ho, hb, hr⟩ := hE.ev hx
  have hhb2 : ∀ (w2 : World) (y : Nat), j ≤ y → ∀ code, match hi with | none => True | some h => (Instr.sliceBound (a.eval h) y code).run P w2 = .ok j.toNat w2 := by
    intro w2 y hy code
    cases hi with
    | none => trivial
    | some h =>
      obtain ⟨k, hk⟩ := hh
      have e2 := hE.ev hk
      simp only [Ok, Rep] at e2
      simp [Instr.sliceBound, asIntOf, e2, h1, hy]
  rcases ho.2 with ⟨_, hm⟩ | ⟨g, cap, cur, hv, hbg, hgg, hmc, hcm, hcs, htk⟩
  · exact absurd hm hm0
  have hrun : ∀ w2, (execOp a.eval ⟨some d, .slice t x none hi none, ty, pos, af, gd⟩).run P w2 =
      .ok (.value (.slice (if cap = 0 then some ⟨g, 0, none⟩ else (some (⟨g, 0, none⟩ : Addr)).map (·.add (0 * size))) j.toNat cap)) w2 := by
    intro w2
    have q2 := hhb2 w2 cap (by omega)
    cases hi <;> simp only at hh q2
    · subst hh
      simp [execOp, hv, Instr.sliceAt, Instr.slice, Instr.sliceBounds, run_underlying g1, sizeOf, typeInfo, g2]
    · simp [execOp, hv, Instr.sliceAt, Instr.slice, Instr.sliceBounds, run_underlying g1, sizeOf, typeInfo, g2, q2]
  refine ⟨_, fun w2 _ => hrun w2, ?_⟩
  have hval : (if cap = 0 then some (⟨g, 0, none⟩ : Addr) else (some (⟨g, 0, none⟩ : Addr)).map (·.add (0 * size))) = some ⟨g, 0, none⟩ := by
    rw [if_neg (by omega)]; simp [Addr.add_lit]
  rw [hval]
  have hjm : j.toNat ≤ m := by omega
  have hle : j.toNat * size ≤ m * size := Nat.mul_le_mul_right _ hjm
  have htv : vs.take (j.toNat * size) = cur.toList.take (j.toNat * size) := by rw [← htk, List.take_take, Nat.min_eq_left hle]
  refine ⟨vs.take (j.toNat * size), ⟨by rw [List.length_take, ho.1, Nat.min_eq_left hle], .inr ⟨g, cap, cur, rfl, hbg, hgg, by omega, hcm, hcs, htv.symm⟩⟩, fun b hb' => ?_, hr.take _⟩
  exact hb b (by rw [hv]; exact hb')
theorem imp_iowO {n : Nat} {σ : St} {x e s m : Nat} {cs : List PV} (h : σ.at x = some (.own 2000 e s m cs)) : Imp n σ ((x, .iow e s m cs) :: σ) := by
  intro C a w hS
  obtain ⟨G, hG, hE⟩ := hS.gh
  refine ⟨hS.fp, hS.below, hS.dfs, hS.size, G, hG, fun t z hz => ?_⟩
  simp only [St.at] at hz
  split at hz
  · rename_i he; subst he
    simp only [Option.some.injEq] at hz; subst hz
    have h' := hE x _ h
    simp only [Ok] at h' ⊢
    exact h'
  · exact hE t z hz
end
end Go.Proofs.YtfagllolcalfiabDoor
