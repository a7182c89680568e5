/- Functions' values with what they have captured; the walk of an iterator: its own code by the pure layer, its calls of yield by its caller's word. Own work; no conditions; nothing here is about one program. -/
import Derived.Test.YtfagllolcalfiabDoorPwRf
namespace Go.Proofs.YtfagllolcalfiabDoor
open Go.RowKit
set_option linter.unusedVariables false
theorem evs_okL {C : Ctx} {σ : St} {a : Act} {w : World} {G : Gh} (hE : Env C σ a w G) : ∀ {xs : List Operand} {ss : List SV}, σ.evs xs = some ss → OkL C w G ss (xs.map a.eval)
  | [], ss, h => by simp only [St.evs, Option.some.injEq] at h; subst h; rfl
  | x :: xs, ss, h => by
    unfold St.evs at h
    split at h
    · rename_i s ss' h1 h2
      simp only [Option.some.injEq] at h; subst h
      exact ⟨_, _, rfl, hE.ev h1, evs_okL hE h2⟩
    · cases h
section
variable {P : Program} {n : Nat} {σ : St} {K : St → Prop} {d : Nat} {ty : TypeId} {pos : String} {af : Array Edge} {gd : Option (Nat × Bool)}
theorem imp_rpar {s i : Nat} {cs : List PV} (h : σ.at s = some (.par i (.ptr cs))) : Imp n σ ((s, .rpar i cs) :: σ) := by
  intro C a w hS
  obtain ⟨G, hG, hE⟩ := hS.gh
  refine ⟨hS.fp, hS.below, hS.dfs, hS.size, G, hG, fun t x hx => ?_⟩
  simp only [St.at] at hx
  split at hx
  · rename_i he
    subst he
    cases hx
    obtain ⟨b, off, vs, hv, hb, hc, hr⟩ := hE _ _ h
    exact ⟨b, off, vs, hv, hc, hb, hr⟩
  · exact hE t x hx
end
/-! ### Iterators -/
structure YS (P : Program) where
  l : Nat
  N : Nat
  e : Nat → List PV
  J : Nat → (Nat → Prop) → World → Prop
  Jx : Nat → (Nat → Prop) → World → Prop
  F : Nat → Prop
  ab : ItAb J
  abx : ItAb Jx
  yl : ∀ k, k < N → ∀ O W, J k O W → ∀ m, YieldAt Fence.wide m P l (PV.toVs (e k)).toArray W fun x W' =>
    Stays (fun b => O b ∨ F b) W W' ∧ ((x = .returned (.bool true) ∧ J (k + 1) O W') ∨ (x = .returned (.bool false) ∧ Jx (k + 1) O W'))
abbrev YG := Bool × Nat
def YS.JJ {P : Program} (Y : YS P) (g : YG) : (Nat → Prop) → World → Prop := if g.1 then Y.Jx g.2 else Y.J g.2
theorem YS.abJ {P : Program} (Y : YS P) (g : YG) {O O' : Nat → Prop} {W W' : World} (h : Y.JJ g O W) (h1 : ∀ b, O b → O' b) (h2 : ∀ b, O' b → O b ∨ (W.heap.size ≤ b ∧ b < W'.heap.size)) (hs : Stays (fun b => b < W.heap.size ∧ ¬ O b) W W') : Y.JJ g O' W' := by
  unfold YS.JJ at h ⊢
  split
  · rename_i hg; rw [if_pos hg] at h; exact Y.abx _ _ _ _ _ h h1 h2 hs
  · rename_i hg; rw [if_neg hg] at h; exact Y.ab _ _ _ _ _ h h1 h2 hs
structure SimY {P : Program} (Y : YS P) (n : Nat) (C : Ctx) (σ : St) (g : YG) (a : Act) (w : World) : Prop where
  fp : (∀ i b, C.Fp i b → C.old b) ∧ ∀ b, C.ex b → C.old b
  below : Stays C.old C.w0 w
  dfs : a.defers = []
  size : a.tmps.size = n
  gh : ∃ (G : Gh) (O : Nat → Prop), G.fits C w ∧ Env C σ a w G ∧ (∀ b q, G.g b = some q → O b) ∧ (∀ b, O b → b < w.heap.size) ∧ Y.JJ g O w
structure YC {P : Program} (Y : YS P) (C : Ctx) : Prop where
  old : ∀ b, C.old b → Y.F b
  d : C.D = []
  ro : C.ro = none
  x0 : ∀ b, ¬ C.X0 b
section
variable {P : Program} {Y : YS P} {n : Nat} {σ : St} {g : YG}
theorem yctx {C : Ctx} (hC : YC Y C) {a : Act} {w : World} (h : SimY Y n C σ g a w) (hnb : σ.noB = true) : ∃ (Cr : Ctx) (O : Nat → Prop), Cr.w0 = w ∧ Cr.D = [] ∧ Cr.ro = none ∧ Cr.Fp = C.Fp ∧ Cr.ex = C.ex ∧ Cr.pin = C.pin ∧ Cr.X0 = C.X0 ∧ (∀ b, C.old b → Cr.old b) ∧ C.B ≤ Cr.B ∧
    (∀ b, b < w.heap.size → ¬ O b → Cr.old b) ∧ (∀ b, O b → b < w.heap.size) ∧ Y.JJ g O w ∧ Sim n Cr σ a w := by
  obtain ⟨hfp, hst, hd, hsz, G, O, hG, hE, hO, hOl, hJ⟩ := h
  have hun : ∀ b, C.old b → G.g b = none := fun b hb => by
    cases hg : G.g b with
    | none => rfl
    | some q => exact absurd hb (hG.1 b q hg).1
  refine ⟨rctx C G w [] none (glP_keep fun b hb => hst.block b (hfp.2 b hb)) (fun b hb => absurd hb (hC.x0 b)) List.nodup_nil (fun b hb => by cases hb) (fun q hq => by cases hq), O, rfl, rfl, rfl, rfl, rfl, rfl, rfl, fun b hb => (rctx_old b).2 ⟨Nat.lt_of_lt_of_le hb.1 hst.size, hun b hb⟩, hst.size,
    fun b hb hn => (rctx_old b).2 ⟨hb, ?_⟩, hOl, hJ, rebase hfp hst.size hG hE hnb hsz (fun _ _ _ => rfl) (Nat.le_refl _) (fun _ _ _ => rfl) (fun _ _ => rfl) hd⟩
  cases hg : G.g b with
  | none => rfl
  | some q => exact absurd (hO b q hg) hn
theorem yback {C Cr C1 : Ctx} (hC : YC Y C) {a' : Act} {w w' : World} {s : St} {O : Nat → Prop} (hfp : (∀ i b, C.Fp i b → C.old b) ∧ ∀ b, C.ex b → C.old b) (hst : Stays C.old C.w0 w) (h1 : Cr.w0 = w) (h4 : Cr.Fp = C.Fp) (h5 : Cr.ex = C.ex) (h6 : Cr.pin = C.pin) (h7 : Cr.X0 = C.X0) (h8 : ∀ b, C.old b → Cr.old b) (h9 : C.B ≤ Cr.B)
    (h10 : ∀ b, b < w.heap.size → ¬ O b → Cr.old b) (hOl : ∀ b, O b → b < w.heap.size) (hJ : Y.JJ g O w) (x1 : Cr.ext C1) (hS : Sim n C1 s a' w') (hD : C1.D = []) : SimY Y n C s g a' w' := by
  have hstr : Stays Cr.old w w' := by
    have := x1.st.trans (hS.below.mono x1.old)
    rwa [h1] at this
  obtain ⟨G1, hG1, hE1⟩ := hS.gh
  refine ⟨hfp, hst.trans (hstr.mono h8), by rw [hS.dfs]; simp [Ctx.marks, hD], hS.size, G1, fun b => O b ∨ (w.heap.size ≤ b ∧ b < w'.heap.size), ⟨fun b q hb => ⟨fun ho => (hG1.1 b q hb).1 (x1.old b (h8 b ho)), (hG1.1 b q hb).2⟩, hG1.2.1.trans (x1.pin.trans h6), fun b hb => absurd hb (hC.x0 b)⟩, fun t x hx => ?_, fun b q hb => ?_, fun b hb => ?_, ?_⟩
  · exact Ok.keepC (C := C1) (C' := C) (w := w') (w' := w') (G := G1) (G' := G1) (x1.fp.trans h4).symm (x1.ex.trans h5).symm (fun _ _ _ => rfl) (fun _ _ => rfl) x _ (.inl (Nat.le_trans h9 x1.size)) (fun _ _ => ⟨rfl, fun _ h => h, fun _ _ => rfl⟩) (hE1 t x hx)
  · by_cases hlt : b < w.heap.size
    · by_cases hOb : O b
      · exact .inl hOb
      · exact absurd (x1.old b (h10 b hlt hOb)) (hG1.1 b q hb).1
    · exact .inr ⟨by omega, (hG1.1 b q hb).2⟩
  · rcases hb with hb | hb
    · exact Nat.lt_of_lt_of_le (hOl b hb) hstr.size
    · exact hb.2
  · exact Y.abJ g hJ (fun b hb => .inl hb) (fun b hb => hb) (hstr.mono fun b hb => h10 b hb.1 hb.2)
variable {Q : Exit → St → YG → Prop}
theorem SimY.imp {σ' : St} {C : Ctx} (hC : YC Y C) {a : Act} {w : World} (h : SimY Y n C σ g a w) (hnb : σ.noB = true) (hi : Imp n σ σ') : SimY Y n C σ' g a w := by
  obtain ⟨Cr, O, h1, h2, h3, h4, h5, h6, h7, h8, h9, h10, hOl, hJ, hSr⟩ := yctx hC h hnb
  exact yback hC h.fp h.below h1 h4 h5 h6 h7 h8 h9 h10 hOl hJ (Ctx.ext.refl Cr) (hi Cr a w hSr) h2
variable {ops : Array Oper} {l : List Oper} {K : St → YG → Prop}
end
/-! Frames of the walk, as the generated scripts name them. -/
section
variable {P : Program} {Y : YS P} {n : Nat} {σ : St} {g : YG} {Q : Exit → St → YG → Prop} {K : St → YG → Prop}
end
section
variable {n : Nat} {S : List Nat} {Q : Exit → St → Prop} {I : St → Prop} {s τ : St}
end
end Go.Proofs.YtfagllolcalfiabDoor
