/- Functions' values with what they have captured; the walk of an iterator: its own code by the pure layer, its calls of yield by its caller's word. Own work; no conditions; nothing here is about one program. -/
import Derived.Test.YtfagllolcalfiaaDoorPwRf
namespace Go.Proofs.YtfagllolcalfiaaDoor
open Go.RowKit
set_option linter.unusedVariables false

/-- Variables, with their labels, whose cells reach no memory. -/
def boxesOf : List SV → Option (List (Nat × List PV))
  | [] => some []
  | .box l _ cs :: r => match boxesOf r with
    | some bs => if PV.flatL cs then some ((l, cs) :: bs) else none
    | none => none
  | _ => none

theorem boxes_rep {C : Ctx} {w : World} {G : Gh} {F : Nat → Prop} : ∀ {ss : List SV} {bs : List (Nat × List PV)} {vs : List Value}, boxesOf ss = some bs → OkL C w G ss vs → (∀ b ∈ bs, ∀ k, G.g k = some b.1 → F k) → RepL w F (bs.map fun b => .ptr b.2) vs
  | [], bs, vs, h, hk, hF => by simp only [boxesOf, Option.some.injEq] at h; subst h; simpa [OkL, RepL] using hk
  | s :: ss, bs, vs, h, hk, hF => by
    cases s <;> simp only [boxesOf, reduceCtorEq] at h
    rename_i l e cs
    split at h
    · rename_i bs' hb
      split at h
      · rename_i hf
        simp only [Option.some.injEq] at h; subst h
        obtain ⟨v, r, rfl, h1, h2⟩ := hk
        obtain ⟨us, hv, hg, hh, hr⟩ := h1
        refine ⟨v, r, rfl, rfl, ?_, boxes_rep hb h2 (fun b hm => hF b (List.mem_cons_of_mem _ hm))⟩
        refine ⟨G.r l, 0, us, hv, hF (l, cs) List.mem_cons_self _ hg, fun j u hu => ?_, RepL.flat cs us hf hr⟩
        rw [cell_of_row w _ (0 + j) _ e (0, 0) hh]; simpa using hu
      · cases h
    · cases h

theorem evs_okL {C : Ctx} {σ : St} {a : Act} {w : World} {G : Gh} (hE : Env C σ a w G) : ∀ {xs : List Operand} {ss : List SV}, σ.evs xs = some ss → OkL C w G ss (xs.map a.eval)
  | [], ss, h => by simp only [St.evs, Option.some.injEq] at h; subst h; rfl
  | x :: xs, ss, h => by
    unfold St.evs at h
    split at h
    · rename_i s ss' h1 h2
      simp only [Option.some.injEq] at h; subst h
      exact ⟨_, _, rfl, hE.ev h1, evs_okL hE h2⟩
    · cases h

section
variable {P : Program} {n : Nat} {σ : St} {K : St → Prop} {d : Nat} {ty : TypeId} {pos : String} {af : Array Edge} {gd : Option (Nat × Bool)}

/-- A function's value that has captured variables: they are read from now on, and through it alone. -/
theorem op_makeFunc {f : FuncId} {xs : List Operand} {ss : List SV} {bs : List (Nat × List PV)} (hxs : σ.evs xs = some ss) (hbs : boxesOf ss = some bs) (h2 : (bs.map (·.1)).contains 2000 = false) (hd : d < n) (hd0 : d ≠ 2000) (hfr : σ.labels.all (· != d) = true)
    (hK : K ((d, .frz d (.clo f (bs.map fun b => .ptr b.2))) :: σ.killLs (bs.map (·.1)))) : opT P n ⟨some d, .makeFunc (.func f) #[] xs.toArray, ty, pos, af, gd⟩ σ K := by
  intro C a w hS K' Q hK'
  obtain ⟨G, hG, hE⟩ := hS.gh
  have hfr' : ∀ q ∈ σ.labels, q ≠ d := by simpa using hfr
  let ls := bs.map (·.1)
  let G' : Gh := ⟨fun b => match G.g b with | some m => if ls.contains m then some d else some m | none => none, G.r⟩
  have hop : (execOp a.eval ⟨some d, .makeFunc (.func f) #[] xs.toArray, ty, pos, af, gd⟩).run P w = .ok (.value (.func (.func f) #[] (xs.map a.eval).toArray)) w := by
    simp [execOp, Instr.makeFunc]
  unfold Oper.wp
  rw [hop, Oper.upon_value]
  have hin : ∀ b q, G.g b = some q → q ∈ ls → G'.g b = some d := fun b q hb hq => by
    show (match G.g b with | some m => if ls.contains m then some d else some m | none => none) = some d
    rw [hb]; simp [hq]
  have hout : ∀ b q, G.g b = some q → q ∉ ls → G'.g b = some q := fun b q hb hq => by
    show (match G.g b with | some m => if ls.contains m then some d else some m | none => none) = some q
    rw [hb]; simp [hq]
  have hinv : ∀ b q, G'.g b = some q → ∃ q', G.g b = some q' := fun b q hb => by
    have hb' : (match G.g b with | some m => if ls.contains m then some d else some m | none => none) = some q := hb
    cases hgb : G.g b with
    | none => rw [hgb] at hb'; cases hb'
    | some m => exact ⟨m, rfl⟩
  have hG' : G'.fits C w := ⟨fun b q hb => let ⟨q', h⟩ := hinv b q hb; hG.1 b q' h, hG.2.1, fun b hb => hout b 2000 (hG.2.2 b hb) (by simpa [ls] using h2)⟩
  have hE' : Env C (σ.killLs ls) a w G' := fun s x hx => by
    rcases killLs_at hx with rfl | ⟨hx', hl⟩
    · trivial
    · exact Ok.keep (G := G) (G' := G') hS.fp (Stays.refl _ _) x _ (fun q hq => ⟨rfl, fun b hb => hout b q hb (fun hm => hl q hm hq), fun _ _ => rfl⟩) (hE s x hx')
  have hok : Ok C w G' (.frz d (.clo f (bs.map fun b => .ptr b.2))) (.func (.func f) #[] (xs.map a.eval).toArray) := by
    refine ⟨_, rfl, boxes_rep (G := G) hbs (evs_okL hE hxs) (fun b hb k hk => hin k b.1 hk (List.mem_map.2 ⟨b, hb, rfl⟩))⟩
  have hS' : Sim n C (σ.killLs ls) a w := ⟨hS.fp, hS.below, hS.dfs, hS.size, G', hG', hE'⟩
  exact hK' _ _ _ hK (hS'.put hG' hE' hd hok)

/-- A parameter that is a pointer, read through. -/
theorem imp_rpar {s i : Nat} {cs : List PV} (h : σ.at s = some (.par i (.ptr cs))) : Imp n σ ((s, .rpar i cs) :: σ) := by
  intro C a w hS
  obtain ⟨G, hG, hE⟩ := hS.gh
  refine ⟨hS.fp, hS.below, hS.dfs, hS.size, G, hG, fun t x hx => ?_⟩
  simp only [St.at] at hx
  split at hx
  · rename_i he
    subst he
    cases hx
    obtain ⟨b, off, vs, hv, hb, hc, hr⟩ := hE _ _ h
    exact ⟨b, off, vs, hv, hc, hb, hr⟩
  · exact hE t x hx
end

/-! ### Iterators -/

/-- What the caller of an iterator has given its word for. -/
structure YS (P : Program) where
  l : Nat
  N : Nat
  e : Nat → List PV
  J : Nat → (Nat → Prop) → World → Prop
  Jx : Nat → (Nat → Prop) → World → Prop
  F : Nat → Prop
  ab : ItAb J
  abx : ItAb Jx
  yl : ∀ k, k < N → ∀ O W, J k O W → ∀ m, YieldAt Fence.wide m P l (PV.toVs (e k)).toArray W fun x W' =>
    Stays (fun b => O b ∨ F b) W W' ∧ ((x = .returned (.bool true) ∧ J (k + 1) O W') ∨ (x = .returned (.bool false) ∧ Jx (k + 1) O W'))

/-- How far it has come: whether it has been told to stop; how many calls of yield lie behind. -/
abbrev YG := Bool × Nat
def YS.JJ {P : Program} (Y : YS P) (g : YG) : (Nat → Prop) → World → Prop := if g.1 then Y.Jx g.2 else Y.J g.2
theorem YS.abJ {P : Program} (Y : YS P) (g : YG) {O O' : Nat → Prop} {W W' : World} (h : Y.JJ g O W) (h1 : ∀ b, O b → O' b) (h2 : ∀ b, O' b → O b ∨ (W.heap.size ≤ b ∧ b < W'.heap.size)) (hs : Stays (fun b => b < W.heap.size ∧ ¬ O b) W W') : Y.JJ g O' W' := by
  unfold YS.JJ at h ⊢
  split
  · rename_i hg; rw [if_pos hg] at h; exact Y.abx _ _ _ _ _ h h1 h2 hs
  · rename_i hg; rw [if_neg hg] at h; exact Y.ab _ _ _ _ _ h h1 h2 hs

/-- The frame of an iterator and the world, with the caller's word. -/
structure SimY {P : Program} (Y : YS P) (n : Nat) (C : Ctx) (σ : St) (g : YG) (a : Act) (w : World) : Prop where
  fp : (∀ i b, C.Fp i b → C.old b) ∧ ∀ b, C.ex b → C.old b
  below : Stays C.old C.w0 w
  dfs : a.defers = []
  size : a.tmps.size = n
  gh : ∃ (G : Gh) (O : Nat → Prop), G.fits C w ∧ Env C σ a w G ∧ (∀ b q, G.g b = some q → O b) ∧ (∀ b, O b → b < w.heap.size) ∧ Y.JJ g O w

/-- The context of an iterator's call: what it may read stays; nothing else of what was there is known. -/
structure YC {P : Program} (Y : YS P) (C : Ctx) : Prop where
  old : ∀ b, C.old b → Y.F b
  d : C.D = []
  ro : C.ro = none
  x0 : ∀ b, ¬ C.X0 b

def codeY {P : Program} (Y : YS P) (n : Nat) (c : Code) (σ : St) (g : YG) (Q : Exit → St → YG → Prop) : Prop :=
  ∀ C, YC Y C → ∀ a w, SimY Y n C σ g a w → ∀ N, c.wpIn (RF none) N P (fun e a' w' => ∃ σ' g', Q e σ' g' ∧ SimY Y n C σ' g' a' w') a w

section
variable {P : Program} {Y : YS P} {n : Nat} {σ : St} {g : YG}

/-- The context in which the iterator's own code is walked: all that bears no label is old. -/
theorem yctx {C : Ctx} (hC : YC Y C) {a : Act} {w : World} (h : SimY Y n C σ g a w) (hnb : σ.noB = true) : ∃ (Cr : Ctx) (O : Nat → Prop), Cr.w0 = w ∧ Cr.D = [] ∧ Cr.ro = none ∧ Cr.Fp = C.Fp ∧ Cr.ex = C.ex ∧ Cr.pin = C.pin ∧ Cr.X0 = C.X0 ∧ (∀ b, C.old b → Cr.old b) ∧ C.B ≤ Cr.B ∧
    (∀ b, b < w.heap.size → ¬ O b → Cr.old b) ∧ (∀ b, O b → b < w.heap.size) ∧ Y.JJ g O w ∧ Sim n Cr σ a w := by
  obtain ⟨hfp, hst, hd, hsz, G, O, hG, hE, hO, hOl, hJ⟩ := h
  have hun : ∀ b, C.old b → G.g b = none := fun b hb => by
    cases hg : G.g b with
    | none => rfl
    | some q => exact absurd hb (hG.1 b q hg).1
  refine ⟨rctx C G w [] none (glP_keep fun b hb => hst.block b (hfp.2 b hb)) (fun b hb => absurd hb (hC.x0 b)) List.nodup_nil (fun b hb => by cases hb) (fun q hq => by cases hq), O, rfl, rfl, rfl, rfl, rfl, rfl, rfl, fun b hb => (rctx_old b).2 ⟨Nat.lt_of_lt_of_le hb.1 hst.size, hun b hb⟩, hst.size,
    fun b hb hn => (rctx_old b).2 ⟨hb, ?_⟩, hOl, hJ, rebase hfp hst.size hG hE hnb hsz (fun _ _ _ => rfl) (Nat.le_refl _) (fun _ _ _ => rfl) (fun _ _ => rfl) hd⟩
  cases hg : G.g b with
  | none => rfl
  | some q => exact absurd (hO b q hg) hn

/-- Back out of it. -/
theorem yback {C Cr C1 : Ctx} (hC : YC Y C) {a' : Act} {w w' : World} {s : St} {O : Nat → Prop} (hfp : (∀ i b, C.Fp i b → C.old b) ∧ ∀ b, C.ex b → C.old b) (hst : Stays C.old C.w0 w) (h1 : Cr.w0 = w) (h4 : Cr.Fp = C.Fp) (h5 : Cr.ex = C.ex) (h6 : Cr.pin = C.pin) (h7 : Cr.X0 = C.X0) (h8 : ∀ b, C.old b → Cr.old b) (h9 : C.B ≤ Cr.B)
    (h10 : ∀ b, b < w.heap.size → ¬ O b → Cr.old b) (hOl : ∀ b, O b → b < w.heap.size) (hJ : Y.JJ g O w) (x1 : Cr.ext C1) (hS : Sim n C1 s a' w') (hD : C1.D = []) : SimY Y n C s g a' w' := by
  have hstr : Stays Cr.old w w' := by
    have := x1.st.trans (hS.below.mono x1.old)
    rwa [h1] at this
  obtain ⟨G1, hG1, hE1⟩ := hS.gh
  refine ⟨hfp, hst.trans (hstr.mono h8), by rw [hS.dfs]; simp [Ctx.marks, hD], hS.size, G1, fun b => O b ∨ (w.heap.size ≤ b ∧ b < w'.heap.size), ⟨fun b q hb => ⟨fun ho => (hG1.1 b q hb).1 (x1.old b (h8 b ho)), (hG1.1 b q hb).2⟩, hG1.2.1.trans (x1.pin.trans h6), fun b hb => absurd hb (hC.x0 b)⟩, fun t x hx => ?_, fun b q hb => ?_, fun b hb => ?_, ?_⟩
  · exact Ok.keepC (C := C1) (C' := C) (w := w') (w' := w') (G := G1) (G' := G1) (x1.fp.trans h4).symm (x1.ex.trans h5).symm (fun _ _ _ => rfl) (fun _ _ => rfl) x _ (.inl (Nat.le_trans h9 x1.size)) (fun _ _ => ⟨rfl, fun _ h => h, fun _ _ => rfl⟩) (hE1 t x hx)
  · by_cases hlt : b < w.heap.size
    · by_cases hOb : O b
      · exact .inl hOb
      · exact absurd (x1.old b (h10 b hlt hOb)) (hG1.1 b q hb).1
    · exact .inr ⟨by omega, (hG1.1 b q hb).2⟩
  · rcases hb with hb | hb
    · exact Nat.lt_of_lt_of_le (hOl b hb) hstr.size
    · exact hb.2
  · exact Y.abJ g hJ (fun b hb => .inl hb) (fun b hb => hb) (hstr.mono fun b hb => h10 b hb.1 hb.2)

/-- Code that calls no yield. -/
theorem codeY_of {c : Code} {Q : Exit → St → YG → Prop} (hrf : rfFree c = true) (hnb : σ.noB = true) (h : codeT P n c σ fun e s => Q e s g) : codeY Y n c σ g Q := by
  intro C hC a w hS N
  obtain ⟨Cr, O, h1, h2, h3, h4, h5, h6, h7, h8, h9, h10, hOl, hJ, hSr⟩ := yctx hC hS hnb
  have hw := h Cr a w hSr N
  rw [h3] at hw
  refine wpIn_mono hw ?_
  rintro e a' w' ⟨C1, s, x1, hQ, hS1, _, hD⟩
  exact ⟨s, g, hQ, yback hC hS.fp hS.below h1 h4 h5 h6 h7 h8 h9 h10 hOl hJ x1 hS1 ((hD hrf).trans h2)⟩

variable {Q : Exit → St → YG → Prop}

def ThenY (K : St → YG → Prop) (Q : Exit → St → YG → Prop) : Exit → St → YG → Prop
  | .normal, σ, g => K σ g
  | e, σ, g => Q e σ g

theorem codeY_seq {x y : Code} (h : ∀ K : St → YG → Prop, (∀ σ' g', codeY Y n y σ' g' Q → K σ' g') → codeY Y n x σ g (ThenY K Q)) : codeY Y n (.seq x y) σ g Q := by
  intro C hC a w hS N
  refine wpIn_seq (wpIn_mono (h (fun σ' g' => codeY Y n y σ' g' Q) (fun _ _ h => h) C hC a w hS N) ?_)
  rintro e a' w' ⟨σ', g', h1, h2⟩
  cases e <;> first
    | exact h1 C hC a' w' h2 N
    | exact ⟨σ', g', h1, h2⟩

def InBlockY (id : Nat) (Q : Exit → St → YG → Prop) : Exit → St → YG → Prop
  | .exit id', σ, g => if id' = id then Q .normal σ g else Q (.exit id') σ g
  | e, σ, g => Q e σ g

theorem codeY_block {id : Nat} {c : Code} (h : codeY Y n c σ g (InBlockY id Q)) : codeY Y n (.block id c) σ g Q := by
  intro C hC a w hS N
  refine wpIn_block (wpIn_mono (h C hC a w hS N) ?_)
  rintro e _ _ ⟨σ', g', h1, h2⟩
  cases e <;> try exact ⟨σ', g', h1, h2⟩
  rename_i id'
  simp only [Exit.inBlock, InBlockY] at h1 ⊢
  split at h1
  · rename_i he; subst he; rw [if_pos rfl]; exact ⟨σ', g', h1, h2⟩
  · rename_i he; rw [if_neg he]; exact ⟨σ', g', h1, h2⟩

theorem codeY_cond {c : Operand} {x y : Code} {b : Bool} (hc : σ.ev c = some (.val (.bool b))) (ht : b = true → codeY Y n x σ g Q) (hf : b = false → codeY Y n y σ g Q) : codeY Y n (.cond c x y) σ g Q := by
  intro C hC a w hS N
  obtain ⟨G, O, _, hE, _⟩ := hS.gh
  have he : a.eval c = .bool b := by simpa [Ok, Rep] using hE.ev hc
  exact wpIn_cond_split he (fun h => ht h C hC a w hS N) (fun h => hf h C hC a w hS N)

theorem codeY_skip (h : Q .normal σ g) : codeY Y n .skip σ g Q := fun C _ a w hS _ => wpIn_skip ⟨σ, g, h, hS⟩
theorem codeY_exit {id : Nat} (h : Q (.exit id) σ g) : codeY Y n (.exit id) σ g Q := fun C _ a w hS _ => wpIn_exit ⟨σ, g, h, hS⟩
theorem codeY_ret (h : Q .ret σ g) : codeY Y n .ret σ g Q := fun C _ a w hS _ => wpIn_ret ⟨σ, g, h, hS⟩

theorem SimY.imp {σ' : St} {C : Ctx} (hC : YC Y C) {a : Act} {w : World} (h : SimY Y n C σ g a w) (hnb : σ.noB = true) (hi : Imp n σ σ') : SimY Y n C σ' g a w := by
  obtain ⟨Cr, O, h1, h2, h3, h4, h5, h6, h7, h8, h9, h10, hOl, hJ, hSr⟩ := yctx hC h hnb
  exact yback hC h.fp h.below h1 h4 h5 h6 h7 h8 h9 h10 hOl hJ (Ctx.ext.refl Cr) (hi Cr a w hSr) h2

theorem codeY_imp {σ' : St} {c : Code} (hnb : σ.noB = true) (hi : Imp n σ σ') (h : codeY Y n c σ' g Q) : codeY Y n c σ g Q := fun C hC a w hS N => h C hC a w (hS.imp hC hnb hi) N

/-- A loop whose rounds call yield. -/
theorem codeY_loop {X : Type} {c : Code} (mk : X → St) (gk : X → YG) (I : X → Prop) (μ : X → Nat) (x₀ : X) (hnb : σ.noB = true) (h₀ : Imp n σ (mk x₀)) (hg : g = gk x₀) (hI : I x₀)
    (round : ∀ x, I x → codeY Y n c (mk x) (gk x) (ThenY (fun σ' g' => ∃ x', σ'.noB = true ∧ Imp n σ' (mk x') ∧ g' = gk x' ∧ I x' ∧ μ x' < μ x) Q)) : codeY Y n (.loop c) σ g Q := by
  intro C hC
  have key : ∀ (m : Nat) x, μ x = m → I x → ∀ a w, SimY Y n C (mk x) (gk x) a w → ∀ N (b : Frame) (k : List Item) (cs : List Frame), b.roundOf = (RF none).round → (RF none).fn b.fn → (RF none).room (cs.length + 1 + N) →
      ∃ e a' w', (∃ σ' g', Q e σ' g' ∧ SimY Y n C σ' g' a' w') ∧ ArrivesIn (Machine.fenced P (RF none)) P (lone (b.atR a (.code c :: .inLoop c :: k)) cs w) b k cs e a' w' := by
    intro m
    induction m using Nat.strongRecOn with
    | _ m ih =>
      intro x hm hx a w hS N b k cs hro hb hr
      obtain ⟨e, a₁, w₁, ⟨σ₁, g₁, hq, hS₁⟩, harr⟩ := round x hx C hC a w hS N b (.inLoop c :: k) cs hro hb hr
      cases e with
      | normal =>
        obtain ⟨x', hnb', hge, rfl, hx', hlt⟩ := hq
        obtain ⟨e₂, a₂, w₂, hq₂, harr₂⟩ := ih (μ x') (hm ▸ hlt) x' rfl hx' a₁ w₁ (hS₁.imp hC hnb' hge) N b k cs hro hb hr
        exact ⟨e₂, a₂, w₂, hq₂, .of_steps (StepsIn.trans harr (.one (fenced_calm hb hr rfl) stepR_inLoop)) harr₂⟩
      | exit id => exact ⟨_, a₁, w₁, ⟨σ₁, g₁, hq, hS₁⟩, .pass (x := .inLoop c) rfl (fun _ _ => .inl (by simp)) harr⟩
      | goto l => exact ⟨_, a₁, w₁, ⟨σ₁, g₁, hq, hS₁⟩, .pass (x := .inLoop c) rfl (fun _ _ => .inl (by simp)) harr⟩
      | ret => exact ⟨_, a₁, w₁, ⟨σ₁, g₁, hq, hS₁⟩, .pass (x := .inLoop c) rfl (fun _ _ => .inl (by simp)) harr⟩
      | panic ch => exact ⟨_, a₁, w₁, ⟨σ₁, g₁, hq, hS₁⟩, .pass (x := .inLoop c) rfl (fun _ _ => .inl (by simp)) harr⟩
      | outgrown => exact ⟨_, a₁, w₁, ⟨σ₁, g₁, hq, hS₁⟩, .pass (x := .inLoop c) rfl (fun _ _ => .inl (by simp)) harr⟩
  intro a w hS N b k cs hro hb hr
  subst hg
  obtain ⟨e, a', w', hq, harr⟩ := key _ x₀ rfl hI a w (hS.imp hC hnb h₀) N b k cs hro hb hr
  exact ⟨e, a', w', hq, .of_steps (.one (fenced_calm hb hr rfl) stepR_loop) harr⟩

/-! Regions in which yield is called. -/

def listY (Y : YS P) (n : Nat) (ops : Array Oper) (l : List Oper) (σ : St) (g : YG) (K : St → YG → Prop) : Prop :=
  ∀ C, YC Y C → ∀ a w, SimY Y n C σ g a w → ∀ N (Q : Exit → Act → World → Prop), (∀ σ' g' a' w', K σ' g' → SimY Y n C σ' g' a' w' → Q .normal a' w') → wpListIn (RF none) N P ops Q l a w

theorem codeY_region {id : Nat} {lo : List Oper} (h : listY Y n lo.toArray lo σ g (Q .normal)) : codeY Y n (.region id lo.toArray false) σ g Q :=
  fun C hC a w hS N => wpIn_region_lit (h C hC a w hS N _ fun σ' g' a' w' hk hS' => ⟨σ', g', hk, hS'⟩)

variable {ops : Array Oper} {l : List Oper} {K : St → YG → Prop}

theorem listY_nil (h : K σ g) : listY Y n ops [] σ g K := fun C hC a w hS N Q hQ => hQ σ g a w h hS

theorem listY_op {o : Oper} (hg : o.guard = none) (hnb : σ.noB = true) (h : opT P n o σ fun σ' => listY Y n ops l σ' g K) : listY Y n ops (o :: l) σ g K := by
  intro C hC a w hS N Q hQ
  obtain ⟨Cr, O, h1, h2, h3, h4, h5, h6, h7, h8, h9, h10, hOl, hJ, hSr⟩ := yctx hC hS hnb
  unfold wpListIn
  rw [if_pos (by simp [Region.wanted, hg])]
  have hw := h Cr a w hSr (fun a' w' => ∃ σ', listY Y n ops l σ' g K ∧ Sim n Cr σ' a' w') (fun _ _ _ => False) fun σ' a' w' hk hS' => ⟨σ', hk, hS'⟩
  refine oper_in (Q := Q) (m := 0) (fun _ _ _ h => h.elim) (by rw [hS.dfs]; rfl) (fun a' w' ⟨σ', _, hS'⟩ => by rw [hS'.dfs]; simp [Ctx.marks, h2]) ?_ hw
  rintro v w' ⟨σ', hk, hS'⟩
  exact hk C hC _ w' (yback hC hS.fp hS.below h1 h4 h5 h6 h7 h8 h9 h10 hOl hJ (Ctx.ext.refl Cr) hS' h2) N Q hQ

theorem yielded_of {C : Ctx} {a : Act} {w : World} {G : Gh} (hsz : a.tmps.size = n) (hE : Env C σ a w G) {j dj : Nat} {b : Bool} (hj : (ops[j]?).bind (·.dst) = some dj) (hdj : σ.at dj = some (.val (.bool b))) (hn : dj < n) : yielded ops a.tmps j = some b := by
  have := hE dj _ hdj
  simp only [Ok, Rep] at this
  unfold yielded
  rw [hj]
  have hlt : dj < a.tmps.size := by rw [hsz]; exact hn
  simp only [Array.getD_eq_getD_getElem?, Array.getElem?_eq_getElem hlt, Option.getD_some] at this
  simp [Array.getElem?_eq_getElem hlt, this]

/-- A condition's value becomes known. -/
theorem listY_split {dj : Nat} {p : Prop} [Decidable p] (hdj : σ.at dj = some (.val (.bool (decide p)))) (ht : p → listY Y n ops l ((dj, .val (.bool true)) :: σ) g K) (hf : ¬ p → listY Y n ops l ((dj, .val (.bool false)) :: σ) g K) : listY Y n ops l σ g K := by
  intro C hC a w hS N Q hQ
  have put : ∀ b, σ.at dj = some (.val (.bool b)) → SimY Y n C ((dj, .val (.bool b)) :: σ) g a w := by
    intro b hb
    obtain ⟨hfp, hst, hdf, hsz, G, O, hG, hE, hO, hOl, hJ⟩ := hS
    refine ⟨hfp, hst, hdf, hsz, G, O, hG, fun s z hz => ?_, hO, hOl, hJ⟩
    simp only [St.at] at hz
    split at hz
    · rename_i he; subst he
      cases hz
      exact hE _ _ hb
    · exact hE s z hz
  by_cases h : p
  · rw [decide_eq_true h] at hdj
    exact ht h C hC a w (put true hdj) N Q hQ
  · rw [decide_eq_false h] at hdj
    exact hf h C hC a w (put false hdj) N Q hQ

/-- An operation whose guard doesn't hold is passed over. -/
theorem listY_guard_n {o : Oper} {d j dj : Nat} {want : Bool} (hg : o.guard = some (j, want)) (hd : o.dst = some d) (hj : (ops[j]?).bind (·.dst) = some dj) (hdj : σ.at dj = some (.val (.bool (!want)))) (hn : dj < n) (hdn : d < n)
    (h1 : listY Y n ops l ((d, .tup []) :: σ) g K) : listY Y n ops (o :: l) σ g K := by
  intro C hC a w hS N Q hQ
  obtain ⟨hfp, hst, hdf, hsz, G, O, hG, hE, hO, hOl, hJ⟩ := hS
  have hw : Region.wanted o (yielded ops a.tmps) = false := by
    simp only [Region.wanted, hg, yielded_of hsz hE hj hdj hn]
    cases want <;> rfl
  unfold wpListIn
  rw [hw, if_neg (by simp), hd]
  refine ⟨fun _ _ => trivial, h1 C hC _ w ⟨hfp, hst, by rw [put_defers]; exact hdf, by simpa [Act.put] using hsz, G, O, hG, fun s z hz => ?_, hO, hOl, hJ⟩ N Q hQ⟩
  have hsz2 : d < a.tmps.size := by rw [hsz]; exact hdn
  simp only [St.at] at hz
  split at hz
  · rename_i he; subst he
    cases hz
    simp [Act.put, Array.getD_eq_getD_getElem?, hsz2, Ok, OkL, undef]
  · rename_i hne
    have := hE s z hz
    simp only [Act.put, Array.getD_eq_getD_getElem?] at this ⊢
    rw [Array.getElem?_setIfInBounds_ne hne]
    exact this

/-- An operation whose guard holds. -/
theorem listY_guard_y {o : Oper} {j dj : Nat} {want : Bool} (hg : o.guard = some (j, want)) (hj : (ops[j]?).bind (·.dst) = some dj) (hdj : σ.at dj = some (.val (.bool want))) (hn : dj < n) (hnb : σ.noB = true) (h : opT P n o σ fun σ' => listY Y n ops l σ' g K) : listY Y n ops (o :: l) σ g K := by
  intro C hC a w hS N Q hQ
  obtain ⟨Cr, O, h1, h2, h3, h4, h5, h6, h7, h8, h9, h10, hOl, hJ, hSr⟩ := yctx hC hS hnb
  have hw0 : Region.wanted o (yielded ops a.tmps) = true := by
    obtain ⟨G, hG, hE⟩ := hSr.gh
    simp only [Region.wanted, hg, yielded_of hSr.size hE hj hdj hn]
    cases want <;> rfl
  unfold wpListIn
  rw [if_pos hw0]
  have hw := h Cr a w hSr (fun a' w' => ∃ σ', listY Y n ops l σ' g K ∧ Sim n Cr σ' a' w') (fun _ _ _ => False) fun σ' a' w' hk hS' => ⟨σ', hk, hS'⟩
  refine oper_in (Q := Q) (m := 0) (fun _ _ _ h => h.elim) (by rw [hS.dfs]; rfl) (fun a' w' ⟨σ', _, hS'⟩ => by rw [hS'.dfs]; simp [Ctx.marks, h2]) ?_ hw
  rintro v w' ⟨σ', hk, hS'⟩
  exact hk C hC _ w' (yback hC hS.fp hS.below h1 h4 h5 h6 h7 h8 h9 h10 hOl hJ (Ctx.ext.refl Cr) hS' h2) N Q hQ

/-- A call of yield, under a guard or not. -/
theorem listY_yieldG {d : Nat} {ty : TypeId} {pos : String} {af : Array Edge} {gd : Option (Nat × Bool)} {f : Operand} {xs : List Operand} {ts : Array TypeId} {ss : List SV} {k : Nat} (hf : σ.ev f = some (.yld Y.l)) (hxs : σ.evs xs = some ss) (hps : pvs ss = some (Y.e k)) (hfl : PV.flatL (Y.e k) = true) (hk : k < Y.N) (hg : g = (false, k)) (hd : d < n)
    (hgd : gd = none ∨ ∃ j dj want, gd = some (j, want) ∧ (ops[j]?).bind (·.dst) = some dj ∧ σ.at dj = some (.val (.bool want)) ∧ dj < n) (hT : listY Y n ops l ((d, .val (.bool true)) :: σ) (false, k + 1) K) (hF : listY Y n ops l ((d, .val (.bool false)) :: σ) (true, k + 1) K) :
    listY Y n ops (⟨some d, .call { callee := .value f, args := xs.toArray, argTypes := ts }, ty, pos, af, gd⟩ :: l) σ g K := by
  subst hg
  intro C hC a w hS N Q hQ
  obtain ⟨hfp, hst, hdf, hsz, G, O, hG, hE, hO, hOl, hJ⟩ := hS
  unfold wpListIn
  have hwt : Region.wanted ⟨some d, .call { callee := .value f, args := xs.toArray, argTypes := ts }, ty, pos, af, gd⟩ (yielded ops a.tmps) = true := by
    rcases hgd with rfl | ⟨j, dj, want, rfl, hj, hdj, hn⟩
    · simp [Region.wanted]
    · simp only [Region.wanted, yielded_of hsz hE hj hdj hn]
      cases want <;> rfl
  rw [if_pos hwt]
  have hfv : a.eval f = .func (.yield Y.l) #[] #[] := hE.ev hf
  have hargs : xs.map a.eval = PV.toVs (Y.e k) := by
    have hr := evs_ok (Fp := fun i => match ss[i]? with | some s => foot C G s | none => fun _ => False) hE hxs hps 0 (fun j s hj => by simp [hj])
    exact repArgs_toVs (Y.e k) _ hfl hr
  have hJ' : Y.J k O w := hJ
  obtain ⟨fn, tmps, assign, body, hy, hR⟩ := Y.yl k hk O w hJ' (N - 1)
  refine ⟨fun _ _ => trivial, ?_⟩
  rw [Oper.semAt_eq _ _ _ (fun c => by simp)]
  have hrun : (execOp a.eval ⟨some d, .call { callee := .value f, args := xs.toArray, argTypes := ts }, ty, pos, af, gd⟩).run P w = .ok (.round Y.l fn tmps assign body) w := by
    simp [execOp, resolve, hfv, Deferred.ofValue, invoke, hargs]
    simpa using hy
  rw [hrun, Oper.uponIn_round]
  refine ⟨fun h => by simp [RF] at h, RoundIn.mono (hR : RoundIn (RF none) (N - 1) P Y.l fn tmps assign body w _) ?_⟩
  rintro x W' ⟨hs, hx⟩
  have hkp : ∀ b q, G.g b = some q → W'.heap[b]? = w.heap[b]? := fun b q hb => hs.block b (.inl (hO b q hb))
  have hstC : Stays C.old w W' := hs.mono fun b hb => .inr (hC.old b hb)
  have hE2 : Env C σ a W' G := fun s z hz => Ok.keep hfp hstC z _ (fun q _ => ⟨rfl, fun _ h => h, fun b hb => hkp b q hb⟩) (hE s z hz)
  have hG2 : G.fits C W' := ⟨fun b q hb => ⟨(hG.1 b q hb).1, Nat.lt_of_lt_of_le (hG.1 b q hb).2 hs.size⟩, hG.2⟩
  have put : ∀ (v : Bool) (g' : YG), Y.JJ g' O W' → SimY Y n C ((d, .val (.bool v)) :: σ) g' (a.put (some d) (.bool v)) W' := by
    intro v g' hj
    have hS1 : Sim n { C with D := [], dn := List.nodup_nil, dok := (fun b hb => absurd hb (by simp)) } σ { a with defers := [] } W' :=
      ⟨hfp, hst.trans hstC, rfl, hsz, G, hG2, fun s z hz => Ok.keepC (C := C) (C' := { C with D := [], dn := List.nodup_nil, dok := (fun b hb => absurd hb (by simp)) }) (w := W') (w' := W') (G := G) (G' := G) rfl rfl (fun _ _ _ => rfl) (fun _ _ => rfl) z _ (.inl (Nat.le_refl _)) (fun _ _ => ⟨rfl, fun _ h => h, fun _ _ => rfl⟩) (hE2 s z hz)⟩
    have hsz2 : d < a.tmps.size := by rw [hsz]; exact hd
    refine ⟨hfp, hst.trans hstC, by rw [put_defers]; exact hdf, by simpa [Act.put] using hsz, G, O, hG2, fun s z hz => ?_, hO, fun b hb => Nat.lt_of_lt_of_le (hOl b hb) hs.size, hj⟩
    simp only [St.at] at hz
    split at hz
    · rename_i he; subst he
      cases hz
      simp [Act.put, Array.getD_eq_getD_getElem?, hsz2, Ok, Rep]
    · rename_i hne
      have := hE2 s z hz
      simp only [Act.put, Array.getD_eq_getD_getElem?] at this ⊢
      rw [Array.getElem?_setIfInBounds_ne hne]
      exact this
  rcases hx with ⟨rfl, hj⟩ | ⟨rfl, hj⟩
  · exact hT C hC _ W' (put true (false, k + 1) hj) N Q hQ
  · exact hF C hC _ W' (put false (true, k + 1) hj) N Q hQ
where
  repArgs_toVs {w : World} {Fp : Nat → Nat → Prop} : ∀ {i : Nat} (ps : List PV) (vs : List Value), PV.flatL ps = true → RepArgs w Fp i ps vs → vs = PV.toVs ps
    | _, [], vs, _, h => by simpa [RepArgs, PV.toVs] using h
    | i, p :: ps, vs, hf, h => by
      simp only [PV.flatL, Bool.and_eq_true] at hf
      obtain ⟨v, r, rfl, h1, h2⟩ := h
      rw [PV.toVs, Rep.toV p v hf.1 h1, repArgs_toVs ps r hf.2 h2]
/-- A call of yield. -/
theorem listY_yield {d : Nat} {ty : TypeId} {pos : String} {af : Array Edge} {f : Operand} {xs : List Operand} {ts : Array TypeId} {ss : List SV} {k : Nat} (hf : σ.ev f = some (.yld Y.l)) (hxs : σ.evs xs = some ss) (hps : pvs ss = some (Y.e k)) (hfl : PV.flatL (Y.e k) = true) (hk : k < Y.N) (hg : g = (false, k)) (hd : d < n)
    (hfr : σ.at d = none ∨ True) (hT : listY Y n ops l ((d, .val (.bool true)) :: σ) (false, k + 1) K) (hF : listY Y n ops l ((d, .val (.bool false)) :: σ) (true, k + 1) K) :
    listY Y n ops (⟨some d, .call { callee := .value f, args := xs.toArray, argTypes := ts }, ty, pos, af, none⟩ :: l) σ g K :=
  listY_yieldG hf hxs hps hfl hk hg hd (.inl rfl) hT hF

end

/-! Frames of the walk, as the generated scripts name them. -/
section
variable {P : Program} {Y : YS P} {n : Nat} {σ : St} {g : YG} {Q : Exit → St → YG → Prop} {K : St → YG → Prop}
theorem thy_n (h : K σ g) : ThenY K Q .normal σ g := h
theorem thy_x {i : Nat} (h : Q (.exit i) σ g) : ThenY K Q (.exit i) σ g := h
theorem thy_r (h : Q .ret σ g) : ThenY K Q .ret σ g := h
theorem bly_n {id : Nat} (h : Q .normal σ g) : InBlockY id Q .normal σ g := h
theorem bly_hit {id : Nat} (h : Q .normal σ g) : InBlockY id Q (.exit id) σ g := by
  show (if id = id then Q .normal σ g else Q (.exit id) σ g)
  rw [if_pos rfl]; exact h
theorem bly_miss {id i : Nat} (hne : i ≠ id) (h : Q (.exit i) σ g) : InBlockY id Q (.exit i) σ g := by
  show (if i = id then Q .normal σ g else Q (.exit i) σ g)
  rw [if_neg hne]; exact h
theorem bly_r {id : Nat} (h : Q .ret σ g) : InBlockY id Q .ret σ g := h
theorem codeY_cond_d {c : Operand} {a b : Code} {p : Prop} [Decidable p] (hc : σ.ev c = some (.val (.bool (decide p)))) (ht : p → codeY Y n a σ g Q) (hf : ¬ p → codeY Y n b σ g Q) : codeY Y n (.cond c a b) σ g Q :=
  codeY_cond hc (fun h => ht (of_decide_eq_true h)) (fun h => hf (of_decide_eq_false h))
theorem codeY_cond_t {c : Operand} {a b : Code} (hc : σ.ev c = some (.val (.bool true))) (ht : codeY Y n a σ g Q) : codeY Y n (.cond c a b) σ g Q := codeY_cond hc (fun _ => ht) (fun h => by cases h)
theorem codeY_cond_f {c : Operand} {a b : Code} (hc : σ.ev c = some (.val (.bool false))) (hf : codeY Y n b σ g Q) : codeY Y n (.cond c a b) σ g Q := codeY_cond hc (fun h => by cases h) (fun _ => hf)
end

section
variable {n : Nat} {S : List Nat} {Q : Exit → St → Prop} {I : St → Prop} {s τ : St}
theorem rp_n (h : I s) : RoundPost n S Q I .normal s := h
theorem rp_ret (τ : St) (h : Imp n s τ) (ho : okS S τ = true) (hq : Q .ret τ) : RoundPost n S Q I .ret s := ⟨τ, h, ho, hq⟩
theorem rp_exit {id : Nat} (τ : St) (h : Imp n s τ) (ho : okS S τ = true) (hq : Q (.exit id) τ) : RoundPost n S Q I (.exit id) s := ⟨τ, h, ho, hq⟩
end

/-- What an iterator's captured variables hold as it begins. -/
def capSt : Nat → List PV → St
  | _, [] => []
  | i, .ptr cs :: r => (i, .rpar i cs) :: capSt (i + 1) r
  | i, p :: r => (i, p.start false i) :: capSt (i + 1) r

theorem capSt_at {C : Ctx} {w : World} {G : Gh} {F : Nat → Prop} (hF : ∀ i b, F b → C.Fp i b) : ∀ {caps : List PV} {vs : List Value} {i s : Nat} {x : SV}, RepL w F caps vs → (capSt i caps).at s = some x → i ≤ s ∧ ∃ v, vs[s - i]? = some v ∧ Ok C w G x v
  | [], vs, i, s, x, _, h => by simp [capSt, St.at] at h
  | c :: caps, vs, i, s, x, hr, h => by
    obtain ⟨v, r, rfl, h1, h2, h3⟩ := hr
    have tail : (capSt (i + 1) caps).at s = some x → i ≤ s ∧ ∃ u, (v :: r)[s - i]? = some u ∧ Ok C w G x u := fun hx => by
      obtain ⟨k1, u, k2, k3⟩ := capSt_at hF h3 hx
      exact ⟨by omega, u, by rw [show s - i = (s - (i + 1)) + 1 by omega]; simpa using k2, k3⟩
    have plain : (if i = s then some (c.start false i) else (capSt (i + 1) caps).at s) = some x → i ≤ s ∧ ∃ u, (v :: r)[s - i]? = some u ∧ Ok C w G x u := fun hx => by
      split at hx
      · rename_i he
        subst he
        cases hx
        refine ⟨Nat.le_refl _, v, by simp, ?_⟩
        unfold PV.start
        split
        · rename_i hf; exact Rep.flat c v hf h2
        · exact Rep.mono (fun b hb => hF i b hb) (fun _ _ => rfl) c v h2
      · exact tail hx
    cases c with
    | ptr cs =>
      simp only [capSt, St.at] at h
      split at h
      · rename_i he
        subst he
        cases h
        obtain ⟨b, off, us, k1, k2, k3, k4⟩ := h2
        exact ⟨Nat.le_refl _, v, by simp, b, off, us, k1, k3, hF i b k2, RepL.mono (fun b hb => hF i b hb) (fun _ _ => rfl) cs us k4⟩
      · exact tail h
    | bool b => exact plain (by simpa only [capSt, St.at] using h)
    | int k n => exact plain (by simpa only [capSt, St.at] using h)
    | str b => exact plain (by simpa only [capSt, St.at] using h)
    | sl n cs => exact plain (by simpa only [capSt, St.at] using h)
    | agg cs => exact plain (by simpa only [capSt, St.at] using h)
    | clo f cs => exact plain (by simpa only [capSt, St.at] using h)
    | cst k => exact plain (by simpa only [capSt, St.at] using h)
    | ifc => exact plain (by simpa only [capSt, St.at] using h)
    | mth f cs => exact plain (by simpa only [capSt, St.at] using h)
    | mp cs => exact plain (by simpa only [capSt, St.at] using h)

/-- How an iterator may end: it has handed on all, or has been told to stop. -/
def EndY (N : Nat) (e : Exit) (_ : St) (g : YG) : Prop := (e = .normal ∨ e = .ret) ∧ ((g.1 = true ∧ g.2 ≤ N) ∨ g = (false, N))

/-- The contract of an iterator from its code. -/
theorem iter_of_code {P : Program} {f : FuncId} {fn : Func} {c : Code} {n : Nat} {caps : List PV} {N : Nat} {e : Nat → List PV} (hf : P.funcs[f]? = some fn) (hname : (fn.name == "runtime.NumGoroutine") = false) (hb : fn.body = some c) (hn : fn.ntmps = n) (hc : caps.length + 1 ≤ n) (hres : fn.results = #[])
    (h : ∀ Y : YS P, Y.N = N → Y.e = e → codeY Y n c ((0, .yld Y.l) :: capSt 1 caps) (false, 0) (EndY N)) : ITer P f caps N e := by
  refine ⟨enters_of hf hname hb, fun w F l cvs J Jx hcv hF hgl hab habx h0 hyl => ?_⟩
  let Y : YS P := ⟨l, N, e, J, Jx, F, hab, habx, hyl⟩
  let C : Ctx := { w0 := w, X := fun b => b < w.heap.size ∧ ¬ F b, X0 := fun _ => False, Fp := fun _ => F, ex := F, pin := 0, D := [], ro := none, gl := hgl, xlt := fun _ h => h.1, x0 := fun _ h => h.elim, dn := List.nodup_nil, dok := (fun b hb => absurd hb (by simp)), rok := (fun q hq => absurd hq (by simp)) }
  have hold : ∀ b, C.old b ↔ F b := fun b => by
    show (b < w.heap.size ∧ ¬ (b < w.heap.size ∧ ¬ F b)) ↔ F b
    constructor
    · rintro ⟨h1, h2⟩; exact Classical.byContradiction fun hn => h2 ⟨h1, hn⟩
    · intro h1; exact ⟨hF b h1, fun h2 => h2.2 h1⟩
  have hlen := hcv.length
  let args := Value.func (.yield l) #[] #[] :: cvs
  have hget : ∀ s v, args[s]? = some v → (args.toArray ++ Array.replicate (fn.ntmps - args.toArray.size) undef).getD s undef = v := by
    intro s v hv
    have hlt : s < args.length := (List.getElem?_eq_some_iff.1 hv).1
    simp only [Array.getD_eq_getD_getElem?]
    rw [Array.getElem?_append_left (by simpa using hlt)]
    simp [hv]
  have hS : SimY Y n C ((0, .yld l) :: capSt 1 caps) (false, 0) { tmps := args.toArray ++ Array.replicate (fn.ntmps - args.toArray.size) undef, defers := [] } w := by
    refine ⟨⟨fun _ b hb => (hold b).2 hb, fun b hb => (hold b).2 hb⟩, Stays.refl _ _, rfl, by simp [args, hn]; omega, ⟨fun _ => none, fun _ => 0⟩, fun _ => False, ⟨(fun b q hb => absurd hb (by simp)), rfl, fun b hb => hb.elim⟩, fun s x hx => ?_, (fun b q hb => absurd hb (by simp)), fun b hb => hb.elim, h0⟩
    simp only [St.at] at hx
    split at hx
    · rename_i he
      subst he
      cases hx
      exact hget 0 _ rfl
    · obtain ⟨h1, v, h2, h3⟩ := capSt_at (C := C) (G := ⟨fun _ => none, fun _ => 0⟩) (fun _ _ h => h) hcv hx
      rw [hget s v (by show (_ :: cvs)[s]? = some v; rw [show s = (s - 1) + 1 by omega]; simpa using h2)]
      exact h3
  refine (callsIn_wide (n := 0)).1 (callsIn_of_wp hf hb trivial ?_)
  refine wpIn_mono (h Y rfl rfl C ⟨fun b hb => (hold b).1 hb, rfl, rfl, fun _ h => h⟩ _ w hS 0) ?_
  rintro x a' w' ⟨σ', g', ⟨hx, hg⟩, hS'⟩
  have fin : a'.defers = [] ∧ ∃ v, (results fn a'.tmps).run P w' = .ok v w' ∧ ((∃ u, Ending.returned v = .returned u) ∧ ((∃ O, J N O w') ∨ ∃ k O, k ≤ N ∧ Jx k O w')) := by
    refine ⟨hS'.dfs, _, results_none hres _ _ _, ⟨_, rfl⟩, ?_⟩
    obtain ⟨_, O, _, _, _, _, hJ⟩ := hS'.gh
    rcases hg with ⟨hg1, hg2⟩ | hg
    · refine .inr ⟨g'.2, O, hg2, ?_⟩
      have : Y.JJ g' O w' := hJ
      unfold YS.JJ at this
      rwa [if_pos hg1] at this
    · subst hg
      exact .inl ⟨O, hJ⟩
  rcases hx with rfl | rfl
  · exact fin
  · exact fin

end Go.Proofs.YtfagllolcalfiaaDoor
