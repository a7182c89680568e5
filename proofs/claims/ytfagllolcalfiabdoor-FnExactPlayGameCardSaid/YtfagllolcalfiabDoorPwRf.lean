/- Ranges over functions in the pure state: the contract of an iterator; the statement; functions' values with what they have captured; variables of one cell. Own work; no conditions; nothing here is about one program. -/
import Derived.Test.YtfagllolcalfiabDoorPwY
import Derived.RangeFuncIn
import Derived.RangeFuncRecord
import Derived.RangeFuncSeq
import Derived.RangeFuncNested
namespace Go.Proofs.YtfagllolcalfiabDoor
open Go.RowKit
set_option linter.unusedVariables false
section
variable {P : Program} {n : Nat} {σ : St} {K : St → Prop} {d : Nat} {ty : TypeId} {pos : String} {af : Array Edge} {gd : Option (Nat × Bool)}
end
/-! ### Ranges over functions -/
def ItAb (J : Nat → (Nat → Prop) → World → Prop) : Prop :=
  ∀ k O O' W W', J k O W → (∀ b, O b → O' b) → (∀ b, O' b → O b ∨ (W.heap.size ≤ b ∧ b < W'.heap.size)) → Stays (fun b => b < W.heap.size ∧ ¬ O b) W W' → J k O' W'
structure ITer (P : Program) (g : FuncId) (caps : List PV) (N : Nat) (e : Nat → List PV) : Prop where
  ent : Enters P g
  run : ∀ (w : World) (F : Nat → Prop) (l : Nat) (cvs : List Value) (J Jx : Nat → (Nat → Prop) → World → Prop), RepL w F caps cvs → (∀ b, F b → b < w.heap.size) → GlP w F → ItAb J → ItAb Jx → J 0 (fun _ => False) w →
    (∀ k, k < N → ∀ O W, J k O W → ∀ m, YieldAt Fence.wide m P l (PV.toVs (e k)).toArray W fun x W' =>
      Stays (fun b => O b ∨ F b) W W' ∧ ((x = .returned (.bool true) ∧ J (k + 1) O W') ∨ (x = .returned (.bool false) ∧ Jx (k + 1) O W'))) →
    Calls P g (.func (.yield l) #[] #[] :: cvs).toArray w fun x W' => (∃ v, x = .returned v) ∧ ((∃ O, J N O W') ∨ ∃ k O, k ≤ N ∧ Jx k O W')
def St.noB (σ : St) : Bool := σ.all fun e => e.2.noB
theorem noB_at {σ : St} (h : σ.noB = true) {s : Nat} {x : SV} (hx : σ.at s = some x) : x.noB = true := by
  induction σ with
  | nil => simp [St.at] at hx
  | cons e r ih =>
    simp only [St.noB, List.all_cons, Bool.and_eq_true] at h
    simp only [St.at] at hx
    split at hx
    · cases hx; exact h.1
    · exact ih h.2 hx
def rctx (C : Ctx) (G : Gh) (w : World) (D : List Nat) (ro : Option Nat) (hgl : GlP w C.ex) (hx : ∀ b, C.X0 b → b < w.heap.size ∧ (G.g b).isSome = true) (hd : D.Nodup) (hdk : ∀ b ∈ D, w.heap[b]? = some (.deferred (some [])) ∧ G.g b = none)
    (hro : ∀ l, ro = some l → (∃ r, w.heap[l]? = some (.loop r)) ∧ G.g l = none) : Ctx :=
  { w0 := w, X := fun b => b < w.heap.size ∧ (G.g b).isSome = true, X0 := C.X0, Fp := C.Fp, ex := C.ex, pin := C.pin, D := D, ro := ro, gl := hgl, xlt := fun _ h => h.1, x0 := hx, dn := hd,
    dok := fun b hb => ⟨(hdk b hb).1, fun h => by rw [(hdk b hb).2] at h; simp at h⟩, rok := fun l hl => ⟨(hro l hl).1, fun h => by rw [(hro l hl).2] at h; simp at h⟩ }
theorem rctx_old {C : Ctx} {G : Gh} {w : World} {D : List Nat} {ro : Option Nat} {hgl hx hd hdk hro} (b : Nat) : (rctx C G w D ro hgl hx hd hdk hro).old b ↔ b < w.heap.size ∧ G.g b = none := by
  show (b < w.heap.size ∧ ¬ (b < w.heap.size ∧ (G.g b).isSome = true)) ↔ _
  constructor
  · rintro ⟨h1, h2⟩
    refine ⟨h1, ?_⟩
    cases hg : G.g b with
    | none => rfl
    | some m => exact absurd ⟨h1, by rw [hg]; rfl⟩ h2
  · rintro ⟨h1, h2⟩
    exact ⟨h1, fun h => by rw [h2] at h; simp at h⟩
theorem rebase {n : Nat} {C : Ctx} {σ : St} {a a' : Act} {w w' : World} {G : Gh} (hfp : (∀ i b, C.Fp i b → C.old b) ∧ ∀ b, C.ex b → C.old b) (hB : C.B ≤ w.heap.size) (hG : G.fits C w) (hE : Env C σ a w G) (hnb : σ.noB = true) (hsz : a'.tmps.size = n)
    (ht : ∀ s x, σ.at s = some x → a'.tmps.getD s undef = a.tmps.getD s undef) (hle : w.heap.size ≤ w'.heap.size) (hlab : ∀ b m, G.g b = some m → w'.heap[b]? = w.heap[b]?) (hold : ∀ b, ((∃ i, C.Fp i b) ∨ C.ex b) → w'.heap[b]? = w.heap[b]?)
    {D : List Nat} {ro : Option Nat} {hgl hx hd hdk hro} (hdf : a'.defers = D.map fun b => { target := .collected b, args := #[] }) : Sim n (rctx C G w' D ro hgl hx hd hdk hro) σ a' w' := by
  have hun : ∀ b, C.old b → G.g b = none := fun b hb => by
    cases hg : G.g b with
    | none => rfl
    | some m => exact absurd hb (hG.1 b m hg).1
  have hro' : ∀ b, C.old b → (rctx C G w' D ro hgl hx hd hdk hro).old b := fun b hb => (rctx_old b).2 ⟨Nat.lt_of_lt_of_le hb.1 (Nat.le_trans hB hle), hun b hb⟩
  refine ⟨⟨fun i b hb => hro' b (hfp.1 i b hb), fun b hb => hro' b (hfp.2 b hb)⟩, Stays.refl _ _, hdf, hsz, G, ⟨fun b m hb => ⟨fun ho => ?_, Nat.lt_of_lt_of_le (hG.1 b m hb).2 hle⟩, hG.2⟩, fun s x hx' => ?_⟩
  · have := ((rctx_old b).1 ho).2; rw [hb] at this; cases this
  · rw [ht s x hx']
    exact Ok.keepC (C := C) (C' := rctx C G w' D ro hgl hx hd hdk hro) (w := w) rfl rfl (fun i b hb => hold b (.inl ⟨i, hb⟩)) (fun b hb => hold b (.inr hb)) x _ (.inr (noB_at hnb hx')) (fun m _ => ⟨rfl, fun _ h => h, fun b hb => hlab b m hb⟩) (hE s x hx')
structure RInv (C : Ctx) (σ : St) (a : Act) (w : World) (F : Nat → Prop) (l : Nat) (M : List Nat) (ob : Obj) (O : Nat → Prop) (W : World) : Prop where
  st : Stays C.old w W
  gh : ∃ G : Gh, G.fits C W ∧ Env C σ a W G ∧ (∀ b, O b → G.g b = none) ∧ (∀ b, F b → G.g b = none) ∧ G.g l = none ∧ ∀ b ∈ M, G.g b = none
  o : ∀ b, O b → w.heap.size ≤ b ∧ b ≠ l ∧ b ∉ M
  olt : ∀ b, O b → b < W.heap.size
  rcd : W.heap[l]? = some ob
  md : ∀ b ∈ M, W.heap[b]? = some (.deferred (some []))
theorem RInv.ab {C : Ctx} {σ : St} {a : Act} {w : World} {F : Nat → Prop} {l : Nat} {M : List Nat} {ob : Obj} {O O' : Nat → Prop} {W W' : World} (hfp : (∀ i b, C.Fp i b → C.old b) ∧ ∀ b, C.ex b → C.old b) (hB : C.B ≤ w.heap.size) (hF : ∀ b, F b → b < w.heap.size)
    (h : RInv C σ a w F l M ob O W) (h2 : ∀ b, O' b → O b ∨ (W.heap.size ≤ b ∧ b < W'.heap.size)) (hs : Stays (fun b => b < W.heap.size ∧ ¬ O b) W W') : RInv C σ a w F l M ob O' W' := by
  obtain ⟨hst, ⟨G, hG, hE, g1, g2, g3, g4⟩, ho, hol, hr, hm⟩ := h
  have hlt : l < W.heap.size := (Array.getElem?_eq_some_iff.1 hr).1
  have hkeep : ∀ b, C.old b → b < W.heap.size ∧ ¬ O b := fun b hb => ⟨Nat.lt_of_lt_of_le hb.1 (Nat.le_trans hB hst.size), fun hO => by have := (ho b hO).1; have := hb.1; omega⟩
  have hst' : Stays C.old W W' := hs.mono hkeep
  have hlab : ∀ b m, G.g b = some m → W'.heap[b]? = W.heap[b]? := fun b m hb => hs.block b ⟨(hG.1 b m hb).2, fun hO => by rw [g1 b hO] at hb; cases hb⟩
  refine ⟨hst.trans hst', ⟨G, ⟨fun b m hb => ⟨(hG.1 b m hb).1, Nat.lt_of_lt_of_le (hG.1 b m hb).2 hs.size⟩, hG.2⟩, fun s x hx => Ok.keep hfp hst' x _ (fun m _ => ⟨rfl, fun _ h => h, fun b hb => hlab b m hb⟩) (hE s x hx), fun b hb => ?_, g2, g3, g4⟩, fun b hb => ?_, fun b hb => ?_, ?_, fun b hb => ?_⟩
  · rcases h2 b hb with h | h
    · exact g1 b h
    · cases hg : G.g b with
      | none => rfl
      | some m => have := (hG.1 b m hg).2; omega
  · rcases h2 b hb with h | h
    · exact ho b h
    · refine ⟨Nat.le_trans hst.size h.1, by omega, fun hM => ?_⟩
      have := (Array.getElem?_eq_some_iff.1 (hm b hM)).1; omega
  · rcases h2 b hb with h | h
    · exact Nat.lt_of_lt_of_le (hol b h) hs.size
    · exact h.2
  · rw [hs.block l ⟨hlt, fun hO => (ho l hO).2.1 rfl⟩]; exact hr
  · rw [hs.block b ⟨(Array.getElem?_eq_some_iff.1 (hm b hb)).1, fun hO => (ho b hO).2.2 hb⟩]; exact hm b hb
theorem glP_keep {C : Ctx} {w : World} (h : ∀ b, C.ex b → w.heap[b]? = C.w0.heap[b]?) : GlP w C.ex := C.gl.mono h fun _ hb => hb
end Go.Proofs.YtfagllolcalfiabDoor
