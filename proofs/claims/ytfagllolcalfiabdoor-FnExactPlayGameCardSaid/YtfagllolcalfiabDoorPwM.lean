/- From a contract of the kit's form to one of this layer's: for a function whose results reach no memory, and for one that returns a new slice ahead of them. Own work; no conditions; nothing here is about one program. -/
import Derived.Test.YtfagllolcalfiabDoorPwL
namespace Go.Proofs.YtfagllolcalfiabDoor
open Go.RowKit
theorem below_stays {C : Ctx} {w' : World} (h : Below C.w0.heap.size C.w0 w') : Stays C.old C.w0 w' :=
  ⟨h.os, h.tape, h.output, h.size, fun k hk => h.block k hk.1, fun k hk => by rw [h.block k hk]⟩
def RepVs (w : World) : List PV → List Value → Prop
  | [], us => us = []
  | p :: ps, us => ∃ u r, us = u :: r ∧ Rep w (fun _ => False) p u ∧ RepVs w ps r
theorem RepVs.okl {C : Ctx} {G : Gh} {w : World} : ∀ {ps : List PV} {us : List Value}, RepVs w ps us → OkL C w G (ps.map .val) us
  | [], us, h => by simpa [RepVs, OkL] using h
  | p :: ps, us, h => by
    obtain ⟨u, r, rfl, h1, h2⟩ := h
    exact ⟨u, r, rfl, by simpa [Ok] using h1, h2.okl⟩
theorem rets_flat : ∀ ps : List PV, (ps.map SV.val).all SV.ret = true
  | [] => rfl
  | p :: ps => by simp [SV.ret]
theorem RepArgs.mono {w : World} {F F' : Nat → Nat → Prop} (h : ∀ i b, F i b → F' i b) : ∀ {i : Nat} {ps : List PV} {vs : List Value}, RepArgs w F i ps vs → RepArgs w F' i ps vs
  | _, [], _, k => k
  | i, p :: _, _, ⟨v, r, hv, h1, h2⟩ => ⟨v, r, hv, Rep.mono (h i) (fun _ _ => rfl) p v h1, RepArgs.mono h h2⟩
theorem pcalls_flat {P : Program} {f : FuncId} {ps : List PV} {R : List SV → Prop} (he : Enters P f)
    (h : ∀ (w : World) (vs : List Value), RepArgs w (fun _ b => b < w.heap.size) 0 ps vs → Calls P f vs.toArray w fun e w' => ∃ us rs, e = .returned (packV us) ∧ Below w.heap.size w w' ∧ RepVs w' rs us ∧ R (rs.map .val)) : PCalls P f ps R := by
  refine ⟨he, fun C G0 v0 vs _ hfp _ hG _ hargs => ?_⟩
  have ha : RepArgs C.w0 (fun _ b => b < C.w0.heap.size) 0 ps vs := RepArgs.mono (fun i b hb => (hfp.1 i b hb).1) hargs
  refine (h C.w0 vs ha).mono ?_
  rintro e w' ⟨us, rs, rfl, hb, hr, hR⟩
  refine ⟨packV us, rs.map .val, [], rfl, hR, below_stays hb, G0, us, ⟨fun b l hl => ⟨(hG.1 b l hl).1, Nat.lt_of_lt_of_le (hG.1 b l hl).2 hb.size⟩, hG.2.1, hG.2.2⟩, hr.okl, rfl, rets_flat rs, ?_, fun x hx => by cases hx⟩
  intro x hx j hxe
  obtain ⟨p, _, hp⟩ := List.mem_map.mp hx
  rw [← hp] at hxe; cases hxe
theorem pcalls_own {P : Program} {f : FuncId} {ps : List PV} {R : List SV → Prop} (he : Enters P f)
    (h : ∀ (w : World) (vs : List Value), RepArgs w (fun _ b => b < w.heap.size) 0 ps vs → Calls P f vs.toArray w fun e w' => ∃ v us rs ty size n cs row, e = .returned (packV (v :: us)) ∧ Below w.heap.size w w' ∧ RepVs w' rs us ∧
      w'.ownsRow w.heap.size ty size v n row ∧ RepL w' (fun _ => False) cs row ∧ R (.own 0 ty size n cs :: rs.map .val)) : PCalls P f ps R := by
  refine ⟨he, fun C G0 v0 vs _ hfp _ hG _ hargs => ?_⟩
  have ha : RepArgs C.w0 (fun _ b => b < C.w0.heap.size) 0 ps vs := RepArgs.mono (fun i b hb => (hfp.1 i b hb).1) hargs
  refine (h C.w0 vs ha).mono ?_
  rintro e w' ⟨v, us, rs, ty, size, n, cs, row, rfl, hb, hr, ho, hc, hR⟩
  let G' : Gh := ⟨fun b => if v.ownBlock = some b then some 0 else G0.g b, fun l => if l = 0 then v.ownBlock.getD 0 else G0.r l⟩
  have hlt : ∀ b, v.ownBlock = some b → C.w0.heap.size ≤ b ∧ b < w'.heap.size := fun b hv => ho.lt b hv
  refine ⟨packV (v :: us), .own 0 ty size n cs :: rs.map .val, [], rfl, hR, below_stays hb, G', v :: us, ⟨fun b l hl => ?_, ?_, fun b hx => ?_⟩, ⟨v, us, rfl, ?_, hr.okl⟩, rfl, ?_, ?_, fun x hx => by cases hx⟩
  · simp only [G'] at hl
    split at hl
    · rename_i hv
      obtain ⟨h1, h2⟩ := hlt b hv
      exact ⟨fun ho => by have := ho.1; simp only [Ctx.B] at this; omega, h2⟩
    · exact ⟨(hG.1 b l hl).1, Nat.lt_of_lt_of_le (hG.1 b l hl).2 hb.size⟩
  · simp only [G']; exact hG.2.1
  · simp only [G']
    have hx' := hG.2.2 b hx
    have := (hG.1 b _ hx').2
    split
    · rename_i hv; have := hlt b hv; omega
    · exact hx'
  · refine ⟨row, ownsRow_base ho (Nat.zero_le _), fun b hv => ?_, RepL.mono (fun _ h => h.elim) (fun _ h => h.elim) cs row hc⟩
    simp [G', hv]
  · simp [SV.ret]
  · intro x hx j hxe
    rcases List.mem_cons.mp hx with hx | hx
    · rw [hx] at hxe; cases hxe; decide
    · obtain ⟨p, _, hp⟩ := List.mem_map.mp hx
      rw [← hp] at hxe; cases hxe
theorem repArgs_nil {w : World} {F : Nat → Nat → Prop} {i : Nat} {vs : List Value} (h : RepArgs w F i [] vs) : vs = [] := by simpa [RepArgs] using h
theorem repArgs_cons {w : World} {F : Nat → Nat → Prop} {i : Nat} {p : PV} {ps : List PV} {vs : List Value} (h : RepArgs w F i (p :: ps) vs) : ∃ v r, vs = v :: r ∧ Rep w (F i) p v ∧ RepArgs w F (i + 1) ps r := h
end Go.Proofs.YtfagllolcalfiabDoor
