/- Every input of laws.FnExactLeastFarLetters that can be read as data: the call returns true and each argument reads afterwards as it did. No further conditions. -/
import Derived.Test.YtgpgjaebhfhjoabDoorRows
import Derived.Test.YtgpgjaebhfhjoabDoorl4
import Derived.LaidMore
import Derived.OpenVars
import Derived.Test.YtgpgjaebhfhjoabDoorTie
import Derived.Test.YtgpgjaebhfhjoabDoorCards
import Derived.SevenTiedAt
import Derived.Stop.Joined
import Derived.Test.YtgpgjaebhfhjoabDoorPwN
import Derived.WalkKit
import Derived.ProofKit
import Derived.OpenShut
import Derived.Below
namespace Go.Proofs.YtgpgjaebhfhjoabDoor.fnExactLeastFarLetters
open Go.ChangeShapes Go.WideShapes Go.ChangeAt Go.RowKit
set_option linter.unusedVariables false

theorem own : ownKnob Tryd.prog.godebug = none := by kernel_rfl
theorem lo : laidOutB Tryd.prog = true := by kernel_rfl
theorem g0 : Tryd.prog.globalNamed "loop.example/g01265/impl.letterBars" = some 0 := by kernel_rfl
theorem t0 : (Tryd.prog.globals[0]?).map (·.type) = some 86 := by kernel_rfl
theorem cells86 : Tryd.prog.cellsOf 86 = 16 := by kernel_rfl
theorem cells9 : Tryd.prog.cellsOf 9 = 1 := by kernel_rfl
theorem flat86 : FlatTy Tryd.prog 86 [.str, .str, .str, .str, .str, .str, .str, .str, .str, .str, .str, .str, .str, .str, .str, .str] := flatTy_array (n := 16) Tryd.underlying86 (flatTy_str Tryd.underlying9 cells9) cells86

theorem door_met (os : Os) (args : Array Value) : laidMetH Tryd.prog Rows.fnExactLeastFarLettersRow.laid ((World.doorLaid Tryd.prog 400 os).forCall (fun _ _ => 0) ⟨#[], args, []⟩).memory :=
  laidMetH_of_parts3 (fuel := 8) (laidMet_of_run' 8 (by kernel_rfl) (by kernel_rfl)) (by kernel_rfl) (by kernel_rfl)

set_option maxRecDepth 100000 in
theorem gl_of {W : World} (h : laidMetH Tryd.prog Rows.fnExactLeastFarLettersRow.laid W) : GlP W (fun b => b < W.heap.size) := by
  rw [MakeChecks.laidMetH_plain _ _ _ (by kernel_rfl)] at h
  obtain ⟨ps, ⟨n0, y0, cs0, f0, z0, w0, hg0, ht0, hv0, hd0, _, _⟩, _, _⟩ := h
  intro g cs hg
  unfold glob at hg
  split at hg
  · simp only [Option.some.injEq] at hg
    subst hg
    obtain rfl := Option.some.inj (g0.symm.trans hg0)
    obtain rfl := Option.some.inj (t0.symm.trans ht0)
    exact glP_one hg0 hv0 flat86 hd0 (by decide)
  · cases hg

set_option maxRecDepth 100000 in
theorem lifted (os : Os) (started : os.Started) (H : Type) (enc : TypeId × Value → H) :
    ReturnsInHanded {} Tryd.checked os 3 .any (fun w args => (Rows.fnExactLeastFarLettersSpec.pre enc Tryd.prog Tryd.f3 Rows.fnExactLeastFarLettersRow.domain false w args ∧ laidMetH Tryd.prog Rows.fnExactLeastFarLettersRow.laid w) ∧ sizedMet enc Tryd.prog Tryd.f3 (OpenSpec.ofChange Rows.fnExactLeastFarLettersSpec) false w args)
      (Rows.fnExactLeastFarLettersSpec.post enc Tryd.prog Tryd.f3 false true false false) := by
  refine returnsInHanded_of_change_and (C := Tryd.checked) (X := fun w _ => laidMetH Tryd.prog Rows.fnExactLeastFarLettersRow.laid w) (fun _ _ _ hh h => h.of_heap hh) own started (by kernel_rfl) Tryd.func3
    (ChangeSpec.witness_shaped (enc := enc) (C := Tryd.checked) (os := os) (X := fun w _ => laidMetH Tryd.prog Rows.fnExactLeastFarLettersRow.laid w) false (World.doorLaid Tryd.prog 400 os) #[] 8 rfl (World.shaped_of_RefB (by kernel_rfl) (by kernel_rfl)) (by kernel_rfl) (by kernel_rfl) (by kernel_rfl) (door_met os _)) ?_
  intro W base args ds gs before hval0 hW _ _ hL _
  have hval : ∀ (j : Nat) t v, Tryd.f3.params[j]? = some t → args[j]? = some v → Value.okWide Tryd.prog W .any base t v := hval0
  have hW' := hW
  obtain ⟨p, q, hA0, hV, rfl, hfz, hnd⟩ := hW
  have hA : DataW.TrodAll enc Tryd.prog W 0 (fun _ => true) true Tryd.f3.params.toList args.toList ds p := hA0
  rw [Tryd.params3] at hA hval
  have hA1 := hA
  obtain ⟨hargs, rfl, rfl⟩ := trodAll_nil hA1
  obtain rfl : args = #[] := by cases args; simp_all
  obtain ⟨e0, gr0, rfl⟩ : ∃ e r, gs = e :: r := by
    cases gs with
    | nil => exact absurd hV (by intro h; exact h.elim)
    | cons a b => exact ⟨a, b, rfl⟩
  obtain rfl : gr0 = [] := by
    cases gr0 with
    | nil => rfl
    | cons a b => exact absurd hV (by intro h; obtain ⟨_, _, _, _, _, _, _, _, _, _, h, _⟩ := h; exact h.elim)
  refine (law_calls (FnExactLeastFarLetters_law ) W [] rfl (gl_of hL)).mono fun e W' ⟨he, bel⟩ => ?_
  subst he
  exact ⟨_, rfl, _, _, _, [], _, _, hW', trodAll_mk1 (shut_bool Tryd.underlying4 _), trodAll_below lo bel (by kernel_rfl) hA, Below.trodVars lo bel (by kernel_rfl) hV, bel.frame _, fun h => by cases h⟩

theorem over : Rows.FnExactLeastFarLettersSaid :=
  OpenClaim.holds_of_wide 3 Tryd.f3 rfl rfl rfl rfl rfl rfl rfl ⟨rfl, rfl, rfl, rfl, rfl⟩ rfl rfl rfl rfl rfl (by kernel_rfl) Tryd.func3 (by kernel_rfl)
    (of_decide_eq_true (by kernel_rfl)) (by unfold Func.isWrapper; first | (rw [if_pos (by decide +kernel)]; kernel_rfl) | (rw [if_neg (by decide +kernel)]; exact ⟨rfl, rfl⟩))
    (fun os started H enc _ => lifted os started H enc)

/-- THE STATEMENT -/
theorem proved : Rows.FnExactLeastFarLettersCardSaid :=
  Claim7.holds_tied_plain_at .later [] [.data] true (true, "825d261c9fa30a11ea196af31b2c7f95804ea60c8f66a2d49b8720b0eb01bda6") false
    over (fun _ h => by cases h) (by kernel_rfl) (fun _ h => by cases h) fnExactLeastFarLetters_row_tie rfl ⟨rfl, rfl⟩ (by kernel_rfl) rfl
    (fun f fn hf hfn => by
      obtain rfl : f = 3 := Option.some.inj ((show Tryd.prog.funcNamed "loop.example/g01265/laws.FnExactLeastFarLetters" = some 3 by kernel_rfl).symm.trans hf) |>.symm
      obtain rfl : fn = Tryd.f3 := (Option.some.inj (Tryd.func3.symm.trans hfn)).symm
      exact ⟨by kernel_rfl, fun j t ht => by
        rw [Tryd.params3] at ht
        have hm : t ∈ ([] : List Nat) := by simpa using Array.mem_of_getElem? ht
        have hall : (([] : List Nat).all fun u => !Tryd.prog.wantsStandIn u) = true := by kernel_rfl
        exact (show Tryd.prog.wantsStandIn t = false by simpa using List.all_eq_true.1 hall t hm)⟩)
    (by kernel_rfl)

end Go.Proofs.YtgpgjaebhfhjoabDoor.fnExactLeastFarLetters
