/- Every input of laws.FnExactLeastSwitches that can be read as data: the call returns true and each argument reads afterwards as it did. No further conditions. -/
import Derived.Test.YtlmmjegbnmolcabRows
import Derived.Test.Ytlmmjegbnmolcabd4
import Derived.Test.YtlmmjegbnmolcabPwN
import Derived.WalkKit
import Derived.ProofKit
import Derived.OpenShut
import Derived.Below
namespace Go.Proofs.Ytlmmjegbnmolcab.fnExactLeastSwitches
open Go.ChangeShapes Go.WideShapes Go.ChangeAt Go.RowKit
set_option linter.unusedVariables false

theorem own : ownKnob Try.prog.godebug = none := by kernel_rfl
theorem lo : laidOutB Try.prog = true := by kernel_rfl
theorem cells3 : Try.prog.cellsOf 3 = 1 := by kernel_rfl
theorem cells40 : Try.prog.cellsOf 40 = 2 := by kernel_rfl
theorem flat40 : FlatTy Try.prog 40 [.int .i64, .int .i64] := flatTy_struct Try.underlying40 cells40 ⟨rfl, [.int .i64], _, rfl, (flatTy_int Try.underlying3 cells3), ⟨rfl, [.int .i64], _, rfl, (flatTy_int Try.underlying3 cells3), rfl⟩⟩

set_option maxRecDepth 100000 in
theorem lifted (os : Os) (started : os.Started) (H : Type) (enc : TypeId × Value → H) :
    ReturnsInHanded {} Try.checked os 4 .any (Rows.fnExactLeastSwitchesSpec.pre6 enc Try.prog Try.f4 Rows.fnExactLeastSwitchesRow.domain false) (Rows.fnExactLeastSwitchesSpec.post enc Try.prog Try.f4 false true false false) := by
  refine returnsInHanded_of_change (C := Try.checked) own started (by kernel_rfl) Try.func4
    (ChangeSpec.witness6 (enc := enc) (C := Try.checked) false ⟨#[], #[.int .i64 0, .slice none 0 0], []⟩ 8 (by kernel_rfl) (by kernel_rfl) (by kernel_rfl) (by kernel_rfl)) ?_
  intro W base args ds gs before hval0 hW hcnd _
  have hval : ∀ (j : Nat) t v, Try.f4.params[j]? = some t → args[j]? = some v → Value.okWide Try.prog W .any base t v := hval0
  have hW' := hW
  obtain ⟨p, q, hA0, hV, rfl, hfz, hnd⟩ := hW
  have hA : DataW.TrodAll enc Try.prog W 0 (fun _ => true) true Try.f4.params.toList args.toList ds p := hA0
  rw [Try.params4] at hA hval
  have hA1 := hA
  obtain ⟨v0, vs0, d0, ds0, p0, q0, hargs, rfl, rfl, h0, r0⟩ := trodAll_cons hA1
  obtain ⟨v1, vs1, d1, ds1, p1, q1, rfl, rfl, rfl, h1, r1⟩ := trodAll_cons r0
  obtain ⟨rfl, rfl, rfl⟩ := trodAll_nil r1
  obtain rfl : args = #[v0, v1] := by cases args; simp_all
  obtain ⟨rfl, rfl⟩ := trodVars_none hV
  obtain ⟨a0, b0, R0⟩ := open_i64 Try.underlying3 cells3 (hval 0 3 v0 rfl rfl) h0
  obtain ⟨a1, b1, c1, R1⟩ := open_slice Try.underlying22 flat40 (hval 1 22 v1 rfl rfl) h1
  refine (law_calls (FnExactLeastSwitches_law a0 b0 a1 b1 c1) W [v0, v1] ⟨_, _, rfl, R0, ⟨_, _, rfl, R1, rfl⟩⟩ (fun g cs h => by cases h)).mono fun e W' ⟨he, bel⟩ => ?_
  subst he
  exact ⟨_, rfl, _, _, _, [], _, [], hW', trodAll_mk1 (shut_bool Try.underlying4 _), trodAll_below lo bel (by kernel_rfl) hA, rfl, bel.frame _, fun h => by cases h⟩

theorem over : Rows.fnExactLeastSwitchesRow.holds Try.pinned (OpenSpec.ofChange Rows.fnExactLeastSwitchesSpec) :=
  OpenClaim.holds_of_wide 4 Try.f4 rfl rfl rfl rfl rfl rfl rfl ⟨rfl, rfl, rfl, rfl, rfl⟩ rfl rfl rfl rfl rfl (by kernel_rfl) Try.func4 (by kernel_rfl)
    (of_decide_eq_true (by kernel_rfl)) (by unfold Func.isWrapper; first | (rw [if_pos (by decide +kernel)]; kernel_rfl) | (rw [if_neg (by decide +kernel)]; exact ⟨rfl, rfl⟩))
    (fun os started H enc _ => lifted os started H enc)

/-- THE STATEMENT -/
theorem proved : Rows.FnExactLeastSwitchesSaid :=
  over

end Go.Proofs.Ytlmmjegbnmolcab.fnExactLeastSwitches
