/- Every input of laws.FnExactPlayGame that can be read as data: the call returns true and each argument reads afterwards as it did. No further conditions. -/
import Derived.Test.YtfagllolcalfiabDoorRows
import Derived.Test.YtfagllolcalfiabDoory5
import Derived.LaidMore
import Derived.OpenVars
import Derived.Test.YtfagllolcalfiabDoorTie
import Derived.Test.YtfagllolcalfiabDoorCards
import Derived.SevenTiedAt
import Derived.Stop.Joined
import Derived.Test.YtfagllolcalfiabDoorPwN
import Derived.WalkKit
import Derived.ProofKit
import Derived.OpenShut
import Derived.Below
namespace Go.Proofs.YtfagllolcalfiabDoor.fnExactPlayGame
open Go.ChangeShapes Go.WideShapes Go.ChangeAt Go.RowKit
set_option linter.unusedVariables false

theorem own : ownKnob Tryd.prog.godebug = none := by kernel_rfl
theorem lo : laidOutB Tryd.prog = true := by kernel_rfl
theorem cells3 : Tryd.prog.cellsOf 3 = 1 := by kernel_rfl
theorem g0 : Tryd.prog.globalNamed "loop.example/g01265/impl.digitBars" = some 0 := by kernel_rfl
theorem t0 : (Tryd.prog.globals[0]?).map (·.type) = some 95 := by kernel_rfl
theorem cells95 : Tryd.prog.cellsOf 95 = 10 := by kernel_rfl
theorem cells9 : Tryd.prog.cellsOf 9 = 1 := by kernel_rfl
theorem flat95 : FlatTy Tryd.prog 95 [.str, .str, .str, .str, .str, .str, .str, .str, .str, .str] := flatTy_array (n := 10) Tryd.underlying95 (flatTy_str Tryd.underlying9 cells9) cells95

theorem door_met (os : Os) (args : Array Value) : laidMetH Tryd.prog Rows.fnExactPlayGameRow.laid ((World.doorLaid Tryd.prog 400 os).forCall (fun _ _ => 0) ⟨#[], args, []⟩).memory :=
  laidMetH_of_parts3 (fuel := 8) (laidMet_of_run' 8 (by kernel_rfl) (by kernel_rfl)) (by kernel_rfl) (by kernel_rfl)

set_option maxRecDepth 100000 in
theorem gl_of {W : World} (h : laidMetH Tryd.prog Rows.fnExactPlayGameRow.laid W) : GlP W (fun b => b < W.heap.size) := by
  rw [MakeChecks.laidMetH_plain _ _ _ (by kernel_rfl)] at h
  obtain ⟨ps, ⟨n0, y0, cs0, f0, z0, w0, hg0, ht0, hv0, hd0, _, _⟩, _, _⟩ := h
  intro g cs hg
  unfold glob at hg
  split at hg
  · simp only [Option.some.injEq] at hg
    subst hg
    obtain rfl := Option.some.inj (g0.symm.trans hg0)
    obtain rfl := Option.some.inj (t0.symm.trans ht0)
    exact glP_one hg0 hv0 flat95 hd0 (by decide)
  · cases hg

set_option maxRecDepth 100000 in
theorem lifted (os : Os) (started : os.Started) (H : Type) (enc : TypeId × Value → H) :
    ReturnsInHanded {} Tryd.checked os 4 .any (fun w args => (Rows.fnExactPlayGameSpec.pre enc Tryd.prog Tryd.f4 Rows.fnExactPlayGameRow.domain false w args ∧ laidMetH Tryd.prog Rows.fnExactPlayGameRow.laid w) ∧ sizedMet enc Tryd.prog Tryd.f4 (OpenSpec.ofChange Rows.fnExactPlayGameSpec) false w args)
      (Rows.fnExactPlayGameSpec.post enc Tryd.prog Tryd.f4 false true false false) := by
  refine returnsInHanded_of_change_and (C := Tryd.checked) (X := fun w _ => laidMetH Tryd.prog Rows.fnExactPlayGameRow.laid w) (fun _ _ _ hh h => h.of_heap hh) own started (by kernel_rfl) Tryd.func4
    (ChangeSpec.witness_shaped (enc := enc) (C := Tryd.checked) (os := os) (X := fun w _ => laidMetH Tryd.prog Rows.fnExactPlayGameRow.laid w) false (World.doorLaid Tryd.prog 400 os) #[.slice none 0 0, .slice none 0 0] 8 rfl (World.shaped_of_RefB (by kernel_rfl) (by kernel_rfl)) (by kernel_rfl) (by kernel_rfl) (by kernel_rfl) (door_met os _)) ?_
  intro W base args ds gs before hval0 hW _ _ hL _
  have hval : ∀ (j : Nat) t v, Tryd.f4.params[j]? = some t → args[j]? = some v → Value.okWide Tryd.prog W .any base t v := hval0
  have hW' := hW
  obtain ⟨p, q, hA0, hV, rfl, hfz, hnd⟩ := hW
  have hA : DataW.TrodAll enc Tryd.prog W 0 (fun _ => true) true Tryd.f4.params.toList args.toList ds p := hA0
  rw [Tryd.params4] at hA hval
  have hA1 := hA
  obtain ⟨v0, vs0, d0, ds0, p0, q0, hargs, rfl, rfl, h0, r0⟩ := trodAll_cons hA1
  obtain ⟨v1, vs1, d1, ds1, p1, q1, rfl, rfl, rfl, h1, r1⟩ := trodAll_cons r0
  obtain ⟨rfl, rfl, rfl⟩ := trodAll_nil r1
  obtain rfl : args = #[v0, v1] := by cases args; simp_all
  obtain ⟨e0, gr0, rfl⟩ : ∃ e r, gs = e :: r := by
    cases gs with
    | nil => exact absurd hV (by intro h; exact h.elim)
    | cons a b => exact ⟨a, b, rfl⟩
  obtain rfl : gr0 = [] := by
    cases gr0 with
    | nil => rfl
    | cons a b => exact absurd hV (by intro h; obtain ⟨_, _, _, _, _, _, _, _, _, _, h, _⟩ := h; exact h.elim)
  obtain ⟨a0, b0, R0⟩ := open_i64s Tryd.underlying22 Tryd.underlying3 cells3 (hval 0 22 v0 rfl rfl) h0
  obtain ⟨a1, b1, R1⟩ := open_i64s Tryd.underlying22 Tryd.underlying3 cells3 (hval 1 22 v1 rfl rfl) h1
  refine (law_calls (FnExactPlayGame_law a0 b0 a1 b1) W [v0, v1] ⟨_, _, rfl, R0, ⟨_, _, rfl, R1, rfl⟩⟩ (gl_of hL)).mono fun e W' ⟨he, bel⟩ => ?_
  subst he
  exact ⟨_, rfl, _, _, _, [], _, _, hW', trodAll_mk1 (shut_bool Tryd.underlying4 _), trodAll_below lo bel (by kernel_rfl) hA, Below.trodVars lo bel (by kernel_rfl) hV, bel.frame _, fun h => by cases h⟩

theorem over : Rows.FnExactPlayGameSaid :=
  OpenClaim.holds_of_wide 4 Tryd.f4 rfl rfl rfl rfl rfl rfl rfl ⟨rfl, rfl, rfl, rfl, rfl⟩ rfl rfl rfl rfl rfl (by kernel_rfl) Tryd.func4 (by kernel_rfl)
    (of_decide_eq_true (by kernel_rfl)) (by unfold Func.isWrapper; first | (rw [if_pos (by decide +kernel)]; kernel_rfl) | (rw [if_neg (by decide +kernel)]; exact ⟨rfl, rfl⟩))
    (fun os started H enc _ => lifted os started H enc)

/-- THE STATEMENT -/
theorem proved : Rows.FnExactPlayGameCardSaid :=
  Claim7.holds_tied_plain_at .later [] [.data] true (true, "fbaa314a2e82397faa70d4c968986fddee9e86889ddeb20d7c1e0c28cc8d0194") false
    over (fun _ h => by cases h) (by kernel_rfl) (fun _ h => by cases h) fnExactPlayGame_row_tie rfl ⟨rfl, rfl⟩ (by kernel_rfl) rfl
    (fun f fn hf hfn => by
      obtain rfl : f = 4 := Option.some.inj ((show Tryd.prog.funcNamed "loop.example/g01265/laws.FnExactPlayGame" = some 4 by kernel_rfl).symm.trans hf) |>.symm
      obtain rfl : fn = Tryd.f4 := (Option.some.inj (Tryd.func4.symm.trans hfn)).symm
      exact ⟨by kernel_rfl, fun j t ht => by
        rw [Tryd.params4] at ht
        have hm : t ∈ ([22, 22] : List Nat) := by simpa using Array.mem_of_getElem? ht
        have hall : (([22, 22] : List Nat).all fun u => !Tryd.prog.wantsStandIn u) = true := by kernel_rfl
        exact (show Tryd.prog.wantsStandIn t = false by simpa using List.all_eq_true.1 hall t hm)⟩)
    (by kernel_rfl)

end Go.Proofs.YtfagllolcalfiabDoor.fnExactPlayGame
