/- Every input of laws.FnExactWordOfNumber that can be read as data: the call returns true and each argument reads afterwards as it did. No further conditions. -/
import Derived.Test.YtgpgjaebhfhjoabDoorRows
import Derived.Test.YtgpgjaebhfhjoabDoorw4
import Derived.LaidMore
import Derived.OpenVars
import Derived.Test.YtgpgjaebhfhjoabDoorTie
import Derived.Test.YtgpgjaebhfhjoabDoorCards
import Derived.SevenTiedAt
import Derived.Stop.Joined
import Derived.Test.YtgpgjaebhfhjoabDoorPwN
import Derived.WalkKit
import Derived.ProofKit
import Derived.OpenShut
import Derived.Below
namespace Go.Proofs.YtgpgjaebhfhjoabDoor.fnExactWordOfNumber
open Go.ChangeShapes Go.WideShapes Go.ChangeAt Go.RowKit
set_option linter.unusedVariables false

theorem own : ownKnob Tryd.prog.godebug = none := by kernel_rfl
theorem lo : laidOutB Tryd.prog = true := by kernel_rfl
theorem cells3 : Tryd.prog.cellsOf 3 = 1 := by kernel_rfl
theorem g0 : Tryd.prog.globalNamed "math/bits.deBruijn32tab" = some 4 := by kernel_rfl
theorem t0 : (Tryd.prog.globals[4]?).map (·.type) = some 123 := by kernel_rfl
theorem cells123 : Tryd.prog.cellsOf 123 = 32 := by kernel_rfl
theorem cells5 : Tryd.prog.cellsOf 5 = 1 := by kernel_rfl
theorem flat123 : FlatTy Tryd.prog 123 [.int .u8, .int .u8, .int .u8, .int .u8, .int .u8, .int .u8, .int .u8, .int .u8, .int .u8, .int .u8, .int .u8, .int .u8, .int .u8, .int .u8, .int .u8, .int .u8, .int .u8, .int .u8, .int .u8, .int .u8, .int .u8, .int .u8, .int .u8, .int .u8, .int .u8, .int .u8, .int .u8, .int .u8, .int .u8, .int .u8, .int .u8, .int .u8] := flatTy_array (n := 32) Tryd.underlying123 (flatTy_int Tryd.underlying5 cells5) cells123
theorem g1 : Tryd.prog.globalNamed "math/bits.deBruijn64tab" = some 5 := by kernel_rfl
theorem t1 : (Tryd.prog.globals[5]?).map (·.type) = some 124 := by kernel_rfl
theorem cells124 : Tryd.prog.cellsOf 124 = 64 := by kernel_rfl
theorem flat124 : FlatTy Tryd.prog 124 [.int .u8, .int .u8, .int .u8, .int .u8, .int .u8, .int .u8, .int .u8, .int .u8, .int .u8, .int .u8, .int .u8, .int .u8, .int .u8, .int .u8, .int .u8, .int .u8, .int .u8, .int .u8, .int .u8, .int .u8, .int .u8, .int .u8, .int .u8, .int .u8, .int .u8, .int .u8, .int .u8, .int .u8, .int .u8, .int .u8, .int .u8, .int .u8, .int .u8, .int .u8, .int .u8, .int .u8, .int .u8, .int .u8, .int .u8, .int .u8, .int .u8, .int .u8, .int .u8, .int .u8, .int .u8, .int .u8, .int .u8, .int .u8, .int .u8, .int .u8, .int .u8, .int .u8, .int .u8, .int .u8, .int .u8, .int .u8, .int .u8, .int .u8, .int .u8, .int .u8, .int .u8, .int .u8, .int .u8, .int .u8] := flatTy_array (n := 64) Tryd.underlying124 (flatTy_int Tryd.underlying5 cells5) cells124
theorem g2 : Tryd.prog.globalNamed "internal/strconv.uint64pow10" = some 3 := by kernel_rfl
theorem t2 : (Tryd.prog.globals[3]?).map (·.type) = some 121 := by kernel_rfl
theorem cells121 : Tryd.prog.cellsOf 121 = 20 := by kernel_rfl
theorem cells66 : Tryd.prog.cellsOf 66 = 1 := by kernel_rfl
theorem flat121 : FlatTy Tryd.prog 121 [.int .u64, .int .u64, .int .u64, .int .u64, .int .u64, .int .u64, .int .u64, .int .u64, .int .u64, .int .u64, .int .u64, .int .u64, .int .u64, .int .u64, .int .u64, .int .u64, .int .u64, .int .u64, .int .u64, .int .u64] := flatTy_array (n := 20) Tryd.underlying121 (flatTy_int Tryd.underlying66 cells66) cells121
theorem g3 : Tryd.prog.globalNamed "loop.example/g01265/impl.letterBars" = some 0 := by kernel_rfl
theorem t3 : (Tryd.prog.globals[0]?).map (·.type) = some 86 := by kernel_rfl
theorem cells86 : Tryd.prog.cellsOf 86 = 16 := by kernel_rfl
theorem cells9 : Tryd.prog.cellsOf 9 = 1 := by kernel_rfl
theorem flat86 : FlatTy Tryd.prog 86 [.str, .str, .str, .str, .str, .str, .str, .str, .str, .str, .str, .str, .str, .str, .str, .str] := flatTy_array (n := 16) Tryd.underlying86 (flatTy_str Tryd.underlying9 cells9) cells86
theorem g4 : Tryd.prog.globalNamed "loop.example/g01265/impl.digitBars" = some 1 := by kernel_rfl
theorem t4 : (Tryd.prog.globals[1]?).map (·.type) = some 101 := by kernel_rfl
theorem cells101 : Tryd.prog.cellsOf 101 = 10 := by kernel_rfl
theorem flat101 : FlatTy Tryd.prog 101 [.str, .str, .str, .str, .str, .str, .str, .str, .str, .str] := flatTy_array (n := 10) Tryd.underlying101 (flatTy_str Tryd.underlying9 cells9) cells101

theorem door_met (os : Os) (args : Array Value) : laidMetH Tryd.prog Rows.fnExactWordOfNumberRow.laid ((World.doorLaid Tryd.prog 400 os).forCall (fun _ _ => 0) ⟨#[], args, []⟩).memory :=
  laidMetH_of_parts3 (fuel := 8) (laidMet_of_run' 8 (by kernel_rfl) (by kernel_rfl)) (by kernel_rfl) (by kernel_rfl)

set_option maxRecDepth 100000 in
theorem gl_of {W : World} (h : laidMetH Tryd.prog Rows.fnExactWordOfNumberRow.laid W) : GlP W (fun b => b < W.heap.size) := by
  rw [MakeChecks.laidMetH_plain _ _ _ (by kernel_rfl)] at h
  obtain ⟨ps, ⟨n0, y0, cs0, f0, z0, w0, hg0, ht0, hv0, hd0, ⟨n1, y1, cs1, f1, z1, w1, hg1, ht1, hv1, hd1, ⟨n2, y2, cs2, f2, z2, w2, hg2, ht2, hv2, hd2, ⟨n3, y3, cs3, f3, z3, w3, hg3, ht3, hv3, hd3, ⟨n4, y4, cs4, f4, z4, w4, hg4, ht4, hv4, hd4, _, _⟩, _⟩, _⟩, _⟩, _⟩, _, _⟩ := h
  intro g cs hg
  unfold glob at hg
  split at hg
  · simp only [Option.some.injEq] at hg
    subst hg
    obtain rfl := Option.some.inj (g3.symm.trans hg3)
    obtain rfl := Option.some.inj (t3.symm.trans ht3)
    exact glP_one hg3 hv3 flat86 hd3 (by decide)
  · simp only [Option.some.injEq] at hg
    subst hg
    obtain rfl := Option.some.inj (g0.symm.trans hg0)
    obtain rfl := Option.some.inj (t0.symm.trans ht0)
    exact glP_one hg0 hv0 flat123 hd0 (by decide)
  · simp only [Option.some.injEq] at hg
    subst hg
    obtain rfl := Option.some.inj (g1.symm.trans hg1)
    obtain rfl := Option.some.inj (t1.symm.trans ht1)
    exact glP_one hg1 hv1 flat124 hd1 (by decide)
  · simp only [Option.some.injEq] at hg
    subst hg
    obtain rfl := Option.some.inj (g2.symm.trans hg2)
    obtain rfl := Option.some.inj (t2.symm.trans ht2)
    exact glP_one hg2 hv2 flat121 hd2 (by decide)
  · simp only [Option.some.injEq] at hg
    subst hg
    obtain rfl := Option.some.inj (g4.symm.trans hg4)
    obtain rfl := Option.some.inj (t4.symm.trans ht4)
    exact glP_one hg4 hv4 flat101 hd4 (by decide)
  · cases hg

set_option maxRecDepth 100000 in
theorem lifted (os : Os) (started : os.Started) (H : Type) (enc : TypeId × Value → H) :
    ReturnsInHanded {} Tryd.checked os 4 .any (fun w args => (Rows.fnExactWordOfNumberSpec.pre enc Tryd.prog Tryd.f4 Rows.fnExactWordOfNumberRow.domain false w args ∧ laidMetH Tryd.prog Rows.fnExactWordOfNumberRow.laid w) ∧ sizedMet enc Tryd.prog Tryd.f4 (OpenSpec.ofChange Rows.fnExactWordOfNumberSpec) false w args)
      (Rows.fnExactWordOfNumberSpec.post enc Tryd.prog Tryd.f4 false true false false) := by
  refine returnsInHanded_of_change_and (C := Tryd.checked) (X := fun w _ => laidMetH Tryd.prog Rows.fnExactWordOfNumberRow.laid w) (fun _ _ _ hh h => h.of_heap hh) own started (by kernel_rfl) Tryd.func4
    (ChangeSpec.witness_shaped (enc := enc) (C := Tryd.checked) (os := os) (X := fun w _ => laidMetH Tryd.prog Rows.fnExactWordOfNumberRow.laid w) false (World.doorLaid Tryd.prog 400 os) #[.int .i64 0] 8 rfl (World.shaped_of_RefB (by kernel_rfl) (by kernel_rfl)) (by kernel_rfl) (by kernel_rfl) (by kernel_rfl) (door_met os _)) ?_
  intro W base args ds gs before hval0 hW _ _ hL _
  have hval : ∀ (j : Nat) t v, Tryd.f4.params[j]? = some t → args[j]? = some v → Value.okWide Tryd.prog W .any base t v := hval0
  have hW' := hW
  obtain ⟨p, q, hA0, hV, rfl, hfz, hnd⟩ := hW
  have hA : DataW.TrodAll enc Tryd.prog W 0 (fun _ => true) true Tryd.f4.params.toList args.toList ds p := hA0
  rw [Tryd.params4] at hA hval
  have hA1 := hA
  obtain ⟨v0, vs0, d0, ds0, p0, q0, hargs, rfl, rfl, h0, r0⟩ := trodAll_cons hA1
  obtain ⟨rfl, rfl, rfl⟩ := trodAll_nil r0
  obtain rfl : args = #[v0] := by cases args; simp_all
  obtain ⟨e0, gr0, rfl⟩ : ∃ e r, gs = e :: r := by
    cases gs with
    | nil => exact absurd hV (by intro h; exact h.elim)
    | cons a b => exact ⟨a, b, rfl⟩
  obtain ⟨e1, gr1, rfl⟩ : ∃ e r, gr0 = e :: r := by
    cases gr0 with
    | nil => exact absurd hV (by intro h; obtain ⟨_, _, _, _, _, _, _, _, _, _, h, _⟩ := h; exact h.elim)
    | cons a b => exact ⟨a, b, rfl⟩
  obtain rfl : gr1 = [] := by
    cases gr1 with
    | nil => rfl
    | cons a b => exact absurd hV (by intro h; obtain ⟨_, _, _, _, _, _, _, _, _, _, h, _⟩ := h; obtain ⟨_, _, _, _, _, _, _, _, _, _, h, _⟩ := h; exact h.elim)
  obtain ⟨a0, b0, R0⟩ := open_i64 Tryd.underlying3 cells3 (hval 0 3 v0 rfl rfl) h0
  refine (law_calls (FnExactWordOfNumber_law a0 b0) W [v0] ⟨_, _, rfl, R0, rfl⟩ (gl_of hL)).mono fun e W' ⟨he, bel⟩ => ?_
  subst he
  exact ⟨_, rfl, _, _, _, [], _, _, hW', trodAll_mk1 (shut_bool Tryd.underlying4 _), trodAll_below lo bel (by kernel_rfl) hA, Below.trodVars lo bel (by kernel_rfl) hV, bel.frame _, fun h => by cases h⟩

theorem over : Rows.FnExactWordOfNumberSaid :=
  OpenClaim.holds_of_wide 4 Tryd.f4 rfl rfl rfl rfl rfl rfl rfl ⟨rfl, rfl, rfl, rfl, rfl⟩ rfl rfl rfl rfl rfl (by kernel_rfl) Tryd.func4 (by kernel_rfl)
    (of_decide_eq_true (by kernel_rfl)) (by unfold Func.isWrapper; first | (rw [if_pos (by decide +kernel)]; kernel_rfl) | (rw [if_neg (by decide +kernel)]; exact ⟨rfl, rfl⟩))
    (fun os started H enc _ => lifted os started H enc)

/-- THE STATEMENT -/
theorem proved : Rows.FnExactWordOfNumberCardSaid :=
  Claim7.holds_tied_plain_at .later [] [.data, .data, .data, .data, .data] true (true, "825d261c9fa30a11ea196af31b2c7f95804ea60c8f66a2d49b8720b0eb01bda6") false
    over (fun _ h => by cases h) (by kernel_rfl) (fun _ h => by cases h) fnExactWordOfNumber_row_tie rfl ⟨rfl, rfl⟩ (by kernel_rfl) rfl
    (fun f fn hf hfn => by
      obtain rfl : f = 4 := Option.some.inj ((show Tryd.prog.funcNamed "loop.example/g01265/laws.FnExactWordOfNumber" = some 4 by kernel_rfl).symm.trans hf) |>.symm
      obtain rfl : fn = Tryd.f4 := (Option.some.inj (Tryd.func4.symm.trans hfn)).symm
      exact ⟨by kernel_rfl, fun j t ht => by
        rw [Tryd.params4] at ht
        have hm : t ∈ ([3] : List Nat) := by simpa using Array.mem_of_getElem? ht
        have hall : (([3] : List Nat).all fun u => !Tryd.prog.wantsStandIn u) = true := by kernel_rfl
        exact (show Tryd.prog.wantsStandIn t = false by simpa using List.all_eq_true.1 hall t hm)⟩)
    (by kernel_rfl)

end Go.Proofs.YtgpgjaebhfhjoabDoor.fnExactWordOfNumber
