/- Every input of laws.FnExactMeanBars that can be read as data: the call returns true and each argument reads afterwards as it did. No further conditions. -/
import Derived.Test.YtbddhdbieelpjaaDoorRows
import Derived.Test.YtbddhdbieelpjaaDoorm4
import Derived.LaidMore
import Derived.OpenVars
import Derived.Test.YtbddhdbieelpjaaDoorTie
import Derived.Test.YtbddhdbieelpjaaDoorCards
import Derived.SevenTiedAt
import Derived.Stop.Joined
import Derived.Test.YtbddhdbieelpjaaDoorPwN
import Derived.WalkKit
import Derived.ProofKit
import Derived.OpenShut
import Derived.Below
namespace Go.Proofs.YtbddhdbieelpjaaDoor.fnExactMeanBars
open Go.ChangeShapes Go.WideShapes Go.ChangeAt Go.RowKit
set_option linter.unusedVariables false

theorem own : ownKnob Tryd.prog.godebug = none := by kernel_rfl
theorem lo : laidOutB Tryd.prog = true := by kernel_rfl
theorem cells3 : Tryd.prog.cellsOf 3 = 1 := by kernel_rfl
theorem g0 : Tryd.prog.globalNamed "math/bits.deBruijn32tab" = some 4 := by kernel_rfl
theorem t0 : (Tryd.prog.globals[4]?).map (·.type) = some 182 := by kernel_rfl
theorem cells182 : Tryd.prog.cellsOf 182 = 32 := by kernel_rfl
theorem cells5 : Tryd.prog.cellsOf 5 = 1 := by kernel_rfl
theorem flat182 : FlatTy Tryd.prog 182 [.int .u8, .int .u8, .int .u8, .int .u8, .int .u8, .int .u8, .int .u8, .int .u8, .int .u8, .int .u8, .int .u8, .int .u8, .int .u8, .int .u8, .int .u8, .int .u8, .int .u8, .int .u8, .int .u8, .int .u8, .int .u8, .int .u8, .int .u8, .int .u8, .int .u8, .int .u8, .int .u8, .int .u8, .int .u8, .int .u8, .int .u8, .int .u8] := flatTy_array (n := 32) Tryd.underlying182 (flatTy_int Tryd.underlying5 cells5) cells182
theorem g1 : Tryd.prog.globalNamed "math/bits.deBruijn64tab" = some 5 := by kernel_rfl
theorem t1 : (Tryd.prog.globals[5]?).map (·.type) = some 183 := by kernel_rfl
theorem cells183 : Tryd.prog.cellsOf 183 = 64 := by kernel_rfl
theorem flat183 : FlatTy Tryd.prog 183 [.int .u8, .int .u8, .int .u8, .int .u8, .int .u8, .int .u8, .int .u8, .int .u8, .int .u8, .int .u8, .int .u8, .int .u8, .int .u8, .int .u8, .int .u8, .int .u8, .int .u8, .int .u8, .int .u8, .int .u8, .int .u8, .int .u8, .int .u8, .int .u8, .int .u8, .int .u8, .int .u8, .int .u8, .int .u8, .int .u8, .int .u8, .int .u8, .int .u8, .int .u8, .int .u8, .int .u8, .int .u8, .int .u8, .int .u8, .int .u8, .int .u8, .int .u8, .int .u8, .int .u8, .int .u8, .int .u8, .int .u8, .int .u8, .int .u8, .int .u8, .int .u8, .int .u8, .int .u8, .int .u8, .int .u8, .int .u8, .int .u8, .int .u8, .int .u8, .int .u8, .int .u8, .int .u8, .int .u8, .int .u8] := flatTy_array (n := 64) Tryd.underlying183 (flatTy_int Tryd.underlying5 cells5) cells183
theorem g2 : Tryd.prog.globalNamed "internal/strconv.uint64pow10" = some 3 := by kernel_rfl
theorem t2 : (Tryd.prog.globals[3]?).map (·.type) = some 180 := by kernel_rfl
theorem cells180 : Tryd.prog.cellsOf 180 = 20 := by kernel_rfl
theorem cells53 : Tryd.prog.cellsOf 53 = 1 := by kernel_rfl
theorem flat180 : FlatTy Tryd.prog 180 [.int .u64, .int .u64, .int .u64, .int .u64, .int .u64, .int .u64, .int .u64, .int .u64, .int .u64, .int .u64, .int .u64, .int .u64, .int .u64, .int .u64, .int .u64, .int .u64, .int .u64, .int .u64, .int .u64, .int .u64] := flatTy_array (n := 20) Tryd.underlying180 (flatTy_int Tryd.underlying53 cells53) cells180
theorem g3 : Tryd.prog.globalNamed "loop.example/g01265/impl.digitBars" = some 1 := by kernel_rfl
theorem t3 : (Tryd.prog.globals[1]?).map (·.type) = some 95 := by kernel_rfl
theorem cells95 : Tryd.prog.cellsOf 95 = 10 := by kernel_rfl
theorem cells9 : Tryd.prog.cellsOf 9 = 1 := by kernel_rfl
theorem flat95 : FlatTy Tryd.prog 95 [.str, .str, .str, .str, .str, .str, .str, .str, .str, .str] := flatTy_array (n := 10) Tryd.underlying95 (flatTy_str Tryd.underlying9 cells9) cells95

theorem door_met (os : Os) (args : Array Value) : laidMetH Tryd.prog Rows.fnExactMeanBarsRow.laid ((World.doorLaid Tryd.prog 400 os).forCall (fun _ _ => 0) ⟨#[], args, []⟩).memory :=
  laidMetH_of_parts3 (fuel := 8) (laidMet_of_run' 8 (by kernel_rfl) (by kernel_rfl)) (by kernel_rfl) (by kernel_rfl)

set_option maxRecDepth 100000 in
theorem gl_of {W : World} (h : laidMetH Tryd.prog Rows.fnExactMeanBarsRow.laid W) : GlP W (fun b => b < W.heap.size) := by
  rw [MakeChecks.laidMetH_plain _ _ _ (by kernel_rfl)] at h
  obtain ⟨ps, ⟨n0, y0, cs0, f0, z0, w0, hg0, ht0, hv0, hd0, ⟨n1, y1, cs1, f1, z1, w1, hg1, ht1, hv1, hd1, ⟨n2, y2, cs2, f2, z2, w2, hg2, ht2, hv2, hd2, ⟨n3, y3, cs3, f3, z3, w3, hg3, ht3, hv3, hd3, _, _⟩, _⟩, _⟩, _⟩, _, _⟩ := h
  intro g cs hg
  unfold glob at hg
  split at hg
  · simp only [Option.some.injEq] at hg
    subst hg
    obtain rfl := Option.some.inj (g3.symm.trans hg3)
    obtain rfl := Option.some.inj (t3.symm.trans ht3)
    exact glP_one hg3 hv3 flat95 hd3 (by decide)
  · simp only [Option.some.injEq] at hg
    subst hg
    obtain rfl := Option.some.inj (g2.symm.trans hg2)
    obtain rfl := Option.some.inj (t2.symm.trans ht2)
    exact glP_one hg2 hv2 flat180 hd2 (by decide)
  · cases hg

set_option maxRecDepth 100000 in
theorem lifted (os : Os) (started : os.Started) (H : Type) (enc : TypeId × Value → H) :
    ReturnsInHanded {} Tryd.checked os 7 .any (fun w args => (Rows.fnExactMeanBarsSpec.pre enc Tryd.prog Tryd.f7 Rows.fnExactMeanBarsRow.domain false w args ∧ laidMetH Tryd.prog Rows.fnExactMeanBarsRow.laid w) ∧ sizedMet enc Tryd.prog Tryd.f7 (OpenSpec.ofChange Rows.fnExactMeanBarsSpec) false w args)
      (Rows.fnExactMeanBarsSpec.post enc Tryd.prog Tryd.f7 false true false false) := by
  refine returnsInHanded_of_change_and (C := Tryd.checked) (X := fun w _ => laidMetH Tryd.prog Rows.fnExactMeanBarsRow.laid w) (fun _ _ _ hh h => h.of_heap hh) own started (by kernel_rfl) Tryd.func7
    (ChangeSpec.witness_shaped (enc := enc) (C := Tryd.checked) (os := os) (X := fun w _ => laidMetH Tryd.prog Rows.fnExactMeanBarsRow.laid w) false (World.doorLaid Tryd.prog 400 os) #[.int .i64 0] 8 rfl (World.shaped_of_RefB (by kernel_rfl) (by kernel_rfl)) (by kernel_rfl) (by kernel_rfl) (by kernel_rfl) (door_met os _)) ?_
  intro W base args ds gs before hval0 hW _ _ hL _
  have hval : ∀ (j : Nat) t v, Tryd.f7.params[j]? = some t → args[j]? = some v → Value.okWide Tryd.prog W .any base t v := hval0
  have hW' := hW
  obtain ⟨p, q, hA0, hV, rfl, hfz, hnd⟩ := hW
  have hA : DataW.TrodAll enc Tryd.prog W 0 (fun _ => true) true Tryd.f7.params.toList args.toList ds p := hA0
  rw [Tryd.params7] at hA hval
  have hA1 := hA
  obtain ⟨v0, vs0, d0, ds0, p0, q0, hargs, rfl, rfl, h0, r0⟩ := trodAll_cons hA1
  obtain ⟨rfl, rfl, rfl⟩ := trodAll_nil r0
  obtain rfl : args = #[v0] := by cases args; simp_all
  obtain ⟨e0, gr0, rfl⟩ : ∃ e r, gs = e :: r := by
    cases gs with
    | nil => exact absurd hV (by intro h; exact h.elim)
    | cons a b => exact ⟨a, b, rfl⟩
  obtain rfl : gr0 = [] := by
    cases gr0 with
    | nil => rfl
    | cons a b => exact absurd hV (by intro h; obtain ⟨_, _, _, _, _, _, _, _, _, _, h, _⟩ := h; exact h.elim)
  obtain ⟨a0, b0, R0⟩ := open_i64 Tryd.underlying3 cells3 (hval 0 3 v0 rfl rfl) h0
  refine (law_calls (FnExactMeanBars_law a0 b0) W [v0] ⟨_, _, rfl, R0, rfl⟩ (gl_of hL)).mono fun e W' ⟨he, bel⟩ => ?_
  subst he
  exact ⟨_, rfl, _, _, _, [], _, _, hW', trodAll_mk1 (shut_bool Tryd.underlying4 _), trodAll_below lo bel (by kernel_rfl) hA, Below.trodVars lo bel (by kernel_rfl) hV, bel.frame _, fun h => by cases h⟩

theorem over : Rows.FnExactMeanBarsSaid :=
  OpenClaim.holds_of_wide 7 Tryd.f7 rfl rfl rfl rfl rfl rfl rfl ⟨rfl, rfl, rfl, rfl, rfl⟩ rfl rfl rfl rfl rfl (by kernel_rfl) Tryd.func7 (by kernel_rfl)
    (of_decide_eq_true (by kernel_rfl)) (by unfold Func.isWrapper; first | (rw [if_pos (by decide +kernel)]; kernel_rfl) | (rw [if_neg (by decide +kernel)]; exact ⟨rfl, rfl⟩))
    (fun os started H enc _ => lifted os started H enc)

/-- THE STATEMENT -/
theorem proved : Rows.FnExactMeanBarsCardSaid :=
  Claim7.holds_tied_plain_at .later [] [.data, .data, .data, .data] true (true, "a2c4d911b6045dae72b5e04d1fceb5e79ce95e901d8e9f9efc49e1aef3aa5f80") false
    over (fun _ h => by cases h) (by kernel_rfl) (fun _ h => by cases h) fnExactMeanBars_row_tie rfl ⟨rfl, rfl⟩ (by kernel_rfl) rfl
    (fun f fn hf hfn => by
      obtain rfl : f = 7 := Option.some.inj ((show Tryd.prog.funcNamed "loop.example/g01265/laws.FnExactMeanBars" = some 7 by kernel_rfl).symm.trans hf) |>.symm
      obtain rfl : fn = Tryd.f7 := (Option.some.inj (Tryd.func7.symm.trans hfn)).symm
      exact ⟨by kernel_rfl, fun j t ht => by
        rw [Tryd.params7] at ht
        have hm : t ∈ ([3] : List Nat) := by simpa using Array.mem_of_getElem? ht
        have hall : (([3] : List Nat).all fun u => !Tryd.prog.wantsStandIn u) = true := by kernel_rfl
        exact (show Tryd.prog.wantsStandIn t = false by simpa using List.all_eq_true.1 hall t hm)⟩)
    (by kernel_rfl)

end Go.Proofs.YtbddhdbieelpjaaDoor.fnExactMeanBars
