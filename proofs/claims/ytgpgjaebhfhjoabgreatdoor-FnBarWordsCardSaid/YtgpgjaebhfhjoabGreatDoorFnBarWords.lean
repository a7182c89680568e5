/- Every input of laws.FnBarWords that can be read as data: the call returns true and each argument reads afterwards as it did. No further conditions. -/
import Derived.Test.YtgpgjaebhfhjoabGreatDoorRows
import Derived.Test.YtgpgjaebhfhjoabGreatDoorb4
import Derived.LaidMore
import Derived.OpenVars
import Derived.Test.YtgpgjaebhfhjoabGreatDoorTie
import Derived.Test.YtgpgjaebhfhjoabGreatDoorCards
import Derived.SevenTiedAt
import Derived.Stop.Joined
import Derived.Test.YtgpgjaebhfhjoabGreatDoorPwN
import Derived.WalkKit
import Derived.ProofKit
import Derived.OpenShut
import Derived.Below
namespace Go.Proofs.YtgpgjaebhfhjoabGreatDoor.fnBarWords
open Go.ChangeShapes Go.WideShapes Go.ChangeAt Go.RowKit
set_option linter.unusedVariables false

theorem own : ownKnob Tryz.prog.godebug = none := by kernel_rfl
theorem lo : laidOutB Tryz.prog = true := by kernel_rfl
theorem cells5 : Tryz.prog.cellsOf 5 = 1 := by kernel_rfl
theorem g0 : Tryz.prog.globalNamed "math/bits.deBruijn32tab" = some 4 := by kernel_rfl
theorem t0 : (Tryz.prog.globals[4]?).map (·.type) = some 110 := by kernel_rfl
theorem cells110 : Tryz.prog.cellsOf 110 = 32 := by kernel_rfl
theorem flat110 : FlatTy Tryz.prog 110 [.int .u8, .int .u8, .int .u8, .int .u8, .int .u8, .int .u8, .int .u8, .int .u8, .int .u8, .int .u8, .int .u8, .int .u8, .int .u8, .int .u8, .int .u8, .int .u8, .int .u8, .int .u8, .int .u8, .int .u8, .int .u8, .int .u8, .int .u8, .int .u8, .int .u8, .int .u8, .int .u8, .int .u8, .int .u8, .int .u8, .int .u8, .int .u8] := flatTy_array (n := 32) Tryz.underlying110 (flatTy_int Tryz.underlying5 cells5) cells110
theorem g1 : Tryz.prog.globalNamed "math/bits.deBruijn64tab" = some 5 := by kernel_rfl
theorem t1 : (Tryz.prog.globals[5]?).map (·.type) = some 111 := by kernel_rfl
theorem cells111 : Tryz.prog.cellsOf 111 = 64 := by kernel_rfl
theorem flat111 : FlatTy Tryz.prog 111 [.int .u8, .int .u8, .int .u8, .int .u8, .int .u8, .int .u8, .int .u8, .int .u8, .int .u8, .int .u8, .int .u8, .int .u8, .int .u8, .int .u8, .int .u8, .int .u8, .int .u8, .int .u8, .int .u8, .int .u8, .int .u8, .int .u8, .int .u8, .int .u8, .int .u8, .int .u8, .int .u8, .int .u8, .int .u8, .int .u8, .int .u8, .int .u8, .int .u8, .int .u8, .int .u8, .int .u8, .int .u8, .int .u8, .int .u8, .int .u8, .int .u8, .int .u8, .int .u8, .int .u8, .int .u8, .int .u8, .int .u8, .int .u8, .int .u8, .int .u8, .int .u8, .int .u8, .int .u8, .int .u8, .int .u8, .int .u8, .int .u8, .int .u8, .int .u8, .int .u8, .int .u8, .int .u8, .int .u8, .int .u8] := flatTy_array (n := 64) Tryz.underlying111 (flatTy_int Tryz.underlying5 cells5) cells111
theorem g2 : Tryz.prog.globalNamed "internal/strconv.uint64pow10" = some 3 := by kernel_rfl
theorem t2 : (Tryz.prog.globals[3]?).map (·.type) = some 108 := by kernel_rfl
theorem cells108 : Tryz.prog.cellsOf 108 = 20 := by kernel_rfl
theorem cells42 : Tryz.prog.cellsOf 42 = 1 := by kernel_rfl
theorem flat108 : FlatTy Tryz.prog 108 [.int .u64, .int .u64, .int .u64, .int .u64, .int .u64, .int .u64, .int .u64, .int .u64, .int .u64, .int .u64, .int .u64, .int .u64, .int .u64, .int .u64, .int .u64, .int .u64, .int .u64, .int .u64, .int .u64, .int .u64] := flatTy_array (n := 20) Tryz.underlying108 (flatTy_int Tryz.underlying42 cells42) cells108
theorem g3 : Tryz.prog.globalNamed "loop.example/g01265/impl.letterBars" = some 0 := by kernel_rfl
theorem t3 : (Tryz.prog.globals[0]?).map (·.type) = some 86 := by kernel_rfl
theorem cells86 : Tryz.prog.cellsOf 86 = 16 := by kernel_rfl
theorem cells9 : Tryz.prog.cellsOf 9 = 1 := by kernel_rfl
theorem flat86 : FlatTy Tryz.prog 86 [.str, .str, .str, .str, .str, .str, .str, .str, .str, .str, .str, .str, .str, .str, .str, .str] := flatTy_array (n := 16) Tryz.underlying86 (flatTy_str Tryz.underlying9 cells9) cells86
theorem g4 : Tryz.prog.globalNamed "loop.example/g01265/impl.digitBars" = some 1 := by kernel_rfl
theorem t4 : (Tryz.prog.globals[1]?).map (·.type) = some 90 := by kernel_rfl
theorem cells90 : Tryz.prog.cellsOf 90 = 10 := by kernel_rfl
theorem flat90 : FlatTy Tryz.prog 90 [.str, .str, .str, .str, .str, .str, .str, .str, .str, .str] := flatTy_array (n := 10) Tryz.underlying90 (flatTy_str Tryz.underlying9 cells9) cells90

theorem door_met (os : Os) (args : Array Value) : laidMetH Tryz.prog Rows.fnBarWordsRow.laid ((World.doorLaid Tryz.prog 400 os).forCall (fun _ _ => 0) ⟨#[], args, []⟩).memory :=
  laidMetH_of_parts3 (fuel := 8) (laidMet_of_run' 8 (by kernel_rfl) (by kernel_rfl)) (by kernel_rfl) (by kernel_rfl)

set_option maxRecDepth 100000 in
theorem gl_of {W : World} (h : laidMetH Tryz.prog Rows.fnBarWordsRow.laid W) : GlP W (fun b => b < W.heap.size) := by
  rw [MakeChecks.laidMetH_plain _ _ _ (by kernel_rfl)] at h
  obtain ⟨ps, ⟨n0, y0, cs0, f0, z0, w0, hg0, ht0, hv0, hd0, ⟨n1, y1, cs1, f1, z1, w1, hg1, ht1, hv1, hd1, ⟨n2, y2, cs2, f2, z2, w2, hg2, ht2, hv2, hd2, ⟨n3, y3, cs3, f3, z3, w3, hg3, ht3, hv3, hd3, ⟨n4, y4, cs4, f4, z4, w4, hg4, ht4, hv4, hd4, _, _⟩, _⟩, _⟩, _⟩, _⟩, _, _⟩ := h
  intro g cs hg
  unfold glob at hg
  split at hg
  · simp only [Option.some.injEq] at hg
    subst hg
    obtain rfl := Option.some.inj (g0.symm.trans hg0)
    obtain rfl := Option.some.inj (t0.symm.trans ht0)
    exact glP_one hg0 hv0 flat110 hd0 (by decide)
  · simp only [Option.some.injEq] at hg
    subst hg
    obtain rfl := Option.some.inj (g1.symm.trans hg1)
    obtain rfl := Option.some.inj (t1.symm.trans ht1)
    exact glP_one hg1 hv1 flat111 hd1 (by decide)
  · simp only [Option.some.injEq] at hg
    subst hg
    obtain rfl := Option.some.inj (g2.symm.trans hg2)
    obtain rfl := Option.some.inj (t2.symm.trans ht2)
    exact glP_one hg2 hv2 flat108 hd2 (by decide)
  · simp only [Option.some.injEq] at hg
    subst hg
    obtain rfl := Option.some.inj (g3.symm.trans hg3)
    obtain rfl := Option.some.inj (t3.symm.trans ht3)
    exact glP_one hg3 hv3 flat86 hd3 (by decide)
  · simp only [Option.some.injEq] at hg
    subst hg
    obtain rfl := Option.some.inj (g4.symm.trans hg4)
    obtain rfl := Option.some.inj (t4.symm.trans ht4)
    exact glP_one hg4 hv4 flat90 hd4 (by decide)
  · cases hg

set_option maxRecDepth 100000 in
theorem lifted (os : Os) (started : os.Started) (H : Type) (enc : TypeId × Value → H) :
    ReturnsInHanded {} Tryz.checked os 3 .any (fun w args => (Rows.fnBarWordsSpec.pre enc Tryz.prog Tryz.f3 Rows.fnBarWordsRow.domain false w args ∧ laidMetH Tryz.prog Rows.fnBarWordsRow.laid w) ∧ sizedMet enc Tryz.prog Tryz.f3 (OpenSpec.ofChange Rows.fnBarWordsSpec) false w args)
      (Rows.fnBarWordsSpec.post enc Tryz.prog Tryz.f3 false true false false) := by
  refine returnsInHanded_of_change_and (C := Tryz.checked) (X := fun w _ => laidMetH Tryz.prog Rows.fnBarWordsRow.laid w) (fun _ _ _ hh h => h.of_heap hh) own started (by kernel_rfl) Tryz.func3
    (ChangeSpec.witness_shaped (enc := enc) (C := Tryz.checked) (os := os) (X := fun w _ => laidMetH Tryz.prog Rows.fnBarWordsRow.laid w) false (World.doorLaid Tryz.prog 400 os) #[.slice none 0 0] 8 rfl (World.shaped_of_RefB (by kernel_rfl) (by kernel_rfl)) (by kernel_rfl) (by kernel_rfl) (by kernel_rfl) (door_met os _)) ?_
  intro W base args ds gs before hval0 hW _ _ hL _
  have hval : ∀ (j : Nat) t v, Tryz.f3.params[j]? = some t → args[j]? = some v → Value.okWide Tryz.prog W .any base t v := hval0
  have hW' := hW
  obtain ⟨p, q, hA0, hV, rfl, hfz, hnd⟩ := hW
  have hA : DataW.TrodAll enc Tryz.prog W 0 (fun _ => true) true Tryz.f3.params.toList args.toList ds p := hA0
  rw [Tryz.params3] at hA hval
  have hA1 := hA
  obtain ⟨v0, vs0, d0, ds0, p0, q0, hargs, rfl, rfl, h0, r0⟩ := trodAll_cons hA1
  obtain ⟨rfl, rfl, rfl⟩ := trodAll_nil r0
  obtain rfl : args = #[v0] := by cases args; simp_all
  obtain ⟨e0, gr0, rfl⟩ : ∃ e r, gs = e :: r := by
    cases gs with
    | nil => exact absurd hV (by intro h; exact h.elim)
    | cons a b => exact ⟨a, b, rfl⟩
  obtain ⟨e1, gr1, rfl⟩ : ∃ e r, gr0 = e :: r := by
    cases gr0 with
    | nil => exact absurd hV (by intro h; obtain ⟨_, _, _, _, _, _, _, _, _, _, h, _⟩ := h; exact h.elim)
    | cons a b => exact ⟨a, b, rfl⟩
  obtain rfl : gr1 = [] := by
    cases gr1 with
    | nil => rfl
    | cons a b => exact absurd hV (by intro h; obtain ⟨_, _, _, _, _, _, _, _, _, _, h, _⟩ := h; obtain ⟨_, _, _, _, _, _, _, _, _, _, h, _⟩ := h; exact h.elim)
  obtain ⟨a0, b0, R0⟩ := open_bytes Tryz.underlying22 Tryz.underlying5 cells5 (hval 0 22 v0 rfl rfl) h0
  refine (law_calls (FnBarWords_law a0 b0) W [v0] ⟨_, _, rfl, R0, rfl⟩ (gl_of hL)).mono fun e W' ⟨he, bel⟩ => ?_
  subst he
  exact ⟨_, rfl, _, _, _, [], _, _, hW', trodAll_mk1 (shut_bool Tryz.underlying4 _), trodAll_below lo bel (by kernel_rfl) hA, Below.trodVars lo bel (by kernel_rfl) hV, bel.frame _, fun h => by cases h⟩

theorem over : Rows.FnBarWordsSaid :=
  OpenClaim.holds_of_wide 3 Tryz.f3 rfl rfl rfl rfl rfl rfl rfl ⟨rfl, rfl, rfl, rfl, rfl⟩ rfl rfl rfl rfl rfl (by kernel_rfl) Tryz.func3 (by kernel_rfl)
    (of_decide_eq_true (by kernel_rfl)) (by unfold Func.isWrapper; first | (rw [if_pos (by decide +kernel)]; kernel_rfl) | (rw [if_neg (by decide +kernel)]; exact ⟨rfl, rfl⟩))
    (fun os started H enc _ => lifted os started H enc)

/-- THE STATEMENT -/
theorem proved : Rows.FnBarWordsCardSaid :=
  Claim7.holds_tied_plain_at .later [] [.data, .data, .data, .data, .data] true (true, "5eae75b21a03723f1868498a117bcffaf2af50a10f6d9be657bbe7b31b038487") false
    over (fun _ h => by cases h) (by kernel_rfl) (fun _ h => by cases h) fnBarWords_row_tie rfl ⟨rfl, rfl⟩ (by kernel_rfl) rfl
    (fun f fn hf hfn => by
      obtain rfl : f = 3 := Option.some.inj ((show Tryz.prog.funcNamed "loop.example/g01265/laws.FnBarWords" = some 3 by kernel_rfl).symm.trans hf) |>.symm
      obtain rfl : fn = Tryz.f3 := (Option.some.inj (Tryz.func3.symm.trans hfn)).symm
      exact ⟨by kernel_rfl, fun j t ht => by
        rw [Tryz.params3] at ht
        have hm : t ∈ ([22] : List Nat) := by simpa using Array.mem_of_getElem? ht
        have hall : (([22] : List Nat).all fun u => !Tryz.prog.wantsStandIn u) = true := by kernel_rfl
        exact (show Tryz.prog.wantsStandIn t = false by simpa using List.all_eq_true.1 hall t hm)⟩)
    (by kernel_rfl)

end Go.Proofs.YtgpgjaebhfhjoabGreatDoor.fnBarWords
