/- Maps that are handed on to be read: as an argument, as what a closure has captured. Own work; no conditions; nothing here is about one program. -/
import Derived.Test.YtfagllolcalfiabDoorPwMt
namespace Go.Proofs.YtfagllolcalfiabDoor
open Go.RowKit
set_option linter.unusedVariables false
set_option linter.unusedSimpArgs false
def flatE : List (PV × PV) → List PV
  | [] => []
  | (k, p) :: r => k :: p :: flatE r
def oneE (es : List (PV × PV)) : Prop := ∀ q ∈ es, q.1.one = true ∧ q.2.one = true
def flE (es : List (PV × PV)) : Prop := ∀ q ∈ es, q.1.flat = true ∧ q.2.flat = true
theorem repE_L {w : World} {F : Nat → Prop} : ∀ {es : List (PV × PV)} {xs : List MapEntry}, oneE es → RepE w es xs → RepL w F (flatE es) (entV xs)
  | [], xs, _, h => by simp only [RepE] at h; subst h; rfl
  | (k, p) :: r, xs, ho, h => by
    obtain ⟨e, s, rfl, h1, h2, h3⟩ := h
    have h4 := ho (k, p) List.mem_cons_self
    exact ⟨_, _, rfl, h4.1, Rep.mono (fun _ h => h.elim) (fun _ h => h.elim) k _ h1, _, _, rfl, h4.2, Rep.mono (fun _ h => h.elim) (fun _ h => h.elim) p _ h2, repE_L (fun q hq => ho q (List.mem_cons_of_mem _ hq)) h3⟩
theorem repL_E {w : World} {F : Nat → Prop} : ∀ {es : List (PV × PV)} {xs : List MapEntry}, flE es → RepL w F (flatE es) (entV xs) → RepE w es xs
  | [], xs, _, h => by
    simp only [flatE, RepL] at h
    cases xs with
    | nil => rfl
    | cons e s => cases h
  | (k, p) :: r, xs, hf, h => by
    simp only [flatE, RepL] at h
    obtain ⟨v, r1, hv, _, h1, v2, r2, hv2, _, h2, h3⟩ := h
    have h4 := hf (k, p) List.mem_cons_self
    cases xs with
    | nil => cases hv
    | cons e s =>
      simp only [entV, List.cons.injEq] at hv
      obtain ⟨rfl, hv⟩ := hv
      rw [hv2] at hv
      simp only [List.cons.injEq] at hv
      obtain ⟨rfl, rfl⟩ := hv
      exact ⟨e, s, rfl, Rep.flat k _ h4.1 h1, Rep.flat p _ h4.2 h2, repL_E (fun q hq => hf q (List.mem_cons_of_mem _ hq)) h3⟩
section
variable {P : Program} {n : Nat} {σ : St} {K : St → Prop} {d : Nat} {ty : TypeId} {pos : String} {af : Array Edge} {gd : Option (Nat × Bool)}
theorem imp_mapF {x l : Nat} {es : List (PV × PV)} (h : σ.at x = some (.map l es)) (ho : oneE es) : Imp n σ ((x, .frz l (.mp (flatE es))) :: σ) := by
  intro C a w hS
  obtain ⟨G, hG, hE⟩ := hS.gh
  refine ⟨hS.fp, hS.below, hS.dfs, hS.size, G, hG, fun t z hz => ?_⟩
  simp only [St.at] at hz
  split at hz
  · rename_i he; subst he
    simp only [Option.some.injEq] at hz; subst hz
    obtain ⟨arr, clock, hv, hg, hh, hr⟩ := hE x _ h
    exact ⟨_, arr, clock, hv, hg, hh, repE_L ho hr⟩
  · exact hE t z hz
theorem q_lookupP {t kt et : TypeId} {tk : TK} {z k : PV} {x y : Operand} {s : SV} {es : List (PV × PV)} {ok : Bool} {r : Option (Nat × PV)} (ht : P.underlying t = some (.map kt et)) (hkt : tk.is P kt) (hz : ZvTy P et z)
    (hx : σ.ev x = some s) (hs : s.pv = some (.mp (flatE es))) (hfe : flE es) (hy : σ.ev y = some (.val k)) (hk : keyOk tk k = true) (hf : findE tk k es 0 = some r) (hd : d < n) : quietT P n ⟨some d, .lookup t x y ok, ty, pos, af, gd⟩ σ d (lkRes z ok r) := by
  refine ⟨rfl, hd, fun C a w G hS hG hE => ?_⟩
  have e1 := (hE.ev hx).rep hs
  simp only [Rep] at e1
  obtain ⟨b, arr, clock, hv, hb, hh, hr0⟩ := e1
  have hr := repL_E hfe hr0
  have hkv := hE.ev hy
  simp only [Ok] at hkv
  obtain ⟨z', hz1, hz2⟩ := hz
  have hfe := findE_ok hkv hr hf
  have hlt : b < w.heap.size := (Array.getElem?_eq_some_iff.1 hh).1
  have hkey := keyOk_isKey hk hkv
  have hw2 : ∀ w2, Below w.heap.size w w2 → w2.heap[b]? = some (.map arr clock) := fun w2 hb => by rw [hb.block _ hlt]; exact hh
  cases r with
  | none =>
    cases ok with
    | true =>
      refine ⟨.tuple #[z', .bool false], fun w2 hb => ?_, ⟨[z', .bool false], rfl, z', [.bool false], rfl, cv_ok hz2, .bool false, [], rfl, by simp [Ok, Rep], rfl⟩⟩
      simp [execOp, hv, Instr.lookup, run_underlying ht, MapKept.run_getObj_map (hw2 w2 hb), Result.andThen, MapKept.run_checkKey hkt hkey, MapKept.run_findKey hkt hfe, hz1]
    | false =>
      refine ⟨z', fun w2 hb => ?_, cv_ok hz2⟩
      simp [execOp, hv, Instr.lookup, run_underlying ht, MapKept.run_getObj_map (hw2 w2 hb), Result.andThen, MapKept.run_checkKey hkt hkey, MapKept.run_findKey hkt hfe, hz1]
  | some xx =>
    obtain ⟨j, p⟩ := xx
    obtain ⟨v, g1, g2, _⟩ := hfe
    cases ok with
    | true =>
      refine ⟨.tuple #[v, .bool true], fun w2 hb => ?_, ⟨[v, .bool true], rfl, v, [.bool true], rfl, g2, .bool true, [], rfl, by simp [Ok, Rep], rfl⟩⟩
      simp [execOp, hv, Instr.lookup, run_underlying ht, MapKept.run_getObj_map (hw2 w2 hb), Result.andThen, MapKept.run_checkKey hkt hkey, MapKept.run_findKey hkt g1]
    | false =>
      refine ⟨v, fun w2 hb => ?_, g2⟩
      simp [execOp, hv, Instr.lookup, run_underlying ht, MapKept.run_getObj_map (hw2 w2 hb), Result.andThen, MapKept.run_checkKey hkt hkey, MapKept.run_findKey hkt g1]
end
end Go.Proofs.YtfagllolcalfiabDoor
