/- Contracts of functions, walked over the pure layer; each says for which arguments. -/
import Derived.Test.YtilpfcpjmfchbaaDoorS3bTy
import Derived.Test.YtilpfcpjmfchbaaDoorTf
import Derived.Test.YtilpfcpjmfchbaaDoorSp
import Derived.Test.YtilpfcpjmfchbaaDoorS3
namespace Go.Proofs.YtilpfcpjmfchbaaDoor
open Go.RowKit S3bTy
set_option linter.unusedVariables false
set_option linter.unusedSimpArgs false

/-- A list of faults, as its cells lie. -/
def fl (fs : List (Int × Int)) : List PV := (fs.map fun f => [PV.int .i64 f.1, PV.int .i64 f.2]).flatten
theorem fl_at : ∀ (fs : List (Int × Int)) (k : Nat), k < fs.length → ((fl fs).drop (k * 2)).take 2 = [PV.int .i64 (fs.getD k (0, 0)).1, PV.int .i64 (fs.getD k (0, 0)).2]
  | f :: fs, 0, _ => rfl
  | f :: fs, k + 1, h => by
    have ih := fl_at fs k (by simpa using h)
    show (((PV.int .i64 f.1 :: PV.int .i64 f.2 :: fl fs)).drop ((k + 1) * 2)).take 2 = _
    rw [show (k + 1) * 2 = k * 2 + 2 by omega]
    exact ih
theorem fl_len : ∀ fs : List (Int × Int), (fl fs).length = fs.length * 2
  | [] => rfl
  | f :: fs => by
    show (PV.int .i64 f.1 :: PV.int .i64 f.2 :: fl fs).length = _
    simp only [List.length_cons, fl_len fs]; omega
theorem fl_flat : ∀ fs : List (Int × Int), PV.flatL (fl fs) = true
  | [] => rfl
  | f :: fs => by
    show PV.flatL (PV.int .i64 f.1 :: PV.int .i64 f.2 :: fl fs) = true
    simp only [PV.flatL, PV.flat, fl_flat fs, Bool.and_self]
def FaultsP (fs : List (Int × Int)) (l : List Int) : Prop := fs.length = l.length ∧ RowP l ∧ ∀ f ∈ fs, FaultP f.1 f.2
instance (fs : List (Int × Int)) (l : List Int) : Decidable (FaultsP fs l) := by unfold FaultsP; infer_instance
theorem FaultsP.at {fs : List (Int × Int)} {l : List Int} (h : FaultsP fs l) {j : Nat} (hj : j < fs.length) : FaultP (fs.getD j (0, 0)).1 (fs.getD j (0, 0)).2 := by
  rw [List.getD_eq_getElem?_getD, List.getElem?_eq_getElem hj]
  exact h.2.2 _ (List.getElem_mem hj)
theorem FaultsP.of {fs : List (Int × Int)} {l : List Int} (h1 : fs.length = l.length) (h2 : RowP l) (h : ∀ j, j < fs.length → FaultP (fs.getD j (0, 0)).1 (fs.getD j (0, 0)).2) : FaultsP fs l := ⟨h1, h2, fun f hf => by
  obtain ⟨j, hj, rfl⟩ := List.mem_iff_getElem.1 hf
  have := h j hj
  rw [List.getD_eq_getElem?_getD, List.getElem?_eq_getElem hj] at this
  exact this⟩
theorem fl_put : ∀ (gs : List (Int × Int)) (k : Nat) (x y : Int), k < gs.length → putAt (fl gs) (k * 2) [PV.int .i64 x, PV.int .i64 y] = fl (gs.set k (x, y))
  | g :: gs, 0, x, y, _ => by
    show ((PV.int .i64 g.1 :: PV.int .i64 g.2 :: fl gs).take 0 ++ [PV.int .i64 x, PV.int .i64 y] ++ (PV.int .i64 g.1 :: PV.int .i64 g.2 :: fl gs).drop (0 + 2)) = _
    rfl
  | g :: gs, k + 1, x, y, h => by
    have ih := fl_put gs k x y (by simpa using h)
    show ((PV.int .i64 g.1 :: PV.int .i64 g.2 :: fl gs).take ((k + 1) * 2) ++ [PV.int .i64 x, PV.int .i64 y] ++ (PV.int .i64 g.1 :: PV.int .i64 g.2 :: fl gs).drop ((k + 1) * 2 + 2)) = PV.int .i64 g.1 :: PV.int .i64 g.2 :: fl (gs.set k (x, y))
    rw [← ih, show (k + 1) * 2 = k * 2 + 1 + 1 by omega, show k * 2 + 1 + 1 + 2 = k * 2 + 2 + 1 + 1 by omega]
    rfl
theorem fl_put0 : ∀ (gs : List (Int × Int)) (k : Nat) (x : Int), k < gs.length → putAt (fl gs) (k * 2) [PV.int .i64 x] = fl (gs.set k (x, (gs.getD k (0, 0)).2))
  | g :: gs, 0, x, _ => rfl
  | g :: gs, k + 1, x, h => by
    have ih := fl_put0 gs k x (by simpa using h)
    show ((PV.int .i64 g.1 :: PV.int .i64 g.2 :: fl gs).take ((k + 1) * 2) ++ [PV.int .i64 x] ++ (PV.int .i64 g.1 :: PV.int .i64 g.2 :: fl gs).drop ((k + 1) * 2 + 1)) = PV.int .i64 g.1 :: PV.int .i64 g.2 :: fl (gs.set k (x, (gs.getD k (0, 0)).2))
    rw [← ih, show (k + 1) * 2 = k * 2 + 1 + 1 by omega, show k * 2 + 1 + 1 + 1 = k * 2 + 1 + 1 + 1 by omega]
    rfl
theorem fl_put1 : ∀ (gs : List (Int × Int)) (k : Nat) (x : Int), k < gs.length → putAt (fl gs) (k * 2 + 1) [PV.int .i64 x] = fl (gs.set k ((gs.getD k (0, 0)).1, x))
  | g :: gs, 0, x, _ => rfl
  | g :: gs, k + 1, x, h => by
    have ih := fl_put1 gs k x (by simpa using h)
    show ((PV.int .i64 g.1 :: PV.int .i64 g.2 :: fl gs).take ((k + 1) * 2 + 1) ++ [PV.int .i64 x] ++ (PV.int .i64 g.1 :: PV.int .i64 g.2 :: fl gs).drop ((k + 1) * 2 + 1 + 1)) = PV.int .i64 g.1 :: PV.int .i64 g.2 :: fl (gs.set k ((gs.getD k (0, 0)).1, x))
    rw [← ih, show (k + 1) * 2 + 1 = k * 2 + 1 + 1 + 1 by omega, show k * 2 + 1 + 1 + 1 + 1 = k * 2 + 1 + 1 + 1 + 1 by omega]
    rfl
theorem zeros_fl (k : Nat) : zeros [PV.int .i64 0, PV.int .i64 0] k = fl (List.replicate k (0, 0)) := by
  induction k with
  | zero => rfl
  | succ k ih =>
    have h : fl (List.replicate (k + 1) (0, 0)) = fl (List.replicate k (0, 0)) ++ [PV.int .i64 0, PV.int .i64 0] := by
      rw [List.replicate_succ']; simp [fl]
    rw [h, ← ih]
    unfold zeros
    rw [show (k + 1) * [PV.int IntKind.i64 0, PV.int IntKind.i64 0].length = k * [PV.int IntKind.i64 0, PV.int IntKind.i64 0].length + 1 + 1 by simp; omega, List.range_succ, List.range_succ, List.map_append, List.map_append, List.append_assoc]
    congr 1
    simp [show (k * 2) % 2 = 0 by omega, show (k * 2 + 1) % 2 = 1 by omega]
theorem fl_fill (a : List (Int × Int)) {k : Nat} (h : k < a.length) : putAt (fl (a.take k ++ List.replicate (a.length - k) (0, 0))) (k * 2) [PV.int .i64 (a.getD k (0, 0)).1, PV.int .i64 (a.getD k (0, 0)).2] = fl (a.take (k + 1) ++ List.replicate (a.length - (k + 1)) (0, 0)) := by
  rw [fl_put _ _ _ _ (by simp; omega), take_snocI (0, 0) a k h, List.set_append_right _ _ (by simp; omega), show k - (a.take k).length = 0 by simp; omega, show a.length - k = a.length - (k + 1) + 1 by omega, List.replicate_succ, List.set_cons_zero]
  simp
def shRowK (fs : List (Int × Int)) (l : List Int) (k : Nat) : List Int := (List.range k).map fun j => shF (fs.getD j (0, 0)).1 (fs.getD j (0, 0)).2 (l.getD j 0)
theorem shRowK_succ (fs : List (Int × Int)) (l : List Int) (k : Nat) : shRowK fs l (k + 1) = shRowK fs l k ++ [shF (fs.getD k (0, 0)).1 (fs.getD k (0, 0)).2 (l.getD k 0)] := by
  unfold shRowK; rw [List.range_succ, List.map_append]; rfl
theorem shRowK_len (fs : List (Int × Int)) (l : List Int) (k : Nat) : (shRowK fs l k).length = k := by simp [shRowK]
def shRow (fs : List (Int × Int)) (l : List Int) : List Int := shRowK fs l l.length
theorem shRow_len (fs : List (Int × Int)) (l : List Int) : (shRow fs l).length = l.length := shRowK_len fs l _

end Go.Proofs.YtilpfcpjmfchbaaDoor
