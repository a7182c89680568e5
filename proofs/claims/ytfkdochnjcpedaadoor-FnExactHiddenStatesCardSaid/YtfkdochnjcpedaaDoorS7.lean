/- Contracts of functions, walked over the pure layer; each says for which arguments. -/
import Derived.Test.YtfkdochnjcpedaaDoorS7Ty
import Derived.Test.YtfkdochnjcpedaaDoorTf
import Derived.Test.YtfkdochnjcpedaaDoorSp
import Derived.Test.YtfkdochnjcpedaaDoorS3
namespace Go.Proofs.YtfkdochnjcpedaaDoor
open Go.RowKit S7Ty
set_option linter.unusedVariables false
set_option linter.unusedSimpArgs false

/-- A list of faults, as its cells lie. -/
def fl (fs : List (Int × Int)) : List PV := (fs.map fun f => [PV.int .i64 f.1, PV.int .i64 f.2]).flatten
theorem fl_at : ∀ (fs : List (Int × Int)) (k : Nat), k < fs.length → ((fl fs).drop (k * 2)).take 2 = [PV.int .i64 (fs.getD k (0, 0)).1, PV.int .i64 (fs.getD k (0, 0)).2]
  | f :: fs, 0, _ => rfl
  | f :: fs, k + 1, h => by
    have ih := fl_at fs k (by simpa using h)
    show (((PV.int .i64 f.1 :: PV.int .i64 f.2 :: fl fs)).drop ((k + 1) * 2)).take 2 = _
    rw [show (k + 1) * 2 = k * 2 + 2 by omega]
    exact ih
theorem fl_len : ∀ fs : List (Int × Int), (fl fs).length = fs.length * 2
  | [] => rfl
  | f :: fs => by
    show (PV.int .i64 f.1 :: PV.int .i64 f.2 :: fl fs).length = _
    simp only [List.length_cons, fl_len fs]; omega
theorem fl_flat : ∀ fs : List (Int × Int), PV.flatL (fl fs) = true
  | [] => rfl
  | f :: fs => by
    show PV.flatL (PV.int .i64 f.1 :: PV.int .i64 f.2 :: fl fs) = true
    simp only [PV.flatL, PV.flat, fl_flat fs, Bool.and_self]
theorem fl_put : ∀ (gs : List (Int × Int)) (k : Nat) (x y : Int), k < gs.length → putAt (fl gs) (k * 2) [PV.int .i64 x, PV.int .i64 y] = fl (gs.set k (x, y))
  | g :: gs, 0, x, y, _ => by
    show ((PV.int .i64 g.1 :: PV.int .i64 g.2 :: fl gs).take 0 ++ [PV.int .i64 x, PV.int .i64 y] ++ (PV.int .i64 g.1 :: PV.int .i64 g.2 :: fl gs).drop (0 + 2)) = _
    rfl
  | g :: gs, k + 1, x, y, h => by
    have ih := fl_put gs k x y (by simpa using h)
    show ((PV.int .i64 g.1 :: PV.int .i64 g.2 :: fl gs).take ((k + 1) * 2) ++ [PV.int .i64 x, PV.int .i64 y] ++ (PV.int .i64 g.1 :: PV.int .i64 g.2 :: fl gs).drop ((k + 1) * 2 + 2)) = PV.int .i64 g.1 :: PV.int .i64 g.2 :: fl (gs.set k (x, y))
    rw [← ih, show (k + 1) * 2 = k * 2 + 1 + 1 by omega, show k * 2 + 1 + 1 + 2 = k * 2 + 2 + 1 + 1 by omega]
    rfl
theorem fl_put0 : ∀ (gs : List (Int × Int)) (k : Nat) (x : Int), k < gs.length → putAt (fl gs) (k * 2) [PV.int .i64 x] = fl (gs.set k (x, (gs.getD k (0, 0)).2))
  | g :: gs, 0, x, _ => rfl
  | g :: gs, k + 1, x, h => by
    have ih := fl_put0 gs k x (by simpa using h)
    show ((PV.int .i64 g.1 :: PV.int .i64 g.2 :: fl gs).take ((k + 1) * 2) ++ [PV.int .i64 x] ++ (PV.int .i64 g.1 :: PV.int .i64 g.2 :: fl gs).drop ((k + 1) * 2 + 1)) = PV.int .i64 g.1 :: PV.int .i64 g.2 :: fl (gs.set k (x, (gs.getD k (0, 0)).2))
    rw [← ih, show (k + 1) * 2 = k * 2 + 1 + 1 by omega, show k * 2 + 1 + 1 + 1 = k * 2 + 1 + 1 + 1 by omega]
    rfl
theorem fl_put1 : ∀ (gs : List (Int × Int)) (k : Nat) (x : Int), k < gs.length → putAt (fl gs) (k * 2 + 1) [PV.int .i64 x] = fl (gs.set k ((gs.getD k (0, 0)).1, x))
  | g :: gs, 0, x, _ => rfl
  | g :: gs, k + 1, x, h => by
    have ih := fl_put1 gs k x (by simpa using h)
    show ((PV.int .i64 g.1 :: PV.int .i64 g.2 :: fl gs).take ((k + 1) * 2 + 1) ++ [PV.int .i64 x] ++ (PV.int .i64 g.1 :: PV.int .i64 g.2 :: fl gs).drop ((k + 1) * 2 + 1 + 1)) = PV.int .i64 g.1 :: PV.int .i64 g.2 :: fl (gs.set k ((gs.getD k (0, 0)).1, x))
    rw [← ih, show (k + 1) * 2 + 1 = k * 2 + 1 + 1 + 1 by omega, show k * 2 + 1 + 1 + 1 + 1 = k * 2 + 1 + 1 + 1 + 1 by omega]
    rfl
theorem zeros_fl (k : Nat) : zeros [PV.int .i64 0, PV.int .i64 0] k = fl (List.replicate k (0, 0)) := by
  induction k with
  | zero => rfl
  | succ k ih =>
    have h : fl (List.replicate (k + 1) (0, 0)) = fl (List.replicate k (0, 0)) ++ [PV.int .i64 0, PV.int .i64 0] := by
      rw [List.replicate_succ']; simp [fl]
    rw [h, ← ih]
    unfold zeros
    rw [show (k + 1) * [PV.int IntKind.i64 0, PV.int IntKind.i64 0].length = k * [PV.int IntKind.i64 0, PV.int IntKind.i64 0].length + 1 + 1 by simp; omega, List.range_succ, List.range_succ, List.map_append, List.map_append, List.append_assoc]
    congr 1
    simp [show (k * 2) % 2 = 0 by omega, show (k * 2 + 1) % 2 = 1 by omega]
theorem fl_get0 : ∀ (gs : List (Int × Int)) (k : Nat), k < gs.length → (fl gs)[k * 2]? = some (PV.int .i64 (gs.getD k (0, 0)).1)
  | g :: gs, 0, _ => rfl
  | g :: gs, k + 1, h => by
    have ih := fl_get0 gs k (by simpa using h)
    show (PV.int .i64 g.1 :: PV.int .i64 g.2 :: fl gs)[(k + 1) * 2]? = _
    rw [show (k + 1) * 2 = k * 2 + 1 + 1 by omega]
    exact ih
theorem fl_get1 : ∀ (gs : List (Int × Int)) (k : Nat), k < gs.length → (fl gs)[k * 2 + 1]? = some (PV.int .i64 (gs.getD k (0, 0)).2)
  | g :: gs, 0, _ => rfl
  | g :: gs, k + 1, h => by
    have ih := fl_get1 gs k (by simpa using h)
    show (PV.int .i64 g.1 :: PV.int .i64 g.2 :: fl gs)[(k + 1) * 2 + 1]? = _
    rw [show (k + 1) * 2 + 1 = k * 2 + 1 + 1 + 1 by omega]
    exact ih
theorem fl_drop0 : ∀ (gs : List (Int × Int)) (k : Nat), k < gs.length → (fl gs).drop (k * 2) = PV.int .i64 (gs.getD k (0, 0)).1 :: PV.int .i64 (gs.getD k (0, 0)).2 :: (fl gs).drop ((k + 1) * 2)
  | g :: gs, 0, _ => rfl
  | g :: gs, k + 1, h => by
    have ih := fl_drop0 gs k (by simpa using h)
    show (PV.int .i64 g.1 :: PV.int .i64 g.2 :: fl gs).drop ((k + 1) * 2) = _ :: _ :: (PV.int .i64 g.1 :: PV.int .i64 g.2 :: fl gs).drop ((k + 1 + 1) * 2)
    rw [show (k + 1) * 2 = k * 2 + 1 + 1 by omega, show (k + 1 + 1) * 2 = (k + 1) * 2 + 1 + 1 by omega]
    exact ih
theorem fl_drop1 (gs : List (Int × Int)) (k : Nat) (h : k < gs.length) : ((fl gs).drop (k * 2)).drop 1 = PV.int .i64 (gs.getD k (0, 0)).2 :: (fl gs).drop ((k + 1) * 2) := by
  rw [fl_drop0 gs k h]; rfl
def markF (n : Nat) (k : Int) : List (Int × Int) := (List.range n).map fun (j : Nat) => (k + 2 * j, k + 2 * j + 1)
theorem markF_len (n : Nat) (k : Int) : (markF n k).length = n := by simp [markF]
theorem markF_get (n : Nat) (k : Int) {j : Nat} (h : j < n) : (markF n k).getD j (0, 0) = (k + 2 * j, k + 2 * j + 1) := by
  simp [markF, h]
theorem markF_succ (n : Nat) (k : Int) : markF (n + 1) k = markF n k ++ [(k + 2 * n, k + 2 * n + 1)] := by
  unfold markF; rw [List.range_succ, List.map_append]; rfl
theorem markF_set (l : List (Int × Int)) (k : Int) {j : Nat} (h : j < l.length) : (markF j k ++ l.drop j).set j (k + 2 * j, k + 2 * j + 1) = markF (j + 1) k ++ l.drop (j + 1) := by
  rw [List.set_append_right _ _ (by simp [markF]), show j - (markF j k).length = 0 by simp [markF], List.drop_eq_getElem_cons h, List.set_cons_zero, markF_succ]
  simp
theorem markF_put (l : List (Int × Int)) (k : Int) {i : Int} (h0 : 0 ≤ i) {j : Nat} (e : i.toNat = j) (h : j < l.length) : putAt (putAt (fl (markF j k ++ l.drop j)) (j * 2 + 0) [PV.int .i64 (k + 2 * i)]) (j * 2 + 1) [PV.int .i64 (k + 2 * i + 1)] = fl (markF (j + 1) k ++ l.drop (j + 1)) := by
  have hj : j < (markF j k ++ l.drop j).length := by simp [markF]; omega
  rw [Nat.add_zero, fl_put0 _ _ _ hj, fl_put1 _ _ _ (by simpa using hj), List.set_set, ← markF_set l k h]
  congr 2
  rw [List.getD_eq_getElem?_getD, List.getElem?_set_self hj, show ((j : Nat) : Int) = i by omega]
  rfl

/-- A State: its bar and its kind. -/
def StP (b k : Int) : Prop := (k = 0 ∧ b = 0) ∨ ((1 ≤ k ∧ k ≤ 2) ∧ 0 ≤ b ∧ b ≤ 6)
instance (b k : Int) : Decidable (StP b k) := by unfold StP; infer_instance
def sdk (b k : Int) : Int := if k = 1 then ((p2 b.toNat : Nat) : Int) else 0
def slt (b k : Int) : Int := if k = 2 then ((p2 b.toNat : Nat) : Int) else 0
theorem p2_6 {k : Nat} (h : k ≤ 6) : 1 ≤ p2 k ∧ p2 k ≤ 64 := by
  have h1 : p2 k ≤ p2 6 := Nat.pow_le_pow_right (by omega) h
  have h2 : 0 < p2 k := Nat.pow_pos (by omega)
  exact ⟨h2, h1⟩
theorem StP.bd {b k : Int} (h : StP b k) : (0 ≤ sdk b k ∧ sdk b k ≤ 127) ∧ (0 ≤ slt b k ∧ slt b k ≤ 127) := by
  unfold sdk slt
  rcases h with ⟨rfl, rfl⟩ | ⟨h1, h2⟩
  · simp
  · have := p2_6 (k := b.toNat) (by omega)
    constructor <;> split <;> omega
def allS : List (Int × Int) := [(0, 0), (0, 1), (1, 1), (2, 1), (3, 1), (4, 1), (5, 1), (6, 1), (0, 2), (1, 2), (2, 2), (3, 2), (4, 2), (5, 2), (6, 2)]
theorem allS_len : allS.length = 15 := rfl
theorem allS_ok {i : Nat} (h : i < 15) : StP (allS.getD i (0, 0)).1 (allS.getD i (0, 0)).2 := by
  have k : ∀ i : Fin 15, StP (allS.getD i.val (0, 0)).1 (allS.getD i.val (0, 0)).2 := by decide
  exact k ⟨i, h⟩
theorem allS_at {b k : Int} (hk : 1 ≤ k ∧ k ≤ 2) (hb : 0 ≤ b ∧ b ≤ 6) : allS.take (1 + 7 * (k - 1).toNat + (b + 1).toNat) = allS.take (1 + 7 * (k - 1).toNat + b.toNat) ++ [(b, k)] := by
  obtain ⟨kn, rfl⟩ : ∃ n : Nat, k = n := ⟨k.toNat, by omega⟩
  obtain ⟨bn, rfl⟩ : ∃ n : Nat, b = n := ⟨b.toNat, by omega⟩
  have key : ∀ i : Fin 3, ∀ j : Fin 7, 1 ≤ i.val → allS.take (1 + 7 * ((i.val : Int) - 1).toNat + ((j.val : Int) + 1).toNat) = allS.take (1 + 7 * ((i.val : Int) - 1).toNat + (j.val : Int).toNat) ++ [((j.val : Int), (i.val : Int))] := by decide
  exact key ⟨kn, by omega⟩ ⟨bn, by omega⟩ (by show 1 ≤ kn; omega)
def TstP (l : List Int) : Prop := l.length ≤ 10 ∧ ∀ j, j < l.length → 0 ≤ l.getD j 0 ∧ l.getD j 0 ≤ 9
instance (l : List Int) : Decidable (TstP l) := by unfold TstP; infer_instance
/-- A digit finds a State. -/
def FdP (b k d : Int) : Prop := shF (sdk b k) (slt b k) (digT.getD d.toNat 0) ≠ digT.getD d.toNat 0
instance (b k d : Int) : Decidable (FdP b k d) := by unfold FdP; infer_instance
/-- The place of the first digit that finds a State, or -1. -/
def plc (l : List Int) (b k : Int) : Int := match (List.range l.length).find? (fun i => decide (FdP b k (l.getD i 0))) with
  | some i => (i : Int)
  | none => -1
theorem plc_some {l : List Int} {b k : Int} {i : Nat} (h : i < l.length) (h1 : FdP b k (l.getD i 0)) (h2 : ∀ j, j < i → ¬ FdP b k (l.getD j 0)) : plc l b k = (i : Int) := by
  have e : (List.range l.length).find? (fun i => decide (FdP b k (l.getD i 0))) = some i := by
    rw [List.find?_eq_some_iff_getElem]
    exact ⟨decide_eq_true h1, i, by simpa using h, by simp, fun j hj => by simp only [List.getElem_range, Bool.not_eq_true', decide_eq_false_iff_not]; exact h2 j hj⟩
  unfold plc; rw [e]
theorem plc_none {l : List Int} {b k : Int} (h : ∀ j, j < l.length → ¬ FdP b k (l.getD j 0)) : plc l b k = -1 := by
  have e : (List.range l.length).find? (fun i => decide (FdP b k (l.getD i 0))) = none := by
    rw [List.find?_eq_none]
    intro i hi
    simp only [decide_eq_true_eq]
    exact h i (List.mem_range.1 hi)
  unfold plc; rw [e]
theorem plc_bd (l : List Int) (b k : Int) : -1 ≤ plc l b k ∧ plc l b k ≤ l.length := by
  unfold plc
  split
  · rename_i i hi
    have := List.mem_range.1 (List.mem_of_find?_eq_some hi)
    omega
  · omega
/-- Of the States but the first so many: those that a test finds, or does not find. -/
def fndK (l : List Int) (fo : Bool) (k : Nat) : List (Int × Int) := ((allS.take k).drop 1).filter fun s => decide (0 ≤ plc l s.1 s.2) == fo
theorem fndK_succ (l : List Int) (fo : Bool) {k : Nat} (h0 : 1 ≤ k) (h : k < 15) : fndK l fo (k + 1) = fndK l fo k ++ if decide (0 ≤ plc l (allS.getD k (0, 0)).1 (allS.getD k (0, 0)).2) = fo then [allS.getD k (0, 0)] else [] := by
  unfold fndK
  have hk : k < allS.length := by rw [allS_len]; exact h
  have e : (allS.take (k + 1)).drop 1 = (allS.take k).drop 1 ++ [allS.getD k (0, 0)] := by
    rw [List.take_add_one, List.getElem?_eq_getElem hk, List.getD_eq_getElem?_getD, List.getElem?_eq_getElem hk, List.drop_append_of_le_length (by rw [List.length_take]; omega)]
    rfl
  rw [e, List.filter_append]
  congr 1
  rw [List.filter_cons]
  by_cases hd : decide (0 ≤ plc l (allS.getD k (0, 0)).1 (allS.getD k (0, 0)).2) = fo
  · rw [if_pos (by rw [hd]; exact BEq.rfl), if_pos hd]; rfl
  · rw [if_neg (fun z => hd (eq_of_beq z)), if_neg hd]; rfl
theorem fndK_len (l : List Int) (fo : Bool) (k : Nat) : (fndK l fo k).length ≤ 14 := by
  unfold fndK
  refine Nat.le_trans (List.length_filter_le _ _) ?_
  rw [List.length_drop, List.length_take, allS_len]; omega
def fnd (l : List Int) (fo : Bool) : List (Int × Int) := fndK l fo 15
theorem fnd_len (l : List Int) (fo : Bool) : (fnd l fo).length ≤ 14 := fndK_len l fo 15
def FulP (l : List Int) : Prop := fnd l false = []
instance (l : List Int) : Decidable (FulP l) := by unfold FulP; infer_instance
theorem ful_len (l : List Int) : (((fnd l false).length : Nat) : Int) = 0 ↔ FulP l := by
  unfold FulP
  rw [← List.length_eq_zero_iff]; omega
/-- The changes of the first so many steps of a test. -/
def chT (l : List Int) : Nat → Int
  | 0 => 0
  | i + 1 => chT l i + ((cnt7 ((digT.getD (l.getD i 0).toNat 0).toNat ^^^ (digT.getD (l.getD (i + 1) 0).toNat 0).toNat) : Nat) : Int)
theorem chT_le (l : List Int) : ∀ i : Nat, 0 ≤ chT l i ∧ chT l i ≤ 7 * i
  | 0 => by simp [chT]
  | i + 1 => by
    have h1 := chT_le l i
    have h2 := cnt7_le ((digT.getD (l.getD i 0).toNat 0).toNat ^^^ (digT.getD (l.getD (i + 1) 0).toNat 0).toNat)
    unfold chT; omega
def fitQ (b k : Int) (l cs : List Int) : Prop := ∀ j, j < l.length → shF (sdk b k) (slt b k) (digT.getD (l.getD j 0).toNat 0) = cs.getD j 0
instance (b k : Int) (l cs : List Int) : Decidable (fitQ b k l cs) := by unfold fitQ; infer_instance
def RdsP (l cs : List Int) : Prop := TstP l ∧ (cs.length : Int) = l.length ∧ ∀ j, j < cs.length → 0 ≤ cs.getD j 0 ∧ cs.getD j 0 ≤ 127
instance (l cs : List Int) : Decidable (RdsP l cs) := by unfold RdsP; infer_instance
/-- The States among the first so many under which a test shows cells. -/
def rdsK (l cs : List Int) (k : Nat) : List (Int × Int) := (allS.take k).filter fun s => fitQ s.1 s.2 l cs
theorem rdsK_succ (l cs : List Int) {k : Nat} (h : k < 15) : rdsK l cs (k + 1) = rdsK l cs k ++ if fitQ (allS.getD k (0, 0)).1 (allS.getD k (0, 0)).2 l cs then [allS.getD k (0, 0)] else [] := by
  unfold rdsK
  have hk : k < allS.length := by rw [allS_len]; exact h
  rw [List.take_add_one, List.getElem?_eq_getElem hk, List.filter_append, List.getD_eq_getElem?_getD, List.getElem?_eq_getElem hk]
  congr 1
  show List.filter _ [allS[k]] = _
  rw [List.filter_cons]
  by_cases hd : fitQ (allS[k]).1 (allS[k]).2 l cs
  · rw [if_pos (decide_eq_true hd)]
    exact (if_pos hd).symm
  · rw [if_neg (fun z => hd (of_decide_eq_true z))]
    exact (if_neg hd).symm
theorem rdsK_len (l cs : List Int) (k : Nat) : (rdsK l cs k).length ≤ 15 := by
  unfold rdsK
  refine Nat.le_trans (List.length_filter_le _ _) ?_
  rw [List.length_take, allS_len]; omega
def ixL (l : List Int) (n : Int) : Nat := (l.takeWhile fun x => decide (x < n)).length
theorem ixL_le (l : List Int) (n : Int) : ixL l n ≤ l.length := (List.takeWhile_sublist _).length_le
theorem ixL_eq {n : Int} : ∀ {l : List Int} {k : Nat}, k ≤ l.length → (∀ j, j < k → l.getD j 0 < n) → (k = l.length ∨ ¬ l.getD k 0 < n) → ixL l n = k
  | [], k, h, _, _ => by simp at h; subst h; rfl
  | x :: l, 0, _, _, h => by
    have hx : ¬ x < n := by
      rcases h with h | h
      · simp at h
      · exact h
    unfold ixL
    rw [List.takeWhile_cons, if_neg (fun e => hx (of_decide_eq_true e))]; rfl
  | x :: l, k + 1, h, h1, h2 => by
    have hx : x < n := h1 0 (by omega)
    have ih := ixL_eq (n := n) (l := l) (k := k) (by simp only [List.length_cons] at h; omega) (fun j hj => h1 (j + 1) (by omega)) (h2.imp (fun e => by simp only [List.length_cons] at e; omega) id)
    unfold ixL at ih ⊢
    rw [List.takeWhile_cons, if_pos (decide_eq_true hx), List.length_cons, ih]
def PutP (l : List Int) (n : Int) : Prop := ixL l n < l.length ∧ l.getD (ixL l n) 0 = n
instance (l : List Int) (n : Int) : Decidable (PutP l n) := by unfold PutP; infer_instance
def putL (l : List Int) (n : Int) : List Int := l.take (ixL l n) ++ [n] ++ l.drop (ixL l n)
theorem putL_len (l : List Int) (n : Int) : (putL l n).length = l.length + 1 := by
  have := ixL_le l n
  unfold putL; simp only [List.length_append, List.length_take, List.length_drop, List.length_cons, List.length_nil]; omega
theorem putL_mem {l : List Int} {n x : Int} (h : x ∈ putL l n) : x = n ∨ x ∈ l := by
  unfold putL at h
  simp only [List.mem_append, List.mem_singleton] at h
  rcases h with (h | h) | h
  · exact .inr (List.mem_of_mem_take h)
  · exact .inl h
  · exact .inr (List.mem_of_mem_drop h)
def put1 (l : List Int) (n : Int) : List Int := if PutP l n then l else putL l n
/-- The set of a test. -/
def setF (l : List Int) : List Int := l.foldl put1 []
theorem setF_take (l : List Int) {i : Nat} (h : i < l.length) : setF (l.take (i + 1)) = put1 (setF (l.take i)) (l.getD i 0) := by
  unfold setF
  rw [List.take_add_one, List.getElem?_eq_getElem h, List.foldl_append, List.getD_eq_getElem?_getD, List.getElem?_eq_getElem h]; rfl
theorem setF_mem : ∀ (l o : List Int) (x : Int), x ∈ l.foldl put1 o → x ∈ o ∨ x ∈ l
  | [], _, _, h => .inl h
  | d :: l, o, x, h => by
    rcases setF_mem l (put1 o d) x h with h | h
    · unfold put1 at h
      split at h
      · exact .inl h
      · rcases putL_mem h with rfl | h
        · exact .inr List.mem_cons_self
        · exact .inl h
    · exact .inr (List.mem_cons_of_mem _ h)
theorem setF_lenO : ∀ (l o : List Int), (l.foldl put1 o).length ≤ o.length + l.length
  | [], _ => by simp
  | d :: l, o => by
    have := setF_lenO l (put1 o d)
    have h2 : (put1 o d).length ≤ o.length + 1 := by
      unfold put1; split
      · omega
      · rw [putL_len]; omega
    simp only [List.foldl_cons, List.length_cons]; omega
theorem setF_len (l : List Int) : (setF l).length ≤ l.length := by have := setF_lenO l []; simpa [setF] using this
theorem TstP.of_mem {l : List Int} (h : l.length ≤ 10) (h2 : ∀ x ∈ l, 0 ≤ x ∧ x ≤ 9) : TstP l := ⟨h, fun j hj => by
  rw [List.getD_eq_getElem?_getD, List.getElem?_eq_getElem hj]; exact h2 _ (List.getElem_mem hj)⟩
theorem TstP.mem {l : List Int} (h : TstP l) {x : Int} (hx : x ∈ l) : 0 ≤ x ∧ x ≤ 9 := by
  obtain ⟨j, hj, rfl⟩ := List.getElem_of_mem hx
  have := h.2 j hj
  rwa [List.getD_eq_getElem?_getD, List.getElem?_eq_getElem hj] at this
theorem setF_tst {l : List Int} (h : TstP l) : TstP (setF l) := TstP.of_mem (Nat.le_trans (setF_len l) h.1) fun x hx => h.mem ((setF_mem l [] x hx).resolve_left (by simp))
theorem cut_tst {l : List Int} (h : TstP l) (i : Nat) : TstP (l.take i ++ l.drop (i + 1)) := by
  have h1 := h.1
  refine TstP.of_mem (by simp only [List.length_append, List.length_take, List.length_drop]; omega) fun x hx => h.mem ?_
  rcases List.mem_append.1 hx with hx | hx
  · exact List.mem_of_mem_take hx
  · exact List.mem_of_mem_drop hx
def LeaP (l : List Int) : Prop := FulP l ∧ ∀ i, i < l.length → ¬ FulP (l.take i ++ l.drop (i + 1))
instance (l : List Int) : Decidable (LeaP l) := by unfold LeaP; infer_instance
def btP (s j : Nat) : Prop := ((shN s j &&& 1 : Nat) : Int) = 1
instance (s j : Nat) : Decidable (btP s j) := by unfold btP; infer_instance
/-- The places below i of a set that is told by bits, the first of n places counting most. -/
def prtK (n s i : Nat) : List Int := ((List.range i).filter fun j => btP s (n - 1 - j)).map fun (j : Nat) => (j : Int)
theorem prtK_succ (n s i : Nat) : prtK n s (i + 1) = prtK n s i ++ if btP s (n - 1 - i) then [(i : Int)] else [] := by
  unfold prtK
  rw [List.range_succ, List.filter_append, List.map_append]
  congr 1
  rw [List.filter_cons]
  by_cases h : btP s (n - 1 - i)
  · rw [if_pos (decide_eq_true h), if_pos h]; rfl
  · rw [if_neg (fun e => h (of_decide_eq_true e)), if_neg h]; rfl
theorem prtK_len (n s i : Nat) : (prtK n s i).length ≤ i := by
  unfold prtK; rw [List.length_map]; exact Nat.le_trans (List.length_filter_le _ _) (by simp)
theorem prtK_at {n s i j : Nat} (h : j < (prtK n s i).length) : 0 ≤ (prtK n s i).getD j 0 ∧ (prtK n s i).getD j 0 < i := by
  have hm : (prtK n s i).getD j 0 ∈ prtK n s i := by
    rw [List.getD_eq_getElem?_getD, List.getElem?_eq_getElem h]; exact List.getElem_mem h
  generalize (prtK n s i).getD j 0 = x at hm ⊢
  unfold prtK at hm
  obtain ⟨k, hk, rfl⟩ := List.mem_map.1 hm
  have := List.mem_range.1 (List.mem_filter.1 hk).1
  omega
/-- The digits of a list at the places of a set. -/
def dgsF (l : List Int) (s : Nat) : List Int := (prtK l.length s l.length).map fun i => l.getD i.toNat 0
theorem dgsF_len (l : List Int) (s : Nat) : (dgsF l s).length ≤ l.length := by unfold dgsF; rw [List.length_map]; exact prtK_len _ _ _
theorem dgsF_tst {l : List Int} (h : TstP l) (s : Nat) : TstP (dgsF l s) := by
  refine TstP.of_mem (Nat.le_trans (dgsF_len l s) h.1) fun x hx => ?_
  unfold dgsF at hx
  obtain ⟨i, hi, rfl⟩ := List.mem_map.1 hx
  obtain ⟨j, hj, rfl⟩ := List.getElem_of_mem hi
  have hb := prtK_at hj
  rw [List.getD_eq_getElem?_getD, List.getElem?_eq_getElem hj] at hb
  simp only [Option.getD_some] at hb
  exact h.2 _ (by omega)
theorem map_takeD {f : Int → Int} {p : List Int} {i : Nat} (h : i < p.length) : (p.take (i + 1)).map f = (p.take i).map f ++ [f (p.getD i 0)] := by
  rw [List.take_add_one, List.getElem?_eq_getElem h, List.map_append, List.getD_eq_getElem?_getD, List.getElem?_eq_getElem h]; rfl
def tenL : List Int := [0, 1, 2, 3, 4, 5, 6, 7, 8, 9]
theorem tenL_tst : TstP tenL := ⟨by decide, by decide⟩
def cfP (k : Int) (s : Nat) : Prop := (((dgsF tenL s).length : Nat) : Int) = k ∧ FulP (dgsF tenL s)
instance (k : Int) (s : Nat) : Decidable (cfP k s) := by unfold cfP; infer_instance
def cftK (k : Int) (n : Nat) : Nat := ((List.range n).filter fun s => cfP k s).length
theorem cftK_succ (k : Int) (n : Nat) : cftK k (n + 1) = cftK k n + if cfP k n then 1 else 0 := by
  unfold cftK
  rw [List.range_succ, List.filter_append, List.length_append]
  congr 1
  rw [List.filter_cons]
  by_cases h : cfP k n
  · rw [if_pos (decide_eq_true h), if_pos h]; rfl
  · rw [if_neg (fun e => h (of_decide_eq_true e)), if_neg h]; rfl
theorem cftK_le (k : Int) (n : Nat) : cftK k n ≤ n := by
  unfold cftK; exact Nat.le_trans (List.length_filter_le _ _) (by simp)
/-- One list stands before another one. -/
def befF : List Int → List Int → Bool
  | [], [] => false
  | [], _ :: _ => true
  | _ :: _, [] => false
  | x :: a, y :: b => if x = y then befF a b else decide (x < y)
theorem bef_ne : ∀ {a b : List Int} {i : Nat}, i < a.length → i < b.length → (∀ j, j < i → a.getD j 0 = b.getD j 0) → a.getD i 0 ≠ b.getD i 0 → befF a b = decide (a.getD i 0 < b.getD i 0)
  | [], _, _, h, _, _, _ => absurd h (by simp)
  | _ :: _, [], _, _, h, _, _ => absurd h (by simp)
  | x :: a, y :: b, 0, _, _, _, h => by
    have hxy : x ≠ y := h
    unfold befF
    rw [if_neg hxy]; rfl
  | x :: a, y :: b, i + 1, h1, h2, h3, h4 => by
    have hxy : x = y := h3 0 (by omega)
    unfold befF
    rw [if_pos hxy]
    exact bef_ne (i := i) (by simp only [List.length_cons] at h1; omega) (by simp only [List.length_cons] at h2; omega) (fun j hj => h3 (j + 1) (by omega)) h4
theorem bef_end : ∀ {a b : List Int}, (∀ j, j < a.length → j < b.length → a.getD j 0 = b.getD j 0) → befF a b = decide (a.length < b.length)
  | [], [], _ => rfl
  | [], _ :: _, _ => by unfold befF; exact (decide_eq_true (by simp)).symm
  | _ :: _, [], _ => by unfold befF; exact (decide_eq_false (by simp)).symm
  | x :: a, y :: b, h => by
    have hxy : x = y := h 0 (by simp) (by simp)
    unfold befF
    rw [if_pos hxy, bef_end (a := a) (b := b) (fun j h1 h2 => h (j + 1) (by simp only [List.length_cons]; omega) (by simp only [List.length_cons]; omega))]
    exact decide_eq_decide.mpr (by simp only [List.length_cons]; omega)
/-- The shortest full part so far, and whether there is one. -/
def betP (p : List Int) (b : List Int × Bool) : Prop := FulP p ∧ (b.2 = false ∨ (p.length : Int) < b.1.length ∨ ((p.length : Int) = b.1.length ∧ befF p b.1 = true))
instance (p : List Int) (b : List Int × Bool) : Decidable (betP p b) := by unfold betP; infer_instance
def shoK (S : List Int) : Nat → List Int × Bool
  | 0 => ([], false)
  | n + 1 => if betP (dgsF S n) (shoK S n) then (dgsF S n, true) else shoK S n
theorem shoK_len (S : List Int) : ∀ n, (shoK S n).1.length ≤ S.length
  | 0 => by simp [shoK]
  | n + 1 => by
    unfold shoK; split
    · exact dgsF_len S n
    · exact shoK_len S n
theorem p2_10 {k : Nat} (h : k ≤ 10) : 1 ≤ p2 k ∧ p2 k ≤ 1024 := by
  have h1 : p2 k ≤ p2 10 := Nat.pow_le_pow_right (by omega) h
  have h2 : 0 < p2 k := Nat.pow_pos (by omega)
  exact ⟨h2, h1⟩

set_option maxRecDepth 8000 in
set_option maxHeartbeats 2000000 in
theorem spec_l7All  : PCalls Tryd.prog 75 [] (· = [.own 0 71 2 (allS).length (fl (allS))]) := by
  refine pcalls_of_code (n := 21) az Tryd.func75 (by kernel_rfl) rfl rfl (Nat.le_of_ble_eq_true rfl) (by intro t u h; simp [Tryd.f75] at h) ?_
  refine code_seq (fun K1 hK1 => ?_)
  refine code_region ?_
  refine list_cons rfl (op_q (q_assign rfl (by decide)) ?_)
  refine list_nil ?_
  refine hK1 _ ?_; clear hK1 K1
  refine code_seq (fun K2 hK2 => ?_)
  refine code_region ?_
  refine list_cons rfl (op_q (q_build bt_71 (parts := []) rfl rfl (by decide)) ?_)
  refine list_cons rfl (op_buildSlice sl_36 (parts := [(0, .tmp 4)]) rfl rfl rfl (by decide) (by decide) (by decide) rfl ?_)
  refine list_cons rfl (op_q (q_assign rfl (by decide)) ?_)
  refine list_nil ?_
  refine hK2 _ ?_; clear hK2 K2
  refine code_seq (fun K3 hK3 => ?_)
  refine code_seq (fun K4 hK4 => ?_)
  refine code_region ?_
  refine list_cons rfl (op_q (q_assign rfl (by decide)) ?_)
  refine list_nil ?_
  refine hK4 _ ?_; clear hK4 K4
  refine code_block ?_
  refine code_loop (X := PV × Nat × List PV × Int) (fun x => [(0, .val x.1), (1, .own 5 71 2 x.2.1 x.2.2.1), (2, .val (.int .i64 x.2.2.2))]) (fun x => 1 ≤ x.2.2.2 ∧ x.2.2.2 ≤ 3 ∧ ∃ L : List (Int × Int), x.2.1 = L.length ∧ x.2.2.1 = fl L ∧ L = allS.take (1 + 7 * (x.2.2.2 - 1).toNat)) (fun x => (3 - x.2.2.2).toNat) (_, _, _, _) (imp_covers ⟨rfl, rfl, rfl, trivial⟩) ?_ ?_
  · (try dsimp only)
    exact ⟨by omega, by omega, [(0, 0)], rfl, rfl, rfl⟩
  · intro x hI
    obtain ⟨t0_p, out_n, out_c, kind⟩ := x
    replace hI : 1 ≤ kind ∧ kind ≤ 3 ∧ ∃ L : List (Int × Int), out_n = L.length ∧ out_c = fl L ∧ L = allS.take (1 + 7 * (kind - 1).toNat) := hI
    show codeT _ _ _ [(0, .val t0_p), (1, .own 5 71 2 out_n out_c), (2, .val (.int .i64 kind))] _
    obtain ⟨i1, i2, L, rfl, rfl, hL⟩ := hI
    refine code_seq (fun K5 hK5 => ?_)
    refine code_seq (fun K6 hK6 => ?_)
    refine code_region ?_
    refine list_cons rfl (op_q (q_move rfl (by decide)) ?_)
    refine list_cons rfl (op_q (q_le rfl rfl (by decide)) ?_)
    refine list_nil ?_
    refine hK6 _ ?_; clear hK6 K6
    refine code_cond_d rfl (fun h1 => ?_) (fun h1 => ?_)
    · skip
      (try simp only [Decidable.not_not] at h1)
      refine code_skip ?_
      refine hK5 _ ?_; clear hK5 K5
      refine code_seq (fun K7 hK7 => ?_)
      refine code_block ?_
      refine code_seq (fun K8 hK8 => ?_)
      refine code_region ?_
      refine list_cons rfl (op_q (q_assign rfl (by decide)) ?_)
      refine list_nil ?_
      refine hK8 _ ?_; clear hK8 K8
      refine code_block ?_
      refine code_loop (X := PV × Nat × List PV × Int) (fun x => [(0, .val x.1), (1, .own 5 71 2 x.2.1 x.2.2.1), (2, .val (.int .i64 kind)), (3, .val (.int .i64 x.2.2.2))]) (fun x => 0 ≤ x.2.2.2 ∧ x.2.2.2 ≤ 7 ∧ ∃ L : List (Int × Int), x.2.1 = L.length ∧ x.2.2.1 = fl L ∧ L = allS.take (1 + 7 * (kind - 1).toNat + x.2.2.2.toNat)) (fun x => (7 - x.2.2.2).toNat) (_, _, _, _) (imp_covers ⟨rfl, rfl, rfl, rfl, trivial⟩) ?_ ?_
      · (try dsimp only)
        exact ⟨by omega, by omega, L, rfl, rfl, by rw [hL]; rfl⟩
      · intro x hI
        obtain ⟨t0_p, out_n, out_c, bar⟩ := x
        replace hI : 0 ≤ bar ∧ bar ≤ 7 ∧ ∃ L : List (Int × Int), out_n = L.length ∧ out_c = fl L ∧ L = allS.take (1 + 7 * (kind - 1).toNat + bar.toNat) := hI
        show codeT _ _ _ [(0, .val t0_p), (1, .own 5 71 2 out_n out_c), (2, .val (.int .i64 kind)), (3, .val (.int .i64 bar))] _
        obtain ⟨j1, j2, L, rfl, rfl, hM⟩ := hI
        have hLl : L.length ≤ 15 := by rw [hM, List.length_take, allS_len]; omega
        refine code_seq (fun K9 hK9 => ?_)
        refine code_seq (fun K10 hK10 => ?_)
        refine code_region ?_
        refine list_cons rfl (op_q (q_move rfl (by decide)) ?_)
        refine list_cons rfl (op_q (q_lt rfl rfl (by decide)) ?_)
        refine list_nil ?_
        refine hK10 _ ?_; clear hK10 K10
        refine code_cond_d rfl (fun h2 => ?_) (fun h2 => ?_)
        · skip
          (try simp only [Decidable.not_not] at h2)
          refine code_skip ?_
          refine hK9 _ ?_; clear hK9 K9
          refine code_seq (fun K11 hK11 => ?_)
          refine code_block ?_
          refine code_region ?_
          refine list_cons rfl (op_q (q_move rfl (by decide)) ?_)
          refine list_cons rfl (op_q (q_move rfl (by decide)) ?_)
          refine list_cons rfl (op_q (q_move rfl (by decide)) ?_)
          refine list_cons rfl (op_q (q_build bt_71 (parts := [(0, .tmp 15), (1, .tmp 16)]) rfl rfl (by decide)) ?_)
          refine list_cons rfl (op_buildSlice sl_36 (parts := [(0, .tmp 17)]) rfl rfl rfl (by decide) (by decide) (by decide) rfl ?_)
          refine list_cons rfl (op_append_gen sl_36 (l := 5) (.inl rfl) rfl rfl (l2 := none) (.inl ⟨rfl, (by first | rfl | exact flat_map _ (fun _ => rfl) _)⟩) (by first | rfl | (simp [PV.cells, putAt, zeros]; done)) (by omega) (by decide) (by decide) (by decide) ?_)
          refine list_cons rfl (op_q (q_assign rfl (by decide)) ?_)
          refine list_nil ?_
          refine blk_n ?_
          refine hK11 _ ?_; clear hK11 K11
          refine codeT.imp (σ' := [(0, _), (1, _), (2, _), (3, _)]) ?_ (imp_covers ⟨rfl, rfl, rfl, rfl, trivial⟩)
          refine code_region ?_
          refine list_cons rfl (op_q (q_move rfl (by decide)) ?_)
          refine list_cons rfl (op_q (by first | exact q_addI rfl rfl (by decide) (by omega) (by omega) | exact q_ib rfl rfl rfl (by decide)) ?_)
          refine list_cons rfl (op_q (q_assign rfl (by decide)) ?_)
          refine list_nil ?_
          refine then_n ⟨(_, _, _, _), imp_covers ⟨rfl, rfl, rfl, rfl, trivial⟩, ?_, ?_⟩
          · (try dsimp only)
            refine ⟨by omega, by omega, L ++ [(bar, kind)], by simp, by simp [fl]; rfl, ?_⟩
            rw [allS_at ⟨by omega, by omega⟩ ⟨by omega, by omega⟩, hM]
          · (try dsimp only); omega
        (try simp only [Decidable.not_not] at h2)
        refine code_exit ?_
        refine then_x ?_; clear hK9 K9
        refine then_x ?_
        refine blk_hit ?_
        refine blk_n ?_
        refine hK7 _ ?_; clear hK7 K7
        refine code_region ?_
        refine list_cons rfl (op_q (q_move rfl (by decide)) ?_)
        refine list_cons rfl (op_q (by first | exact q_addI rfl rfl (by decide) (by omega) (by omega) | exact q_ib rfl rfl rfl (by decide)) ?_)
        refine list_cons rfl (op_q (q_assign rfl (by decide)) ?_)
        refine list_nil ?_
        refine then_n ⟨(_, _, _, _), imp_covers ⟨rfl, rfl, rfl, trivial⟩, ?_, ?_⟩
        · (try dsimp only)
          exact ⟨by omega, by omega, L, rfl, rfl, by rw [hM, show 1 + 7 * (kind - 1).toNat + bar.toNat = 1 + 7 * (kind + 1 - 1).toNat by omega]⟩
        · (try dsimp only); omega
    (try simp only [Decidable.not_not] at h1)
    refine code_exit ?_
    refine then_x ?_; clear hK5 K5
    refine then_x ?_
    refine blk_hit ?_
    refine hK3 _ ?_; clear hK3 K3
    refine code_seq (fun K12 hK12 => ?_)
    refine code_region ?_
    refine list_cons rfl (op_q (q_move rfl (by decide)) ?_)
    refine list_cons rfl (op_q (q_assign rfl (by decide)) ?_)
    refine list_nil ?_
    refine hK12 _ ?_; clear hK12 K12
    refine code_ret ?_
    refine ends_ret (cs := []) rfl rfl rfl rfl trivial ?_
    first | (rw [show 1 + 7 * (kind - 1).toNat = 15 by omega] at hL; rw [show allS.take 15 = allS from rfl] at hL; subst hL; rfl)

set_option maxRecDepth 8000 in
set_option maxHeartbeats 2000000 in
theorem spec_l7Fault (b k : Int) (h : StP b k) : PCalls Tryd.prog 87 [.agg [.int .i64 b, .int .i64 k]] (· = [.val (.agg [.int .i64 (sdk b k), .int .i64 (slt b k)])]) := by
  refine pcalls_of_code (n := 18) az Tryd.func87 (by kernel_rfl) rfl rfl (Nat.le_of_ble_eq_true rfl) (by intro t u h; simp [Tryd.f87] at h; obtain ⟨_, rfl⟩ := h <;> first | exact resTy_agg agg_91 (by decide)) ?_
  have hb : k = 1 ∨ k = 2 → 0 ≤ b ∧ b ≤ 6 := fun e => by unfold StP at h; omega
  refine code_seq (fun K1 hK1 => ?_)
  refine code_region ?_
  refine list_cons rfl (op_box rfl (.inl ⟨rfl, rfl⟩) (by decide) (by decide) rfl ?_)
  refine list_cons rfl (op_alloc zt_91 (by decide) (by decide) rfl ?_)
  refine list_nil ?_
  refine hK1 _ ?_; clear hK1 K1
  refine code_seq (fun K2 hK2 => ?_)
  refine code_seq (fun K3 hK3 => ?_)
  refine code_region ?_
  refine list_cons rfl (op_q (q_fieldAddr fi_71_1 rfl rfl (by decide)) ?_)
  refine list_cons rfl (op_q (q_load one_3 1 rfl rfl rfl (by first | rfl | exact get_map1 _ 0 _ (by first | omega | (simp; omega))) (by decide)) ?_)
  refine list_nil ?_
  refine hK3 _ ?_; clear hK3 K3
  refine code_block ?_
  refine code_seq (fun K4 hK4 => ?_)
  refine code_region ?_
  refine list_cons rfl (op_q (q_eq rfl rfl (by decide)) ?_)
  refine list_cons rfl (op_q (q_assign rfl (by decide)) ?_)
  refine list_nil ?_
  refine hK4 _ ?_; clear hK4 K4
  refine code_cond_d rfl (fun h1 => ?_) (fun h1 => ?_)
  · skip
    (try simp only [Decidable.not_not] at h1)
    refine code_seq (fun K5 hK5 => ?_)
    refine code_region ?_
    refine list_cons rfl (op_q (q_fieldAddr fi_71_0 rfl rfl (by decide)) ?_)
    refine list_cons rfl (op_q (q_load one_3 1 rfl rfl rfl (by first | rfl | exact get_map1 _ 0 _ (by first | omega | (simp; omega))) (by decide)) ?_)
    refine list_cons rfl (op_q (by first | exact q_shl1 rfl rfl (by decide) (by omega) (by omega) | exact q_shlI rfl rfl (by decide) (by omega) (by omega) (by omega) | exact q_shl rfl rfl (by omega) (by decide)) ?_)
    refine list_cons rfl (op_q (q_build bt_91 (parts := [(0, .tmp 9)]) rfl rfl (by decide)) ?_)
    refine list_cons rfl (op_store (agg_91).2 2 [2] (by intro t ht; simp only [List.mem_cons, List.not_mem_nil, or_false] at ht; subst ht; rfl) (.inr ⟨rfl, _, rfl⟩) rfl rfl rfl rfl (by first | rfl | exact flat_part (flat_map _ (fun _ => rfl) _) _ _ | exact flat_map _ (fun _ => rfl) _) (by first | rfl | (simp [PV.cells]; done)) (by first | decide | omega | exact Nat.le_refl _ | (simp; done) | (simp; omega)) (by decide) rfl ?_)
    refine list_nil ?_
    refine hK5 _ ?_; clear hK5 K5
    refine codeT.imp (σ' := [(0, _), (1, _), (2, _), (4, _)]) ?_ (imp_covers ⟨rfl, rfl, rfl, rfl, trivial⟩)
    refine code_ret ?_
    refine blk_r ?_
    refine then_r ?_; clear hK2 K2
    refine ends_ret (cs := []) rfl rfl rfl rfl trivial ?_
    first
      | (unfold sdk slt; subst h1; rfl)
      | (unfold sdk slt; rw [if_neg (by omega), if_pos (by omega)]; rfl)
      | (unfold sdk slt; rw [if_neg (by omega), if_neg (by omega)]; rfl)
      | (unfold sdk slt; rw [if_pos (by omega), if_neg (by omega)]; rfl)
  (try simp only [Decidable.not_not] at h1)
  refine code_seq (fun K6 hK6 => ?_)
  refine code_region ?_
  refine list_cons rfl (op_q (q_eq rfl rfl (by decide)) ?_)
  refine list_cons rfl (op_q (q_assign rfl (by decide)) ?_)
  refine list_nil ?_
  refine hK6 _ ?_; clear hK6 K6
  refine code_cond_d rfl (fun h2 => ?_) (fun h2 => ?_)
  · skip
    (try simp only [Decidable.not_not] at h2)
    refine code_seq (fun K7 hK7 => ?_)
    refine code_region ?_
    refine list_cons rfl (op_q (q_fieldAddr fi_71_0 rfl rfl (by decide)) ?_)
    refine list_cons rfl (op_q (q_load one_3 1 rfl rfl rfl (by first | rfl | exact get_map1 _ 0 _ (by first | omega | (simp; omega))) (by decide)) ?_)
    refine list_cons rfl (op_q (by first | exact q_shl1 rfl rfl (by decide) (by omega) (by omega) | exact q_shlI rfl rfl (by decide) (by omega) (by omega) (by omega) | exact q_shl rfl rfl (by omega) (by decide)) ?_)
    refine list_cons rfl (op_q (q_build bt_91 (parts := [(1, .tmp 15)]) rfl rfl (by decide)) ?_)
    refine list_cons rfl (op_store (agg_91).2 2 [2] (by intro t ht; simp only [List.mem_cons, List.not_mem_nil, or_false] at ht; subst ht; rfl) (.inr ⟨rfl, _, rfl⟩) rfl rfl rfl rfl (by first | rfl | exact flat_part (flat_map _ (fun _ => rfl) _) _ _ | exact flat_map _ (fun _ => rfl) _) (by first | rfl | (simp [PV.cells]; done)) (by first | decide | omega | exact Nat.le_refl _ | (simp; done) | (simp; omega)) (by decide) rfl ?_)
    refine list_nil ?_
    refine hK7 _ ?_; clear hK7 K7
    refine codeT.imp (σ' := [(0, _), (1, _), (2, _), (4, _)]) ?_ (imp_covers ⟨rfl, rfl, rfl, rfl, trivial⟩)
    refine code_ret ?_
    refine blk_r ?_
    refine then_r ?_; clear hK2 K2
    refine ends_ret (cs := []) rfl rfl rfl rfl trivial ?_
    first
      | (unfold sdk slt; subst h1; rfl)
      | (unfold sdk slt; rw [if_neg (by omega), if_pos (by omega)]; rfl)
      | (unfold sdk slt; rw [if_neg (by omega), if_neg (by omega)]; rfl)
      | (unfold sdk slt; rw [if_pos (by omega), if_neg (by omega)]; rfl)
  (try simp only [Decidable.not_not] at h2)
  refine code_skip ?_
  refine blk_n ?_
  refine hK2 _ ?_; clear hK2 K2
  refine code_seq (fun K8 hK8 => ?_)
  refine code_region ?_
  refine list_cons rfl (op_q (q_build bt_91 (parts := []) rfl rfl (by decide)) ?_)
  refine list_cons rfl (op_store (agg_91).2 2 [2] (by intro t ht; simp only [List.mem_cons, List.not_mem_nil, or_false] at ht; subst ht; rfl) (.inr ⟨rfl, _, rfl⟩) rfl rfl rfl rfl (by first | rfl | exact flat_part (flat_map _ (fun _ => rfl) _) _ _ | exact flat_map _ (fun _ => rfl) _) (by first | rfl | (simp [PV.cells]; done)) (by first | decide | omega | exact Nat.le_refl _ | (simp; done) | (simp; omega)) (by decide) rfl ?_)
  refine list_nil ?_
  refine hK8 _ ?_; clear hK8 K8
  refine codeT.imp (σ' := [(0, _), (1, _), (2, _), (4, _)]) ?_ (imp_covers ⟨rfl, rfl, rfl, rfl, trivial⟩)
  refine code_ret ?_
  refine ends_ret (cs := []) rfl rfl rfl rfl trivial ?_
  first
    | (unfold sdk slt; subst h1; rfl)
    | (unfold sdk slt; rw [if_neg (by omega), if_pos (by omega)]; rfl)
    | (unfold sdk slt; rw [if_neg (by omega), if_neg (by omega)]; rfl)
    | (unfold sdk slt; rw [if_pos (by omega), if_neg (by omega)]; rfl)

set_option maxRecDepth 4000 in
theorem spec_l7Test (l : List Int) (hl : l.length ≤ 4611686018427387904) : PCalls Tryd.prog 57 [.sl l.length (l.map (.int .i64))] (· = [.val (.bool (decide (TstP l)))]) := by
  refine pcalls_of_code (n := 23) az Tryd.func57 (by kernel_rfl) rfl rfl (Nat.le_of_ble_eq_true rfl) (by intro t u h; simp [Tryd.f57] at h) ?_
  refine code_seq (fun K1 hK1 => ?_)
  refine code_region ?_
  refine list_cons rfl (op_q (q_assign rfl (by decide)) ?_)
  refine list_nil ?_
  refine hK1 _ ?_; clear hK1 K1
  refine code_seq (fun K2 hK2 => ?_)
  refine code_seq (fun K3 hK3 => ?_)
  refine code_region ?_
  refine list_cons rfl (op_q (q_assign rfl (by decide)) ?_)
  refine list_nil ?_
  refine hK3 _ ?_; clear hK3 K3
  refine code_block ?_
  refine code_loop (X := Bool × Int) (fun x => [(0, .par 0 (.sl l.length (l.map (.int .i64)))), (2, .val (.bool x.1)), (3, .val (.int .i64 x.2))]) (fun x => 0 ≤ x.2 ∧ x.2 ≤ 11 ∧ x.2 ≤ l.length ∧ ∀ j, j < x.2.toNat → 0 ≤ l.getD j 0 ∧ l.getD j 0 ≤ 9) (fun x => (11 - x.2).toNat) (_, _) (imp_covers ⟨rfl, rfl, rfl, trivial⟩) ?_ ?_
  · (try dsimp only)
    exact ⟨by omega, by omega, by omega, fun j hj => absurd hj (Nat.not_lt_zero j)⟩
  · intro x hI
    obtain ⟨t2, i⟩ := x
    replace hI : 0 ≤ i ∧ i ≤ 11 ∧ i ≤ l.length ∧ ∀ j, j < i.toNat → 0 ≤ l.getD j 0 ∧ l.getD j 0 ≤ 9 := hI
    show codeT _ _ _ [(0, .par 0 (.sl l.length (l.map (.int .i64)))), (2, .val (.bool t2)), (3, .val (.int .i64 i))] _
    obtain ⟨i1, i2, i3, i4⟩ := hI
    refine code_seq (fun K4 hK4 => ?_)
    refine code_seq (fun K5 hK5 => ?_)
    refine code_region ?_
    refine list_cons rfl (op_q (q_move rfl (by decide)) ?_)
    refine list_cons rfl (op_q (q_move rfl (by decide)) ?_)
    refine list_cons rfl (op_q (q_len_sl Tryd.underlying32 rfl rfl (by decide)) ?_)
    refine list_cons rfl (op_q (q_lt rfl rfl (by decide)) ?_)
    refine list_cons rfl (op_q (q_move rfl (by decide)) ?_)
    refine list_guard_d rfl rfl rfl rfl (by decide) rfl (by decide) (fun h1 => ?_) (fun h1 => ?_)
    · simp only [Bool.false_eq_true, if_true, if_false, Decidable.not_not] at h1
      refine id (op_q (q_move rfl (by decide)) ?_)
      refine list_guard_y rfl rfl rfl rfl (by decide) rfl ?_
      refine id (op_q (q_le rfl rfl (by decide)) ?_)
      refine list_cons rfl (op_q (q_pick rfl rfl (by decide)) ?_)
      refine list_nil ?_
      refine hK5 _ ?_; clear hK5 K5
      refine codeT.imp (σ' := [(0, _), (2, _), (3, _), (11, _)]) ?_ (imp_covers ⟨rfl, rfl, rfl, rfl, trivial⟩)
      refine code_cond_d rfl (fun h2 => ?_) (fun h2 => ?_)
      · skip
        (try simp only [Decidable.not_not] at h2)
        refine code_skip ?_
        refine hK4 _ ?_; clear hK4 K4
        refine code_seq (fun K6 hK6 => ?_)
        refine code_block ?_
        refine code_seq (fun K7 hK7 => ?_)
        refine code_region ?_
        refine list_cons rfl (op_q (q_move rfl (by decide)) ?_)
        refine list_cons rfl (op_q (q_move rfl (by decide)) ?_)
        refine list_cons rfl (op_q (q_indexAddr_rd sl_32 rfl (.inl ⟨_, rfl, rfl⟩) rfl (by omega) (by omega) (by decide)) ?_)
        refine list_cons rfl (op_q (q_load_rd one_3 rfl (.inl ⟨_, (by first | rfl | exact congrArg (SV.rpar _) (drop_map1 _ 0 _ (by first | omega | (simp; omega)))), rfl⟩) (by decide)) ?_)
        refine list_cons rfl (op_call _ (spec_l1In _ _ _) rfl rfl (by decide) (by decide) (by decide) rfl ?_)
        rintro _ rfl
        refine list_cons rfl (op_q (by first | exact q_notd rfl (by decide) | exact q_not rfl (by decide)) ?_)
        refine list_nil ?_
        refine hK7 _ ?_; clear hK7 K7
        refine codeT.imp (σ' := [(0, _), (2, _), (3, _), (19, _)]) ?_ (imp_covers ⟨rfl, rfl, rfl, rfl, trivial⟩)
        refine code_cond_d rfl (fun h3 => ?_) (fun h3 => ?_)
        · skip
          (try simp only [Decidable.not_not] at h3)
          refine code_seq (fun K8 hK8 => ?_)
          refine code_region ?_
          refine list_cons rfl (op_q (q_assign rfl (by decide)) ?_)
          refine list_nil ?_
          refine hK8 _ ?_; clear hK8 K8
          refine code_ret ?_
          refine blk_r ?_
          refine then_r ?_; clear hK6 K6
          refine then_r ?_
          refine blk_r ?_
          refine then_r ?_; clear hK2 K2
          refine ends_ret (cs := []) rfl rfl rfl rfl trivial ?_
          first
            | (rw [decide_eq_false (fun e => absurd (e.2 i.toNat (by omega)) (by assumption))]; done)
            | (congr 3; exact decide_eq_decide.mpr ⟨fun e => ⟨by omega, fun j hj => i4 j (by omega)⟩, fun e => by have := e.1; omega⟩)
        (try simp only [Decidable.not_not] at h3)
        refine code_skip ?_
        refine blk_n ?_
        refine hK6 _ ?_; clear hK6 K6
        refine code_region ?_
        refine list_cons rfl (op_q (q_move rfl (by decide)) ?_)
        refine list_cons rfl (op_q (by first | exact q_addI rfl rfl (by decide) (by omega) (by omega) | exact q_ib rfl rfl rfl (by decide)) ?_)
        refine list_cons rfl (op_q (q_assign rfl (by decide)) ?_)
        refine list_nil ?_
        refine then_n ⟨(_, _), imp_covers ⟨rfl, rfl, rfl, trivial⟩, ?_, ?_⟩
        · (try dsimp only)
          refine ⟨by omega, by omega, by omega, fun j hj => ?_⟩
          by_cases e : j = i.toNat
          · subst e; assumption
          · exact i4 j (by omega)
        · (try dsimp only); omega
      (try simp only [Decidable.not_not] at h2)
      refine code_exit ?_
      refine then_x ?_; clear hK4 K4
      refine then_x ?_
      refine blk_hit ?_
      refine hK2 _ ?_; clear hK2 K2
      refine code_seq (fun K9 hK9 => ?_)
      refine code_region ?_
      refine list_cons rfl (op_q (q_move rfl (by decide)) ?_)
      refine list_cons rfl (op_q (q_len_sl Tryd.underlying32 rfl rfl (by decide)) ?_)
      refine list_cons rfl (op_q (q_le rfl rfl (by decide)) ?_)
      refine list_cons rfl (op_q (q_assign rfl (by decide)) ?_)
      refine list_nil ?_
      refine hK9 _ ?_; clear hK9 K9
      refine code_ret ?_
      refine ends_ret (cs := []) rfl rfl rfl rfl trivial ?_
      first
        | (rw [decide_eq_false (fun e => absurd (e.2 i.toNat (by omega)) (by assumption))]; done)
        | (congr 3; exact decide_eq_decide.mpr ⟨fun e => ⟨by omega, fun j hj => i4 j (by omega)⟩, fun e => by have := e.1; omega⟩)
    simp only [Bool.false_eq_true, if_true, if_false, Decidable.not_not] at h1
    refine list_guard_n rfl rfl rfl rfl (by decide) rfl ?_
    refine list_cons rfl (op_q (q_pick rfl rfl (by decide)) ?_)
    refine list_nil ?_
    refine hK5 _ ?_; clear hK5 K5
    refine code_cond_f rfl ?_
    refine code_exit ?_
    refine then_x ?_; clear hK4 K4
    refine then_x ?_
    refine blk_hit ?_
    refine hK2 _ ?_; clear hK2 K2
    refine code_seq (fun K10 hK10 => ?_)
    refine code_region ?_
    refine list_cons rfl (op_q (q_move rfl (by decide)) ?_)
    refine list_cons rfl (op_q (q_len_sl Tryd.underlying32 rfl rfl (by decide)) ?_)
    refine list_cons rfl (op_q (q_le rfl rfl (by decide)) ?_)
    refine list_cons rfl (op_q (q_assign rfl (by decide)) ?_)
    refine list_nil ?_
    refine hK10 _ ?_; clear hK10 K10
    refine codeT.imp (σ' := [(0, _), (2, _), (3, _)]) ?_ (imp_covers ⟨rfl, rfl, rfl, trivial⟩)
    refine code_ret ?_
    refine ends_ret (cs := []) rfl rfl rfl rfl trivial ?_
    first
      | (rw [decide_eq_false (fun e => absurd (e.2 i.toNat (by omega)) (by assumption))]; done)
      | (congr 3; exact decide_eq_decide.mpr ⟨fun e => ⟨by omega, fun j hj => i4 j (by omega)⟩, fun e => by have := e.1; omega⟩)

set_option maxRecDepth 8000 in
set_option maxHeartbeats 2000000 in
theorem spec_l7Place (l : List Int) (b k : Int) (hT : TstP l) (hS : StP b k) : PCalls Tryd.prog 76 [.sl l.length (l.map (.int .i64)), .agg [.int .i64 b, .int .i64 k]] (· = [.val (.int .i64 (plc l b k))]) := by
  refine pcalls_of_code (n := 27) az Tryd.func76 (by kernel_rfl) rfl rfl (Nat.le_of_ble_eq_true rfl) (by intro t u h; simp [Tryd.f76] at h) ?_
  have hb := hS.bd
  have hl10 := hT.1
  refine code_seq (fun K1 hK1 => ?_)
  refine code_region ?_
  refine list_cons rfl (op_box rfl (.inl ⟨rfl, rfl⟩) (by decide) (by decide) rfl ?_)
  refine list_cons rfl (op_q (q_assign rfl (by decide)) ?_)
  refine list_nil ?_
  refine hK1 _ ?_; clear hK1 K1
  refine code_seq (fun K2 hK2 => ?_)
  refine code_region ?_
  refine list_cons rfl (op_q (q_load_agg agg_71 3 (.inr ⟨rfl, _, rfl⟩) rfl rfl (by first | decide | omega | exact Nat.le_refl _ | (simp; done) | (simp; omega)) (by first | rfl | exact flat_part (flat_map _ (fun _ => rfl) _) _ _) (by decide)) ?_)
  refine list_cons rfl (op_call _ (spec_l7Fault b k hS) rfl rfl (by decide) (by decide) (by decide) rfl ?_)
  rintro _ rfl
  refine list_cons rfl (op_alloc zt_91 (by decide) (by decide) rfl ?_)
  refine list_cons rfl (op_store (agg_91).2 5 [5] (by intro t ht; simp only [List.mem_cons, List.not_mem_nil, or_false] at ht; subst ht; rfl) (.inr ⟨rfl, _, rfl⟩) rfl rfl rfl rfl (by first | rfl | exact flat_part (flat_map _ (fun _ => rfl) _) _ _ | exact flat_map _ (fun _ => rfl) _) (by first | rfl | (simp [PV.cells]; done)) (by first | decide | omega | exact Nat.le_refl _ | (simp; done) | (simp; omega)) (by decide) rfl ?_)
  refine list_nil ?_
  refine hK2 _ ?_; clear hK2 K2
  refine codeT.imp (σ' := [(0, _), (1, _), (3, _), (4, _), (5, _)]) ?_ (imp_covers ⟨rfl, rfl, rfl, rfl, rfl, trivial⟩)
  refine code_seq (fun K3 hK3 => ?_)
  refine code_seq (fun K4 hK4 => ?_)
  refine code_region ?_
  refine list_cons rfl (op_q (q_assign rfl (by decide)) ?_)
  refine list_nil ?_
  refine hK4 _ ?_; clear hK4 K4
  refine code_block ?_
  refine code_loop (X := List PV × Int × Int) (fun x => [(0, .par 0 (.sl l.length (l.map (.int .i64)))), (1, .val (.agg [.int .i64 b, .int .i64 k])), (3, .box 3 71 x.1), (4, .val (.int .i64 x.2.1)), (5, .box 5 91 [.int .i64 (sdk b k), .int .i64 (slt b k)]), (6, .val (.int .i64 x.2.2))]) (fun x => 0 ≤ x.2.2 ∧ x.2.2 ≤ l.length ∧ ∀ j, j < x.2.2.toNat → ¬ FdP b k (l.getD j 0)) (fun x => (l.length - x.2.2).toNat) (_, _, _) (imp_covers ⟨rfl, rfl, rfl, rfl, rfl, rfl, trivial⟩) ?_ ?_
  · (try dsimp only)
    exact ⟨by omega, by omega, fun j hj => absurd hj (Nat.not_lt_zero j)⟩
  · intro x hI
    obtain ⟨s_3_c, t4, i⟩ := x
    replace hI : 0 ≤ i ∧ i ≤ l.length ∧ ∀ j, j < i.toNat → ¬ FdP b k (l.getD j 0) := hI
    show codeT _ _ _ [(0, .par 0 (.sl l.length (l.map (.int .i64)))), (1, .val (.agg [.int .i64 b, .int .i64 k])), (3, .box 3 71 s_3_c), (4, .val (.int .i64 t4)), (5, .box 5 91 [.int .i64 (sdk b k), .int .i64 (slt b k)]), (6, .val (.int .i64 i))] _
    obtain ⟨i1, i2, i3⟩ := hI
    have hg := fun e : i.toNat < l.length => hT.2 i.toNat e
    have hdc := digT_cell (l.getD i.toNat 0).toNat
    refine code_seq (fun K5 hK5 => ?_)
    refine code_seq (fun K6 hK6 => ?_)
    refine code_region ?_
    refine list_cons rfl (op_q (q_move rfl (by decide)) ?_)
    refine list_cons rfl (op_q (q_move rfl (by decide)) ?_)
    refine list_cons rfl (op_q (q_len_sl Tryd.underlying32 rfl rfl (by decide)) ?_)
    refine list_cons rfl (op_q (q_lt rfl rfl (by decide)) ?_)
    refine list_nil ?_
    refine hK6 _ ?_; clear hK6 K6
    refine code_cond_d rfl (fun h1 => ?_) (fun h1 => ?_)
    · skip
      (try simp only [Decidable.not_not] at h1); (try have hgi := hg (by have := h1; omega))
      refine code_skip ?_
      refine hK5 _ ?_; clear hK5 K5
      refine code_seq (fun K7 hK7 => ?_)
      refine code_block ?_
      refine code_seq (fun K8 hK8 => ?_)
      refine code_region ?_
      refine list_cons rfl (op_q (q_move rfl (by decide)) ?_)
      refine list_cons rfl (op_q (q_move rfl (by decide)) ?_)
      refine list_cons rfl (op_q (q_indexAddr_rd sl_32 rfl (.inl ⟨_, rfl, rfl⟩) rfl (by omega) (by omega) (by decide)) ?_)
      refine list_cons rfl (op_q (q_load_rd one_3 rfl (.inl ⟨_, (by first | rfl | exact congrArg (SV.rpar _) (drop_map1 _ 0 _ (by first | omega | (simp; omega)))), rfl⟩) (by decide)) ?_)
      refine list_cons rfl (op_call _ (spec_l2Digit _ (by omega) (by omega)) rfl rfl (by decide) (by decide) (by decide) rfl ?_)
      rintro _ rfl
      refine list_cons rfl (op_q (q_assign rfl (by decide)) ?_)
      refine list_nil ?_
      refine hK8 _ ?_; clear hK8 K8
      refine codeT.imp (σ' := [(0, _), (1, _), (3, _), (4, _), (5, _), (6, _), (7, _)]) ?_ (imp_covers ⟨rfl, rfl, rfl, rfl, rfl, rfl, rfl, trivial⟩)
      refine code_seq (fun K9 hK9 => ?_)
      refine code_region ?_
      refine list_cons rfl (op_q (q_load_agg agg_91 5 (.inr ⟨rfl, _, rfl⟩) rfl rfl (by first | decide | omega | exact Nat.le_refl _ | (simp; done) | (simp; omega)) (by first | rfl | exact flat_part (flat_map _ (fun _ => rfl) _) _ _) (by decide)) ?_)
      refine list_cons rfl (op_q (q_move rfl (by decide)) ?_)
      refine list_cons rfl (op_call _ (spec_l3Shown _ _ _ hb.1 hb.2 hdc) rfl rfl (by decide) (by decide) (by decide) rfl ?_)
      rintro _ rfl
      refine list_cons rfl (op_q (q_move rfl (by decide)) ?_)
      refine list_cons rfl (op_q (q_ne rfl rfl (by decide)) ?_)
      refine list_nil ?_
      refine hK9 _ ?_; clear hK9 K9
      refine codeT.imp (σ' := [(0, _), (1, _), (3, _), (4, _), (5, _), (6, _), (7, _), (25, _)]) ?_ (imp_covers ⟨rfl, rfl, rfl, rfl, rfl, rfl, rfl, rfl, trivial⟩)
      refine code_cond_d rfl (fun h2 => ?_) (fun h2 => ?_)
      · skip
        (try simp only [Decidable.not_not] at h2); (try have hgi := hg (by have := h2; omega))
        refine code_seq (fun K10 hK10 => ?_)
        refine code_region ?_
        refine list_cons rfl (op_q (q_move rfl (by decide)) ?_)
        refine list_cons rfl (op_q (q_assign rfl (by decide)) ?_)
        refine list_nil ?_
        refine hK10 _ ?_; clear hK10 K10
        refine code_ret ?_
        refine blk_r ?_
        refine then_r ?_; clear hK7 K7
        refine then_r ?_
        refine blk_r ?_
        refine then_r ?_; clear hK3 K3
        refine ends_ret (cs := []) rfl rfl rfl rfl trivial ?_
        first
          | (rw [plc_some (i := i.toNat) (by omega) h2 i3, Int.toNat_of_nonneg i1]; done)
          | (rw [plc_none (fun j hj => i3 j (by omega))]; done)
      (try simp only [Decidable.not_not] at h2); (try have hgi := hg (by have := h2; omega))
      refine code_skip ?_
      refine blk_n ?_
      refine hK7 _ ?_; clear hK7 K7
      refine code_region ?_
      refine list_cons rfl (op_q (q_move rfl (by decide)) ?_)
      refine list_cons rfl (op_q (by first | exact q_addI rfl rfl (by decide) (by omega) (by omega) | exact q_ib rfl rfl rfl (by decide)) ?_)
      refine list_cons rfl (op_q (q_assign rfl (by decide)) ?_)
      refine list_nil ?_
      refine then_n ⟨(_, _, _), imp_covers ⟨rfl, rfl, rfl, rfl, rfl, rfl, trivial⟩, ?_, ?_⟩
      · (try dsimp only)
        refine ⟨by omega, by omega, fun j hj => ?_⟩
        by_cases e : j = i.toNat
        · subst e; exact fun z => z h2
        · exact i3 j (by omega)
      · (try dsimp only); omega
    (try simp only [Decidable.not_not] at h1); (try have hgi := hg (by have := h1; omega))
    refine code_exit ?_
    refine then_x ?_; clear hK5 K5
    refine then_x ?_
    refine blk_hit ?_
    refine hK3 _ ?_; clear hK3 K3
    refine code_seq (fun K11 hK11 => ?_)
    refine code_region ?_
    refine list_cons rfl (op_q (q_assign rfl (by decide)) ?_)
    refine list_nil ?_
    refine hK11 _ ?_; clear hK11 K11
    refine code_ret ?_
    refine ends_ret (cs := []) rfl rfl rfl rfl trivial ?_
    first
      | (rw [plc_some (i := i.toNat) (by omega) h1 i3, Int.toNat_of_nonneg i1]; done)
      | (rw [plc_none (fun j hj => i3 j (by omega))]; done)

theorem spec_l7PlaceE (l : List Int) (cs : List PV) (b k : Int) (hc : cs = [.int .i64 b, .int .i64 k]) (hT : TstP l) (hS : StP b k) : PCalls Tryd.prog 76 [.sl l.length (l.map (.int .i64)), .agg cs] (· = [.val (.int .i64 (plc l b k))]) := by
  subst hc; exact spec_l7Place l b k hT hS

set_option maxRecDepth 8000 in
set_option maxHeartbeats 2000000 in
theorem spec_l7Found (l : List Int) (fo : Bool) (hT : TstP l) : PCalls Tryd.prog 58 [.sl l.length (l.map (.int .i64)), .bool fo] (· = [.own 0 71 2 (fnd l fo).length (fl (fnd l fo))]) := by
  refine pcalls_of_code (n := 33) az Tryd.func58 (by kernel_rfl) rfl rfl (Nat.le_of_ble_eq_true rfl) (by intro t u h; simp [Tryd.f58] at h) ?_
  have hl10 := hT.1
  have hfa := fl_len allS
  have hal := allS_len
  have hff := fl_flat allS
  refine code_seq (fun K1 hK1 => ?_)
  refine code_region ?_
  refine list_cons rfl (op_q (q_assign rfl (by decide)) ?_)
  refine list_nil ?_
  refine hK1 _ ?_; clear hK1 K1
  refine code_seq (fun K2 hK2 => ?_)
  refine code_region ?_
  refine list_cons rfl (op_buildSlice sl_36 (parts := []) rfl rfl rfl (by decide) (by decide) (by decide) rfl ?_)
  refine list_cons rfl (op_call _ (spec_l7All) rfl rfl (by decide) (by decide) (by decide) rfl ?_)
  rintro _ rfl
  refine list_cons rfl (op_q (q_assign rfl (by decide)) ?_)
  refine list_cons rfl (op_q (q_assign rfl (by decide)) ?_)
  refine list_nil ?_
  refine hK2 _ ?_; clear hK2 K2
  refine codeT.imp (σ' := [(0, _), (1, _), (4, _), (5, _), (6, _)]) ?_ (imp_covers ⟨rfl, rfl, rfl, rfl, rfl, trivial⟩)
  refine code_seq (fun K3 hK3 => ?_)
  refine code_seq (fun K4 hK4 => ?_)
  refine code_region ?_
  refine list_cons rfl (op_q (q_assign rfl (by decide)) ?_)
  refine list_nil ?_
  refine hK4 _ ?_; clear hK4 K4
  refine code_block ?_
  refine code_loop (X := PV × Nat × List PV × Nat × List PV × Int) (fun x => [(0, .par 0 (.sl l.length (l.map (.int .i64)))), (1, .val (.bool fo)), (4, .val x.1), (5, .own 8 71 2 x.2.1 x.2.2.1), (6, .own 9 71 2 x.2.2.2.1 x.2.2.2.2.1), (7, .val (.int .i64 x.2.2.2.2.2))]) (fun x => 1 ≤ x.2.2.2.2.2 ∧ x.2.2.2.2.2 ≤ 15 ∧ x.2.2.2.1 = 15 ∧ x.2.2.2.2.1 = fl allS ∧ ∃ L : List (Int × Int), x.2.1 = L.length ∧ x.2.2.1 = fl L ∧ L = fndK l fo x.2.2.2.2.2.toNat) (fun x => (15 - x.2.2.2.2.2).toNat) (_, _, _, _, _, _) (imp_covers ⟨rfl, rfl, rfl, rfl, rfl, rfl, trivial⟩) ?_ ?_
  · (try dsimp only)
    exact ⟨by omega, by omega, rfl, rfl, [], rfl, rfl, rfl⟩
  · intro x hI
    obtain ⟨t4_p, out_n, out_c, all_n, all_c, i⟩ := x
    replace hI : 1 ≤ i ∧ i ≤ 15 ∧ all_n = 15 ∧ all_c = fl allS ∧ ∃ L : List (Int × Int), out_n = L.length ∧ out_c = fl L ∧ L = fndK l fo i.toNat := hI
    show codeT _ _ _ [(0, .par 0 (.sl l.length (l.map (.int .i64)))), (1, .val (.bool fo)), (4, .val t4_p), (5, .own 8 71 2 out_n out_c), (6, .own 9 71 2 all_n all_c), (7, .val (.int .i64 i))] _
    obtain ⟨i1, i2, rfl, rfl, L, rfl, rfl, hL⟩ := hI
    have hLl : L.length ≤ 14 := by rw [hL]; exact fndK_len _ _ _
    refine code_seq (fun K5 hK5 => ?_)
    refine code_seq (fun K6 hK6 => ?_)
    refine code_region ?_
    refine list_cons rfl (op_q (q_move rfl (by decide)) ?_)
    refine list_cons rfl (op_q (q_move rfl (by decide)) ?_)
    refine list_cons rfl (op_q (q_len_sl Tryd.underlying36 rfl rfl (by decide)) ?_)
    refine list_cons rfl (op_q (q_lt rfl rfl (by decide)) ?_)
    refine list_nil ?_
    refine hK6 _ ?_; clear hK6 K6
    refine code_cond_d rfl (fun h1 => ?_) (fun h1 => ?_)
    · skip
      (try simp only [Decidable.not_not] at h1)
      refine code_skip ?_
      refine hK5 _ ?_; clear hK5 K5
      refine code_seq (fun K7 hK7 => ?_)
      refine code_block ?_
      refine code_seq (fun K8 hK8 => ?_)
      refine code_region ?_
      refine list_cons rfl (op_q (q_move rfl (by decide)) ?_)
      refine list_cons rfl (op_q (q_move rfl (by decide)) ?_)
      refine list_cons rfl (op_q (q_move rfl (by decide)) ?_)
      refine list_cons rfl (op_q (q_indexAddr_own sl_36 rfl rfl (by omega) (by omega) (by decide)) ?_)
      refine list_cons rfl (op_q (q_cast (q_load_agg agg_71 6 (.inl rfl) rfl rfl (by first | decide | omega | exact Nat.le_refl _ | (simp; done) | (simp; omega)) (by first | rfl | exact flat_part (fl_flat _) _ _) (by decide)) (congrArg (fun z => SV.val (PV.agg z)) (fl_at allS i.toNat (by rw [allS_len]; omega)))) ?_)
      refine list_cons rfl (op_call _ (spec_l7PlaceE l _ _ _ rfl hT (allS_ok (by omega))) rfl rfl (by decide) (by decide) (by decide) rfl ?_)
      rintro _ rfl
      refine list_cons rfl (op_q (q_ge rfl rfl (by decide)) ?_)
      refine list_cons rfl (op_q (q_move rfl (by decide)) ?_)
      refine list_cons rfl (op_q (q_beq Tryd.underlying4 rfl rfl (by decide)) ?_)
      refine list_nil ?_
      refine hK8 _ ?_; clear hK8 K8
      refine codeT.imp (σ' := [(0, _), (1, _), (4, _), (5, _), (6, _), (7, _), (24, _)]) ?_ (imp_covers ⟨rfl, rfl, rfl, rfl, rfl, rfl, rfl, trivial⟩)
      refine code_cond_d rfl (fun h2 => ?_) (fun h2 => ?_)
      · skip
        (try simp only [Decidable.not_not] at h2)
        refine code_region ?_
        refine list_cons rfl (op_q (q_move rfl (by decide)) ?_)
        refine list_cons rfl (op_q (q_move rfl (by decide)) ?_)
        refine list_cons rfl (op_q (q_move rfl (by decide)) ?_)
        refine list_cons rfl (op_q (q_indexAddr_own sl_36 rfl rfl (by omega) (by omega) (by decide)) ?_)
        refine list_cons rfl (op_q (q_cast (q_load_agg agg_71 6 (.inl rfl) rfl rfl (by first | decide | omega | exact Nat.le_refl _ | (simp; done) | (simp; omega)) (by first | rfl | exact flat_part (fl_flat _) _ _) (by decide)) (congrArg (fun z => SV.val (PV.agg z)) (fl_at allS i.toNat (by rw [allS_len]; omega)))) ?_)
        refine list_cons rfl (op_buildSlice sl_36 (parts := [(0, .tmp 29)]) rfl rfl rfl (by decide) (by decide) (by decide) rfl ?_)
        refine list_cons rfl (op_append_gen sl_36 (l := 8) (.inl rfl) rfl rfl (l2 := none) (.inl ⟨rfl, (by first | rfl | exact flat_map _ (fun _ => rfl) _)⟩) (by first | rfl | (simp [PV.cells, putAt, zeros]; done)) (by omega) (by decide) (by decide) (by decide) ?_)
        refine list_cons rfl (op_q (q_assign rfl (by decide)) ?_)
        refine list_nil ?_
        refine blk_n ?_
        refine hK7 _ ?_; clear hK7 K7
        refine codeT.imp (σ' := [(0, _), (1, _), (4, _), (5, _), (6, _), (7, _)]) ?_ (imp_covers ⟨rfl, rfl, rfl, rfl, rfl, rfl, trivial⟩)
        refine code_region ?_
        refine list_cons rfl (op_q (q_move rfl (by decide)) ?_)
        refine list_cons rfl (op_q (by first | exact q_addI rfl rfl (by decide) (by omega) (by omega) | exact q_ib rfl rfl rfl (by decide)) ?_)
        refine list_cons rfl (op_q (q_assign rfl (by decide)) ?_)
        refine list_nil ?_
        refine then_n ⟨(_, _, _, _, _, _), imp_covers ⟨rfl, rfl, rfl, rfl, rfl, rfl, trivial⟩, ?_, ?_⟩
        · (try dsimp only)
          first
            | (refine ⟨by omega, by omega, rfl, rfl, L ++ [allS.getD i.toNat (0, 0)], by simp, ?_, ?_⟩
               · simp [fl]; rfl
               · rw [show (i + 1).toNat = i.toNat + 1 by omega, fndK_succ l fo (by omega) (by omega), if_pos h2, hL])
            | (refine ⟨by omega, by omega, rfl, rfl, L, rfl, rfl, ?_⟩
               rw [show (i + 1).toNat = i.toNat + 1 by omega, fndK_succ l fo (by omega) (by omega), if_neg h2, List.append_nil, hL])
        · (try dsimp only); omega
      (try simp only [Decidable.not_not] at h2)
      refine code_skip ?_
      refine blk_n ?_
      refine hK7 _ ?_; clear hK7 K7
      refine code_region ?_
      refine list_cons rfl (op_q (q_move rfl (by decide)) ?_)
      refine list_cons rfl (op_q (by first | exact q_addI rfl rfl (by decide) (by omega) (by omega) | exact q_ib rfl rfl rfl (by decide)) ?_)
      refine list_cons rfl (op_q (q_assign rfl (by decide)) ?_)
      refine list_nil ?_
      refine then_n ⟨(_, _, _, _, _, _), imp_covers ⟨rfl, rfl, rfl, rfl, rfl, rfl, trivial⟩, ?_, ?_⟩
      · (try dsimp only)
        first
          | (refine ⟨by omega, by omega, rfl, rfl, L ++ [allS.getD i.toNat (0, 0)], by simp, ?_, ?_⟩
             · simp [fl]; rfl
             · rw [show (i + 1).toNat = i.toNat + 1 by omega, fndK_succ l fo (by omega) (by omega), if_pos h2, hL])
          | (refine ⟨by omega, by omega, rfl, rfl, L, rfl, rfl, ?_⟩
             rw [show (i + 1).toNat = i.toNat + 1 by omega, fndK_succ l fo (by omega) (by omega), if_neg h2, List.append_nil, hL])
      · (try dsimp only); omega
    (try simp only [Decidable.not_not] at h1)
    refine code_exit ?_
    refine then_x ?_; clear hK5 K5
    refine then_x ?_
    refine blk_hit ?_
    refine hK3 _ ?_; clear hK3 K3
    refine code_seq (fun K9 hK9 => ?_)
    refine code_region ?_
    refine list_cons rfl (op_q (q_move rfl (by decide)) ?_)
    refine list_cons rfl (op_q (q_assign rfl (by decide)) ?_)
    refine list_nil ?_
    refine hK9 _ ?_; clear hK9 K9
    refine code_ret ?_
    refine ends_ret (cs := []) rfl rfl rfl rfl trivial ?_
    first | (rw [show i.toNat = 15 by omega] at hL; subst hL; rfl)

set_option maxRecDepth 4000 in
theorem spec_FoundStates (l : List Int) (hl : l.length ≤ 4611686018427387904) : PCalls Tryd.prog 23 [.sl l.length (l.map (.int .i64))] (· = [.own 0 71 2 (if TstP l then fnd l true else []).length (fl (if TstP l then fnd l true else [])), .val (.bool (decide (TstP l)))]) := by
  refine pcalls_of_code (n := 10) az Tryd.func23 (by kernel_rfl) rfl rfl (Nat.le_of_ble_eq_true rfl) (by intro t u h; simp [Tryd.f23] at h) ?_
  refine code_seq (fun K1 hK1 => ?_)
  refine code_region ?_
  refine list_cons rfl (op_q (q_assign rfl (by decide)) ?_)
  refine list_cons rfl (op_q (q_assign rfl (by decide)) ?_)
  refine list_nil ?_
  refine hK1 _ ?_; clear hK1 K1
  refine code_seq (fun K2 hK2 => ?_)
  refine code_seq (fun K3 hK3 => ?_)
  refine code_region ?_
  refine list_cons rfl (op_q (q_move rfl (by decide)) ?_)
  refine list_cons rfl (op_call _ (spec_l7Test _ (by first | omega | (simp; omega))) rfl rfl (by decide) (by decide) (by decide) rfl ?_)
  rintro _ rfl
  refine list_cons rfl (op_q (by first | exact q_notd rfl (by decide) | exact q_not rfl (by decide)) ?_)
  refine list_nil ?_
  refine hK3 _ ?_; clear hK3 K3
  refine codeT.imp (σ' := [(0, _), (2, _), (3, _), (6, _)]) ?_ (imp_covers ⟨rfl, rfl, rfl, rfl, trivial⟩)
  refine code_cond_d rfl (fun h1 => ?_) (fun h1 => ?_)
  · skip
    (try simp only [Decidable.not_not] at h1)
    refine code_seq (fun K4 hK4 => ?_)
    refine code_region ?_
    refine list_cons rfl (op_buildSlice sl_36 (parts := []) rfl rfl rfl (by decide) (by decide) (by decide) rfl ?_)
    refine list_cons rfl (op_q (q_assign rfl (by decide)) ?_)
    refine list_cons rfl (op_q (q_assign rfl (by decide)) ?_)
    refine list_nil ?_
    refine hK4 _ ?_; clear hK4 K4
    refine code_ret ?_
    refine then_r ?_; clear hK2 K2
    refine ends_ret (cs := []) rfl rfl rfl rfl trivial ?_
    first | (simp only [if_neg h1, decide_eq_false h1]; rfl) | (simp only [if_pos h1, decide_eq_true h1]; done)
  (try simp only [Decidable.not_not] at h1)
  refine code_skip ?_
  refine hK2 _ ?_; clear hK2 K2
  refine code_seq (fun K5 hK5 => ?_)
  refine code_region ?_
  refine list_cons rfl (op_q (q_move rfl (by decide)) ?_)
  refine list_cons rfl (op_call _ (spec_l7Found l true h1) rfl rfl (by decide) (by decide) (by decide) rfl ?_)
  rintro _ rfl
  refine list_cons rfl (op_q (q_assign rfl (by decide)) ?_)
  refine list_cons rfl (op_q (q_assign rfl (by decide)) ?_)
  refine list_nil ?_
  refine hK5 _ ?_; clear hK5 K5
  refine codeT.imp (σ' := [(0, _), (2, _), (3, _)]) ?_ (imp_covers ⟨rfl, rfl, rfl, trivial⟩)
  refine code_ret ?_
  refine ends_ret (cs := []) rfl rfl rfl rfl trivial ?_
  first | (simp only [if_neg h1, decide_eq_false h1]; rfl) | (simp only [if_pos h1, decide_eq_true h1]; done)

set_option maxRecDepth 4000 in
theorem spec_HiddenStates (l : List Int) (hl : l.length ≤ 4611686018427387904) : PCalls Tryd.prog 31 [.sl l.length (l.map (.int .i64))] (· = [.own 0 71 2 (if TstP l then fnd l false else []).length (fl (if TstP l then fnd l false else [])), .val (.bool (decide (TstP l)))]) := by
  refine pcalls_of_code (n := 10) az Tryd.func31 (by kernel_rfl) rfl rfl (Nat.le_of_ble_eq_true rfl) (by intro t u h; simp [Tryd.f31] at h) ?_
  refine code_seq (fun K1 hK1 => ?_)
  refine code_region ?_
  refine list_cons rfl (op_q (q_assign rfl (by decide)) ?_)
  refine list_cons rfl (op_q (q_assign rfl (by decide)) ?_)
  refine list_nil ?_
  refine hK1 _ ?_; clear hK1 K1
  refine code_seq (fun K2 hK2 => ?_)
  refine code_seq (fun K3 hK3 => ?_)
  refine code_region ?_
  refine list_cons rfl (op_q (q_move rfl (by decide)) ?_)
  refine list_cons rfl (op_call _ (spec_l7Test _ (by first | omega | (simp; omega))) rfl rfl (by decide) (by decide) (by decide) rfl ?_)
  rintro _ rfl
  refine list_cons rfl (op_q (by first | exact q_notd rfl (by decide) | exact q_not rfl (by decide)) ?_)
  refine list_nil ?_
  refine hK3 _ ?_; clear hK3 K3
  refine codeT.imp (σ' := [(0, _), (2, _), (3, _), (6, _)]) ?_ (imp_covers ⟨rfl, rfl, rfl, rfl, trivial⟩)
  refine code_cond_d rfl (fun h1 => ?_) (fun h1 => ?_)
  · skip
    (try simp only [Decidable.not_not] at h1)
    refine code_seq (fun K4 hK4 => ?_)
    refine code_region ?_
    refine list_cons rfl (op_buildSlice sl_36 (parts := []) rfl rfl rfl (by decide) (by decide) (by decide) rfl ?_)
    refine list_cons rfl (op_q (q_assign rfl (by decide)) ?_)
    refine list_cons rfl (op_q (q_assign rfl (by decide)) ?_)
    refine list_nil ?_
    refine hK4 _ ?_; clear hK4 K4
    refine code_ret ?_
    refine then_r ?_; clear hK2 K2
    refine ends_ret (cs := []) rfl rfl rfl rfl trivial ?_
    first | (simp only [if_neg h1, decide_eq_false h1]; rfl) | (simp only [if_pos h1, decide_eq_true h1]; done)
  (try simp only [Decidable.not_not] at h1)
  refine code_skip ?_
  refine hK2 _ ?_; clear hK2 K2
  refine code_seq (fun K5 hK5 => ?_)
  refine code_region ?_
  refine list_cons rfl (op_q (q_move rfl (by decide)) ?_)
  refine list_cons rfl (op_call _ (spec_l7Found l false h1) rfl rfl (by decide) (by decide) (by decide) rfl ?_)
  rintro _ rfl
  refine list_cons rfl (op_q (q_assign rfl (by decide)) ?_)
  refine list_cons rfl (op_q (q_assign rfl (by decide)) ?_)
  refine list_nil ?_
  refine hK5 _ ?_; clear hK5 K5
  refine codeT.imp (σ' := [(0, _), (2, _), (3, _)]) ?_ (imp_covers ⟨rfl, rfl, rfl, trivial⟩)
  refine code_ret ?_
  refine ends_ret (cs := []) rfl rfl rfl rfl trivial ?_
  first | (simp only [if_neg h1, decide_eq_false h1]; rfl) | (simp only [if_pos h1, decide_eq_true h1]; done)

set_option maxRecDepth 4000 in
theorem spec_l7Full (l : List Int) (hT : TstP l) : PCalls Tryd.prog 46 [.sl l.length (l.map (.int .i64))] (· = [.val (.bool (decide (FulP l)))]) := by
  refine pcalls_of_code (n := 7) az Tryd.func46 (by kernel_rfl) rfl rfl (Nat.le_of_ble_eq_true rfl) (by intro t u h; simp [Tryd.f46] at h) ?_
  refine code_seq (fun K1 hK1 => ?_)
  refine code_region ?_
  refine list_cons rfl (op_q (q_assign rfl (by decide)) ?_)
  refine list_nil ?_
  refine hK1 _ ?_; clear hK1 K1
  refine code_seq (fun K2 hK2 => ?_)
  refine code_region ?_
  refine list_cons rfl (op_q (q_move rfl (by decide)) ?_)
  refine list_cons rfl (op_call _ (spec_l7Found l false hT) rfl rfl (by decide) (by decide) (by decide) rfl ?_)
  rintro _ rfl
  refine list_cons rfl (op_q (q_len_sl Tryd.underlying36 rfl rfl (by decide)) ?_)
  refine list_cons rfl (op_q (q_eq rfl rfl (by decide)) ?_)
  refine list_cons rfl (op_q (q_assign rfl (by decide)) ?_)
  refine list_nil ?_
  refine hK2 _ ?_; clear hK2 K2
  refine codeT.imp (σ' := [(0, _), (2, _)]) ?_ (imp_covers ⟨rfl, rfl, trivial⟩)
  refine code_ret ?_
  refine ends_ret (cs := []) rfl rfl rfl rfl trivial ?_
  first | (congr 3; exact decide_eq_decide.mpr (ful_len l))

set_option maxRecDepth 4000 in
theorem spec_IsFullTest (l : List Int) (hl : l.length ≤ 4611686018427387904) : PCalls Tryd.prog 33 [.sl l.length (l.map (.int .i64))] (· = [.val (.bool (decide (TstP l ∧ FulP l))), .val (.bool (decide (TstP l)))]) := by
  refine pcalls_of_code (n := 9) az Tryd.func33 (by kernel_rfl) rfl rfl (Nat.le_of_ble_eq_true rfl) (by intro t u h; simp [Tryd.f33] at h) ?_
  refine code_seq (fun K1 hK1 => ?_)
  refine code_region ?_
  refine list_cons rfl (op_q (q_assign rfl (by decide)) ?_)
  refine list_cons rfl (op_q (q_assign rfl (by decide)) ?_)
  refine list_nil ?_
  refine hK1 _ ?_; clear hK1 K1
  refine code_seq (fun K2 hK2 => ?_)
  refine code_seq (fun K3 hK3 => ?_)
  refine code_region ?_
  refine list_cons rfl (op_q (q_move rfl (by decide)) ?_)
  refine list_cons rfl (op_call _ (spec_l7Test _ (by first | omega | (simp; omega))) rfl rfl (by decide) (by decide) (by decide) rfl ?_)
  rintro _ rfl
  refine list_cons rfl (op_q (by first | exact q_notd rfl (by decide) | exact q_not rfl (by decide)) ?_)
  refine list_nil ?_
  refine hK3 _ ?_; clear hK3 K3
  refine codeT.imp (σ' := [(0, _), (2, _), (3, _), (6, _)]) ?_ (imp_covers ⟨rfl, rfl, rfl, rfl, trivial⟩)
  refine code_cond_d rfl (fun h1 => ?_) (fun h1 => ?_)
  · skip
    (try simp only [Decidable.not_not] at h1)
    refine code_seq (fun K4 hK4 => ?_)
    refine code_region ?_
    refine list_cons rfl (op_q (q_assign rfl (by decide)) ?_)
    refine list_cons rfl (op_q (q_assign rfl (by decide)) ?_)
    refine list_nil ?_
    refine hK4 _ ?_; clear hK4 K4
    refine code_ret ?_
    refine then_r ?_; clear hK2 K2
    refine ends_ret (cs := []) rfl rfl rfl rfl trivial ?_
    first
      | (rw [decide_eq_false (fun e : TstP l ∧ FulP l => h1 e.1), decide_eq_false h1]; done)
      | (rw [decide_eq_true h1]; congr 3; exact decide_eq_decide.mpr ⟨fun e => ⟨h1, e⟩, fun e => e.2⟩)
  (try simp only [Decidable.not_not] at h1)
  refine code_skip ?_
  refine hK2 _ ?_; clear hK2 K2
  refine code_seq (fun K5 hK5 => ?_)
  refine code_region ?_
  refine list_cons rfl (op_q (q_move rfl (by decide)) ?_)
  refine list_cons rfl (op_call _ (spec_l7Full l h1) rfl rfl (by decide) (by decide) (by decide) rfl ?_)
  rintro _ rfl
  refine list_cons rfl (op_q (q_assign rfl (by decide)) ?_)
  refine list_cons rfl (op_q (q_assign rfl (by decide)) ?_)
  refine list_nil ?_
  refine hK5 _ ?_; clear hK5 K5
  refine codeT.imp (σ' := [(0, _), (2, _), (3, _)]) ?_ (imp_covers ⟨rfl, rfl, rfl, trivial⟩)
  refine code_ret ?_
  refine ends_ret (cs := []) rfl rfl rfl rfl trivial ?_
  first
    | (rw [decide_eq_false (fun e : TstP l ∧ FulP l => h1 e.1), decide_eq_false h1]; done)
    | (rw [decide_eq_true h1]; congr 3; exact decide_eq_decide.mpr ⟨fun e => ⟨h1, e⟩, fun e => e.2⟩)

set_option maxRecDepth 4000 in
theorem spec_l1Own (l : List Int) (hl : l.length ≤ 1000) : PCalls Tryd.prog 69 [.sl l.length (l.map (.int .i64))] (· = [.own 0 3 1 (l).length ((l).map (.int .i64))]) := by
  refine pcalls_of_code (n := 6) az Tryd.func69 (by kernel_rfl) rfl rfl (Nat.le_of_ble_eq_true rfl) (by intro t u h; simp [Tryd.f69] at h) ?_
  refine code_seq (fun K1 hK1 => ?_)
  refine code_region ?_
  refine list_cons rfl (op_q (q_assign rfl (by decide)) ?_)
  refine list_nil ?_
  refine hK1 _ ?_; clear hK1 K1
  refine code_seq (fun K2 hK2 => ?_)
  refine code_region ?_
  refine list_cons rfl (op_buildSlice sl_32 (parts := []) rfl rfl rfl (by decide) (by decide) (by decide) rfl ?_)
  refine list_cons rfl (op_q (q_move rfl (by decide)) ?_)
  refine list_cons rfl (op_append_gen sl_32 (l := 3) (.inl rfl) rfl rfl (l2 := none) (.inl ⟨rfl, (by first | rfl | exact flat_map _ (fun _ => rfl) _)⟩) (by first | rfl | simp | omega) (by omega) (by decide) (by decide) (by decide) ?_)
  refine list_cons rfl (op_q (q_assign rfl (by decide)) ?_)
  refine list_nil ?_
  refine hK2 _ ?_; clear hK2 K2
  refine codeT.imp (σ' := [(0, _), (2, _)]) ?_ (imp_covers ⟨rfl, rfl, trivial⟩)
  refine code_ret ?_
  refine ends_ret (cs := []) rfl rfl rfl rfl trivial ?_
  first | rfl | (rw [show zeros [PV.int IntKind.i64 0] 0 = [] from rfl, List.nil_append, Nat.zero_add])

theorem spec_l1OwnT (l : List Int) (i : Int) (h0 : 0 ≤ i) (h1 : i ≤ l.length) (hl : l.length ≤ 1000) : PCalls Tryd.prog 69 [.sl (i.toNat - Int.toNat 0) (List.take ((i.toNat - Int.toNat 0) * 1) (List.drop (Int.toNat 0 * 1) (l.map (PV.int .i64))))] (· = [.own 0 3 1 (l.take i.toNat).length ((l.take i.toNat).map (.int .i64))]) := by
  have h := spec_l1Own (l.take i.toNat) (by rw [List.length_take]; omega)
  have e : (l.take i.toNat).length = i.toNat := by rw [List.length_take]; omega
  rw [show i.toNat - Int.toNat 0 = i.toNat by omega, show Int.toNat 0 * 1 = 0 from rfl, List.drop_zero, Nat.mul_one, ← List.map_take]
  rw [e] at h ⊢
  exact h

theorem spec_l7FullT (l : List Int) (i : Int) (h0 : 0 ≤ i) (h1 : i < l.length) (hT : TstP l) : PCalls Tryd.prog 46 [.sl ((l.take i.toNat).length + ((l.length : Int).toNat - (i + 1).toNat)) ((l.take i.toNat).map (PV.int .i64) ++ ((l.map (PV.int .i64)).drop ((i + 1).toNat * 1)).take (((l.length : Int).toNat - (i + 1).toNat) * 1))] (· = [.val (.bool (decide (FulP (l.take i.toNat ++ l.drop (i.toNat + 1)))))]) := by
  have h := spec_l7Full (l.take i.toNat ++ l.drop (i.toNat + 1)) (cut_tst hT _)
  have e : (l.take i.toNat ++ l.drop (i.toNat + 1)).length = (l.take i.toNat).length + ((l.length : Int).toNat - (i + 1).toNat) := by
    rw [List.length_append, List.length_drop]; omega
  rw [e, List.map_append] at h
  have e2 : ((l.map (PV.int .i64)).drop ((i + 1).toNat * 1)).take (((l.length : Int).toNat - (i + 1).toNat) * 1) = (l.drop (i.toNat + 1)).map (PV.int .i64) := by
    rw [Nat.mul_one, Nat.mul_one, List.take_of_length_le (by rw [List.length_drop, List.length_map]; omega), show (i + 1).toNat = i.toNat + 1 by omega, List.map_drop]
  rw [e2]
  exact h

set_option maxRecDepth 8000 in
set_option maxHeartbeats 2000000 in
theorem spec_l7Least (l : List Int) (hT : TstP l) : PCalls Tryd.prog 47 [.sl l.length (l.map (.int .i64))] (· = [.val (.bool (decide (LeaP l)))]) := by
  refine pcalls_of_code (n := 22) az Tryd.func47 (by kernel_rfl) rfl rfl (Nat.le_of_ble_eq_true rfl) (by intro t u h; simp [Tryd.f47] at h) ?_
  have hl10 := hT.1
  refine code_seq (fun K1 hK1 => ?_)
  refine code_region ?_
  refine list_cons rfl (op_q (q_assign rfl (by decide)) ?_)
  refine list_nil ?_
  refine hK1 _ ?_; clear hK1 K1
  refine code_seq (fun K2 hK2 => ?_)
  refine code_seq (fun K3 hK3 => ?_)
  refine code_region ?_
  refine list_cons rfl (op_q (q_assign rfl (by decide)) ?_)
  refine list_nil ?_
  refine hK3 _ ?_; clear hK3 K3
  refine code_block ?_
  refine code_loop (X := Bool × Int) (fun x => [(0, .par 0 (.sl l.length (l.map (.int .i64)))), (2, .val (.bool x.1)), (3, .val (.int .i64 x.2))]) (fun x => 0 ≤ x.2 ∧ x.2 ≤ l.length ∧ ∀ j, j < x.2.toNat → ¬ FulP (l.take j ++ l.drop (j + 1))) (fun x => (l.length - x.2).toNat) (_, _) (imp_covers ⟨rfl, rfl, rfl, trivial⟩) ?_ ?_
  · (try dsimp only)
    exact ⟨by omega, by omega, fun j hj => absurd hj (Nat.not_lt_zero j)⟩
  · intro x hI
    obtain ⟨t2, i⟩ := x
    replace hI : 0 ≤ i ∧ i ≤ l.length ∧ ∀ j, j < i.toNat → ¬ FulP (l.take j ++ l.drop (j + 1)) := hI
    show codeT _ _ _ [(0, .par 0 (.sl l.length (l.map (.int .i64)))), (2, .val (.bool t2)), (3, .val (.int .i64 i))] _
    obtain ⟨i1, i2, i3⟩ := hI
    refine code_seq (fun K4 hK4 => ?_)
    refine code_seq (fun K5 hK5 => ?_)
    refine code_region ?_
    refine list_cons rfl (op_q (q_move rfl (by decide)) ?_)
    refine list_cons rfl (op_q (q_move rfl (by decide)) ?_)
    refine list_cons rfl (op_q (q_len_sl Tryd.underlying32 rfl rfl (by decide)) ?_)
    refine list_cons rfl (op_q (q_lt rfl rfl (by decide)) ?_)
    refine list_nil ?_
    refine hK5 _ ?_; clear hK5 K5
    refine code_cond_d rfl (fun h1 => ?_) (fun h1 => ?_)
    · skip
      (try simp only [Decidable.not_not] at h1)
      refine code_skip ?_
      refine hK4 _ ?_; clear hK4 K4
      refine code_seq (fun K6 hK6 => ?_)
      refine code_block ?_
      refine code_seq (fun K7 hK7 => ?_)
      refine any_start fun ob1_0 => ?_
      refine any_op (rd := [0]) ob1_0 rfl rfl rfl (anyT_quiet [(0, _)] ⟨rfl, trivial⟩ rfl (q_move rfl (by decide))) (fun ob1_1 => ?_)
      refine any_op (rd := [3]) ob1_1 rfl rfl rfl (anyT_quiet [(3, _)] ⟨rfl, trivial⟩ rfl (q_move rfl (by decide))) (fun ob1_2 => ?_)
      refine any_op (rd := [10, 11]) ob1_2 rfl rfl rfl (anyT_quiet [(10, _), (11, _)] ⟨rfl, rfl, trivial⟩ rfl (q_slice_sl sl_32 rfl rfl rfl ⟨_, rfl⟩ (by omega) (by omega) (by omega) rfl (by decide))) (fun ob1_3 => ?_)
      refine any_op (rd := [12]) ob1_3 rfl rfl rfl (fun σ hag hfr => by have e12 : σ.at 12 = some _ := (hag 12 (by decide)).trans rfl; exact op_call _ (spec_l1OwnT l i (by omega) (by omega) (by omega)) (evs_cons e12 evs_nil) rfl (by decide) (by decide) (by decide) hfr (fun rs hR => by subst hR; rfl)) (fun ob1_4 => ?_)
      refine any_op (rd := [0]) ob1_4 rfl rfl rfl (anyT_quiet [(0, _)] ⟨rfl, trivial⟩ rfl (q_move rfl (by decide))) (fun ob1_5 => ?_)
      refine any_op (rd := [3]) ob1_5 rfl rfl rfl (anyT_quiet [(3, _)] ⟨rfl, trivial⟩ rfl (q_move rfl (by decide))) (fun ob1_6 => ?_)
      refine any_op (rd := [15]) ob1_6 rfl rfl rfl (anyT_quiet [(15, _)] ⟨rfl, trivial⟩ rfl (by first | exact q_addI rfl rfl (by decide) (by omega) (by omega) | exact q_ib rfl rfl rfl (by decide))) (fun ob1_7 => ?_)
      refine any_op (rd := [14, 16]) ob1_7 rfl rfl rfl (anyT_quiet [(14, _), (16, _)] ⟨rfl, rfl, trivial⟩ rfl (q_slice_sl sl_32 rfl rfl ⟨_, rfl⟩ rfl (by omega) (by omega) (by omega) rfl (by decide))) (fun ob1_8 => ?_)
      refine any_end [[], [], [0, 1], [0, 1, 2], [], [], [5], [4, 5, 6], [0, 1, 2, 3, 4, 5, 6, 7], [0, 1, 2, 3, 4, 5, 6, 7, 8]] ob1_8 (by kernel_rfl) (Nat.le_of_ble_eq_true rfl) (by decide) (by decide) (by kernel_rfl) (by kernel_rfl) (by kernel_rfl) (by kernel_rfl) (by kernel_rfl) ?_
      clear ob1_0 ob1_1 ob1_2 ob1_3 ob1_4 ob1_5 ob1_6 ob1_7 ob1_8
      refine listT.imp (σ' := [(0, _), (2, _), (3, _), (4, _), (5, _), (6, _), (7, _), (10, _), (11, _), (12, _), (13, _), (14, _), (15, _), (16, _), (17, _)]) ?_ (imp_covers ⟨rfl, rfl, rfl, rfl, rfl, rfl, rfl, rfl, rfl, rfl, rfl, rfl, rfl, rfl, rfl, trivial⟩)
      refine list_cons rfl (op_append_gen sl_32 (l := 13) (.inl rfl) rfl rfl (l2 := none) (.inl ⟨rfl, (by first | rfl | exact flat_map _ (fun _ => rfl) _ | exact flat_part (flat_map _ (fun _ => rfl) _) _ _)⟩) (by first | rfl | (simp; done) | (simp; omega)) (by rw [List.length_take]; omega) (by decide) (by decide) (by decide) ?_)
      refine list_cons rfl (op_call _ (spec_l7FullT l i (by omega) (by omega) hT) rfl rfl (by decide) (by decide) (by decide) rfl ?_)
      rintro _ rfl
      refine list_nil ?_
      refine hK7 _ ?_; clear hK7 K7
      refine codeT.imp (σ' := [(0, _), (2, _), (3, _), (19, _)]) ?_ (imp_covers ⟨rfl, rfl, rfl, rfl, trivial⟩)
      refine code_cond_d rfl (fun h2 => ?_) (fun h2 => ?_)
      · skip
        (try simp only [Decidable.not_not] at h2)
        refine code_seq (fun K8 hK8 => ?_)
        refine code_region ?_
        refine list_cons rfl (op_q (q_assign rfl (by decide)) ?_)
        refine list_nil ?_
        refine hK8 _ ?_; clear hK8 K8
        refine code_ret ?_
        refine blk_r ?_
        refine then_r ?_; clear hK6 K6
        refine then_r ?_
        refine blk_r ?_
        refine then_r ?_; clear hK2 K2
        refine ends_ret (cs := []) rfl rfl rfl rfl trivial ?_
        first
          | (rw [decide_eq_false (fun e : LeaP l => e.2 i.toNat (by omega) (by assumption))]; done)
          | (congr 3; exact decide_eq_decide.mpr ⟨fun e => ⟨e, fun j hj => i3 j (by omega)⟩, fun e => e.1⟩)
      (try simp only [Decidable.not_not] at h2)
      refine code_skip ?_
      refine blk_n ?_
      refine hK6 _ ?_; clear hK6 K6
      refine code_region ?_
      refine list_cons rfl (op_q (q_move rfl (by decide)) ?_)
      refine list_cons rfl (op_q (by first | exact q_addI rfl rfl (by decide) (by omega) (by omega) | exact q_ib rfl rfl rfl (by decide)) ?_)
      refine list_cons rfl (op_q (q_assign rfl (by decide)) ?_)
      refine list_nil ?_
      refine then_n ⟨(_, _), imp_covers ⟨rfl, rfl, rfl, trivial⟩, ?_, ?_⟩
      · (try dsimp only)
        refine ⟨by omega, by omega, fun j hj => ?_⟩
        by_cases e : j = i.toNat
        · subst e; assumption
        · exact i3 j (by omega)
      · (try dsimp only); omega
    (try simp only [Decidable.not_not] at h1)
    refine code_exit ?_
    refine then_x ?_; clear hK4 K4
    refine then_x ?_
    refine blk_hit ?_
    refine hK2 _ ?_; clear hK2 K2
    refine code_seq (fun K9 hK9 => ?_)
    refine code_region ?_
    refine list_cons rfl (op_q (q_move rfl (by decide)) ?_)
    refine list_cons rfl (op_call _ (spec_l7Full l hT) rfl rfl (by decide) (by decide) (by decide) rfl ?_)
    rintro _ rfl
    refine list_cons rfl (op_q (q_assign rfl (by decide)) ?_)
    refine list_nil ?_
    refine hK9 _ ?_; clear hK9 K9
    refine codeT.imp (σ' := [(0, _), (2, _), (3, _)]) ?_ (imp_covers ⟨rfl, rfl, rfl, trivial⟩)
    refine code_ret ?_
    refine ends_ret (cs := []) rfl rfl rfl rfl trivial ?_
    first
      | (rw [decide_eq_false (fun e : LeaP l => e.2 i.toNat (by omega) (by assumption))]; done)
      | (congr 3; exact decide_eq_decide.mpr ⟨fun e => ⟨e, fun j hj => i3 j (by omega)⟩, fun e => e.1⟩)

set_option maxRecDepth 8000 in
set_option maxHeartbeats 2000000 in
theorem spec_l5Part7 (n s : Int) (hn : 0 ≤ n ∧ n ≤ 12) (hs : 0 ≤ s ∧ s ≤ 65536) : PCalls Tryd.prog 68 [.int .i64 n, .int .i64 s] (· = [.own 0 3 1 (prtK n.toNat s.toNat n.toNat).length ((prtK n.toNat s.toNat n.toNat).map (.int .i64))]) := by
  refine pcalls_of_code (n := 26) az Tryd.func68 (by kernel_rfl) rfl rfl (Nat.le_of_ble_eq_true rfl) (by intro t u h; simp [Tryd.f68] at h) ?_
  refine code_seq (fun K1 hK1 => ?_)
  refine code_region ?_
  refine list_cons rfl (op_q (q_assign rfl (by decide)) ?_)
  refine list_nil ?_
  refine hK1 _ ?_; clear hK1 K1
  refine code_seq (fun K2 hK2 => ?_)
  refine code_region ?_
  refine list_cons rfl (op_buildSlice sl_32 (parts := []) rfl rfl rfl (by decide) (by decide) (by decide) rfl ?_)
  refine list_cons rfl (op_q (q_assign rfl (by decide)) ?_)
  refine list_nil ?_
  refine hK2 _ ?_; clear hK2 K2
  refine code_seq (fun K3 hK3 => ?_)
  refine code_seq (fun K4 hK4 => ?_)
  refine code_region ?_
  refine list_cons rfl (op_q (q_assign rfl (by decide)) ?_)
  refine list_nil ?_
  refine hK4 _ ?_; clear hK4 K4
  refine code_block ?_
  refine code_loop (X := PV × Nat × List PV × Int) (fun x => [(0, .val (.int .i64 n)), (1, .val (.int .i64 s)), (4, .val x.1), (5, .own 7 3 1 x.2.1 x.2.2.1), (6, .val (.int .i64 x.2.2.2))]) (fun x => 0 ≤ x.2.2.2 ∧ x.2.2.2 ≤ n ∧ ∃ L : List Int, x.2.1 = L.length ∧ x.2.2.1 = L.map (.int .i64) ∧ L = prtK n.toNat s.toNat x.2.2.2.toNat) (fun x => (n - x.2.2.2).toNat) (_, _, _, _) (imp_covers ⟨rfl, rfl, rfl, rfl, rfl, trivial⟩) ?_ ?_
  · (try dsimp only)
    exact ⟨by omega, by omega, [], rfl, rfl, rfl⟩
  · intro x hI
    obtain ⟨t4_p, out_n, out_c, i⟩ := x
    replace hI : 0 ≤ i ∧ i ≤ n ∧ ∃ L : List Int, out_n = L.length ∧ out_c = L.map (.int .i64) ∧ L = prtK n.toNat s.toNat i.toNat := hI
    show codeT _ _ _ [(0, .val (.int .i64 n)), (1, .val (.int .i64 s)), (4, .val t4_p), (5, .own 7 3 1 out_n out_c), (6, .val (.int .i64 i))] _
    obtain ⟨i1, i2, L, rfl, rfl, hL⟩ := hI
    have hLl : L.length ≤ 12 := by rw [hL]; exact Nat.le_trans (prtK_len _ _ _) (by omega)
    have hi : ((i.toNat : Nat) : Int) = i := Int.toNat_of_nonneg i1
    have hsh := shN_le s.toNat (n - 1 - i).toNat
    refine code_seq (fun K5 hK5 => ?_)
    refine code_seq (fun K6 hK6 => ?_)
    refine code_region ?_
    refine list_cons rfl (op_q (q_move rfl (by decide)) ?_)
    refine list_cons rfl (op_q (q_move rfl (by decide)) ?_)
    refine list_cons rfl (op_q (q_lt rfl rfl (by decide)) ?_)
    refine list_nil ?_
    refine hK6 _ ?_; clear hK6 K6
    refine code_cond_d rfl (fun h1 => ?_) (fun h1 => ?_)
    · skip
      (try simp only [Decidable.not_not] at h1)
      refine code_skip ?_
      refine hK5 _ ?_; clear hK5 K5
      refine code_seq (fun K7 hK7 => ?_)
      refine code_block ?_
      refine code_seq (fun K8 hK8 => ?_)
      refine code_region ?_
      refine list_cons rfl (op_q (q_move rfl (by decide)) ?_)
      refine list_cons rfl (op_q (q_move rfl (by decide)) ?_)
      refine list_cons rfl (op_q (by first | exact q_subI rfl rfl (by decide) (by omega) (by omega) | exact q_ib rfl rfl rfl (by decide)) ?_)
      refine list_cons rfl (op_q (q_move rfl (by decide)) ?_)
      refine list_cons rfl (op_q (by first | exact q_subI rfl rfl (by decide) (by omega) (by omega) | exact q_ib rfl rfl rfl (by decide)) ?_)
      refine list_cons rfl (op_q (by first | exact q_shrN rfl rfl (by decide) (by omega) (by omega) (by omega) | exact q_shrI rfl rfl (by decide) (by omega) (by omega) (by omega) | exact q_shr rfl rfl (by omega) (by decide)) ?_)
      refine list_cons rfl (op_q (by first | exact q_andI rfl rfl (by decide) (by omega) (by omega) (by omega) (by omega) | exact q_ib rfl rfl rfl (by decide)) ?_)
      refine list_cons rfl (op_q (q_eq rfl rfl (by decide)) ?_)
      refine list_nil ?_
      refine hK8 _ ?_; clear hK8 K8
      refine codeT.imp (σ' := [(0, _), (1, _), (4, _), (5, _), (6, _), (20, _)]) ?_ (imp_covers ⟨rfl, rfl, rfl, rfl, rfl, rfl, trivial⟩)
      refine code_cond_d rfl (fun h2 => ?_) (fun h2 => ?_)
      · skip
        (try simp only [Decidable.not_not] at h2)
        refine code_region ?_
        refine list_cons rfl (op_q (q_move rfl (by decide)) ?_)
        refine list_cons rfl (op_q (q_move rfl (by decide)) ?_)
        refine list_cons rfl (op_buildSlice sl_32 (parts := [(0, .tmp 22)]) rfl rfl rfl (by decide) (by decide) (by decide) rfl ?_)
        refine list_cons rfl (op_append_gen sl_32 (l := 7) (.inl rfl) rfl rfl (l2 := none) (.inl ⟨rfl, (by first | rfl | exact flat_map _ (fun _ => rfl) _)⟩) (by first | rfl | simp | omega) (by omega) (by decide) (by decide) (by decide) ?_)
        refine list_cons rfl (op_q (q_assign rfl (by decide)) ?_)
        refine list_nil ?_
        refine blk_n ?_
        refine hK7 _ ?_; clear hK7 K7
        refine codeT.imp (σ' := [(0, _), (1, _), (4, _), (5, _), (6, _)]) ?_ (imp_covers ⟨rfl, rfl, rfl, rfl, rfl, trivial⟩)
        refine code_region ?_
        refine list_cons rfl (op_q (q_move rfl (by decide)) ?_)
        refine list_cons rfl (op_q (by first | exact q_addI rfl rfl (by decide) (by omega) (by omega) | exact q_ib rfl rfl rfl (by decide)) ?_)
        refine list_cons rfl (op_q (q_assign rfl (by decide)) ?_)
        refine list_nil ?_
        refine then_n ⟨(_, _, _, _), imp_covers ⟨rfl, rfl, rfl, rfl, rfl, trivial⟩, ?_, ?_⟩
        · (try dsimp only)
          have hx := h2
          have e : (n - 1 - i).toNat = n.toNat - 1 - i.toNat := by omega
          rw [e] at hx
          first
            | (refine ⟨by omega, by omega, L ++ [i], by simp, by simp; rfl, ?_⟩
               rw [show (i + 1).toNat = i.toNat + 1 by omega, prtK_succ, if_pos (show btP _ _ from hx), hi, hL]; done)
            | (refine ⟨by omega, by omega, L, rfl, rfl, ?_⟩
               rw [show (i + 1).toNat = i.toNat + 1 by omega, prtK_succ, if_neg (show ¬ btP _ _ from hx), List.append_nil, hL]; done)
        · (try dsimp only); omega
      (try simp only [Decidable.not_not] at h2)
      refine code_skip ?_
      refine blk_n ?_
      refine hK7 _ ?_; clear hK7 K7
      refine code_region ?_
      refine list_cons rfl (op_q (q_move rfl (by decide)) ?_)
      refine list_cons rfl (op_q (by first | exact q_addI rfl rfl (by decide) (by omega) (by omega) | exact q_ib rfl rfl rfl (by decide)) ?_)
      refine list_cons rfl (op_q (q_assign rfl (by decide)) ?_)
      refine list_nil ?_
      refine then_n ⟨(_, _, _, _), imp_covers ⟨rfl, rfl, rfl, rfl, rfl, trivial⟩, ?_, ?_⟩
      · (try dsimp only)
        have hx := h2
        have e : (n - 1 - i).toNat = n.toNat - 1 - i.toNat := by omega
        rw [e] at hx
        first
          | (refine ⟨by omega, by omega, L ++ [i], by simp, by simp; rfl, ?_⟩
             rw [show (i + 1).toNat = i.toNat + 1 by omega, prtK_succ, if_pos (show btP _ _ from hx), hi, hL]; done)
          | (refine ⟨by omega, by omega, L, rfl, rfl, ?_⟩
             rw [show (i + 1).toNat = i.toNat + 1 by omega, prtK_succ, if_neg (show ¬ btP _ _ from hx), List.append_nil, hL]; done)
      · (try dsimp only); omega
    (try simp only [Decidable.not_not] at h1)
    refine code_exit ?_
    refine then_x ?_; clear hK5 K5
    refine then_x ?_
    refine blk_hit ?_
    refine hK3 _ ?_; clear hK3 K3
    refine code_seq (fun K9 hK9 => ?_)
    refine code_region ?_
    refine list_cons rfl (op_q (q_move rfl (by decide)) ?_)
    refine list_cons rfl (op_q (q_assign rfl (by decide)) ?_)
    refine list_nil ?_
    refine hK9 _ ?_; clear hK9 K9
    refine code_ret ?_
    refine ends_ret (cs := []) rfl rfl rfl rfl trivial ?_
    first | (rw [show i = n by omega] at hL; subst hL; rfl)

set_option maxRecDepth 8000 in
set_option maxHeartbeats 2000000 in
theorem spec_l7Digits (l : List Int) (s : Int) (hl : l.length ≤ 12) (hs : 0 ≤ s ∧ s ≤ 65536) : PCalls Tryd.prog 44 [.sl l.length (l.map (.int .i64)), .int .i64 s] (· = [.own 0 3 1 (dgsF l s.toNat).length ((dgsF l s.toNat).map (.int .i64))]) := by
  refine pcalls_of_code (n := 30) az Tryd.func44 (by kernel_rfl) rfl rfl (Nat.le_of_ble_eq_true rfl) (by intro t u h; simp [Tryd.f44] at h) ?_
  have hpl := prtK_len l.length s.toNat l.length
  have hq : prtK ((l.length : Int)).toNat s.toNat ((l.length : Int)).toNat = prtK l.length s.toNat l.length := rfl
  refine code_seq (fun K1 hK1 => ?_)
  refine code_region ?_
  refine list_cons rfl (op_q (q_assign rfl (by decide)) ?_)
  refine list_nil ?_
  refine hK1 _ ?_; clear hK1 K1
  refine code_seq (fun K2 hK2 => ?_)
  refine code_region ?_
  refine list_cons rfl (op_buildSlice sl_32 (parts := []) rfl rfl rfl (by decide) (by decide) (by decide) rfl ?_)
  refine list_cons rfl (op_q (q_move rfl (by decide)) ?_)
  refine list_cons rfl (op_q (q_len_sl Tryd.underlying32 rfl rfl (by decide)) ?_)
  refine list_cons rfl (op_q (q_move rfl (by decide)) ?_)
  refine list_cons rfl (op_call _ (spec_l5Part7 (l.length : Int) s (by omega) hs) rfl rfl (by decide) (by decide) (by decide) rfl ?_)
  rintro _ rfl
  refine list_cons rfl (op_q (q_assign rfl (by decide)) ?_)
  refine list_cons rfl (op_q (q_assign rfl (by decide)) ?_)
  refine list_nil ?_
  refine hK2 _ ?_; clear hK2 K2
  refine codeT.imp (σ' := [(0, _), (1, _), (4, _), (5, _), (6, _)]) ?_ (imp_covers ⟨rfl, rfl, rfl, rfl, rfl, trivial⟩)
  refine code_seq (fun K3 hK3 => ?_)
  refine code_seq (fun K4 hK4 => ?_)
  refine code_region ?_
  refine list_cons rfl (op_q (q_assign rfl (by decide)) ?_)
  refine list_nil ?_
  refine hK4 _ ?_; clear hK4 K4
  refine code_block ?_
  refine code_loop (X := PV × Nat × List PV × Nat × List PV × Int) (fun x => [(0, .par 0 (.sl l.length (l.map (.int .i64)))), (1, .val (.int .i64 s)), (4, .val x.1), (5, .own 8 3 1 x.2.1 x.2.2.1), (6, .own 12 3 1 x.2.2.2.1 x.2.2.2.2.1), (7, .val (.int .i64 x.2.2.2.2.2))]) (fun x => 0 ≤ x.2.2.2.2.2 ∧ x.2.2.2.2.2 ≤ (prtK l.length s.toNat l.length).length ∧ x.2.2.2.1 = (prtK l.length s.toNat l.length).length ∧ x.2.2.2.2.1 = (prtK l.length s.toNat l.length).map (.int .i64) ∧ ∃ L : List Int, x.2.1 = L.length ∧ x.2.2.1 = L.map (.int .i64) ∧ L = ((prtK l.length s.toNat l.length).take x.2.2.2.2.2.toNat).map (fun z => l.getD z.toNat 0)) (fun x => ((prtK l.length s.toNat l.length).length - x.2.2.2.2.2).toNat) (_, _, _, _, _, _) (imp_covers ⟨rfl, rfl, rfl, rfl, rfl, rfl, trivial⟩) ?_ ?_
  · (try dsimp only)
    exact ⟨by omega, by omega, rfl, rfl, [], rfl, rfl, rfl⟩
  · intro x hI
    obtain ⟨t4_p, out_n, out_c, places_n, places_c, i⟩ := x
    replace hI : 0 ≤ i ∧ i ≤ (prtK l.length s.toNat l.length).length ∧ places_n = (prtK l.length s.toNat l.length).length ∧ places_c = (prtK l.length s.toNat l.length).map (.int .i64) ∧ ∃ L : List Int, out_n = L.length ∧ out_c = L.map (.int .i64) ∧ L = ((prtK l.length s.toNat l.length).take i.toNat).map (fun z => l.getD z.toNat 0) := hI
    show codeT _ _ _ [(0, .par 0 (.sl l.length (l.map (.int .i64)))), (1, .val (.int .i64 s)), (4, .val t4_p), (5, .own 8 3 1 out_n out_c), (6, .own 12 3 1 places_n places_c), (7, .val (.int .i64 i))] _
    obtain ⟨i1, i2, rfl, rfl, L, rfl, rfl, hL⟩ := hI
    have hLl : L.length ≤ 12 := by rw [hL, List.length_map, List.length_take]; omega
    have hpa := fun e : i.toNat < (prtK l.length s.toNat l.length).length => prtK_at e
    refine code_seq (fun K5 hK5 => ?_)
    refine code_seq (fun K6 hK6 => ?_)
    refine code_region ?_
    refine list_cons rfl (op_q (q_move rfl (by decide)) ?_)
    refine list_cons rfl (op_q (q_move rfl (by decide)) ?_)
    refine list_cons rfl (op_q (q_len_sl Tryd.underlying32 rfl rfl (by decide)) ?_)
    refine list_cons rfl (op_q (q_lt rfl rfl (by decide)) ?_)
    refine list_nil ?_
    refine hK6 _ ?_; clear hK6 K6
    refine code_cond_d rfl (fun h1 => ?_) (fun h1 => ?_)
    · skip
      (try simp only [Decidable.not_not] at h1); (try have hpi := hpa (by have := h1; omega))
      refine code_skip ?_
      refine hK5 _ ?_; clear hK5 K5
      refine code_seq (fun K7 hK7 => ?_)
      refine code_block ?_
      refine code_region ?_
      refine list_cons rfl (op_q (q_move rfl (by decide)) ?_)
      refine list_cons rfl (op_q (q_move rfl (by decide)) ?_)
      refine list_cons rfl (op_q (q_move rfl (by decide)) ?_)
      refine list_cons rfl (op_q (q_move rfl (by decide)) ?_)
      refine list_cons rfl (op_q (q_indexAddr_own sl_32 rfl rfl (by omega) (by omega) (by decide)) ?_)
      refine list_cons rfl (op_q (q_load one_3 6 rfl rfl rfl (by first | rfl | exact get_map1 _ 0 _ (by first | omega | (simp; omega))) (by decide)) ?_)
      refine list_cons rfl (op_q (q_indexAddr_rd sl_32 rfl (.inl ⟨_, rfl, rfl⟩) rfl (by omega) (by omega) (by decide)) ?_)
      refine list_cons rfl (op_q (q_load_rd one_3 rfl (.inl ⟨_, (by first | rfl | exact congrArg (SV.rpar _) (drop_map1 _ 0 _ (by first | omega | (simp; omega)))), rfl⟩) (by decide)) ?_)
      refine list_cons rfl (op_buildSlice sl_32 (parts := [(0, .tmp 26)]) rfl rfl rfl (by decide) (by decide) (by decide) rfl ?_)
      refine list_cons rfl (op_append_gen sl_32 (l := 8) (.inl rfl) rfl rfl (l2 := none) (.inl ⟨rfl, (by first | rfl | exact flat_map _ (fun _ => rfl) _)⟩) (by first | rfl | simp | omega) (by omega) (by decide) (by decide) (by decide) ?_)
      refine list_cons rfl (op_q (q_assign rfl (by decide)) ?_)
      refine list_nil ?_
      refine blk_n ?_
      refine hK7 _ ?_; clear hK7 K7
      refine codeT.imp (σ' := [(0, _), (1, _), (4, _), (5, _), (6, _), (7, _)]) ?_ (imp_covers ⟨rfl, rfl, rfl, rfl, rfl, rfl, trivial⟩)
      refine code_region ?_
      refine list_cons rfl (op_q (q_move rfl (by decide)) ?_)
      refine list_cons rfl (op_q (by first | exact q_addI rfl rfl (by decide) (by omega) (by omega) | exact q_ib rfl rfl rfl (by decide)) ?_)
      refine list_cons rfl (op_q (q_assign rfl (by decide)) ?_)
      refine list_nil ?_
      refine then_n ⟨(_, _, _, _, _, _), imp_covers ⟨rfl, rfl, rfl, rfl, rfl, rfl, trivial⟩, ?_, ?_⟩
      · (try dsimp only)
        refine ⟨by omega, by omega, rfl, rfl, L ++ [l.getD ((prtK l.length s.toNat l.length).getD i.toNat 0).toNat 0], by simp, by simp; rfl, ?_⟩
        rw [show (i + 1).toNat = i.toNat + 1 by omega, map_takeD (by omega), hL]
      · (try dsimp only); omega
    (try simp only [Decidable.not_not] at h1); (try have hpi := hpa (by have := h1; omega))
    refine code_exit ?_
    refine then_x ?_; clear hK5 K5
    refine then_x ?_
    refine blk_hit ?_
    refine hK3 _ ?_; clear hK3 K3
    refine code_seq (fun K8 hK8 => ?_)
    refine code_region ?_
    refine list_cons rfl (op_q (q_move rfl (by decide)) ?_)
    refine list_cons rfl (op_q (q_assign rfl (by decide)) ?_)
    refine list_nil ?_
    refine hK8 _ ?_; clear hK8 K8
    refine code_ret ?_
    refine ends_ret (cs := []) rfl rfl rfl rfl trivial ?_
    first | (rw [show i.toNat = (prtK l.length s.toNat l.length).length by omega, List.take_length] at hL; subst hL; rfl)

set_option maxRecDepth 4000 in
theorem spec_l7Ten  : PCalls Tryd.prog 45 [] (· = [.own 0 3 1 (tenL).length ((tenL).map (.int .i64))]) := by
  refine pcalls_of_code (n := 2) az Tryd.func45 (by kernel_rfl) rfl rfl (Nat.le_of_ble_eq_true rfl) (by intro t u h; simp [Tryd.f45] at h) ?_
  refine code_seq (fun K1 hK1 => ?_)
  refine code_region ?_
  refine list_cons rfl (op_q (q_assign rfl (by decide)) ?_)
  refine list_nil ?_
  refine hK1 _ ?_; clear hK1 K1
  refine code_seq (fun K2 hK2 => ?_)
  refine code_region ?_
  refine list_cons rfl (op_buildSlice sl_32 (parts := [(0, _), (1, _), (2, _), (3, _), (4, _), (5, _), (6, _), (7, _), (8, _), (9, _)]) rfl rfl rfl (by decide) (by decide) (by decide) rfl ?_)
  refine list_cons rfl (op_q (q_assign rfl (by decide)) ?_)
  refine list_nil ?_
  refine hK2 _ ?_; clear hK2 K2
  refine code_ret ?_
  refine ends_ret (cs := []) rfl rfl rfl rfl trivial ?_
  rfl

set_option maxRecDepth 8000 in
set_option maxHeartbeats 2000000 in
theorem spec_CountFullTests (k : Int) : PCalls Tryd.prog 16 [.int .i64 k] (· = [.val (.int .i64 (if 0 ≤ k ∧ k ≤ 10 then ((cftK k 1024 : Nat) : Int) else 0)), .val (.bool (decide (0 ≤ k ∧ k ≤ 10)))]) := by
  refine pcalls_of_code (n := 28) az Tryd.func16 (by kernel_rfl) rfl rfl (Nat.le_of_ble_eq_true rfl) (by intro t u h; simp [Tryd.f16] at h) ?_
  refine code_seq (fun K1 hK1 => ?_)
  refine code_region ?_
  refine list_cons rfl (op_q (q_assign rfl (by decide)) ?_)
  refine list_cons rfl (op_q (q_assign rfl (by decide)) ?_)
  refine list_nil ?_
  refine hK1 _ ?_; clear hK1 K1
  refine code_seq (fun K2 hK2 => ?_)
  refine code_seq (fun K3 hK3 => ?_)
  refine code_region ?_
  refine list_cons rfl (op_q (q_move rfl (by decide)) ?_)
  refine list_cons rfl (op_call _ (spec_l1In _ _ _) rfl rfl (by decide) (by decide) (by decide) rfl ?_)
  rintro _ rfl
  refine list_cons rfl (op_q (by first | exact q_notd rfl (by decide) | exact q_not rfl (by decide)) ?_)
  refine list_nil ?_
  refine hK3 _ ?_; clear hK3 K3
  refine codeT.imp (σ' := [(0, _), (2, _), (3, _), (9, _)]) ?_ (imp_covers ⟨rfl, rfl, rfl, rfl, trivial⟩)
  refine code_cond_d rfl (fun h1 => ?_) (fun h1 => ?_)
  · skip
    (try simp only [Decidable.not_not] at h1)
    refine code_seq (fun K4 hK4 => ?_)
    refine code_region ?_
    refine list_cons rfl (op_q (q_assign rfl (by decide)) ?_)
    refine list_cons rfl (op_q (q_assign rfl (by decide)) ?_)
    refine list_nil ?_
    refine hK4 _ ?_; clear hK4 K4
    refine code_ret ?_
    refine then_r ?_; clear hK2 K2
    refine ends_ret (cs := []) rfl rfl rfl rfl trivial ?_
    first
      | (rw [show set.toNat = 1024 by omega, if_pos hk, decide_eq_true hk]; done)
      | (have e : ¬ (0 ≤ k ∧ k ≤ 10) := by assumption
         rw [if_neg e, decide_eq_false e]; done)
  (try simp only [Decidable.not_not] at h1)
  refine code_skip ?_
  refine hK2 _ ?_; clear hK2 K2
  refine code_seq (fun K5 hK5 => ?_)
  refine code_region ?_
  refine list_cons rfl (op_q (q_assign rfl (by decide)) ?_)
  refine list_nil ?_
  refine hK5 _ ?_; clear hK5 K5
  refine code_seq (fun K6 hK6 => ?_)
  refine code_seq (fun K7 hK7 => ?_)
  refine code_region ?_
  refine list_cons rfl (op_q (q_assign rfl (by decide)) ?_)
  refine list_nil ?_
  refine hK7 _ ?_; clear hK7 K7
  refine code_block ?_
  refine code_loop (X := Int × Bool × Int × Int) (fun x => [(0, .val (.int .i64 k)), (2, .val (.int .i64 x.1)), (3, .val (.bool x.2.1)), (4, .val (.int .i64 x.2.2.1)), (5, .val (.int .i64 x.2.2.2))]) (fun x => (0 ≤ k ∧ k ≤ 10) ∧ 0 ≤ x.2.2.2 ∧ x.2.2.2 ≤ 1024 ∧ x.2.2.1 = ((cftK k x.2.2.2.toNat : Nat) : Int)) (fun x => (1024 - x.2.2.2).toNat) (_, _, _, _) (imp_covers ⟨rfl, rfl, rfl, rfl, rfl, trivial⟩) ?_ ?_
  · (try dsimp only)
    exact ⟨by assumption, by omega, by omega, rfl⟩
  · intro x hI
    obtain ⟨t2, t3, many, set⟩ := x
    replace hI : (0 ≤ k ∧ k ≤ 10) ∧ 0 ≤ set ∧ set ≤ 1024 ∧ many = ((cftK k set.toNat : Nat) : Int) := hI
    show codeT _ _ _ [(0, .val (.int .i64 k)), (2, .val (.int .i64 t2)), (3, .val (.bool t3)), (4, .val (.int .i64 many)), (5, .val (.int .i64 set))] _
    obtain ⟨hk, i1, i2, rfl⟩ := hI
    have hcl := cftK_le k set.toNat
    refine code_seq (fun K8 hK8 => ?_)
    refine code_seq (fun K9 hK9 => ?_)
    refine code_region ?_
    refine list_cons rfl (op_q (q_move rfl (by decide)) ?_)
    refine list_cons rfl (op_q (q_lt rfl rfl (by decide)) ?_)
    refine list_nil ?_
    refine hK9 _ ?_; clear hK9 K9
    refine code_cond_d rfl (fun h2 => ?_) (fun h2 => ?_)
    · skip
      (try simp only [Decidable.not_not] at h2)
      refine code_skip ?_
      refine hK8 _ ?_; clear hK8 K8
      refine code_seq (fun K10 hK10 => ?_)
      refine code_block ?_
      refine code_seq (fun K11 hK11 => ?_)
      refine code_region ?_
      refine list_cons rfl (op_call _ (spec_l7Ten) rfl rfl (by decide) (by decide) (by decide) rfl ?_)
      rintro _ rfl
      refine list_cons rfl (op_q (q_move rfl (by decide)) ?_)
      refine list_cons rfl (op_call _ (spec_l7Digits tenL set (by decide) (by omega)) rfl rfl (by decide) (by decide) (by decide) rfl ?_)
      rintro _ rfl
      refine list_cons rfl (op_q (q_assign rfl (by decide)) ?_)
      refine list_nil ?_
      refine hK11 _ ?_; clear hK11 K11
      refine codeT.imp (σ' := [(0, _), (2, _), (3, _), (4, _), (5, _), (6, _)]) ?_ (imp_covers ⟨rfl, rfl, rfl, rfl, rfl, rfl, trivial⟩)
      refine code_seq (fun K12 hK12 => ?_)
      refine code_region ?_
      refine list_cons rfl (op_q (q_move rfl (by decide)) ?_)
      refine list_cons rfl (op_q (q_len_sl Tryd.underlying32 rfl rfl (by decide)) ?_)
      refine list_cons rfl (op_q (q_move rfl (by decide)) ?_)
      refine list_cons rfl (op_q (q_eq rfl rfl (by decide)) ?_)
      refine list_cons rfl (op_q (q_move rfl (by decide)) ?_)
      refine list_guard_d rfl rfl rfl rfl (by decide) rfl (by decide) (fun h3 => ?_) (fun h3 => ?_)
      · simp only [Bool.false_eq_true, if_true, if_false, Decidable.not_not] at h3
        refine id (op_q (q_move rfl (by decide)) ?_)
        refine list_guard_y rfl rfl rfl rfl (by decide) rfl ?_
        refine id (op_call _ (spec_l7Full (dgsF tenL set.toNat) (dgsF_tst tenL_tst _)) rfl rfl (by decide) (by decide) (by decide) rfl ?_)
        rintro _ rfl
        refine list_cons rfl (op_q (q_pick rfl rfl (by decide)) ?_)
        refine list_nil ?_
        refine hK12 _ ?_; clear hK12 K12
        refine codeT.imp (σ' := [(0, _), (2, _), (3, _), (4, _), (5, _), (6, _), (24, _)]) ?_ (imp_covers ⟨rfl, rfl, rfl, rfl, rfl, rfl, rfl, trivial⟩)
        refine code_cond_d rfl (fun h4 => ?_) (fun h4 => ?_)
        · skip
          (try simp only [Decidable.not_not] at h4)
          refine code_region ?_
          refine list_cons rfl (op_q (q_move rfl (by decide)) ?_)
          refine list_cons rfl (op_q (by first | exact q_addI rfl rfl (by decide) (by omega) (by omega) | exact q_ib rfl rfl rfl (by decide)) ?_)
          refine list_cons rfl (op_q (q_assign rfl (by decide)) ?_)
          refine list_nil ?_
          refine blk_n ?_
          refine hK10 _ ?_; clear hK10 K10
          refine code_region ?_
          refine list_cons rfl (op_q (q_move rfl (by decide)) ?_)
          refine list_cons rfl (op_q (by first | exact q_addI rfl rfl (by decide) (by omega) (by omega) | exact q_ib rfl rfl rfl (by decide)) ?_)
          refine list_cons rfl (op_q (q_assign rfl (by decide)) ?_)
          refine list_nil ?_
          refine then_n ⟨(_, _, _, _), imp_covers ⟨rfl, rfl, rfl, rfl, rfl, trivial⟩, ?_, ?_⟩
          · (try dsimp only)
            refine ⟨hk, by omega, by omega, ?_⟩
            rw [show (set + 1).toNat = set.toNat + 1 by omega, cftK_succ]
            first
              | (rw [if_pos ⟨by assumption, h4⟩]; rfl)
              | (rw [if_neg (fun e => absurd e.2 (by assumption))]; rfl)
              | (rw [if_neg (fun e => absurd e.1 (by assumption))]; rfl)
          · (try dsimp only); omega
        (try simp only [Decidable.not_not] at h4)
        refine code_skip ?_
        refine blk_n ?_
        refine hK10 _ ?_; clear hK10 K10
        refine code_region ?_
        refine list_cons rfl (op_q (q_move rfl (by decide)) ?_)
        refine list_cons rfl (op_q (by first | exact q_addI rfl rfl (by decide) (by omega) (by omega) | exact q_ib rfl rfl rfl (by decide)) ?_)
        refine list_cons rfl (op_q (q_assign rfl (by decide)) ?_)
        refine list_nil ?_
        refine then_n ⟨(_, _, _, _), imp_covers ⟨rfl, rfl, rfl, rfl, rfl, trivial⟩, ?_, ?_⟩
        · (try dsimp only)
          refine ⟨hk, by omega, by omega, ?_⟩
          rw [show (set + 1).toNat = set.toNat + 1 by omega, cftK_succ]
          first
            | (rw [if_pos ⟨by assumption, h4⟩]; rfl)
            | (rw [if_neg (fun e => absurd e.2 (by assumption))]; rfl)
            | (rw [if_neg (fun e => absurd e.1 (by assumption))]; rfl)
        · (try dsimp only); omega
      simp only [Bool.false_eq_true, if_true, if_false, Decidable.not_not] at h3
      refine list_guard_n rfl rfl rfl rfl (by decide) rfl ?_
      refine list_cons rfl (op_q (q_pick rfl rfl (by decide)) ?_)
      refine list_nil ?_
      refine hK12 _ ?_; clear hK12 K12
      refine code_cond_f rfl ?_
      refine code_skip ?_
      refine blk_n ?_
      refine hK10 _ ?_; clear hK10 K10
      refine code_region ?_
      refine list_cons rfl (op_q (q_move rfl (by decide)) ?_)
      refine list_cons rfl (op_q (by first | exact q_addI rfl rfl (by decide) (by omega) (by omega) | exact q_ib rfl rfl rfl (by decide)) ?_)
      refine list_cons rfl (op_q (q_assign rfl (by decide)) ?_)
      refine list_nil ?_
      refine then_n ⟨(_, _, _, _), imp_covers ⟨rfl, rfl, rfl, rfl, rfl, trivial⟩, ?_, ?_⟩
      · (try dsimp only)
        refine ⟨hk, by omega, by omega, ?_⟩
        rw [show (set + 1).toNat = set.toNat + 1 by omega, cftK_succ]
        first
          | (rw [if_pos ⟨by assumption, h3⟩]; rfl)
          | (rw [if_neg (fun e => absurd e.2 (by assumption))]; rfl)
          | (rw [if_neg (fun e => absurd e.1 (by assumption))]; rfl)
      · (try dsimp only); omega
    (try simp only [Decidable.not_not] at h2)
    refine code_exit ?_
    refine then_x ?_; clear hK8 K8
    refine then_x ?_
    refine blk_hit ?_
    refine hK6 _ ?_; clear hK6 K6
    refine code_seq (fun K13 hK13 => ?_)
    refine code_region ?_
    refine list_cons rfl (op_q (q_move rfl (by decide)) ?_)
    refine list_cons rfl (op_q (q_assign rfl (by decide)) ?_)
    refine list_cons rfl (op_q (q_assign rfl (by decide)) ?_)
    refine list_nil ?_
    refine hK13 _ ?_; clear hK13 K13
    refine code_ret ?_
    refine ends_ret (cs := []) rfl rfl rfl rfl trivial ?_
    first
      | (rw [show set.toNat = 1024 by omega, if_pos hk, decide_eq_true hk]; done)
      | (have e : ¬ (0 ≤ k ∧ k ≤ 10) := by assumption
         rw [if_neg e, decide_eq_false e]; done)

set_option maxRecDepth 4000 in
theorem spec_l7Before (a b : List Int) (ha : a.length ≤ 4611686018427387904) (hb : b.length ≤ 4611686018427387904) : PCalls Tryd.prog 48 [.sl a.length (a.map (.int .i64)), .sl b.length (b.map (.int .i64))] (· = [.val (.bool (befF a b))]) := by
  refine pcalls_of_code (n := 41) az Tryd.func48 (by kernel_rfl) rfl rfl (Nat.le_of_ble_eq_true rfl) (by intro t u h; simp [Tryd.f48] at h) ?_
  refine code_seq (fun K1 hK1 => ?_)
  refine code_region ?_
  refine list_cons rfl (op_q (q_assign rfl (by decide)) ?_)
  refine list_nil ?_
  refine hK1 _ ?_; clear hK1 K1
  refine code_seq (fun K2 hK2 => ?_)
  refine code_seq (fun K3 hK3 => ?_)
  refine code_region ?_
  refine list_cons rfl (op_q (q_assign rfl (by decide)) ?_)
  refine list_nil ?_
  refine hK3 _ ?_; clear hK3 K3
  refine code_block ?_
  refine code_loop (X := Bool × Int) (fun x => [(0, .par 0 (.sl a.length (a.map (.int .i64)))), (1, .par 1 (.sl b.length (b.map (.int .i64)))), (4, .val (.bool x.1)), (5, .val (.int .i64 x.2))]) (fun x => 0 ≤ x.2 ∧ (x.2 ≤ a.length ∧ x.2 ≤ b.length) ∧ ∀ j, j < x.2.toNat → a.getD j 0 = b.getD j 0) (fun x => (a.length - x.2).toNat) (_, _) (imp_covers ⟨rfl, rfl, rfl, rfl, trivial⟩) ?_ ?_
  · (try dsimp only)
    exact ⟨by omega, ⟨by omega, by omega⟩, fun j hj => absurd hj (Nat.not_lt_zero j)⟩
  · intro x hI
    obtain ⟨t4, i⟩ := x
    replace hI : 0 ≤ i ∧ (i ≤ a.length ∧ i ≤ b.length) ∧ ∀ j, j < i.toNat → a.getD j 0 = b.getD j 0 := hI
    show codeT _ _ _ [(0, .par 0 (.sl a.length (a.map (.int .i64)))), (1, .par 1 (.sl b.length (b.map (.int .i64)))), (4, .val (.bool t4)), (5, .val (.int .i64 i))] _
    obtain ⟨i1, ⟨i2, i2b⟩, i3⟩ := hI
    refine code_seq (fun K4 hK4 => ?_)
    refine code_seq (fun K5 hK5 => ?_)
    refine code_region ?_
    refine list_cons rfl (op_q (q_move rfl (by decide)) ?_)
    refine list_cons rfl (op_q (q_move rfl (by decide)) ?_)
    refine list_cons rfl (op_q (q_len_sl Tryd.underlying32 rfl rfl (by decide)) ?_)
    refine list_cons rfl (op_q (q_lt rfl rfl (by decide)) ?_)
    refine list_cons rfl (op_q (q_move rfl (by decide)) ?_)
    refine list_guard_d rfl rfl rfl rfl (by decide) rfl (by decide) (fun h1 => ?_) (fun h1 => ?_)
    · simp only [Bool.false_eq_true, if_true, if_false, Decidable.not_not] at h1
      refine id (op_q (q_move rfl (by decide)) ?_)
      refine list_guard_y rfl rfl rfl rfl (by decide) rfl ?_
      refine id (op_q (q_move rfl (by decide)) ?_)
      refine list_guard_y rfl rfl rfl rfl (by decide) rfl ?_
      refine id (op_q (q_len_sl Tryd.underlying32 rfl rfl (by decide)) ?_)
      refine list_guard_y rfl rfl rfl rfl (by decide) rfl ?_
      refine id (op_q (q_lt rfl rfl (by decide)) ?_)
      refine list_cons rfl (op_q (q_pick rfl rfl (by decide)) ?_)
      refine list_nil ?_
      refine hK5 _ ?_; clear hK5 K5
      refine codeT.imp (σ' := [(0, _), (1, _), (4, _), (5, _), (15, _)]) ?_ (imp_covers ⟨rfl, rfl, rfl, rfl, rfl, trivial⟩)
      refine code_cond_d rfl (fun h2 => ?_) (fun h2 => ?_)
      · skip
        (try simp only [Decidable.not_not] at h2)
        refine code_skip ?_
        refine hK4 _ ?_; clear hK4 K4
        refine code_seq (fun K6 hK6 => ?_)
        refine code_block ?_
        refine code_seq (fun K7 hK7 => ?_)
        refine code_draw (by kernel_rfl) (by kernel_rfl) ?_
        refine draw_q rfl (q_move rfl (by decide)) ?_
        refine draw_q rfl (q_move rfl (by decide)) ?_
        refine draw_q rfl (q_indexAddr_rd sl_32 rfl (.inl ⟨_, rfl, rfl⟩) rfl (by omega) (by omega) (by decide)) ?_
        refine draw_q rfl (q_load_rd one_3 rfl (.inl ⟨_, (by first | rfl | exact congrArg (SV.rpar _) (drop_map1 _ 0 _ (by first | omega | (simp; omega)))), rfl⟩) (by decide)) ?_
        refine draw_q rfl (q_move rfl (by decide)) ?_
        refine draw_q rfl (q_move rfl (by decide)) ?_
        refine draw_q rfl (q_indexAddr_rd sl_32 rfl (.inl ⟨_, rfl, rfl⟩) rfl (by omega) (by omega) (by decide)) ?_
        refine draw_q rfl (q_load_rd one_3 rfl (.inl ⟨_, (by first | rfl | exact congrArg (SV.rpar _) (drop_map1 _ 0 _ (by first | omega | (simp; omega)))), rfl⟩) (by decide)) ?_
        refine draw_q rfl (q_ne rfl rfl (by decide)) ?_
        refine draw_nil ?_
        refine hK7 _ ?_; clear hK7 K7
        refine codeT.imp (σ' := [(0, _), (1, _), (4, _), (5, _), (26, _)]) ?_ (imp_covers ⟨rfl, rfl, rfl, rfl, rfl, trivial⟩)
        refine code_cond_d rfl (fun h3 => ?_) (fun h3 => ?_)
        · skip
          (try simp only [Decidable.not_not] at h3)
          refine code_seq (fun K8 hK8 => ?_)
          refine code_draw (by kernel_rfl) (by kernel_rfl) ?_
          refine draw_q rfl (q_move rfl (by decide)) ?_
          refine draw_q rfl (q_move rfl (by decide)) ?_
          refine draw_q rfl (q_indexAddr_rd sl_32 rfl (.inl ⟨_, rfl, rfl⟩) rfl (by omega) (by omega) (by decide)) ?_
          refine draw_q rfl (q_load_rd one_3 rfl (.inl ⟨_, (by first | rfl | exact congrArg (SV.rpar _) (drop_map1 _ 0 _ (by first | omega | (simp; omega)))), rfl⟩) (by decide)) ?_
          refine draw_q rfl (q_move rfl (by decide)) ?_
          refine draw_q rfl (q_move rfl (by decide)) ?_
          refine draw_q rfl (q_indexAddr_rd sl_32 rfl (.inl ⟨_, rfl, rfl⟩) rfl (by omega) (by omega) (by decide)) ?_
          refine draw_q rfl (q_load_rd one_3 rfl (.inl ⟨_, (by first | rfl | exact congrArg (SV.rpar _) (drop_map1 _ 0 _ (by first | omega | (simp; omega)))), rfl⟩) (by decide)) ?_
          refine draw_q rfl (q_lt rfl rfl (by decide)) ?_
          refine draw_q rfl (q_assign rfl (by decide)) ?_
          refine draw_nil ?_
          refine hK8 _ ?_; clear hK8 K8
          refine codeT.imp (σ' := [(0, _), (1, _), (4, _), (5, _)]) ?_ (imp_covers ⟨rfl, rfl, rfl, rfl, trivial⟩)
          refine code_ret ?_
          refine blk_r ?_
          refine then_r ?_; clear hK6 K6
          refine then_r ?_
          refine blk_r ?_
          refine then_r ?_; clear hK2 K2
          refine ends_ret (cs := []) rfl rfl rfl rfl trivial ?_
          first
            | (rw [bef_ne (i := i.toNat) (by omega) (by omega) i3 h3]; done)
            | (rw [bef_end (fun j h1 h2 => i3 j (by omega))]; congr 3; exact decide_eq_decide.mpr (by omega))
        (try simp only [Decidable.not_not] at h3)
        refine code_skip ?_
        refine blk_n ?_
        refine hK6 _ ?_; clear hK6 K6
        refine code_region ?_
        refine list_cons rfl (op_q (q_move rfl (by decide)) ?_)
        refine list_cons rfl (op_q (by first | exact q_addI rfl rfl (by decide) (by omega) (by omega) | exact q_ib rfl rfl rfl (by decide)) ?_)
        refine list_cons rfl (op_q (q_assign rfl (by decide)) ?_)
        refine list_nil ?_
        refine then_n ⟨(_, _), imp_covers ⟨rfl, rfl, rfl, rfl, trivial⟩, ?_, ?_⟩
        · (try dsimp only)
          refine ⟨by omega, ⟨by omega, by omega⟩, fun j hj => ?_⟩
          by_cases e : j = i.toNat
          · subst e; assumption
          · exact i3 j (by omega)
        · (try dsimp only); omega
      (try simp only [Decidable.not_not] at h2)
      refine code_exit ?_
      refine then_x ?_; clear hK4 K4
      refine then_x ?_
      refine blk_hit ?_
      refine hK2 _ ?_; clear hK2 K2
      refine code_seq (fun K9 hK9 => ?_)
      refine code_region ?_
      refine list_cons rfl (op_q (q_move rfl (by decide)) ?_)
      refine list_cons rfl (op_q (q_len_sl Tryd.underlying32 rfl rfl (by decide)) ?_)
      refine list_cons rfl (op_q (q_move rfl (by decide)) ?_)
      refine list_cons rfl (op_q (q_len_sl Tryd.underlying32 rfl rfl (by decide)) ?_)
      refine list_cons rfl (op_q (q_lt rfl rfl (by decide)) ?_)
      refine list_cons rfl (op_q (q_assign rfl (by decide)) ?_)
      refine list_nil ?_
      refine hK9 _ ?_; clear hK9 K9
      refine code_ret ?_
      refine ends_ret (cs := []) rfl rfl rfl rfl trivial ?_
      first
        | (rw [bef_ne (i := i.toNat) (by omega) (by omega) i3 h2]; done)
        | (rw [bef_end (fun j h1 h2 => i3 j (by omega))]; congr 3; exact decide_eq_decide.mpr (by omega))
    simp only [Bool.false_eq_true, if_true, if_false, Decidable.not_not] at h1
    refine list_guard_n rfl rfl rfl rfl (by decide) rfl ?_
    refine list_guard_n rfl rfl rfl rfl (by decide) rfl ?_
    refine list_guard_n rfl rfl rfl rfl (by decide) rfl ?_
    refine list_cons rfl (op_q (q_pick rfl rfl (by decide)) ?_)
    refine list_nil ?_
    refine hK5 _ ?_; clear hK5 K5
    refine code_cond_f rfl ?_
    refine code_exit ?_
    refine then_x ?_; clear hK4 K4
    refine then_x ?_
    refine blk_hit ?_
    refine hK2 _ ?_; clear hK2 K2
    refine code_seq (fun K10 hK10 => ?_)
    refine code_region ?_
    refine list_cons rfl (op_q (q_move rfl (by decide)) ?_)
    refine list_cons rfl (op_q (q_len_sl Tryd.underlying32 rfl rfl (by decide)) ?_)
    refine list_cons rfl (op_q (q_move rfl (by decide)) ?_)
    refine list_cons rfl (op_q (q_len_sl Tryd.underlying32 rfl rfl (by decide)) ?_)
    refine list_cons rfl (op_q (q_lt rfl rfl (by decide)) ?_)
    refine list_cons rfl (op_q (q_assign rfl (by decide)) ?_)
    refine list_nil ?_
    refine hK10 _ ?_; clear hK10 K10
    refine codeT.imp (σ' := [(0, _), (1, _), (4, _), (5, _)]) ?_ (imp_covers ⟨rfl, rfl, rfl, rfl, trivial⟩)
    refine code_ret ?_
    refine ends_ret (cs := []) rfl rfl rfl rfl trivial ?_
    first
      | (rw [bef_ne (i := i.toNat) (by omega) (by omega) i3 h1]; done)
      | (rw [bef_end (fun j h1 h2 => i3 j (by omega))]; congr 3; exact decide_eq_decide.mpr (by omega))

end Go.Proofs.YtfkdochnjcpedaaDoor
