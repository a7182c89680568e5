/- Contracts of functions, walked over the pure layer; each says for which arguments. -/
import Derived.Test.YtjbbijlbenkgcaaDoorS5pTy
import Derived.Test.YtjbbijlbenkgcaaDoorTf
import Derived.Test.YtjbbijlbenkgcaaDoorSp
import Derived.Test.YtjbbijlbenkgcaaDoorS4
import Derived.Test.YtjbbijlbenkgcaaDoorS4c
import Derived.Test.YtjbbijlbenkgcaaDoorS5
namespace Go.Proofs.YtjbbijlbenkgcaaDoor
open Go.RowKit S5pTy
set_option linter.unusedVariables false
set_option linter.unusedSimpArgs false

/-- A list of faults, as its cells lie. -/
def fl (fs : List (Int × Int)) : List PV := (fs.map fun f => [PV.int .i64 f.1, PV.int .i64 f.2]).flatten
theorem fl_at : ∀ (fs : List (Int × Int)) (k : Nat), k < fs.length → ((fl fs).drop (k * 2)).take 2 = [PV.int .i64 (fs.getD k (0, 0)).1, PV.int .i64 (fs.getD k (0, 0)).2]
  | f :: fs, 0, _ => rfl
  | f :: fs, k + 1, h => by
    have ih := fl_at fs k (by simpa using h)
    show (((PV.int .i64 f.1 :: PV.int .i64 f.2 :: fl fs)).drop ((k + 1) * 2)).take 2 = _
    rw [show (k + 1) * 2 = k * 2 + 2 by omega]
    exact ih
theorem fl_len : ∀ fs : List (Int × Int), (fl fs).length = fs.length * 2
  | [] => rfl
  | f :: fs => by
    show (PV.int .i64 f.1 :: PV.int .i64 f.2 :: fl fs).length = _
    simp only [List.length_cons, fl_len fs]; omega
theorem fl_flat : ∀ fs : List (Int × Int), PV.flatL (fl fs) = true
  | [] => rfl
  | f :: fs => by
    show PV.flatL (PV.int .i64 f.1 :: PV.int .i64 f.2 :: fl fs) = true
    simp only [PV.flatL, PV.flat, fl_flat fs, Bool.and_self]
theorem fl_put : ∀ (gs : List (Int × Int)) (k : Nat) (x y : Int), k < gs.length → putAt (fl gs) (k * 2) [PV.int .i64 x, PV.int .i64 y] = fl (gs.set k (x, y))
  | g :: gs, 0, x, y, _ => by
    show ((PV.int .i64 g.1 :: PV.int .i64 g.2 :: fl gs).take 0 ++ [PV.int .i64 x, PV.int .i64 y] ++ (PV.int .i64 g.1 :: PV.int .i64 g.2 :: fl gs).drop (0 + 2)) = _
    rfl
  | g :: gs, k + 1, x, y, h => by
    have ih := fl_put gs k x y (by simpa using h)
    show ((PV.int .i64 g.1 :: PV.int .i64 g.2 :: fl gs).take ((k + 1) * 2) ++ [PV.int .i64 x, PV.int .i64 y] ++ (PV.int .i64 g.1 :: PV.int .i64 g.2 :: fl gs).drop ((k + 1) * 2 + 2)) = PV.int .i64 g.1 :: PV.int .i64 g.2 :: fl (gs.set k (x, y))
    rw [← ih, show (k + 1) * 2 = k * 2 + 1 + 1 by omega, show k * 2 + 1 + 1 + 2 = k * 2 + 2 + 1 + 1 by omega]
    rfl
theorem fl_put0 : ∀ (gs : List (Int × Int)) (k : Nat) (x : Int), k < gs.length → putAt (fl gs) (k * 2) [PV.int .i64 x] = fl (gs.set k (x, (gs.getD k (0, 0)).2))
  | g :: gs, 0, x, _ => rfl
  | g :: gs, k + 1, x, h => by
    have ih := fl_put0 gs k x (by simpa using h)
    show ((PV.int .i64 g.1 :: PV.int .i64 g.2 :: fl gs).take ((k + 1) * 2) ++ [PV.int .i64 x] ++ (PV.int .i64 g.1 :: PV.int .i64 g.2 :: fl gs).drop ((k + 1) * 2 + 1)) = PV.int .i64 g.1 :: PV.int .i64 g.2 :: fl (gs.set k (x, (gs.getD k (0, 0)).2))
    rw [← ih, show (k + 1) * 2 = k * 2 + 1 + 1 by omega, show k * 2 + 1 + 1 + 1 = k * 2 + 1 + 1 + 1 by omega]
    rfl
theorem fl_put1 : ∀ (gs : List (Int × Int)) (k : Nat) (x : Int), k < gs.length → putAt (fl gs) (k * 2 + 1) [PV.int .i64 x] = fl (gs.set k ((gs.getD k (0, 0)).1, x))
  | g :: gs, 0, x, _ => rfl
  | g :: gs, k + 1, x, h => by
    have ih := fl_put1 gs k x (by simpa using h)
    show ((PV.int .i64 g.1 :: PV.int .i64 g.2 :: fl gs).take ((k + 1) * 2 + 1) ++ [PV.int .i64 x] ++ (PV.int .i64 g.1 :: PV.int .i64 g.2 :: fl gs).drop ((k + 1) * 2 + 1 + 1)) = PV.int .i64 g.1 :: PV.int .i64 g.2 :: fl (gs.set k ((gs.getD k (0, 0)).1, x))
    rw [← ih, show (k + 1) * 2 + 1 = k * 2 + 1 + 1 + 1 by omega, show k * 2 + 1 + 1 + 1 + 1 = k * 2 + 1 + 1 + 1 + 1 by omega]
    rfl
theorem zeros_fl (k : Nat) : zeros [PV.int .i64 0, PV.int .i64 0] k = fl (List.replicate k (0, 0)) := by
  induction k with
  | zero => rfl
  | succ k ih =>
    have h : fl (List.replicate (k + 1) (0, 0)) = fl (List.replicate k (0, 0)) ++ [PV.int .i64 0, PV.int .i64 0] := by
      rw [List.replicate_succ']; simp [fl]
    rw [h, ← ih]
    unfold zeros
    rw [show (k + 1) * [PV.int IntKind.i64 0, PV.int IntKind.i64 0].length = k * [PV.int IntKind.i64 0, PV.int IntKind.i64 0].length + 1 + 1 by simp; omega, List.range_succ, List.range_succ, List.map_append, List.map_append, List.append_assoc]
    congr 1
    simp [show (k * 2) % 2 = 0 by omega, show (k * 2 + 1) % 2 = 1 by omega]
theorem fl_get0 : ∀ (gs : List (Int × Int)) (k : Nat), k < gs.length → (fl gs)[k * 2]? = some (PV.int .i64 (gs.getD k (0, 0)).1)
  | g :: gs, 0, _ => rfl
  | g :: gs, k + 1, h => by
    have ih := fl_get0 gs k (by simpa using h)
    show (PV.int .i64 g.1 :: PV.int .i64 g.2 :: fl gs)[(k + 1) * 2]? = _
    rw [show (k + 1) * 2 = k * 2 + 1 + 1 by omega]
    exact ih
theorem fl_get1 : ∀ (gs : List (Int × Int)) (k : Nat), k < gs.length → (fl gs)[k * 2 + 1]? = some (PV.int .i64 (gs.getD k (0, 0)).2)
  | g :: gs, 0, _ => rfl
  | g :: gs, k + 1, h => by
    have ih := fl_get1 gs k (by simpa using h)
    show (PV.int .i64 g.1 :: PV.int .i64 g.2 :: fl gs)[(k + 1) * 2 + 1]? = _
    rw [show (k + 1) * 2 + 1 = k * 2 + 1 + 1 + 1 by omega]
    exact ih
theorem fl_drop0 : ∀ (gs : List (Int × Int)) (k : Nat), k < gs.length → (fl gs).drop (k * 2) = PV.int .i64 (gs.getD k (0, 0)).1 :: PV.int .i64 (gs.getD k (0, 0)).2 :: (fl gs).drop ((k + 1) * 2)
  | g :: gs, 0, _ => rfl
  | g :: gs, k + 1, h => by
    have ih := fl_drop0 gs k (by simpa using h)
    show (PV.int .i64 g.1 :: PV.int .i64 g.2 :: fl gs).drop ((k + 1) * 2) = _ :: _ :: (PV.int .i64 g.1 :: PV.int .i64 g.2 :: fl gs).drop ((k + 1 + 1) * 2)
    rw [show (k + 1) * 2 = k * 2 + 1 + 1 by omega, show (k + 1 + 1) * 2 = (k + 1) * 2 + 1 + 1 by omega]
    exact ih
theorem fl_drop1 (gs : List (Int × Int)) (k : Nat) (h : k < gs.length) : ((fl gs).drop (k * 2)).drop 1 = PV.int .i64 (gs.getD k (0, 0)).2 :: (fl gs).drop ((k + 1) * 2) := by
  rw [fl_drop0 gs k h]; rfl
def markF (n : Nat) (k : Int) : List (Int × Int) := (List.range n).map fun (j : Nat) => (k + 2 * j, k + 2 * j + 1)
theorem markF_len (n : Nat) (k : Int) : (markF n k).length = n := by simp [markF]
theorem markF_get (n : Nat) (k : Int) {j : Nat} (h : j < n) : (markF n k).getD j (0, 0) = (k + 2 * j, k + 2 * j + 1) := by
  simp [markF, h]
theorem markF_succ (n : Nat) (k : Int) : markF (n + 1) k = markF n k ++ [(k + 2 * n, k + 2 * n + 1)] := by
  unfold markF; rw [List.range_succ, List.map_append]; rfl
theorem markF_set (l : List (Int × Int)) (k : Int) {j : Nat} (h : j < l.length) : (markF j k ++ l.drop j).set j (k + 2 * j, k + 2 * j + 1) = markF (j + 1) k ++ l.drop (j + 1) := by
  rw [List.set_append_right _ _ (by simp [markF]), show j - (markF j k).length = 0 by simp [markF], List.drop_eq_getElem_cons h, List.set_cons_zero, markF_succ]
  simp
theorem markF_put (l : List (Int × Int)) (k : Int) {i : Int} (h0 : 0 ≤ i) {j : Nat} (e : i.toNat = j) (h : j < l.length) : putAt (putAt (fl (markF j k ++ l.drop j)) (j * 2 + 0) [PV.int .i64 (k + 2 * i)]) (j * 2 + 1) [PV.int .i64 (k + 2 * i + 1)] = fl (markF (j + 1) k ++ l.drop (j + 1)) := by
  have hj : j < (markF j k ++ l.drop j).length := by simp [markF]; omega
  rw [Nat.add_zero, fl_put0 _ _ _ hj, fl_put1 _ _ _ (by simpa using hj), List.set_set, ← markF_set l k h]
  congr 2
  rw [List.getD_eq_getElem?_getD, List.getElem?_set_self hj, show ((j : Nat) : Int) = i by omega]
  rfl

theorem spec_dummy5p : True := trivial
/-- The gap, pair by pair. -/
def gsS (g f : Int) : Int := if g = 0 ∨ f < g then f else g
def gpR (l : List Int) (i : Nat) (g : Int) : Nat → Int
  | 0 => g
  | k + 1 => gsS (gpR l i g k) (farC (l.getD i 0) (l.getD k 0))
def gpL (l : List Int) : Nat → Int
  | 0 => 0
  | i + 1 => gpR l i (gpL l i) i
theorem gsS_yes {g f : Int} (h : g = 0 ∨ f < g) : f = gsS g f := by unfold gsS; rw [if_pos h]
theorem gsS_no {g f : Int} (h : ¬ (g = 0 ∨ f < g)) : g = gsS g f := by unfold gsS; rw [if_neg h]
theorem gpR_le (l : List Int) (i : Nat) {g : Int} (hg : 0 ≤ g ∧ g ≤ 7) : ∀ k, 0 ≤ gpR l i g k ∧ gpR l i g k ≤ 7
  | 0 => hg
  | k + 1 => by
    have h1 := gpR_le l i hg k
    have h2 := farC_le (l.getD i 0) (l.getD k 0)
    unfold gpR gsS; split <;> omega
theorem gpL_le (l : List Int) : ∀ i, 0 ≤ gpL l i ∧ gpL l i ≤ 7
  | 0 => by simp [gpL]
  | i + 1 => gpR_le l i (gpL_le l i) i
/-- The least of what A says, or 0 where it says nothing. -/
def isMin (A : Int → Prop) (g : Int) : Prop := (g = 0 ∧ ∀ x, ¬ A x) ∨ (A g ∧ ∀ x, A x → g ≤ x)
theorem isMin_one {A A' : Int → Prop} {g g' : Int} (h : isMin A g) (h' : isMin A' g') (he : ∀ x, A x ↔ A' x) : g = g' := by
  rcases h with ⟨h1, h2⟩ | ⟨h1, h2⟩
  · rcases h' with ⟨k1, _⟩ | ⟨k1, _⟩
    · omega
    · exact absurd ((he _).2 k1) (h2 _)
  · rcases h' with ⟨_, k2⟩ | ⟨k1, k2⟩
    · exact absurd ((he _).1 h1) (k2 _)
    · have := h2 _ ((he _).2 k1); have := k2 _ ((he _).1 h1); omega
theorem isMin_step {A A' : Int → Prop} {g f : Int} (h : isMin A g) (hp : ∀ x, A x → 1 ≤ x) (hf : 1 ≤ f) (he : ∀ x, A' x ↔ (A x ∨ x = f)) : isMin A' (gsS g f) := by
  unfold gsS
  rcases h with ⟨rfl, h2⟩ | ⟨h1, h2⟩
  · rw [if_pos (.inl rfl)]
    refine .inr ⟨(he _).2 (.inr rfl), fun x hx => ?_⟩
    rcases (he x).1 hx with h | h
    · exact absurd h (h2 x)
    · omega
  · have hg := hp g h1
    split
    · rename_i hc
      refine .inr ⟨(he _).2 (.inr rfl), fun x hx => ?_⟩
      rcases (he x).1 hx with h | h
      · have := h2 x h; omega
      · omega
    · rename_i hc
      refine .inr ⟨(he _).2 (.inl h1), fun x hx => ?_⟩
      rcases (he x).1 hx with h | h
      · exact h2 x h
      · omega
set_option maxRecDepth 100000 in
theorem cnt7_xor (x : Nat) (h : x < 128) (hx : x ≠ 0) : 1 ≤ cnt7 x := by
  have k : below 128 (fun n => Nat.beq n 0 || Nat.ble 1 (cnt7 n)) = true := by kernel_rfl
  have := below_ok k x h
  simp only [Bool.or_eq_true] at this
  rcases this with h | h
  · exact absurd (Nat.eq_of_beq_eq_true h) hx
  · exact Nat.le_of_ble_eq_true h
theorem farC_pos {a b : Int} (ha : 0 ≤ a ∧ a ≤ 127) (hb : 0 ≤ b ∧ b ≤ 127) (hne : a ≠ b) : 1 ≤ farC a b := by
  unfold farC
  have h1 := @Nat.xor_lt_two_pow a.toNat b.toNat 7 (by omega) (by omega)
  have h2 : a.toNat ^^^ b.toNat ≠ 0 := fun h => by
    have e : (a.toNat ^^^ b.toNat) ^^^ b.toNat = a.toNat := by rw [Nat.xor_assoc, Nat.xor_self, Nat.xor_zero]
    rw [h, Nat.zero_xor] at e; omega
  have := cnt7_xor _ h1 h2
  omega
theorem hasK_of {l : List Int} {n : Int} {k : Nat} : ∀ {m : Nat}, k < m → l.getD k 0 = n → hasK l n m = true
  | 0, h, _ => absurd h (by omega)
  | m + 1, h, he => by
    rw [hasK]
    by_cases e : k = m
    · subst e; rw [decide_eq_true he, Bool.or_true]
    · rw [hasK_of (by omega) he, Bool.true_or]
theorem CodeP.far {l : List Int} (h : CodeP l) {i k : Nat} (hk : k < i) (hi : i < l.length) : 1 ≤ farC (l.getD i 0) (l.getD k 0) := by
  refine farC_pos (h.cell i hi) (h.cell k (by omega)) fun e => ?_
  have h1 := (codK_at h.2 hi).2
  rw [hasK_of hk e.symm] at h1; cases h1
/-- How far cells of a code are. -/
def prA (l : List Int) (n : Nat) (x : Int) : Prop := ∃ i k, k < i ∧ i < n ∧ farC (l.getD i 0) (l.getD k 0) = x
def prB (l : List Int) (i m : Nat) (x : Int) : Prop := prA l i x ∨ ∃ k, k < m ∧ farC (l.getD i 0) (l.getD k 0) = x
theorem prB_pos {l : List Int} (h : CodeP l) {i m : Nat} (hi : i < l.length) (hm : m ≤ i) {x : Int} (hx : prB l i m x) : 1 ≤ x := by
  rcases hx with ⟨a, b, h1, h2, rfl⟩ | ⟨k, h1, rfl⟩
  · exact h.far h1 (by omega)
  · exact h.far (by omega) hi
theorem gpR_min {l : List Int} (h : CodeP l) {i : Nat} (hi : i < l.length) {g : Int} (hg : isMin (prA l i) g) : ∀ m, m ≤ i → isMin (prB l i m) (gpR l i g m)
  | 0, _ => by
    have e : ∀ x, prB l i 0 x ↔ prA l i x := fun x => ⟨fun h => h.elim id (fun ⟨k, hk, _⟩ => absurd hk (by omega)), .inl⟩
    rcases hg with ⟨h1, h2⟩ | ⟨h1, h2⟩
    · exact .inl ⟨h1, fun x hx => h2 x ((e x).1 hx)⟩
    · exact .inr ⟨(e _).2 h1, fun x hx => h2 x ((e x).1 hx)⟩
  | m + 1, hm => by
    have ih := gpR_min h hi hg m (by omega)
    refine isMin_step ih (fun x hx => prB_pos h hi (by omega) hx) (h.far (by omega) hi) fun x => ?_
    constructor
    · rintro (hx | ⟨k, hk, rfl⟩)
      · exact .inl (.inl hx)
      · by_cases e : k = m
        · subst e; exact .inr rfl
        · exact .inl (.inr ⟨k, by omega, rfl⟩)
    · rintro ((hx | ⟨k, hk, rfl⟩) | rfl)
      · exact .inl hx
      · exact .inr ⟨k, by omega, rfl⟩
      · exact .inr ⟨m, by omega, rfl⟩
theorem gpL_min {l : List Int} (h : CodeP l) : ∀ n, n ≤ l.length → isMin (prA l n) (gpL l n)
  | 0, _ => .inl ⟨rfl, fun x ⟨i, k, _, hi, _⟩ => absurd hi (by omega)⟩
  | n + 1, hn => by
    have h1 := gpR_min h (i := n) (by omega) (gpL_min h n (by omega)) n (Nat.le_refl n)
    have e : ∀ x, prB l n n x ↔ prA l (n + 1) x := fun x => by
      constructor
      · rintro (⟨i, k, h1, h2, h3⟩ | ⟨k, h1, h3⟩)
        · exact ⟨i, k, h1, by omega, h3⟩
        · exact ⟨n, k, h1, by omega, h3⟩
      · rintro ⟨i, k, a1, a2, a3⟩
        by_cases e : i = n
        · exact .inr ⟨k, by omega, by rw [← e]; exact a3⟩
        · exact .inl ⟨i, k, a1, by omega, a3⟩
    rcases h1 with ⟨h1, h2⟩ | ⟨h1, h2⟩
    · exact .inl ⟨h1, fun x hx => h2 x ((e x).2 hx)⟩
    · exact .inr ⟨(e _).1 h1, fun x hx => h2 x ((e x).2 hx)⟩
theorem gpL_pos {l : List Int} (h : CodeP l) (h2 : 2 ≤ l.length) : 1 ≤ gpL l l.length := by
  have hm := gpL_min h l.length (Nat.le_refl _)
  have hA : prA l l.length (farC (l.getD 1 0) (l.getD 0 0)) := ⟨1, 0, by omega, by omega, rfl⟩
  rcases hm with ⟨_, h1⟩ | ⟨⟨i, k, h3, h4, h5⟩, _⟩
  · exact absurd hA (h1 _)
  · rw [← h5]; exact h.far h3 h4
/-- The pairs that are d far, in order. -/
def pr1 (l : List Int) (d : Int) (i k : Nat) : List (Int × Int) := if farC (l.getD i 0) (l.getD k 0) = d then [((i : Int), (k : Int))] else []
def prR (l : List Int) (d : Int) (i : Nat) : Nat → List (Int × Int)
  | 0 => []
  | m + 1 => prR l d i m ++ pr1 l d i (i + 1 + m)
def prL (l : List Int) (d : Int) : Nat → List (Int × Int)
  | 0 => []
  | i + 1 => prL l d i ++ prR l d i (l.length - (i + 1))
theorem pr1_len (l : List Int) (d : Int) (i k : Nat) : (pr1 l d i k).length ≤ 1 := by unfold pr1; split <;> simp
theorem prR_len (l : List Int) (d : Int) (i : Nat) : ∀ m, (prR l d i m).length ≤ m
  | 0 => Nat.le_refl _
  | m + 1 => by have h1 := prR_len l d i m; have h2 := pr1_len l d i (i + 1 + m); unfold prR; simp; omega
theorem prL_len (l : List Int) (d : Int) : ∀ i, (prL l d i).length ≤ i * l.length
  | 0 => by simp [prL]
  | i + 1 => by
    have h1 := prL_len l d i
    have h2 := prR_len l d i (l.length - (i + 1))
    unfold prL; rw [List.length_append, Nat.succ_mul]; omega
/-- One pair more. -/
theorem prR_yes {l : List Int} {d : Int} {i m : Nat} (h : farC (l.getD i 0) (l.getD (i + 1 + m) 0) = d) : prR l d i (m + 1) = prR l d i m ++ [((i : Int), ((i + 1 + m : Nat) : Int))] := by rw [prR, pr1, if_pos h]
theorem prR_no {l : List Int} {d : Int} {i m : Nat} (h : ¬ farC (l.getD i 0) (l.getD (i + 1 + m) 0) = d) : prR l d i (m + 1) = prR l d i m := by rw [prR, pr1, if_neg h, List.append_nil]
/-- Where there is a pair. -/
theorem prR_ne {l : List Int} {d : Int} {i : Nat} : ∀ m, (prR l d i m ≠ [] ↔ ∃ j, j < m ∧ farC (l.getD i 0) (l.getD (i + 1 + j) 0) = d)
  | 0 => by simp [prR]
  | m + 1 => by
    have ih := prR_ne (l := l) (d := d) (i := i) m
    by_cases h : farC (l.getD i 0) (l.getD (i + 1 + m) 0) = d
    · rw [prR_yes h]; exact ⟨fun _ => ⟨m, by omega, h⟩, fun _ => by simp⟩
    · rw [prR_no h, ih]
      constructor
      · rintro ⟨j, hj, e⟩; exact ⟨j, by omega, e⟩
      · rintro ⟨j, hj, e⟩
        by_cases e2 : j = m
        · subst e2; exact absurd e h
        · exact ⟨j, by omega, e⟩
theorem prL_ne {l : List Int} {d : Int} : ∀ n, n ≤ l.length → (prL l d n ≠ [] ↔ ∃ i k, i < n ∧ i < k ∧ k < l.length ∧ farC (l.getD i 0) (l.getD k 0) = d)
  | 0, _ => by simp [prL]
  | n + 1, hn => by
    have ih := prL_ne (l := l) (d := d) n (by omega)
    have hr := prR_ne (l := l) (d := d) (i := n) (l.length - (n + 1))
    have e : prL l d (n + 1) ≠ [] ↔ (prL l d n ≠ [] ∨ prR l d n (l.length - (n + 1)) ≠ []) := by
      rw [prL]; simp only [ne_eq, List.append_eq_nil_iff]
      constructor
      · intro h
        by_cases h1 : prL l d n = []
        · exact .inr fun h2 => h ⟨h1, h2⟩
        · exact .inl h1
      · rintro (h | h) ⟨h1, h2⟩
        · exact h h1
        · exact h h2
    rw [e, ih, hr]
    constructor
    · rintro (⟨i, k, h1, h2, h3, h4⟩ | ⟨j, hj, h4⟩)
      · exact ⟨i, k, by omega, h2, h3, h4⟩
      · exact ⟨n, n + 1 + j, by omega, by omega, by omega, h4⟩
    · rintro ⟨i, k, h1, h2, h3, h4⟩
      by_cases e : i = n
      · subst e
        refine .inr ⟨k - (i + 1), by omega, ?_⟩
        rw [show i + 1 + (k - (i + 1)) = k by omega]; exact h4
      · exact .inl ⟨i, k, by omega, h2, h3, h4⟩
theorem prL_A {l : List Int} {d : Int} : prL l d l.length ≠ [] ↔ prA l l.length d := by
  rw [prL_ne l.length (Nat.le_refl _)]
  constructor
  · rintro ⟨i, k, _, h2, h3, h4⟩; exact ⟨k, i, h2, h3, by rw [farC_comm]; exact h4⟩
  · rintro ⟨i, k, h1, h2, h3⟩; exact ⟨k, i, by omega, h1, h2, by rw [farC_comm]; exact h3⟩
/-- The first distance at which there is a pair is the gap. -/
theorem gap_first {l : List Int} (h : CodeP l) {d : Nat} (h1 : prL l (d : Int) l.length ≠ []) (h2 : ∀ j : Nat, j < d → prL l (j : Int) l.length = []) : gpL l l.length = d := by
  refine isMin_one (gpL_min h l.length (Nat.le_refl _)) (A' := prA l l.length) (g' := (d : Int)) (.inr ⟨prL_A.1 h1, fun x hx => ?_⟩) (fun _ => Iff.rfl)
  obtain ⟨i, k, _, _, rfl⟩ := hx
  have hle := farC_le (l.getD i 0) (l.getD k 0)
  refine Int.not_lt.1 fun hlt => ?_
  have := h2 (farC (l.getD i 0) (l.getD k 0)).toNat (by omega)
  rw [Int.toNat_of_nonneg hle.1] at this
  exact absurd this (prL_A.2 ⟨i, k, by assumption, by assumption, rfl⟩)
theorem gap_none {l : List Int} (h : CodeP l) (h2 : ∀ j : Nat, j < 8 → prL l (j : Int) l.length = []) : gpL l l.length = 0 := by
  refine isMin_one (gpL_min h l.length (Nat.le_refl _)) (A' := prA l l.length) (g' := 0) (.inl ⟨rfl, fun x hx => ?_⟩) (fun _ => Iff.rfl)
  have hx' := hx
  obtain ⟨i, k, _, _, rfl⟩ := hx
  have hle := farC_le (l.getD i 0) (l.getD k 0)
  have := h2 (farC (l.getD i 0) (l.getD k 0)).toNat (by omega)
  rw [Int.toNat_of_nonneg hle.1] at this
  exact absurd this (prL_A.2 hx')
/-- Pairs counted the other way round. -/
def cf1 (l : List Int) (d : Int) (i k : Nat) : Nat := if farC (l.getD i 0) (l.getD k 0) = d then 1 else 0
def cfR (l : List Int) (d : Int) (i : Nat) : Nat → Nat
  | 0 => 0
  | k + 1 => cfR l d i k + cf1 l d i k
def cfL (l : List Int) (d : Int) : Nat → Nat
  | 0 => 0
  | i + 1 => cfL l d i + cfR l d i i
theorem cfR_le (l : List Int) (d : Int) (i : Nat) : ∀ k, cfR l d i k ≤ k
  | 0 => Nat.le_refl _
  | k + 1 => by have := cfR_le l d i k; unfold cfR cf1; split <;> omega
theorem cfL_le (l : List Int) (d : Int) : ∀ i, cfL l d i ≤ i * i
  | 0 => Nat.le_refl _
  | i + 1 => by
    have h1 := cfL_le l d i
    have h2 := cfR_le l d i i
    unfold cfL
    have : (i + 1) * (i + 1) = i * i + i + i + 1 := by rw [Nat.succ_mul, Nat.mul_succ]; omega
    omega
theorem pr1_cf (l : List Int) (d : Int) (i k : Nat) : (pr1 l d i k).length = cf1 l d k i := by
  unfold pr1 cf1; rw [farC_comm]; split <;> rfl
/-- So many pairs whose second place is below n. -/
def tri (l : List Int) (d : Int) (n : Nat) : Nat → Nat
  | 0 => 0
  | i + 1 => tri l d n i + (prR l d i (n - (i + 1))).length
theorem prL_tri (l : List Int) (d : Int) : ∀ i, (prL l d i).length = tri l d l.length i
  | 0 => rfl
  | i + 1 => by rw [prL, List.length_append, prL_tri l d i, tri]
theorem tri_up (l : List Int) (d : Int) (n : Nat) : ∀ m, m ≤ n → tri l d (n + 1) m = tri l d n m + cfR l d n m
  | 0, _ => rfl
  | m + 1, h => by
    have ih := tri_up l d n m (by omega)
    rw [tri, tri, cfR, ih, show n + 1 - (m + 1) = (n - (m + 1)) + 1 by omega, prR, List.length_append, pr1_cf, show m + 1 + (n - (m + 1)) = n by omega]
    omega
theorem tri_cf (l : List Int) (d : Int) : ∀ n, tri l d n n = cfL l d n
  | 0 => rfl
  | n + 1 => by
    have h1 := tri_up l d n n (Nat.le_refl _)
    rw [tri, h1, tri_cf l d n, cfL, Nat.sub_self]; rfl
theorem prL_count (l : List Int) (d : Int) : (prL l d l.length).length = cfL l d l.length := by rw [prL_tri, tri_cf]
theorem fl_app (a : List (Int × Int)) (x y : Int) : fl (a ++ [(x, y)]) = fl a ++ [PV.int .i64 x, PV.int .i64 y] := by simp [fl]
theorem gpp_len (l : List Int) : (if CodeP l then prL l (gpL l l.length) l.length else []).length ≤ 144 := by
  split
  · rename_i h
    have h1 := prL_len l (gpL l l.length) l.length
    have h2 := h.1.2
    exact Nat.le_trans h1 (Nat.mul_le_mul h2 h2)
  · simp

theorem spec_l2FarC (a b : Int) (ha : 0 ≤ a ∧ a ≤ 127) (hb : 0 ≤ b ∧ b ≤ 127) : PCalls Tryd.prog 91 [.int .i64 a, .int .i64 b] (· = [.val (.int .i64 (farC a b))]) := spec_l2Far a b ha hb

set_option maxRecDepth 4000 in
theorem spec_l5Gap (l : List Int) (hl : l.length ≤ 128) (hc : ∀ j, j < l.length → 0 ≤ l.getD j 0 ∧ l.getD j 0 ≤ 127) : PCalls Tryd.prog 90 [.sl l.length (l.map (.int .i64))] (· = [.val (.int .i64 (gpL l l.length))]) := by
  refine pcalls_of_code (n := 36) az Tryd.func90 (by kernel_rfl) rfl rfl (Nat.le_of_ble_eq_true rfl) (by intro t u h; simp [Tryd.f90] at h) ?_
  refine code_seq (fun K1 hK1 => ?_)
  refine code_region ?_
  refine list_cons rfl (op_q (q_assign rfl (by decide)) ?_)
  refine list_nil ?_
  refine hK1 _ ?_; clear hK1 K1
  refine code_seq (fun K2 hK2 => ?_)
  refine code_region ?_
  refine list_cons rfl (op_q (q_assign rfl (by decide)) ?_)
  refine list_nil ?_
  refine hK2 _ ?_; clear hK2 K2
  refine code_seq (fun K3 hK3 => ?_)
  refine code_seq (fun K4 hK4 => ?_)
  refine code_region ?_
  refine list_cons rfl (op_q (q_assign rfl (by decide)) ?_)
  refine list_nil ?_
  refine hK4 _ ?_; clear hK4 K4
  refine code_block ?_
  refine code_loop (X := Int × Int × Int) (fun x => [(0, .par 0 (.sl l.length (l.map (.int .i64)))), (2, .val (.int .i64 x.1)), (3, .val (.int .i64 x.2.1)), (4, .val (.int .i64 x.2.2))]) (fun x => 0 ≤ x.2.2 ∧ x.2.2 ≤ l.length ∧ x.2.1 = gpL l x.2.2.toNat) (fun x => (l.length - x.2.2).toNat) (_, _, _) (imp_covers ⟨rfl, rfl, rfl, rfl, trivial⟩) ?_ ?_
  · (try dsimp only)
    exact ⟨by omega, by omega, rfl⟩
  · intro x hI
    obtain ⟨t2, gap, i⟩ := x
    replace hI : 0 ≤ i ∧ i ≤ l.length ∧ gap = gpL l i.toNat := hI
    show codeT _ _ _ [(0, .par 0 (.sl l.length (l.map (.int .i64)))), (2, .val (.int .i64 t2)), (3, .val (.int .i64 gap)), (4, .val (.int .i64 i))] _
    obtain ⟨i1, i2, rfl⟩ := hI
    refine code_seq (fun K5 hK5 => ?_)
    refine code_seq (fun K6 hK6 => ?_)
    refine code_region ?_
    refine list_cons rfl (op_q (q_move rfl (by decide)) ?_)
    refine list_cons rfl (op_q (q_move rfl (by decide)) ?_)
    refine list_cons rfl (op_q (q_len_sl Tryd.underlying24 rfl rfl (by decide)) ?_)
    refine list_cons rfl (op_q (q_lt rfl rfl (by decide)) ?_)
    refine list_nil ?_
    refine hK6 _ ?_; clear hK6 K6
    refine code_cond_d rfl (fun h1 => ?_) (fun h1 => ?_)
    · skip
      (try simp only [Decidable.not_not] at h1)
      refine code_skip ?_
      refine hK5 _ ?_; clear hK5 K5
      refine code_seq (fun K7 hK7 => ?_)
      refine code_block ?_
      refine code_seq (fun K8 hK8 => ?_)
      refine code_region ?_
      refine list_cons rfl (op_q (q_assign rfl (by decide)) ?_)
      refine list_nil ?_
      refine hK8 _ ?_; clear hK8 K8
      refine code_block ?_
      refine code_loop (X := Int × Int × Int) (fun x => [(0, .par 0 (.sl l.length (l.map (.int .i64)))), (2, .val (.int .i64 x.1)), (3, .val (.int .i64 x.2.1)), (4, .val (.int .i64 i)), (5, .val (.int .i64 x.2.2))]) (fun x => 0 ≤ x.2.2 ∧ x.2.2 ≤ i ∧ x.2.1 = gpR l i.toNat (gpL l i.toNat) x.2.2.toNat) (fun x => (i - x.2.2).toNat) (_, _, _) (imp_covers ⟨rfl, rfl, rfl, rfl, rfl, trivial⟩) ?_ ?_
      · (try dsimp only)
        exact ⟨by omega, by omega, rfl⟩
      · intro x hI
        obtain ⟨t2, gap, k⟩ := x
        replace hI : 0 ≤ k ∧ k ≤ i ∧ gap = gpR l i.toNat (gpL l i.toNat) k.toNat := hI
        show codeT _ _ _ [(0, .par 0 (.sl l.length (l.map (.int .i64)))), (2, .val (.int .i64 t2)), (3, .val (.int .i64 gap)), (4, .val (.int .i64 i)), (5, .val (.int .i64 k))] _
        obtain ⟨j1, j2, rfl⟩ := hI
        refine code_seq (fun K9 hK9 => ?_)
        refine code_seq (fun K10 hK10 => ?_)
        refine code_region ?_
        refine list_cons rfl (op_q (q_move rfl (by decide)) ?_)
        refine list_cons rfl (op_q (q_move rfl (by decide)) ?_)
        refine list_cons rfl (op_q (q_lt rfl rfl (by decide)) ?_)
        refine list_nil ?_
        refine hK10 _ ?_; clear hK10 K10
        refine code_cond_d rfl (fun h2 => ?_) (fun h2 => ?_)
        · skip
          (try simp only [Decidable.not_not] at h2)
          refine code_skip ?_
          refine hK9 _ ?_; clear hK9 K9
          refine code_seq (fun K11 hK11 => ?_)
          refine code_block ?_
          refine code_seq (fun K12 hK12 => ?_)
          refine code_draw (by kernel_rfl) (by kernel_rfl) ?_
          refine draw_q rfl (q_move rfl (by decide)) ?_
          refine draw_q rfl (q_move rfl (by decide)) ?_
          refine draw_q rfl (q_indexAddr_rd sl_24 rfl (.inl ⟨_, rfl, rfl⟩) rfl (by omega) (by omega) (by decide)) ?_
          refine draw_q rfl (q_load_rd one_3 rfl (.inl ⟨_, (by first | rfl | exact congrArg (SV.rpar _) (drop_map1 _ 0 _ (by first | omega | (simp; omega)))), rfl⟩) (by decide)) ?_
          refine draw_q rfl (q_move rfl (by decide)) ?_
          refine draw_q rfl (q_move rfl (by decide)) ?_
          refine draw_q rfl (q_indexAddr_rd sl_24 rfl (.inl ⟨_, rfl, rfl⟩) rfl (by omega) (by omega) (by decide)) ?_
          refine draw_q rfl (q_load_rd one_3 rfl (.inl ⟨_, (by first | rfl | exact congrArg (SV.rpar _) (drop_map1 _ 0 _ (by first | omega | (simp; omega)))), rfl⟩) (by decide)) ?_
          refine draw_call _ (spec_l2FarC _ _ (hc i.toNat (by omega)) (hc k.toNat (by omega))) rfl rfl rfl (by decide) ?_
          refine draw_q rfl (q_assign rfl (by decide)) ?_
          refine draw_nil ?_
          refine hK12 _ ?_; clear hK12 K12
          refine codeT.imp (σ' := [(0, _), (2, _), (3, _), (4, _), (5, _), (6, _)]) ?_ (imp_covers ⟨rfl, rfl, rfl, rfl, rfl, rfl, trivial⟩)
          refine code_seq (fun K13 hK13 => ?_)
          refine code_region ?_
          refine list_cons rfl (op_q (q_move rfl (by decide)) ?_)
          refine list_cons rfl (op_q (q_eq rfl rfl (by decide)) ?_)
          refine list_cons rfl (op_q (q_move rfl (by decide)) ?_)
          refine list_guard_d rfl rfl rfl rfl (by decide) rfl (by decide) (fun h3 => ?_) (fun h3 => ?_)
          · simp only [Bool.false_eq_true, if_true, if_false, Decidable.not_not] at h3
            refine id (op_q (q_move rfl (by decide)) ?_)
            refine list_guard_y rfl rfl rfl rfl (by decide) rfl ?_
            refine id (op_q (q_move rfl (by decide)) ?_)
            refine list_guard_y rfl rfl rfl rfl (by decide) rfl ?_
            refine id (op_q (q_lt rfl rfl (by decide)) ?_)
            refine list_cons rfl (op_q (q_pick rfl rfl (by decide)) ?_)
            refine list_nil ?_
            refine hK13 _ ?_; clear hK13 K13
            refine code_cond_d rfl (fun h4 => ?_) (fun h4 => ?_)
            · skip
              (try simp only [Decidable.not_not] at h4)
              refine code_region ?_
              refine list_cons rfl (op_q (q_move rfl (by decide)) ?_)
              refine list_cons rfl (op_q (q_assign rfl (by decide)) ?_)
              refine list_nil ?_
              refine blk_n ?_
              refine hK11 _ ?_; clear hK11 K11
              refine codeT.imp (σ' := [(0, _), (2, _), (3, _), (4, _), (5, _), (6, _)]) ?_ (imp_covers ⟨rfl, rfl, rfl, rfl, rfl, rfl, trivial⟩)
              refine code_region ?_
              refine list_cons rfl (op_q (q_move rfl (by decide)) ?_)
              refine list_cons rfl (op_q (by first | exact q_addI rfl rfl (by decide) (by omega) (by omega) | exact q_ib rfl rfl rfl (by decide)) ?_)
              refine list_cons rfl (op_q (q_assign rfl (by decide)) ?_)
              refine list_nil ?_
              refine then_n ⟨(_, _, _), imp_covers ⟨rfl, rfl, rfl, rfl, rfl, trivial⟩, ?_, ?_⟩
              · (try dsimp only)
                refine ⟨by omega, by omega, ?_⟩
                rw [show (k + 1).toNat = k.toNat + 1 by omega, gpR]
                first
                  | exact gsS_yes (.inl (by assumption))
                  | exact gsS_yes (.inr (by assumption))
                  | exact gsS_no (fun e => e.elim (by assumption) (by assumption))
              · (try dsimp only); omega
            (try simp only [Decidable.not_not] at h4)
            refine code_skip ?_
            refine blk_n ?_
            refine hK11 _ ?_; clear hK11 K11
            refine codeT.imp (σ' := [(0, _), (2, _), (3, _), (4, _), (5, _), (6, _)]) ?_ (imp_covers ⟨rfl, rfl, rfl, rfl, rfl, rfl, trivial⟩)
            refine code_region ?_
            refine list_cons rfl (op_q (q_move rfl (by decide)) ?_)
            refine list_cons rfl (op_q (by first | exact q_addI rfl rfl (by decide) (by omega) (by omega) | exact q_ib rfl rfl rfl (by decide)) ?_)
            refine list_cons rfl (op_q (q_assign rfl (by decide)) ?_)
            refine list_nil ?_
            refine then_n ⟨(_, _, _), imp_covers ⟨rfl, rfl, rfl, rfl, rfl, trivial⟩, ?_, ?_⟩
            · (try dsimp only)
              refine ⟨by omega, by omega, ?_⟩
              rw [show (k + 1).toNat = k.toNat + 1 by omega, gpR]
              first
                | exact gsS_yes (.inl (by assumption))
                | exact gsS_yes (.inr (by assumption))
                | exact gsS_no (fun e => e.elim (by assumption) (by assumption))
            · (try dsimp only); omega
          simp only [Bool.false_eq_true, if_true, if_false, Decidable.not_not] at h3
          refine list_guard_n rfl rfl rfl rfl (by decide) rfl ?_
          refine list_guard_n rfl rfl rfl rfl (by decide) rfl ?_
          refine list_cons rfl (op_q (q_pick rfl rfl (by decide)) ?_)
          refine list_nil ?_
          refine hK13 _ ?_; clear hK13 K13
          refine code_cond_t rfl ?_
          refine code_region ?_
          refine list_cons rfl (op_q (q_move rfl (by decide)) ?_)
          refine list_cons rfl (op_q (q_assign rfl (by decide)) ?_)
          refine list_nil ?_
          refine blk_n ?_
          refine hK11 _ ?_; clear hK11 K11
          refine code_region ?_
          refine list_cons rfl (op_q (q_move rfl (by decide)) ?_)
          refine list_cons rfl (op_q (by first | exact q_addI rfl rfl (by decide) (by omega) (by omega) | exact q_ib rfl rfl rfl (by decide)) ?_)
          refine list_cons rfl (op_q (q_assign rfl (by decide)) ?_)
          refine list_nil ?_
          refine then_n ⟨(_, _, _), imp_covers ⟨rfl, rfl, rfl, rfl, rfl, trivial⟩, ?_, ?_⟩
          · (try dsimp only)
            refine ⟨by omega, by omega, ?_⟩
            rw [show (k + 1).toNat = k.toNat + 1 by omega, gpR]
            first
              | exact gsS_yes (.inl (by assumption))
              | exact gsS_yes (.inr (by assumption))
              | exact gsS_no (fun e => e.elim (by assumption) (by assumption))
          · (try dsimp only); omega
        (try simp only [Decidable.not_not] at h2)
        refine code_exit ?_
        refine then_x ?_; clear hK9 K9
        refine then_x ?_
        refine blk_hit ?_
        refine blk_n ?_
        refine hK7 _ ?_; clear hK7 K7
        refine code_region ?_
        refine list_cons rfl (op_q (q_move rfl (by decide)) ?_)
        refine list_cons rfl (op_q (by first | exact q_addI rfl rfl (by decide) (by omega) (by omega) | exact q_ib rfl rfl rfl (by decide)) ?_)
        refine list_cons rfl (op_q (q_assign rfl (by decide)) ?_)
        refine list_nil ?_
        refine then_n ⟨(_, _, _), imp_covers ⟨rfl, rfl, rfl, rfl, trivial⟩, ?_, ?_⟩
        · (try dsimp only)
          exact ⟨by omega, by omega, by rw [show (i + 1).toNat = i.toNat + 1 by omega, gpL, show i.toNat = k.toNat by omega]⟩
        · (try dsimp only); omega
    (try simp only [Decidable.not_not] at h1)
    refine code_exit ?_
    refine then_x ?_; clear hK5 K5
    refine then_x ?_
    refine blk_hit ?_
    refine hK3 _ ?_; clear hK3 K3
    refine code_seq (fun K14 hK14 => ?_)
    refine code_region ?_
    refine list_cons rfl (op_q (q_move rfl (by decide)) ?_)
    refine list_cons rfl (op_q (q_assign rfl (by decide)) ?_)
    refine list_nil ?_
    refine hK14 _ ?_; clear hK14 K14
    refine code_ret ?_
    refine ends_ret (cs := []) rfl rfl rfl rfl trivial ?_
    rw [show i.toNat = l.length by omega]

set_option maxRecDepth 4000 in
theorem spec_GapOf (l : List Int) (hl : l.length ≤ 4611686018427387904) : PCalls Tryd.prog 23 [.sl l.length (l.map (.int .i64))] (· = [.val (.int .i64 (if CodeP l then gpL l l.length else 0)), .val (.bool (decide (CodeP l)))]) := by
  refine pcalls_of_code (n := 9) az Tryd.func23 (by kernel_rfl) rfl rfl (Nat.le_of_ble_eq_true rfl) (by intro t u h; simp [Tryd.f23] at h) ?_
  have hcc : CodeP l → l.length ≤ 128 := fun h => by have := h.1; omega
  have hgl := gpL_le l l.length
  refine code_seq (fun K1 hK1 => ?_)
  refine code_region ?_
  refine list_cons rfl (op_q (q_assign rfl (by decide)) ?_)
  refine list_cons rfl (op_q (q_assign rfl (by decide)) ?_)
  refine list_nil ?_
  refine hK1 _ ?_; clear hK1 K1
  refine code_seq (fun K2 hK2 => ?_)
  refine code_seq (fun K3 hK3 => ?_)
  refine code_region ?_
  refine list_cons rfl (op_q (q_move rfl (by decide)) ?_)
  refine list_cons rfl (op_call _ (spec_l5Code _ (by omega)) rfl rfl (by decide) (by decide) (by decide) rfl ?_)
  rintro _ rfl
  refine list_cons rfl (op_q (by first | exact q_notd rfl (by decide) | exact q_not rfl (by decide)) ?_)
  refine list_nil ?_
  refine hK3 _ ?_; clear hK3 K3
  refine codeT.imp (σ' := [(0, _), (2, _), (3, _), (6, _)]) ?_ (imp_covers ⟨rfl, rfl, rfl, rfl, trivial⟩)
  refine code_cond_d rfl (fun h1 => ?_) (fun h1 => ?_)
  · skip
    (try simp only [Decidable.not_not] at h1)
    refine code_seq (fun K4 hK4 => ?_)
    refine code_region ?_
    refine list_cons rfl (op_q (q_assign rfl (by decide)) ?_)
    refine list_cons rfl (op_q (q_assign rfl (by decide)) ?_)
    refine list_nil ?_
    refine hK4 _ ?_; clear hK4 K4
    refine code_ret ?_
    refine then_r ?_; clear hK2 K2
    refine ends_ret (cs := []) rfl rfl rfl rfl trivial ?_
    first
      | (have e : ¬ CodeP l := by assumption
         simp only [if_neg e, decide_eq_false e]; done)
      | (have e : CodeP l := by assumption
         simp only [if_pos e, decide_eq_true e]; done)
  (try simp only [Decidable.not_not] at h1)
  refine code_skip ?_
  refine hK2 _ ?_; clear hK2 K2
  refine code_seq (fun K5 hK5 => ?_)
  refine code_region ?_
  refine list_cons rfl (op_q (q_move rfl (by decide)) ?_)
  refine list_cons rfl (op_call _ (spec_l5Gap _ (hcc (by assumption)) (CodeP.cell (by assumption))) rfl rfl (by decide) (by decide) (by decide) rfl ?_)
  rintro _ rfl
  refine list_cons rfl (op_q (q_assign rfl (by decide)) ?_)
  refine list_cons rfl (op_q (q_assign rfl (by decide)) ?_)
  refine list_nil ?_
  refine hK5 _ ?_; clear hK5 K5
  refine codeT.imp (σ' := [(0, _), (2, _), (3, _)]) ?_ (imp_covers ⟨rfl, rfl, rfl, trivial⟩)
  refine code_ret ?_
  refine ends_ret (cs := []) rfl rfl rfl rfl trivial ?_
  first
    | (have e : ¬ CodeP l := by assumption
       simp only [if_neg e, decide_eq_false e]; done)
    | (have e : CodeP l := by assumption
       simp only [if_pos e, decide_eq_true e]; done)

set_option maxRecDepth 4000 in
theorem spec_SeesUpTo (l : List Int) (hl : l.length ≤ 4611686018427387904) : PCalls Tryd.prog 29 [.sl l.length (l.map (.int .i64))] (· = [.val (.int .i64 (if CodeP l ∧ ¬ ((l.length : Int) = 1) then gpL l l.length - 1 else 0)), .val (.bool (decide (CodeP l ∧ ¬ ((l.length : Int) = 1))))]) := by
  refine pcalls_of_code (n := 15) az Tryd.func29 (by kernel_rfl) rfl rfl (Nat.le_of_ble_eq_true rfl) (by intro t u h; simp [Tryd.f29] at h) ?_
  have hcc : CodeP l → l.length ≤ 128 := fun h => by have := h.1; omega
  have hgl := gpL_le l l.length
  have hgp : CodeP l → ¬ ((l.length : Int) = 1) → 1 ≤ gpL l l.length := fun h h2 => gpL_pos h (by have := h.1; omega)
  refine code_seq (fun K1 hK1 => ?_)
  refine code_region ?_
  refine list_cons rfl (op_q (q_assign rfl (by decide)) ?_)
  refine list_cons rfl (op_q (q_assign rfl (by decide)) ?_)
  refine list_nil ?_
  refine hK1 _ ?_; clear hK1 K1
  refine code_seq (fun K2 hK2 => ?_)
  refine code_seq (fun K3 hK3 => ?_)
  refine code_region ?_
  refine list_cons rfl (op_q (q_move rfl (by decide)) ?_)
  refine list_cons rfl (op_call _ (spec_l5Code _ (by omega)) rfl rfl (by decide) (by decide) (by decide) rfl ?_)
  rintro _ rfl
  refine list_cons rfl (op_q (by first | exact q_notd rfl (by decide) | exact q_not rfl (by decide)) ?_)
  refine list_cons rfl (op_q (q_move rfl (by decide)) ?_)
  refine list_guard_d rfl rfl rfl rfl (by decide) rfl (by decide) (fun h1 => ?_) (fun h1 => ?_)
  · simp only [Bool.false_eq_true, if_true, if_false, Decidable.not_not] at h1
    refine id (op_q (q_move rfl (by decide)) ?_)
    refine list_guard_y rfl rfl rfl rfl (by decide) rfl ?_
    refine id (op_q (q_len_sl Tryd.underlying24 rfl rfl (by decide)) ?_)
    refine list_guard_y rfl rfl rfl rfl (by decide) rfl ?_
    refine id (op_q (q_eq rfl rfl (by decide)) ?_)
    refine list_cons rfl (op_q (q_pick rfl rfl (by decide)) ?_)
    refine list_nil ?_
    refine hK3 _ ?_; clear hK3 K3
    refine codeT.imp (σ' := [(0, _), (2, _), (3, _), (11, _)]) ?_ (imp_covers ⟨rfl, rfl, rfl, rfl, trivial⟩)
    refine code_cond_d rfl (fun h2 => ?_) (fun h2 => ?_)
    · skip
      (try simp only [Decidable.not_not] at h2)
      refine code_seq (fun K4 hK4 => ?_)
      refine code_region ?_
      refine list_cons rfl (op_q (q_assign rfl (by decide)) ?_)
      refine list_cons rfl (op_q (q_assign rfl (by decide)) ?_)
      refine list_nil ?_
      refine hK4 _ ?_; clear hK4 K4
      refine code_ret ?_
      refine then_r ?_; clear hK2 K2
      refine ends_ret (cs := []) rfl rfl rfl rfl trivial ?_
      first
        | (have e : ¬ (CodeP l ∧ ¬ ((l.length : Int) = 1)) := fun e => absurd e.1 (by assumption)
           simp only [if_neg e, decide_eq_false e]; done)
        | (have e : ¬ (CodeP l ∧ ¬ ((l.length : Int) = 1)) := fun e => e.2 (by assumption)
           simp only [if_neg e, decide_eq_false e]; done)
        | (have e : CodeP l ∧ ¬ ((l.length : Int) = 1) := ⟨by assumption, by assumption⟩
           simp only [if_pos e, decide_eq_true e]; done)
    (try simp only [Decidable.not_not] at h2)
    refine code_skip ?_
    refine hK2 _ ?_; clear hK2 K2
    refine code_seq (fun K5 hK5 => ?_)
    refine code_region ?_
    refine list_cons rfl (op_q (q_move rfl (by decide)) ?_)
    refine list_cons rfl (op_call _ (spec_l5Gap _ (hcc (by assumption)) (CodeP.cell (by assumption))) rfl rfl (by decide) (by decide) (by decide) rfl ?_)
    rintro _ rfl; have hgq := hgp (by assumption) (by assumption)
    refine list_cons rfl (op_q (by first | exact q_subI rfl rfl (by decide) (by omega) (by omega) | exact q_ib rfl rfl rfl (by decide)) ?_)
    refine list_cons rfl (op_q (q_assign rfl (by decide)) ?_)
    refine list_cons rfl (op_q (q_assign rfl (by decide)) ?_)
    refine list_nil ?_
    refine hK5 _ ?_; clear hK5 K5
    refine codeT.imp (σ' := [(0, _), (2, _), (3, _)]) ?_ (imp_covers ⟨rfl, rfl, rfl, trivial⟩)
    refine code_ret ?_
    refine ends_ret (cs := []) rfl rfl rfl rfl trivial ?_
    first
      | (have e : ¬ (CodeP l ∧ ¬ ((l.length : Int) = 1)) := fun e => absurd e.1 (by assumption)
         simp only [if_neg e, decide_eq_false e]; done)
      | (have e : ¬ (CodeP l ∧ ¬ ((l.length : Int) = 1)) := fun e => e.2 (by assumption)
         simp only [if_neg e, decide_eq_false e]; done)
      | (have e : CodeP l ∧ ¬ ((l.length : Int) = 1) := ⟨by assumption, by assumption⟩
         simp only [if_pos e, decide_eq_true e]; done)
  simp only [Bool.false_eq_true, if_true, if_false, Decidable.not_not] at h1
  refine list_guard_n rfl rfl rfl rfl (by decide) rfl ?_
  refine list_guard_n rfl rfl rfl rfl (by decide) rfl ?_
  refine list_cons rfl (op_q (q_pick rfl rfl (by decide)) ?_)
  refine list_nil ?_
  refine hK3 _ ?_; clear hK3 K3
  refine code_cond_t rfl ?_
  refine code_seq (fun K6 hK6 => ?_)
  refine code_region ?_
  refine list_cons rfl (op_q (q_assign rfl (by decide)) ?_)
  refine list_cons rfl (op_q (q_assign rfl (by decide)) ?_)
  refine list_nil ?_
  refine hK6 _ ?_; clear hK6 K6
  refine code_ret ?_
  refine then_r ?_; clear hK2 K2
  refine ends_ret (cs := []) rfl rfl rfl rfl trivial ?_
  first
    | (have e : ¬ (CodeP l ∧ ¬ ((l.length : Int) = 1)) := fun e => absurd e.1 (by assumption)
       simp only [if_neg e, decide_eq_false e]; done)
    | (have e : ¬ (CodeP l ∧ ¬ ((l.length : Int) = 1)) := fun e => e.2 (by assumption)
       simp only [if_neg e, decide_eq_false e]; done)
    | (have e : CodeP l ∧ ¬ ((l.length : Int) = 1) := ⟨by assumption, by assumption⟩
       simp only [if_pos e, decide_eq_true e]; done)

set_option maxRecDepth 4000 in
theorem spec_MendsUpTo (l : List Int) (hl : l.length ≤ 4611686018427387904) : PCalls Tryd.prog 27 [.sl l.length (l.map (.int .i64))] (· = [.val (.int .i64 (if CodeP l ∧ ¬ ((l.length : Int) = 1) then (gpL l l.length - 1) / 2 else 0)), .val (.bool (decide (CodeP l ∧ ¬ ((l.length : Int) = 1))))]) := by
  refine pcalls_of_code (n := 16) az Tryd.func27 (by kernel_rfl) rfl rfl (Nat.le_of_ble_eq_true rfl) (by intro t u h; simp [Tryd.f27] at h) ?_
  have hcc : CodeP l → l.length ≤ 128 := fun h => by have := h.1; omega
  have hgl := gpL_le l l.length
  have hgp : CodeP l → ¬ ((l.length : Int) = 1) → 1 ≤ gpL l l.length := fun h h2 => gpL_pos h (by have := h.1; omega)
  refine code_seq (fun K1 hK1 => ?_)
  refine code_region ?_
  refine list_cons rfl (op_q (q_assign rfl (by decide)) ?_)
  refine list_cons rfl (op_q (q_assign rfl (by decide)) ?_)
  refine list_nil ?_
  refine hK1 _ ?_; clear hK1 K1
  refine code_seq (fun K2 hK2 => ?_)
  refine code_seq (fun K3 hK3 => ?_)
  refine code_region ?_
  refine list_cons rfl (op_q (q_move rfl (by decide)) ?_)
  refine list_cons rfl (op_call _ (spec_l5Code _ (by omega)) rfl rfl (by decide) (by decide) (by decide) rfl ?_)
  rintro _ rfl
  refine list_cons rfl (op_q (by first | exact q_notd rfl (by decide) | exact q_not rfl (by decide)) ?_)
  refine list_cons rfl (op_q (q_move rfl (by decide)) ?_)
  refine list_guard_d rfl rfl rfl rfl (by decide) rfl (by decide) (fun h1 => ?_) (fun h1 => ?_)
  · simp only [Bool.false_eq_true, if_true, if_false, Decidable.not_not] at h1
    refine id (op_q (q_move rfl (by decide)) ?_)
    refine list_guard_y rfl rfl rfl rfl (by decide) rfl ?_
    refine id (op_q (q_len_sl Tryd.underlying24 rfl rfl (by decide)) ?_)
    refine list_guard_y rfl rfl rfl rfl (by decide) rfl ?_
    refine id (op_q (q_eq rfl rfl (by decide)) ?_)
    refine list_cons rfl (op_q (q_pick rfl rfl (by decide)) ?_)
    refine list_nil ?_
    refine hK3 _ ?_; clear hK3 K3
    refine codeT.imp (σ' := [(0, _), (2, _), (3, _), (11, _)]) ?_ (imp_covers ⟨rfl, rfl, rfl, rfl, trivial⟩)
    refine code_cond_d rfl (fun h2 => ?_) (fun h2 => ?_)
    · skip
      (try simp only [Decidable.not_not] at h2)
      refine code_seq (fun K4 hK4 => ?_)
      refine code_region ?_
      refine list_cons rfl (op_q (q_assign rfl (by decide)) ?_)
      refine list_cons rfl (op_q (q_assign rfl (by decide)) ?_)
      refine list_nil ?_
      refine hK4 _ ?_; clear hK4 K4
      refine code_ret ?_
      refine then_r ?_; clear hK2 K2
      refine ends_ret (cs := []) rfl rfl rfl rfl trivial ?_
      first
        | (have e : ¬ (CodeP l ∧ ¬ ((l.length : Int) = 1)) := fun e => absurd e.1 (by assumption)
           simp only [if_neg e, decide_eq_false e]; done)
        | (have e : ¬ (CodeP l ∧ ¬ ((l.length : Int) = 1)) := fun e => e.2 (by assumption)
           simp only [if_neg e, decide_eq_false e]; done)
        | (have e : CodeP l ∧ ¬ ((l.length : Int) = 1) := ⟨by assumption, by assumption⟩
           simp only [if_pos e, decide_eq_true e]; done)
    (try simp only [Decidable.not_not] at h2)
    refine code_skip ?_
    refine hK2 _ ?_; clear hK2 K2
    refine code_seq (fun K5 hK5 => ?_)
    refine code_region ?_
    refine list_cons rfl (op_q (q_move rfl (by decide)) ?_)
    refine list_cons rfl (op_call _ (spec_l5Gap _ (hcc (by assumption)) (CodeP.cell (by assumption))) rfl rfl (by decide) (by decide) (by decide) rfl ?_)
    rintro _ rfl; have hgq := hgp (by assumption) (by assumption)
    refine list_cons rfl (op_q (by first | exact q_subI rfl rfl (by decide) (by omega) (by omega) | exact q_ib rfl rfl rfl (by decide)) ?_)
    refine list_cons rfl (op_q (by first | exact q_quoI rfl rfl (by decide) (by omega) (by omega) (by omega) | exact q_quoT rfl rfl (by omega) (by decide) (by omega) (by omega) | exact q_quo rfl rfl (by omega) (by decide)) ?_)
    refine list_cons rfl (op_q (q_assign rfl (by decide)) ?_)
    refine list_cons rfl (op_q (q_assign rfl (by decide)) ?_)
    refine list_nil ?_
    refine hK5 _ ?_; clear hK5 K5
    refine codeT.imp (σ' := [(0, _), (2, _), (3, _)]) ?_ (imp_covers ⟨rfl, rfl, rfl, trivial⟩)
    refine code_ret ?_
    refine ends_ret (cs := []) rfl rfl rfl rfl trivial ?_
    first
      | (have e : ¬ (CodeP l ∧ ¬ ((l.length : Int) = 1)) := fun e => absurd e.1 (by assumption)
         simp only [if_neg e, decide_eq_false e]; done)
      | (have e : ¬ (CodeP l ∧ ¬ ((l.length : Int) = 1)) := fun e => e.2 (by assumption)
         simp only [if_neg e, decide_eq_false e]; done)
      | (have e : CodeP l ∧ ¬ ((l.length : Int) = 1) := ⟨by assumption, by assumption⟩
         simp only [if_pos e, decide_eq_true e]; done)
  simp only [Bool.false_eq_true, if_true, if_false, Decidable.not_not] at h1
  refine list_guard_n rfl rfl rfl rfl (by decide) rfl ?_
  refine list_guard_n rfl rfl rfl rfl (by decide) rfl ?_
  refine list_cons rfl (op_q (q_pick rfl rfl (by decide)) ?_)
  refine list_nil ?_
  refine hK3 _ ?_; clear hK3 K3
  refine code_cond_t rfl ?_
  refine code_seq (fun K6 hK6 => ?_)
  refine code_region ?_
  refine list_cons rfl (op_q (q_assign rfl (by decide)) ?_)
  refine list_cons rfl (op_q (q_assign rfl (by decide)) ?_)
  refine list_nil ?_
  refine hK6 _ ?_; clear hK6 K6
  refine code_ret ?_
  refine then_r ?_; clear hK2 K2
  refine ends_ret (cs := []) rfl rfl rfl rfl trivial ?_
  first
    | (have e : ¬ (CodeP l ∧ ¬ ((l.length : Int) = 1)) := fun e => absurd e.1 (by assumption)
       simp only [if_neg e, decide_eq_false e]; done)
    | (have e : ¬ (CodeP l ∧ ¬ ((l.length : Int) = 1)) := fun e => e.2 (by assumption)
       simp only [if_neg e, decide_eq_false e]; done)
    | (have e : CodeP l ∧ ¬ ((l.length : Int) = 1) := ⟨by assumption, by assumption⟩
       simp only [if_pos e, decide_eq_true e]; done)

set_option maxRecDepth 4000 in
set_option maxHeartbeats 1000000 in
theorem spec_GapPairs (l : List Int) (hl : l.length ≤ 4611686018427387904) : PCalls Tryd.prog 25 [.sl l.length (l.map (.int .i64))] (· = [.own 0 56 2 (if CodeP l then prL l (gpL l l.length) l.length else []).length (fl (if CodeP l then prL l (gpL l l.length) l.length else [])), .val (.bool (decide (CodeP l)))]) := by
  refine pcalls_of_code (n := 47) az Tryd.func25 (by kernel_rfl) rfl rfl (Nat.le_of_ble_eq_true rfl) (by intro t u h; simp [Tryd.f25] at h) ?_
  have hcc : CodeP l → l.length ≤ 128 := fun h => by have := h.1; omega
  have hgl := gpL_le l l.length
  refine code_seq (fun K1 hK1 => ?_)
  refine code_region ?_
  refine list_cons rfl (op_q (q_assign rfl (by decide)) ?_)
  refine list_cons rfl (op_q (q_assign rfl (by decide)) ?_)
  refine list_nil ?_
  refine hK1 _ ?_; clear hK1 K1
  refine code_seq (fun K2 hK2 => ?_)
  refine code_region ?_
  refine list_cons rfl (op_buildSlice sl_45 (parts := []) rfl rfl rfl (by decide) (by decide) (by decide) rfl ?_)
  refine list_cons rfl (op_q (q_assign rfl (by decide)) ?_)
  refine list_nil ?_
  refine hK2 _ ?_; clear hK2 K2
  refine code_seq (fun K3 hK3 => ?_)
  refine code_seq (fun K4 hK4 => ?_)
  refine code_region ?_
  refine list_cons rfl (op_q (q_move rfl (by decide)) ?_)
  refine list_cons rfl (op_call _ (spec_l5Code _ (by omega)) rfl rfl (by decide) (by decide) (by decide) rfl ?_)
  rintro _ rfl
  refine list_cons rfl (op_q (by first | exact q_notd rfl (by decide) | exact q_not rfl (by decide)) ?_)
  refine list_nil ?_
  refine hK4 _ ?_; clear hK4 K4
  refine codeT.imp (σ' := [(0, _), (2, _), (3, _), (4, _), (11, _)]) ?_ (imp_covers ⟨rfl, rfl, rfl, rfl, rfl, trivial⟩)
  refine code_cond_d rfl (fun h1 => ?_) (fun h1 => ?_)
  · skip
    (try simp only [Decidable.not_not] at h1)
    refine code_seq (fun K5 hK5 => ?_)
    refine code_region ?_
    refine list_cons rfl (op_q (q_move rfl (by decide)) ?_)
    refine list_cons rfl (op_q (q_assign rfl (by decide)) ?_)
    refine list_cons rfl (op_q (q_assign rfl (by decide)) ?_)
    refine list_nil ?_
    refine hK5 _ ?_; clear hK5 K5
    refine code_ret ?_
    refine then_r ?_; clear hK3 K3
    refine ends_ret (cs := []) rfl rfl rfl rfl trivial ?_
    first
      | (have e : ¬ CodeP l := by assumption
         simp only [if_neg e, decide_eq_false e]; rfl)
      | (simp only [if_pos hC, decide_eq_true hC, hk, show i.toNat = l.length by omega])
  (try simp only [Decidable.not_not] at h1)
  refine code_skip ?_
  refine hK3 _ ?_; clear hK3 K3
  refine code_seq (fun K6 hK6 => ?_)
  refine code_region ?_
  refine list_cons rfl (op_q (q_move rfl (by decide)) ?_)
  refine list_cons rfl (op_call _ (spec_l5Gap _ (hcc (by assumption)) (CodeP.cell (by assumption))) rfl rfl (by decide) (by decide) (by decide) rfl ?_)
  rintro _ rfl
  refine list_cons rfl (op_q (q_assign rfl (by decide)) ?_)
  refine list_nil ?_
  refine hK6 _ ?_; clear hK6 K6
  refine codeT.imp (σ' := [(0, _), (2, _), (3, _), (4, _), (5, _)]) ?_ (imp_covers ⟨rfl, rfl, rfl, rfl, rfl, trivial⟩)
  refine code_seq (fun K7 hK7 => ?_)
  refine code_seq (fun K8 hK8 => ?_)
  refine code_region ?_
  refine list_cons rfl (op_q (q_assign rfl (by decide)) ?_)
  refine list_nil ?_
  refine hK8 _ ?_; clear hK8 K8
  refine code_block ?_
  refine code_loop (X := PV × Bool × Nat × List PV × Int × Int) (fun x => [(0, .par 0 (.sl l.length (l.map (.int .i64)))), (2, .val x.1), (3, .val (.bool x.2.1)), (4, .own 8 56 2 x.2.2.1 x.2.2.2.1), (5, .val (.int .i64 x.2.2.2.2.1)), (6, .val (.int .i64 x.2.2.2.2.2))]) (fun x => CodeP l ∧ 0 ≤ x.2.2.2.2.2 ∧ x.2.2.2.2.2 ≤ l.length ∧ ∃ L : List (Int × Int), x.2.2.1 = L.length ∧ x.2.2.2.1 = fl L ∧ L = prL l x.2.2.2.2.1 x.2.2.2.2.2.toNat ∧ x.2.2.2.2.1 = gpL l l.length) (fun x => (l.length - x.2.2.2.2.2).toNat) (_, _, _, _, _, _) (imp_covers ⟨rfl, rfl, rfl, rfl, rfl, rfl, trivial⟩) ?_ ?_
  · (try dsimp only)
    exact ⟨by assumption, by omega, by omega, [], rfl, rfl, rfl, rfl⟩
  · intro x hI
    obtain ⟨t2_p, t3, out_n, out_c, gap, i⟩ := x
    replace hI : CodeP l ∧ 0 ≤ i ∧ i ≤ l.length ∧ ∃ L : List (Int × Int), out_n = L.length ∧ out_c = fl L ∧ L = prL l gap i.toNat ∧ gap = gpL l l.length := hI
    show codeT _ _ _ [(0, .par 0 (.sl l.length (l.map (.int .i64)))), (2, .val t2_p), (3, .val (.bool t3)), (4, .own 8 56 2 out_n out_c), (5, .val (.int .i64 gap)), (6, .val (.int .i64 i))] _
    obtain ⟨hC, i1, i2, L, rfl, rfl, hk, rfl⟩ := hI
    have hl12 := hC.1
    refine code_seq (fun K9 hK9 => ?_)
    refine code_seq (fun K10 hK10 => ?_)
    refine code_region ?_
    refine list_cons rfl (op_q (q_move rfl (by decide)) ?_)
    refine list_cons rfl (op_q (q_move rfl (by decide)) ?_)
    refine list_cons rfl (op_q (q_len_sl Tryd.underlying24 rfl rfl (by decide)) ?_)
    refine list_cons rfl (op_q (q_lt rfl rfl (by decide)) ?_)
    refine list_nil ?_
    refine hK10 _ ?_; clear hK10 K10
    refine code_cond_d rfl (fun h2 => ?_) (fun h2 => ?_)
    · skip
      (try simp only [Decidable.not_not] at h2)
      refine code_skip ?_
      refine hK9 _ ?_; clear hK9 K9
      refine code_seq (fun K11 hK11 => ?_)
      refine code_block ?_
      refine code_seq (fun K12 hK12 => ?_)
      refine code_region ?_
      refine list_cons rfl (op_q (q_move rfl (by decide)) ?_)
      refine list_cons rfl (op_q (by first | exact q_addI rfl rfl (by decide) (by omega) (by omega) | exact q_ib rfl rfl rfl (by decide)) ?_)
      refine list_cons rfl (op_q (q_assign rfl (by decide)) ?_)
      refine list_nil ?_
      refine hK12 _ ?_; clear hK12 K12
      refine code_block ?_
      refine code_loop (X := PV × Bool × Nat × List PV × Int) (fun x => [(0, .par 0 (.sl l.length (l.map (.int .i64)))), (2, .val x.1), (3, .val (.bool x.2.1)), (4, .own 8 56 2 x.2.2.1 x.2.2.2.1), (5, .val (.int .i64 (gpL l l.length))), (6, .val (.int .i64 i)), (7, .val (.int .i64 x.2.2.2.2))]) (fun x => i + 1 ≤ x.2.2.2.2 ∧ x.2.2.2.2 ≤ l.length ∧ ∃ M : List (Int × Int), x.2.2.1 = M.length ∧ x.2.2.2.1 = fl M ∧ M = L ++ prR l (gpL l l.length) i.toNat (x.2.2.2.2 - (i + 1)).toNat) (fun x => (l.length - x.2.2.2.2).toNat) (_, _, _, _, _) (imp_covers ⟨rfl, rfl, rfl, rfl, rfl, rfl, rfl, trivial⟩) ?_ ?_
      · (try dsimp only)
        exact ⟨by omega, by omega, L, rfl, rfl, by rw [show (i + 1 - (i + 1)).toNat = 0 by omega]; simp [prR]⟩
      · intro x hI
        obtain ⟨t2_p, t3, out_n, out_c, k⟩ := x
        replace hI : i + 1 ≤ k ∧ k ≤ l.length ∧ ∃ M : List (Int × Int), out_n = M.length ∧ out_c = fl M ∧ M = L ++ prR l (gpL l l.length) i.toNat (k - (i + 1)).toNat := hI
        show codeT _ _ _ [(0, .par 0 (.sl l.length (l.map (.int .i64)))), (2, .val t2_p), (3, .val (.bool t3)), (4, .own 8 56 2 out_n out_c), (5, .val (.int .i64 (gpL l l.length))), (6, .val (.int .i64 i)), (7, .val (.int .i64 k))] _
        obtain ⟨j1, j2, M, rfl, rfl, hM⟩ := hI
        have hMl : M.length ≤ 12 * 12 + 12 := by
            rw [hM, hk, List.length_append]
            have h1 := prL_len l (gpL l l.length) i.toNat
            have h2 := prR_len l (gpL l l.length) i.toNat (k - (i + 1)).toNat
            have h3 : i.toNat * l.length ≤ 12 * 12 := Nat.mul_le_mul (by omega) (by omega)
            omega
        have hkk : i.toNat + 1 + (k - (i + 1)).toNat = k.toNat := by omega
        have hki : ((k.toNat : Nat) : Int) = k := by omega
        have hii : ((i.toNat : Nat) : Int) = i := by omega
        refine code_seq (fun K13 hK13 => ?_)
        refine code_seq (fun K14 hK14 => ?_)
        refine code_region ?_
        refine list_cons rfl (op_q (q_move rfl (by decide)) ?_)
        refine list_cons rfl (op_q (q_move rfl (by decide)) ?_)
        refine list_cons rfl (op_q (q_len_sl Tryd.underlying24 rfl rfl (by decide)) ?_)
        refine list_cons rfl (op_q (q_lt rfl rfl (by decide)) ?_)
        refine list_nil ?_
        refine hK14 _ ?_; clear hK14 K14
        refine code_cond_d rfl (fun h3 => ?_) (fun h3 => ?_)
        · skip
          (try simp only [Decidable.not_not] at h3)
          refine code_skip ?_
          refine hK13 _ ?_; clear hK13 K13
          refine code_seq (fun K15 hK15 => ?_)
          refine code_block ?_
          refine code_seq (fun K16 hK16 => ?_)
          refine code_draw (by kernel_rfl) (by kernel_rfl) ?_
          refine draw_q rfl (q_move rfl (by decide)) ?_
          refine draw_q rfl (q_move rfl (by decide)) ?_
          refine draw_q rfl (q_indexAddr_rd sl_24 rfl (.inl ⟨_, rfl, rfl⟩) rfl (by omega) (by omega) (by decide)) ?_
          refine draw_q rfl (q_load_rd one_3 rfl (.inl ⟨_, (by first | rfl | exact congrArg (SV.rpar _) (drop_map1 _ 0 _ (by first | omega | (simp; omega)))), rfl⟩) (by decide)) ?_
          refine draw_q rfl (q_move rfl (by decide)) ?_
          refine draw_q rfl (q_move rfl (by decide)) ?_
          refine draw_q rfl (q_indexAddr_rd sl_24 rfl (.inl ⟨_, rfl, rfl⟩) rfl (by omega) (by omega) (by decide)) ?_
          refine draw_q rfl (q_load_rd one_3 rfl (.inl ⟨_, (by first | rfl | exact congrArg (SV.rpar _) (drop_map1 _ 0 _ (by first | omega | (simp; omega)))), rfl⟩) (by decide)) ?_
          refine draw_call _ (spec_l2FarC _ _ (hC.cell i.toNat (by omega)) (hC.cell k.toNat (by omega))) rfl rfl rfl (by decide) ?_
          refine draw_q rfl (q_move rfl (by decide)) ?_
          refine draw_q rfl (q_eq rfl rfl (by decide)) ?_
          refine draw_nil ?_
          refine hK16 _ ?_; clear hK16 K16
          refine codeT.imp (σ' := [(0, _), (2, _), (3, _), (4, _), (5, _), (6, _), (7, _), (39, _)]) ?_ (imp_covers ⟨rfl, rfl, rfl, rfl, rfl, rfl, rfl, rfl, trivial⟩)
          refine code_cond_d rfl (fun h4 => ?_) (fun h4 => ?_)
          · skip
            (try simp only [Decidable.not_not] at h4)
            refine code_region ?_
            refine list_cons rfl (op_q (q_move rfl (by decide)) ?_)
            refine list_cons rfl (op_q (q_move rfl (by decide)) ?_)
            refine list_cons rfl (op_q (q_move rfl (by decide)) ?_)
            refine list_cons rfl (op_q (q_build bt_56 (parts := [(0, .tmp 41), (1, .tmp 42)]) rfl rfl (by decide)) ?_)
            refine list_cons rfl (op_buildSlice sl_45 (parts := [(0, .tmp 43)]) rfl rfl rfl (by decide) (by decide) (by decide) rfl ?_)
            refine list_cons rfl (op_append_gen sl_45 (l := 8) (.inl rfl) rfl rfl (l2 := none) (.inl ⟨rfl, (by first | rfl | exact flat_map _ (fun _ => rfl) _)⟩) (by first | rfl | (simp [PV.cells, putAt, zeros]; done)) (by omega) (by decide) (by decide) (by decide) ?_)
            refine list_cons rfl (op_q (q_assign rfl (by decide)) ?_)
            refine list_nil ?_
            refine blk_n ?_
            refine hK15 _ ?_; clear hK15 K15
            refine codeT.imp (σ' := [(0, _), (2, _), (3, _), (4, _), (5, _), (6, _), (7, _)]) ?_ (imp_covers ⟨rfl, rfl, rfl, rfl, rfl, rfl, rfl, trivial⟩)
            refine code_region ?_
            refine list_cons rfl (op_q (q_move rfl (by decide)) ?_)
            refine list_cons rfl (op_q (by first | exact q_addI rfl rfl (by decide) (by omega) (by omega) | exact q_ib rfl rfl rfl (by decide)) ?_)
            refine list_cons rfl (op_q (q_assign rfl (by decide)) ?_)
            refine list_nil ?_
            refine then_n ⟨(_, _, _, _, _), imp_covers ⟨rfl, rfl, rfl, rfl, rfl, rfl, rfl, trivial⟩, ?_, ?_⟩
            · (try dsimp only)
              first
                | (refine ⟨by omega, by omega, M ++ [(i, k)], by simp, (fl_app M i k).symm, ?_⟩
                   rw [show (k + 1 - (i + 1)).toNat = (k - (i + 1)).toNat + 1 by omega, prR_yes (by rw [hkk]; exact h4), hM, List.append_assoc, hkk, hki, hii])
                | (refine ⟨by omega, by omega, M, rfl, rfl, ?_⟩
                   rw [show (k + 1 - (i + 1)).toNat = (k - (i + 1)).toNat + 1 by omega, prR_no (by rw [hkk]; exact h4), hM])
            · (try dsimp only); omega
          (try simp only [Decidable.not_not] at h4)
          refine code_skip ?_
          refine blk_n ?_
          refine hK15 _ ?_; clear hK15 K15
          refine code_region ?_
          refine list_cons rfl (op_q (q_move rfl (by decide)) ?_)
          refine list_cons rfl (op_q (by first | exact q_addI rfl rfl (by decide) (by omega) (by omega) | exact q_ib rfl rfl rfl (by decide)) ?_)
          refine list_cons rfl (op_q (q_assign rfl (by decide)) ?_)
          refine list_nil ?_
          refine then_n ⟨(_, _, _, _, _), imp_covers ⟨rfl, rfl, rfl, rfl, rfl, rfl, rfl, trivial⟩, ?_, ?_⟩
          · (try dsimp only)
            first
              | (refine ⟨by omega, by omega, M ++ [(i, k)], by simp, (fl_app M i k).symm, ?_⟩
                 rw [show (k + 1 - (i + 1)).toNat = (k - (i + 1)).toNat + 1 by omega, prR_yes (by rw [hkk]; exact h4), hM, List.append_assoc, hkk, hki, hii])
              | (refine ⟨by omega, by omega, M, rfl, rfl, ?_⟩
                 rw [show (k + 1 - (i + 1)).toNat = (k - (i + 1)).toNat + 1 by omega, prR_no (by rw [hkk]; exact h4), hM])
          · (try dsimp only); omega
        (try simp only [Decidable.not_not] at h3)
        refine code_exit ?_
        refine then_x ?_; clear hK13 K13
        refine then_x ?_
        refine blk_hit ?_
        refine blk_n ?_
        refine hK11 _ ?_; clear hK11 K11
        refine code_region ?_
        refine list_cons rfl (op_q (q_move rfl (by decide)) ?_)
        refine list_cons rfl (op_q (by first | exact q_addI rfl rfl (by decide) (by omega) (by omega) | exact q_ib rfl rfl rfl (by decide)) ?_)
        refine list_cons rfl (op_q (q_assign rfl (by decide)) ?_)
        refine list_nil ?_
        refine then_n ⟨(_, _, _, _, _, _), imp_covers ⟨rfl, rfl, rfl, rfl, rfl, rfl, trivial⟩, ?_, ?_⟩
        · (try dsimp only)
          refine ⟨hC, by omega, by omega, M, rfl, rfl, ?_, rfl⟩
          rw [show (i + 1).toNat = i.toNat + 1 by omega, prL, hM, ← hk, show l.length - (i.toNat + 1) = (k - (i + 1)).toNat by omega]
        · (try dsimp only); omega
    (try simp only [Decidable.not_not] at h2)
    refine code_exit ?_
    refine then_x ?_; clear hK9 K9
    refine then_x ?_
    refine blk_hit ?_
    refine hK7 _ ?_; clear hK7 K7
    refine code_seq (fun K17 hK17 => ?_)
    refine code_region ?_
    refine list_cons rfl (op_q (q_move rfl (by decide)) ?_)
    refine list_cons rfl (op_q (q_assign rfl (by decide)) ?_)
    refine list_cons rfl (op_q (q_assign rfl (by decide)) ?_)
    refine list_nil ?_
    refine hK17 _ ?_; clear hK17 K17
    refine code_ret ?_
    refine ends_ret (cs := []) rfl rfl rfl rfl trivial ?_
    first
      | (have e : ¬ CodeP l := by assumption
         simp only [if_neg e, decide_eq_false e]; rfl)
      | (simp only [if_pos hC, decide_eq_true hC, hk, show i.toNat = l.length by omega])

set_option maxRecDepth 4000 in
theorem spec_CountFar (l : List Int) (d : Int) (hl : l.length ≤ 4611686018427387904) : PCalls Tryd.prog 35 [.sl l.length (l.map (.int .i64)), .int .i64 d] (· = [.val (.int .i64 (if CodeP l ∧ 1 ≤ d ∧ d ≤ 7 then ((cfL l d l.length : Nat) : Int) else 0)), .val (.bool (decide (CodeP l ∧ 1 ≤ d ∧ d ≤ 7)))]) := by
  refine pcalls_of_code (n := 42) az Tryd.func35 (by kernel_rfl) rfl rfl (Nat.le_of_ble_eq_true rfl) (by intro t u h; simp [Tryd.f35] at h) ?_
  refine code_seq (fun K1 hK1 => ?_)
  refine code_region ?_
  refine list_cons rfl (op_q (q_assign rfl (by decide)) ?_)
  refine list_cons rfl (op_q (q_assign rfl (by decide)) ?_)
  refine list_nil ?_
  refine hK1 _ ?_; clear hK1 K1
  refine code_seq (fun K2 hK2 => ?_)
  refine code_seq (fun K3 hK3 => ?_)
  refine code_region ?_
  refine list_cons rfl (op_q (q_move rfl (by decide)) ?_)
  refine list_cons rfl (op_call _ (spec_l5Code _ (by omega)) rfl rfl (by decide) (by decide) (by decide) rfl ?_)
  rintro _ rfl
  refine list_cons rfl (op_q (by first | exact q_notd rfl (by decide) | exact q_not rfl (by decide)) ?_)
  refine list_cons rfl (op_q (q_move rfl (by decide)) ?_)
  refine list_guard_d rfl rfl rfl rfl (by decide) rfl (by decide) (fun h1 => ?_) (fun h1 => ?_)
  · simp only [Bool.false_eq_true, if_true, if_false, Decidable.not_not] at h1
    refine id (op_q (q_move rfl (by decide)) ?_)
    refine list_guard_y rfl rfl rfl rfl (by decide) rfl ?_
    refine id (op_call _ (spec_l1In _ _ _) rfl rfl (by decide) (by decide) (by decide) rfl ?_)
    rintro _ rfl
    refine list_guard_y rfl rfl rfl rfl (by decide) rfl ?_
    refine id (op_q (by first | exact q_notd rfl (by decide) | exact q_not rfl (by decide)) ?_)
    refine list_cons rfl (op_q (q_pick rfl rfl (by decide)) ?_)
    refine list_nil ?_
    refine hK3 _ ?_; clear hK3 K3
    refine codeT.imp (σ' := [(0, _), (1, _), (4, _), (5, _), (16, _)]) ?_ (imp_covers ⟨rfl, rfl, rfl, rfl, rfl, trivial⟩)
    refine code_cond_d rfl (fun h2 => ?_) (fun h2 => ?_)
    · skip
      (try simp only [Decidable.not_not] at h2)
      refine code_seq (fun K4 hK4 => ?_)
      refine code_region ?_
      refine list_cons rfl (op_q (q_assign rfl (by decide)) ?_)
      refine list_cons rfl (op_q (q_assign rfl (by decide)) ?_)
      refine list_nil ?_
      refine hK4 _ ?_; clear hK4 K4
      refine code_ret ?_
      refine then_r ?_; clear hK2 K2
      refine ends_ret (cs := []) rfl rfl rfl rfl trivial ?_
      first
        | (have e : ¬ (CodeP l ∧ 1 ≤ d ∧ d ≤ 7) := fun e => absurd e.1 (by assumption)
           simp only [if_neg e, decide_eq_false e]; done)
        | (have e : ¬ (CodeP l ∧ 1 ≤ d ∧ d ≤ 7) := fun e => absurd e.2 (by assumption)
           simp only [if_neg e, decide_eq_false e]; done)
        | (simp only [if_pos hC, decide_eq_true hC, show i.toNat = l.length by omega])
    (try simp only [Decidable.not_not] at h2)
    refine code_skip ?_
    refine hK2 _ ?_; clear hK2 K2
    refine code_seq (fun K5 hK5 => ?_)
    refine code_region ?_
    refine list_cons rfl (op_q (q_assign rfl (by decide)) ?_)
    refine list_nil ?_
    refine hK5 _ ?_; clear hK5 K5
    refine code_seq (fun K6 hK6 => ?_)
    refine code_seq (fun K7 hK7 => ?_)
    refine code_region ?_
    refine list_cons rfl (op_q (q_assign rfl (by decide)) ?_)
    refine list_nil ?_
    refine hK7 _ ?_; clear hK7 K7
    refine code_block ?_
    refine code_loop (X := Int × Bool × Int × Int) (fun x => [(0, .par 0 (.sl l.length (l.map (.int .i64)))), (1, .val (.int .i64 d)), (4, .val (.int .i64 x.1)), (5, .val (.bool x.2.1)), (6, .val (.int .i64 x.2.2.1)), (7, .val (.int .i64 x.2.2.2))]) (fun x => (CodeP l ∧ 1 ≤ d ∧ d ≤ 7) ∧ 0 ≤ x.2.2.2 ∧ x.2.2.2 ≤ l.length ∧ x.2.2.1 = ((cfL l d x.2.2.2.toNat : Nat) : Int)) (fun x => (l.length - x.2.2.2).toNat) (_, _, _, _) (imp_covers ⟨rfl, rfl, rfl, rfl, rfl, rfl, trivial⟩) ?_ ?_
    · (try dsimp only)
      exact ⟨⟨by assumption, by assumption⟩, by omega, by omega, rfl⟩
    · intro x hI
      obtain ⟨t4, t5, many, i⟩ := x
      replace hI : (CodeP l ∧ 1 ≤ d ∧ d ≤ 7) ∧ 0 ≤ i ∧ i ≤ l.length ∧ many = ((cfL l d i.toNat : Nat) : Int) := hI
      show codeT _ _ _ [(0, .par 0 (.sl l.length (l.map (.int .i64)))), (1, .val (.int .i64 d)), (4, .val (.int .i64 t4)), (5, .val (.bool t5)), (6, .val (.int .i64 many)), (7, .val (.int .i64 i))] _
      obtain ⟨hC, i1, i2, rfl⟩ := hI
      have hl12 := hC.1.1
      refine code_seq (fun K8 hK8 => ?_)
      refine code_seq (fun K9 hK9 => ?_)
      refine code_region ?_
      refine list_cons rfl (op_q (q_move rfl (by decide)) ?_)
      refine list_cons rfl (op_q (q_move rfl (by decide)) ?_)
      refine list_cons rfl (op_q (q_len_sl Tryd.underlying24 rfl rfl (by decide)) ?_)
      refine list_cons rfl (op_q (q_lt rfl rfl (by decide)) ?_)
      refine list_nil ?_
      refine hK9 _ ?_; clear hK9 K9
      refine code_cond_d rfl (fun h3 => ?_) (fun h3 => ?_)
      · skip
        (try simp only [Decidable.not_not] at h3)
        refine code_skip ?_
        refine hK8 _ ?_; clear hK8 K8
        refine code_seq (fun K10 hK10 => ?_)
        refine code_block ?_
        refine code_seq (fun K11 hK11 => ?_)
        refine code_region ?_
        refine list_cons rfl (op_q (q_assign rfl (by decide)) ?_)
        refine list_nil ?_
        refine hK11 _ ?_; clear hK11 K11
        refine code_block ?_
        refine code_loop (X := Int × Bool × Int × Int) (fun x => [(0, .par 0 (.sl l.length (l.map (.int .i64)))), (1, .val (.int .i64 d)), (4, .val (.int .i64 x.1)), (5, .val (.bool x.2.1)), (6, .val (.int .i64 x.2.2.1)), (7, .val (.int .i64 i)), (8, .val (.int .i64 x.2.2.2))]) (fun x => 0 ≤ x.2.2.2 ∧ x.2.2.2 ≤ i ∧ x.2.2.1 = ((cfL l d i.toNat : Nat) : Int) + ((cfR l d i.toNat x.2.2.2.toNat : Nat) : Int)) (fun x => (i - x.2.2.2).toNat) (_, _, _, _) (imp_covers ⟨rfl, rfl, rfl, rfl, rfl, rfl, rfl, trivial⟩) ?_ ?_
        · (try dsimp only)
          exact ⟨by omega, by omega, by simp [cfR]⟩
        · intro x hI
          obtain ⟨t4, t5, many, k⟩ := x
          replace hI : 0 ≤ k ∧ k ≤ i ∧ many = ((cfL l d i.toNat : Nat) : Int) + ((cfR l d i.toNat k.toNat : Nat) : Int) := hI
          show codeT _ _ _ [(0, .par 0 (.sl l.length (l.map (.int .i64)))), (1, .val (.int .i64 d)), (4, .val (.int .i64 t4)), (5, .val (.bool t5)), (6, .val (.int .i64 many)), (7, .val (.int .i64 i)), (8, .val (.int .i64 k))] _
          obtain ⟨j1, j2, rfl⟩ := hI
          have hb1 : cfL l d i.toNat ≤ 12 * 12 := Nat.le_trans (cfL_le l d i.toNat) (Nat.mul_le_mul (by omega) (by omega))
          have hb2 := cfR_le l d i.toNat k.toNat
          refine code_seq (fun K12 hK12 => ?_)
          refine code_seq (fun K13 hK13 => ?_)
          refine code_region ?_
          refine list_cons rfl (op_q (q_move rfl (by decide)) ?_)
          refine list_cons rfl (op_q (q_move rfl (by decide)) ?_)
          refine list_cons rfl (op_q (q_lt rfl rfl (by decide)) ?_)
          refine list_nil ?_
          refine hK13 _ ?_; clear hK13 K13
          refine code_cond_d rfl (fun h4 => ?_) (fun h4 => ?_)
          · skip
            (try simp only [Decidable.not_not] at h4)
            refine code_skip ?_
            refine hK12 _ ?_; clear hK12 K12
            refine code_seq (fun K14 hK14 => ?_)
            refine code_block ?_
            refine code_seq (fun K15 hK15 => ?_)
            refine code_draw (by kernel_rfl) (by kernel_rfl) ?_
            refine draw_q rfl (q_move rfl (by decide)) ?_
            refine draw_q rfl (q_move rfl (by decide)) ?_
            refine draw_q rfl (q_indexAddr_rd sl_24 rfl (.inl ⟨_, rfl, rfl⟩) rfl (by omega) (by omega) (by decide)) ?_
            refine draw_q rfl (q_load_rd one_3 rfl (.inl ⟨_, (by first | rfl | exact congrArg (SV.rpar _) (drop_map1 _ 0 _ (by first | omega | (simp; omega)))), rfl⟩) (by decide)) ?_
            refine draw_q rfl (q_move rfl (by decide)) ?_
            refine draw_q rfl (q_move rfl (by decide)) ?_
            refine draw_q rfl (q_indexAddr_rd sl_24 rfl (.inl ⟨_, rfl, rfl⟩) rfl (by omega) (by omega) (by decide)) ?_
            refine draw_q rfl (q_load_rd one_3 rfl (.inl ⟨_, (by first | rfl | exact congrArg (SV.rpar _) (drop_map1 _ 0 _ (by first | omega | (simp; omega)))), rfl⟩) (by decide)) ?_
            refine draw_call _ (spec_l2FarC _ _ (hC.1.cell i.toNat (by omega)) (hC.1.cell k.toNat (by omega))) rfl rfl rfl (by decide) ?_
            refine draw_q rfl (q_move rfl (by decide)) ?_
            refine draw_q rfl (q_eq rfl rfl (by decide)) ?_
            refine draw_nil ?_
            refine hK15 _ ?_; clear hK15 K15
            refine codeT.imp (σ' := [(0, _), (1, _), (4, _), (5, _), (6, _), (7, _), (8, _), (38, _)]) ?_ (imp_covers ⟨rfl, rfl, rfl, rfl, rfl, rfl, rfl, rfl, trivial⟩)
            refine code_cond_d rfl (fun h5 => ?_) (fun h5 => ?_)
            · skip
              (try simp only [Decidable.not_not] at h5)
              refine code_region ?_
              refine list_cons rfl (op_q (q_move rfl (by decide)) ?_)
              refine list_cons rfl (op_q (by first | exact q_addI rfl rfl (by decide) (by omega) (by omega) | exact q_ib rfl rfl rfl (by decide)) ?_)
              refine list_cons rfl (op_q (q_assign rfl (by decide)) ?_)
              refine list_nil ?_
              refine blk_n ?_
              refine hK14 _ ?_; clear hK14 K14
              refine code_region ?_
              refine list_cons rfl (op_q (q_move rfl (by decide)) ?_)
              refine list_cons rfl (op_q (by first | exact q_addI rfl rfl (by decide) (by omega) (by omega) | exact q_ib rfl rfl rfl (by decide)) ?_)
              refine list_cons rfl (op_q (q_assign rfl (by decide)) ?_)
              refine list_nil ?_
              refine then_n ⟨(_, _, _, _), imp_covers ⟨rfl, rfl, rfl, rfl, rfl, rfl, rfl, trivial⟩, ?_, ?_⟩
              · (try dsimp only)
                refine ⟨by omega, by omega, ?_⟩
                rw [show (k + 1).toNat = k.toNat + 1 by omega, cfR, cf1]
                first
                  | (rw [if_pos (show farC (l.getD i.toNat 0) (l.getD k.toNat 0) = d by exact h5)]; omega)
                  | (rw [if_neg (show ¬ farC (l.getD i.toNat 0) (l.getD k.toNat 0) = d by exact h5)]; omega)
              · (try dsimp only); omega
            (try simp only [Decidable.not_not] at h5)
            refine code_skip ?_
            refine blk_n ?_
            refine hK14 _ ?_; clear hK14 K14
            refine code_region ?_
            refine list_cons rfl (op_q (q_move rfl (by decide)) ?_)
            refine list_cons rfl (op_q (by first | exact q_addI rfl rfl (by decide) (by omega) (by omega) | exact q_ib rfl rfl rfl (by decide)) ?_)
            refine list_cons rfl (op_q (q_assign rfl (by decide)) ?_)
            refine list_nil ?_
            refine then_n ⟨(_, _, _, _), imp_covers ⟨rfl, rfl, rfl, rfl, rfl, rfl, rfl, trivial⟩, ?_, ?_⟩
            · (try dsimp only)
              refine ⟨by omega, by omega, ?_⟩
              rw [show (k + 1).toNat = k.toNat + 1 by omega, cfR, cf1]
              first
                | (rw [if_pos (show farC (l.getD i.toNat 0) (l.getD k.toNat 0) = d by exact h5)]; omega)
                | (rw [if_neg (show ¬ farC (l.getD i.toNat 0) (l.getD k.toNat 0) = d by exact h5)]; omega)
            · (try dsimp only); omega
          (try simp only [Decidable.not_not] at h4)
          refine code_exit ?_
          refine then_x ?_; clear hK12 K12
          refine then_x ?_
          refine blk_hit ?_
          refine blk_n ?_
          refine hK10 _ ?_; clear hK10 K10
          refine code_region ?_
          refine list_cons rfl (op_q (q_move rfl (by decide)) ?_)
          refine list_cons rfl (op_q (by first | exact q_addI rfl rfl (by decide) (by omega) (by omega) | exact q_ib rfl rfl rfl (by decide)) ?_)
          refine list_cons rfl (op_q (q_assign rfl (by decide)) ?_)
          refine list_nil ?_
          refine then_n ⟨(_, _, _, _), imp_covers ⟨rfl, rfl, rfl, rfl, rfl, rfl, trivial⟩, ?_, ?_⟩
          · (try dsimp only)
            exact ⟨hC, by omega, by omega, by rw [show (i + 1).toNat = i.toNat + 1 by omega, cfL, show k.toNat = i.toNat by omega]; rfl⟩
          · (try dsimp only); omega
      (try simp only [Decidable.not_not] at h3)
      refine code_exit ?_
      refine then_x ?_; clear hK8 K8
      refine then_x ?_
      refine blk_hit ?_
      refine hK6 _ ?_; clear hK6 K6
      refine code_seq (fun K16 hK16 => ?_)
      refine code_region ?_
      refine list_cons rfl (op_q (q_move rfl (by decide)) ?_)
      refine list_cons rfl (op_q (q_assign rfl (by decide)) ?_)
      refine list_cons rfl (op_q (q_assign rfl (by decide)) ?_)
      refine list_nil ?_
      refine hK16 _ ?_; clear hK16 K16
      refine code_ret ?_
      refine ends_ret (cs := []) rfl rfl rfl rfl trivial ?_
      first
        | (have e : ¬ (CodeP l ∧ 1 ≤ d ∧ d ≤ 7) := fun e => absurd e.1 (by assumption)
           simp only [if_neg e, decide_eq_false e]; done)
        | (have e : ¬ (CodeP l ∧ 1 ≤ d ∧ d ≤ 7) := fun e => absurd e.2 (by assumption)
           simp only [if_neg e, decide_eq_false e]; done)
        | (simp only [if_pos hC, decide_eq_true hC, show i.toNat = l.length by omega])
  simp only [Bool.false_eq_true, if_true, if_false, Decidable.not_not] at h1
  refine list_guard_n rfl rfl rfl rfl (by decide) rfl ?_
  refine list_guard_n rfl rfl rfl rfl (by decide) rfl ?_
  refine list_cons rfl (op_q (q_pick rfl rfl (by decide)) ?_)
  refine list_nil ?_
  refine hK3 _ ?_; clear hK3 K3
  refine code_cond_t rfl ?_
  refine code_seq (fun K17 hK17 => ?_)
  refine code_region ?_
  refine list_cons rfl (op_q (q_assign rfl (by decide)) ?_)
  refine list_cons rfl (op_q (q_assign rfl (by decide)) ?_)
  refine list_nil ?_
  refine hK17 _ ?_; clear hK17 K17
  refine code_ret ?_
  refine then_r ?_; clear hK2 K2
  refine ends_ret (cs := []) rfl rfl rfl rfl trivial ?_
  first
    | (have e : ¬ (CodeP l ∧ 1 ≤ d ∧ d ≤ 7) := fun e => absurd e.1 (by assumption)
       simp only [if_neg e, decide_eq_false e]; done)
    | (have e : ¬ (CodeP l ∧ 1 ≤ d ∧ d ≤ 7) := fun e => absurd e.2 (by assumption)
       simp only [if_neg e, decide_eq_false e]; done)
    | (simp only [if_pos hC, decide_eq_true hC, show i.toNat = l.length by omega])

end Go.Proofs.YtjbbijlbenkgcaaDoor
