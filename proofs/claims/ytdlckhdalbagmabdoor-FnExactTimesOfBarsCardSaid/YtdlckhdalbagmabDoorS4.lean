/- Contracts of functions, walked over the pure layer; each says for which arguments. -/
import Derived.Test.YtdlckhdalbagmabDoorS4Ty
import Derived.Test.YtdlckhdalbagmabDoorTf
import Derived.Test.YtdlckhdalbagmabDoorSp
namespace Go.Proofs.YtdlckhdalbagmabDoor
open Go.RowKit S4Ty
set_option linter.unusedVariables false
set_option linter.unusedSimpArgs false

def top4 (k : Int) : Int := ((10 ^ k.toNat : Nat) : Int)
theorem top4_le {k : Int} (h0 : 0 ≤ k) (h : k ≤ 6) : 1 ≤ top4 k ∧ top4 k ≤ 1000000 := by
  unfold top4
  have := pow10_le (i := k.toNat) (by omega)
  have h1 : 0 < 10 ^ k.toNat := Nat.pow_pos (by omega)
  omega
/-- A counter of k cells shows n. -/
def Cn (n k : Int) : Prop := (1 ≤ k ∧ k ≤ 6) ∧ 0 ≤ n ∧ n ≤ top4 k - 1
instance (n k : Int) : Decidable (Cn n k) := by unfold Cn; infer_instance
theorem Cn_bd {n k : Int} (h : Cn n k) : 1 ≤ k ∧ k ≤ 6 ∧ 0 ≤ n ∧ n ≤ 999999 := by
  have ht := top4_le (k := k) (by have := h.1; omega) h.1.2
  have := h.1; have := h.2; omega
/-- The row of a counter of so many cells. -/
def rowK : Nat → Nat → List Int
  | 0, _ => []
  | k + 1, n => rowK k (n / 10) ++ [digT.getD (n % 10) 0]
theorem rowK_len : ∀ k n, (rowK k n).length = k
  | 0, _ => rfl
  | k + 1, n => by simp [rowK, rowK_len k]
theorem rowK_cells : ∀ k n, ∀ x ∈ rowK k n, 0 ≤ x ∧ x ≤ 127
  | 0, _, x, h => by cases h
  | k + 1, n, x, h => by
    simp only [rowK, List.mem_append, List.mem_singleton] at h
    rcases h with h | rfl
    · exact rowK_cells k _ x h
    · exact digT_cell _
theorem rowK_zero : ∀ k, rowK k 0 = List.replicate k (digT.getD 0 0)
  | 0 => rfl
  | k + 1 => by rw [rowK, show 0 / 10 = 0 from rfl, rowK_zero k, List.replicate_succ']
theorem rowK_pad : ∀ k n, 1 ≤ k → n < 10 ^ k → rowK k n = List.replicate (k - (rowN n).length) (digT.getD 0 0) ++ rowN n
  | 0, _, h, _ => by omega
  | k + 1, n, _, h => by
    rw [rowK]
    by_cases hn : n < 10
    · rw [rowN_lt hn, show n / 10 = 0 by omega, rowK_zero, Nat.mod_eq_of_lt hn]; simp
    · have h1 : 1 ≤ k := by
        rcases Nat.eq_zero_or_pos k with e | e
        · subst e; simp at h; omega
        · exact e
      rw [rowN_ge hn, rowK_pad k (n / 10) h1 (by rw [Nat.pow_succ] at h; omega)]
      simp
theorem rowK_at {k n i : Nat} (h : i < k) : 0 ≤ (rowK k n).getD i 0 ∧ (rowK k n).getD i 0 ≤ 127 := by
  have hl := rowK_len k n
  have : (rowK k n).getD i 0 = (rowK k n)[i] := by simp [hl, h]
  rw [this]; exact rowK_cells k n _ (List.getElem_mem _)
/-- The changes between the first i cells of two rows. -/
def chgK (a b : List Int) : Nat → Int
  | 0 => 0
  | i + 1 => chgK a b i + ((cnt7 ((a.getD i 0).toNat ^^^ (b.getD i 0).toNat) : Nat) : Int)
theorem chgK_le (a b : List Int) : ∀ i : Nat, 0 ≤ chgK a b i ∧ chgK a b i ≤ 7 * i
  | 0 => by simp [chgK]
  | i + 1 => by
    have := chgK_le a b i
    have h := cnt7_le ((a.getD i 0).toNat ^^^ (b.getD i 0).toNat)
    unfold chgK; omega
/-- The number behind a step. -/
def nextC (n k : Int) : Int := (n + 1) % top4 k
theorem nextC_ok {n k : Int} (h : Cn n k) : Cn (nextC n k) k := by
  have ht := top4_le (k := k) (by have := h.1; omega) h.1.2
  refine ⟨h.1, ?_⟩
  unfold nextC
  have := Int.emod_nonneg (n + 1) (b := top4 k) (by omega)
  have := Int.emod_lt_of_pos (n + 1) (b := top4 k) (by omega)
  omega
theorem nextC_in {n k : Int} (h : Cn n k) (h1 : n + 1 < top4 k) : nextC n k = n + 1 := by
  unfold nextC; exact Int.emod_eq_of_lt (by have := h.2; omega) h1
theorem nextC_top {n k : Int} (h : Cn n k) (h1 : ¬ n + 1 < top4 k) : nextC n k = 0 := by
  have : n + 1 = top4 k := by have := h.2; omega
  unfold nextC; rw [this]; exact Int.emod_self
def rowC (n k : Int) : List Int := rowK k.toNat n.toNat
theorem rowC_len (n : Int) {k : Int} (h : 0 ≤ k) : ((rowC n k).length : Int) = k := by unfold rowC; rw [rowK_len]; omega
def stepC (n k : Int) : Int := chgK (rowC n k) (rowC (nextC n k) k) k.toNat
theorem stepC_le {n k : Int} (h : k ≤ 6) : 0 ≤ stepC n k ∧ stepC n k ≤ 42 := by
  have := chgK_le (rowC n k) (rowC (nextC n k) k) k.toNat
  unfold stepC; omega
/-- The number at which a counter stands behind i steps. -/
def atC (n k : Int) (i : Nat) : Int := (n + i) % top4 k
theorem atC_ok {n k : Int} (h : Cn n k) (i : Nat) : Cn (atC n k i) k := by
  have ht := top4_le (k := k) (by have := h.1; omega) h.1.2
  refine ⟨h.1, ?_⟩
  unfold atC
  have := Int.emod_nonneg (n + i) (b := top4 k) (by omega)
  have := Int.emod_lt_of_pos (n + i) (b := top4 k) (by omega)
  omega
theorem atC_0 {n k : Int} (h : Cn n k) : atC n k 0 = n := by
  unfold atC; rw [show n + ((0 : Nat) : Int) = n by omega]; exact Int.emod_eq_of_lt h.2.1 (by have := h.2; omega)
theorem atC_succ (n k : Int) (i : Nat) : atC n k (i + 1) = nextC (atC n k i) k := by
  unfold atC nextC
  rw [Int.emod_add_emod, show n + ((i + 1 : Nat) : Int) = n + (i : Int) + 1 by omega]
/-- The changes of so many steps. -/
def runC (n k : Int) : Nat → Int
  | 0 => 0
  | i + 1 => runC n k i + stepC (atC n k i) k
/-- How many bars light in i rows from n on. -/
def lightC (n k : Int) : Nat → Int
  | 0 => 0
  | i + 1 => lightC n k i + litF (rowC (atC n k i) k)
theorem litF_le : ∀ l : List Int, 0 ≤ litF l ∧ litF l ≤ 7 * l.length := by
  have key : ∀ (l : List Int) (b : Int), b ≤ l.foldl (fun n x => n + ((cnt7 x.toNat : Nat) : Int)) b ∧ l.foldl (fun n x => n + ((cnt7 x.toNat : Nat) : Int)) b ≤ b + 7 * l.length := by
    intro l
    induction l with
    | nil => intro b; simp
    | cons x l ih =>
      intro b
      have h1 := ih (b + ((cnt7 x.toNat : Nat) : Int))
      have h2 := cnt7_le x.toNat
      simp only [List.foldl_cons, List.length_cons]
      omega
  intro l
  have := key l 0
  unfold litF
  omega
theorem litF_take (l : List Int) {i : Nat} (h : i < l.length) : litF (l.take (i + 1)) = litF (l.take i) + ((cnt7 (l.getD i 0).toNat : Nat) : Int) := by
  unfold litF; rw [foldl_take _ 0 l 0 h]
theorem lightC_le {n k : Int} (h0 : 0 ≤ k) (h : k ≤ 6) : ∀ i : Nat, 0 ≤ lightC n k i ∧ lightC n k i ≤ 42 * i
  | 0 => by simp [lightC]
  | i + 1 => by
    have := lightC_le (n := n) h0 h i
    have h2 := litF_le (rowC (atC n k i) k)
    have h3 := rowC_len (atC n k i) h0
    unfold lightC; omega
theorem rowC_row {n k : Int} (h : k ≤ 6) : RowP (rowC n k) := ⟨by unfold rowC; rw [rowK_len]; omega, rowK_cells _ _⟩
/-- The first number of steps whose changes are enough. -/
def overC (n k ch : Int) : Option Nat := (List.range 1001).find? fun i => decide (ch ≤ runC n k i)
theorem overC_some {n k ch : Int} {i : Nat} (h : i ≤ 1000) (h1 : ch ≤ runC n k i) (h2 : ∀ j, j < i → ¬ ch ≤ runC n k j) : overC n k ch = some i := by
  unfold overC
  rw [List.find?_eq_some_iff_getElem]
  refine ⟨by simpa using h1, i, by simp; omega, by simp, fun j hj => by simp; have := h2 j hj; omega⟩
theorem overC_none {n k ch : Int} (h2 : ∀ j, j ≤ 1000 → ¬ ch ≤ runC n k j) : overC n k ch = none := by
  unfold overC
  rw [List.find?_eq_none]
  intro i hi
  have := h2 i (by have := List.mem_range.1 hi; omega)
  simpa using this
def overV (o : Option Nat) : Int := match o with | some i => i | none => 0
theorem runC_le {n k : Int} (h : k ≤ 6) : ∀ i : Nat, 0 ≤ runC n k i ∧ runC n k i ≤ 42 * i
  | 0 => by simp [runC]
  | i + 1 => by
    have := runC_le (n := n) h i
    have h2 := stepC_le (n := atC n k i) h
    unfold runC; omega

set_option maxRecDepth 4000 in
theorem spec_l4Changes (a b : List Int) (hl : a.length ≤ b.length) (hl6 : a.length ≤ 6) (ha : ∀ i, i < a.length → 0 ≤ a.getD i 0 ∧ a.getD i 0 ≤ 127) (hb : ∀ i, i < a.length → 0 ≤ b.getD i 0 ∧ b.getD i 0 ≤ 127) : PCalls Tryd.prog 48 [.sl a.length (a.map (.int .i64)), .sl b.length (b.map (.int .i64))] (· = [.val (.int .i64 (chgK a b a.length))]) := by
  refine pcalls_of_code (n := 25) az Tryd.func48 (by kernel_rfl) rfl rfl (Nat.le_of_ble_eq_true rfl) (by intro t u h; simp [Tryd.f48] at h) ?_
  refine code_seq (fun K1 hK1 => ?_)
  refine code_region ?_
  refine list_cons rfl (op_q (q_assign rfl (by decide)) ?_)
  refine list_nil ?_
  refine hK1 _ ?_; clear hK1 K1
  refine code_seq (fun K2 hK2 => ?_)
  refine code_region ?_
  refine list_cons rfl (op_q (q_assign rfl (by decide)) ?_)
  refine list_nil ?_
  refine hK2 _ ?_; clear hK2 K2
  refine code_seq (fun K3 hK3 => ?_)
  refine code_seq (fun K4 hK4 => ?_)
  refine code_region ?_
  refine list_cons rfl (op_q (q_assign rfl (by decide)) ?_)
  refine list_nil ?_
  refine hK4 _ ?_; clear hK4 K4
  refine code_block ?_
  refine code_loop (X := Int × Int × Int) (fun x => [(0, .par 0 (.sl a.length (a.map (.int .i64)))), (1, .par 1 (.sl b.length (b.map (.int .i64)))), (4, .val (.int .i64 x.1)), (5, .val (.int .i64 x.2.1)), (6, .val (.int .i64 x.2.2))]) (fun x => 0 ≤ x.2.2 ∧ x.2.2 ≤ a.length ∧ x.2.1 = chgK a b x.2.2.toNat) (fun x => (a.length - x.2.2).toNat) (_, _, _) (imp_covers ⟨rfl, rfl, rfl, rfl, rfl, trivial⟩) ?_ ?_
  · (try dsimp only)
    exact ⟨by omega, by omega, rfl⟩
  · intro x hI
    obtain ⟨t4, sum, i⟩ := x
    replace hI : 0 ≤ i ∧ i ≤ a.length ∧ sum = chgK a b i.toNat := hI
    show codeT _ _ _ [(0, .par 0 (.sl a.length (a.map (.int .i64)))), (1, .par 1 (.sl b.length (b.map (.int .i64)))), (4, .val (.int .i64 t4)), (5, .val (.int .i64 sum)), (6, .val (.int .i64 i))] _
    obtain ⟨i1, i2, rfl⟩ := hI
    have hc := chgK_le a b i.toNat
    have hd := cnt7_le ((a.getD i.toNat 0).toNat ^^^ (b.getD i.toNat 0).toNat)
    refine code_seq (fun K5 hK5 => ?_)
    refine code_seq (fun K6 hK6 => ?_)
    refine code_region ?_
    refine list_cons rfl (op_q (q_move rfl (by decide)) ?_)
    refine list_cons rfl (op_q (q_move rfl (by decide)) ?_)
    refine list_cons rfl (op_q (q_len_sl Tryd.underlying25 rfl rfl (by decide)) ?_)
    refine list_cons rfl (op_q (q_lt rfl rfl (by decide)) ?_)
    refine list_nil ?_
    refine hK6 _ ?_; clear hK6 K6
    refine code_cond_d rfl (fun h1 => ?_) (fun h1 => ?_)
    · skip
      (try simp only [Decidable.not_not] at h1)
      refine code_skip ?_
      refine hK5 _ ?_; clear hK5 K5
      refine code_seq (fun K7 hK7 => ?_)
      refine code_block ?_
      refine code_draw (by kernel_rfl) (by kernel_rfl) ?_
      refine draw_q rfl (q_move rfl (by decide)) ?_
      refine draw_q rfl (q_move rfl (by decide)) ?_
      refine draw_q rfl (q_move rfl (by decide)) ?_
      refine draw_q rfl (q_indexAddr_rd sl_25 rfl (.inl ⟨_, rfl, rfl⟩) rfl (by omega) (by omega) (by decide)) ?_
      refine draw_q rfl (q_load_rd one_3 rfl (.inl ⟨_, (by first | rfl | exact congrArg (SV.rpar _) (drop_map1 _ 0 _ (by first | omega | (simp; omega)))), rfl⟩) (by decide)) ?_
      refine draw_q rfl (q_move rfl (by decide)) ?_
      refine draw_q rfl (q_move rfl (by decide)) ?_
      refine draw_q rfl (q_indexAddr_rd sl_25 rfl (.inl ⟨_, rfl, rfl⟩) rfl (by omega) (by omega) (by decide)) ?_
      refine draw_q rfl (q_load_rd one_3 rfl (.inl ⟨_, (by first | rfl | exact congrArg (SV.rpar _) (drop_map1 _ 0 _ (by first | omega | (simp; omega)))), rfl⟩) (by decide)) ?_
      refine draw_call _ (spec_l2Far _ _ (ha i.toNat (by omega)) (hb i.toNat (by omega))) rfl rfl rfl (by decide) ?_
      refine draw_q rfl (by first | exact q_addI rfl rfl (by decide) (by omega) (by omega) | exact q_ib rfl rfl rfl (by decide)) ?_
      refine draw_q rfl (q_assign rfl (by decide)) ?_
      refine draw_nil ?_
      refine blk_n ?_
      refine hK7 _ ?_; clear hK7 K7
      refine codeT.imp (σ' := [(0, _), (1, _), (4, _), (5, _), (6, _)]) ?_ (imp_covers ⟨rfl, rfl, rfl, rfl, rfl, trivial⟩)
      refine code_region ?_
      refine list_cons rfl (op_q (q_move rfl (by decide)) ?_)
      refine list_cons rfl (op_q (by first | exact q_addI rfl rfl (by decide) (by omega) (by omega) | exact q_ib rfl rfl rfl (by decide)) ?_)
      refine list_cons rfl (op_q (q_assign rfl (by decide)) ?_)
      refine list_nil ?_
      refine then_n ⟨(_, _, _), imp_covers ⟨rfl, rfl, rfl, rfl, rfl, trivial⟩, ?_, ?_⟩
      · (try dsimp only)
        refine ⟨by omega, by omega, ?_⟩
        rw [show (i + 1).toNat = i.toNat + 1 by omega, chgK]
      · (try dsimp only); omega
    (try simp only [Decidable.not_not] at h1)
    refine code_exit ?_
    refine then_x ?_; clear hK5 K5
    refine then_x ?_
    refine blk_hit ?_
    refine hK3 _ ?_; clear hK3 K3
    refine code_seq (fun K8 hK8 => ?_)
    refine code_region ?_
    refine list_cons rfl (op_q (q_move rfl (by decide)) ?_)
    refine list_cons rfl (op_q (q_assign rfl (by decide)) ?_)
    refine list_nil ?_
    refine hK8 _ ?_; clear hK8 K8
    refine code_ret ?_
    refine ends_ret (cs := []) rfl rfl rfl rfl trivial ?_
    rw [show i.toNat = a.length by omega]

theorem spec_l4ChangesC (n m k : Int) (h0 : 0 ≤ k) (h : k ≤ 6) : PCalls Tryd.prog 48 [.sl (rowC n k).length ((rowC n k).map (.int .i64)), .sl (rowC m k).length ((rowC m k).map (.int .i64))] (· = [.val (.int .i64 (chgK (rowC n k) (rowC m k) k.toNat))]) := by
  have h1 := rowK_len k.toNat n.toNat
  have h2 := rowK_len k.toNat m.toNat
  have := spec_l4Changes (rowC n k) (rowC m k) (by unfold rowC; omega) (by unfold rowC; omega) (fun i hi => rowK_at (by unfold rowC at hi; omega)) (fun i hi => rowK_at (by unfold rowC at hi; omega))
  have e : (rowC n k).length = k.toNat := h1
  rw [e] at this ⊢
  exact this

end Go.Proofs.YtdlckhdalbagmabDoor
