/- Contracts of functions, walked over the pure layer; each says for which arguments. -/
import Derived.Test.YtjbbijlbenkgcaaDoorS4cTy
import Derived.Test.YtjbbijlbenkgcaaDoorTf
import Derived.Test.YtjbbijlbenkgcaaDoorSp
import Derived.Test.YtjbbijlbenkgcaaDoorS4
namespace Go.Proofs.YtjbbijlbenkgcaaDoor
open Go.RowKit S4cTy
set_option linter.unusedVariables false
set_option linter.unusedSimpArgs false

def hasK (l : List Int) (n : Int) : Nat → Bool
  | 0 => false
  | k + 1 => hasK l n k || decide (l.getD k 0 = n)
def ordK (l : List Int) : Nat → Bool
  | 0 => true
  | k + 1 => ordK l k && (decide (0 ≤ l.getD k 0 ∧ l.getD k 0 ≤ 9) && !hasK l (l.getD k 0) k)
theorem ordK_mono {l : List Int} : ∀ {m k : Nat}, k ≤ m → ordK l m = true → ordK l k = true
  | 0, k, h, h1 => by rw [show k = 0 by omega]; rfl
  | m + 1, k, h, h1 => by
    by_cases e : k = m + 1
    · rw [e]; exact h1
    · simp only [ordK, Bool.and_eq_true] at h1
      exact ordK_mono (by omega) h1.1
theorem ordK_at {l : List Int} {m j : Nat} (h : ordK l m = true) (hj : j < m) : (0 ≤ l.getD j 0 ∧ l.getD j 0 ≤ 9) ∧ hasK l (l.getD j 0) j = false := by
  have := ordK_mono (k := j + 1) (by omega) h
  simp only [ordK, Bool.and_eq_true, decide_eq_true_eq, Bool.not_eq_true'] at this
  exact this.2
theorem ordK_not {l : List Int} {m j : Nat} (hj : j < m) (h : ¬ ((0 ≤ l.getD j 0 ∧ l.getD j 0 ≤ 9) ∧ hasK l (l.getD j 0) j = false)) : ordK l m = false := by
  cases hb : ordK l m with
  | false => rfl
  | true => exact absurd (ordK_at hb hj) h
theorem ordK_succ {l : List Int} {k : Nat} (h : ordK l k = true) (h1 : 0 ≤ l.getD k 0 ∧ l.getD k 0 ≤ 9) (h2 : hasK l (l.getD k 0) k = false) : ordK l (k + 1) = true := by
  simp only [ordK, h, h2, decide_eq_true h1, Bool.and_self, Bool.not_false]
theorem hasK_take (l : List Int) (n : Int) {i : Nat} (hi : i ≤ l.length) : ∀ k, k ≤ i → hasK (l.take i) n k = hasK l n k
  | 0, _ => rfl
  | k + 1, h => by
    have e : (l.take i).getD k 0 = l.getD k 0 := by
      simp only [List.getD_eq_getElem?_getD]
      rw [List.getElem?_take, if_pos (by omega)]
    rw [hasK, hasK, hasK_take l n hi k (by omega), e]
def ten (l : List Int) (m : Nat) (d : Int) : Nat := if hasK l d m then 1 else 0
theorem ten_le (l : List Int) (m : Nat) (d : Int) : ten l m d ≤ 1 := by unfold ten; split <;> omega
theorem ten_succ (l : List Int) (m : Nat) (d : Int) (h : hasK l (l.getD m 0) m = false) : ten l (m + 1) d = ten l m d + if l.getD m 0 = d then 1 else 0 := by
  unfold ten
  rw [hasK]
  by_cases e : l.getD m 0 = d
  · rw [← e, h]; simp
  · rw [decide_eq_false e, Bool.or_false, if_neg e, Nat.add_zero]
/-- An order has at most ten digits. -/
theorem ord_ten {l : List Int} : ∀ m, ordK l m = true → ten l m 0 + ten l m 1 + ten l m 2 + ten l m 3 + ten l m 4 + ten l m 5 + ten l m 6 + ten l m 7 + ten l m 8 + ten l m 9 = m
  | 0, _ => by simp [ten, hasK]
  | m + 1, h => by
    have ih := ord_ten m (ordK_mono (by omega) h)
    obtain ⟨h1, h2⟩ := ordK_at h (Nat.lt_succ_self m)
    have s := fun d => ten_succ l m d h2
    have hv : l.getD m 0 = 0 ∨ l.getD m 0 = 1 ∨ l.getD m 0 = 2 ∨ l.getD m 0 = 3 ∨ l.getD m 0 = 4 ∨ l.getD m 0 = 5 ∨ l.getD m 0 = 6 ∨ l.getD m 0 = 7 ∨ l.getD m 0 = 8 ∨ l.getD m 0 = 9 := by omega
    rw [s 0, s 1, s 2, s 3, s 4, s 5, s 6, s 7, s 8, s 9]
    rcases hv with e | e | e | e | e | e | e | e | e | e <;> rw [e] <;> simp <;> omega
theorem ord_len {l : List Int} {m : Nat} (h : ordK l m = true) : m ≤ 10 := by
  have := ord_ten m h
  have t := ten_le l m
  have := t 0; have := t 1; have := t 2; have := t 3; have := t 4; have := t 5; have := t 6; have := t 7; have := t 8; have := t 9
  omega
def cstK (l : List Int) : Nat → Int
  | 0 => 0
  | k + 1 => cstK l k + dgt (l.getD k 0).toNat (l.getD ((k + 1) % l.length) 0).toNat
theorem cstK_le (l : List Int) : ∀ k : Nat, 0 ≤ cstK l k ∧ cstK l k ≤ 7 * k
  | 0 => by simp [cstK]
  | k + 1 => by
    have := cstK_le l k
    have := dgt_le (l.getD k 0).toNat (l.getD ((k + 1) % l.length) 0).toNat
    unfold cstK; omega
def costO (l : List Int) (ring : Bool) : Int := cstK l (if ring then l.length else l.length - 1)

set_option maxRecDepth 4000 in
theorem spec_l1Has (l : List Int) (n : Int) (hl : l.length ≤ 4611686018427387904) : PCalls Tryd.prog 97 [.sl l.length (l.map (.int .i64)), .int .i64 n] (· = [.val (.bool (decide (hasK l n l.length = true)))]) := by
  refine pcalls_of_code (n := 18) az Tryd.func97 (by kernel_rfl) rfl rfl (Nat.le_of_ble_eq_true rfl) (by intro t u h; simp [Tryd.f97] at h) ?_
  refine code_seq (fun K1 hK1 => ?_)
  refine code_region ?_
  refine list_cons rfl (op_q (q_assign rfl (by decide)) ?_)
  refine list_nil ?_
  refine hK1 _ ?_; clear hK1 K1
  refine code_seq (fun K2 hK2 => ?_)
  refine code_seq (fun K3 hK3 => ?_)
  refine code_region ?_
  refine list_cons rfl (op_q (q_assign rfl (by decide)) ?_)
  refine list_nil ?_
  refine hK3 _ ?_; clear hK3 K3
  refine code_block ?_
  refine code_loop (X := Bool × Int) (fun x => [(0, .par 0 (.sl l.length (l.map (.int .i64)))), (1, .val (.int .i64 n)), (4, .val (.bool x.1)), (5, .val (.int .i64 x.2))]) (fun x => 0 ≤ x.2 ∧ x.2 ≤ l.length ∧ hasK l n x.2.toNat = false) (fun x => (l.length - x.2).toNat) (_, _) (imp_covers ⟨rfl, rfl, rfl, rfl, trivial⟩) ?_ ?_
  · (try dsimp only)
    exact ⟨by omega, by omega, rfl⟩
  · intro x hI
    obtain ⟨t4, i⟩ := x
    replace hI : 0 ≤ i ∧ i ≤ l.length ∧ hasK l n i.toNat = false := hI
    show codeT _ _ _ [(0, .par 0 (.sl l.length (l.map (.int .i64)))), (1, .val (.int .i64 n)), (4, .val (.bool t4)), (5, .val (.int .i64 i))] _
    obtain ⟨i1, i2, i3⟩ := hI
    refine code_seq (fun K4 hK4 => ?_)
    refine code_seq (fun K5 hK5 => ?_)
    refine code_region ?_
    refine list_cons rfl (op_q (q_move rfl (by decide)) ?_)
    refine list_cons rfl (op_q (q_move rfl (by decide)) ?_)
    refine list_cons rfl (op_q (q_len_sl Tryd.underlying24 rfl rfl (by decide)) ?_)
    refine list_cons rfl (op_q (q_lt rfl rfl (by decide)) ?_)
    refine list_nil ?_
    refine hK5 _ ?_; clear hK5 K5
    refine code_cond_d rfl (fun h1 => ?_) (fun h1 => ?_)
    · skip
      (try simp only [Decidable.not_not] at h1)
      refine code_skip ?_
      refine hK4 _ ?_; clear hK4 K4
      refine code_seq (fun K6 hK6 => ?_)
      refine code_block ?_
      refine code_seq (fun K7 hK7 => ?_)
      refine code_region ?_
      refine list_cons rfl (op_q (q_move rfl (by decide)) ?_)
      refine list_cons rfl (op_q (q_move rfl (by decide)) ?_)
      refine list_cons rfl (op_q (q_indexAddr_rd sl_24 rfl (.inl ⟨_, rfl, rfl⟩) rfl (by omega) (by omega) (by decide)) ?_)
      refine list_cons rfl (op_q (q_load_rd one_3 rfl (.inl ⟨_, (by first | rfl | exact congrArg (SV.rpar _) (drop_map1 _ 0 _ (by first | omega | (simp; omega)))), rfl⟩) (by decide)) ?_)
      refine list_cons rfl (op_q (q_move rfl (by decide)) ?_)
      refine list_cons rfl (op_q (q_eq rfl rfl (by decide)) ?_)
      refine list_nil ?_
      refine hK7 _ ?_; clear hK7 K7
      refine codeT.imp (σ' := [(0, _), (1, _), (4, _), (5, _), (17, _)]) ?_ (imp_covers ⟨rfl, rfl, rfl, rfl, rfl, trivial⟩)
      refine code_cond_d rfl (fun h2 => ?_) (fun h2 => ?_)
      · skip
        (try simp only [Decidable.not_not] at h2)
        refine code_seq (fun K8 hK8 => ?_)
        refine code_region ?_
        refine list_cons rfl (op_q (q_assign rfl (by decide)) ?_)
        refine list_nil ?_
        refine hK8 _ ?_; clear hK8 K8
        refine code_ret ?_
        refine blk_r ?_
        refine then_r ?_; clear hK6 K6
        refine then_r ?_
        refine blk_r ?_
        refine then_r ?_; clear hK2 K2
        refine ends_ret (cs := []) rfl rfl rfl rfl trivial ?_
        have e : hasK l n l.length = true := by
          have : ∀ m, i.toNat < m → hasK l n m = true := by
            intro m
            induction m with
            | zero => intro h; omega
            | succ m ih =>
              intro h
              rw [hasK]
              by_cases e : i.toNat = m
              · rw [← e]; simp; right; simpa using h2
              · rw [ih (by omega)]; rfl
          exact this _ (by omega)
        rw [e]; rfl
      (try simp only [Decidable.not_not] at h2)
      refine code_skip ?_
      refine blk_n ?_
      refine hK6 _ ?_; clear hK6 K6
      refine code_region ?_
      refine list_cons rfl (op_q (q_move rfl (by decide)) ?_)
      refine list_cons rfl (op_q (by first | exact q_addI rfl rfl (by decide) (by omega) (by omega) | exact q_ib rfl rfl rfl (by decide)) ?_)
      refine list_cons rfl (op_q (q_assign rfl (by decide)) ?_)
      refine list_nil ?_
      refine then_n ⟨(_, _), imp_covers ⟨rfl, rfl, rfl, rfl, trivial⟩, ?_, ?_⟩
      · (try dsimp only)
        exact ⟨by omega, by omega, by rw [show (i + 1).toNat = i.toNat + 1 by omega, hasK, i3]; simpa using h2⟩
      · (try dsimp only); omega
    (try simp only [Decidable.not_not] at h1)
    refine code_exit ?_
    refine then_x ?_; clear hK4 K4
    refine then_x ?_
    refine blk_hit ?_
    refine hK2 _ ?_; clear hK2 K2
    refine code_seq (fun K9 hK9 => ?_)
    refine code_region ?_
    refine list_cons rfl (op_q (q_assign rfl (by decide)) ?_)
    refine list_nil ?_
    refine hK9 _ ?_; clear hK9 K9
    refine code_ret ?_
    refine ends_ret (cs := []) rfl rfl rfl rfl trivial ?_
    rw [show l.length = i.toNat by omega, i3]; rfl

theorem spec_l1HasT (l : List Int) (n i : Int) (h0 : 0 ≤ i) (h1 : i ≤ l.length) (hl : l.length ≤ 4611686018427387904) : PCalls Tryd.prog 97 [.sl (i.toNat - Int.toNat 0) (List.take ((i.toNat - Int.toNat 0) * 1) (List.drop (Int.toNat 0 * 1) (l.map (PV.int .i64)))), .int .i64 n] (· = [.val (.bool (decide (hasK l n i.toNat = true)))]) := by
  have h2 := spec_l1Has (l.take i.toNat) n (by simp; omega)
  have e : (l.take i.toNat).length = i.toNat := by simp; omega
  rw [e, hasK_take l n (by omega) i.toNat (Nat.le_refl _), List.map_take] at h2
  rw [show i.toNat - Int.toNat 0 = i.toNat by omega, show Int.toNat 0 * 1 = 0 from rfl, List.drop_zero, Nat.mul_one]
  exact h2

end Go.Proofs.YtjbbijlbenkgcaaDoor
