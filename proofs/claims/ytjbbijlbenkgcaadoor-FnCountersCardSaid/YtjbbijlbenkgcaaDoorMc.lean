/- Contracts of functions, walked over the pure layer; each says for which arguments. -/
import Derived.Test.YtjbbijlbenkgcaaDoorMcTy
import Derived.Test.YtjbbijlbenkgcaaDoorTf
import Derived.Test.YtjbbijlbenkgcaaDoorSp
import Derived.Test.YtjbbijlbenkgcaaDoorShelf
import Derived.Test.YtjbbijlbenkgcaaDoorS4
import Derived.Test.YtjbbijlbenkgcaaDoorIm
import Derived.Test.YtjbbijlbenkgcaaDoorI4
import Derived.Test.YtjbbijlbenkgcaaDoorI4r
namespace Go.Proofs.YtjbbijlbenkgcaaDoor
open Go.RowKit McTy
set_option linter.unusedVariables false
set_option linter.unusedSimpArgs false

/-- The contracts of what MostChanges calls, as the interpreter takes them. -/
def ext4 : CallF := fun f ps =>
  match ps with
  | [.int .i64 k] => bif Nat.beq f 108 && decide (0 ≤ k ∧ k ≤ 6) then some [.val (.int .i64 (top4 k))] else bif Nat.beq f 115 && decide (1 ≤ k ∧ k ≤ 6) then some [.val (.int .i64 (top4 k - 1)), .val (.bool true)] else none
  | [.int .i64 n, .int .i64 k] => bif decide (Cn n k) then (bif Nat.beq f 113 then some [.val (.int .i64 (stepC n k))] else bif Nat.beq f 53 then some [.val (.int .i64 (stepC n k)), .val (.bool true)] else none) else none
  | _ => none
theorem ext4_ok : ext4.ok Tryd.prog := by
  intro f ps rs h
  unfold ext4 at h
  split at h
  · rename_i k
    cases h1 : (Nat.beq f 108 && decide (0 ≤ k ∧ k ≤ 6)) with
    | true =>
      rw [h1] at h
      simp only [cond_true, Option.some.injEq] at h
      simp only [Bool.and_eq_true, decide_eq_true_eq] at h1
      rw [Nat.eq_of_beq_eq_true h1.1, ← h]
      exact spec_l4Top k h1.2.1 h1.2.2
    | false =>
      rw [h1] at h
      simp only [cond_false] at h
      cases h2 : (Nat.beq f 115 && decide (1 ≤ k ∧ k ≤ 6)) with
      | true =>
        rw [h2] at h
        simp only [cond_true, Option.some.injEq] at h
        simp only [Bool.and_eq_true, decide_eq_true_eq] at h2
        rw [Nat.eq_of_beq_eq_true h2.1, ← h]
        have := impl_greatestShown k
        simp only [if_pos h2.2, decide_eq_true h2.2] at this
        exact this
      | false => rw [h2] at h; cases h
  · rename_i n k
    cases h0 : decide (Cn n k) with
    | false => rw [h0] at h; cases h
    | true =>
      rw [h0] at h
      have hc := of_decide_eq_true h0
      simp only [cond_true] at h
      cases h1 : Nat.beq f 113 with
      | true =>
        rw [h1] at h
        simp only [cond_true, Option.some.injEq] at h
        rw [Nat.eq_of_beq_eq_true h1, ← h]
        exact spec_l4Step n k hc
      | false =>
        rw [h1] at h
        simp only [cond_false] at h
        cases h2 : Nat.beq f 53 with
        | true =>
          rw [h2] at h
          simp only [cond_true, Option.some.injEq] at h
          rw [Nat.eq_of_beq_eq_true h2, ← h]
          exact impl_StepChangesY n k hc
        | false => rw [h2] at h; cases h
  · cases h
def twoB (x : Option (List SV)) (a b : Int) : Bool := match x with
  | some [.val (.int .i64 p), .val (.int .i64 q), .val (.bool true)] => intEq p a && intEq q b
  | _ => false
theorem twoB_ok {x : Option (List SV)} {a b : Int} (h : twoB x a b = true) : x = some [.val (.int .i64 a), .val (.int .i64 b), .val (.bool true)] := by
  unfold twoB at h
  split at h
  · simp only [Bool.and_eq_true, intEq_eq, beq_iff_eq] at h
    rw [h.1, h.2]
  · cases h
def mostN (k : Nat) : Int := if k = 1 then 1 else 2 * (10 ^ (k - 1) : Nat) - 1
set_option maxRecDepth 100000 in
theorem most_spec (k : Int) (h0 : 1 ≤ k) (h1 : k ≤ 6) : PCalls Tryd.prog 60 [.int .i64 k] (· = [.val (.int .i64 (mostN k.toNat)), .val (.int .i64 ((2 * k.toNat + 3 : Nat) : Int)), .val (.bool true)]) := by
  have h := below_ok (p := fun i => twoB (crun Tf.tf ext4 200 3 60 [.int .i64 (Int.ofNat (i + 1))]) (mostN (i + 1)) ((2 * (i + 1) + 3 : Nat) : Int)) (k := 6) (by kernel_rfl) (k.toNat - 1) (by omega)
  rw [show k.toNat - 1 + 1 = k.toNat by omega, show Int.ofNat k.toNat = k from Int.toNat_of_nonneg (by omega)] at h
  exact pcalls_runX Tf.tf ext4_ok (twoB_ok h)
set_option maxRecDepth 100000 in
theorem most_impl (k : Int) (h0 : 1 ≤ k) (h1 : k ≤ 6) : PCalls Tryd.prog 59 [.int .i64 k] (· = [.val (.int .i64 (mostN k.toNat)), .val (.int .i64 ((2 * k.toNat + 3 : Nat) : Int)), .val (.bool true)]) := by
  have h := below_ok (p := fun i => twoB (crun Tf.tf ext4 200 3 59 [.int .i64 (Int.ofNat (i + 1))]) (mostN (i + 1)) ((2 * (i + 1) + 3 : Nat) : Int)) (k := 6) (by kernel_rfl) (k.toNat - 1) (by omega)
  rw [show k.toNat - 1 + 1 = k.toNat by omega, show Int.ofNat k.toNat = k from Int.toNat_of_nonneg (by omega)] at h
  exact pcalls_runX Tf.tf ext4_ok (twoB_ok h)

set_option maxRecDepth 4000 in
theorem spec_MostChangesN (k : Int) (h : ¬ (1 ≤ k ∧ k ≤ 6)) : PCalls Tryd.prog 60 [.int .i64 k] (· = [.val (.int .i64 0), .val (.int .i64 0), .val (.bool false)]) := by
  refine pcalls_of_code (n := 57) az Tryd.func60 (by kernel_rfl) rfl rfl (Nat.le_of_ble_eq_true rfl) (by intro t u h; simp [Tryd.f60] at h) ?_
  refine code_seq (fun K1 hK1 => ?_)
  refine code_region ?_
  refine list_cons rfl (op_q (q_assign rfl (by decide)) ?_)
  refine list_cons rfl (op_q (q_assign rfl (by decide)) ?_)
  refine list_cons rfl (op_q (q_assign rfl (by decide)) ?_)
  refine list_nil ?_
  refine hK1 _ ?_; clear hK1 K1
  refine code_seq (fun K2 hK2 => ?_)
  refine code_seq (fun K3 hK3 => ?_)
  refine code_region ?_
  refine list_cons rfl (op_q (q_move rfl (by decide)) ?_)
  refine list_cons rfl (op_call _ (spec_l1In k 1 6) rfl rfl (by decide) (by decide) (by decide) rfl ?_)
  rintro _ rfl; rw [decide_eq_false h]
  refine list_cons rfl (op_q (by first | exact q_notd rfl (by decide) | exact q_not rfl (by decide)) ?_)
  refine list_nil ?_
  refine hK3 _ ?_; clear hK3 K3
  refine codeT.imp (σ' := [(0, _), (2, _), (3, _), (4, _), (13, _)]) ?_ (imp_covers ⟨rfl, rfl, rfl, rfl, rfl, trivial⟩)
  refine code_cond_t rfl ?_
  refine code_seq (fun K4 hK4 => ?_)
  refine code_region ?_
  refine list_cons rfl (op_q (q_assign rfl (by decide)) ?_)
  refine list_cons rfl (op_q (q_assign rfl (by decide)) ?_)
  refine list_cons rfl (op_q (q_assign rfl (by decide)) ?_)
  refine list_nil ?_
  refine hK4 _ ?_; clear hK4 K4
  refine code_ret ?_
  refine then_r ?_; clear hK2 K2
  refine ends_ret (cs := []) rfl rfl rfl rfl trivial ?_
  rfl

theorem spec_MostChanges (k : Int) : PCalls Tryd.prog 60 [.int .i64 k] (· = [.val (.int .i64 (if 1 ≤ k ∧ k ≤ 6 then mostN k.toNat else 0)), .val (.int .i64 (if 1 ≤ k ∧ k ≤ 6 then ((2 * k.toNat + 3 : Nat) : Int) else 0)), .val (.bool (decide (1 ≤ k ∧ k ≤ 6)))]) := by
  by_cases h : 1 ≤ k ∧ k ≤ 6
  · simp only [if_pos h, decide_eq_true h]; exact most_spec k h.1 h.2
  · simp only [if_neg h, decide_eq_false h]; exact spec_MostChangesN k h

set_option maxRecDepth 4000 in
theorem impl_MostChangesN (k : Int) (h : ¬ (1 ≤ k ∧ k ≤ 6)) : PCalls Tryd.prog 59 [.int .i64 k] (· = [.val (.int .i64 0), .val (.int .i64 0), .val (.bool false)]) := by
  refine pcalls_of_code (n := 49) az Tryd.func59 (by kernel_rfl) rfl rfl (Nat.le_of_ble_eq_true rfl) (by intro t u h; simp [Tryd.f59] at h) ?_
  refine code_seq (fun K1 hK1 => ?_)
  refine code_region ?_
  refine list_cons rfl (op_q (q_assign rfl (by decide)) ?_)
  refine list_cons rfl (op_q (q_assign rfl (by decide)) ?_)
  refine list_cons rfl (op_q (q_assign rfl (by decide)) ?_)
  refine list_nil ?_
  refine hK1 _ ?_; clear hK1 K1
  refine code_seq (fun K2 hK2 => ?_)
  refine code_region ?_
  refine list_cons rfl (op_q (q_move rfl (by decide)) ?_)
  refine list_cons rfl (op_call _ (impl_greatestShown k) rfl rfl (by decide) (by decide) (by decide) rfl ?_)
  rintro _ rfl; simp only [if_neg h, decide_eq_false h]
  refine list_cons rfl (op_q (q_move rfl (by decide)) ?_)
  refine list_cons rfl (op_q (q_extract rfl rfl (by decide)) ?_)
  refine list_cons rfl (op_q (q_extract rfl rfl (by decide)) ?_)
  refine list_cons rfl (op_q (q_assign rfl (by decide)) ?_)
  refine list_cons rfl (op_q (q_assign rfl (by decide)) ?_)
  refine list_nil ?_
  refine hK2 _ ?_; clear hK2 K2
  refine codeT.imp (σ' := [(0, _), (2, _), (3, _), (4, _), (5, _), (6, _)]) ?_ (imp_covers ⟨rfl, rfl, rfl, rfl, rfl, rfl, trivial⟩)
  refine code_seq (fun K3 hK3 => ?_)
  refine code_seq (fun K4 hK4 => ?_)
  refine code_region ?_
  refine list_cons rfl (op_q (q_move rfl (by decide)) ?_)
  refine list_cons rfl (op_q (by first | exact q_notd rfl (by decide) | exact q_not rfl (by decide)) ?_)
  refine list_nil ?_
  refine hK4 _ ?_; clear hK4 K4
  refine code_cond_t rfl ?_
  refine code_seq (fun K5 hK5 => ?_)
  refine code_region ?_
  refine list_cons rfl (op_q (q_assign rfl (by decide)) ?_)
  refine list_cons rfl (op_q (q_assign rfl (by decide)) ?_)
  refine list_cons rfl (op_q (q_assign rfl (by decide)) ?_)
  refine list_nil ?_
  refine hK5 _ ?_; clear hK5 K5
  refine code_ret ?_
  refine then_r ?_; clear hK3 K3
  refine ends_ret (cs := []) rfl rfl rfl rfl trivial ?_
  rfl

theorem impl_MostChanges (k : Int) : PCalls Tryd.prog 59 [.int .i64 k] (· = [.val (.int .i64 (if 1 ≤ k ∧ k ≤ 6 then mostN k.toNat else 0)), .val (.int .i64 (if 1 ≤ k ∧ k ≤ 6 then ((2 * k.toNat + 3 : Nat) : Int) else 0)), .val (.bool (decide (1 ≤ k ∧ k ≤ 6)))]) := by
  by_cases h : 1 ≤ k ∧ k ≤ 6
  · simp only [if_pos h, decide_eq_true h]; exact most_impl k h.1 h.2
  · simp only [if_neg h, decide_eq_false h]; exact impl_MostChangesN k h

end Go.Proofs.YtjbbijlbenkgcaaDoor
