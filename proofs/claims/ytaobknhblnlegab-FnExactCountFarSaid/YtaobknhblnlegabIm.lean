/- Contracts of functions, walked over the pure layer; each says for which arguments. -/
import Derived.Test.YtaobknhblnlegabImTy
import Derived.Test.YtaobknhblnlegabTf
import Derived.Test.YtaobknhblnlegabSp
import Derived.Test.YtaobknhblnlegabS4
import Derived.Test.YtaobknhblnlegabS4c
import Derived.Test.YtaobknhblnlegabShelf
import Derived.Test.YtaobknhblnlegabS5
namespace Go.Proofs.Ytaobknhblnlegab
open Go.RowKit ImTy
set_option linter.unusedVariables false
set_option linter.unusedSimpArgs false

set_option maxRecDepth 100000 in
theorem onesCount_c (c : Int) (h0 : 0 ≤ c) (h1 : c ≤ 127) : PCalls Try.prog 66 [.int .u64 c] (· = [.val (.int .i64 (((cnt7 c.toNat : Nat) : Int)))]) := by
  have h := below_int (p := fun i => oneInt (crun Tf.tf noExt 200 6 66 [.int .u64 (Int.ofNat i)]) (((cnt7 i : Nat) : Int))) (k := 128) (by kernel_rfl) h0 (by omega)
  have e : Int.ofNat c.toNat = c := Int.toNat_of_nonneg h0
  rw [e] at h
  exact pcalls_run Tf.tf (oneInt_ok h)

set_option maxRecDepth 4000 in
theorem impl_IsCell (c : Int) : PCalls Try.prog 39 [.int .i64 c] (· = [.val (.bool (decide (0 ≤ c ∧ c ≤ 127)))]) := by
  refine pcalls_of_code (n := 9) az Try.func39 (by kernel_rfl) rfl rfl (Nat.le_of_ble_eq_true rfl) (by intro t u h; simp [Try.f39] at h) ?_
  refine code_seq (fun K1 hK1 => ?_)
  refine code_region ?_
  refine list_cons rfl (op_q (q_assign rfl (by decide)) ?_)
  refine list_nil ?_
  refine hK1 _ ?_; clear hK1 K1
  refine code_seq (fun K2 hK2 => ?_)
  refine code_region ?_
  refine list_cons rfl (op_q (q_move rfl (by decide)) ?_)
  refine list_cons rfl (op_q (q_ge rfl rfl (by decide)) ?_)
  refine list_cons rfl (op_q (q_move rfl (by decide)) ?_)
  refine list_guard_d rfl rfl rfl rfl (by decide) rfl (by decide) (fun h1 => ?_) (fun h1 => ?_)
  · simp only [Bool.false_eq_true, if_true, if_false, Decidable.not_not] at h1
    refine id (op_q (q_move rfl (by decide)) ?_)
    refine list_guard_y rfl rfl rfl rfl (by decide) rfl ?_
    refine id (op_q (q_lt rfl rfl (by decide)) ?_)
    refine list_cons rfl (op_q (q_pick rfl rfl (by decide)) ?_)
    refine list_cons rfl (op_q (q_assign rfl (by decide)) ?_)
    refine list_nil ?_
    refine hK2 _ ?_; clear hK2 K2
    refine code_ret ?_
    refine ends_ret (cs := []) rfl rfl rfl rfl trivial ?_
    first | (congr 3; exact decide_eq_decide.mpr ⟨fun k => by omega, fun k => by omega⟩) | (rw [decide_eq_false (by omega)])
  · simp only [Bool.false_eq_true, if_true, if_false, Decidable.not_not] at h1
    refine list_guard_n rfl rfl rfl rfl (by decide) rfl ?_
    refine list_cons rfl (op_q (q_pick rfl rfl (by decide)) ?_)
    refine list_cons rfl (op_q (q_assign rfl (by decide)) ?_)
    refine list_nil ?_
    refine hK2 _ ?_; clear hK2 K2
    refine code_ret ?_
    refine ends_ret (cs := []) rfl rfl rfl rfl trivial ?_
    first | (congr 3; exact decide_eq_decide.mpr ⟨fun k => by omega, fun k => by omega⟩) | (rw [decide_eq_false (by omega)])

set_option maxRecDepth 4000 in
theorem impl_CountBars (c : Int) : PCalls Try.prog 56 [.int .i64 c] (· = [.val (.int .i64 (if 0 ≤ c ∧ c ≤ 127 then ((cnt7 c.toNat : Nat) : Int) else 0)), .val (.bool (decide (0 ≤ c ∧ c ≤ 127)))]) := by
  refine pcalls_of_code (n := 10) az Try.func56 (by kernel_rfl) rfl rfl (Nat.le_of_ble_eq_true rfl) (by intro t u h; simp [Try.f56] at h) ?_
  refine code_seq (fun K1 hK1 => ?_)
  refine code_region ?_
  refine list_cons rfl (op_q (q_assign rfl (by decide)) ?_)
  refine list_cons rfl (op_q (q_assign rfl (by decide)) ?_)
  refine list_nil ?_
  refine hK1 _ ?_; clear hK1 K1
  refine code_seq (fun K2 hK2 => ?_)
  refine code_seq (fun K3 hK3 => ?_)
  refine code_region ?_
  refine list_cons rfl (op_q (q_move rfl (by decide)) ?_)
  refine list_cons rfl (op_call _ (impl_IsCell _) rfl rfl (by decide) (by decide) (by decide) rfl ?_)
  rintro _ rfl
  refine list_cons rfl (op_q (by first | exact q_notd rfl (by decide) | exact q_not rfl (by decide)) ?_)
  refine list_nil ?_
  refine hK3 _ ?_; clear hK3 K3
  refine codeT.imp (σ' := [(0, _), (2, _), (3, _), (6, _)]) ?_ (imp_covers ⟨rfl, rfl, rfl, rfl, trivial⟩)
  refine code_cond_d rfl (fun h1 => ?_) (fun h1 => ?_)
  · skip
    (try simp only [Decidable.not_not] at h1)
    refine code_seq (fun K4 hK4 => ?_)
    refine code_region ?_
    refine list_cons rfl (op_q (q_assign rfl (by decide)) ?_)
    refine list_cons rfl (op_q (q_assign rfl (by decide)) ?_)
    refine list_nil ?_
    refine hK4 _ ?_; clear hK4 K4
    refine code_ret ?_
    refine then_r ?_; clear hK2 K2
    refine ends_ret (cs := []) rfl rfl rfl rfl trivial ?_
    simp only [if_neg h1, decide_eq_false h1]
  · skip
    (try simp only [Decidable.not_not] at h1)
    refine code_skip ?_
    refine hK2 _ ?_; clear hK2 K2
    refine code_seq (fun K5 hK5 => ?_)
    refine code_region ?_
    refine list_cons rfl (op_q (q_move rfl (by decide)) ?_)
    refine list_cons rfl (op_q (by first | exact q_convU (by rw [Try.underlying3]; rfl) Try.underlying71 rfl (by decide) (by omega) (by omega) | exact q_conv (by rw [Try.underlying3]; rfl) Try.underlying71 rfl (by decide)) ?_)
    refine list_cons rfl (op_call _ (onesCount_c _ (by omega) (by omega)) rfl rfl (by decide) (by decide) (by decide) rfl ?_)
    rintro _ rfl
    refine list_cons rfl (op_q (q_assign rfl (by decide)) ?_)
    refine list_cons rfl (op_q (q_assign rfl (by decide)) ?_)
    refine list_nil ?_
    refine hK5 _ ?_; clear hK5 K5
    refine codeT.imp (σ' := [(0, _), (2, _), (3, _)]) ?_ (imp_covers ⟨rfl, rfl, rfl, trivial⟩)
    refine code_ret ?_
    refine ends_ret (cs := []) rfl rfl rfl rfl trivial ?_
    simp only [if_pos h1, decide_eq_true h1]

set_option maxRecDepth 4000 in
theorem impl_FarCells (a b : Int) : PCalls Try.prog 33 [.int .i64 a, .int .i64 b] (· = [.val (.int .i64 (if (0 ≤ a ∧ a ≤ 127) ∧ (0 ≤ b ∧ b ≤ 127) then ((cnt7 (a.toNat ^^^ b.toNat) : Nat) : Int) else 0)), .val (.bool (decide ((0 ≤ a ∧ a ≤ 127) ∧ (0 ≤ b ∧ b ≤ 127))))]) := by
  refine pcalls_of_code (n := 20) az Try.func33 (by kernel_rfl) rfl rfl (Nat.le_of_ble_eq_true rfl) (by intro t u h; simp [Try.f33] at h) ?_
  refine code_seq (fun K1 hK1 => ?_)
  refine code_region ?_
  refine list_cons rfl (op_q (q_assign rfl (by decide)) ?_)
  refine list_cons rfl (op_q (q_assign rfl (by decide)) ?_)
  refine list_nil ?_
  refine hK1 _ ?_; clear hK1 K1
  refine code_seq (fun K2 hK2 => ?_)
  refine code_seq (fun K3 hK3 => ?_)
  refine code_region ?_
  refine list_cons rfl (op_q (q_move rfl (by decide)) ?_)
  refine list_cons rfl (op_call _ (impl_IsCell _) rfl rfl (by decide) (by decide) (by decide) rfl ?_)
  rintro _ rfl
  refine list_cons rfl (op_q (by first | exact q_notd rfl (by decide) | exact q_not rfl (by decide)) ?_)
  refine list_cons rfl (op_q (q_move rfl (by decide)) ?_)
  refine list_guard_d rfl rfl rfl rfl (by decide) rfl (by decide) (fun h1 => ?_) (fun h1 => ?_)
  · simp only [Bool.false_eq_true, if_true, if_false, Decidable.not_not] at h1
    refine id (op_q (q_move rfl (by decide)) ?_)
    refine list_guard_y rfl rfl rfl rfl (by decide) rfl ?_
    refine id (op_call _ (impl_IsCell _) rfl rfl (by decide) (by decide) (by decide) rfl ?_)
    rintro _ rfl
    refine list_guard_y rfl rfl rfl rfl (by decide) rfl ?_
    refine id (op_q (by first | exact q_notd rfl (by decide) | exact q_not rfl (by decide)) ?_)
    refine list_cons rfl (op_q (q_pick rfl rfl (by decide)) ?_)
    refine list_nil ?_
    refine hK3 _ ?_; clear hK3 K3
    refine codeT.imp (σ' := [(0, _), (1, _), (4, _), (5, _), (13, _)]) ?_ (imp_covers ⟨rfl, rfl, rfl, rfl, rfl, trivial⟩)
    refine code_cond_d rfl (fun h2 => ?_) (fun h2 => ?_)
    · skip
      (try simp only [Decidable.not_not] at h2)
      refine code_seq (fun K4 hK4 => ?_)
      refine code_region ?_
      refine list_cons rfl (op_q (q_assign rfl (by decide)) ?_)
      refine list_cons rfl (op_q (q_assign rfl (by decide)) ?_)
      refine list_nil ?_
      refine hK4 _ ?_; clear hK4 K4
      refine code_ret ?_
      refine then_r ?_; clear hK2 K2
      refine ends_ret (cs := []) rfl rfl rfl rfl trivial ?_
      first
        | (have e : ¬ ((0 ≤ a ∧ a ≤ 127) ∧ (0 ≤ b ∧ b ≤ 127)) := by omega
           simp only [if_neg e, decide_eq_false e])
        | (have e : ((0 ≤ a ∧ a ≤ 127) ∧ (0 ≤ b ∧ b ≤ 127)) := by omega
           have e2 := xor7 e.1 e.2
           have e3 : 0 ≤ ((a.toNat ^^^ b.toNat : Nat) : Int) ∧ ((a.toNat ^^^ b.toNat : Nat) : Int) ≤ 127 := ⟨by omega, e2⟩
           simp only [if_pos e, decide_eq_true e, if_pos e3, decide_eq_true e3, Int.toNat_natCast])
    · skip
      (try simp only [Decidable.not_not] at h2)
      refine code_skip ?_
      refine hK2 _ ?_; clear hK2 K2
      refine code_seq (fun K5 hK5 => ?_)
      refine code_region ?_
      refine list_cons rfl (op_q (q_move rfl (by decide)) ?_)
      refine list_cons rfl (op_q (q_move rfl (by decide)) ?_)
      refine list_cons rfl (op_q (by first | exact q_xorI rfl rfl (by decide) (by omega) (by omega) (by omega) (by omega) | exact q_ib rfl rfl rfl (by decide)) ?_)
      refine list_cons rfl (op_call _ (impl_CountBars _) rfl rfl (by decide) (by decide) (by decide) rfl ?_)
      rintro _ rfl
      refine list_cons rfl (op_q (q_extract rfl rfl (by decide)) ?_)
      refine list_cons rfl (op_q (q_extract rfl rfl (by decide)) ?_)
      refine list_cons rfl (op_q (q_assign rfl (by decide)) ?_)
      refine list_cons rfl (op_q (q_assign rfl (by decide)) ?_)
      refine list_nil ?_
      refine hK5 _ ?_; clear hK5 K5
      refine codeT.imp (σ' := [(0, _), (1, _), (4, _), (5, _)]) ?_ (imp_covers ⟨rfl, rfl, rfl, rfl, trivial⟩)
      refine code_ret ?_
      refine ends_ret (cs := []) rfl rfl rfl rfl trivial ?_
      first
        | (have e : ¬ ((0 ≤ a ∧ a ≤ 127) ∧ (0 ≤ b ∧ b ≤ 127)) := by omega
           simp only [if_neg e, decide_eq_false e])
        | (have e : ((0 ≤ a ∧ a ≤ 127) ∧ (0 ≤ b ∧ b ≤ 127)) := by omega
           have e2 := xor7 e.1 e.2
           have e3 : 0 ≤ ((a.toNat ^^^ b.toNat : Nat) : Int) ∧ ((a.toNat ^^^ b.toNat : Nat) : Int) ≤ 127 := ⟨by omega, e2⟩
           simp only [if_pos e, decide_eq_true e, if_pos e3, decide_eq_true e3, Int.toNat_natCast])
  · simp only [Bool.false_eq_true, if_true, if_false, Decidable.not_not] at h1
    refine list_guard_n rfl rfl rfl rfl (by decide) rfl ?_
    refine list_guard_n rfl rfl rfl rfl (by decide) rfl ?_
    refine list_cons rfl (op_q (q_pick rfl rfl (by decide)) ?_)
    refine list_nil ?_
    refine hK3 _ ?_; clear hK3 K3
    refine code_cond_t rfl ?_
    refine code_seq (fun K6 hK6 => ?_)
    refine code_region ?_
    refine list_cons rfl (op_q (q_assign rfl (by decide)) ?_)
    refine list_cons rfl (op_q (q_assign rfl (by decide)) ?_)
    refine list_nil ?_
    refine hK6 _ ?_; clear hK6 K6
    refine code_ret ?_
    refine then_r ?_; clear hK2 K2
    refine ends_ret (cs := []) rfl rfl rfl rfl trivial ?_
    first
      | (have e : ¬ ((0 ≤ a ∧ a ≤ 127) ∧ (0 ≤ b ∧ b ≤ 127)) := by omega
         simp only [if_neg e, decide_eq_false e])
      | (have e : ((0 ≤ a ∧ a ≤ 127) ∧ (0 ≤ b ∧ b ≤ 127)) := by omega
         have e2 := xor7 e.1 e.2
         have e3 : 0 ≤ ((a.toNat ^^^ b.toNat : Nat) : Int) ∧ ((a.toNat ^^^ b.toNat : Nat) : Int) ≤ 127 := ⟨by omega, e2⟩
         simp only [if_pos e, decide_eq_true e, if_pos e3, decide_eq_true e3, Int.toNat_natCast])

end Go.Proofs.Ytaobknhblnlegab
