/- Contracts of functions, walked over the pure layer; each says for which arguments. -/
import Derived.Test.YtnlillklehgcgaaSqTy
import Derived.Test.YtnlillklehgcgaaTf
import Derived.Test.YtnlillklehgcgaaSp
namespace Go.Proofs.Ytnlillklehgcgaa
open Go.RowKit SqTy
set_option linter.unusedVariables false
set_option linter.unusedSimpArgs false

set_option maxRecDepth 4000 in
theorem spec_SplitString (s sep : List UInt8) (hs : s.length ≤ 4611686018427387904) (hp : sep.length ≤ 4611686018427387904) : PCalls Try.prog 5 [.str s, .str sep] (· = [.own 0 9 1 (if s.length ≤ 4000 ∧ sep.length = 1 then splitL (sep.getD 0 0) s else []).length ((if s.length ≤ 4000 ∧ sep.length = 1 then splitL (sep.getD 0 0) s else []).map .str), .val (.bool (decide (s.length ≤ 4000 ∧ sep.length = 1)))]) := by
  refine pcalls_of_code (n := 19) az Try.func5 (by kernel_rfl) rfl rfl (Nat.le_of_ble_eq_true rfl) (by intro t u h; simp [Try.f5] at h) ?_
  refine code_seq (fun K1 hK1 => ?_)
  refine code_region ?_
  refine list_cons rfl (op_q (q_assign rfl (by decide)) ?_)
  refine list_cons rfl (op_q (q_assign rfl (by decide)) ?_)
  refine list_nil ?_
  refine hK1 _ ?_; clear hK1 K1
  refine code_seq (fun K2 hK2 => ?_)
  refine code_seq (fun K3 hK3 => ?_)
  refine code_region ?_
  refine list_cons rfl (op_q (q_move rfl (by decide)) ?_)
  refine list_cons rfl (op_q (q_len_str Try.underlying9 rfl (by decide)) ?_)
  refine list_cons rfl (op_q (q_ne rfl rfl (by decide)) ?_)
  refine list_cons rfl (op_q (q_move rfl (by decide)) ?_)
  refine list_guard_d rfl rfl rfl rfl (by decide) rfl (by decide) (fun h1 => ?_) (fun h1 => ?_)
  · simp only [Bool.false_eq_true, if_true, if_false, Decidable.not_not] at h1
    refine id (op_q (q_move rfl (by decide)) ?_)
    refine list_guard_y rfl rfl rfl rfl (by decide) rfl ?_
    refine id (op_q (q_len_str Try.underlying9 rfl (by decide)) ?_)
    refine list_guard_y rfl rfl rfl rfl (by decide) rfl ?_
    refine id (op_q (q_gt rfl rfl (by decide)) ?_)
    refine list_cons rfl (op_q (q_pick rfl rfl (by decide)) ?_)
    refine list_nil ?_
    refine hK3 _ ?_; clear hK3 K3
    refine codeT.imp (σ' := [(0, _), (1, _), (4, _), (5, _), (13, _)]) ?_ (imp_covers ⟨rfl, rfl, rfl, rfl, rfl, trivial⟩)
    refine code_cond_d rfl (fun h2 => ?_) (fun h2 => ?_)
    · skip
      (try simp only [Decidable.not_not] at h2)
      refine code_seq (fun K4 hK4 => ?_)
      refine code_region ?_
      refine list_cons rfl (op_buildSlice sl_22 (parts := []) rfl rfl rfl (by decide) (by decide) (by decide) rfl ?_)
      refine list_cons rfl (op_q (q_assign rfl (by decide)) ?_)
      refine list_cons rfl (op_q (q_assign rfl (by decide)) ?_)
      refine list_nil ?_
      refine hK4 _ ?_; clear hK4 K4
      refine code_ret ?_
      refine then_r ?_; clear hK2 K2
      refine ends_ret (cs := []) rfl rfl rfl rfl trivial ?_
      first
        | (have e : ¬ (s.length ≤ 4000 ∧ sep.length = 1) := by omega
           simp only [if_neg e, decide_eq_false e]; rfl)
        | (have e : s.length ≤ 4000 ∧ sep.length = 1 := by omega
           simp only [if_pos e, decide_eq_true e]; rfl)
        | (have e : s.length ≤ 4000 ∧ sep.length = 1 := by omega
           simp only [if_pos e, decide_eq_true e])
    · skip
      (try simp only [Decidable.not_not] at h2)
      refine code_skip ?_
      refine hK2 _ ?_; clear hK2 K2
      refine code_seq (fun K5 hK5 => ?_)
      refine code_region ?_
      refine list_cons rfl (op_q (q_move rfl (by decide)) ?_)
      refine list_cons rfl (op_q (q_move rfl (by decide)) ?_)
      refine list_cons rfl (op_q (q_index_str Try.underlying9 rfl rfl (by omega) (by omega) (by decide)) ?_)
      refine list_cons rfl (op_call _ (l1Split_c _ _ (by omega)) rfl rfl (by decide) (by decide) (by decide) rfl ?_)
      rintro _ rfl
      refine list_cons rfl (op_q (q_assign rfl (by decide)) ?_)
      refine list_cons rfl (op_q (q_assign rfl (by decide)) ?_)
      refine list_nil ?_
      refine hK5 _ ?_; clear hK5 K5
      refine codeT.imp (σ' := [(0, _), (1, _), (4, _), (5, _)]) ?_ (imp_covers ⟨rfl, rfl, rfl, rfl, trivial⟩)
      refine code_ret ?_
      refine ends_ret (cs := []) rfl rfl rfl rfl trivial ?_
      first
        | (have e : ¬ (s.length ≤ 4000 ∧ sep.length = 1) := by omega
           simp only [if_neg e, decide_eq_false e]; rfl)
        | (have e : s.length ≤ 4000 ∧ sep.length = 1 := by omega
           simp only [if_pos e, decide_eq_true e]; rfl)
        | (have e : s.length ≤ 4000 ∧ sep.length = 1 := by omega
           simp only [if_pos e, decide_eq_true e])
  · simp only [Bool.false_eq_true, if_true, if_false, Decidable.not_not] at h1
    refine list_guard_n rfl rfl rfl rfl (by decide) rfl ?_
    refine list_guard_n rfl rfl rfl rfl (by decide) rfl ?_
    refine list_cons rfl (op_q (q_pick rfl rfl (by decide)) ?_)
    refine list_nil ?_
    refine hK3 _ ?_; clear hK3 K3
    refine code_cond_t rfl ?_
    refine code_seq (fun K6 hK6 => ?_)
    refine code_region ?_
    refine list_cons rfl (op_buildSlice sl_22 (parts := []) rfl rfl rfl (by decide) (by decide) (by decide) rfl ?_)
    refine list_cons rfl (op_q (q_assign rfl (by decide)) ?_)
    refine list_cons rfl (op_q (q_assign rfl (by decide)) ?_)
    refine list_nil ?_
    refine hK6 _ ?_; clear hK6 K6
    refine code_ret ?_
    refine then_r ?_; clear hK2 K2
    refine ends_ret (cs := []) rfl rfl rfl rfl trivial ?_
    first
      | (have e : ¬ (s.length ≤ 4000 ∧ sep.length = 1) := by omega
         simp only [if_neg e, decide_eq_false e]; rfl)
      | (have e : s.length ≤ 4000 ∧ sep.length = 1 := by omega
         simp only [if_pos e, decide_eq_true e]; rfl)
      | (have e : s.length ≤ 4000 ∧ sep.length = 1 := by omega
         simp only [if_pos e, decide_eq_true e])

end Go.Proofs.Ytnlillklehgcgaa
