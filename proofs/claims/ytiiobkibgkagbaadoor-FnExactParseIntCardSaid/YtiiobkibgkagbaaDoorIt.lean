/- Contracts of functions, walked over the pure layer; each says for which arguments. -/
import Derived.Test.YtiiobkibgkagbaaDoorItTy
import Derived.Lib.AppendIntMem
import Derived.Test.YtiiobkibgkagbaaDoorTf
import Derived.Test.YtiiobkibgkagbaaDoorShelf
namespace Go.Proofs.YtiiobkibgkagbaaDoor
open Go.RowKit ItTy
set_option linter.unusedVariables false
set_option linter.unusedSimpArgs false

theorem itoa_c (n : Int) (h0 : -9223372036854775808 ≤ n) (h1 : n ≤ 9223372036854775807) : PCalls Tryd.prog 25 [.int .i64 n] (· = [.val (.str (Lib.itoa n))]) := by
  refine pcalls_flatG (enters_of Tryd.func25 (by kernel_rfl) rfl) fun w vs hg ha => ?_
  obtain ⟨v0, r0, rfl, ha0, ha⟩ := repArgs_cons ha
  obtain rfl := repArgs_nil ha
  simp only [Rep] at ha0
  subst ha0
  have htab : Lib.TabIs Tryd.prog w "internal/strconv.uint64pow10" .u64 Lib.pow10Tab := var_of hg (g := 3) (by kernel_rfl) rfl
  refine (Tryd.strconv_Itoa n h0 h1 w htab).mono fun e w' ⟨he, k, os, hw⟩ => ⟨[.string ⟨(Lib.itoa n).toArray⟩], [.str (Lib.itoa n)], he, hw ▸ Lib.below_grow _ w (Nat.le_refl _) k os, ?_, rfl⟩
  exact ⟨_, _, rfl, by simp [Rep], rfl⟩

def fmtN (n : Int) : List UInt8 := if -999999 ≤ n ∧ n ≤ 999999 then Lib.itoa n else []

set_option maxRecDepth 4000 in
theorem impl_FormatInt (n : Int) : PCalls Tryd.prog 9 [.int .i64 n] (· = [.val (.str (fmtN n)), .val (.bool (decide (-999999 ≤ n ∧ n ≤ 999999)))]) := by
  refine pcalls_of_code (n := 12) az Tryd.func9 (by kernel_rfl) rfl rfl (Nat.le_of_ble_eq_true rfl) (by intro t u h; simp [Tryd.f9] at h) ?_
  refine code_seq (fun K1 hK1 => ?_)
  refine code_region ?_
  refine list_cons rfl (op_q (q_assign rfl (by decide)) ?_)
  refine list_cons rfl (op_q (q_assign rfl (by decide)) ?_)
  refine list_nil ?_
  refine hK1 _ ?_; clear hK1 K1
  refine code_seq (fun K2 hK2 => ?_)
  refine code_seq (fun K3 hK3 => ?_)
  refine code_region ?_
  refine list_cons rfl (op_q (q_move rfl (by decide)) ?_)
  refine list_cons rfl (op_q (q_lt rfl rfl (by decide)) ?_)
  refine list_cons rfl (op_q (q_move rfl (by decide)) ?_)
  refine list_guard_d rfl rfl rfl rfl (by decide) rfl (by decide) (fun h1 => ?_) (fun h1 => ?_)
  · simp only [Bool.false_eq_true, if_true, if_false, Decidable.not_not] at h1
    refine id (op_q (q_move rfl (by decide)) ?_)
    refine list_guard_y rfl rfl rfl rfl (by decide) rfl ?_
    refine id (op_q (q_gt rfl rfl (by decide)) ?_)
    refine list_cons rfl (op_q (q_pick rfl rfl (by decide)) ?_)
    refine list_nil ?_
    refine hK3 _ ?_; clear hK3 K3
    refine code_cond_d rfl (fun h2 => ?_) (fun h2 => ?_)
    · skip
      (try simp only [Decidable.not_not] at h2)
      refine code_seq (fun K4 hK4 => ?_)
      refine code_region ?_
      refine list_cons rfl (op_q (q_assign rfl (by decide)) ?_)
      refine list_cons rfl (op_q (q_assign rfl (by decide)) ?_)
      refine list_nil ?_
      refine hK4 _ ?_; clear hK4 K4
      refine code_ret ?_
      refine then_r ?_; clear hK2 K2
      refine ends_ret (cs := []) rfl rfl rfl rfl trivial ?_
      first
        | (have e : ¬ (-999999 ≤ n ∧ n ≤ 999999) := by omega
           simp only [fmtN, if_neg e, decide_eq_false e])
        | (have e : (-999999 ≤ n ∧ n ≤ 999999) := by omega
           simp only [fmtN, if_pos e, decide_eq_true e])
    (try simp only [Decidable.not_not] at h2)
    refine code_skip ?_
    refine hK2 _ ?_; clear hK2 K2
    refine code_seq (fun K5 hK5 => ?_)
    refine code_region ?_
    refine list_cons rfl (op_q (q_move rfl (by decide)) ?_)
    refine list_cons rfl (op_call _ (itoa_c _ (by omega) (by omega)) rfl rfl (by decide) (by decide) (by decide) rfl ?_)
    rintro _ rfl
    refine list_cons rfl (op_q (q_assign rfl (by decide)) ?_)
    refine list_cons rfl (op_q (q_assign rfl (by decide)) ?_)
    refine list_nil ?_
    refine hK5 _ ?_; clear hK5 K5
    refine codeT.imp (σ' := [(0, _), (2, _), (3, _)]) ?_ (imp_covers ⟨rfl, rfl, rfl, trivial⟩)
    refine code_ret ?_
    refine ends_ret (cs := []) rfl rfl rfl rfl trivial ?_
    first
      | (have e : ¬ (-999999 ≤ n ∧ n ≤ 999999) := by omega
         simp only [fmtN, if_neg e, decide_eq_false e])
      | (have e : (-999999 ≤ n ∧ n ≤ 999999) := by omega
         simp only [fmtN, if_pos e, decide_eq_true e])
  simp only [Bool.false_eq_true, if_true, if_false, Decidable.not_not] at h1
  refine list_guard_n rfl rfl rfl rfl (by decide) rfl ?_
  refine list_cons rfl (op_q (q_pick rfl rfl (by decide)) ?_)
  refine list_nil ?_
  refine hK3 _ ?_; clear hK3 K3
  refine code_cond_t rfl ?_
  refine code_seq (fun K6 hK6 => ?_)
  refine code_region ?_
  refine list_cons rfl (op_q (q_assign rfl (by decide)) ?_)
  refine list_cons rfl (op_q (q_assign rfl (by decide)) ?_)
  refine list_nil ?_
  refine hK6 _ ?_; clear hK6 K6
  refine code_ret ?_
  refine then_r ?_; clear hK2 K2
  refine ends_ret (cs := []) rfl rfl rfl rfl trivial ?_
  first
    | (have e : ¬ (-999999 ≤ n ∧ n ≤ 999999) := by omega
       simp only [fmtN, if_neg e, decide_eq_false e])
    | (have e : (-999999 ≤ n ∧ n ≤ 999999) := by omega
       simp only [fmtN, if_pos e, decide_eq_true e])

end Go.Proofs.YtiiobkibgkagbaaDoor
