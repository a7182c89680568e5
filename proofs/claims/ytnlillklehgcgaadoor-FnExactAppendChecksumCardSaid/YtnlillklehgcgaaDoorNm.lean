/- Contracts of functions, walked over the pure layer; each says for which arguments. -/
import Derived.Test.YtnlillklehgcgaaDoorNmTy
import Derived.Lib.AppendIntMem
import Derived.Test.YtnlillklehgcgaaDoorTf
import Derived.Test.YtnlillklehgcgaaDoorShelf
import Derived.Test.YtnlillklehgcgaaDoorSp
import Derived.Test.YtnlillklehgcgaaDoorIt
namespace Go.Proofs.YtnlillklehgcgaaDoor
open Go.RowKit NmTy
set_option linter.unusedVariables false
set_option linter.unusedSimpArgs false

theorem dec_len : ∀ (k u : Nat), 1 ≤ k → u < 10 ^ k → (Lib.decDigits u).length ≤ k
  | 0, u, h, _ => by omega
  | k + 1, u, _, h => by
    by_cases hu : u < 10
    · rw [Lib.decDigits_one hu]; simp
    · rw [Lib.decDigits, dif_neg hu, List.length_append, List.length_singleton]
      have h1 : 1 ≤ k := by
        rcases Nat.eq_zero_or_pos k with e | e
        · subst e; simp at h; omega
        · exact e
      have h2 : u / 10 < 10 ^ k := by rw [Nat.pow_succ] at h; omega
      have := dec_len k (u / 10) h1 h2
      omega
theorem dec_len16 {u : Nat} (h : u ≤ 1000000000000000) : (Lib.decDigits u).length ≤ 16 := dec_len 16 u (by decide) (Nat.lt_of_le_of_lt h (by decide))
theorem dig_at : ∀ n : Nat, n < 10 → ((ByteArray.mk #[48, 49, 50, 51, 52, 53, 54, 55, 56, 57]).data.toList.drop n).take 1 = [UInt8.ofNat (48 + n)] := by
  intro n h
  have : n = 0 ∨ n = 1 ∨ n = 2 ∨ n = 3 ∨ n = 4 ∨ n = 5 ∨ n = 6 ∨ n = 7 ∨ n = 8 ∨ n = 9 := by omega
  rcases this with rfl | rfl | rfl | rfl | rfl | rfl | rfl | rfl | rfl | rfl <;> rfl
theorem dec_ge {u : Nat} (h : ¬ u < 10) : Lib.decDigits u = Lib.decDigits (u / 10) ++ [UInt8.ofNat (48 + u % 10)] := by rw [Lib.decDigits, dif_neg h]
theorem itoa_lt {n : Int} (h : n < 0) : Lib.itoa n = 45 :: Lib.decDigits (-n).toNat := by
  unfold Lib.itoa; rw [if_pos h]; congr 2; omega
theorem itoa_ge {n : Int} (h : 0 ≤ n) : Lib.itoa n = Lib.decDigits n.toNat := by unfold Lib.itoa; rw [if_neg (by omega)]
theorem tdiv10 {n : Int} (h : n < 0) : n.tdiv 10 = -((-n) / 10) := by
  have e : n = -(-n) := by omega
  rw [e, Int.neg_tdiv, Int.tdiv_eq_ediv_of_nonneg (by omega)]; simp
theorem tmod10 {n : Int} (h : n < 0) : n.tmod 10 = -((-n) % 10) := by
  have e : n = -(-n) := by omega
  rw [e, Int.neg_tmod, Int.tmod_eq_emod_of_nonneg (by omega)]; simp
def sumF (s : List UInt8) : Nat := s.foldl (fun h b => (41 * h + b.toNat + 1) % 999979) 7
theorem sumF_snoc (s : List UInt8) {k : Nat} (h : k < s.length) : sumF (s.take (k + 1)) = (41 * sumF (s.take k) + (s.getD k 0).toNat + 1) % 999979 := by
  unfold sumF; rw [take_snocL s k h, List.foldl_append]; rfl
theorem sumF_lt (s : List UInt8) : ∀ k, k ≤ s.length → sumF (s.take k) < 999979
  | 0, _ => by rw [List.take_zero]; decide
  | k + 1, h => by rw [sumF_snoc s (by omega)]; exact Nat.mod_lt _ (by decide)
theorem sumF_all (s : List UInt8) : sumF s < 999979 := by have := sumF_lt s s.length (Nat.le_refl _); rwa [List.take_length] at this
def sealT (s : List UInt8) : List UInt8 := s ++ [35] ++ Lib.itoa (sumF s : Int)
theorem itoa_sum (s : List UInt8) : (Lib.itoa (sumF s : Int)).length ≤ 6 := by
  rw [itoa_ge (by omega), Int.toNat_natCast]
  have := sumF_all s
  exact dec_len 6 _ (by decide) (by omega)
theorem sealT_len (s : List UInt8) : (sealT s).length ≤ s.length + 7 := by
  have := itoa_sum s
  unfold sealT; simp only [List.length_append, List.length_singleton]; omega
def AcP (s : List UInt8) : Prop := s.length ≤ 4000 ∧ 35 ∉ s ∧ (sealT s).length ≤ 4000
instance (s : List UInt8) : Decidable (AcP s) := by unfold AcP; infer_instance
def headT (s : List UInt8) : List UInt8 := (splitL 35 s).getD 0 []
def VcP (s : List UInt8) : Prop := s.length ≤ 4000 ∧ sealT (headT s) = s
instance (s : List UInt8) : Decidable (VcP s) := by unfold VcP; infer_instance
theorem fmt_sum (s : List UInt8) : fmtN (sumF s : Int) = Lib.itoa (sumF s : Int) := by
  have := sumF_all s
  unfold fmtN; rw [if_pos (by omega)]


set_option maxRecDepth 4000 in
theorem l1Num_step (k : Int) (h0 : 0 ≤ k) (h1 : k ≤ 1000000000000000) (ih : ∀ m : Int, 0 ≤ m → m < k → PCalls Tryd.prog 22 [.int .i64 m] (· = [.val (.str (Lib.decDigits m.toNat))])) : PCalls Tryd.prog 22 [.int .i64 k] (· = [.val (.str (Lib.decDigits k.toNat))]) := by
  refine pcalls_of_code (n := 35) az Tryd.func22 (by kernel_rfl) rfl rfl (Nat.le_of_ble_eq_true rfl) (by intro t u h; simp [Tryd.f22] at h) ?_
  have hdl := dec_len16 (u := (k / 10).toNat) (by omega)
  have hd10 : (ByteArray.mk #[48, 49, 50, 51, 52, 53, 54, 55, 56, 57]).data.toList.length = 10 := rfl
  refine code_seq (fun K1 hK1 => ?_)
  refine code_region ?_
  refine list_cons rfl (op_q (q_assign rfl (by decide)) ?_)
  refine list_nil ?_
  refine hK1 _ ?_; clear hK1 K1
  refine code_seq (fun K2 hK2 => ?_)
  refine code_seq (fun K3 hK3 => ?_)
  refine code_region ?_
  refine list_cons rfl (op_q (q_move rfl (by decide)) ?_)
  refine list_cons rfl (op_q (q_lt rfl rfl (by decide)) ?_)
  refine list_nil ?_
  refine hK3 _ ?_; clear hK3 K3
  refine code_cond_d rfl (fun h1 => ?_) (fun h1 => ?_)
  · skip
    (try simp only [Decidable.not_not] at h1)
    exfalso
    omega
  · skip
    (try simp only [Decidable.not_not] at h1)
    refine code_skip ?_
    refine hK2 _ ?_; clear hK2 K2
    refine code_seq (fun K4 hK4 => ?_)
    refine code_seq (fun K5 hK5 => ?_)
    refine code_region ?_
    refine list_cons rfl (op_q (q_move rfl (by decide)) ?_)
    refine list_cons rfl (op_q (q_lt rfl rfl (by decide)) ?_)
    refine list_nil ?_
    refine hK5 _ ?_; clear hK5 K5
    refine code_cond_d rfl (fun h2 => ?_) (fun h2 => ?_)
    · skip
      (try simp only [Decidable.not_not] at h2)
      refine code_seq (fun K6 hK6 => ?_)
      refine code_region ?_
      refine list_cons rfl (op_q (q_move rfl (by decide)) ?_)
      refine list_cons rfl (op_q (q_move rfl (by decide)) ?_)
      refine list_cons rfl (op_q (by first | exact q_addI rfl rfl (by decide) (by omega) (by omega) | exact q_ib rfl rfl rfl (by decide)) ?_)
      refine list_cons rfl (op_q (q_slice_str Tryd.underlying9 rfl ⟨_, rfl⟩ ⟨_, rfl⟩ (by omega) (by omega) (by omega) (by decide)) ?_)
      refine list_cons rfl (op_q (q_assign rfl (by decide)) ?_)
      refine list_nil ?_
      refine hK6 _ ?_; clear hK6 K6
      refine codeT.imp (σ' := [(0, _), (2, _)]) ?_ (imp_covers ⟨rfl, rfl, trivial⟩)
      refine code_ret ?_
      refine then_r ?_; clear hK4 K4
      refine ends_ret (cs := []) rfl rfl rfl rfl trivial ?_
      rw [Lib.decDigits_one (by omega), ← dig_at k.toNat (by omega), show (k + 1).toNat - k.toNat = 1 by omega]
    · skip
      (try simp only [Decidable.not_not] at h2)
      refine code_skip ?_
      refine hK4 _ ?_; clear hK4 K4
      refine code_seq (fun K7 hK7 => ?_)
      refine code_draw (by kernel_rfl) (by kernel_rfl) ?_
      refine draw_q rfl (q_move rfl (by decide)) ?_
      refine draw_q rfl (by first | exact q_quoI rfl rfl (by decide) (by omega) (by omega) (by omega) | exact q_quoT rfl rfl (by omega) (by decide) (by omega) (by omega) | exact q_quo rfl rfl (by omega) (by decide)) ?_
      refine draw_call _ (ih (k / 10) (by omega) (by omega)) rfl rfl rfl (by decide) ?_
      refine draw_q rfl (q_move rfl (by decide)) ?_
      refine draw_q rfl (by first | exact q_remI rfl rfl (by decide) (by omega) (by omega) | exact q_rem rfl rfl (by omega) (by decide)) ?_
      refine draw_q rfl (q_move rfl (by decide)) ?_
      refine draw_q rfl (by first | exact q_remI rfl rfl (by decide) (by omega) (by omega) | exact q_rem rfl rfl (by omega) (by decide)) ?_
      refine draw_q rfl (by first | exact q_addI rfl rfl (by decide) (by omega) (by omega) | exact q_ib rfl rfl rfl (by decide)) ?_
      refine draw_q rfl (q_slice_str Tryd.underlying9 rfl ⟨_, rfl⟩ ⟨_, rfl⟩ (by omega) (by omega) (by omega) (by decide)) ?_
      refine draw_q rfl (q_cat rfl rfl (by first | omega | (simp only [List.length_append, List.length_cons, List.length_nil]; omega) | (simp; omega)) (by decide)) ?_
      refine draw_q rfl (q_assign rfl (by decide)) ?_
      refine draw_nil ?_
      refine hK7 _ ?_; clear hK7 K7
      refine codeT.imp (σ' := [(0, _), (2, _)]) ?_ (imp_covers ⟨rfl, rfl, trivial⟩)
      refine code_ret ?_
      refine ends_ret (cs := []) rfl rfl rfl rfl trivial ?_
      rw [dec_ge (u := k.toNat) (by omega), ← dig_at (k.toNat % 10) (by omega), show (k % 10 + 1).toNat - (k % 10).toNat = 1 by omega, show (k % 10).toNat = k.toNat % 10 by omega, show (k / 10).toNat = k.toNat / 10 by omega]

theorem l1Num_nn (k : Int) (h0 : 0 ≤ k) (h1 : k ≤ 1000000000000000) : PCalls Tryd.prog 22 [.int .i64 k] (· = [.val (.str (Lib.decDigits k.toNat))]) := by
  have key : ∀ n : Nat, ∀ k : Int, k.toNat = n → 0 ≤ k → k ≤ 1000000000000000 → PCalls Tryd.prog 22 [.int .i64 k] (· = [.val (.str (Lib.decDigits k.toNat))]) := by
    intro n
    induction n using Nat.strongRecOn with
    | _ n ih =>
      intro k hk h0 h1
      exact l1Num_step k h0 h1 (fun m hm0 hm1 => ih m.toNat (by omega) m rfl hm0 (by omega))
  exact key _ k rfl h0 h1

set_option maxRecDepth 4000 in
theorem l1Num_nstep (k : Int) (h0 : k < 0) (h1 : -100000000 ≤ k) (ih : ∀ m : Int, m < 0 → k < m → PCalls Tryd.prog 22 [.int .i64 m] (· = [.val (.str (Lib.itoa m))])) : PCalls Tryd.prog 22 [.int .i64 k] (· = [.val (.str (Lib.itoa k))]) := by
  refine pcalls_of_code (n := 35) az Tryd.func22 (by kernel_rfl) rfl rfl (Nat.le_of_ble_eq_true rfl) (by intro t u h; simp [Tryd.f22] at h) ?_
  have hq := tdiv10 h0
  have hr := tmod10 h0
  have hi1 := dec_len16 (u := (-k).toNat) (by omega)
  have hi2 := dec_len16 (u := (-(k.tdiv 10)).toNat) (by omega)
  have hi3 := dec_len16 (u := (-(k.tmod 10)).toNat) (by omega)
  have hi4 : k.tdiv 10 < 0 → (Lib.itoa (k.tdiv 10)).length ≤ 17 := fun h => by rw [itoa_lt h, List.length_cons]; omega
  refine code_seq (fun K1 hK1 => ?_)
  refine code_region ?_
  refine list_cons rfl (op_q (q_assign rfl (by decide)) ?_)
  refine list_nil ?_
  refine hK1 _ ?_; clear hK1 K1
  refine code_seq (fun K2 hK2 => ?_)
  refine code_seq (fun K3 hK3 => ?_)
  refine code_region ?_
  refine list_cons rfl (op_q (q_move rfl (by decide)) ?_)
  refine list_cons rfl (op_q (q_lt rfl rfl (by decide)) ?_)
  refine list_nil ?_
  refine hK3 _ ?_; clear hK3 K3
  refine code_cond_d rfl (fun h1 => ?_) (fun h1 => ?_)
  · skip
    (try simp only [Decidable.not_not] at h1)
    refine code_seq (fun K4 hK4 => ?_)
    refine code_seq (fun K5 hK5 => ?_)
    refine code_region ?_
    refine list_cons rfl (op_q (q_move rfl (by decide)) ?_)
    refine list_cons rfl (op_q (q_gt rfl rfl (by decide)) ?_)
    refine list_nil ?_
    refine hK5 _ ?_; clear hK5 K5
    refine code_cond_d rfl (fun h2 => ?_) (fun h2 => ?_)
    · skip
      (try simp only [Decidable.not_not] at h2)
      refine code_seq (fun K6 hK6 => ?_)
      refine code_region ?_
      refine list_cons rfl (op_q (q_move rfl (by decide)) ?_)
      refine list_cons rfl (op_q (by first | exact q_negI rfl (by decide) (by omega) (by omega) | exact q_neg rfl (by decide)) ?_)
      refine list_cons rfl (op_call _ (l1Num_nn (-k) (by omega) (by omega)) rfl rfl (by decide) (by decide) (by decide) rfl ?_)
      rintro _ rfl
      refine list_cons rfl (op_q (q_cat rfl rfl (by first | omega | (simp only [List.length_append, List.length_cons, List.length_nil]; omega) | (simp; omega)) (by decide)) ?_)
      refine list_cons rfl (op_q (q_assign rfl (by decide)) ?_)
      refine list_nil ?_
      refine hK6 _ ?_; clear hK6 K6
      refine codeT.imp (σ' := [(0, _), (2, _)]) ?_ (imp_covers ⟨rfl, rfl, trivial⟩)
      refine code_ret ?_
      refine then_r ?_; clear hK4 K4
      refine then_r ?_; clear hK2 K2
      refine ends_ret (cs := []) rfl rfl rfl rfl trivial ?_
      rw [itoa_lt h0]; rfl
    · skip
      (try simp only [Decidable.not_not] at h2)
      refine code_skip ?_
      refine hK4 _ ?_; clear hK4 K4
      refine code_seq (fun K7 hK7 => ?_)
      refine code_region ?_
      refine list_cons rfl (op_q (q_move rfl (by decide)) ?_)
      refine list_cons rfl (op_q (by first | exact q_quoI rfl rfl (by decide) (by omega) (by omega) (by omega) | exact q_quoT rfl rfl (by omega) (by decide) (by omega) (by omega) | exact q_quo rfl rfl (by omega) (by decide)) ?_)
      refine list_cons rfl (op_call _ (ih (k.tdiv 10) (by omega) (by omega)) rfl rfl (by decide) (by decide) (by decide) rfl ?_)
      rintro _ rfl
      refine list_cons rfl (op_q (q_move rfl (by decide)) ?_)
      refine list_cons rfl (op_q (by first | exact q_remI rfl rfl (by decide) (by omega) (by omega) | exact q_rem rfl rfl (by omega) (by decide)) ?_)
      refine list_cons rfl (op_q (by first | exact q_negI rfl (by decide) (by omega) (by omega) | exact q_neg rfl (by decide)) ?_)
      refine list_cons rfl (op_call _ (l1Num_nn (-(k.tmod 10)) (by omega) (by omega)) rfl rfl (by decide) (by decide) (by decide) rfl ?_)
      rintro _ rfl
      refine list_cons rfl (op_q (q_cat rfl rfl (by first | omega | (simp only [List.length_append, List.length_cons, List.length_nil]; omega) | (simp; omega)) (by decide)) ?_)
      refine list_cons rfl (op_q (q_assign rfl (by decide)) ?_)
      refine list_nil ?_
      refine hK7 _ ?_; clear hK7 K7
      refine codeT.imp (σ' := [(0, _), (2, _)]) ?_ (imp_covers ⟨rfl, rfl, trivial⟩)
      refine code_ret ?_
      refine then_r ?_; clear hK2 K2
      refine ends_ret (cs := []) rfl rfl rfl rfl trivial ?_
      rw [itoa_lt h0, itoa_lt (by omega), dec_ge (u := (-k).toNat) (by omega), hr, hq, Int.neg_neg, Int.neg_neg, Lib.decDigits_one (i := ((-k) % 10).toNat) (by omega), show ((-k) / 10).toNat = (-k).toNat / 10 by omega, show ((-k) % 10).toNat = (-k).toNat % 10 by omega]; rfl
  · skip
    (try simp only [Decidable.not_not] at h1)
    exfalso
    omega

theorem l1Num_any (k : Int) (h0 : -100000000 ≤ k) (h1 : k ≤ 1000000000000000) : PCalls Tryd.prog 22 [.int .i64 k] (· = [.val (.str (Lib.itoa k))]) := by
  have key : ∀ n : Nat, ∀ k : Int, (-k).toNat = n → k < 0 → -100000000 ≤ k → PCalls Tryd.prog 22 [.int .i64 k] (· = [.val (.str (Lib.itoa k))]) := by
    intro n
    induction n using Nat.strongRecOn with
    | _ n ih =>
      intro k hk h0 h1
      exact l1Num_nstep k h0 h1 (fun m hm0 hm1 => ih (-m).toNat (by omega) m rfl hm0 (by omega))
  by_cases h : k < 0
  · exact key _ k rfl h h0
  · rw [itoa_ge (by omega)]; exact l1Num_nn k (by omega) h1

set_option maxRecDepth 4000 in
theorem spec_FormatInt (n : Int) : PCalls Tryd.prog 8 [.int .i64 n] (· = [.val (.str (fmtN n)), .val (.bool (decide (-999999 ≤ n ∧ n ≤ 999999)))]) := by
  refine pcalls_of_code (n := 9) az Tryd.func8 (by kernel_rfl) rfl rfl (Nat.le_of_ble_eq_true rfl) (by intro t u h; simp [Tryd.f8] at h) ?_
  refine code_seq (fun K1 hK1 => ?_)
  refine code_region ?_
  refine list_cons rfl (op_q (q_assign rfl (by decide)) ?_)
  refine list_cons rfl (op_q (q_assign rfl (by decide)) ?_)
  refine list_nil ?_
  refine hK1 _ ?_; clear hK1 K1
  refine code_seq (fun K2 hK2 => ?_)
  refine code_seq (fun K3 hK3 => ?_)
  refine code_region ?_
  refine list_cons rfl (op_q (q_move rfl (by decide)) ?_)
  refine list_cons rfl (op_call _ (spec_l1In _ _ _) rfl rfl (by decide) (by decide) (by decide) rfl ?_)
  rintro _ rfl
  refine list_cons rfl (op_q (by first | exact q_notd rfl (by decide) | exact q_not rfl (by decide)) ?_)
  refine list_nil ?_
  refine hK3 _ ?_; clear hK3 K3
  refine codeT.imp (σ' := [(0, _), (2, _), (3, _), (6, _)]) ?_ (imp_covers ⟨rfl, rfl, rfl, rfl, trivial⟩)
  refine code_cond_d rfl (fun h1 => ?_) (fun h1 => ?_)
  · skip
    (try simp only [Decidable.not_not] at h1)
    refine code_seq (fun K4 hK4 => ?_)
    refine code_region ?_
    refine list_cons rfl (op_q (q_assign rfl (by decide)) ?_)
    refine list_cons rfl (op_q (q_assign rfl (by decide)) ?_)
    refine list_nil ?_
    refine hK4 _ ?_; clear hK4 K4
    refine code_ret ?_
    refine then_r ?_; clear hK2 K2
    refine ends_ret (cs := []) rfl rfl rfl rfl trivial ?_
    first
      | (have e : ¬ (-999999 ≤ n ∧ n ≤ 999999) := by omega
         simp only [fmtN, if_neg e, decide_eq_false e])
      | (have e : (-999999 ≤ n ∧ n ≤ 999999) := by omega
         simp only [fmtN, if_pos e, decide_eq_true e])
  · skip
    (try simp only [Decidable.not_not] at h1)
    refine code_skip ?_
    refine hK2 _ ?_; clear hK2 K2
    refine code_seq (fun K5 hK5 => ?_)
    refine code_region ?_
    refine list_cons rfl (op_q (q_move rfl (by decide)) ?_)
    refine list_cons rfl (op_call _ (l1Num_any _ (by omega) (by omega)) rfl rfl (by decide) (by decide) (by decide) rfl ?_)
    rintro _ rfl
    refine list_cons rfl (op_q (q_assign rfl (by decide)) ?_)
    refine list_cons rfl (op_q (q_assign rfl (by decide)) ?_)
    refine list_nil ?_
    refine hK5 _ ?_; clear hK5 K5
    refine codeT.imp (σ' := [(0, _), (2, _), (3, _)]) ?_ (imp_covers ⟨rfl, rfl, rfl, trivial⟩)
    refine code_ret ?_
    refine ends_ret (cs := []) rfl rfl rfl rfl trivial ?_
    first
      | (have e : ¬ (-999999 ≤ n ∧ n ≤ 999999) := by omega
         simp only [fmtN, if_neg e, decide_eq_false e])
      | (have e : (-999999 ≤ n ∧ n ≤ 999999) := by omega
         simp only [fmtN, if_pos e, decide_eq_true e])

set_option maxRecDepth 4000 in
theorem l1Sum_c (s : List UInt8) (hs : s.length ≤ 4611686018427387904) : PCalls Tryd.prog 40 [.str s] (· = [.val (.int .i64 (sumF s : Nat))]) := by
  refine pcalls_of_code (n := 21) az Tryd.func40 (by kernel_rfl) rfl rfl (Nat.le_of_ble_eq_true rfl) (by intro t u h; simp [Tryd.f40] at h) ?_
  refine code_seq (fun K1 hK1 => ?_)
  refine code_region ?_
  refine list_cons rfl (op_q (q_assign rfl (by decide)) ?_)
  refine list_nil ?_
  refine hK1 _ ?_; clear hK1 K1
  refine code_seq (fun K2 hK2 => ?_)
  refine code_region ?_
  refine list_cons rfl (op_q (q_assign rfl (by decide)) ?_)
  refine list_nil ?_
  refine hK2 _ ?_; clear hK2 K2
  refine code_seq (fun K3 hK3 => ?_)
  refine code_seq (fun K4 hK4 => ?_)
  refine code_region ?_
  refine list_cons rfl (op_q (q_assign rfl (by decide)) ?_)
  refine list_nil ?_
  refine hK4 _ ?_; clear hK4 K4
  refine code_block ?_
  refine code_loop (X := Int × Int × Int) (fun x => [(0, .val (.str s)), (2, .val (.int .i64 x.1)), (3, .val (.int .i64 x.2.1)), (4, .val (.int .i64 x.2.2))]) (fun x => 0 ≤ x.2.2 ∧ x.2.2 ≤ s.length ∧ x.2.1 = (sumF (s.take x.2.2.toNat) : Nat)) (fun x => s.length - x.2.2.toNat) (_, _, _) (imp_covers ⟨rfl, rfl, rfl, rfl, trivial⟩) ?_ ?_
  · (try dsimp only)
    exact ⟨by omega, by omega, rfl⟩
  · intro x hI
    obtain ⟨t2, n, i⟩ := x
    replace hI : 0 ≤ i ∧ i ≤ s.length ∧ n = (sumF (s.take i.toNat) : Nat) := hI
    show codeT _ _ _ [(0, .val (.str s)), (2, .val (.int .i64 t2)), (3, .val (.int .i64 n)), (4, .val (.int .i64 i))] _
    obtain ⟨i1, i2, i3⟩ := hI
    have hl := sumF_lt s i.toNat (by omega)
    have hb : (s.getD i.toNat 0).toNat < 256 := UInt8.toNat_lt _
    refine code_seq (fun K5 hK5 => ?_)
    refine code_seq (fun K6 hK6 => ?_)
    refine code_region ?_
    refine list_cons rfl (op_q (q_move rfl (by decide)) ?_)
    refine list_cons rfl (op_q (q_move rfl (by decide)) ?_)
    refine list_cons rfl (op_q (q_len_str Tryd.underlying9 rfl (by decide)) ?_)
    refine list_cons rfl (op_q (q_lt rfl rfl (by decide)) ?_)
    refine list_nil ?_
    refine hK6 _ ?_; clear hK6 K6
    refine code_cond_d rfl (fun h1 => ?_) (fun h1 => ?_)
    · skip
      (try simp only [Decidable.not_not] at h1)
      refine code_skip ?_
      refine hK5 _ ?_; clear hK5 K5
      refine code_seq (fun K7 hK7 => ?_)
      refine code_block ?_
      refine code_region ?_
      refine list_cons rfl (op_q (q_move rfl (by decide)) ?_)
      refine list_cons rfl (op_q (by first | exact q_mulI rfl rfl (by decide) (by omega) (by omega) | exact q_ib rfl rfl rfl (by decide)) ?_)
      refine list_cons rfl (op_q (q_move rfl (by decide)) ?_)
      refine list_cons rfl (op_q (q_move rfl (by decide)) ?_)
      refine list_cons rfl (op_q (q_index_str Tryd.underlying9 rfl rfl (by omega) (by omega) (by decide)) ?_)
      refine list_cons rfl (op_q (by first | exact q_convB (by rw [Tryd.underlying5]; rfl) Tryd.underlying3 rfl (by decide) | exact q_convI (by rw [Tryd.underlying5]; rfl) Tryd.underlying3 rfl (by decide) (by omega) (by omega) | exact q_conv (by rw [Tryd.underlying5]; rfl) Tryd.underlying3 rfl (by decide)) ?_)
      refine list_cons rfl (op_q (by first | exact q_addI rfl rfl (by decide) (by omega) (by omega) | exact q_ib rfl rfl rfl (by decide)) ?_)
      refine list_cons rfl (op_q (by first | exact q_addI rfl rfl (by decide) (by omega) (by omega) | exact q_ib rfl rfl rfl (by decide)) ?_)
      refine list_cons rfl (op_q (by first | exact q_remI rfl rfl (by decide) (by omega) (by omega) | exact q_rem rfl rfl (by omega) (by decide)) ?_)
      refine list_cons rfl (op_q (q_assign rfl (by decide)) ?_)
      refine list_nil ?_
      refine blk_n ?_
      refine hK7 _ ?_; clear hK7 K7
      refine codeT.imp (σ' := [(0, _), (2, _), (3, _), (4, _)]) ?_ (imp_covers ⟨rfl, rfl, rfl, rfl, trivial⟩)
      refine code_region ?_
      refine list_cons rfl (op_q (q_move rfl (by decide)) ?_)
      refine list_cons rfl (op_q (by first | exact q_addI rfl rfl (by decide) (by omega) (by omega) | exact q_ib rfl rfl rfl (by decide)) ?_)
      refine list_cons rfl (op_q (q_assign rfl (by decide)) ?_)
      refine list_nil ?_
      refine then_n ⟨(_, _, _), imp_covers ⟨rfl, rfl, rfl, rfl, trivial⟩, ?_, ?_⟩
      · (try dsimp only)
        refine ⟨by omega, by omega, ?_⟩
        rw [show (i + 1).toNat = i.toNat + 1 by omega, sumF_snoc s (by omega), i3]; omega
      · (try dsimp only); omega
    · skip
      (try simp only [Decidable.not_not] at h1)
      refine code_exit ?_
      refine then_x ?_; clear hK5 K5
      refine then_x ?_
      refine blk_hit ?_
      refine hK3 _ ?_; clear hK3 K3
      refine code_seq (fun K8 hK8 => ?_)
      refine code_region ?_
      refine list_cons rfl (op_q (q_move rfl (by decide)) ?_)
      refine list_cons rfl (op_q (q_assign rfl (by decide)) ?_)
      refine list_nil ?_
      refine hK8 _ ?_; clear hK8 K8
      refine code_ret ?_
      refine ends_ret (cs := []) rfl rfl rfl rfl trivial ?_
      rw [i3, List.take_of_length_le (by omega)]

set_option maxRecDepth 4000 in
theorem l1Seal_c (s : List UInt8) (hs : s.length ≤ 4611686018427387904) : PCalls Tryd.prog 27 [.str s] (· = [.val (.str (sealT s))]) := by
  refine pcalls_of_code (n := 9) az Tryd.func27 (by kernel_rfl) rfl rfl (Nat.le_of_ble_eq_true rfl) (by intro t u h; simp [Tryd.f27] at h) ?_
  have hl := sumF_all s
  have hi := itoa_sum s
  refine code_seq (fun K1 hK1 => ?_)
  refine code_region ?_
  refine list_cons rfl (op_q (q_assign rfl (by decide)) ?_)
  refine list_nil ?_
  refine hK1 _ ?_; clear hK1 K1
  refine code_seq (fun K2 hK2 => ?_)
  refine code_region ?_
  refine list_cons rfl (op_q (q_move rfl (by decide)) ?_)
  refine list_cons rfl (op_q (q_cat rfl rfl (by first | omega | (simp only [List.length_append, List.length_cons, List.length_nil]; omega) | (simp; omega)) (by decide)) ?_)
  refine list_cons rfl (op_q (q_move rfl (by decide)) ?_)
  refine list_cons rfl (op_call _ (l1Sum_c _ (by omega)) rfl rfl (by decide) (by decide) (by decide) rfl ?_)
  rintro _ rfl
  refine list_cons rfl (op_call _ (l1Num_any _ (by omega) (by omega)) rfl rfl (by decide) (by decide) (by decide) rfl ?_)
  rintro _ rfl
  refine list_cons rfl (op_q (q_cat rfl rfl (by first | omega | (simp only [List.length_append, List.length_cons, List.length_nil]; omega) | (simp; omega)) (by decide)) ?_)
  refine list_cons rfl (op_q (q_assign rfl (by decide)) ?_)
  refine list_nil ?_
  refine hK2 _ ?_; clear hK2 K2
  refine codeT.imp (σ' := [(0, _), (2, _)]) ?_ (imp_covers ⟨rfl, rfl, trivial⟩)
  refine code_ret ?_
  refine ends_ret (cs := []) rfl rfl rfl rfl trivial ?_
  rfl

theorem nm_u8 {a b : UInt8} (h : (a.toNat : Int) = (b.toNat : Int)) : a = b := UInt8.toNat_inj.mp (by omega)
theorem nm_take (b : UInt8) (s : List UInt8) {k : Nat} (h : k < s.length) (h1 : b ∉ s.take k) (h2 : ¬ s.getD k 0 = b) : b ∉ s.take (k + 1) := by
  rw [take_snocL s k h]
  simp only [List.mem_append, List.mem_singleton, not_or]
  exact ⟨h1, fun e => h2 e.symm⟩
theorem nm_at (b : UInt8) (s : List UInt8) {k : Nat} (h : k < s.length) (h2 : s.getD k 0 = b) : b ∈ s := by
  have : s.getD k 0 = s[k] := by simp [h]
  rw [← h2, this]; exact List.getElem_mem h

set_option maxRecDepth 4000 in
theorem stands_c (s : List UInt8) (b : UInt8) (hs : s.length ≤ 4611686018427387904) : PCalls Tryd.prog 26 [.str s, .int .u8 b.toNat] (· = [.val (.bool (decide (b ∈ s)))]) := by
  refine pcalls_of_code (n := 17) az Tryd.func26 (by kernel_rfl) rfl rfl (Nat.le_of_ble_eq_true rfl) (by intro t u h; simp [Tryd.f26] at h) ?_
  refine code_seq (fun K1 hK1 => ?_)
  refine code_region ?_
  refine list_cons rfl (op_q (q_assign rfl (by decide)) ?_)
  refine list_nil ?_
  refine hK1 _ ?_; clear hK1 K1
  refine code_seq (fun K2 hK2 => ?_)
  refine code_seq (fun K3 hK3 => ?_)
  refine code_region ?_
  refine list_cons rfl (op_q (q_assign rfl (by decide)) ?_)
  refine list_nil ?_
  refine hK3 _ ?_; clear hK3 K3
  refine code_block ?_
  refine code_loop (X := Bool × Int) (fun x => [(0, .val (.str s)), (1, .val (.int .u8 b.toNat)), (4, .val (.bool x.1)), (5, .val (.int .i64 x.2))]) (fun x => 0 ≤ x.2 ∧ x.2 ≤ s.length ∧ b ∉ s.take x.2.toNat) (fun x => s.length - x.2.toNat) (_, _) (imp_covers ⟨rfl, rfl, rfl, rfl, trivial⟩) ?_ ?_
  · (try dsimp only)
    exact ⟨by omega, by omega, by simp⟩
  · intro x hI
    obtain ⟨t4, i⟩ := x
    replace hI : 0 ≤ i ∧ i ≤ s.length ∧ b ∉ s.take i.toNat := hI
    show codeT _ _ _ [(0, .val (.str s)), (1, .val (.int .u8 b.toNat)), (4, .val (.bool t4)), (5, .val (.int .i64 i))] _
    obtain ⟨i1, i2, i3⟩ := hI
    refine code_seq (fun K4 hK4 => ?_)
    refine code_seq (fun K5 hK5 => ?_)
    refine code_region ?_
    refine list_cons rfl (op_q (q_move rfl (by decide)) ?_)
    refine list_cons rfl (op_q (q_move rfl (by decide)) ?_)
    refine list_cons rfl (op_q (q_len_str Tryd.underlying9 rfl (by decide)) ?_)
    refine list_cons rfl (op_q (q_lt rfl rfl (by decide)) ?_)
    refine list_nil ?_
    refine hK5 _ ?_; clear hK5 K5
    refine code_cond_d rfl (fun h1 => ?_) (fun h1 => ?_)
    · skip
      (try simp only [Decidable.not_not] at h1)
      refine code_skip ?_
      refine hK4 _ ?_; clear hK4 K4
      refine code_seq (fun K6 hK6 => ?_)
      refine code_block ?_
      refine code_seq (fun K7 hK7 => ?_)
      refine code_region ?_
      refine list_cons rfl (op_q (q_move rfl (by decide)) ?_)
      refine list_cons rfl (op_q (q_move rfl (by decide)) ?_)
      refine list_cons rfl (op_q (q_index_str Tryd.underlying9 rfl rfl (by omega) (by omega) (by decide)) ?_)
      refine list_cons rfl (op_q (q_move rfl (by decide)) ?_)
      refine list_cons rfl (op_q (q_eq rfl rfl (by decide)) ?_)
      refine list_nil ?_
      refine hK7 _ ?_; clear hK7 K7
      refine codeT.imp (σ' := [(0, _), (1, _), (4, _), (5, _), (16, _)]) ?_ (imp_covers ⟨rfl, rfl, rfl, rfl, rfl, trivial⟩)
      refine code_cond_d rfl (fun h2 => ?_) (fun h2 => ?_)
      · skip
        (try simp only [Decidable.not_not] at h2)
        refine code_seq (fun K8 hK8 => ?_)
        refine code_region ?_
        refine list_cons rfl (op_q (q_assign rfl (by decide)) ?_)
        refine list_nil ?_
        refine hK8 _ ?_; clear hK8 K8
        refine code_ret ?_
        refine blk_r ?_
        refine then_r ?_; clear hK6 K6
        refine then_r ?_
        refine blk_r ?_
        refine then_r ?_; clear hK2 K2
        refine ends_ret (cs := []) rfl rfl rfl rfl trivial ?_
        rw [decide_eq_true (nm_at b s (k := i.toNat) (by omega) (nm_u8 h2))]
      · skip
        (try simp only [Decidable.not_not] at h2)
        refine code_skip ?_
        refine blk_n ?_
        refine hK6 _ ?_; clear hK6 K6
        refine code_region ?_
        refine list_cons rfl (op_q (q_move rfl (by decide)) ?_)
        refine list_cons rfl (op_q (by first | exact q_addI rfl rfl (by decide) (by omega) (by omega) | exact q_ib rfl rfl rfl (by decide)) ?_)
        refine list_cons rfl (op_q (q_assign rfl (by decide)) ?_)
        refine list_nil ?_
        refine then_n ⟨(_, _), imp_covers ⟨rfl, rfl, rfl, rfl, trivial⟩, ?_, ?_⟩
        · (try dsimp only)
          refine ⟨by omega, by omega, ?_⟩
          rw [show (i + 1).toNat = i.toNat + 1 by omega]
          exact nm_take b s (by omega) i3 (fun e => h2 (by rw [e]))
        · (try dsimp only); omega
    · skip
      (try simp only [Decidable.not_not] at h1)
      refine code_exit ?_
      refine then_x ?_; clear hK4 K4
      refine then_x ?_
      refine blk_hit ?_
      refine hK2 _ ?_; clear hK2 K2
      refine code_seq (fun K9 hK9 => ?_)
      refine code_region ?_
      refine list_cons rfl (op_q (q_assign rfl (by decide)) ?_)
      refine list_nil ?_
      refine hK9 _ ?_; clear hK9 K9
      refine code_ret ?_
      refine ends_ret (cs := []) rfl rfl rfl rfl trivial ?_
      rw [List.take_of_length_le (by omega)] at i3; rw [decide_eq_false i3]

set_option maxRecDepth 4000 in
theorem spec_AppendChecksum (s : List UInt8) (hs : s.length ≤ 4611686018427387904) : PCalls Tryd.prog 12 [.str s] (· = [.val (.str (if AcP s then sealT s else [])), .val (.bool (decide (AcP s)))]) := by
  refine pcalls_of_code (n := 19) az Tryd.func12 (by kernel_rfl) rfl rfl (Nat.le_of_ble_eq_true rfl) (by intro t u h; simp [Tryd.f12] at h) ?_
  have hl := sealT_len s
  refine code_seq (fun K1 hK1 => ?_)
  refine code_region ?_
  refine list_cons rfl (op_q (q_assign rfl (by decide)) ?_)
  refine list_cons rfl (op_q (q_assign rfl (by decide)) ?_)
  refine list_nil ?_
  refine hK1 _ ?_; clear hK1 K1
  refine code_seq (fun K2 hK2 => ?_)
  refine code_seq (fun K3 hK3 => ?_)
  refine code_region ?_
  refine list_cons rfl (op_q (q_move rfl (by decide)) ?_)
  refine list_cons rfl (op_q (q_len_str Tryd.underlying9 rfl (by decide)) ?_)
  refine list_cons rfl (op_q (q_gt rfl rfl (by decide)) ?_)
  refine list_cons rfl (op_q (q_move rfl (by decide)) ?_)
  refine list_guard_d rfl rfl rfl rfl (by decide) rfl (by decide) (fun h1 => ?_) (fun h1 => ?_)
  · simp only [Bool.false_eq_true, if_true, if_false, Decidable.not_not] at h1
    refine id (op_q (q_move rfl (by decide)) ?_)
    refine list_guard_y rfl rfl rfl rfl (by decide) rfl ?_
    refine id (op_call _ (stands_c _ 35 (by omega)) rfl rfl (by decide) (by decide) (by decide) rfl ?_)
    rintro _ rfl
    refine list_cons rfl (op_q (q_pick rfl rfl (by decide)) ?_)
    refine list_cons rfl (op_q (q_move rfl (by decide)) ?_)
    refine list_guard_d rfl rfl rfl rfl (by decide) rfl (by decide) (fun h2 => ?_) (fun h2 => ?_)
    · simp only [Bool.false_eq_true, if_true, if_false, Decidable.not_not] at h2
      refine id (op_q (q_move rfl (by decide)) ?_)
      refine list_guard_y rfl rfl rfl rfl (by decide) rfl ?_
      refine id (op_call _ (l1Seal_c _ (by omega)) rfl rfl (by decide) (by decide) (by decide) rfl ?_)
      rintro _ rfl
      refine list_guard_y rfl rfl rfl rfl (by decide) rfl ?_
      refine id (op_q (q_len_str Tryd.underlying9 rfl (by decide)) ?_)
      refine list_guard_y rfl rfl rfl rfl (by decide) rfl ?_
      refine id (op_q (q_gt rfl rfl (by decide)) ?_)
      refine list_cons rfl (op_q (q_pick rfl rfl (by decide)) ?_)
      refine list_nil ?_
      refine hK3 _ ?_; clear hK3 K3
      refine codeT.imp (σ' := [(0, _), (2, _), (3, _), (16, _)]) ?_ (imp_covers ⟨rfl, rfl, rfl, rfl, trivial⟩)
      refine code_cond_d rfl (fun h3 => ?_) (fun h3 => ?_)
      · skip
        (try simp only [Decidable.not_not] at h3)
        refine code_seq (fun K4 hK4 => ?_)
        refine code_region ?_
        refine list_cons rfl (op_q (q_assign rfl (by decide)) ?_)
        refine list_cons rfl (op_q (q_assign rfl (by decide)) ?_)
        refine list_nil ?_
        refine hK4 _ ?_; clear hK4 K4
        refine code_ret ?_
        refine then_r ?_; clear hK2 K2
        refine ends_ret (cs := []) rfl rfl rfl rfl trivial ?_
        first
          | (have e : ¬ AcP s := fun k => by have k1 := k.1; omega
             simp only [if_neg e, decide_eq_false e])
          | (have e : ¬ AcP s := fun k => k.2.1 (by assumption)
             simp only [if_neg e, decide_eq_false e])
          | (have e : ¬ AcP s := fun k => by have k1 := k.2.2; omega
             simp only [if_neg e, decide_eq_false e])
          | (have e : AcP s := ⟨by omega, by assumption, by omega⟩
             simp only [if_pos e, decide_eq_true e] <;> rfl)
      · skip
        (try simp only [Decidable.not_not] at h3)
        refine code_skip ?_
        refine hK2 _ ?_; clear hK2 K2
        refine code_seq (fun K5 hK5 => ?_)
        refine code_region ?_
        refine list_cons rfl (op_q (q_move rfl (by decide)) ?_)
        refine list_cons rfl (op_call _ (l1Seal_c _ (by omega)) rfl rfl (by decide) (by decide) (by decide) rfl ?_)
        rintro _ rfl
        refine list_cons rfl (op_q (q_assign rfl (by decide)) ?_)
        refine list_cons rfl (op_q (q_assign rfl (by decide)) ?_)
        refine list_nil ?_
        refine hK5 _ ?_; clear hK5 K5
        refine codeT.imp (σ' := [(0, _), (2, _), (3, _)]) ?_ (imp_covers ⟨rfl, rfl, rfl, trivial⟩)
        refine code_ret ?_
        refine ends_ret (cs := []) rfl rfl rfl rfl trivial ?_
        first
          | (have e : ¬ AcP s := fun k => by have k1 := k.1; omega
             simp only [if_neg e, decide_eq_false e])
          | (have e : ¬ AcP s := fun k => k.2.1 (by assumption)
             simp only [if_neg e, decide_eq_false e])
          | (have e : ¬ AcP s := fun k => by have k1 := k.2.2; omega
             simp only [if_neg e, decide_eq_false e])
          | (have e : AcP s := ⟨by omega, by assumption, by omega⟩
             simp only [if_pos e, decide_eq_true e] <;> rfl)
    · simp only [Bool.false_eq_true, if_true, if_false, Decidable.not_not] at h2
      refine list_guard_n rfl rfl rfl rfl (by decide) rfl ?_
      refine list_guard_n rfl rfl rfl rfl (by decide) rfl ?_
      refine list_guard_n rfl rfl rfl rfl (by decide) rfl ?_
      refine list_cons rfl (op_q (q_pick rfl rfl (by decide)) ?_)
      refine list_nil ?_
      refine hK3 _ ?_; clear hK3 K3
      refine codeT.imp (σ' := [(0, _), (2, _), (3, _), (16, _)]) ?_ (imp_covers ⟨rfl, rfl, rfl, rfl, trivial⟩)
      refine code_cond_t rfl ?_
      refine code_seq (fun K6 hK6 => ?_)
      refine code_region ?_
      refine list_cons rfl (op_q (q_assign rfl (by decide)) ?_)
      refine list_cons rfl (op_q (q_assign rfl (by decide)) ?_)
      refine list_nil ?_
      refine hK6 _ ?_; clear hK6 K6
      refine code_ret ?_
      refine then_r ?_; clear hK2 K2
      refine ends_ret (cs := []) rfl rfl rfl rfl trivial ?_
      first
        | (have e : ¬ AcP s := fun k => by have k1 := k.1; omega
           simp only [if_neg e, decide_eq_false e])
        | (have e : ¬ AcP s := fun k => k.2.1 (by assumption)
           simp only [if_neg e, decide_eq_false e])
        | (have e : ¬ AcP s := fun k => by have k1 := k.2.2; omega
           simp only [if_neg e, decide_eq_false e])
        | (have e : AcP s := ⟨by omega, by assumption, by omega⟩
           simp only [if_pos e, decide_eq_true e] <;> rfl)
  · simp only [Bool.false_eq_true, if_true, if_false, Decidable.not_not] at h1
    refine list_guard_n rfl rfl rfl rfl (by decide) rfl ?_
    refine list_cons rfl (op_q (q_pick rfl rfl (by decide)) ?_)
    refine list_cons rfl (op_q (q_move rfl (by decide)) ?_)
    refine list_guard_n rfl rfl rfl rfl (by decide) rfl ?_
    refine list_guard_n rfl rfl rfl rfl (by decide) rfl ?_
    refine list_guard_n rfl rfl rfl rfl (by decide) rfl ?_
    refine list_guard_n rfl rfl rfl rfl (by decide) rfl ?_
    refine list_cons rfl (op_q (q_pick rfl rfl (by decide)) ?_)
    refine list_nil ?_
    refine hK3 _ ?_; clear hK3 K3
    refine code_cond_t rfl ?_
    refine code_seq (fun K7 hK7 => ?_)
    refine code_region ?_
    refine list_cons rfl (op_q (q_assign rfl (by decide)) ?_)
    refine list_cons rfl (op_q (q_assign rfl (by decide)) ?_)
    refine list_nil ?_
    refine hK7 _ ?_; clear hK7 K7
    refine codeT.imp (σ' := [(0, _), (2, _), (3, _)]) ?_ (imp_covers ⟨rfl, rfl, rfl, trivial⟩)
    refine code_ret ?_
    refine then_r ?_; clear hK2 K2
    refine ends_ret (cs := []) rfl rfl rfl rfl trivial ?_
    first
      | (have e : ¬ AcP s := fun k => by have k1 := k.1; omega
         simp only [if_neg e, decide_eq_false e])
      | (have e : ¬ AcP s := fun k => k.2.1 (by assumption)
         simp only [if_neg e, decide_eq_false e])
      | (have e : ¬ AcP s := fun k => by have k1 := k.2.2; omega
         simp only [if_neg e, decide_eq_false e])
      | (have e : AcP s := ⟨by omega, by assumption, by omega⟩
         simp only [if_pos e, decide_eq_true e] <;> rfl)

theorem ib_none {c : UInt8} : ∀ {l : List UInt8}, Lib.indexByte l c < 0 → c ∉ l
  | [], _ => by simp
  | b :: l, h => by
    unfold Lib.indexByte at h
    split at h
    · omega
    · rename_i hb
      have hge := Lib.indexByte_ge l c
      split at h
      · rename_i h1
        have h1' : Lib.indexByte l c = -1 := by simpa using h1
        have := ib_none (l := l) (c := c) (by omega)
        simp only [List.mem_cons, not_or]
        exact ⟨fun e => hb (by simp [e]), this⟩
      · rename_i h1
        have h1' : Lib.indexByte l c ≠ -1 := by simpa using h1
        omega
theorem ib_some {c : UInt8} : ∀ {l : List UInt8}, 0 ≤ Lib.indexByte l c → (Lib.indexByte l c).toNat < l.length ∧ l.getD (Lib.indexByte l c).toNat 0 = c ∧ c ∉ l.take (Lib.indexByte l c).toNat
  | [], h => by simp [Lib.indexByte] at h
  | b :: l, h => by
    have hge := Lib.indexByte_ge l c
    by_cases hb : (b == c) = true
    · have e : Lib.indexByte (b :: l) c = 0 := by unfold Lib.indexByte; rw [if_pos hb]
      rw [e]
      have hb' : b = c := by simpa using hb
      simp [hb']
    · by_cases h1 : Lib.indexByte l c = -1
      · have e : Lib.indexByte (b :: l) c = -1 := by unfold Lib.indexByte; rw [if_neg hb, if_pos (by simpa using h1)]
        rw [e] at h; omega
      · have e : Lib.indexByte (b :: l) c = Lib.indexByte l c + 1 := by
          show (if (b == c) = true then (0 : Int) else if (Lib.indexByte l c == -1) = true then -1 else Lib.indexByte l c + 1) = _
          rw [if_neg hb, if_neg (by simpa using h1)]
        obtain ⟨g1, g2, g3⟩ := ib_some (l := l) (c := c) (by omega)
        rw [e, show (Lib.indexByte l c + 1).toNat = (Lib.indexByte l c).toNat + 1 by omega]
        refine ⟨by simp; omega, by simpa using g2, ?_⟩
        simp only [List.take_succ_cons, List.mem_cons, not_or]
        exact ⟨fun e => hb (by simp [e]), g3⟩
theorem sp_fold (b : UInt8) : ∀ (l : List UInt8) (p q : List (List UInt8)) (r : List UInt8), l.foldl (fun (acc : List (List UInt8) × List UInt8) c => if c = b then (acc.1 ++ [acc.2], []) else (acc.1, acc.2 ++ [c])) (p ++ q, r) = (p ++ (l.foldl (fun (acc : List (List UInt8) × List UInt8) c => if c = b then (acc.1 ++ [acc.2], []) else (acc.1, acc.2 ++ [c])) (q, r)).1, (l.foldl (fun (acc : List (List UInt8) × List UInt8) c => if c = b then (acc.1 ++ [acc.2], []) else (acc.1, acc.2 ++ [c])) (q, r)).2)
  | [], p, q, r => rfl
  | c :: l, p, q, r => by
    simp only [List.foldl_cons]
    by_cases h : c = b
    · rw [if_pos h, if_pos h, List.append_assoc]; exact sp_fold b l p (q ++ [r]) []
    · rw [if_neg h, if_neg h]; exact sp_fold b l p q (r ++ [c])
theorem sp_miss (b : UInt8) : ∀ (l r : List UInt8), b ∉ l → l.foldl (fun (acc : List (List UInt8) × List UInt8) c => if c = b then (acc.1 ++ [acc.2], []) else (acc.1, acc.2 ++ [c])) ([], r) = ([], r ++ l)
  | [], r, _ => by simp
  | c :: l, r, h => by
    simp only [List.mem_cons, not_or] at h
    simp only [List.foldl_cons]
    rw [if_neg (fun e => h.1 e.symm), sp_miss b l (r ++ [c]) h.2]; simp
theorem splitL_none {b : UInt8} {s : List UInt8} (h : b ∉ s) : splitL b s = [s] := by
  unfold splitL splitF; rw [sp_miss b s [] h]; rfl
theorem splitL_at {b : UInt8} {s : List UInt8} {i : Nat} (hi : i < s.length) (h1 : s.getD i 0 = b) (h2 : b ∉ s.take i) : splitL b s = s.take i :: splitL b (s.drop (i + 1)) := by
  have e : s = s.take i ++ b :: s.drop (i + 1) := by
    have h3 : s[i] = b := by rw [← h1]; simp [hi]
    have h4 : s.drop i = s[i] :: s.drop (i + 1) := List.drop_eq_getElem_cons hi
    rw [← h3, ← h4, List.take_append_drop]
  have key : splitL b (s.take i ++ b :: s.drop (i + 1)) = s.take i :: splitL b (s.drop (i + 1)) := by
    unfold splitL splitF
    rw [List.foldl_append, sp_miss b _ [] h2, List.nil_append, List.foldl_cons, if_pos rfl]
    simp only [List.nil_append]
    have := sp_fold b (s.drop (i + 1)) [s.take i] [] []
    simp only [List.append_nil] at this
    rw [this]; simp
  rw [← e] at key; exact key
theorem splitL_ne (b : UInt8) (s : List UInt8) : 0 < (splitL b s).length := by unfold splitL; simp
def strLen : Value → Nat
  | .string t => t.size
  | _ => 0


theorem ib_mem (s : List UInt8) (c : UInt8) : 0 ≤ Lib.indexByte s c ↔ c ∈ s := by
  constructor
  · intro h
    obtain ⟨g1, g2, _⟩ := ib_some h
    have : s.getD (Lib.indexByte s c).toNat 0 = s[(Lib.indexByte s c).toNat] := by simp [g1]
    rw [← g2, this]; exact List.getElem_mem g1
  · intro h
    by_cases hn : Lib.indexByte s c < 0
    · exact absurd h (ib_none hn)
    · omega
theorem headT_eq (s : List UInt8) : headT s = if 0 ≤ Lib.indexByte s 35 then s.take (Lib.indexByte s 35).toNat else s := by
  unfold headT
  by_cases h : 0 ≤ Lib.indexByte s 35
  · obtain ⟨g1, g2, g3⟩ := ib_some h
    rw [if_pos h, splitL_at g1 g2 g3]; rfl
  · rw [if_neg h, splitL_none (ib_none (by omega))]; rfl
theorem ib_le (s : List UInt8) (c : UInt8) : Lib.indexByte s c ≤ s.length := by
  by_cases h : 0 ≤ Lib.indexByte s c
  · have := (ib_some h).1; omega
  · omega
theorem headT_not (s : List UInt8) : 35 ∉ headT s := by
  rw [headT_eq]
  split
  · rename_i h; exact (ib_some h).2.2
  · rename_i h; exact ib_none (by omega)
theorem headT_len (s : List UInt8) : (headT s).length ≤ s.length := by
  rw [headT_eq]; split
  · simp; omega
  · omega
theorem vc_iff (s : List UInt8) : (AcP (headT s) ∧ sealT (headT s) = s) ↔ VcP s := by
  constructor
  · rintro ⟨⟨_, _, h3⟩, h⟩
    rw [h] at h3
    exact ⟨h3, h⟩
  · rintro ⟨h1, h2⟩
    have := headT_len s
    exact ⟨⟨by omega, headT_not s, by rw [h2]; exact h1⟩, h2⟩


set_option maxRecDepth 4000 in
theorem impl_Checksum (s : List UInt8) (hs : s.length ≤ 4611686018427387904) : PCalls Tryd.prog 28 [.str s] (· = [.val (.int .i64 (if s.length ≤ 4000 then (sumF s : Int) else 0)), .val (.bool (decide (s.length ≤ 4000)))]) := by
  refine pcalls_of_code (n := 25) az Tryd.func28 (by kernel_rfl) rfl rfl (Nat.le_of_ble_eq_true rfl) (by intro t u h; simp [Tryd.f28] at h) ?_
  refine code_seq (fun K1 hK1 => ?_)
  refine code_region ?_
  refine list_cons rfl (op_q (q_assign rfl (by decide)) ?_)
  refine list_cons rfl (op_q (q_assign rfl (by decide)) ?_)
  refine list_nil ?_
  refine hK1 _ ?_; clear hK1 K1
  refine code_seq (fun K2 hK2 => ?_)
  refine code_seq (fun K3 hK3 => ?_)
  refine code_region ?_
  refine list_cons rfl (op_q (q_move rfl (by decide)) ?_)
  refine list_cons rfl (op_q (q_len_str Tryd.underlying9 rfl (by decide)) ?_)
  refine list_cons rfl (op_q (q_gt rfl rfl (by decide)) ?_)
  refine list_nil ?_
  refine hK3 _ ?_; clear hK3 K3
  refine code_cond_d rfl (fun h1 => ?_) (fun h1 => ?_)
  · skip
    (try simp only [Decidable.not_not] at h1)
    refine code_seq (fun K4 hK4 => ?_)
    refine code_region ?_
    refine list_cons rfl (op_q (q_assign rfl (by decide)) ?_)
    refine list_cons rfl (op_q (q_assign rfl (by decide)) ?_)
    refine list_nil ?_
    refine hK4 _ ?_; clear hK4 K4
    refine code_ret ?_
    refine then_r ?_; clear hK2 K2
    refine ends_ret (cs := []) rfl rfl rfl rfl trivial ?_
    simp only [if_neg (show ¬ s.length ≤ 4000 by omega), decide_eq_false (show ¬ s.length ≤ 4000 by omega)]
  · skip
    (try simp only [Decidable.not_not] at h1)
    refine code_skip ?_
    refine hK2 _ ?_; clear hK2 K2
    refine code_seq (fun K5 hK5 => ?_)
    refine code_region ?_
    refine list_cons rfl (op_q (q_assign rfl (by decide)) ?_)
    refine list_nil ?_
    refine hK5 _ ?_; clear hK5 K5
    refine code_seq (fun K6 hK6 => ?_)
    refine code_seq (fun K7 hK7 => ?_)
    refine code_region ?_
    refine list_cons rfl (op_q (q_move rfl (by decide)) ?_)
    refine list_cons rfl (op_q (q_len_str Tryd.underlying9 rfl (by decide)) ?_)
    refine list_cons rfl (op_q (q_move rfl (by decide)) ?_)
    refine list_nil ?_
    refine hK7 _ ?_; clear hK7 K7
    refine code_block ?_
    refine code_loop (X := Int × Bool × Int × Int) (fun x => [(0, .val (.str s)), (2, .val (.int .i64 x.1)), (3, .val (.bool x.2.1)), (4, .val (.int .i64 x.2.2.1)), (10, .val (.int .i64 s.length)), (11, .val (.int .i64 x.2.2.2))]) (fun x => 0 ≤ x.2.2.2 ∧ x.2.2.2 ≤ s.length ∧ x.2.2.1 = (sumF (s.take x.2.2.2.toNat) : Nat)) (fun x => s.length - x.2.2.2.toNat) (_, _, _, _) (imp_covers ⟨rfl, rfl, rfl, rfl, rfl, rfl, trivial⟩) ?_ ?_
    · (try dsimp only)
      exact ⟨by omega, by omega, rfl⟩
    · intro x hI
      obtain ⟨t2, t3, sum, t11⟩ := x
      replace hI : 0 ≤ t11 ∧ t11 ≤ s.length ∧ sum = (sumF (s.take t11.toNat) : Nat) := hI
      show codeT _ _ _ [(0, .val (.str s)), (2, .val (.int .i64 t2)), (3, .val (.bool t3)), (4, .val (.int .i64 sum)), (10, .val (.int .i64 s.length)), (11, .val (.int .i64 t11))] _
      obtain ⟨i1, i2, i3⟩ := hI
      have hl := sumF_lt s t11.toNat (by omega)
      have hb : (s.getD t11.toNat 0).toNat < 256 := UInt8.toNat_lt _
      refine code_seq (fun K8 hK8 => ?_)
      refine code_region ?_
      refine list_cons rfl (op_q (q_lt rfl rfl (by decide)) ?_)
      refine list_nil ?_
      refine hK8 _ ?_; clear hK8 K8
      refine code_seq (fun K9 hK9 => ?_)
      refine code_cond_d rfl (fun h2 => ?_) (fun h2 => ?_)
      · skip
        (try simp only [Decidable.not_not] at h2)
        refine code_skip ?_
        refine hK9 _ ?_; clear hK9 K9
        refine code_seq (fun K10 hK10 => ?_)
        refine code_block ?_
        refine code_seq (fun K11 hK11 => ?_)
        refine code_region ?_
        refine list_cons rfl (op_q (q_move rfl (by decide)) ?_)
        refine list_cons rfl (op_q (q_assign rfl (by decide)) ?_)
        refine list_nil ?_
        refine hK11 _ ?_; clear hK11 K11
        refine code_region ?_
        refine list_cons rfl (op_q (q_move rfl (by decide)) ?_)
        refine list_cons rfl (op_q (by first | exact q_mulI rfl rfl (by decide) (by omega) (by omega) | exact q_ib rfl rfl rfl (by decide)) ?_)
        refine list_cons rfl (op_q (q_move rfl (by decide)) ?_)
        refine list_cons rfl (op_q (q_move rfl (by decide)) ?_)
        refine list_cons rfl (op_q (q_index_str Tryd.underlying9 rfl rfl (by omega) (by omega) (by decide)) ?_)
        refine list_cons rfl (op_q (by first | exact q_convB (by rw [Tryd.underlying5]; rfl) Tryd.underlying3 rfl (by decide) | exact q_convI (by rw [Tryd.underlying5]; rfl) Tryd.underlying3 rfl (by decide) (by omega) (by omega) | exact q_conv (by rw [Tryd.underlying5]; rfl) Tryd.underlying3 rfl (by decide)) ?_)
        refine list_cons rfl (op_q (by first | exact q_addI rfl rfl (by decide) (by omega) (by omega) | exact q_ib rfl rfl rfl (by decide)) ?_)
        refine list_cons rfl (op_q (by first | exact q_addI rfl rfl (by decide) (by omega) (by omega) | exact q_ib rfl rfl rfl (by decide)) ?_)
        refine list_cons rfl (op_q (by first | exact q_remI rfl rfl (by decide) (by omega) (by omega) | exact q_rem rfl rfl (by omega) (by decide)) ?_)
        refine list_cons rfl (op_q (q_assign rfl (by decide)) ?_)
        refine list_nil ?_
        refine blk_n ?_
        refine hK10 _ ?_; clear hK10 K10
        refine codeT.imp (σ' := [(0, _), (2, _), (3, _), (4, _), (5, _), (10, _), (11, _)]) ?_ (imp_covers ⟨rfl, rfl, rfl, rfl, rfl, rfl, rfl, trivial⟩)
        refine code_region ?_
        refine list_cons rfl (op_q (by first | exact q_addI rfl rfl (by decide) (by omega) (by omega) | exact q_ib rfl rfl rfl (by decide)) ?_)
        refine list_cons rfl (op_q (q_move rfl (by decide)) ?_)
        refine list_nil ?_
        refine then_n ⟨(_, _, _, _), imp_covers ⟨rfl, rfl, rfl, rfl, rfl, rfl, trivial⟩, ?_, ?_⟩
        · (try dsimp only)
          refine ⟨by omega, by omega, ?_⟩
          rw [show (t11 + 1).toNat = t11.toNat + 1 by omega, sumF_snoc s (by omega), i3]; omega
        · (try dsimp only); omega
      · skip
        (try simp only [Decidable.not_not] at h2)
        refine code_exit ?_
        refine then_x ?_; clear hK9 K9
        refine then_x ?_
        refine blk_hit ?_
        refine hK6 _ ?_; clear hK6 K6
        refine code_seq (fun K12 hK12 => ?_)
        refine code_region ?_
        refine list_cons rfl (op_q (q_move rfl (by decide)) ?_)
        refine list_cons rfl (op_q (q_assign rfl (by decide)) ?_)
        refine list_cons rfl (op_q (q_assign rfl (by decide)) ?_)
        refine list_nil ?_
        refine hK12 _ ?_; clear hK12 K12
        refine code_ret ?_
        refine ends_ret (cs := []) rfl rfl rfl rfl trivial ?_
        simp only [if_pos (show s.length ≤ 4000 by omega), decide_eq_true (show s.length ≤ 4000 by omega)]; rw [i3, List.take_of_length_le (by omega)]

theorem contains1_c (s : List UInt8) (b : UInt8) : PCalls Tryd.prog 29 [.str s, .str [b]] (· = [.val (.bool (decide (b ∈ s)))]) := by
  refine pcalls_flat (enters_of Tryd.func29 (by kernel_rfl) rfl) fun w vs ha => ?_
  obtain ⟨v0, r0, rfl, ha0, ha⟩ := repArgs_cons ha
  obtain ⟨v1, r1, rfl, ha1, ha⟩ := repArgs_cons ha
  obtain rfl := repArgs_nil ha
  simp only [Rep] at ha0 ha1
  subst ha0; subst ha1
  refine (Tryd.strings_Contains_one (.mk s.toArray) b w).mono fun e w' ⟨he, hw⟩ => ⟨[.bool (decide (b ∈ s))], [.bool (decide (b ∈ s))], ?_, hw ▸ Below.refl _ _, ⟨_, _, rfl, by simp [Rep], rfl⟩, rfl⟩
  rw [he]; show Ending.returned (.bool (decide (0 ≤ Lib.indexByte s b))) = _
  rw [show decide (0 ≤ Lib.indexByte s b) = decide (b ∈ s) from decide_eq_decide.mpr (ib_mem s b)]; rfl

theorem impl_FormatSum (s : List UInt8) (h : s.length ≤ 4000) : PCalls Tryd.prog 9 [.int .i64 (if s.length ≤ 4000 then (sumF s : Int) else 0)] (· = [.val (.str (Lib.itoa (sumF s : Int))), .val (.bool true)]) := by
  have hl := sumF_all s
  rw [if_pos h]
  refine (impl_FormatInt (sumF s : Int)).mono ?_
  rintro _ rfl
  rw [fmt_sum, decide_eq_true (by omega)]

set_option maxRecDepth 4000 in
theorem impl_AppendChecksum (s : List UInt8) (hs : s.length ≤ 4611686018427387904) : PCalls Tryd.prog 13 [.str s] (· = [.val (.str (if AcP s then sealT s else [])), .val (.bool (decide (AcP s)))]) := by
  refine pcalls_of_code (n := 34) az Tryd.func13 (by kernel_rfl) rfl rfl (Nat.le_of_ble_eq_true rfl) (by intro t u h; simp [Tryd.f13] at h) ?_
  have hl := sumF_all s
  have hi := itoa_sum s
  have hfs := fmt_sum s
  have hst : sealT s = s ++ [35] ++ Lib.itoa (sumF s : Int) := rfl
  have hsl2 : (s ++ [35] ++ Lib.itoa (sumF s : Int)).length = (sealT s).length := rfl
  have hsl := congrArg List.length hst
  simp only [List.length_append, List.length_singleton] at hsl
  refine code_seq (fun K1 hK1 => ?_)
  refine code_region ?_
  refine list_cons rfl (op_q (q_assign rfl (by decide)) ?_)
  refine list_cons rfl (op_q (q_assign rfl (by decide)) ?_)
  refine list_nil ?_
  refine hK1 _ ?_; clear hK1 K1
  refine code_seq (fun K2 hK2 => ?_)
  refine code_region ?_
  refine list_cons rfl (op_q (q_move rfl (by decide)) ?_)
  refine list_cons rfl (op_call _ (impl_Checksum _ (by omega)) rfl rfl (by decide) (by decide) (by decide) rfl ?_)
  rintro _ rfl
  refine list_cons rfl (op_q (q_move rfl (by decide)) ?_)
  refine list_cons rfl (op_q (q_extract rfl rfl (by decide)) ?_)
  refine list_cons rfl (op_q (q_extract rfl rfl (by decide)) ?_)
  refine list_cons rfl (op_q (q_assign rfl (by decide)) ?_)
  refine list_cons rfl (op_q (q_assign rfl (by decide)) ?_)
  refine list_nil ?_
  refine hK2 _ ?_; clear hK2 K2
  refine codeT.imp (σ' := [(0, _), (2, _), (3, _), (4, _), (5, _)]) ?_ (imp_covers ⟨rfl, rfl, rfl, rfl, rfl, trivial⟩)
  refine code_seq (fun K3 hK3 => ?_)
  refine code_seq (fun K4 hK4 => ?_)
  refine code_region ?_
  refine list_cons rfl (op_q (q_move rfl (by decide)) ?_)
  refine list_cons rfl (op_q (by first | exact q_notd rfl (by decide) | exact q_not rfl (by decide)) ?_)
  refine list_cons rfl (op_q (q_move rfl (by decide)) ?_)
  refine list_guard_d rfl rfl rfl rfl (by decide) rfl (by decide) (fun h1 => ?_) (fun h1 => ?_)
  · simp only [Bool.false_eq_true, if_true, if_false, Decidable.not_not] at h1
    refine id (op_q (q_move rfl (by decide)) ?_)
    refine list_guard_y rfl rfl rfl rfl (by decide) rfl ?_
    refine id (op_call _ (contains1_c _ 35) rfl rfl (by decide) (by decide) (by decide) rfl ?_)
    rintro _ rfl
    refine list_cons rfl (op_q (q_pick rfl rfl (by decide)) ?_)
    refine list_nil ?_
    refine hK4 _ ?_; clear hK4 K4
    refine codeT.imp (σ' := [(0, _), (2, _), (3, _), (4, _), (5, _), (18, _)]) ?_ (imp_covers ⟨rfl, rfl, rfl, rfl, rfl, rfl, trivial⟩)
    refine code_cond_d rfl (fun h2 => ?_) (fun h2 => ?_)
    · skip
      (try simp only [Decidable.not_not] at h2)
      refine code_seq (fun K5 hK5 => ?_)
      refine code_region ?_
      refine list_cons rfl (op_q (q_assign rfl (by decide)) ?_)
      refine list_cons rfl (op_q (q_assign rfl (by decide)) ?_)
      refine list_nil ?_
      refine hK5 _ ?_; clear hK5 K5
      refine code_ret ?_
      refine then_r ?_; clear hK3 K3
      refine ends_ret (cs := []) rfl rfl rfl rfl trivial ?_
      first
        | (have e : ¬ AcP s := fun k => by have k1 := k.1; omega
           simp only [if_neg e, decide_eq_false e])
        | (have e : ¬ AcP s := fun k => k.2.1 (by assumption)
           simp only [if_neg e, decide_eq_false e])
        | (have e : ¬ AcP s := fun k => by have k1 := k.2.2; omega
           simp only [if_neg e, decide_eq_false e])
        | (have e : AcP s := ⟨by omega, by assumption, by omega⟩
           simp only [if_pos e, decide_eq_true e] <;> rfl)
    · skip
      (try simp only [Decidable.not_not] at h2)
      refine code_skip ?_
      refine hK3 _ ?_; clear hK3 K3
      refine code_seq (fun K6 hK6 => ?_)
      refine code_region ?_
      refine list_cons rfl (op_q (q_move rfl (by decide)) ?_)
      refine list_cons rfl (op_call _ (impl_FormatSum s (by omega)) rfl rfl (by decide) (by decide) (by decide) rfl ?_)
      rintro _ rfl
      refine list_cons rfl (op_q (q_move rfl (by decide)) ?_)
      refine list_cons rfl (op_q (q_extract rfl rfl (by decide)) ?_)
      refine list_cons rfl (op_q (q_extract rfl rfl (by decide)) ?_)
      refine list_cons rfl (op_q (q_assign rfl (by decide)) ?_)
      refine list_cons rfl (op_q (q_assign rfl (by decide)) ?_)
      refine list_nil ?_
      refine hK6 _ ?_; clear hK6 K6
      refine codeT.imp (σ' := [(0, _), (2, _), (3, _), (4, _), (5, _), (6, _)]) ?_ (imp_covers ⟨rfl, rfl, rfl, rfl, rfl, rfl, trivial⟩)
      refine code_seq (fun K7 hK7 => ?_)
      refine code_seq (fun K8 hK8 => ?_)
      refine code_region ?_
      refine list_cons rfl (op_q (q_move rfl (by decide)) ?_)
      refine list_cons rfl (op_q (by first | exact q_notd rfl (by decide) | exact q_not rfl (by decide)) ?_)
      refine list_nil ?_
      refine hK8 _ ?_; clear hK8 K8
      refine code_cond_f rfl ?_
      refine code_skip ?_
      refine hK7 _ ?_; clear hK7 K7
      refine code_seq (fun K9 hK9 => ?_)
      refine code_region ?_
      refine list_cons rfl (op_q (q_move rfl (by decide)) ?_)
      refine list_cons rfl (op_q (q_cat rfl rfl (by first | omega | (simp only [List.length_append, List.length_cons, List.length_nil]; omega) | (simp; omega)) (by decide)) ?_)
      refine list_cons rfl (op_q (q_move rfl (by decide)) ?_)
      refine list_cons rfl (op_q (q_cat rfl rfl (by first | omega | (simp only [List.length_append, List.length_cons, List.length_nil]; omega) | (simp; omega)) (by decide)) ?_)
      refine list_cons rfl (op_q (q_assign rfl (by decide)) ?_)
      refine list_nil ?_
      refine hK9 _ ?_; clear hK9 K9
      refine code_seq (fun K10 hK10 => ?_)
      refine code_seq (fun K11 hK11 => ?_)
      refine code_region ?_
      refine list_cons rfl (op_q (q_move rfl (by decide)) ?_)
      refine list_cons rfl (op_q (q_len_str Tryd.underlying9 rfl (by decide)) ?_)
      refine list_cons rfl (op_q (q_gt rfl rfl (by decide)) ?_)
      refine list_nil ?_
      refine hK11 _ ?_; clear hK11 K11
      refine codeT.imp (σ' := [(0, _), (2, _), (3, _), (4, _), (5, _), (6, _), (7, _), (32, _)]) ?_ (imp_covers ⟨rfl, rfl, rfl, rfl, rfl, rfl, rfl, rfl, trivial⟩)
      refine code_cond_d rfl (fun h3 => ?_) (fun h3 => ?_)
      · skip
        (try simp only [Decidable.not_not] at h3)
        refine code_seq (fun K12 hK12 => ?_)
        refine code_region ?_
        refine list_cons rfl (op_q (q_assign rfl (by decide)) ?_)
        refine list_cons rfl (op_q (q_assign rfl (by decide)) ?_)
        refine list_nil ?_
        refine hK12 _ ?_; clear hK12 K12
        refine code_ret ?_
        refine then_r ?_; clear hK10 K10
        refine ends_ret (cs := []) rfl rfl rfl rfl trivial ?_
        first
          | (have e : ¬ AcP s := fun k => by have k1 := k.1; omega
             simp only [if_neg e, decide_eq_false e])
          | (have e : ¬ AcP s := fun k => k.2.1 (by assumption)
             simp only [if_neg e, decide_eq_false e])
          | (have e : ¬ AcP s := fun k => by have k1 := k.2.2; omega
             simp only [if_neg e, decide_eq_false e])
          | (have e : AcP s := ⟨by omega, by assumption, by omega⟩
             simp only [if_pos e, decide_eq_true e] <;> rfl)
      · skip
        (try simp only [Decidable.not_not] at h3)
        refine code_skip ?_
        refine hK10 _ ?_; clear hK10 K10
        refine code_seq (fun K13 hK13 => ?_)
        refine code_region ?_
        refine list_cons rfl (op_q (q_move rfl (by decide)) ?_)
        refine list_cons rfl (op_q (q_assign rfl (by decide)) ?_)
        refine list_cons rfl (op_q (q_assign rfl (by decide)) ?_)
        refine list_nil ?_
        refine hK13 _ ?_; clear hK13 K13
        refine code_ret ?_
        refine ends_ret (cs := []) rfl rfl rfl rfl trivial ?_
        first
          | (have e : ¬ AcP s := fun k => by have k1 := k.1; omega
             simp only [if_neg e, decide_eq_false e])
          | (have e : ¬ AcP s := fun k => k.2.1 (by assumption)
             simp only [if_neg e, decide_eq_false e])
          | (have e : ¬ AcP s := fun k => by have k1 := k.2.2; omega
             simp only [if_neg e, decide_eq_false e])
          | (have e : AcP s := ⟨by omega, by assumption, by omega⟩
             simp only [if_pos e, decide_eq_true e] <;> rfl)
  · simp only [Bool.false_eq_true, if_true, if_false, Decidable.not_not] at h1
    refine list_guard_n rfl rfl rfl rfl (by decide) rfl ?_
    refine list_cons rfl (op_q (q_pick rfl rfl (by decide)) ?_)
    refine list_nil ?_
    refine hK4 _ ?_; clear hK4 K4
    refine code_cond_t rfl ?_
    refine code_seq (fun K14 hK14 => ?_)
    refine code_region ?_
    refine list_cons rfl (op_q (q_assign rfl (by decide)) ?_)
    refine list_cons rfl (op_q (q_assign rfl (by decide)) ?_)
    refine list_nil ?_
    refine hK14 _ ?_; clear hK14 K14
    refine code_ret ?_
    refine then_r ?_; clear hK3 K3
    refine ends_ret (cs := []) rfl rfl rfl rfl trivial ?_
    first
      | (have e : ¬ AcP s := fun k => by have k1 := k.1; omega
         simp only [if_neg e, decide_eq_false e])
      | (have e : ¬ AcP s := fun k => k.2.1 (by assumption)
         simp only [if_neg e, decide_eq_false e])
      | (have e : ¬ AcP s := fun k => by have k1 := k.2.2; omega
         simp only [if_neg e, decide_eq_false e])
      | (have e : AcP s := ⟨by omega, by assumption, by omega⟩
         simp only [if_pos e, decide_eq_true e] <;> rfl)

theorem index1_c (s : List UInt8) (b : UInt8) : PCalls Tryd.prog 50 [.str s, .str [b]] (· = [.val (.int .i64 (Lib.indexByte s b))]) := by
  refine pcalls_flat (enters_of Tryd.func50 (by kernel_rfl) rfl) fun w vs ha => ?_
  obtain ⟨v0, r0, rfl, ha0, ha⟩ := repArgs_cons ha
  obtain ⟨v1, r1, rfl, ha1, ha⟩ := repArgs_cons ha
  obtain rfl := repArgs_nil ha
  simp only [Rep] at ha0 ha1
  subst ha0; subst ha1
  exact (Tryd.stringslite_Index_one (.mk s.toArray) b w).mono fun e w' ⟨he, hw⟩ => ⟨[.int .i64 (Lib.indexByte s b)], [.int .i64 (Lib.indexByte s b)], he, hw ▸ Below.refl _ _, ⟨_, _, rfl, by simp [Rep], rfl⟩, rfl⟩
def tailT (s : List UInt8) : List UInt8 := if 0 ≤ Lib.indexByte s 35 then s.drop ((Lib.indexByte s 35).toNat + 1) else []

set_option maxRecDepth 4000 in
theorem slCut_c (s : List UInt8) (hs : s.length ≤ 4611686018427387904) : PCalls Tryd.prog 42 [.str s, .str [35]] (· = [.val (.str (headT s)), .val (.str (tailT s)), .val (.bool (decide (0 ≤ Lib.indexByte s 35)))]) := by
  refine pcalls_of_code (n := 23) az Tryd.func42 (by kernel_rfl) rfl rfl (Nat.le_of_ble_eq_true rfl) (by intro t u h; simp [Tryd.f42] at h) ?_
  have hub := ib_le s 35
  have h35 : ([35] : List UInt8).length = 1 := rfl
  have hge := Lib.indexByte_ge s 35
  have hib := fun h : 0 ≤ Lib.indexByte s 35 => (ib_some h).1
  refine code_seq (fun K1 hK1 => ?_)
  refine code_region ?_
  refine list_cons rfl (op_q (q_assign rfl (by decide)) ?_)
  refine list_cons rfl (op_q (q_assign rfl (by decide)) ?_)
  refine list_cons rfl (op_q (q_assign rfl (by decide)) ?_)
  refine list_nil ?_
  refine hK1 _ ?_; clear hK1 K1
  refine code_seq (fun K2 hK2 => ?_)
  refine code_seq (fun K3 hK3 => ?_)
  refine code_region ?_
  refine list_cons rfl (op_q (q_move rfl (by decide)) ?_)
  refine list_cons rfl (op_q (q_move rfl (by decide)) ?_)
  refine list_cons rfl (op_call _ (index1_c _ _) rfl rfl (by decide) (by decide) (by decide) rfl ?_)
  rintro _ rfl
  refine list_cons rfl (op_q (q_assign rfl (by decide)) ?_)
  refine list_nil ?_
  refine hK3 _ ?_; clear hK3 K3
  refine codeT.imp (σ' := [(0, _), (1, _), (4, _), (5, _), (6, _), (7, _)]) ?_ (imp_covers ⟨rfl, rfl, rfl, rfl, rfl, rfl, trivial⟩)
  refine code_seq (fun K4 hK4 => ?_)
  refine code_region ?_
  refine list_cons rfl (op_q (q_move rfl (by decide)) ?_)
  refine list_cons rfl (op_q (q_ge rfl rfl (by decide)) ?_)
  refine list_nil ?_
  refine hK4 _ ?_; clear hK4 K4
  refine code_cond_d rfl (fun h1 => ?_) (fun h1 => ?_)
  · skip
    (try simp only [Decidable.not_not] at h1)
    refine code_seq (fun K5 hK5 => ?_)
    refine code_draw (by kernel_rfl) (by kernel_rfl) ?_
    refine draw_q rfl (q_move rfl (by decide)) ?_
    refine draw_q rfl (q_move rfl (by decide)) ?_
    refine draw_q rfl (q_slice_str Tryd.underlying9 rfl rfl ⟨_, rfl⟩ (by first | omega | (have := hib (by omega); simp only [List.length_singleton] at *; omega)) (by first | omega | (have := hib (by omega); simp only [List.length_singleton] at *; omega)) (by first | omega | (have := hib (by omega); simp only [List.length_singleton] at *; omega)) (by decide)) ?_
    refine draw_q rfl (q_move rfl (by decide)) ?_
    refine draw_q rfl (q_move rfl (by decide)) ?_
    refine draw_q rfl (q_move rfl (by decide)) ?_
    refine draw_q rfl (q_len_str Tryd.underlying9 rfl (by decide)) ?_
    refine draw_q rfl (by first | exact q_addI rfl rfl (by decide) (by omega) (by omega) | exact q_ib rfl rfl rfl (by decide)) ?_
    refine draw_q rfl (q_slice_str Tryd.underlying9 rfl ⟨_, rfl⟩ rfl (by first | omega | (have := hib (by omega); simp only [List.length_singleton] at *; omega)) (by first | omega | (have := hib (by omega); simp only [List.length_singleton] at *; omega)) (by first | omega | (have := hib (by omega); simp only [List.length_singleton] at *; omega)) (by decide)) ?_
    refine draw_q rfl (q_assign rfl (by decide)) ?_
    refine draw_q rfl (q_assign rfl (by decide)) ?_
    refine draw_q rfl (q_assign rfl (by decide)) ?_
    refine draw_nil ?_
    refine hK5 _ ?_; clear hK5 K5
    refine codeT.imp (σ' := [(0, _), (1, _), (4, _), (5, _), (6, _), (7, _)]) ?_ (imp_covers ⟨rfl, rfl, rfl, rfl, rfl, rfl, trivial⟩)
    refine code_ret ?_
    refine then_r ?_; clear hK2 K2
    refine ends_ret (cs := []) rfl rfl rfl rfl trivial ?_
    rw [headT_eq, tailT, if_pos h1, if_pos h1, decide_eq_true h1]
    have := hib h1
    rw [h35, show (Int.toNat 0) = 0 from rfl, List.drop_zero, show (Lib.indexByte s 35 + ((1 : Nat) : Int)).toNat = (Lib.indexByte s 35).toNat + 1 by omega, List.take_of_length_le (l := s.drop _) (by simp)]
    rfl
  · skip
    (try simp only [Decidable.not_not] at h1)
    refine code_skip ?_
    refine hK2 _ ?_; clear hK2 K2
    refine code_seq (fun K6 hK6 => ?_)
    refine code_region ?_
    refine list_cons rfl (op_q (q_move rfl (by decide)) ?_)
    refine list_cons rfl (op_q (q_assign rfl (by decide)) ?_)
    refine list_cons rfl (op_q (q_assign rfl (by decide)) ?_)
    refine list_cons rfl (op_q (q_assign rfl (by decide)) ?_)
    refine list_nil ?_
    refine hK6 _ ?_; clear hK6 K6
    refine code_ret ?_
    refine ends_ret (cs := []) rfl rfl rfl rfl trivial ?_
    rw [headT_eq, tailT, if_neg h1, if_neg h1, decide_eq_false h1]

set_option maxRecDepth 4000 in
theorem sCut_c (s : List UInt8) (hs : s.length ≤ 4611686018427387904) : PCalls Tryd.prog 31 [.str s, .str [35]] (· = [.val (.str (headT s)), .val (.str (tailT s)), .val (.bool (decide (0 ≤ Lib.indexByte s 35)))]) := by
  refine pcalls_of_code (n := 13) az Tryd.func31 (by kernel_rfl) rfl rfl (Nat.le_of_ble_eq_true rfl) (by intro t u h; simp [Tryd.f31] at h) ?_
  have hub := ib_le s 35
  have h35 : ([35] : List UInt8).length = 1 := rfl
  have hge := Lib.indexByte_ge s 35
  have hib := fun h : 0 ≤ Lib.indexByte s 35 => (ib_some h).1
  refine code_seq (fun K1 hK1 => ?_)
  refine code_region ?_
  refine list_cons rfl (op_q (q_assign rfl (by decide)) ?_)
  refine list_cons rfl (op_q (q_assign rfl (by decide)) ?_)
  refine list_cons rfl (op_q (q_assign rfl (by decide)) ?_)
  refine list_nil ?_
  refine hK1 _ ?_; clear hK1 K1
  refine code_seq (fun K2 hK2 => ?_)
  refine code_region ?_
  refine list_cons rfl (op_q (q_move rfl (by decide)) ?_)
  refine list_cons rfl (op_q (q_move rfl (by decide)) ?_)
  refine list_cons rfl (op_call _ (slCut_c _ hs) rfl rfl (by decide) (by decide) (by decide) rfl ?_)
  rintro _ rfl
  refine list_cons rfl (op_q (q_extract rfl rfl (by decide)) ?_)
  refine list_cons rfl (op_q (q_extract rfl rfl (by decide)) ?_)
  refine list_cons rfl (op_q (q_extract rfl rfl (by decide)) ?_)
  refine list_cons rfl (op_q (q_assign rfl (by decide)) ?_)
  refine list_cons rfl (op_q (q_assign rfl (by decide)) ?_)
  refine list_cons rfl (op_q (q_assign rfl (by decide)) ?_)
  refine list_nil ?_
  refine hK2 _ ?_; clear hK2 K2
  refine codeT.imp (σ' := [(0, _), (1, _), (4, _), (5, _), (6, _)]) ?_ (imp_covers ⟨rfl, rfl, rfl, rfl, rfl, trivial⟩)
  refine code_ret ?_
  refine ends_ret (cs := []) rfl rfl rfl rfl trivial ?_
  rfl

set_option maxRecDepth 4000 in
theorem spec_VerifyChecksum (s : List UInt8) (hs : s.length ≤ 4611686018427387904) : PCalls Tryd.prog 14 [.str s] (· = [.val (.str (if VcP s then headT s else [])), .val (.bool (decide (VcP s)))]) := by
  refine pcalls_of_code (n := 17) az Tryd.func14 (by kernel_rfl) rfl rfl (Nat.le_of_ble_eq_true rfl) (by intro t u h; simp [Tryd.f14] at h) ?_
  have hhl := headT_len s
  have hsl0 := splitL_ne 35 s
  refine code_seq (fun K1 hK1 => ?_)
  refine code_region ?_
  refine list_cons rfl (op_q (q_assign rfl (by decide)) ?_)
  refine list_cons rfl (op_q (q_assign rfl (by decide)) ?_)
  refine list_nil ?_
  refine hK1 _ ?_; clear hK1 K1
  refine code_seq (fun K2 hK2 => ?_)
  refine code_seq (fun K3 hK3 => ?_)
  refine code_region ?_
  refine list_cons rfl (op_q (q_move rfl (by decide)) ?_)
  refine list_cons rfl (op_q (q_len_str Tryd.underlying9 rfl (by decide)) ?_)
  refine list_cons rfl (op_q (q_gt rfl rfl (by decide)) ?_)
  refine list_nil ?_
  refine hK3 _ ?_; clear hK3 K3
  refine code_cond_d rfl (fun h1 => ?_) (fun h1 => ?_)
  · skip
    (try simp only [Decidable.not_not] at h1)
    refine code_seq (fun K4 hK4 => ?_)
    refine code_region ?_
    refine list_cons rfl (op_q (q_assign rfl (by decide)) ?_)
    refine list_cons rfl (op_q (q_assign rfl (by decide)) ?_)
    refine list_nil ?_
    refine hK4 _ ?_; clear hK4 K4
    refine code_ret ?_
    refine then_r ?_; clear hK2 K2
    refine ends_ret (cs := []) rfl rfl rfl rfl trivial ?_
    first
      | (have e : ¬ VcP s := fun k => by have k1 := k.1; omega
         simp only [if_neg e, decide_eq_false e])
      | (have e : ¬ VcP s := fun k => h1 k.2
         simp only [if_neg e, decide_eq_false e])
      | (have e : VcP s := ⟨by omega, by assumption⟩
         simp only [if_pos e, decide_eq_true e] <;> rfl)
  · skip
    (try simp only [Decidable.not_not] at h1)
    refine code_skip ?_
    refine hK2 _ ?_; clear hK2 K2
    refine code_seq (fun K5 hK5 => ?_)
    refine code_region ?_
    refine list_cons rfl (op_q (q_move rfl (by decide)) ?_)
    refine list_cons rfl (op_call _ (l1Split_c s 35 (by omega)) rfl rfl (by decide) (by decide) (by decide) rfl ?_)
    rintro _ rfl
    refine list_cons rfl (op_q (q_indexAddr_own sl_43 rfl rfl (by omega) (by omega) (by decide)) ?_)
    refine list_cons rfl (op_q (q_load one_9 9 rfl rfl rfl (by first | rfl | exact get_map1 _ [] _ (by first | omega | (simp; omega))) (by decide)) ?_)
    refine list_cons rfl (op_q (q_assign rfl (by decide)) ?_)
    refine list_nil ?_
    refine hK5 _ ?_; clear hK5 K5
    refine codeT.imp (σ' := [(0, _), (2, _), (3, _), (4, _)]) ?_ (imp_covers ⟨rfl, rfl, rfl, rfl, trivial⟩)
    refine code_seq (fun K6 hK6 => ?_)
    refine code_seq (fun K7 hK7 => ?_)
    refine code_region ?_
    refine list_cons rfl (op_q (q_move rfl (by decide)) ?_)
    refine list_cons rfl (op_call _ (l1Seal_c (headT s) (by omega)) rfl rfl (by decide) (by decide) (by decide) rfl ?_)
    rintro _ rfl
    refine list_cons rfl (op_q (q_move rfl (by decide)) ?_)
    refine list_cons rfl (op_q (q_sne rfl rfl (by decide)) ?_)
    refine list_nil ?_
    refine hK7 _ ?_; clear hK7 K7
    refine codeT.imp (σ' := [(0, _), (2, _), (3, _), (4, _), (15, _)]) ?_ (imp_covers ⟨rfl, rfl, rfl, rfl, rfl, trivial⟩)
    refine code_cond_d rfl (fun h2 => ?_) (fun h2 => ?_)
    · skip
      (try simp only [Decidable.not_not] at h2)
      refine code_seq (fun K8 hK8 => ?_)
      refine code_region ?_
      refine list_cons rfl (op_q (q_assign rfl (by decide)) ?_)
      refine list_cons rfl (op_q (q_assign rfl (by decide)) ?_)
      refine list_nil ?_
      refine hK8 _ ?_; clear hK8 K8
      refine code_ret ?_
      refine then_r ?_; clear hK6 K6
      refine ends_ret (cs := []) rfl rfl rfl rfl trivial ?_
      first
        | (have e : ¬ VcP s := fun k => by have k1 := k.1; omega
           simp only [if_neg e, decide_eq_false e])
        | (have e : ¬ VcP s := fun k => h2 k.2
           simp only [if_neg e, decide_eq_false e])
        | (have e : VcP s := ⟨by omega, by assumption⟩
           simp only [if_pos e, decide_eq_true e] <;> rfl)
    · skip
      (try simp only [Decidable.not_not] at h2)
      refine code_skip ?_
      refine hK6 _ ?_; clear hK6 K6
      refine code_seq (fun K9 hK9 => ?_)
      refine code_region ?_
      refine list_cons rfl (op_q (q_move rfl (by decide)) ?_)
      refine list_cons rfl (op_q (q_assign rfl (by decide)) ?_)
      refine list_cons rfl (op_q (q_assign rfl (by decide)) ?_)
      refine list_nil ?_
      refine hK9 _ ?_; clear hK9 K9
      refine code_ret ?_
      refine ends_ret (cs := []) rfl rfl rfl rfl trivial ?_
      first
        | (have e : ¬ VcP s := fun k => by have k1 := k.1; omega
           simp only [if_neg e, decide_eq_false e])
        | (have e : ¬ VcP s := fun k => h2 k.2
           simp only [if_neg e, decide_eq_false e])
        | (have e : VcP s := ⟨by omega, by assumption⟩
           simp only [if_pos e, decide_eq_true e] <;> rfl)

set_option maxRecDepth 4000 in
theorem impl_VerifyChecksum (s : List UInt8) (hs : s.length ≤ 4611686018427387904) : PCalls Tryd.prog 15 [.str s] (· = [.val (.str (if VcP s then headT s else [])), .val (.bool (decide (VcP s)))]) := by
  refine pcalls_of_code (n := 28) az Tryd.func15 (by kernel_rfl) rfl rfl (Nat.le_of_ble_eq_true rfl) (by intro t u h; simp [Tryd.f15] at h) ?_
  have hhl := headT_len s
  refine code_seq (fun K1 hK1 => ?_)
  refine code_region ?_
  refine list_cons rfl (op_q (q_assign rfl (by decide)) ?_)
  refine list_cons rfl (op_q (q_assign rfl (by decide)) ?_)
  refine list_nil ?_
  refine hK1 _ ?_; clear hK1 K1
  refine code_seq (fun K2 hK2 => ?_)
  refine code_region ?_
  refine list_cons rfl (op_q (q_move rfl (by decide)) ?_)
  refine list_cons rfl (op_call _ (sCut_c _ (by omega)) rfl rfl (by decide) (by decide) (by decide) rfl ?_)
  rintro _ rfl
  refine list_cons rfl (op_q (q_move rfl (by decide)) ?_)
  refine list_cons rfl (op_q (q_extract rfl rfl (by decide)) ?_)
  refine list_cons rfl (op_q (q_extract rfl rfl (by decide)) ?_)
  refine list_cons rfl (op_q (q_extract rfl rfl (by decide)) ?_)
  refine list_cons rfl (op_q (q_assign rfl (by decide)) ?_)
  refine list_cons rfl (op_q (q_assign rfl (by decide)) ?_)
  refine list_cons rfl (op_q (q_assign rfl (by decide)) ?_)
  refine list_nil ?_
  refine hK2 _ ?_; clear hK2 K2
  refine codeT.imp (σ' := [(0, _), (2, _), (3, _), (4, _)]) ?_ (imp_covers ⟨rfl, rfl, rfl, rfl, trivial⟩)
  refine code_seq (fun K3 hK3 => ?_)
  refine code_region ?_
  refine list_cons rfl (op_q (q_move rfl (by decide)) ?_)
  refine list_cons rfl (op_call _ (impl_AppendChecksum (headT s) (by omega)) rfl rfl (by decide) (by decide) (by decide) rfl ?_)
  rintro _ rfl
  refine list_cons rfl (op_q (q_move rfl (by decide)) ?_)
  refine list_cons rfl (op_q (q_extract rfl rfl (by decide)) ?_)
  refine list_cons rfl (op_q (q_extract rfl rfl (by decide)) ?_)
  refine list_cons rfl (op_q (q_assign rfl (by decide)) ?_)
  refine list_cons rfl (op_q (q_assign rfl (by decide)) ?_)
  refine list_nil ?_
  refine hK3 _ ?_; clear hK3 K3
  refine codeT.imp (σ' := [(0, _), (2, _), (3, _), (4, _), (7, _), (8, _)]) ?_ (imp_covers ⟨rfl, rfl, rfl, rfl, rfl, rfl, trivial⟩)
  refine code_seq (fun K4 hK4 => ?_)
  refine code_seq (fun K5 hK5 => ?_)
  refine code_region ?_
  refine list_cons rfl (op_q (q_move rfl (by decide)) ?_)
  refine list_cons rfl (op_q (by first | exact q_notd rfl (by decide) | exact q_not rfl (by decide)) ?_)
  refine list_cons rfl (op_q (q_move rfl (by decide)) ?_)
  refine list_guard_d rfl rfl rfl rfl (by decide) rfl (by decide) (fun h1 => ?_) (fun h1 => ?_)
  · simp only [Bool.false_eq_true, if_true, if_false, Decidable.not_not] at h1
    refine id (op_q (q_move rfl (by decide)) ?_)
    refine list_guard_y rfl rfl rfl rfl (by decide) rfl ?_
    refine id (op_q (q_move rfl (by decide)) ?_)
    refine list_guard_y rfl rfl rfl rfl (by decide) rfl ?_
    refine id (op_q (q_sne rfl rfl (by decide)) ?_)
    refine list_cons rfl (op_q (q_pick rfl rfl (by decide)) ?_)
    refine list_nil ?_
    refine hK5 _ ?_; clear hK5 K5
    refine code_cond_d rfl (fun h2 => ?_) (fun h2 => ?_)
    · skip
      (try simp only [Decidable.not_not] at h2)
      refine code_seq (fun K6 hK6 => ?_)
      refine code_region ?_
      refine list_cons rfl (op_q (q_assign rfl (by decide)) ?_)
      refine list_cons rfl (op_q (q_assign rfl (by decide)) ?_)
      refine list_nil ?_
      refine hK6 _ ?_; clear hK6 K6
      refine codeT.imp (σ' := [(0, _), (2, _), (3, _), (4, _), (7, _), (8, _)]) ?_ (imp_covers ⟨rfl, rfl, rfl, rfl, rfl, rfl, trivial⟩)
      refine code_ret ?_
      refine then_r ?_; clear hK4 K4
      refine ends_ret (cs := []) rfl rfl rfl rfl trivial ?_
      first
        | (have e : ¬ VcP s := fun k => (by assumption : ¬ AcP (headT s)) ((vc_iff s).2 k).1
           simp only [if_neg e, decide_eq_false e])
        | (have ha : AcP (headT s) := by assumption
           have hh := h2
           rw [if_pos ha] at hh
           have e : ¬ VcP s := fun k => hh k.2
           simp only [if_neg e, decide_eq_false e])
        | (have ha : AcP (headT s) := by assumption
           have hh := h2
           rw [if_pos ha] at hh
           have e : VcP s := (vc_iff s).1 ⟨ha, hh⟩
           simp only [if_pos e, decide_eq_true e])
    · skip
      (try simp only [Decidable.not_not] at h2)
      refine code_skip ?_
      refine hK4 _ ?_; clear hK4 K4
      refine codeT.imp (σ' := [(0, _), (2, _), (3, _), (4, _), (7, _), (8, _)]) ?_ (imp_covers ⟨rfl, rfl, rfl, rfl, rfl, rfl, trivial⟩)
      refine code_seq (fun K7 hK7 => ?_)
      refine code_region ?_
      refine list_cons rfl (op_q (q_move rfl (by decide)) ?_)
      refine list_cons rfl (op_q (q_assign rfl (by decide)) ?_)
      refine list_cons rfl (op_q (q_assign rfl (by decide)) ?_)
      refine list_nil ?_
      refine hK7 _ ?_; clear hK7 K7
      refine code_ret ?_
      refine ends_ret (cs := []) rfl rfl rfl rfl trivial ?_
      first
        | (have e : ¬ VcP s := fun k => (by assumption : ¬ AcP (headT s)) ((vc_iff s).2 k).1
           simp only [if_neg e, decide_eq_false e])
        | (have ha : AcP (headT s) := by assumption
           have hh := h2
           rw [if_pos ha] at hh
           have e : ¬ VcP s := fun k => hh k.2
           simp only [if_neg e, decide_eq_false e])
        | (have ha : AcP (headT s) := by assumption
           have hh := h2
           rw [if_pos ha] at hh
           have e : VcP s := (vc_iff s).1 ⟨ha, hh⟩
           simp only [if_pos e, decide_eq_true e])
  · simp only [Bool.false_eq_true, if_true, if_false, Decidable.not_not] at h1
    refine list_guard_n rfl rfl rfl rfl (by decide) rfl ?_
    refine list_guard_n rfl rfl rfl rfl (by decide) rfl ?_
    refine list_cons rfl (op_q (q_pick rfl rfl (by decide)) ?_)
    refine list_nil ?_
    refine hK5 _ ?_; clear hK5 K5
    refine code_cond_t rfl ?_
    refine code_seq (fun K8 hK8 => ?_)
    refine code_region ?_
    refine list_cons rfl (op_q (q_assign rfl (by decide)) ?_)
    refine list_cons rfl (op_q (q_assign rfl (by decide)) ?_)
    refine list_nil ?_
    refine hK8 _ ?_; clear hK8 K8
    refine code_ret ?_
    refine then_r ?_; clear hK4 K4
    refine ends_ret (cs := []) rfl rfl rfl rfl trivial ?_
    first
      | (have e : ¬ VcP s := fun k => (by assumption : ¬ AcP (headT s)) ((vc_iff s).2 k).1
         simp only [if_neg e, decide_eq_false e])
      | (have ha : AcP (headT s) := by assumption
         have hh := h1
         rw [if_pos ha] at hh
         have e : ¬ VcP s := fun k => hh k.2
         simp only [if_neg e, decide_eq_false e])
      | (have ha : AcP (headT s) := by assumption
         have hh := h1
         rw [if_pos ha] at hh
         have e : VcP s := (vc_iff s).1 ⟨ha, hh⟩
         simp only [if_pos e, decide_eq_true e])

end Go.Proofs.YtnlillklehgcgaaDoor
