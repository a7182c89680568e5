/- Contracts of functions, walked over the pure layer; each says for which arguments. -/
import Derived.Test.YtiiobkibgkagbaaDoorNmTy
import Derived.Lib.AppendIntMem
import Derived.Test.YtiiobkibgkagbaaDoorTf
import Derived.Test.YtiiobkibgkagbaaDoorShelf
import Derived.Test.YtiiobkibgkagbaaDoorSp
import Derived.Test.YtiiobkibgkagbaaDoorIt
namespace Go.Proofs.YtiiobkibgkagbaaDoor
open Go.RowKit NmTy
set_option linter.unusedVariables false
set_option linter.unusedSimpArgs false

theorem dec_len : ∀ (k u : Nat), 1 ≤ k → u < 10 ^ k → (Lib.decDigits u).length ≤ k
  | 0, u, h, _ => by omega
  | k + 1, u, _, h => by
    by_cases hu : u < 10
    · rw [Lib.decDigits_one hu]; simp
    · rw [Lib.decDigits, dif_neg hu, List.length_append, List.length_singleton]
      have h1 : 1 ≤ k := by
        rcases Nat.eq_zero_or_pos k with e | e
        · subst e; simp at h; omega
        · exact e
      have h2 : u / 10 < 10 ^ k := by rw [Nat.pow_succ] at h; omega
      have := dec_len k (u / 10) h1 h2
      omega
theorem dec_len16 {u : Nat} (h : u ≤ 1000000000000000) : (Lib.decDigits u).length ≤ 16 := dec_len 16 u (by decide) (Nat.lt_of_le_of_lt h (by decide))
theorem dig_at : ∀ n : Nat, n < 10 → ((ByteArray.mk #[48, 49, 50, 51, 52, 53, 54, 55, 56, 57]).data.toList.drop n).take 1 = [UInt8.ofNat (48 + n)] := by
  intro n h
  have : n = 0 ∨ n = 1 ∨ n = 2 ∨ n = 3 ∨ n = 4 ∨ n = 5 ∨ n = 6 ∨ n = 7 ∨ n = 8 ∨ n = 9 := by omega
  rcases this with rfl | rfl | rfl | rfl | rfl | rfl | rfl | rfl | rfl | rfl <;> rfl
theorem dec_ge {u : Nat} (h : ¬ u < 10) : Lib.decDigits u = Lib.decDigits (u / 10) ++ [UInt8.ofNat (48 + u % 10)] := by rw [Lib.decDigits, dif_neg h]
theorem itoa_lt {n : Int} (h : n < 0) : Lib.itoa n = 45 :: Lib.decDigits (-n).toNat := by
  unfold Lib.itoa; rw [if_pos h]; congr 2; omega
theorem itoa_ge {n : Int} (h : 0 ≤ n) : Lib.itoa n = Lib.decDigits n.toNat := by unfold Lib.itoa; rw [if_neg (by omega)]
theorem tdiv10 {n : Int} (h : n < 0) : n.tdiv 10 = -((-n) / 10) := by
  have e : n = -(-n) := by omega
  rw [e, Int.neg_tdiv, Int.tdiv_eq_ediv_of_nonneg (by omega)]; simp
theorem tmod10 {n : Int} (h : n < 0) : n.tmod 10 = -((-n) % 10) := by
  have e : n = -(-n) := by omega
  rw [e, Int.neg_tmod, Int.tmod_eq_emod_of_nonneg (by omega)]; simp
def sumF (s : List UInt8) : Nat := s.foldl (fun h b => (41 * h + b.toNat + 1) % 999979) 7
theorem sumF_snoc (s : List UInt8) {k : Nat} (h : k < s.length) : sumF (s.take (k + 1)) = (41 * sumF (s.take k) + (s.getD k 0).toNat + 1) % 999979 := by
  unfold sumF; rw [take_snocL s k h, List.foldl_append]; rfl
theorem sumF_lt (s : List UInt8) : ∀ k, k ≤ s.length → sumF (s.take k) < 999979
  | 0, _ => by rw [List.take_zero]; decide
  | k + 1, h => by rw [sumF_snoc s (by omega)]; exact Nat.mod_lt _ (by decide)
theorem sumF_all (s : List UInt8) : sumF s < 999979 := by have := sumF_lt s s.length (Nat.le_refl _); rwa [List.take_length] at this
def sealT (s : List UInt8) : List UInt8 := s ++ [35] ++ Lib.itoa (sumF s : Int)
theorem itoa_sum (s : List UInt8) : (Lib.itoa (sumF s : Int)).length ≤ 6 := by
  rw [itoa_ge (by omega), Int.toNat_natCast]
  have := sumF_all s
  exact dec_len 6 _ (by decide) (by omega)
theorem sealT_len (s : List UInt8) : (sealT s).length ≤ s.length + 7 := by
  have := itoa_sum s
  unfold sealT; simp only [List.length_append, List.length_singleton]; omega
def AcP (s : List UInt8) : Prop := s.length ≤ 4000 ∧ 35 ∉ s ∧ (sealT s).length ≤ 4000
instance (s : List UInt8) : Decidable (AcP s) := by unfold AcP; infer_instance
def headT (s : List UInt8) : List UInt8 := (splitL 35 s).getD 0 []
def VcP (s : List UInt8) : Prop := s.length ≤ 4000 ∧ sealT (headT s) = s
instance (s : List UInt8) : Decidable (VcP s) := by unfold VcP; infer_instance
theorem fmt_sum (s : List UInt8) : fmtN (sumF s : Int) = Lib.itoa (sumF s : Int) := by
  have := sumF_all s
  unfold fmtN; rw [if_pos (by omega)]


set_option maxRecDepth 4000 in
theorem l1Num_step (k : Int) (h0 : 0 ≤ k) (h1 : k ≤ 1000000000000000) (ih : ∀ m : Int, 0 ≤ m → m < k → PCalls Tryd.prog 27 [.int .i64 m] (· = [.val (.str (Lib.decDigits m.toNat))])) : PCalls Tryd.prog 27 [.int .i64 k] (· = [.val (.str (Lib.decDigits k.toNat))]) := by
  refine pcalls_of_code (n := 35) az Tryd.func27 (by kernel_rfl) rfl rfl (Nat.le_of_ble_eq_true rfl) (by intro t u h; simp [Tryd.f27] at h) ?_
  have hdl := dec_len16 (u := (k / 10).toNat) (by omega)
  have hd10 : (ByteArray.mk #[48, 49, 50, 51, 52, 53, 54, 55, 56, 57]).data.toList.length = 10 := rfl
  refine code_seq (fun K1 hK1 => ?_)
  refine code_region ?_
  refine list_cons rfl (op_q (q_assign rfl (by decide)) ?_)
  refine list_nil ?_
  refine hK1 _ ?_; clear hK1 K1
  refine code_seq (fun K2 hK2 => ?_)
  refine code_seq (fun K3 hK3 => ?_)
  refine code_region ?_
  refine list_cons rfl (op_q (q_move rfl (by decide)) ?_)
  refine list_cons rfl (op_q (q_lt rfl rfl (by decide)) ?_)
  refine list_nil ?_
  refine hK3 _ ?_; clear hK3 K3
  refine code_cond_d rfl (fun h1 => ?_) (fun h1 => ?_)
  · skip
    (try simp only [Decidable.not_not] at h1)
    exfalso
    omega
  (try simp only [Decidable.not_not] at h1)
  refine code_skip ?_
  refine hK2 _ ?_; clear hK2 K2
  refine code_seq (fun K4 hK4 => ?_)
  refine code_seq (fun K5 hK5 => ?_)
  refine code_region ?_
  refine list_cons rfl (op_q (q_move rfl (by decide)) ?_)
  refine list_cons rfl (op_q (q_lt rfl rfl (by decide)) ?_)
  refine list_nil ?_
  refine hK5 _ ?_; clear hK5 K5
  refine code_cond_d rfl (fun h2 => ?_) (fun h2 => ?_)
  · skip
    (try simp only [Decidable.not_not] at h2)
    refine code_seq (fun K6 hK6 => ?_)
    refine code_region ?_
    refine list_cons rfl (op_q (q_move rfl (by decide)) ?_)
    refine list_cons rfl (op_q (q_move rfl (by decide)) ?_)
    refine list_cons rfl (op_q (by first | exact q_addI rfl rfl (by decide) (by omega) (by omega) | exact q_ib rfl rfl rfl (by decide)) ?_)
    refine list_cons rfl (op_q (q_slice_str Tryd.underlying9 rfl ⟨_, rfl⟩ ⟨_, rfl⟩ (by omega) (by omega) (by omega) (by decide)) ?_)
    refine list_cons rfl (op_q (q_assign rfl (by decide)) ?_)
    refine list_nil ?_
    refine hK6 _ ?_; clear hK6 K6
    refine codeT.imp (σ' := [(0, _), (2, _)]) ?_ (imp_covers ⟨rfl, rfl, trivial⟩)
    refine code_ret ?_
    refine then_r ?_; clear hK4 K4
    refine ends_ret (cs := []) rfl rfl rfl rfl trivial ?_
    rw [Lib.decDigits_one (by omega), ← dig_at k.toNat (by omega), show (k + 1).toNat - k.toNat = 1 by omega]
  (try simp only [Decidable.not_not] at h2)
  refine code_skip ?_
  refine hK4 _ ?_; clear hK4 K4
  refine code_seq (fun K7 hK7 => ?_)
  refine code_draw (by kernel_rfl) (by kernel_rfl) ?_
  refine draw_q rfl (q_move rfl (by decide)) ?_
  refine draw_q rfl (by first | exact q_quoI rfl rfl (by decide) (by omega) (by omega) (by omega) | exact q_quoT rfl rfl (by omega) (by decide) (by omega) (by omega) | exact q_quo rfl rfl (by omega) (by decide)) ?_
  refine draw_call _ (ih (k / 10) (by omega) (by omega)) rfl rfl rfl (by decide) ?_
  refine draw_q rfl (q_move rfl (by decide)) ?_
  refine draw_q rfl (by first | exact q_remI rfl rfl (by decide) (by omega) (by omega) | exact q_rem rfl rfl (by omega) (by decide)) ?_
  refine draw_q rfl (q_move rfl (by decide)) ?_
  refine draw_q rfl (by first | exact q_remI rfl rfl (by decide) (by omega) (by omega) | exact q_rem rfl rfl (by omega) (by decide)) ?_
  refine draw_q rfl (by first | exact q_addI rfl rfl (by decide) (by omega) (by omega) | exact q_ib rfl rfl rfl (by decide)) ?_
  refine draw_q rfl (q_slice_str Tryd.underlying9 rfl ⟨_, rfl⟩ ⟨_, rfl⟩ (by omega) (by omega) (by omega) (by decide)) ?_
  refine draw_q rfl (q_cat rfl rfl (by first | omega | (simp only [List.length_append, List.length_cons, List.length_nil]; omega) | (simp; omega)) (by decide)) ?_
  refine draw_q rfl (q_assign rfl (by decide)) ?_
  refine draw_nil ?_
  refine hK7 _ ?_; clear hK7 K7
  refine codeT.imp (σ' := [(0, _), (2, _)]) ?_ (imp_covers ⟨rfl, rfl, trivial⟩)
  refine code_ret ?_
  refine ends_ret (cs := []) rfl rfl rfl rfl trivial ?_
  rw [dec_ge (u := k.toNat) (by omega), ← dig_at (k.toNat % 10) (by omega), show (k % 10 + 1).toNat - (k % 10).toNat = 1 by omega, show (k % 10).toNat = k.toNat % 10 by omega, show (k / 10).toNat = k.toNat / 10 by omega]

theorem l1Num_nn (k : Int) (h0 : 0 ≤ k) (h1 : k ≤ 1000000000000000) : PCalls Tryd.prog 27 [.int .i64 k] (· = [.val (.str (Lib.decDigits k.toNat))]) := by
  have key : ∀ n : Nat, ∀ k : Int, k.toNat = n → 0 ≤ k → k ≤ 1000000000000000 → PCalls Tryd.prog 27 [.int .i64 k] (· = [.val (.str (Lib.decDigits k.toNat))]) := by
    intro n
    induction n using Nat.strongRecOn with
    | _ n ih =>
      intro k hk h0 h1
      exact l1Num_step k h0 h1 (fun m hm0 hm1 => ih m.toNat (by omega) m rfl hm0 (by omega))
  exact key _ k rfl h0 h1

set_option maxRecDepth 4000 in
theorem l1Num_nstep (k : Int) (h0 : k < 0) (h1 : -100000000 ≤ k) (ih : ∀ m : Int, m < 0 → k < m → PCalls Tryd.prog 27 [.int .i64 m] (· = [.val (.str (Lib.itoa m))])) : PCalls Tryd.prog 27 [.int .i64 k] (· = [.val (.str (Lib.itoa k))]) := by
  refine pcalls_of_code (n := 35) az Tryd.func27 (by kernel_rfl) rfl rfl (Nat.le_of_ble_eq_true rfl) (by intro t u h; simp [Tryd.f27] at h) ?_
  have hq := tdiv10 h0
  have hr := tmod10 h0
  have hi1 := dec_len16 (u := (-k).toNat) (by omega)
  have hi2 := dec_len16 (u := (-(k.tdiv 10)).toNat) (by omega)
  have hi3 := dec_len16 (u := (-(k.tmod 10)).toNat) (by omega)
  have hi4 : k.tdiv 10 < 0 → (Lib.itoa (k.tdiv 10)).length ≤ 17 := fun h => by rw [itoa_lt h, List.length_cons]; omega
  refine code_seq (fun K1 hK1 => ?_)
  refine code_region ?_
  refine list_cons rfl (op_q (q_assign rfl (by decide)) ?_)
  refine list_nil ?_
  refine hK1 _ ?_; clear hK1 K1
  refine code_seq (fun K2 hK2 => ?_)
  refine code_seq (fun K3 hK3 => ?_)
  refine code_region ?_
  refine list_cons rfl (op_q (q_move rfl (by decide)) ?_)
  refine list_cons rfl (op_q (q_lt rfl rfl (by decide)) ?_)
  refine list_nil ?_
  refine hK3 _ ?_; clear hK3 K3
  refine code_cond_d rfl (fun h1 => ?_) (fun h1 => ?_)
  · skip
    (try simp only [Decidable.not_not] at h1)
    refine code_seq (fun K4 hK4 => ?_)
    refine code_seq (fun K5 hK5 => ?_)
    refine code_region ?_
    refine list_cons rfl (op_q (q_move rfl (by decide)) ?_)
    refine list_cons rfl (op_q (q_gt rfl rfl (by decide)) ?_)
    refine list_nil ?_
    refine hK5 _ ?_; clear hK5 K5
    refine code_cond_d rfl (fun h2 => ?_) (fun h2 => ?_)
    · skip
      (try simp only [Decidable.not_not] at h2)
      refine code_seq (fun K6 hK6 => ?_)
      refine code_region ?_
      refine list_cons rfl (op_q (q_move rfl (by decide)) ?_)
      refine list_cons rfl (op_q (by first | exact q_negI rfl (by decide) (by omega) (by omega) | exact q_neg rfl (by decide)) ?_)
      refine list_cons rfl (op_call _ (l1Num_nn (-k) (by omega) (by omega)) rfl rfl (by decide) (by decide) (by decide) rfl ?_)
      rintro _ rfl
      refine list_cons rfl (op_q (q_cat rfl rfl (by first | omega | (simp only [List.length_append, List.length_cons, List.length_nil]; omega) | (simp; omega)) (by decide)) ?_)
      refine list_cons rfl (op_q (q_assign rfl (by decide)) ?_)
      refine list_nil ?_
      refine hK6 _ ?_; clear hK6 K6
      refine codeT.imp (σ' := [(0, _), (2, _)]) ?_ (imp_covers ⟨rfl, rfl, trivial⟩)
      refine code_ret ?_
      refine then_r ?_; clear hK4 K4
      refine then_r ?_; clear hK2 K2
      refine ends_ret (cs := []) rfl rfl rfl rfl trivial ?_
      rw [itoa_lt h0]; rfl
    (try simp only [Decidable.not_not] at h2)
    refine code_skip ?_
    refine hK4 _ ?_; clear hK4 K4
    refine code_seq (fun K7 hK7 => ?_)
    refine code_region ?_
    refine list_cons rfl (op_q (q_move rfl (by decide)) ?_)
    refine list_cons rfl (op_q (by first | exact q_quoI rfl rfl (by decide) (by omega) (by omega) (by omega) | exact q_quoT rfl rfl (by omega) (by decide) (by omega) (by omega) | exact q_quo rfl rfl (by omega) (by decide)) ?_)
    refine list_cons rfl (op_call _ (ih (k.tdiv 10) (by omega) (by omega)) rfl rfl (by decide) (by decide) (by decide) rfl ?_)
    rintro _ rfl
    refine list_cons rfl (op_q (q_move rfl (by decide)) ?_)
    refine list_cons rfl (op_q (by first | exact q_remI rfl rfl (by decide) (by omega) (by omega) | exact q_rem rfl rfl (by omega) (by decide)) ?_)
    refine list_cons rfl (op_q (by first | exact q_negI rfl (by decide) (by omega) (by omega) | exact q_neg rfl (by decide)) ?_)
    refine list_cons rfl (op_call _ (l1Num_nn (-(k.tmod 10)) (by omega) (by omega)) rfl rfl (by decide) (by decide) (by decide) rfl ?_)
    rintro _ rfl
    refine list_cons rfl (op_q (q_cat rfl rfl (by first | omega | (simp only [List.length_append, List.length_cons, List.length_nil]; omega) | (simp; omega)) (by decide)) ?_)
    refine list_cons rfl (op_q (q_assign rfl (by decide)) ?_)
    refine list_nil ?_
    refine hK7 _ ?_; clear hK7 K7
    refine codeT.imp (σ' := [(0, _), (2, _)]) ?_ (imp_covers ⟨rfl, rfl, trivial⟩)
    refine code_ret ?_
    refine then_r ?_; clear hK2 K2
    refine ends_ret (cs := []) rfl rfl rfl rfl trivial ?_
    rw [itoa_lt h0, itoa_lt (by omega), dec_ge (u := (-k).toNat) (by omega), hr, hq, Int.neg_neg, Int.neg_neg, Lib.decDigits_one (i := ((-k) % 10).toNat) (by omega), show ((-k) / 10).toNat = (-k).toNat / 10 by omega, show ((-k) % 10).toNat = (-k).toNat % 10 by omega]; rfl
  (try simp only [Decidable.not_not] at h1)
  exfalso
  omega

theorem l1Num_any (k : Int) (h0 : -100000000 ≤ k) (h1 : k ≤ 1000000000000000) : PCalls Tryd.prog 27 [.int .i64 k] (· = [.val (.str (Lib.itoa k))]) := by
  have key : ∀ n : Nat, ∀ k : Int, (-k).toNat = n → k < 0 → -100000000 ≤ k → PCalls Tryd.prog 27 [.int .i64 k] (· = [.val (.str (Lib.itoa k))]) := by
    intro n
    induction n using Nat.strongRecOn with
    | _ n ih =>
      intro k hk h0 h1
      exact l1Num_nstep k h0 h1 (fun m hm0 hm1 => ih (-m).toNat (by omega) m rfl hm0 (by omega))
  by_cases h : k < 0
  · exact key _ k rfl h h0
  · rw [itoa_ge (by omega)]; exact l1Num_nn k (by omega) h1

theorem ib_none {c : UInt8} : ∀ {l : List UInt8}, Lib.indexByte l c < 0 → c ∉ l
  | [], _ => by simp
  | b :: l, h => by
    unfold Lib.indexByte at h
    split at h
    · omega
    · rename_i hb
      have hge := Lib.indexByte_ge l c
      split at h
      · rename_i h1
        have h1' : Lib.indexByte l c = -1 := by simpa using h1
        have := ib_none (l := l) (c := c) (by omega)
        simp only [List.mem_cons, not_or]
        exact ⟨fun e => hb (by simp [e]), this⟩
      · rename_i h1
        have h1' : Lib.indexByte l c ≠ -1 := by simpa using h1
        omega
theorem ib_some {c : UInt8} : ∀ {l : List UInt8}, 0 ≤ Lib.indexByte l c → (Lib.indexByte l c).toNat < l.length ∧ l.getD (Lib.indexByte l c).toNat 0 = c ∧ c ∉ l.take (Lib.indexByte l c).toNat
  | [], h => by simp [Lib.indexByte] at h
  | b :: l, h => by
    have hge := Lib.indexByte_ge l c
    by_cases hb : (b == c) = true
    · have e : Lib.indexByte (b :: l) c = 0 := by unfold Lib.indexByte; rw [if_pos hb]
      rw [e]
      have hb' : b = c := by simpa using hb
      simp [hb']
    · by_cases h1 : Lib.indexByte l c = -1
      · have e : Lib.indexByte (b :: l) c = -1 := by unfold Lib.indexByte; rw [if_neg hb, if_pos (by simpa using h1)]
        rw [e] at h; omega
      · have e : Lib.indexByte (b :: l) c = Lib.indexByte l c + 1 := by
          show (if (b == c) = true then (0 : Int) else if (Lib.indexByte l c == -1) = true then -1 else Lib.indexByte l c + 1) = _
          rw [if_neg hb, if_neg (by simpa using h1)]
        obtain ⟨g1, g2, g3⟩ := ib_some (l := l) (c := c) (by omega)
        rw [e, show (Lib.indexByte l c + 1).toNat = (Lib.indexByte l c).toNat + 1 by omega]
        refine ⟨by simp; omega, by simpa using g2, ?_⟩
        simp only [List.take_succ_cons, List.mem_cons, not_or]
        exact ⟨fun e => hb (by simp [e]), g3⟩
theorem sp_fold (b : UInt8) : ∀ (l : List UInt8) (p q : List (List UInt8)) (r : List UInt8), l.foldl (fun (acc : List (List UInt8) × List UInt8) c => if c = b then (acc.1 ++ [acc.2], []) else (acc.1, acc.2 ++ [c])) (p ++ q, r) = (p ++ (l.foldl (fun (acc : List (List UInt8) × List UInt8) c => if c = b then (acc.1 ++ [acc.2], []) else (acc.1, acc.2 ++ [c])) (q, r)).1, (l.foldl (fun (acc : List (List UInt8) × List UInt8) c => if c = b then (acc.1 ++ [acc.2], []) else (acc.1, acc.2 ++ [c])) (q, r)).2)
  | [], p, q, r => rfl
  | c :: l, p, q, r => by
    simp only [List.foldl_cons]
    by_cases h : c = b
    · rw [if_pos h, if_pos h, List.append_assoc]; exact sp_fold b l p (q ++ [r]) []
    · rw [if_neg h, if_neg h]; exact sp_fold b l p q (r ++ [c])
theorem sp_miss (b : UInt8) : ∀ (l r : List UInt8), b ∉ l → l.foldl (fun (acc : List (List UInt8) × List UInt8) c => if c = b then (acc.1 ++ [acc.2], []) else (acc.1, acc.2 ++ [c])) ([], r) = ([], r ++ l)
  | [], r, _ => by simp
  | c :: l, r, h => by
    simp only [List.mem_cons, not_or] at h
    simp only [List.foldl_cons]
    rw [if_neg (fun e => h.1 e.symm), sp_miss b l (r ++ [c]) h.2]; simp
theorem splitL_none {b : UInt8} {s : List UInt8} (h : b ∉ s) : splitL b s = [s] := by
  unfold splitL splitF; rw [sp_miss b s [] h]; rfl
theorem splitL_at {b : UInt8} {s : List UInt8} {i : Nat} (hi : i < s.length) (h1 : s.getD i 0 = b) (h2 : b ∉ s.take i) : splitL b s = s.take i :: splitL b (s.drop (i + 1)) := by
  have e : s = s.take i ++ b :: s.drop (i + 1) := by
    have h3 : s[i] = b := by rw [← h1]; simp [hi]
    have h4 : s.drop i = s[i] :: s.drop (i + 1) := List.drop_eq_getElem_cons hi
    rw [← h3, ← h4, List.take_append_drop]
  have key : splitL b (s.take i ++ b :: s.drop (i + 1)) = s.take i :: splitL b (s.drop (i + 1)) := by
    unfold splitL splitF
    rw [List.foldl_append, sp_miss b _ [] h2, List.nil_append, List.foldl_cons, if_pos rfl]
    simp only [List.nil_append]
    have := sp_fold b (s.drop (i + 1)) [s.take i] [] []
    simp only [List.append_nil] at this
    rw [this]; simp
  rw [← e] at key; exact key
theorem splitL_ne (b : UInt8) (s : List UInt8) : 0 < (splitL b s).length := by unfold splitL; simp
def strLen : Value → Nat
  | .string t => t.size
  | _ => 0


theorem ib_mem (s : List UInt8) (c : UInt8) : 0 ≤ Lib.indexByte s c ↔ c ∈ s := by
  constructor
  · intro h
    obtain ⟨g1, g2, _⟩ := ib_some h
    have : s.getD (Lib.indexByte s c).toNat 0 = s[(Lib.indexByte s c).toNat] := by simp [g1]
    rw [← g2, this]; exact List.getElem_mem g1
  · intro h
    by_cases hn : Lib.indexByte s c < 0
    · exact absurd h (ib_none hn)
    · omega
theorem headT_eq (s : List UInt8) : headT s = if 0 ≤ Lib.indexByte s 35 then s.take (Lib.indexByte s 35).toNat else s := by
  unfold headT
  by_cases h : 0 ≤ Lib.indexByte s 35
  · obtain ⟨g1, g2, g3⟩ := ib_some h
    rw [if_pos h, splitL_at g1 g2 g3]; rfl
  · rw [if_neg h, splitL_none (ib_none (by omega))]; rfl
theorem ib_le (s : List UInt8) (c : UInt8) : Lib.indexByte s c ≤ s.length := by
  by_cases h : 0 ≤ Lib.indexByte s c
  · have := (ib_some h).1; omega
  · omega
theorem headT_not (s : List UInt8) : 35 ∉ headT s := by
  rw [headT_eq]
  split
  · rename_i h; exact (ib_some h).2.2
  · rename_i h; exact ib_none (by omega)
theorem headT_len (s : List UInt8) : (headT s).length ≤ s.length := by
  rw [headT_eq]; split
  · simp; omega
  · omega
theorem vc_iff (s : List UInt8) : (AcP (headT s) ∧ sealT (headT s) = s) ↔ VcP s := by
  constructor
  · rintro ⟨⟨_, _, h3⟩, h⟩
    rw [h] at h3
    exact ⟨h3, h⟩
  · rintro ⟨h1, h2⟩
    have := headT_len s
    exact ⟨⟨by omega, headT_not s, by rw [h2]; exact h1⟩, h2⟩


end Go.Proofs.YtiiobkibgkagbaaDoor
