/- Contracts of functions, walked over the pure layer; each says for which arguments. -/
import Derived.Test.YtjbbijlbenkgcaaDoorRows
import Derived.Test.YtjbbijlbenkgcaaDoorPwR
import Derived.Test.YtjbbijlbenkgcaaDoorTf
import Derived.Test.YtjbbijlbenkgcaaDoorSp
import Derived.Test.YtjbbijlbenkgcaaDoorS4
import Derived.Test.YtjbbijlbenkgcaaDoorS4c
import Derived.Test.YtjbbijlbenkgcaaDoorShelf
import Derived.Test.YtjbbijlbenkgcaaDoorIm
import Derived.Test.YtjbbijlbenkgcaaDoorS5
import Derived.Test.YtjbbijlbenkgcaaDoorI4c
import Derived.Test.YtjbbijlbenkgcaaDoorS5p
namespace Go.Proofs.YtjbbijlbenkgcaaDoor.I5Ty
open Go.RowKit

def az (u : TypeId) : Nat := match u with  | _ => 0

theorem sl_24 : SlTy Tryd.prog 24 3 1 8 [.int .i64 0] := slTy_of Tryd.underlying24 (z := .int .i64 0) (by kernel_rfl) rfl (by decide) (by decide) rfl
theorem one_3 : OneTy Tryd.prog 3 := oneTy_of Tryd.underlying3 rfl (by kernel_rfl)

end Go.Proofs.YtjbbijlbenkgcaaDoor.I5Ty
namespace Go.Proofs.YtjbbijlbenkgcaaDoor
open Go.RowKit I5Ty
set_option linter.unusedVariables false
set_option linter.unusedSimpArgs false

set_option maxRecDepth 4000 in
theorem index_c (l : List Int) (n : Int) (hl : l.length ≤ 4611686018427387904) : PCalls Tryd.prog 125 [.sl l.length (l.map (.int .i64)), .int .i64 n] (fun rs => ∃ i : Int, rs = [.val (.int .i64 i)] ∧ (0 ≤ i ↔ hasK l n l.length = true)) := by
  refine pcalls_of_code (n := 19) az Tryd.func125 (by kernel_rfl) rfl rfl (Nat.le_of_ble_eq_true rfl) (by intro t u h; simp [Tryd.f125] at h) ?_
  refine code_seq (fun K1 hK1 => ?_)
  refine code_region ?_
  refine list_cons rfl (op_q (q_assign rfl (by decide)) ?_)
  refine list_nil ?_
  refine hK1 _ ?_; clear hK1 K1
  refine code_seq (fun K2 hK2 => ?_)
  refine code_seq (fun K3 hK3 => ?_)
  refine code_region ?_
  refine list_cons rfl (op_q (q_move rfl (by decide)) ?_)
  refine list_cons rfl (op_q (q_len_sl Tryd.underlying24 rfl rfl (by decide)) ?_)
  refine list_cons rfl (op_q (q_move rfl (by decide)) ?_)
  refine list_nil ?_
  refine hK3 _ ?_; clear hK3 K3
  refine code_block ?_
  refine code_loop (X := Int × Int) (fun x => [(0, .par 0 (.sl l.length (l.map (.int .i64)))), (1, .val (.int .i64 n)), (4, .val (.int .i64 x.1)), (7, .val (.int .i64 l.length)), (8, .val (.int .i64 x.2))]) (fun x => 0 ≤ x.2 ∧ x.2 ≤ l.length ∧ hasK l n x.2.toNat = false) (fun x => (l.length - x.2).toNat) (_, _) (imp_covers ⟨rfl, rfl, rfl, rfl, rfl, trivial⟩) ?_ ?_
  · (try dsimp only)
    exact ⟨by omega, by omega, rfl⟩
  · intro x hI
    obtain ⟨t4, t8⟩ := x
    replace hI : 0 ≤ t8 ∧ t8 ≤ l.length ∧ hasK l n t8.toNat = false := hI
    show codeT _ _ _ [(0, .par 0 (.sl l.length (l.map (.int .i64)))), (1, .val (.int .i64 n)), (4, .val (.int .i64 t4)), (7, .val (.int .i64 l.length)), (8, .val (.int .i64 t8))] _
    obtain ⟨i1, i2, i3⟩ := hI
    refine code_seq (fun K4 hK4 => ?_)
    refine code_region ?_
    refine list_cons rfl (op_q (q_lt rfl rfl (by decide)) ?_)
    refine list_nil ?_
    refine hK4 _ ?_; clear hK4 K4
    refine code_seq (fun K5 hK5 => ?_)
    refine code_cond_d rfl (fun h1 => ?_) (fun h1 => ?_)
    · skip
      (try simp only [Decidable.not_not] at h1)
      refine code_skip ?_
      refine hK5 _ ?_; clear hK5 K5
      refine code_seq (fun K6 hK6 => ?_)
      refine code_block ?_
      refine code_seq (fun K7 hK7 => ?_)
      refine code_region ?_
      refine list_cons rfl (op_q (q_move rfl (by decide)) ?_)
      refine list_cons rfl (op_q (q_assign rfl (by decide)) ?_)
      refine list_nil ?_
      refine hK7 _ ?_; clear hK7 K7
      refine code_seq (fun K8 hK8 => ?_)
      refine code_region ?_
      refine list_cons rfl (op_q (q_move rfl (by decide)) ?_)
      refine list_cons rfl (op_q (q_move rfl (by decide)) ?_)
      refine list_cons rfl (op_q (q_move rfl (by decide)) ?_)
      refine list_cons rfl (op_q (q_indexAddr_rd sl_24 rfl (.inl ⟨_, rfl, rfl⟩) rfl (by omega) (by omega) (by decide)) ?_)
      refine list_cons rfl (op_q (q_load_rd one_3 rfl (.inl ⟨_, (by first | rfl | exact congrArg (SV.rpar _) (drop_map1 _ 0 _ (by first | omega | (simp; omega)))), rfl⟩) (by decide)) ?_)
      refine list_cons rfl (op_q (q_eq rfl rfl (by decide)) ?_)
      refine list_nil ?_
      refine hK8 _ ?_; clear hK8 K8
      refine codeT.imp (σ' := [(0, _), (1, _), (4, _), (5, _), (7, _), (8, _), (16, _)]) ?_ (imp_covers ⟨rfl, rfl, rfl, rfl, rfl, rfl, rfl, trivial⟩)
      refine code_cond_d rfl (fun h2 => ?_) (fun h2 => ?_)
      · skip
        (try simp only [Decidable.not_not] at h2)
        refine code_seq (fun K9 hK9 => ?_)
        refine code_region ?_
        refine list_cons rfl (op_q (q_move rfl (by decide)) ?_)
        refine list_cons rfl (op_q (q_assign rfl (by decide)) ?_)
        refine list_nil ?_
        refine hK9 _ ?_; clear hK9 K9
        refine code_ret ?_
        refine blk_r ?_
        refine then_r ?_; clear hK6 K6
        refine then_r ?_
        refine blk_r ?_
        refine then_r ?_; clear hK2 K2
        refine ends_ret (cs := []) rfl rfl rfl rfl trivial ?_
        first
          | (refine ⟨_, rfl, fun _ => ?_, fun _ => by omega⟩
             have : ∀ m, t8.toNat < m → hasK l n m = true := by
               intro m
               induction m with
               | zero => intro h; omega
               | succ m ih =>
                 intro h
                 rw [hasK]
                 by_cases e : t8.toNat = m
                 · rw [← e, decide_eq_true (h2).symm]; simp
                 · rw [ih (by omega)]; rfl
             exact this _ (by omega))
          | (refine ⟨_, rfl, fun h => by omega, fun h => ?_⟩
             rw [show l.length = t8.toNat by omega, i3] at h; cases h)
      (try simp only [Decidable.not_not] at h2)
      refine code_skip ?_
      refine blk_n ?_
      refine hK6 _ ?_; clear hK6 K6
      refine code_region ?_
      refine list_cons rfl (op_q (by first | exact q_addI rfl rfl (by decide) (by omega) (by omega) | exact q_ib rfl rfl rfl (by decide)) ?_)
      refine list_cons rfl (op_q (q_move rfl (by decide)) ?_)
      refine list_nil ?_
      refine then_n ⟨(_, _), imp_covers ⟨rfl, rfl, rfl, rfl, rfl, trivial⟩, ?_, ?_⟩
      · (try dsimp only)
        exact ⟨by omega, by omega, by rw [show (t8 + 1).toNat = t8.toNat + 1 by omega, hasK, i3, decide_eq_false (fun e => h2 e.symm)]; rfl⟩
      · (try dsimp only); omega
    (try simp only [Decidable.not_not] at h1)
    refine code_exit ?_
    refine then_x ?_; clear hK5 K5
    refine then_x ?_
    refine blk_hit ?_
    refine hK2 _ ?_; clear hK2 K2
    refine code_seq (fun K10 hK10 => ?_)
    refine code_region ?_
    refine list_cons rfl (op_q (q_assign rfl (by decide)) ?_)
    refine list_nil ?_
    refine hK10 _ ?_; clear hK10 K10
    refine code_ret ?_
    refine ends_ret (cs := []) rfl rfl rfl rfl trivial ?_
    first
      | (refine ⟨_, rfl, fun _ => ?_, fun _ => by omega⟩
         have : ∀ m, t8.toNat < m → hasK l n m = true := by
           intro m
           induction m with
           | zero => intro h; omega
           | succ m ih =>
             intro h
             rw [hasK]
             by_cases e : t8.toNat = m
             · rw [← e, decide_eq_true (h1).symm]; simp
             · rw [ih (by omega)]; rfl
         exact this _ (by omega))
      | (refine ⟨_, rfl, fun h => by omega, fun h => ?_⟩
         rw [show l.length = t8.toNat by omega, i3] at h; cases h)

set_option maxRecDepth 4000 in
theorem contains_c (l : List Int) (n : Int) (hl : l.length ≤ 4611686018427387904) : PCalls Tryd.prog 99 [.sl l.length (l.map (.int .i64)), .int .i64 n] (· = [.val (.bool (decide (hasK l n l.length = true)))]) := by
  refine pcalls_of_code (n := 9) az Tryd.func99 (by kernel_rfl) rfl rfl (Nat.le_of_ble_eq_true rfl) (by intro t u h; simp [Tryd.f99] at h) ?_
  refine code_seq (fun K1 hK1 => ?_)
  refine code_region ?_
  refine list_cons rfl (op_q (q_assign rfl (by decide)) ?_)
  refine list_nil ?_
  refine hK1 _ ?_; clear hK1 K1
  refine code_seq (fun K2 hK2 => ?_)
  refine code_region ?_
  refine list_cons rfl (op_q (q_move rfl (by decide)) ?_)
  refine list_cons rfl (op_q (q_move rfl (by decide)) ?_)
  refine list_cons rfl (op_call _ (index_c _ _ (by omega)) rfl rfl (by decide) (by decide) (by decide) rfl ?_)
  rintro _ ⟨ix, rfl, hix⟩
  refine list_cons rfl (op_q (q_ge rfl rfl (by decide)) ?_)
  refine list_cons rfl (op_q (q_assign rfl (by decide)) ?_)
  refine list_nil ?_
  refine hK2 _ ?_; clear hK2 K2
  refine codeT.imp (σ' := [(0, _), (1, _), (4, _)]) ?_ (imp_covers ⟨rfl, rfl, rfl, trivial⟩)
  refine code_ret ?_
  refine ends_ret (cs := []) rfl rfl rfl rfl trivial ?_
  congr 3
  exact decide_eq_decide.mpr hix

theorem contains_T (l : List Int) (n i : Int) (h0 : 0 ≤ i) (h1 : i ≤ l.length) (hl : l.length ≤ 4611686018427387904) : PCalls Tryd.prog 99 [.sl (i.toNat - Int.toNat 0) (List.take ((i.toNat - Int.toNat 0) * 1) (List.drop (Int.toNat 0 * 1) (l.map (PV.int .i64)))), .int .i64 n] (· = [.val (.bool (decide (hasK l n i.toNat = true)))]) := by
  have h2 := contains_c (l.take i.toNat) n (by simp; omega)
  have e : (l.take i.toNat).length = i.toNat := by simp; omega
  rw [e, hasK_take l n (by omega) i.toNat (Nat.le_refl _), List.map_take] at h2
  rw [show i.toNat - Int.toNat 0 = i.toNat by omega, show Int.toNat 0 * 1 = 0 from rfl, List.drop_zero, Nat.mul_one]
  exact h2

set_option maxRecDepth 4000 in
theorem impl_IsCode (l : List Int) (hl : l.length ≤ 4611686018427387904) : PCalls Tryd.prog 40 [.sl l.length (l.map (.int .i64))] (· = [.val (.bool (decide (CodeP l)))]) := by
  refine pcalls_of_code (n := 31) az Tryd.func40 (by kernel_rfl) rfl rfl (Nat.le_of_ble_eq_true rfl) (by intro t u h; simp [Tryd.f40] at h) ?_
  refine code_seq (fun K1 hK1 => ?_)
  refine code_region ?_
  refine list_cons rfl (op_q (q_assign rfl (by decide)) ?_)
  refine list_nil ?_
  refine hK1 _ ?_; clear hK1 K1
  refine code_seq (fun K2 hK2 => ?_)
  refine code_seq (fun K3 hK3 => ?_)
  refine code_region ?_
  refine list_cons rfl (op_q (q_move rfl (by decide)) ?_)
  refine list_cons rfl (op_q (q_len_sl Tryd.underlying24 rfl rfl (by decide)) ?_)
  refine list_cons rfl (op_q (q_eq rfl rfl (by decide)) ?_)
  refine list_cons rfl (op_q (q_move rfl (by decide)) ?_)
  refine list_guard_d rfl rfl rfl rfl (by decide) rfl (by decide) (fun h1 => ?_) (fun h1 => ?_)
  · simp only [Bool.false_eq_true, if_true, if_false, Decidable.not_not] at h1
    refine id (op_q (q_move rfl (by decide)) ?_)
    refine list_guard_y rfl rfl rfl rfl (by decide) rfl ?_
    refine id (op_q (q_len_sl Tryd.underlying24 rfl rfl (by decide)) ?_)
    refine list_guard_y rfl rfl rfl rfl (by decide) rfl ?_
    refine id (op_q (q_gt rfl rfl (by decide)) ?_)
    refine list_cons rfl (op_q (q_pick rfl rfl (by decide)) ?_)
    refine list_nil ?_
    refine hK3 _ ?_; clear hK3 K3
    refine codeT.imp (σ' := [(0, _), (2, _), (12, _)]) ?_ (imp_covers ⟨rfl, rfl, rfl, trivial⟩)
    refine code_cond_d rfl (fun h2 => ?_) (fun h2 => ?_)
    · skip
      (try simp only [Decidable.not_not] at h2)
      refine code_seq (fun K4 hK4 => ?_)
      refine code_region ?_
      refine list_cons rfl (op_q (q_assign rfl (by decide)) ?_)
      refine list_nil ?_
      refine hK4 _ ?_; clear hK4 K4
      refine code_ret ?_
      refine then_r ?_; clear hK2 K2
      refine ends_ret (cs := []) rfl rfl rfl rfl trivial ?_
      first
        | (rw [decide_eq_false (fun e => absurd (codK_at e.2 (j := t15.toNat) (by omega)).1 (by assumption))]; done)
        | (have hx := h2
           rw [decide_eq_false (fun e => by rw [(codK_at e.2 (j := t15.toNat) (by omega)).2] at hx; exact absurd hx (by simp))]; done)
        | (rw [decide_eq_true (show CodeP l from ⟨i0, by rw [show l.length = t15.toNat by omega]; exact i3⟩)]; done)
        | (rw [decide_eq_false (fun e => by have := e.1; omega)]; done)
    (try simp only [Decidable.not_not] at h2)
    refine code_skip ?_
    refine hK2 _ ?_; clear hK2 K2
    refine code_seq (fun K5 hK5 => ?_)
    refine code_seq (fun K6 hK6 => ?_)
    refine code_region ?_
    refine list_cons rfl (op_q (q_move rfl (by decide)) ?_)
    refine list_cons rfl (op_q (q_len_sl Tryd.underlying24 rfl rfl (by decide)) ?_)
    refine list_cons rfl (op_q (q_move rfl (by decide)) ?_)
    refine list_nil ?_
    refine hK6 _ ?_; clear hK6 K6
    refine code_block ?_
    refine code_loop (X := Bool × Int) (fun x => [(0, .par 0 (.sl l.length (l.map (.int .i64)))), (2, .val (.bool x.1)), (13, .par 0 (.sl l.length (l.map (.int .i64)))), (14, .val (.int .i64 l.length)), (15, .val (.int .i64 x.2))]) (fun x => (1 ≤ l.length ∧ l.length ≤ 12) ∧ 0 ≤ x.2 ∧ x.2 ≤ l.length ∧ codK l x.2.toNat = true) (fun x => (l.length - x.2).toNat) (_, _) (imp_covers ⟨rfl, rfl, rfl, rfl, rfl, trivial⟩) ?_ ?_
    · (try dsimp only)
      exact ⟨⟨by omega, by omega⟩, by omega, by omega, rfl⟩
    · intro x hI
      obtain ⟨t2, t15⟩ := x
      replace hI : (1 ≤ l.length ∧ l.length ≤ 12) ∧ 0 ≤ t15 ∧ t15 ≤ l.length ∧ codK l t15.toNat = true := hI
      show codeT _ _ _ [(0, .par 0 (.sl l.length (l.map (.int .i64)))), (2, .val (.bool t2)), (13, .par 0 (.sl l.length (l.map (.int .i64)))), (14, .val (.int .i64 l.length)), (15, .val (.int .i64 t15))] _
      obtain ⟨i0, i1, i2, i3⟩ := hI
      refine code_seq (fun K7 hK7 => ?_)
      refine code_region ?_
      refine list_cons rfl (op_q (q_lt rfl rfl (by decide)) ?_)
      refine list_nil ?_
      refine hK7 _ ?_; clear hK7 K7
      refine code_seq (fun K8 hK8 => ?_)
      refine code_cond_d rfl (fun h3 => ?_) (fun h3 => ?_)
      · skip
        (try simp only [Decidable.not_not] at h3)
        refine code_skip ?_
        refine hK8 _ ?_; clear hK8 K8
        refine code_seq (fun K9 hK9 => ?_)
        refine code_block ?_
        refine code_seq (fun K10 hK10 => ?_)
        refine code_region ?_
        refine list_cons rfl (op_q (q_move rfl (by decide)) ?_)
        refine list_cons rfl (op_q (q_indexAddr_rd sl_24 rfl (.inl ⟨_, rfl, rfl⟩) rfl (by omega) (by omega) (by decide)) ?_)
        refine list_cons rfl (op_q (q_load_rd one_3 rfl (.inl ⟨_, (by first | rfl | exact congrArg (SV.rpar _) (drop_map1 _ 0 _ (by first | omega | (simp; omega)))), rfl⟩) (by decide)) ?_)
        refine list_cons rfl (op_q (q_assign rfl (by decide)) ?_)
        refine list_cons rfl (op_q (q_assign rfl (by decide)) ?_)
        refine list_nil ?_
        refine hK10 _ ?_; clear hK10 K10
        refine code_seq (fun K11 hK11 => ?_)
        refine code_region ?_
        refine list_cons rfl (op_q (q_move rfl (by decide)) ?_)
        refine list_cons rfl (op_call _ (impl_IsCell _) rfl rfl (by decide) (by decide) (by decide) rfl ?_)
        rintro _ rfl
        refine list_cons rfl (op_q (by first | exact q_notd rfl (by decide) | exact q_not rfl (by decide)) ?_)
        refine list_cons rfl (op_q (q_move rfl (by decide)) ?_)
        refine list_guard_d rfl rfl rfl rfl (by decide) rfl (by decide) (fun h4 => ?_) (fun h4 => ?_)
        · simp only [Bool.false_eq_true, if_true, if_false, Decidable.not_not] at h4
          refine id (op_q (q_move rfl (by decide)) ?_)
          refine list_guard_y rfl rfl rfl rfl (by decide) rfl ?_
          refine id (op_q (q_move rfl (by decide)) ?_)
          refine list_guard_y rfl rfl rfl rfl (by decide) rfl ?_
          refine id (op_q (q_slice_sl sl_24 rfl rfl rfl ⟨_, rfl⟩ (by omega) (by omega) (by omega) rfl (by decide)) ?_)
          refine list_guard_y rfl rfl rfl rfl (by decide) rfl ?_
          refine id (op_q (q_move rfl (by decide)) ?_)
          refine list_guard_y rfl rfl rfl rfl (by decide) rfl ?_
          refine id (op_call _ (contains_T l _ t15 i1 (by omega) hl) rfl rfl (by decide) (by decide) (by decide) rfl ?_)
          rintro _ rfl
          refine list_cons rfl (op_q (q_pick rfl rfl (by decide)) ?_)
          refine list_nil ?_
          refine hK11 _ ?_; clear hK11 K11
          refine codeT.imp (σ' := [(0, _), (2, _), (3, _), (4, _), (13, _), (14, _), (15, _), (29, _)]) ?_ (imp_covers ⟨rfl, rfl, rfl, rfl, rfl, rfl, rfl, rfl, trivial⟩)
          refine code_cond_d rfl (fun h5 => ?_) (fun h5 => ?_)
          · skip
            (try simp only [Decidable.not_not] at h5)
            refine code_seq (fun K12 hK12 => ?_)
            refine code_region ?_
            refine list_cons rfl (op_q (q_assign rfl (by decide)) ?_)
            refine list_nil ?_
            refine hK12 _ ?_; clear hK12 K12
            refine code_ret ?_
            refine blk_r ?_
            refine then_r ?_; clear hK9 K9
            refine then_r ?_
            refine blk_r ?_
            refine then_r ?_; clear hK5 K5
            refine ends_ret (cs := []) rfl rfl rfl rfl trivial ?_
            first
              | (rw [decide_eq_false (fun e => absurd (codK_at e.2 (j := t15.toNat) (by omega)).1 (by assumption))]; done)
              | (have hx := h5
                 rw [decide_eq_false (fun e => by rw [(codK_at e.2 (j := t15.toNat) (by omega)).2] at hx; exact absurd hx (by simp))]; done)
              | (rw [decide_eq_true (show CodeP l from ⟨i0, by rw [show l.length = t15.toNat by omega]; exact i3⟩)]; done)
              | (rw [decide_eq_false (fun e => by have := e.1; omega)]; done)
          (try simp only [Decidable.not_not] at h5)
          refine code_skip ?_
          refine blk_n ?_
          refine hK9 _ ?_; clear hK9 K9
          refine code_region ?_
          refine list_cons rfl (op_q (by first | exact q_addI rfl rfl (by decide) (by omega) (by omega) | exact q_ib rfl rfl rfl (by decide)) ?_)
          refine list_cons rfl (op_q (q_move rfl (by decide)) ?_)
          refine list_nil ?_
          refine then_n ⟨(_, _), imp_covers ⟨rfl, rfl, rfl, rfl, rfl, trivial⟩, ?_, ?_⟩
          · (try dsimp only)
            exact ⟨i0, by omega, by omega, by rw [show (t15 + 1).toNat = t15.toNat + 1 by omega]; exact codK_succ i3 (by assumption) (by simpa using h5)⟩
          · (try dsimp only); omega
        simp only [Bool.false_eq_true, if_true, if_false, Decidable.not_not] at h4
        refine list_guard_n rfl rfl rfl rfl (by decide) rfl ?_
        refine list_guard_n rfl rfl rfl rfl (by decide) rfl ?_
        refine list_guard_n rfl rfl rfl rfl (by decide) rfl ?_
        refine list_guard_n rfl rfl rfl rfl (by decide) rfl ?_
        refine list_cons rfl (op_q (q_pick rfl rfl (by decide)) ?_)
        refine list_nil ?_
        refine hK11 _ ?_; clear hK11 K11
        refine codeT.imp (σ' := [(0, _), (2, _), (3, _), (4, _), (13, _), (14, _), (15, _), (29, _)]) ?_ (imp_covers ⟨rfl, rfl, rfl, rfl, rfl, rfl, rfl, rfl, trivial⟩)
        refine code_cond_t rfl ?_
        refine code_seq (fun K13 hK13 => ?_)
        refine code_region ?_
        refine list_cons rfl (op_q (q_assign rfl (by decide)) ?_)
        refine list_nil ?_
        refine hK13 _ ?_; clear hK13 K13
        refine code_ret ?_
        refine blk_r ?_
        refine then_r ?_; clear hK9 K9
        refine then_r ?_
        refine blk_r ?_
        refine then_r ?_; clear hK5 K5
        refine ends_ret (cs := []) rfl rfl rfl rfl trivial ?_
        first
          | (rw [decide_eq_false (fun e => absurd (codK_at e.2 (j := t15.toNat) (by omega)).1 (by assumption))]; done)
          | (have hx := h4
             rw [decide_eq_false (fun e => by rw [(codK_at e.2 (j := t15.toNat) (by omega)).2] at hx; exact absurd hx (by simp))]; done)
          | (rw [decide_eq_true (show CodeP l from ⟨i0, by rw [show l.length = t15.toNat by omega]; exact i3⟩)]; done)
          | (rw [decide_eq_false (fun e => by have := e.1; omega)]; done)
      (try simp only [Decidable.not_not] at h3)
      refine code_exit ?_
      refine then_x ?_; clear hK8 K8
      refine then_x ?_
      refine blk_hit ?_
      refine hK5 _ ?_; clear hK5 K5
      refine code_seq (fun K14 hK14 => ?_)
      refine code_region ?_
      refine list_cons rfl (op_q (q_assign rfl (by decide)) ?_)
      refine list_nil ?_
      refine hK14 _ ?_; clear hK14 K14
      refine code_ret ?_
      refine ends_ret (cs := []) rfl rfl rfl rfl trivial ?_
      first
        | (rw [decide_eq_false (fun e => absurd (codK_at e.2 (j := t15.toNat) (by omega)).1 (by assumption))]; done)
        | (have hx := h3
           rw [decide_eq_false (fun e => by rw [(codK_at e.2 (j := t15.toNat) (by omega)).2] at hx; exact absurd hx (by simp))]; done)
        | (rw [decide_eq_true (show CodeP l from ⟨i0, by rw [show l.length = t15.toNat by omega]; exact i3⟩)]; done)
        | (rw [decide_eq_false (fun e => by have := e.1; omega)]; done)
  simp only [Bool.false_eq_true, if_true, if_false, Decidable.not_not] at h1
  refine list_guard_n rfl rfl rfl rfl (by decide) rfl ?_
  refine list_guard_n rfl rfl rfl rfl (by decide) rfl ?_
  refine list_cons rfl (op_q (q_pick rfl rfl (by decide)) ?_)
  refine list_nil ?_
  refine hK3 _ ?_; clear hK3 K3
  refine code_cond_t rfl ?_
  refine code_seq (fun K15 hK15 => ?_)
  refine code_region ?_
  refine list_cons rfl (op_q (q_assign rfl (by decide)) ?_)
  refine list_nil ?_
  refine hK15 _ ?_; clear hK15 K15
  refine code_ret ?_
  refine then_r ?_; clear hK2 K2
  refine ends_ret (cs := []) rfl rfl rfl rfl trivial ?_
  first
    | (rw [decide_eq_false (fun e => absurd (codK_at e.2 (j := t15.toNat) (by omega)).1 (by assumption))]; done)
    | (have hx := h1
       rw [decide_eq_false (fun e => by rw [(codK_at e.2 (j := t15.toNat) (by omega)).2] at hx; exact absurd hx (by simp))]; done)
    | (rw [decide_eq_true (show CodeP l from ⟨i0, by rw [show l.length = t15.toNat by omega]; exact i3⟩)]; done)
    | (rw [decide_eq_false (fun e => by have := e.1; omega)]; done)

theorem fillC (l : List Int) (f : Int → Int) {k : Nat} (h : k < l.length) : putAt (((l.take k).map f ++ List.replicate (l.length - k) 0).map (PV.int .i64)) (k * 1) [PV.int .i64 (f (l.getD k 0))] = (((l.take (k + 1)).map f ++ List.replicate (l.length - (k + 1)) 0).map (PV.int .i64)) := by
  rw [put_map1 (PV.int .i64) _ (by simp; omega), map_take f 0 l h, List.set_append_right _ _ (by simp; omega), show k - ((l.take k).map f).length = 0 by simp; omega, show l.length - k = l.length - (k + 1) + 1 by omega, List.replicate_succ, List.set_cons_zero]
  simp

set_option maxRecDepth 4000 in
theorem impl_DigitCode (l : List Int) (hl : l.length ≤ 4611686018427387904) : PCalls Tryd.prog 37 [.sl l.length (l.map (.int .i64))] (· = [.own 0 3 1 (if DigP l then dcd l else []).length ((if DigP l then dcd l else []).map (.int .i64)), .val (.bool (decide (DigP l)))]) := by
  refine pcalls_of_code (n := 42) az Tryd.func37 (by kernel_rfl) rfl rfl (Nat.le_of_ble_eq_true rfl) (by intro t u h; simp [Tryd.f37] at h) ?_
  refine code_seq (fun K1 hK1 => ?_)
  refine code_region ?_
  refine list_cons rfl (op_q (q_assign rfl (by decide)) ?_)
  refine list_cons rfl (op_q (q_assign rfl (by decide)) ?_)
  refine list_nil ?_
  refine hK1 _ ?_; clear hK1 K1
  refine code_seq (fun K2 hK2 => ?_)
  refine code_seq (fun K3 hK3 => ?_)
  refine code_region ?_
  refine list_cons rfl (op_q (q_move rfl (by decide)) ?_)
  refine list_cons rfl (op_call _ (impl_isOrder _ (by omega)) rfl rfl (by decide) (by decide) (by decide) rfl ?_)
  rintro _ rfl
  refine list_cons rfl (op_q (by first | exact q_notd rfl (by decide) | exact q_not rfl (by decide)) ?_)
  refine list_cons rfl (op_q (q_move rfl (by decide)) ?_)
  refine list_guard_d rfl rfl rfl rfl (by decide) rfl (by decide) (fun h1 => ?_) (fun h1 => ?_)
  · simp only [Bool.false_eq_true, if_true, if_false, Decidable.not_not] at h1
    refine id (op_q (q_move rfl (by decide)) ?_)
    refine list_guard_y rfl rfl rfl rfl (by decide) rfl ?_
    refine id (op_q (q_len_sl Tryd.underlying24 rfl rfl (by decide)) ?_)
    refine list_guard_y rfl rfl rfl rfl (by decide) rfl ?_
    refine id (op_q (q_eq rfl rfl (by decide)) ?_)
    refine list_cons rfl (op_q (q_pick rfl rfl (by decide)) ?_)
    refine list_nil ?_
    refine hK3 _ ?_; clear hK3 K3
    refine codeT.imp (σ' := [(0, _), (2, _), (3, _), (16, _)]) ?_ (imp_covers ⟨rfl, rfl, rfl, rfl, trivial⟩)
    refine code_cond_d rfl (fun h2 => ?_) (fun h2 => ?_)
    · skip
      (try simp only [Decidable.not_not] at h2)
      refine code_seq (fun K4 hK4 => ?_)
      refine code_region ?_
      refine list_cons rfl (op_buildSlice sl_24 (parts := []) rfl rfl rfl (by decide) (by decide) (by decide) rfl ?_)
      refine list_cons rfl (op_q (q_assign rfl (by decide)) ?_)
      refine list_cons rfl (op_q (q_assign rfl (by decide)) ?_)
      refine list_nil ?_
      refine hK4 _ ?_; clear hK4 K4
      refine code_ret ?_
      refine then_r ?_; clear hK2 K2
      refine ends_ret (cs := []) rfl rfl rfl rfl trivial ?_
      first
        | (have e : DigP l := hD
           have hi : t23.toNat = l.length := by omega
           simp only [if_pos e, decide_eq_true e, dcd_len, hi, List.take_length, Nat.sub_self, List.replicate_zero, List.append_nil]; rfl)
        | (exact absurd (hdg (by omega)) (by assumption))
        | (have e : ¬ DigP l := fun e => absurd e.2 (by assumption)
           simp only [if_neg e, decide_eq_false e]; rfl)
        | (have e : ¬ DigP l := fun e => by have := e.1; omega
           simp only [if_neg e, decide_eq_false e]; rfl)
    (try simp only [Decidable.not_not] at h2)
    refine code_skip ?_
    refine hK2 _ ?_; clear hK2 K2
    refine code_seq (fun K5 hK5 => ?_)
    refine code_region ?_
    refine list_cons rfl (op_q (q_move rfl (by decide)) ?_)
    refine list_cons rfl (op_q (q_len_sl Tryd.underlying24 rfl rfl (by decide)) ?_)
    refine list_cons rfl (op_make sl_24 rfl rfl (by have h12 := ord_len (by assumption : ordK l l.length = true); omega) (by decide) (by decide) rfl ?_)
    refine list_cons rfl (op_q (q_assign rfl (by decide)) ?_)
    refine list_nil ?_
    refine hK5 _ ?_; clear hK5 K5
    refine code_seq (fun K6 hK6 => ?_)
    refine code_seq (fun K7 hK7 => ?_)
    refine code_region ?_
    refine list_cons rfl (op_q (q_move rfl (by decide)) ?_)
    refine list_cons rfl (op_q (q_len_sl Tryd.underlying24 rfl rfl (by decide)) ?_)
    refine list_cons rfl (op_q (q_move rfl (by decide)) ?_)
    refine list_nil ?_
    refine hK7 _ ?_; clear hK7 K7
    refine code_block ?_
    refine code_loop (X := PV × Bool × Nat × List PV × Int) (fun x => [(0, .par 0 (.sl l.length (l.map (.int .i64)))), (2, .val x.1), (3, .val (.bool x.2.1)), (4, .own 20 3 1 x.2.2.1 x.2.2.2.1), (21, .par 0 (.sl l.length (l.map (.int .i64)))), (22, .val (.int .i64 l.length)), (23, .val (.int .i64 x.2.2.2.2))]) (fun x => DigP l ∧ 0 ≤ x.2.2.2.2 ∧ x.2.2.2.2 ≤ l.length ∧ x.2.2.1 = l.length ∧ x.2.2.2.1 = ((l.take x.2.2.2.2.toNat).map digC ++ List.replicate (l.length - x.2.2.2.2.toNat) 0).map (.int .i64)) (fun x => (l.length - x.2.2.2.2).toNat) (_, _, _, _, _) (imp_covers ⟨rfl, rfl, rfl, rfl, rfl, rfl, rfl, trivial⟩) ?_ ?_
    · (try dsimp only)
      refine ⟨⟨by omega, by assumption⟩, by omega, by omega, rfl, ?_⟩
      exact zeros_map1 (PV.int .i64) 0 l.length
    · intro x hI
      obtain ⟨t2_p, t3, code_n, code_c, t23⟩ := x
      replace hI : DigP l ∧ 0 ≤ t23 ∧ t23 ≤ l.length ∧ code_n = l.length ∧ code_c = ((l.take t23.toNat).map digC ++ List.replicate (l.length - t23.toNat) 0).map (.int .i64) := hI
      show codeT _ _ _ [(0, .par 0 (.sl l.length (l.map (.int .i64)))), (2, .val t2_p), (3, .val (.bool t3)), (4, .own 20 3 1 code_n code_c), (21, .par 0 (.sl l.length (l.map (.int .i64)))), (22, .val (.int .i64 l.length)), (23, .val (.int .i64 t23))] _
      obtain ⟨hD, i1, i2, rfl, rfl⟩ := hI
      have hlt := ord_len hD.2
      have hdg := fun h => (ordK_at hD.2 (j := t23.toNat) h).1
      refine code_seq (fun K8 hK8 => ?_)
      refine code_region ?_
      refine list_cons rfl (op_q (q_lt rfl rfl (by decide)) ?_)
      refine list_nil ?_
      refine hK8 _ ?_; clear hK8 K8
      refine code_seq (fun K9 hK9 => ?_)
      refine code_cond_d rfl (fun h3 => ?_) (fun h3 => ?_)
      · skip
        (try simp only [Decidable.not_not] at h3)
        refine code_skip ?_
        refine hK9 _ ?_; clear hK9 K9
        refine code_seq (fun K10 hK10 => ?_)
        refine code_block ?_
        refine code_seq (fun K11 hK11 => ?_)
        refine code_region ?_
        refine list_cons rfl (op_q (q_move rfl (by decide)) ?_)
        refine list_cons rfl (op_q (q_indexAddr_rd sl_24 rfl (.inl ⟨_, rfl, rfl⟩) rfl (by omega) (by omega) (by decide)) ?_)
        refine list_cons rfl (op_q (q_load_rd one_3 rfl (.inl ⟨_, (by first | rfl | exact congrArg (SV.rpar _) (drop_map1 _ 0 _ (by first | omega | (simp; omega)))), rfl⟩) (by decide)) ?_)
        refine list_cons rfl (op_q (q_assign rfl (by decide)) ?_)
        refine list_cons rfl (op_q (q_assign rfl (by decide)) ?_)
        refine list_nil ?_
        refine hK11 _ ?_; clear hK11 K11
        refine code_seq (fun K12 hK12 => ?_)
        refine code_region ?_
        refine list_cons rfl (op_q (q_move rfl (by decide)) ?_)
        refine list_cons rfl (op_call _ (impl_CellOf _) rfl rfl (by decide) (by decide) (by decide) rfl ?_)
        rintro _ rfl
        refine list_cons rfl (op_q (q_move rfl (by decide)) ?_)
        refine list_cons rfl (op_q (q_extract rfl rfl (by decide)) ?_)
        refine list_cons rfl (op_q (q_extract rfl rfl (by decide)) ?_)
        refine list_cons rfl (op_q (q_assign rfl (by decide)) ?_)
        refine list_cons rfl (op_q (q_assign rfl (by decide)) ?_)
        refine list_nil ?_
        refine hK12 _ ?_; clear hK12 K12
        refine codeT.imp (σ' := [(0, _), (2, _), (3, _), (4, _), (5, _), (6, _), (7, _), (8, _), (21, _), (22, _), (23, _)]) ?_ (imp_covers ⟨rfl, rfl, rfl, rfl, rfl, rfl, rfl, rfl, rfl, rfl, rfl, trivial⟩)
        refine code_seq (fun K13 hK13 => ?_)
        refine code_seq (fun K14 hK14 => ?_)
        refine code_region ?_
        refine list_cons rfl (op_q (q_move rfl (by decide)) ?_)
        refine list_cons rfl (op_q (by first | exact q_notd rfl (by decide) | exact q_not rfl (by decide)) ?_)
        refine list_nil ?_
        refine hK14 _ ?_; clear hK14 K14
        refine code_cond_d rfl (fun h4 => ?_) (fun h4 => ?_)
        · skip
          (try simp only [Decidable.not_not] at h4)
          refine code_seq (fun K15 hK15 => ?_)
          refine code_region ?_
          refine list_cons rfl (op_buildSlice sl_24 (parts := []) rfl rfl rfl (by decide) (by decide) (by decide) rfl ?_)
          refine list_cons rfl (op_q (q_assign rfl (by decide)) ?_)
          refine list_cons rfl (op_q (q_assign rfl (by decide)) ?_)
          refine list_nil ?_
          refine hK15 _ ?_; clear hK15 K15
          refine code_ret ?_
          refine then_r ?_; clear hK13 K13
          refine blk_r ?_
          refine then_r ?_; clear hK10 K10
          refine then_r ?_
          refine blk_r ?_
          refine then_r ?_; clear hK6 K6
          refine ends_ret (cs := []) rfl rfl rfl rfl trivial ?_
          first
            | (have e : DigP l := hD
               have hi : t23.toNat = l.length := by omega
               simp only [if_pos e, decide_eq_true e, dcd_len, hi, List.take_length, Nat.sub_self, List.replicate_zero, List.append_nil]; rfl)
            | (exact absurd (hdg (by omega)) (by assumption))
            | (have e : ¬ DigP l := fun e => absurd e.2 (by assumption)
               simp only [if_neg e, decide_eq_false e]; rfl)
            | (have e : ¬ DigP l := fun e => by have := e.1; omega
               simp only [if_neg e, decide_eq_false e]; rfl)
        (try simp only [Decidable.not_not] at h4)
        refine code_skip ?_
        refine hK13 _ ?_; clear hK13 K13
        refine code_region ?_
        refine list_cons rfl (op_q (q_move rfl (by decide)) ?_)
        refine list_cons rfl (op_q (q_move rfl (by decide)) ?_)
        refine list_cons rfl (op_q (q_move rfl (by decide)) ?_)
        refine list_cons rfl (op_q (q_indexAddr_own sl_24 rfl rfl (by omega) (by omega) (by decide)) ?_)
        refine list_cons rfl (op_store (one_3).2 4 [4, 36] (by intro t ht; simp only [List.mem_cons, List.not_mem_nil, or_false] at ht; rcases ht with rfl | rfl <;> rfl) (.inl rfl) rfl rfl rfl rfl rfl rfl (by first | decide | omega | exact Nat.le_refl _ | (simp; done) | (simp; omega)) (by decide) rfl ?_)
        refine list_nil ?_
        refine blk_n ?_
        refine hK10 _ ?_; clear hK10 K10
        refine codeT.imp (σ' := [(0, _), (2, _), (3, _), (4, _), (5, _), (6, _), (7, _), (8, _), (21, _), (22, _), (23, _)]) ?_ (imp_covers ⟨rfl, rfl, rfl, rfl, rfl, rfl, rfl, rfl, rfl, rfl, rfl, trivial⟩)
        refine code_region ?_
        refine list_cons rfl (op_q (by first | exact q_addI rfl rfl (by decide) (by omega) (by omega) | exact q_ib rfl rfl rfl (by decide)) ?_)
        refine list_cons rfl (op_q (q_move rfl (by decide)) ?_)
        refine list_nil ?_
        refine then_n ⟨(_, _, _, _, _), imp_covers ⟨rfl, rfl, rfl, rfl, rfl, rfl, rfl, trivial⟩, ?_, ?_⟩
        · (try dsimp only)
          refine ⟨hD, by omega, by omega, rfl, ?_⟩
          have hd := hdg (by omega)
          rw [show (t23 + 1).toNat = t23.toNat + 1 by omega]
          simp only [if_pos hd]
          exact fillC l digC (by omega)
        · (try dsimp only); omega
      (try simp only [Decidable.not_not] at h3)
      refine code_exit ?_
      refine then_x ?_; clear hK9 K9
      refine then_x ?_
      refine blk_hit ?_
      refine hK6 _ ?_; clear hK6 K6
      refine code_seq (fun K16 hK16 => ?_)
      refine code_region ?_
      refine list_cons rfl (op_q (q_move rfl (by decide)) ?_)
      refine list_cons rfl (op_q (q_assign rfl (by decide)) ?_)
      refine list_cons rfl (op_q (q_assign rfl (by decide)) ?_)
      refine list_nil ?_
      refine hK16 _ ?_; clear hK16 K16
      refine code_ret ?_
      refine ends_ret (cs := []) rfl rfl rfl rfl trivial ?_
      first
        | (have e : DigP l := hD
           have hi : t23.toNat = l.length := by omega
           simp only [if_pos e, decide_eq_true e, dcd_len, hi, List.take_length, Nat.sub_self, List.replicate_zero, List.append_nil]; rfl)
        | (exact absurd (hdg (by omega)) (by assumption))
        | (have e : ¬ DigP l := fun e => absurd e.2 (by assumption)
           simp only [if_neg e, decide_eq_false e]; rfl)
        | (have e : ¬ DigP l := fun e => by have := e.1; omega
           simp only [if_neg e, decide_eq_false e]; rfl)
  simp only [Bool.false_eq_true, if_true, if_false, Decidable.not_not] at h1
  refine list_guard_n rfl rfl rfl rfl (by decide) rfl ?_
  refine list_guard_n rfl rfl rfl rfl (by decide) rfl ?_
  refine list_cons rfl (op_q (q_pick rfl rfl (by decide)) ?_)
  refine list_nil ?_
  refine hK3 _ ?_; clear hK3 K3
  refine code_cond_t rfl ?_
  refine code_seq (fun K17 hK17 => ?_)
  refine code_region ?_
  refine list_cons rfl (op_buildSlice sl_24 (parts := []) rfl rfl rfl (by decide) (by decide) (by decide) rfl ?_)
  refine list_cons rfl (op_q (q_assign rfl (by decide)) ?_)
  refine list_cons rfl (op_q (q_assign rfl (by decide)) ?_)
  refine list_nil ?_
  refine hK17 _ ?_; clear hK17 K17
  refine code_ret ?_
  refine then_r ?_; clear hK2 K2
  refine ends_ret (cs := []) rfl rfl rfl rfl trivial ?_
  first
    | (have e : DigP l := hD
       have hi : t23.toNat = l.length := by omega
       simp only [if_pos e, decide_eq_true e, dcd_len, hi, List.take_length, Nat.sub_self, List.replicate_zero, List.append_nil]; rfl)
    | (exact absurd (hdg (by omega)) (by assumption))
    | (have e : ¬ DigP l := fun e => absurd e.2 (by assumption)
       simp only [if_neg e, decide_eq_false e]; rfl)
    | (have e : ¬ DigP l := fun e => by have := e.1; omega
       simp only [if_neg e, decide_eq_false e]; rfl)

set_option maxRecDepth 4000 in
theorem impl_farApart (a b : Int) (ha : 0 ≤ a ∧ a ≤ 127) (hb : 0 ≤ b ∧ b ≤ 127) : PCalls Tryd.prog 140 [.int .i64 a, .int .i64 b] (· = [.val (.int .i64 (farC a b))]) := by
  refine pcalls_of_code (n := 14) az Tryd.func140 (by kernel_rfl) rfl rfl (Nat.le_of_ble_eq_true rfl) (by intro t u h; simp [Tryd.f140] at h) ?_
  refine code_seq (fun K1 hK1 => ?_)
  refine code_region ?_
  refine list_cons rfl (op_q (q_assign rfl (by decide)) ?_)
  refine list_nil ?_
  refine hK1 _ ?_; clear hK1 K1
  refine code_seq (fun K2 hK2 => ?_)
  refine code_region ?_
  refine list_cons rfl (op_q (q_move rfl (by decide)) ?_)
  refine list_cons rfl (op_q (q_move rfl (by decide)) ?_)
  refine list_cons rfl (op_call _ (impl_FarCells _ _) rfl rfl (by decide) (by decide) (by decide) rfl ?_)
  rintro _ rfl
  refine list_cons rfl (op_q (q_move rfl (by decide)) ?_)
  refine list_cons rfl (op_q (q_extract rfl rfl (by decide)) ?_)
  refine list_cons rfl (op_q (q_extract rfl rfl (by decide)) ?_)
  refine list_cons rfl (op_q (q_assign rfl (by decide)) ?_)
  refine list_cons rfl (op_q (q_assign rfl (by decide)) ?_)
  refine list_nil ?_
  refine hK2 _ ?_; clear hK2 K2
  refine codeT.imp (σ' := [(0, _), (1, _), (4, _), (5, _)]) ?_ (imp_covers ⟨rfl, rfl, rfl, rfl, trivial⟩)
  refine code_seq (fun K3 hK3 => ?_)
  refine code_region ?_
  refine list_cons rfl (op_q (q_move rfl (by decide)) ?_)
  refine list_cons rfl (op_q (q_assign rfl (by decide)) ?_)
  refine list_nil ?_
  refine hK3 _ ?_; clear hK3 K3
  refine code_ret ?_
  refine ends_ret (cs := []) rfl rfl rfl rfl trivial ?_
  rw [if_pos ⟨ha, hb⟩]; rfl

set_option maxRecDepth 4000 in
theorem impl_isDistance (d : Int) : PCalls Tryd.prog 95 [.int .i64 d] (· = [.val (.bool (decide (1 ≤ d ∧ d ≤ 7)))]) := by
  refine pcalls_of_code (n := 9) az Tryd.func95 (by kernel_rfl) rfl rfl (Nat.le_of_ble_eq_true rfl) (by intro t u h; simp [Tryd.f95] at h) ?_
  refine code_seq (fun K1 hK1 => ?_)
  refine code_region ?_
  refine list_cons rfl (op_q (q_assign rfl (by decide)) ?_)
  refine list_nil ?_
  refine hK1 _ ?_; clear hK1 K1
  refine code_seq (fun K2 hK2 => ?_)
  refine code_region ?_
  refine list_cons rfl (op_q (q_move rfl (by decide)) ?_)
  refine list_cons rfl (op_q (q_ge rfl rfl (by decide)) ?_)
  refine list_cons rfl (op_q (q_move rfl (by decide)) ?_)
  refine list_guard_d rfl rfl rfl rfl (by decide) rfl (by decide) (fun h1 => ?_) (fun h1 => ?_)
  · simp only [Bool.false_eq_true, if_true, if_false, Decidable.not_not] at h1
    refine id (op_q (q_move rfl (by decide)) ?_)
    refine list_guard_y rfl rfl rfl rfl (by decide) rfl ?_
    refine id (op_q (q_le rfl rfl (by decide)) ?_)
    refine list_cons rfl (op_q (q_pick rfl rfl (by decide)) ?_)
    refine list_cons rfl (op_q (q_assign rfl (by decide)) ?_)
    refine list_nil ?_
    refine hK2 _ ?_; clear hK2 K2
    refine code_ret ?_
    refine ends_ret (cs := []) rfl rfl rfl rfl trivial ?_
    first | rfl | (congr 3; exact decide_eq_decide.mpr ⟨fun k => by omega, fun k => by omega⟩) | (rw [decide_eq_false (by omega)]) | (rw [decide_eq_true (by omega)])
  simp only [Bool.false_eq_true, if_true, if_false, Decidable.not_not] at h1
  refine list_guard_n rfl rfl rfl rfl (by decide) rfl ?_
  refine list_cons rfl (op_q (q_pick rfl rfl (by decide)) ?_)
  refine list_cons rfl (op_q (q_assign rfl (by decide)) ?_)
  refine list_nil ?_
  refine hK2 _ ?_; clear hK2 K2
  refine code_ret ?_
  refine ends_ret (cs := []) rfl rfl rfl rfl trivial ?_
  first | rfl | (congr 3; exact decide_eq_decide.mpr ⟨fun k => by omega, fun k => by omega⟩) | (rw [decide_eq_false (by omega)]) | (rw [decide_eq_true (by omega)])

theorem flip_get (l : List Int) (b : Int) {k : Nat} (h : k < l.length) : (flp (l.take k) b ++ l.drop k).getD k 0 = l.getD k 0 := by
  have e : (flp (l.take k) b).length = k := by simp [flp]; omega
  rw [List.getD_eq_getElem?_getD, List.getElem?_append_right (by omega), e, Nat.sub_self, List.getElem?_drop, Nat.add_zero, ← List.getD_eq_getElem?_getD]
theorem flip_put (l : List Int) (b : Int) {k : Nat} (h : k < l.length) : putAt ((flp (l.take k) b ++ l.drop k).map (PV.int .i64)) (k * 1) [PV.int .i64 (((l.getD k 0).toNat ^^^ b.toNat : Nat) : Int)] = (flp (l.take (k + 1)) b ++ l.drop (k + 1)).map (PV.int .i64) := by
  have e : (flp (l.take k) b).length = k := by simp [flp]; omega
  rw [put_map1 (PV.int .i64) _ (by simp [flp]; omega), List.set_append_right _ _ (by omega), e, Nat.sub_self, List.drop_eq_getElem_cons h, List.set_cons_zero]
  unfold flp
  rw [map_take _ 0 l h]; simp

set_option maxRecDepth 4000 in
theorem impl_FlipCode (l : List Int) (b : Int) (hl : l.length ≤ 4611686018427387904) : PCalls Tryd.prog 31 [.sl l.length (l.map (.int .i64)), .int .i64 b] (· = [.own 0 3 1 (if CodeP l ∧ 0 ≤ b ∧ b ≤ 127 then flp l b else []).length ((if CodeP l ∧ 0 ≤ b ∧ b ≤ 127 then flp l b else []).map (.int .i64)), .val (.bool (decide (CodeP l ∧ 0 ≤ b ∧ b ≤ 127)))]) := by
  refine pcalls_of_code (n := 37) az Tryd.func31 (by kernel_rfl) rfl rfl (Nat.le_of_ble_eq_true rfl) (by intro t u h; simp [Tryd.f31] at h) ?_
  refine code_seq (fun K1 hK1 => ?_)
  refine code_region ?_
  refine list_cons rfl (op_q (q_assign rfl (by decide)) ?_)
  refine list_cons rfl (op_q (q_assign rfl (by decide)) ?_)
  refine list_nil ?_
  refine hK1 _ ?_; clear hK1 K1
  refine code_seq (fun K2 hK2 => ?_)
  refine code_seq (fun K3 hK3 => ?_)
  refine code_region ?_
  refine list_cons rfl (op_q (q_move rfl (by decide)) ?_)
  refine list_cons rfl (op_call _ (impl_IsCode _ (by omega)) rfl rfl (by decide) (by decide) (by decide) rfl ?_)
  rintro _ rfl
  refine list_cons rfl (op_q (by first | exact q_notd rfl (by decide) | exact q_not rfl (by decide)) ?_)
  refine list_cons rfl (op_q (q_move rfl (by decide)) ?_)
  refine list_guard_d rfl rfl rfl rfl (by decide) rfl (by decide) (fun h1 => ?_) (fun h1 => ?_)
  · simp only [Bool.false_eq_true, if_true, if_false, Decidable.not_not] at h1
    refine id (op_q (q_move rfl (by decide)) ?_)
    refine list_guard_y rfl rfl rfl rfl (by decide) rfl ?_
    refine id (op_call _ (impl_IsCell _) rfl rfl (by decide) (by decide) (by decide) rfl ?_)
    rintro _ rfl
    refine list_guard_y rfl rfl rfl rfl (by decide) rfl ?_
    refine id (op_q (by first | exact q_notd rfl (by decide) | exact q_not rfl (by decide)) ?_)
    refine list_cons rfl (op_q (q_pick rfl rfl (by decide)) ?_)
    refine list_nil ?_
    refine hK3 _ ?_; clear hK3 K3
    refine codeT.imp (σ' := [(0, _), (1, _), (4, _), (5, _), (15, _)]) ?_ (imp_covers ⟨rfl, rfl, rfl, rfl, rfl, trivial⟩)
    refine code_cond_d rfl (fun h2 => ?_) (fun h2 => ?_)
    · skip
      (try simp only [Decidable.not_not] at h2)
      refine code_seq (fun K4 hK4 => ?_)
      refine code_region ?_
      refine list_cons rfl (op_buildSlice sl_24 (parts := []) rfl rfl rfl (by decide) (by decide) (by decide) rfl ?_)
      refine list_cons rfl (op_q (q_assign rfl (by decide)) ?_)
      refine list_cons rfl (op_q (q_assign rfl (by decide)) ?_)
      refine list_nil ?_
      refine hK4 _ ?_; clear hK4 K4
      refine code_ret ?_
      refine then_r ?_; clear hK2 K2
      refine ends_ret (cs := []) rfl rfl rfl rfl trivial ?_
      first
        | (have e : ¬ (CodeP l ∧ 0 ≤ b ∧ b ≤ 127) := fun e => absurd e.1 (by assumption)
           simp only [if_neg e, decide_eq_false e]; rfl)
        | (have e : ¬ (CodeP l ∧ 0 ≤ b ∧ b ≤ 127) := fun e => absurd e.2 (by assumption)
           simp only [if_neg e, decide_eq_false e]; rfl)
        | (have hi : t25.toNat = l.length := by omega
           simp only [if_pos hC, decide_eq_true hC, flp_len, hi, List.take_length, List.drop_length, List.append_nil])
    (try simp only [Decidable.not_not] at h2)
    refine code_skip ?_
    refine hK2 _ ?_; clear hK2 K2
    refine code_seq (fun K5 hK5 => ?_)
    refine code_region ?_
    refine list_cons rfl (op_q (q_move rfl (by decide)) ?_)
    refine list_cons rfl (op_q (q_len_sl Tryd.underlying24 rfl rfl (by decide)) ?_)
    refine list_cons rfl (op_make sl_24 rfl rfl (by have h12 := (by assumption : CodeP l).1; omega) (by decide) (by decide) rfl ?_)
    refine list_cons rfl (op_q (q_assign rfl (by decide)) ?_)
    refine list_nil ?_
    refine hK5 _ ?_; clear hK5 K5
    refine code_seq (fun K6 hK6 => ?_)
    refine code_region ?_
    refine list_cons rfl (op_q (q_move rfl (by decide)) ?_)
    refine list_cons rfl (op_q (q_move rfl (by decide)) ?_)
    refine list_cons rfl (op_copy sl_24 [19, 6, 20] (by intro t ht; simp only [List.mem_cons, List.not_mem_nil, or_false] at ht; rcases ht with rfl | rfl | rfl <;> rfl) rfl rfl rfl (by first | rfl | exact flat_map _ (fun _ => rfl) _) (by first | rfl | simp | omega) (by decide) ?_)
    refine list_nil ?_
    refine hK6 _ ?_; clear hK6 K6
    refine codeT.imp (σ' := [(0, _), (1, _), (4, _), (5, _), (6, _)]) ?_ (imp_covers ⟨rfl, rfl, rfl, rfl, rfl, trivial⟩)
    refine code_seq (fun K7 hK7 => ?_)
    refine code_seq (fun K8 hK8 => ?_)
    refine code_region ?_
    refine list_cons rfl (op_q (q_move rfl (by decide)) ?_)
    refine list_cons rfl (op_q (q_len_sl Tryd.underlying24 rfl rfl (by decide)) ?_)
    refine list_cons rfl (op_q (q_move rfl (by decide)) ?_)
    refine list_nil ?_
    refine hK8 _ ?_; clear hK8 K8
    refine code_block ?_
    refine code_loop (X := PV × Bool × Nat × List PV × Int) (fun x => [(0, .par 0 (.sl l.length (l.map (.int .i64)))), (1, .val (.int .i64 b)), (4, .val x.1), (5, .val (.bool x.2.1)), (6, .own 19 3 1 x.2.2.1 x.2.2.2.1), (24, .val (.int .i64 l.length)), (25, .val (.int .i64 x.2.2.2.2))]) (fun x => (CodeP l ∧ 0 ≤ b ∧ b ≤ 127) ∧ 0 ≤ x.2.2.2.2 ∧ x.2.2.2.2 ≤ l.length ∧ x.2.2.1 = l.length ∧ x.2.2.2.1 = (flp (l.take x.2.2.2.2.toNat) b ++ l.drop x.2.2.2.2.toNat).map (.int .i64)) (fun x => (l.length - x.2.2.2.2).toNat) (_, _, _, _, _) (imp_covers ⟨rfl, rfl, rfl, rfl, rfl, rfl, rfl, trivial⟩) ?_ ?_
    · (try dsimp only)
      exact ⟨⟨by assumption, by assumption⟩, by omega, by omega, rfl, by simp [flp]⟩
    · intro x hI
      obtain ⟨t4_p, t5, flipped_n, flipped_c, t25⟩ := x
      replace hI : (CodeP l ∧ 0 ≤ b ∧ b ≤ 127) ∧ 0 ≤ t25 ∧ t25 ≤ l.length ∧ flipped_n = l.length ∧ flipped_c = (flp (l.take t25.toNat) b ++ l.drop t25.toNat).map (.int .i64) := hI
      show codeT _ _ _ [(0, .par 0 (.sl l.length (l.map (.int .i64)))), (1, .val (.int .i64 b)), (4, .val t4_p), (5, .val (.bool t5)), (6, .own 19 3 1 flipped_n flipped_c), (24, .val (.int .i64 l.length)), (25, .val (.int .i64 t25))] _
      obtain ⟨hC, i1, i2, rfl, rfl⟩ := hI
      have hl12 := hC.1.1
      have hci := hC.1.cell t25.toNat
      have hfl : (flp (l.take t25.toNat) b ++ l.drop t25.toNat).length = l.length := by simp [flp]; omega
      have hgt := flip_get l b (k := t25.toNat)
      refine code_seq (fun K9 hK9 => ?_)
      refine code_region ?_
      refine list_cons rfl (op_q (q_lt rfl rfl (by decide)) ?_)
      refine list_nil ?_
      refine hK9 _ ?_; clear hK9 K9
      refine code_seq (fun K10 hK10 => ?_)
      refine code_cond_d rfl (fun h3 => ?_) (fun h3 => ?_)
      · skip
        (try simp only [Decidable.not_not] at h3)
        refine code_skip ?_
        refine hK10 _ ?_; clear hK10 K10
        refine code_seq (fun K11 hK11 => ?_)
        refine code_block ?_
        refine code_seq (fun K12 hK12 => ?_)
        refine code_region ?_
        refine list_cons rfl (op_q (q_move rfl (by decide)) ?_)
        refine list_cons rfl (op_q (q_assign rfl (by decide)) ?_)
        refine list_nil ?_
        refine hK12 _ ?_; clear hK12 K12
        refine code_region ?_
        refine list_cons rfl (op_q (q_move rfl (by decide)) ?_)
        refine list_cons rfl (op_q (q_move rfl (by decide)) ?_)
        refine list_cons rfl (op_q (q_indexAddr_own sl_24 rfl rfl (by omega) (by omega) (by decide)) ?_)
        refine list_cons rfl (op_q (q_load one_3 6 rfl rfl rfl (get_map1 (PV.int .i64) 0 (flp (l.take t25.toNat) b ++ l.drop t25.toNat) (by omega)) (by decide)) ?_)
        refine list_cons rfl (op_q (q_move rfl (by decide)) ?_)
        refine list_cons rfl (op_q (by first | exact q_xorI rfl rfl (by decide) (by omega) (by omega) (by omega) (by omega) | exact q_ib rfl rfl rfl (by decide)) ?_)
        refine list_cons rfl (op_q (q_indexAddr_own sl_24 rfl rfl (by omega) (by omega) (by decide)) ?_)
        refine list_cons rfl (op_store (one_3).2 6 [6, 28] (by intro t ht; simp only [List.mem_cons, List.not_mem_nil, or_false] at ht; rcases ht with rfl | rfl <;> rfl) (.inl rfl) rfl rfl rfl rfl rfl rfl (by rw [List.length_map, hfl]; omega) (by decide) rfl ?_)
        refine list_nil ?_
        refine blk_n ?_
        refine hK11 _ ?_; clear hK11 K11
        refine codeT.imp (σ' := [(0, _), (1, _), (4, _), (5, _), (6, _), (7, _), (24, _), (25, _)]) ?_ (imp_covers ⟨rfl, rfl, rfl, rfl, rfl, rfl, rfl, rfl, trivial⟩)
        refine code_region ?_
        refine list_cons rfl (op_q (by first | exact q_addI rfl rfl (by decide) (by omega) (by omega) | exact q_ib rfl rfl rfl (by decide)) ?_)
        refine list_cons rfl (op_q (q_move rfl (by decide)) ?_)
        refine list_nil ?_
        refine then_n ⟨(_, _, _, _, _), imp_covers ⟨rfl, rfl, rfl, rfl, rfl, rfl, rfl, trivial⟩, ?_, ?_⟩
        · (try dsimp only)
          refine ⟨hC, by omega, by omega, rfl, ?_⟩
          rw [show (t25 + 1).toNat = t25.toNat + 1 by omega, hgt (by omega)]
          exact flip_put l b (by omega)
        · (try dsimp only); omega
      (try simp only [Decidable.not_not] at h3)
      refine code_exit ?_
      refine then_x ?_; clear hK10 K10
      refine then_x ?_
      refine blk_hit ?_
      refine hK7 _ ?_; clear hK7 K7
      refine code_seq (fun K13 hK13 => ?_)
      refine code_region ?_
      refine list_cons rfl (op_q (q_move rfl (by decide)) ?_)
      refine list_cons rfl (op_q (q_assign rfl (by decide)) ?_)
      refine list_cons rfl (op_q (q_assign rfl (by decide)) ?_)
      refine list_nil ?_
      refine hK13 _ ?_; clear hK13 K13
      refine code_ret ?_
      refine ends_ret (cs := []) rfl rfl rfl rfl trivial ?_
      first
        | (have e : ¬ (CodeP l ∧ 0 ≤ b ∧ b ≤ 127) := fun e => absurd e.1 (by assumption)
           simp only [if_neg e, decide_eq_false e]; rfl)
        | (have e : ¬ (CodeP l ∧ 0 ≤ b ∧ b ≤ 127) := fun e => absurd e.2 (by assumption)
           simp only [if_neg e, decide_eq_false e]; rfl)
        | (have hi : t25.toNat = l.length := by omega
           simp only [if_pos hC, decide_eq_true hC, flp_len, hi, List.take_length, List.drop_length, List.append_nil])
  simp only [Bool.false_eq_true, if_true, if_false, Decidable.not_not] at h1
  refine list_guard_n rfl rfl rfl rfl (by decide) rfl ?_
  refine list_guard_n rfl rfl rfl rfl (by decide) rfl ?_
  refine list_cons rfl (op_q (q_pick rfl rfl (by decide)) ?_)
  refine list_nil ?_
  refine hK3 _ ?_; clear hK3 K3
  refine code_cond_t rfl ?_
  refine code_seq (fun K14 hK14 => ?_)
  refine code_region ?_
  refine list_cons rfl (op_buildSlice sl_24 (parts := []) rfl rfl rfl (by decide) (by decide) (by decide) rfl ?_)
  refine list_cons rfl (op_q (q_assign rfl (by decide)) ?_)
  refine list_cons rfl (op_q (q_assign rfl (by decide)) ?_)
  refine list_nil ?_
  refine hK14 _ ?_; clear hK14 K14
  refine code_ret ?_
  refine then_r ?_; clear hK2 K2
  refine ends_ret (cs := []) rfl rfl rfl rfl trivial ?_
  first
    | (have e : ¬ (CodeP l ∧ 0 ≤ b ∧ b ≤ 127) := fun e => absurd e.1 (by assumption)
       simp only [if_neg e, decide_eq_false e]; rfl)
    | (have e : ¬ (CodeP l ∧ 0 ≤ b ∧ b ≤ 127) := fun e => absurd e.2 (by assumption)
       simp only [if_neg e, decide_eq_false e]; rfl)
    | (have hi : t25.toNat = l.length := by omega
       simp only [if_pos hC, decide_eq_true hC, flp_len, hi, List.take_length, List.drop_length, List.append_nil])

end Go.Proofs.YtjbbijlbenkgcaaDoor
namespace Go.Proofs.YtjbbijlbenkgcaaDoor.I5pTy
open Go.RowKit

def az (u : TypeId) : Nat := match u with | 93 => 8 | _ => 0

theorem one_24 : OneTy Tryd.prog 24 := oneTy_of Tryd.underlying24 rfl (by kernel_rfl)
theorem sl_24 : SlTy Tryd.prog 24 3 1 8 [.int .i64 0] := slTy_of Tryd.underlying24 (z := .int .i64 0) (by kernel_rfl) rfl (by decide) (by decide) rfl
theorem one_3 : OneTy Tryd.prog 3 := oneTy_of Tryd.underlying3 rfl (by kernel_rfl)
theorem agg_93 : AggTy Tryd.prog 93 8 := aggTy_of Tryd.underlying93 rfl (by kernel_rfl)
theorem zt_93 : ZeroTy Tryd.prog 93 [.sl 0 [], .sl 0 [], .sl 0 [], .sl 0 [], .sl 0 [], .sl 0 [], .sl 0 [], .sl 0 []] := zeroTy_of (z := .agg #[.slice none 0 0, .slice none 0 0, .slice none 0 0, .slice none 0 0, .slice none 0 0, .slice none 0 0, .slice none 0 0, .slice none 0 0]) (by kernel_rfl) rfl
theorem arr_93 : ArTy Tryd.prog 93 8 1 := arTy_of Tryd.underlying93 (by kernel_rfl)
theorem one_45 : OneTy Tryd.prog 45 := oneTy_of Tryd.underlying45 rfl (by kernel_rfl)
theorem bt_56 : BuildTy Tryd.prog 56 (fun i => some (i * 1, 1)) [.int .i64 0, .int .i64 0] := ⟨.agg #[.int .i64 0, .int .i64 0], rfl, fun parts => by kernel_rfl⟩
theorem sl_45 : SlTy Tryd.prog 45 56 2 16 [.int .i64 0, .int .i64 0] := slTy_of Tryd.underlying45 (z := .agg #[.int .i64 0, .int .i64 0]) (by kernel_rfl) rfl (by decide) (by decide) rfl

end Go.Proofs.YtjbbijlbenkgcaaDoor.I5pTy
namespace Go.Proofs.YtjbbijlbenkgcaaDoor
open Go.RowKit I5pTy
set_option linter.unusedVariables false
set_option linter.unusedSimpArgs false

theorem res_boxR {az : TypeId → Nat} {σ : St} {t u l T e s : Nat} {es : List (Option (Nat × List PV))} (h : σ.at t = some (.boxR l T e s es)) (haz : (az u != 0) = true) (hl : es.length = az u) : St.res az σ [.cell t u] = some [.arr l e s es] := by
  simp only [St.res, h, haz, hl, BEq.rfl, Bool.and_self, if_true]
/-- Lists of pairs, one for each distance, as they lie in an array. -/
def esP (f : Nat → List (Int × Int)) : List (Option (Nat × List PV)) := (List.range 8).map fun d => some ((f d).length, fl (f d))
theorem esP_len (f : Nat → List (Int × Int)) : (esP f).length = 8 := by simp [esP]
theorem esP_get (f : Nat → List (Int × Int)) {d : Nat} (h : d < 8) : (esP f)[d]? = some (some ((f d).length, fl (f d))) := by
  unfold esP
  rw [List.getElem?_map, List.getElem?_range h, Option.map_some]
theorem esP_get1 (f : Nat → List (Int × Int)) {d : Nat} (h : d < 8) : (esP f)[d * 1]? = some (some ((f d).length, fl (f d))) := by rw [Nat.mul_one]; exact esP_get f h
theorem esP_put {f g : Nat → List (Int × Int)} {o d : Nat} (ho : o = d) {n : Nat} {cs : List PV} (hd : d < 8) (hn : n = (g d).length) (hc : cs = fl (g d)) (he : ∀ e, e ≠ d → g e = f e) : ((esP f).set o none).set o (some (n, cs)) = esP g := by
  subst ho; subst hn; subst hc
  rw [List.set_set]
  apply List.ext_getElem?
  intro j
  by_cases e : j = o
  · subst e
    rw [List.getElem?_set_self (by rw [esP_len]; exact hd), esP_get g hd]
  · rw [List.getElem?_set_ne (Ne.symm e)]
    by_cases hj : j < 8
    · rw [esP_get f hj, esP_get g hj, he j e]
    · rw [List.getElem?_eq_none (by rw [esP_len]; omega), List.getElem?_eq_none (by rw [esP_len]; omega)]
theorem flat_app2 : ∀ {a b : List PV}, PV.flatL a = true → PV.flatL b = true → PV.flatL (a ++ b) = true
  | [], b, _, h => h
  | x :: a, b, h1, h2 => by
    simp only [PV.flatL, Bool.and_eq_true] at h1
    show (x.flat && PV.flatL (a ++ b)) = true
    rw [h1.1, flat_app2 h1.2 h2]; rfl
def fP (l : List Int) (i m : Nat) (d : Nat) : List (Int × Int) := prL l (d : Int) i ++ prR l (d : Int) i m
theorem fP_0 (l : List Int) (i d : Nat) : fP l i 0 d = prL l (d : Int) i := by unfold fP; rw [prR, List.append_nil]
theorem fP_next (l : List Int) (i : Nat) : fP l i (l.length - (i + 1)) = fP l (i + 1) 0 := by
  funext d; rw [fP_0]; rfl
theorem fP_le (l : List Int) (hl : l.length ≤ 12) {i m : Nat} (hi : i ≤ 12) (hm : m ≤ 12) (d : Nat) : (fP l i m d).length ≤ 156 := by
  unfold fP
  have h1 := prL_len l (d : Int) i
  have h2 := prR_len l (d : Int) i m
  have h3 : i * l.length ≤ 12 * 12 := Nat.mul_le_mul hi hl
  rw [List.length_append]; omega

set_option maxRecDepth 4000 in
theorem farIn1_c (l : List Int) (a b : Int) (hc : ∀ j, j < l.length → 0 ≤ l.getD j 0 ∧ l.getD j 0 ≤ 127) (ha : 0 ≤ a ∧ a < l.length) (hb : 0 ≤ b ∧ b < l.length) : PCalls Tryd.prog 139 [.int .i64 a, .int .i64 b, .ptr [.sl l.length (l.map (.int .i64))]] (· = [.val (.int .i64 (farC (l.getD a.toNat 0) (l.getD b.toNat 0)))]) := by
  refine pcalls_of_code (n := 15) az Tryd.func139 (by kernel_rfl) rfl rfl (Nat.le_of_ble_eq_true rfl) (by intro t u h; simp [Tryd.f139] at h) ?_
  refine codeT.imp ?_ (imp_rpar (s := 2) (i := 2) rfl)
  refine code_seq (fun K1 hK1 => ?_)
  refine code_region ?_
  refine list_cons rfl (op_q (q_assign rfl (by decide)) ?_)
  refine list_nil ?_
  refine hK1 _ ?_; clear hK1 K1
  refine code_seq (fun K2 hK2 => ?_)
  refine code_draw (by kernel_rfl) (by kernel_rfl) ?_
  refine draw_q rfl (q_load_rd one_24 rfl (.inl ⟨_, (by first | rfl | exact congrArg (SV.rpar _) (drop_map1 (PV.int .i64) 0 l (by omega))), rfl⟩) (by decide)) ?_
  refine draw_q rfl (q_move rfl (by decide)) ?_
  refine draw_q rfl (q_indexAddr_rd sl_24 rfl (.inl ⟨_, rfl, rfl⟩) rfl (by omega) (by omega) (by decide)) ?_
  refine draw_q rfl (q_load_rd one_3 rfl (.inl ⟨_, (by first | rfl | exact congrArg (SV.rpar _) (drop_map1 (PV.int .i64) 0 l (by omega))), rfl⟩) (by decide)) ?_
  refine draw_q rfl (q_load_rd one_24 rfl (.inl ⟨_, (by first | rfl | exact congrArg (SV.rpar _) (drop_map1 (PV.int .i64) 0 l (by omega))), rfl⟩) (by decide)) ?_
  refine draw_q rfl (q_move rfl (by decide)) ?_
  refine draw_q rfl (q_indexAddr_rd sl_24 rfl (.inl ⟨_, rfl, rfl⟩) rfl (by omega) (by omega) (by decide)) ?_
  refine draw_q rfl (q_load_rd one_3 rfl (.inl ⟨_, (by first | rfl | exact congrArg (SV.rpar _) (drop_map1 (PV.int .i64) 0 l (by omega))), rfl⟩) (by decide)) ?_
  refine draw_call _ (impl_farApart _ _ (hc a.toNat (by omega)) (hc b.toNat (by omega))) rfl rfl rfl (by decide) ?_
  refine draw_q rfl (q_assign rfl (by decide)) ?_
  refine draw_nil ?_
  refine hK2 _ ?_; clear hK2 K2
  refine codeT.imp (σ' := [(0, _), (1, _), (2, _), (5, _)]) ?_ (imp_covers ⟨rfl, rfl, rfl, rfl, trivial⟩)
  refine code_ret ?_
  refine ends_ret (cs := []) rfl rfl rfl rfl trivial ?_
  rfl

set_option maxRecDepth 4000 in
theorem impl_farIn (l : List Int) : MCalls Tryd.prog 124 true none [.sl l.length (l.map (.int .i64))] (fun rs _ => rs = [.bor 0 (.clo 139 [.ptr [.sl l.length (l.map (.int .i64))]])]) := by
  refine mcalls_of_code (n := 4) az Tryd.func124 (by kernel_rfl) rfl rfl (Nat.le_of_ble_eq_true rfl) (by intro t u h; simp [Tryd.f124] at h) ?_
  refine code_seq (fun K1 hK1 => ?_)
  refine code_region ?_
  refine list_cons rfl (op_box rfl (.inr rfl) (by decide) (by decide) rfl ?_)
  refine list_cons rfl (op_q (q_deadconst (by decide)) ?_)
  refine list_nil ?_
  refine hK1 _ ?_; clear hK1 K1
  refine code_seq (fun K2 hK2 => ?_)
  refine code_region ?_
  refine list_cons rfl (op_makeFuncB (xs := [.tmp 1]) rfl rfl rfl (by decide) (by decide) rfl ?_)
  refine list_cons rfl (op_q (q_assign rfl (by decide)) ?_)
  refine list_nil ?_
  refine hK2 _ ?_; clear hK2 K2
  refine codeT.imp (σ' := [(0, _), (1, _), (2, _)]) ?_ (imp_covers ⟨rfl, rfl, rfl, trivial⟩)
  refine code_ret ?_
  refine ends_ret (cs := []) rfl rfl rfl rfl trivial ?_
  rfl

set_option maxRecDepth 8000 in
set_option maxHeartbeats 2000000 in
theorem impl_pairs (l : List Int) (hl : l.length ≤ 12) (hc : ∀ j, j < l.length → 0 ≤ l.getD j 0 ∧ l.getD j 0 ≤ 127) : MCalls Tryd.prog 88 true none [.sl l.length (l.map (.int .i64))] (fun rs _ => rs = [.arr 0 56 2 (esP (fP l l.length 0))]) := by
  refine mcalls_of_code (n := 39) az Tryd.func88 (by kernel_rfl) rfl rfl (Nat.le_of_ble_eq_true rfl) (by intro t u h; simp [Tryd.f88] at h; obtain ⟨_, rfl⟩ := h <;> first | exact resTy_agg agg_93 (by decide)) ?_
  refine code_seq (fun K1 hK1 => ?_)
  refine code_region ?_
  refine list_cons rfl (op_allocR (e := 56) (size := 2) (k := 8) zt_93 (by decide) (by decide) rfl ?_)
  refine list_nil ?_
  refine hK1 _ ?_; clear hK1 K1
  refine code_seq (fun K2 hK2 => ?_)
  refine code_region ?_
  refine list_cons rfl (op_allocR (e := 56) (size := 2) (k := 8) zt_93 (by decide) (by decide) rfl ?_)
  refine list_nil ?_
  refine hK2 _ ?_; clear hK2 K2
  refine code_seq (fun K3 hK3 => ?_)
  refine code_region ?_
  refine list_cons rfl (op_q (q_move rfl (by decide)) ?_)
  refine list_cons rfl (op_callM (impl_farIn _) (.tmp 0) 0 [] [.tmp 8] _ rfl rfl (by intro y hy; cases hy) (by decide) (by decide) (by decide) rfl (by intro h; cases h) ?_)
  rintro _ _ rfl
  refine list_cons rfl (op_q (q_assign rfl (by decide)) ?_)
  refine list_nil ?_
  refine hK3 _ ?_; clear hK3 K3
  refine codeT.imp (σ' := [(0, _), (2, _), (3, _), (4, _)]) ?_ (imp_covers ⟨rfl, rfl, rfl, rfl, trivial⟩)
  refine code_seq (fun K4 hK4 => ?_)
  refine code_seq (fun K5 hK5 => ?_)
  refine code_region ?_
  refine list_cons rfl (op_q (q_move rfl (by decide)) ?_)
  refine list_cons rfl (op_q (q_len_sl Tryd.underlying24 rfl rfl (by decide)) ?_)
  refine list_cons rfl (op_q (q_move rfl (by decide)) ?_)
  refine list_nil ?_
  refine hK5 _ ?_; clear hK5 K5
  refine code_block ?_
  refine code_loop (X := List (Option (Nat × List PV)) × Int) (fun x => [(0, .ext (.sl l.length (l.map (.int .i64)))), (2, .boxR 2 93 56 2 (List.replicate 8 (some (0, [])))), (3, .boxR 3 93 56 2 x.1), (4, .bor 9 (.clo 139 [.ptr [.sl l.length (l.map (.int .i64))]])), (11, .val (.int .i64 l.length)), (12, .val (.int .i64 x.2))]) (fun x => 0 ≤ x.2 ∧ x.2 ≤ l.length ∧ x.1 = esP (fP l x.2.toNat 0)) (fun x => (l.length - x.2).toNat) (_, _) (imp_covers ⟨rfl, rfl, rfl, rfl, rfl, rfl, trivial⟩) ?_ ?_
  · (try dsimp only)
    exact ⟨by omega, by omega, rfl⟩
  · intro x hI
    obtain ⟨pairs_e, t12⟩ := x
    replace hI : 0 ≤ t12 ∧ t12 ≤ l.length ∧ pairs_e = esP (fP l t12.toNat 0) := hI
    show codeT _ _ _ [(0, .ext (.sl l.length (l.map (.int .i64)))), (2, .boxR 2 93 56 2 (List.replicate 8 (some (0, [])))), (3, .boxR 3 93 56 2 pairs_e), (4, .bor 9 (.clo 139 [.ptr [.sl l.length (l.map (.int .i64))]])), (11, .val (.int .i64 l.length)), (12, .val (.int .i64 t12))] _
    obtain ⟨i1, i2, rfl⟩ := hI
    refine code_seq (fun K6 hK6 => ?_)
    refine code_region ?_
    refine list_cons rfl (op_q (q_lt rfl rfl (by decide)) ?_)
    refine list_nil ?_
    refine hK6 _ ?_; clear hK6 K6
    refine code_seq (fun K7 hK7 => ?_)
    refine code_cond_d rfl (fun h1 => ?_) (fun h1 => ?_)
    · skip
      (try simp only [Decidable.not_not] at h1)
      refine code_skip ?_
      refine hK7 _ ?_; clear hK7 K7
      refine code_seq (fun K8 hK8 => ?_)
      refine code_block ?_
      refine code_seq (fun K9 hK9 => ?_)
      refine code_region ?_
      refine list_cons rfl (op_q (q_move rfl (by decide)) ?_)
      refine list_cons rfl (op_q (q_assign rfl (by decide)) ?_)
      refine list_nil ?_
      refine hK9 _ ?_; clear hK9 K9
      refine code_seq (fun K10 hK10 => ?_)
      refine code_region ?_
      refine list_cons rfl (op_q (q_move rfl (by decide)) ?_)
      refine list_cons rfl (op_q (by first | exact q_addI rfl rfl (by decide) (by omega) (by omega) | exact q_ib rfl rfl rfl (by decide)) ?_)
      refine list_cons rfl (op_q (q_assign rfl (by decide)) ?_)
      refine list_nil ?_
      refine hK10 _ ?_; clear hK10 K10
      refine code_block ?_
      refine code_loop (X := List (Option (Nat × List PV)) × Int) (fun x => [(0, .ext (.sl l.length (l.map (.int .i64)))), (2, .boxR 2 93 56 2 (List.replicate 8 (some (0, [])))), (3, .boxR 3 93 56 2 x.1), (4, .bor 9 (.clo 139 [.ptr [.sl l.length (l.map (.int .i64))]])), (5, .val (.int .i64 t12)), (6, .val (.int .i64 x.2)), (11, .val (.int .i64 l.length)), (12, .val (.int .i64 t12))]) (fun x => t12 + 1 ≤ x.2 ∧ x.2 ≤ l.length ∧ x.1 = esP (fP l t12.toNat (x.2 - (t12 + 1)).toNat)) (fun x => (l.length - x.2).toNat) (_, _) (imp_covers ⟨rfl, rfl, rfl, rfl, rfl, rfl, rfl, rfl, trivial⟩) ?_ ?_
      · (try dsimp only)
        exact ⟨by omega, by omega, by rw [show (t12 + 1 - (t12 + 1)).toNat = 0 by omega]; rfl⟩
      · intro x hI
        obtain ⟨pairs_e, other⟩ := x
        replace hI : t12 + 1 ≤ other ∧ other ≤ l.length ∧ pairs_e = esP (fP l t12.toNat (other - (t12 + 1)).toNat) := hI
        show codeT _ _ _ [(0, .ext (.sl l.length (l.map (.int .i64)))), (2, .boxR 2 93 56 2 (List.replicate 8 (some (0, [])))), (3, .boxR 3 93 56 2 pairs_e), (4, .bor 9 (.clo 139 [.ptr [.sl l.length (l.map (.int .i64))]])), (5, .val (.int .i64 t12)), (6, .val (.int .i64 other)), (11, .val (.int .i64 l.length)), (12, .val (.int .i64 t12))] _
        obtain ⟨j1, j2, rfl⟩ := hI
        refine code_seq (fun K11 hK11 => ?_)
        refine code_seq (fun K12 hK12 => ?_)
        refine code_region ?_
        refine list_cons rfl (op_q (q_move rfl (by decide)) ?_)
        refine list_cons rfl (op_q (q_move rfl (by decide)) ?_)
        refine list_cons rfl (op_q (q_len_sl Tryd.underlying24 rfl rfl (by decide)) ?_)
        refine list_cons rfl (op_q (q_lt rfl rfl (by decide)) ?_)
        refine list_nil ?_
        refine hK12 _ ?_; clear hK12 K12
        refine code_cond_d rfl (fun h2 => ?_) (fun h2 => ?_)
        · skip
          (try simp only [Decidable.not_not] at h2)
          refine code_skip ?_
          refine hK11 _ ?_; clear hK11 K11
          refine code_seq (fun K13 hK13 => ?_)
          refine code_block ?_
          refine code_seq (fun K14 hK14 => ?_)
          refine code_region ?_
          refine list_cons rfl (op_q (q_move rfl (by decide)) ?_)
          refine list_cons rfl (op_q (q_move rfl (by decide)) ?_)
          refine list_cons rfl (op_q (q_move rfl (by decide)) ?_)
          refine list_cons rfl (op_callV _ rfl rfl rfl rfl (pcV (farIn1_c l t12 other hc (by omega) (by omega))) (by decide) ?_)
          rintro _ rfl; have hfl := farC_le (l.getD t12.toNat 0) (l.getD other.toNat 0)
          refine list_cons rfl (op_q (q_assign rfl (by decide)) ?_)
          refine list_nil ?_
          refine hK14 _ ?_; clear hK14 K14
          refine codeT.imp (σ' := [(0, _), (2, _), (3, _), (4, _), (5, _), (6, _), (7, _), (11, _), (12, _)]) ?_ (imp_covers ⟨rfl, rfl, rfl, rfl, rfl, rfl, rfl, rfl, rfl, trivial⟩)
          refine code_region ?_
          refine list_cons rfl (op_q (q_move rfl (by decide)) ?_)
          refine list_cons rfl (op_q (q_move rfl (by decide)) ?_)
          refine list_cons rfl (op_q (q_indexAddr_arr arr_93 rfl rfl rfl (by omega) (by omega) (by decide)) ?_)
          refine list_cons rfl (op_loadR one_45 3 (.inl rfl) rfl (esP_get1 _ (by omega)) (by decide) (by decide) (by decide) rfl ?_)
          refine list_cons rfl (op_q (q_move rfl (by decide)) ?_)
          refine list_cons rfl (op_q (q_move rfl (by decide)) ?_)
          refine list_cons rfl (op_q (q_build bt_56 (parts := [(0, .tmp 31), (1, .tmp 32)]) rfl rfl (by decide)) ?_)
          refine list_cons rfl (op_buildSlice sl_45 (parts := [(0, .tmp 33)]) rfl rfl rfl (by decide) (by decide) (by decide) rfl ?_)
          refine list_cons rfl (op_append_gen sl_45 (l := 30) (.inl rfl) rfl rfl (l2 := none) (.inl ⟨rfl, (by first | rfl | exact flat_map _ (fun _ => rfl) _)⟩) (by first | rfl | (simp [PV.cells, putAt, zeros]; done)) (by have hq := fP_le l hl (i := t12.toNat) (m := (other - (t12 + 1)).toNat) (by omega) (by omega) (farC (l.getD t12.toNat 0) (l.getD other.toNat 0)).toNat; omega) (by decide) (by decide) (by decide) ?_)
          refine list_cons rfl (op_q (q_indexAddr_arr arr_93 rfl rfl rfl (by omega) (by omega) (by decide)) ?_)
          refine list_cons rfl (op_storeR (one_45).2 3 (.inl rfl) rfl rfl (by decide) (by decide) (by exact flat_app2 (fl_flat _) rfl) (by rw [List.length_set, esP_len]; omega) rfl ?_)
          refine list_nil ?_
          refine blk_n ?_
          refine hK13 _ ?_; clear hK13 K13
          refine codeT.imp (σ' := [(0, _), (2, _), (3, _), (4, _), (5, _), (6, _), (7, _), (11, _), (12, _)]) ?_ (imp_covers ⟨rfl, rfl, rfl, rfl, rfl, rfl, rfl, rfl, rfl, trivial⟩)
          refine code_region ?_
          refine list_cons rfl (op_q (q_move rfl (by decide)) ?_)
          refine list_cons rfl (op_q (by first | exact q_addI rfl rfl (by decide) (by omega) (by omega) | exact q_ib rfl rfl rfl (by decide)) ?_)
          refine list_cons rfl (op_q (q_assign rfl (by decide)) ?_)
          refine list_nil ?_
          refine then_n ⟨(_, _), imp_covers ⟨rfl, rfl, rfl, rfl, rfl, rfl, rfl, rfl, trivial⟩, ?_, ?_⟩
          · (try dsimp only)
            refine ⟨by omega, by omega, ?_⟩
            have hm : (other + 1 - (t12 + 1)).toNat = (other - (t12 + 1)).toNat + 1 := by omega
            have hk : t12.toNat + 1 + (other - (t12 + 1)).toNat = other.toNat := by omega
            have hdd : (((farC (l.getD t12.toNat 0) (l.getD other.toNat 0)).toNat : Nat) : Int) = farC (l.getD t12.toNat 0) (l.getD other.toNat 0) := Int.toNat_of_nonneg hfl.1
            have hy : prR l (((farC (l.getD t12.toNat 0) (l.getD other.toNat 0)).toNat : Nat) : Int) t12.toNat ((other - (t12 + 1)).toNat + 1) = _ := prR_yes (by rw [hk, hdd])
            have hG : fP l t12.toNat ((other - (t12 + 1)).toNat + 1) (farC (l.getD t12.toNat 0) (l.getD other.toNat 0)).toNat = fP l t12.toNat (other - (t12 + 1)).toNat (farC (l.getD t12.toNat 0) (l.getD other.toNat 0)).toNat ++ [(t12, other)] := by
              unfold fP
              rw [hy, ← List.append_assoc, hk, show ((t12.toNat : Nat) : Int) = t12 by omega, show ((other.toNat : Nat) : Int) = other by omega]
            rw [hm]
            refine esP_put (d := (farC (l.getD t12.toNat 0) (l.getD other.toNat 0)).toNat) (Nat.mul_one _) (by omega) ?_ ?_ (fun e he => ?_)
            · rw [hG, List.length_append]; rfl
            · rw [hG, fl_app]; rfl
            · unfold fP
              rw [prR_no (fun h => he (by rw [hk] at h; omega))]
          · (try dsimp only); omega
        (try simp only [Decidable.not_not] at h2)
        refine code_exit ?_
        refine then_x ?_; clear hK11 K11
        refine then_x ?_
        refine blk_hit ?_
        refine blk_n ?_
        refine hK8 _ ?_; clear hK8 K8
        refine code_region ?_
        refine list_cons rfl (op_q (by first | exact q_addI rfl rfl (by decide) (by omega) (by omega) | exact q_ib rfl rfl rfl (by decide)) ?_)
        refine list_cons rfl (op_q (q_move rfl (by decide)) ?_)
        refine list_nil ?_
        refine then_n ⟨(_, _), imp_covers ⟨rfl, rfl, rfl, rfl, rfl, rfl, trivial⟩, ?_, ?_⟩
        · (try dsimp only)
          refine ⟨by omega, by omega, ?_⟩
          rw [show (t12 + 1).toNat = t12.toNat + 1 by omega, ← fP_next, show l.length - (t12.toNat + 1) = (other - (t12 + 1)).toNat by omega]
          rfl
        · (try dsimp only); omega
    (try simp only [Decidable.not_not] at h1)
    refine code_exit ?_
    refine then_x ?_; clear hK7 K7
    refine then_x ?_
    refine blk_hit ?_
    refine hK4 _ ?_; clear hK4 K4
    refine code_seq (fun K15 hK15 => ?_)
    refine code_region ?_
    refine list_cons rfl (op_loadArr agg_93 rfl (by rw [esP_len]) (by decide) ?_)
    refine list_cons rfl (op_storeArr (agg_93).2 rfl rfl (by decide) (by decide) (by rw [esP_len]) (by simp) rfl ?_)
    refine list_nil ?_
    refine hK15 _ ?_; clear hK15 K15
    refine codeT.imp (σ' := [(0, _), (2, _), (3, _), (4, _), (11, _), (12, _)]) ?_ (imp_covers ⟨rfl, rfl, rfl, rfl, rfl, rfl, trivial⟩)
    refine code_ret ?_
    refine ends_ret (cs := []) (res_boxR rfl (by decide) (by rw [esP_len]; rfl)) rfl rfl rfl trivial ?_
    rw [show t12.toNat = l.length by omega]

set_option maxRecDepth 4000 in
theorem impl_GapOf (l : List Int) (hl : l.length ≤ 4611686018427387904) : PCalls Tryd.prog 22 [.sl l.length (l.map (.int .i64))] (· = [.val (.int .i64 (if CodeP l then gpL l l.length else 0)), .val (.bool (decide (CodeP l)))]) := by
  refine pcalls_of_code (n := 20) az Tryd.func22 (by kernel_rfl) rfl rfl (Nat.le_of_ble_eq_true rfl) (by intro t u h; simp [Tryd.f22] at h) ?_
  refine code_seq (fun K1 hK1 => ?_)
  refine code_region ?_
  refine list_cons rfl (op_q (q_assign rfl (by decide)) ?_)
  refine list_cons rfl (op_q (q_assign rfl (by decide)) ?_)
  refine list_nil ?_
  refine hK1 _ ?_; clear hK1 K1
  refine code_seq (fun K2 hK2 => ?_)
  refine code_seq (fun K3 hK3 => ?_)
  refine code_region ?_
  refine list_cons rfl (op_q (q_move rfl (by decide)) ?_)
  refine list_cons rfl (op_call _ (impl_IsCode _ (by omega)) rfl rfl (by decide) (by decide) (by decide) rfl ?_)
  rintro _ rfl
  refine list_cons rfl (op_q (by first | exact q_notd rfl (by decide) | exact q_not rfl (by decide)) ?_)
  refine list_nil ?_
  refine hK3 _ ?_; clear hK3 K3
  refine codeT.imp (σ' := [(0, _), (2, _), (3, _), (8, _)]) ?_ (imp_covers ⟨rfl, rfl, rfl, rfl, trivial⟩)
  refine code_cond_d rfl (fun h1 => ?_) (fun h1 => ?_)
  · skip
    (try simp only [Decidable.not_not] at h1)
    refine code_seq (fun K4 hK4 => ?_)
    refine code_region ?_
    refine list_cons rfl (op_q (q_assign rfl (by decide)) ?_)
    refine list_cons rfl (op_q (q_assign rfl (by decide)) ?_)
    refine list_nil ?_
    refine hK4 _ ?_; clear hK4 K4
    refine code_ret ?_
    refine then_r ?_; clear hK2 K2
    refine ends_ret (cs := []) rfl rfl rfl rfl trivial ?_
    first
      | (have e : ¬ CodeP l := by assumption
         simp only [if_neg e, decide_eq_false e]; done)
      | (have hx := h1
         rw [hlp] at hx
         have hg := gap_first hC (d := t11.toNat) (fun h => by rw [h] at hx; simp at hx) i3
         rw [if_pos hC, decide_eq_true hC, hg, Int.toNat_of_nonneg i1]; done)
      | (have hg := gap_none hC (fun j hj => i3 j (by omega))
         rw [if_pos hC, decide_eq_true hC, hg])
  (try simp only [Decidable.not_not] at h1)
  refine code_skip ?_
  refine hK2 _ ?_; clear hK2 K2
  refine code_seq (fun K5 hK5 => ?_)
  refine code_seq (fun K6 hK6 => ?_)
  refine code_region ?_
  refine list_cons rfl (op_q (q_move rfl (by decide)) ?_)
  refine list_cons rfl (op_callM (impl_pairs _ (by have h12 := (by assumption : CodeP l).1; omega) (CodeP.cell (by assumption))) (.tmp 0) 0 [] [.tmp 9] _ rfl rfl (by intro y hy; cases hy) (by decide) (by decide) (by decide) rfl (by intro h; cases h) ?_)
  rintro _ _ rfl
  refine list_cons rfl (op_q (q_move rfl (by decide)) ?_)
  refine list_nil ?_
  refine hK6 _ ?_; clear hK6 K6
  refine codeT.imp (σ' := [(0, _), (2, _), (3, _), (10, _), (11, _)]) ?_ (imp_covers ⟨rfl, rfl, rfl, rfl, rfl, trivial⟩)
  refine code_block ?_
  refine code_loop (X := Int × Bool × Int) (fun x => [(0, .par 0 (.sl l.length (l.map (.int .i64)))), (2, .val (.int .i64 x.1)), (3, .val (.bool x.2.1)), (10, .arr 10 56 2 (esP (fP l l.length 0))), (11, .val (.int .i64 x.2.2))]) (fun x => CodeP l ∧ 0 ≤ x.2.2 ∧ x.2.2 ≤ 8 ∧ ∀ j, j < x.2.2.toNat → prL l (j : Int) l.length = []) (fun x => (8 - x.2.2).toNat) (_, _, _) (imp_covers ⟨rfl, rfl, rfl, rfl, rfl, trivial⟩) ?_ ?_
  · (try dsimp only)
    exact ⟨by assumption, by omega, by omega, fun j hj => by simp at hj⟩
  · intro x hI
    obtain ⟨t2, t3, t11⟩ := x
    replace hI : CodeP l ∧ 0 ≤ t11 ∧ t11 ≤ 8 ∧ ∀ j, j < t11.toNat → prL l (j : Int) l.length = [] := hI
    show codeT _ _ _ [(0, .par 0 (.sl l.length (l.map (.int .i64)))), (2, .val (.int .i64 t2)), (3, .val (.bool t3)), (10, .arr 10 56 2 (esP (fP l l.length 0))), (11, .val (.int .i64 t11))] _
    obtain ⟨hC, i1, i2, i3⟩ := hI
    have hlp : fP l l.length 0 t11.toNat = prL l ((t11.toNat : Nat) : Int) l.length := fP_0 _ _ _
    refine code_seq (fun K7 hK7 => ?_)
    refine code_region ?_
    refine list_cons rfl (op_q (q_lt rfl rfl (by decide)) ?_)
    refine list_nil ?_
    refine hK7 _ ?_; clear hK7 K7
    refine code_seq (fun K8 hK8 => ?_)
    refine code_cond_d rfl (fun h2 => ?_) (fun h2 => ?_)
    · skip
      (try simp only [Decidable.not_not] at h2)
      refine code_skip ?_
      refine hK8 _ ?_; clear hK8 K8
      refine code_seq (fun K9 hK9 => ?_)
      refine code_block ?_
      refine code_seq (fun K10 hK10 => ?_)
      refine code_region ?_
      refine list_cons rfl (op_q (q_move rfl (by decide)) ?_)
      refine list_cons rfl (op_q (q_index_arrV Tryd.underlying93 one_45.2 one_45 rfl rfl (by omega) (by omega) (esP_get _ (by omega)) (by decide)) ?_)
      refine list_cons rfl (op_q (q_assign rfl (by decide)) ?_)
      refine list_cons rfl (op_q (q_assign rfl (by decide)) ?_)
      refine list_nil ?_
      refine hK10 _ ?_; clear hK10 K10
      refine code_seq (fun K11 hK11 => ?_)
      refine code_region ?_
      refine list_cons rfl (op_q (q_move rfl (by decide)) ?_)
      refine list_cons rfl (op_q (q_len_sl Tryd.underlying45 rfl rfl (by decide)) ?_)
      refine list_cons rfl (op_q (q_gt rfl rfl (by decide)) ?_)
      refine list_nil ?_
      refine hK11 _ ?_; clear hK11 K11
      refine code_cond_d rfl (fun h3 => ?_) (fun h3 => ?_)
      · skip
        (try simp only [Decidable.not_not] at h3)
        refine code_seq (fun K12 hK12 => ?_)
        refine code_region ?_
        refine list_cons rfl (op_q (q_move rfl (by decide)) ?_)
        refine list_cons rfl (op_q (q_assign rfl (by decide)) ?_)
        refine list_cons rfl (op_q (q_assign rfl (by decide)) ?_)
        refine list_nil ?_
        refine hK12 _ ?_; clear hK12 K12
        refine codeT.imp (σ' := [(0, _), (2, _), (3, _), (4, _), (5, _), (10, _), (11, _)]) ?_ (imp_covers ⟨rfl, rfl, rfl, rfl, rfl, rfl, rfl, trivial⟩)
        refine code_ret ?_
        refine blk_r ?_
        refine then_r ?_; clear hK9 K9
        refine then_r ?_
        refine blk_r ?_
        refine then_r ?_; clear hK5 K5
        refine ends_ret (cs := []) rfl rfl rfl rfl trivial ?_
        first
          | (have e : ¬ CodeP l := by assumption
             simp only [if_neg e, decide_eq_false e]; done)
          | (have hx := h3
             rw [hlp] at hx
             have hg := gap_first hC (d := t11.toNat) (fun h => by rw [h] at hx; simp at hx) i3
             rw [if_pos hC, decide_eq_true hC, hg, Int.toNat_of_nonneg i1]; done)
          | (have hg := gap_none hC (fun j hj => i3 j (by omega))
             rw [if_pos hC, decide_eq_true hC, hg])
      (try simp only [Decidable.not_not] at h3)
      refine code_skip ?_
      refine blk_n ?_
      refine hK9 _ ?_; clear hK9 K9
      refine code_region ?_
      refine list_cons rfl (op_q (by first | exact q_addI rfl rfl (by decide) (by omega) (by omega) | exact q_ib rfl rfl rfl (by decide)) ?_)
      refine list_cons rfl (op_q (q_move rfl (by decide)) ?_)
      refine list_nil ?_
      refine then_n ⟨(_, _, _), imp_covers ⟨rfl, rfl, rfl, rfl, rfl, trivial⟩, ?_, ?_⟩
      · (try dsimp only)
        refine ⟨hC, by omega, by omega, fun j hj => ?_⟩
        by_cases e : j = t11.toNat
        · subst e
          have hx := h3
          rw [hlp] at hx
          exact List.eq_nil_of_length_eq_zero (by omega)
        · exact i3 j (by omega)
      · (try dsimp only); omega
    (try simp only [Decidable.not_not] at h2)
    refine code_exit ?_
    refine then_x ?_; clear hK8 K8
    refine then_x ?_
    refine blk_hit ?_
    refine hK5 _ ?_; clear hK5 K5
    refine code_seq (fun K13 hK13 => ?_)
    refine code_region ?_
    refine list_cons rfl (op_q (q_assign rfl (by decide)) ?_)
    refine list_cons rfl (op_q (q_assign rfl (by decide)) ?_)
    refine list_nil ?_
    refine hK13 _ ?_; clear hK13 K13
    refine code_ret ?_
    refine ends_ret (cs := []) rfl rfl rfl rfl trivial ?_
    first
      | (have e : ¬ CodeP l := by assumption
         simp only [if_neg e, decide_eq_false e]; done)
      | (have hx := h2
         rw [hlp] at hx
         have hg := gap_first hC (d := t11.toNat) (fun h => by rw [h] at hx; simp at hx) i3
         rw [if_pos hC, decide_eq_true hC, hg, Int.toNat_of_nonneg i1]; done)
      | (have hg := gap_none hC (fun j hj => i3 j (by omega))
         rw [if_pos hC, decide_eq_true hC, hg])

set_option maxRecDepth 4000 in
theorem impl_GapPairs (l : List Int) (hl : l.length ≤ 4611686018427387904) : PCalls Tryd.prog 24 [.sl l.length (l.map (.int .i64))] (· = [.own 0 56 2 (if CodeP l then prL l (gpL l l.length) l.length else []).length (fl (if CodeP l then prL l (gpL l l.length) l.length else [])), .val (.bool (decide (CodeP l)))]) := by
  refine pcalls_of_code (n := 18) az Tryd.func24 (by kernel_rfl) rfl rfl (Nat.le_of_ble_eq_true rfl) (by intro t u h; simp [Tryd.f24] at h) ?_
  have hgl := gpL_le l l.length
  refine code_seq (fun K1 hK1 => ?_)
  refine code_region ?_
  refine list_cons rfl (op_q (q_assign rfl (by decide)) ?_)
  refine list_cons rfl (op_q (q_assign rfl (by decide)) ?_)
  refine list_nil ?_
  refine hK1 _ ?_; clear hK1 K1
  refine code_seq (fun K2 hK2 => ?_)
  refine code_region ?_
  refine list_cons rfl (op_q (q_move rfl (by decide)) ?_)
  refine list_cons rfl (op_call _ (impl_GapOf _ (by omega)) rfl rfl (by decide) (by decide) (by decide) rfl ?_)
  rintro _ rfl
  refine list_cons rfl (op_q (q_move rfl (by decide)) ?_)
  refine list_cons rfl (op_q (q_extract rfl rfl (by decide)) ?_)
  refine list_cons rfl (op_q (q_extract rfl rfl (by decide)) ?_)
  refine list_cons rfl (op_q (q_assign rfl (by decide)) ?_)
  refine list_cons rfl (op_q (q_assign rfl (by decide)) ?_)
  refine list_nil ?_
  refine hK2 _ ?_; clear hK2 K2
  refine codeT.imp (σ' := [(0, _), (2, _), (3, _), (4, _), (5, _)]) ?_ (imp_covers ⟨rfl, rfl, rfl, rfl, rfl, trivial⟩)
  refine code_seq (fun K3 hK3 => ?_)
  refine code_seq (fun K4 hK4 => ?_)
  refine code_region ?_
  refine list_cons rfl (op_q (q_move rfl (by decide)) ?_)
  refine list_cons rfl (op_q (by first | exact q_notd rfl (by decide) | exact q_not rfl (by decide)) ?_)
  refine list_nil ?_
  refine hK4 _ ?_; clear hK4 K4
  refine code_cond_d rfl (fun h1 => ?_) (fun h1 => ?_)
  · skip
    (try simp only [Decidable.not_not] at h1)
    refine code_seq (fun K5 hK5 => ?_)
    refine code_region ?_
    refine list_cons rfl (op_buildSlice sl_45 (parts := []) rfl rfl rfl (by decide) (by decide) (by decide) rfl ?_)
    refine list_cons rfl (op_q (q_assign rfl (by decide)) ?_)
    refine list_cons rfl (op_q (q_assign rfl (by decide)) ?_)
    refine list_nil ?_
    refine hK5 _ ?_; clear hK5 K5
    refine code_ret ?_
    refine then_r ?_; clear hK3 K3
    refine ends_ret (cs := []) rfl rfl rfl rfl trivial ?_
    first
      | (have e : ¬ CodeP l := by assumption
         simp only [if_neg e, decide_eq_false e]; rfl)
      | (have e : CodeP l := by assumption
         simp only [if_pos e, decide_eq_true e, fP_0, Int.toNat_of_nonneg hgl.1])
  (try simp only [Decidable.not_not] at h1)
  refine code_skip ?_
  refine hK3 _ ?_; clear hK3 K3
  refine code_seq (fun K6 hK6 => ?_)
  refine code_region ?_
  refine list_cons rfl (op_q (q_move rfl (by decide)) ?_)
  refine list_cons rfl (op_callM (impl_pairs _ (by have h12 := (by assumption : CodeP l).1; omega) (CodeP.cell (by assumption))) (.tmp 0) 0 [] [.tmp 14] _ rfl rfl (by intro y hy; cases hy) (by decide) (by decide) (by decide) rfl (by intro h; cases h) ?_)
  rintro _ _ rfl
  refine list_cons rfl (op_q (q_move rfl (by decide)) ?_)
  refine list_cons rfl (op_index_arrO Tryd.underlying93 one_45.2 one_45 rfl rfl (by omega) (by omega) (by rw [if_pos (by assumption)]; exact esP_get _ (by omega)) (by decide) (by decide) (by decide) rfl ?_)
  refine list_cons rfl (op_q (q_assign rfl (by decide)) ?_)
  refine list_cons rfl (op_q (q_assign rfl (by decide)) ?_)
  refine list_nil ?_
  refine hK6 _ ?_; clear hK6 K6
  refine codeT.imp (σ' := [(0, _), (2, _), (3, _), (4, _), (5, _)]) ?_ (imp_covers ⟨rfl, rfl, rfl, rfl, rfl, trivial⟩)
  refine code_ret ?_
  refine ends_ret (cs := []) rfl rfl rfl rfl trivial ?_
  first
    | (have e : ¬ CodeP l := by assumption
       simp only [if_neg e, decide_eq_false e]; rfl)
    | (have e : CodeP l := by assumption
       simp only [if_pos e, decide_eq_true e, fP_0, Int.toNat_of_nonneg hgl.1])

set_option maxRecDepth 4000 in
theorem impl_SeesUpTo (l : List Int) (hl : l.length ≤ 4611686018427387904) : PCalls Tryd.prog 28 [.sl l.length (l.map (.int .i64))] (· = [.val (.int .i64 (if CodeP l ∧ ¬ ((l.length : Int) = 1) then gpL l l.length - 1 else 0)), .val (.bool (decide (CodeP l ∧ ¬ ((l.length : Int) = 1))))]) := by
  refine pcalls_of_code (n := 20) az Tryd.func28 (by kernel_rfl) rfl rfl (Nat.le_of_ble_eq_true rfl) (by intro t u h; simp [Tryd.f28] at h) ?_
  have hgl := gpL_le l l.length
  have hgp : CodeP l → ¬ ((l.length : Int) = 1) → 1 ≤ gpL l l.length := fun h h2 => gpL_pos h (by have := h.1; omega)
  refine code_seq (fun K1 hK1 => ?_)
  refine code_region ?_
  refine list_cons rfl (op_q (q_assign rfl (by decide)) ?_)
  refine list_cons rfl (op_q (q_assign rfl (by decide)) ?_)
  refine list_nil ?_
  refine hK1 _ ?_; clear hK1 K1
  refine code_seq (fun K2 hK2 => ?_)
  refine code_region ?_
  refine list_cons rfl (op_q (q_move rfl (by decide)) ?_)
  refine list_cons rfl (op_call _ (impl_GapOf _ (by omega)) rfl rfl (by decide) (by decide) (by decide) rfl ?_)
  rintro _ rfl; have hgi : 0 ≤ (if CodeP l then gpL l l.length else 0) ∧ (if CodeP l then gpL l l.length else 0) ≤ 7 := by split <;> omega
  refine list_cons rfl (op_q (q_move rfl (by decide)) ?_)
  refine list_cons rfl (op_q (q_extract rfl rfl (by decide)) ?_)
  refine list_cons rfl (op_q (q_extract rfl rfl (by decide)) ?_)
  refine list_cons rfl (op_q (q_assign rfl (by decide)) ?_)
  refine list_cons rfl (op_q (q_assign rfl (by decide)) ?_)
  refine list_nil ?_
  refine hK2 _ ?_; clear hK2 K2
  refine codeT.imp (σ' := [(0, _), (2, _), (3, _), (4, _), (5, _)]) ?_ (imp_covers ⟨rfl, rfl, rfl, rfl, rfl, trivial⟩)
  refine code_seq (fun K3 hK3 => ?_)
  refine code_seq (fun K4 hK4 => ?_)
  refine code_region ?_
  refine list_cons rfl (op_q (q_move rfl (by decide)) ?_)
  refine list_cons rfl (op_q (by first | exact q_notd rfl (by decide) | exact q_not rfl (by decide)) ?_)
  refine list_cons rfl (op_q (q_move rfl (by decide)) ?_)
  refine list_guard_d rfl rfl rfl rfl (by decide) rfl (by decide) (fun h1 => ?_) (fun h1 => ?_)
  · simp only [Bool.false_eq_true, if_true, if_false, Decidable.not_not] at h1
    refine id (op_q (q_move rfl (by decide)) ?_)
    refine list_guard_y rfl rfl rfl rfl (by decide) rfl ?_
    refine id (op_q (q_len_sl Tryd.underlying24 rfl rfl (by decide)) ?_)
    refine list_guard_y rfl rfl rfl rfl (by decide) rfl ?_
    refine id (op_q (q_eq rfl rfl (by decide)) ?_)
    refine list_cons rfl (op_q (q_pick rfl rfl (by decide)) ?_)
    refine list_nil ?_
    refine hK4 _ ?_; clear hK4 K4
    refine code_cond_d rfl (fun h2 => ?_) (fun h2 => ?_)
    · skip
      (try simp only [Decidable.not_not] at h2)
      refine code_seq (fun K5 hK5 => ?_)
      refine code_region ?_
      refine list_cons rfl (op_q (q_assign rfl (by decide)) ?_)
      refine list_cons rfl (op_q (q_assign rfl (by decide)) ?_)
      refine list_nil ?_
      refine hK5 _ ?_; clear hK5 K5
      refine codeT.imp (σ' := [(0, _), (2, _), (3, _), (4, _), (5, _)]) ?_ (imp_covers ⟨rfl, rfl, rfl, rfl, rfl, trivial⟩)
      refine code_ret ?_
      refine then_r ?_; clear hK3 K3
      refine ends_ret (cs := []) rfl rfl rfl rfl trivial ?_
      first
        | (have e : ¬ (CodeP l ∧ ¬ ((l.length : Int) = 1)) := fun e => absurd e.1 (by assumption)
           simp only [if_neg e, decide_eq_false e]; done)
        | (have e : ¬ (CodeP l ∧ ¬ ((l.length : Int) = 1)) := fun e => e.2 (by assumption)
           simp only [if_neg e, decide_eq_false e]; done)
        | (have e0 : CodeP l := by assumption
           have e : CodeP l ∧ ¬ ((l.length : Int) = 1) := ⟨by assumption, by assumption⟩
           simp only [if_pos e, decide_eq_true e, if_pos e0]; done)
    (try simp only [Decidable.not_not] at h2)
    refine code_skip ?_
    refine hK3 _ ?_; clear hK3 K3
    refine codeT.imp (σ' := [(0, _), (2, _), (3, _), (4, _), (5, _)]) ?_ (imp_covers ⟨rfl, rfl, rfl, rfl, rfl, trivial⟩)
    refine code_seq (fun K6 hK6 => ?_)
    refine code_region ?_
    refine list_cons rfl (op_q (q_move rfl (by decide)) ?_)
    refine list_cons rfl (op_q (by first | exact q_subI rfl rfl (by decide) (by omega) (by omega) | exact q_ib rfl rfl rfl (by decide)) ?_)
    refine list_cons rfl (op_q (q_assign rfl (by decide)) ?_)
    refine list_cons rfl (op_q (q_assign rfl (by decide)) ?_)
    refine list_nil ?_
    refine hK6 _ ?_; clear hK6 K6
    refine code_ret ?_
    refine ends_ret (cs := []) rfl rfl rfl rfl trivial ?_
    first
      | (have e : ¬ (CodeP l ∧ ¬ ((l.length : Int) = 1)) := fun e => absurd e.1 (by assumption)
         simp only [if_neg e, decide_eq_false e]; done)
      | (have e : ¬ (CodeP l ∧ ¬ ((l.length : Int) = 1)) := fun e => e.2 (by assumption)
         simp only [if_neg e, decide_eq_false e]; done)
      | (have e0 : CodeP l := by assumption
         have e : CodeP l ∧ ¬ ((l.length : Int) = 1) := ⟨by assumption, by assumption⟩
         simp only [if_pos e, decide_eq_true e, if_pos e0]; done)
  simp only [Bool.false_eq_true, if_true, if_false, Decidable.not_not] at h1
  refine list_guard_n rfl rfl rfl rfl (by decide) rfl ?_
  refine list_guard_n rfl rfl rfl rfl (by decide) rfl ?_
  refine list_cons rfl (op_q (q_pick rfl rfl (by decide)) ?_)
  refine list_nil ?_
  refine hK4 _ ?_; clear hK4 K4
  refine code_cond_t rfl ?_
  refine code_seq (fun K7 hK7 => ?_)
  refine code_region ?_
  refine list_cons rfl (op_q (q_assign rfl (by decide)) ?_)
  refine list_cons rfl (op_q (q_assign rfl (by decide)) ?_)
  refine list_nil ?_
  refine hK7 _ ?_; clear hK7 K7
  refine code_ret ?_
  refine then_r ?_; clear hK3 K3
  refine ends_ret (cs := []) rfl rfl rfl rfl trivial ?_
  first
    | (have e : ¬ (CodeP l ∧ ¬ ((l.length : Int) = 1)) := fun e => absurd e.1 (by assumption)
       simp only [if_neg e, decide_eq_false e]; done)
    | (have e : ¬ (CodeP l ∧ ¬ ((l.length : Int) = 1)) := fun e => e.2 (by assumption)
       simp only [if_neg e, decide_eq_false e]; done)
    | (have e0 : CodeP l := by assumption
       have e : CodeP l ∧ ¬ ((l.length : Int) = 1) := ⟨by assumption, by assumption⟩
       simp only [if_pos e, decide_eq_true e, if_pos e0]; done)

set_option maxRecDepth 4000 in
theorem impl_MendsUpTo (l : List Int) (hl : l.length ≤ 4611686018427387904) : PCalls Tryd.prog 26 [.sl l.length (l.map (.int .i64))] (· = [.val (.int .i64 (if CodeP l ∧ ¬ ((l.length : Int) = 1) then (gpL l l.length - 1) / 2 else 0)), .val (.bool (decide (CodeP l ∧ ¬ ((l.length : Int) = 1))))]) := by
  refine pcalls_of_code (n := 14) az Tryd.func26 (by kernel_rfl) rfl rfl (Nat.le_of_ble_eq_true rfl) (by intro t u h; simp [Tryd.f26] at h) ?_
  have hgl := gpL_le l l.length
  have hgp : CodeP l → ¬ ((l.length : Int) = 1) → 1 ≤ gpL l l.length := fun h h2 => gpL_pos h (by have := h.1; omega)
  refine code_seq (fun K1 hK1 => ?_)
  refine code_region ?_
  refine list_cons rfl (op_q (q_assign rfl (by decide)) ?_)
  refine list_cons rfl (op_q (q_assign rfl (by decide)) ?_)
  refine list_nil ?_
  refine hK1 _ ?_; clear hK1 K1
  refine code_seq (fun K2 hK2 => ?_)
  refine code_region ?_
  refine list_cons rfl (op_q (q_move rfl (by decide)) ?_)
  refine list_cons rfl (op_call _ (impl_SeesUpTo _ (by omega)) rfl rfl (by decide) (by decide) (by decide) rfl ?_)
  rintro _ rfl; have hgi : 0 ≤ (if CodeP l ∧ ¬ ((l.length : Int) = 1) then gpL l l.length - 1 else 0) ∧ (if CodeP l ∧ ¬ ((l.length : Int) = 1) then gpL l l.length - 1 else 0) ≤ 6 := by split; rename_i h; have := hgp h.1 h.2; omega; omega
  refine list_cons rfl (op_q (q_move rfl (by decide)) ?_)
  refine list_cons rfl (op_q (q_extract rfl rfl (by decide)) ?_)
  refine list_cons rfl (op_q (q_extract rfl rfl (by decide)) ?_)
  refine list_cons rfl (op_q (q_assign rfl (by decide)) ?_)
  refine list_cons rfl (op_q (q_assign rfl (by decide)) ?_)
  refine list_nil ?_
  refine hK2 _ ?_; clear hK2 K2
  refine codeT.imp (σ' := [(0, _), (2, _), (3, _), (4, _), (5, _)]) ?_ (imp_covers ⟨rfl, rfl, rfl, rfl, rfl, trivial⟩)
  refine code_seq (fun K3 hK3 => ?_)
  refine code_region ?_
  refine list_cons rfl (op_q (q_move rfl (by decide)) ?_)
  refine list_cons rfl (op_q (by first | exact q_quoI rfl rfl (by decide) (by omega) (by omega) (by omega) | exact q_quoT rfl rfl (by omega) (by decide) (by omega) (by omega) | exact q_quo rfl rfl (by omega) (by decide)) ?_)
  refine list_cons rfl (op_q (q_move rfl (by decide)) ?_)
  refine list_cons rfl (op_q (q_assign rfl (by decide)) ?_)
  refine list_cons rfl (op_q (q_assign rfl (by decide)) ?_)
  refine list_nil ?_
  refine hK3 _ ?_; clear hK3 K3
  refine code_ret ?_
  refine ends_ret (cs := []) rfl rfl rfl rfl trivial ?_
  by_cases e : CodeP l ∧ ¬ ((l.length : Int) = 1)
  · simp only [if_pos e, decide_eq_true e]
  · simp only [if_neg e, decide_eq_false e]; rfl

set_option maxRecDepth 4000 in
theorem impl_CountFar (l : List Int) (d : Int) (hl : l.length ≤ 4611686018427387904) : PCalls Tryd.prog 34 [.sl l.length (l.map (.int .i64)), .int .i64 d] (· = [.val (.int .i64 (if CodeP l ∧ 1 ≤ d ∧ d ≤ 7 then ((cfL l d l.length : Nat) : Int) else 0)), .val (.bool (decide (CodeP l ∧ 1 ≤ d ∧ d ≤ 7)))]) := by
  refine pcalls_of_code (n := 19) az Tryd.func34 (by kernel_rfl) rfl rfl (Nat.le_of_ble_eq_true rfl) (by intro t u h; simp [Tryd.f34] at h) ?_
  refine code_seq (fun K1 hK1 => ?_)
  refine code_region ?_
  refine list_cons rfl (op_q (q_assign rfl (by decide)) ?_)
  refine list_cons rfl (op_q (q_assign rfl (by decide)) ?_)
  refine list_nil ?_
  refine hK1 _ ?_; clear hK1 K1
  refine code_seq (fun K2 hK2 => ?_)
  refine code_seq (fun K3 hK3 => ?_)
  refine code_region ?_
  refine list_cons rfl (op_q (q_move rfl (by decide)) ?_)
  refine list_cons rfl (op_call _ (impl_IsCode _ (by omega)) rfl rfl (by decide) (by decide) (by decide) rfl ?_)
  rintro _ rfl
  refine list_cons rfl (op_q (by first | exact q_notd rfl (by decide) | exact q_not rfl (by decide)) ?_)
  refine list_cons rfl (op_q (q_move rfl (by decide)) ?_)
  refine list_guard_d rfl rfl rfl rfl (by decide) rfl (by decide) (fun h1 => ?_) (fun h1 => ?_)
  · simp only [Bool.false_eq_true, if_true, if_false, Decidable.not_not] at h1
    refine id (op_q (q_move rfl (by decide)) ?_)
    refine list_guard_y rfl rfl rfl rfl (by decide) rfl ?_
    refine id (op_call _ (impl_isDistance _) rfl rfl (by decide) (by decide) (by decide) rfl ?_)
    rintro _ rfl
    refine list_guard_y rfl rfl rfl rfl (by decide) rfl ?_
    refine id (op_q (by first | exact q_notd rfl (by decide) | exact q_not rfl (by decide)) ?_)
    refine list_cons rfl (op_q (q_pick rfl rfl (by decide)) ?_)
    refine list_nil ?_
    refine hK3 _ ?_; clear hK3 K3
    refine codeT.imp (σ' := [(0, _), (1, _), (4, _), (5, _), (13, _)]) ?_ (imp_covers ⟨rfl, rfl, rfl, rfl, rfl, trivial⟩)
    refine code_cond_d rfl (fun h2 => ?_) (fun h2 => ?_)
    · skip
      (try simp only [Decidable.not_not] at h2)
      refine code_seq (fun K4 hK4 => ?_)
      refine code_region ?_
      refine list_cons rfl (op_q (q_assign rfl (by decide)) ?_)
      refine list_cons rfl (op_q (q_assign rfl (by decide)) ?_)
      refine list_nil ?_
      refine hK4 _ ?_; clear hK4 K4
      refine code_ret ?_
      refine then_r ?_; clear hK2 K2
      refine ends_ret (cs := []) rfl rfl rfl rfl trivial ?_
      first
        | (have e : ¬ (CodeP l ∧ 1 ≤ d ∧ d ≤ 7) := fun e => absurd e.1 (by assumption)
           simp only [if_neg e, decide_eq_false e]; done)
        | (have e : ¬ (CodeP l ∧ 1 ≤ d ∧ d ≤ 7) := fun e => absurd e.2 (by assumption)
           simp only [if_neg e, decide_eq_false e]; done)
        | (have e : CodeP l ∧ 1 ≤ d ∧ d ≤ 7 := ⟨by assumption, by assumption⟩
           have hq := prL_count l d
           simp only [if_pos e, decide_eq_true e, fP_0, show ((d.toNat : Nat) : Int) = d by omega, hq])
    (try simp only [Decidable.not_not] at h2)
    refine code_skip ?_
    refine hK2 _ ?_; clear hK2 K2
    refine code_seq (fun K5 hK5 => ?_)
    refine code_region ?_
    refine list_cons rfl (op_q (q_move rfl (by decide)) ?_)
    refine list_cons rfl (op_callM (impl_pairs _ (by have h12 := (by assumption : CodeP l).1; omega) (CodeP.cell (by assumption))) (.tmp 0) 0 [] [.tmp 14] _ rfl rfl (by intro y hy; cases hy) (by decide) (by decide) (by decide) rfl (by intro h; cases h) ?_)
    rintro _ _ rfl
    refine list_cons rfl (op_q (q_move rfl (by decide)) ?_)
    refine list_cons rfl (op_q (q_index_arrV Tryd.underlying93 one_45.2 one_45 rfl rfl (by omega) (by omega) (esP_get _ (by omega)) (by decide)) ?_)
    refine list_cons rfl (op_q (q_len_sl Tryd.underlying45 rfl rfl (by decide)) ?_)
    refine list_cons rfl (op_q (q_assign rfl (by decide)) ?_)
    refine list_cons rfl (op_q (q_assign rfl (by decide)) ?_)
    refine list_nil ?_
    refine hK5 _ ?_; clear hK5 K5
    refine codeT.imp (σ' := [(0, _), (1, _), (4, _), (5, _)]) ?_ (imp_covers ⟨rfl, rfl, rfl, rfl, trivial⟩)
    refine code_ret ?_
    refine ends_ret (cs := []) rfl rfl rfl rfl trivial ?_
    first
      | (have e : ¬ (CodeP l ∧ 1 ≤ d ∧ d ≤ 7) := fun e => absurd e.1 (by assumption)
         simp only [if_neg e, decide_eq_false e]; done)
      | (have e : ¬ (CodeP l ∧ 1 ≤ d ∧ d ≤ 7) := fun e => absurd e.2 (by assumption)
         simp only [if_neg e, decide_eq_false e]; done)
      | (have e : CodeP l ∧ 1 ≤ d ∧ d ≤ 7 := ⟨by assumption, by assumption⟩
         have hq := prL_count l d
         simp only [if_pos e, decide_eq_true e, fP_0, show ((d.toNat : Nat) : Int) = d by omega, hq])
  simp only [Bool.false_eq_true, if_true, if_false, Decidable.not_not] at h1
  refine list_guard_n rfl rfl rfl rfl (by decide) rfl ?_
  refine list_guard_n rfl rfl rfl rfl (by decide) rfl ?_
  refine list_cons rfl (op_q (q_pick rfl rfl (by decide)) ?_)
  refine list_nil ?_
  refine hK3 _ ?_; clear hK3 K3
  refine code_cond_t rfl ?_
  refine code_seq (fun K6 hK6 => ?_)
  refine code_region ?_
  refine list_cons rfl (op_q (q_assign rfl (by decide)) ?_)
  refine list_cons rfl (op_q (q_assign rfl (by decide)) ?_)
  refine list_nil ?_
  refine hK6 _ ?_; clear hK6 K6
  refine code_ret ?_
  refine then_r ?_; clear hK2 K2
  refine ends_ret (cs := []) rfl rfl rfl rfl trivial ?_
  first
    | (have e : ¬ (CodeP l ∧ 1 ≤ d ∧ d ≤ 7) := fun e => absurd e.1 (by assumption)
       simp only [if_neg e, decide_eq_false e]; done)
    | (have e : ¬ (CodeP l ∧ 1 ≤ d ∧ d ≤ 7) := fun e => absurd e.2 (by assumption)
       simp only [if_neg e, decide_eq_false e]; done)
    | (have e : CodeP l ∧ 1 ≤ d ∧ d ≤ 7 := ⟨by assumption, by assumption⟩
       have hq := prL_count l d
       simp only [if_pos e, decide_eq_true e, fP_0, show ((d.toNat : Nat) : Int) = d by omega, hq])

end Go.Proofs.YtjbbijlbenkgcaaDoor
