/- Contracts of functions, walked over the pure layer; each says for which arguments. -/
import Derived.Test.YtaobknhblnlegaaI5Ty
import Derived.Test.YtaobknhblnlegaaTf
import Derived.Test.YtaobknhblnlegaaSp
import Derived.Test.YtaobknhblnlegaaS4
import Derived.Test.YtaobknhblnlegaaS4c
import Derived.Test.YtaobknhblnlegaaShelf
import Derived.Test.YtaobknhblnlegaaS5
import Derived.Test.YtaobknhblnlegaaIm
namespace Go.Proofs.Ytaobknhblnlegaa
open Go.RowKit I5Ty
set_option linter.unusedVariables false
set_option linter.unusedSimpArgs false

set_option maxRecDepth 4000 in
theorem index_c (l : List Int) (n : Int) (hl : l.length ≤ 4611686018427387904) : PCalls Try.prog 62 [.sl l.length (l.map (.int .i64)), .int .i64 n] (fun rs => ∃ i : Int, rs = [.val (.int .i64 i)] ∧ (0 ≤ i ↔ hasK l n l.length = true)) := by
  refine pcalls_of_code (n := 19) az Try.func62 (by kernel_rfl) rfl rfl (Nat.le_of_ble_eq_true rfl) (by intro t u h; simp [Try.f62] at h) ?_
  refine code_seq (fun K1 hK1 => ?_)
  refine code_region ?_
  refine list_cons rfl (op_q (q_assign rfl (by decide)) ?_)
  refine list_nil ?_
  refine hK1 _ ?_; clear hK1 K1
  refine code_seq (fun K2 hK2 => ?_)
  refine code_seq (fun K3 hK3 => ?_)
  refine code_region ?_
  refine list_cons rfl (op_q (q_move rfl (by decide)) ?_)
  refine list_cons rfl (op_q (q_len_sl Try.underlying22 rfl rfl (by decide)) ?_)
  refine list_cons rfl (op_q (q_move rfl (by decide)) ?_)
  refine list_nil ?_
  refine hK3 _ ?_; clear hK3 K3
  refine code_block ?_
  refine code_loop (X := Int × Int) (fun x => [(0, .par 0 (.sl l.length (l.map (.int .i64)))), (1, .val (.int .i64 n)), (4, .val (.int .i64 x.1)), (7, .val (.int .i64 l.length)), (8, .val (.int .i64 x.2))]) (fun x => 0 ≤ x.2 ∧ x.2 ≤ l.length ∧ hasK l n x.2.toNat = false) (fun x => (l.length - x.2).toNat) (_, _) (imp_covers ⟨rfl, rfl, rfl, rfl, rfl, trivial⟩) ?_ ?_
  · (try dsimp only)
    exact ⟨by omega, by omega, rfl⟩
  · intro x hI
    obtain ⟨t4, t8⟩ := x
    replace hI : 0 ≤ t8 ∧ t8 ≤ l.length ∧ hasK l n t8.toNat = false := hI
    show codeT _ _ _ [(0, .par 0 (.sl l.length (l.map (.int .i64)))), (1, .val (.int .i64 n)), (4, .val (.int .i64 t4)), (7, .val (.int .i64 l.length)), (8, .val (.int .i64 t8))] _
    obtain ⟨i1, i2, i3⟩ := hI
    refine code_seq (fun K4 hK4 => ?_)
    refine code_region ?_
    refine list_cons rfl (op_q (q_lt rfl rfl (by decide)) ?_)
    refine list_nil ?_
    refine hK4 _ ?_; clear hK4 K4
    refine code_seq (fun K5 hK5 => ?_)
    refine code_cond_d rfl (fun h1 => ?_) (fun h1 => ?_)
    · skip
      (try simp only [Decidable.not_not] at h1)
      refine code_skip ?_
      refine hK5 _ ?_; clear hK5 K5
      refine code_seq (fun K6 hK6 => ?_)
      refine code_block ?_
      refine code_seq (fun K7 hK7 => ?_)
      refine code_region ?_
      refine list_cons rfl (op_q (q_move rfl (by decide)) ?_)
      refine list_cons rfl (op_q (q_assign rfl (by decide)) ?_)
      refine list_nil ?_
      refine hK7 _ ?_; clear hK7 K7
      refine code_seq (fun K8 hK8 => ?_)
      refine code_region ?_
      refine list_cons rfl (op_q (q_move rfl (by decide)) ?_)
      refine list_cons rfl (op_q (q_move rfl (by decide)) ?_)
      refine list_cons rfl (op_q (q_move rfl (by decide)) ?_)
      refine list_cons rfl (op_q (q_indexAddr_rd sl_22 rfl (.inl ⟨_, rfl, rfl⟩) rfl (by omega) (by omega) (by decide)) ?_)
      refine list_cons rfl (op_q (q_load_rd one_3 rfl (.inl ⟨_, (by first | rfl | exact congrArg (SV.rpar _) (drop_map1 _ 0 _ (by first | omega | (simp; omega)))), rfl⟩) (by decide)) ?_)
      refine list_cons rfl (op_q (q_eq rfl rfl (by decide)) ?_)
      refine list_nil ?_
      refine hK8 _ ?_; clear hK8 K8
      refine codeT.imp (σ' := [(0, _), (1, _), (4, _), (5, _), (7, _), (8, _), (16, _)]) ?_ (imp_covers ⟨rfl, rfl, rfl, rfl, rfl, rfl, rfl, trivial⟩)
      refine code_cond_d rfl (fun h2 => ?_) (fun h2 => ?_)
      · skip
        (try simp only [Decidable.not_not] at h2)
        refine code_seq (fun K9 hK9 => ?_)
        refine code_region ?_
        refine list_cons rfl (op_q (q_move rfl (by decide)) ?_)
        refine list_cons rfl (op_q (q_assign rfl (by decide)) ?_)
        refine list_nil ?_
        refine hK9 _ ?_; clear hK9 K9
        refine code_ret ?_
        refine blk_r ?_
        refine then_r ?_; clear hK6 K6
        refine then_r ?_
        refine blk_r ?_
        refine then_r ?_; clear hK2 K2
        refine ends_ret (cs := []) rfl rfl rfl rfl trivial ?_
        first
          | (refine ⟨_, rfl, fun _ => ?_, fun _ => by omega⟩
             have : ∀ m, t8.toNat < m → hasK l n m = true := by
               intro m
               induction m with
               | zero => intro h; omega
               | succ m ih =>
                 intro h
                 rw [hasK]
                 by_cases e : t8.toNat = m
                 · rw [← e, decide_eq_true (h2).symm]; simp
                 · rw [ih (by omega)]; rfl
             exact this _ (by omega))
          | (refine ⟨_, rfl, fun h => by omega, fun h => ?_⟩
             rw [show l.length = t8.toNat by omega, i3] at h; cases h)
      · skip
        (try simp only [Decidable.not_not] at h2)
        refine code_skip ?_
        refine blk_n ?_
        refine hK6 _ ?_; clear hK6 K6
        refine code_region ?_
        refine list_cons rfl (op_q (by first | exact q_addI rfl rfl (by decide) (by omega) (by omega) | exact q_ib rfl rfl rfl (by decide)) ?_)
        refine list_cons rfl (op_q (q_move rfl (by decide)) ?_)
        refine list_nil ?_
        refine then_n ⟨(_, _), imp_covers ⟨rfl, rfl, rfl, rfl, rfl, trivial⟩, ?_, ?_⟩
        · (try dsimp only)
          exact ⟨by omega, by omega, by rw [show (t8 + 1).toNat = t8.toNat + 1 by omega, hasK, i3, decide_eq_false (fun e => h2 e.symm)]; rfl⟩
        · (try dsimp only); omega
    · skip
      (try simp only [Decidable.not_not] at h1)
      refine code_exit ?_
      refine then_x ?_; clear hK5 K5
      refine then_x ?_
      refine blk_hit ?_
      refine hK2 _ ?_; clear hK2 K2
      refine code_seq (fun K10 hK10 => ?_)
      refine code_region ?_
      refine list_cons rfl (op_q (q_assign rfl (by decide)) ?_)
      refine list_nil ?_
      refine hK10 _ ?_; clear hK10 K10
      refine code_ret ?_
      refine ends_ret (cs := []) rfl rfl rfl rfl trivial ?_
      first
        | (refine ⟨_, rfl, fun _ => ?_, fun _ => by omega⟩
           have : ∀ m, t8.toNat < m → hasK l n m = true := by
             intro m
             induction m with
             | zero => intro h; omega
             | succ m ih =>
               intro h
               rw [hasK]
               by_cases e : t8.toNat = m
               · rw [← e, decide_eq_true (h1).symm]; simp
               · rw [ih (by omega)]; rfl
           exact this _ (by omega))
        | (refine ⟨_, rfl, fun h => by omega, fun h => ?_⟩
           rw [show l.length = t8.toNat by omega, i3] at h; cases h)

set_option maxRecDepth 4000 in
theorem contains_c (l : List Int) (n : Int) (hl : l.length ≤ 4611686018427387904) : PCalls Try.prog 45 [.sl l.length (l.map (.int .i64)), .int .i64 n] (· = [.val (.bool (decide (hasK l n l.length = true)))]) := by
  refine pcalls_of_code (n := 9) az Try.func45 (by kernel_rfl) rfl rfl (Nat.le_of_ble_eq_true rfl) (by intro t u h; simp [Try.f45] at h) ?_
  refine code_seq (fun K1 hK1 => ?_)
  refine code_region ?_
  refine list_cons rfl (op_q (q_assign rfl (by decide)) ?_)
  refine list_nil ?_
  refine hK1 _ ?_; clear hK1 K1
  refine code_seq (fun K2 hK2 => ?_)
  refine code_region ?_
  refine list_cons rfl (op_q (q_move rfl (by decide)) ?_)
  refine list_cons rfl (op_q (q_move rfl (by decide)) ?_)
  refine list_cons rfl (op_call _ (index_c _ _ (by omega)) rfl rfl (by decide) (by decide) (by decide) rfl ?_)
  rintro _ ⟨ix, rfl, hix⟩
  refine list_cons rfl (op_q (q_ge rfl rfl (by decide)) ?_)
  refine list_cons rfl (op_q (q_assign rfl (by decide)) ?_)
  refine list_nil ?_
  refine hK2 _ ?_; clear hK2 K2
  refine codeT.imp (σ' := [(0, _), (1, _), (4, _)]) ?_ (imp_covers ⟨rfl, rfl, rfl, trivial⟩)
  refine code_ret ?_
  refine ends_ret (cs := []) rfl rfl rfl rfl trivial ?_
  congr 3
  exact decide_eq_decide.mpr hix

theorem contains_T (l : List Int) (n i : Int) (h0 : 0 ≤ i) (h1 : i ≤ l.length) (hl : l.length ≤ 4611686018427387904) : PCalls Try.prog 45 [.sl (i.toNat - Int.toNat 0) (List.take ((i.toNat - Int.toNat 0) * 1) (List.drop (Int.toNat 0 * 1) (l.map (PV.int .i64)))), .int .i64 n] (· = [.val (.bool (decide (hasK l n i.toNat = true)))]) := by
  have h2 := contains_c (l.take i.toNat) n (by simp; omega)
  have e : (l.take i.toNat).length = i.toNat := by simp; omega
  rw [e, hasK_take l n (by omega) i.toNat (Nat.le_refl _), List.map_take] at h2
  rw [show i.toNat - Int.toNat 0 = i.toNat by omega, show Int.toNat 0 * 1 = 0 from rfl, List.drop_zero, Nat.mul_one]
  exact h2

set_option maxRecDepth 4000 in
theorem impl_IsCode (l : List Int) (hl : l.length ≤ 4611686018427387904) : PCalls Try.prog 16 [.sl l.length (l.map (.int .i64))] (· = [.val (.bool (decide (CodeP l)))]) := by
  refine pcalls_of_code (n := 31) az Try.func16 (by kernel_rfl) rfl rfl (Nat.le_of_ble_eq_true rfl) (by intro t u h; simp [Try.f16] at h) ?_
  refine code_seq (fun K1 hK1 => ?_)
  refine code_region ?_
  refine list_cons rfl (op_q (q_assign rfl (by decide)) ?_)
  refine list_nil ?_
  refine hK1 _ ?_; clear hK1 K1
  refine code_seq (fun K2 hK2 => ?_)
  refine code_seq (fun K3 hK3 => ?_)
  refine code_region ?_
  refine list_cons rfl (op_q (q_move rfl (by decide)) ?_)
  refine list_cons rfl (op_q (q_len_sl Try.underlying22 rfl rfl (by decide)) ?_)
  refine list_cons rfl (op_q (q_eq rfl rfl (by decide)) ?_)
  refine list_cons rfl (op_q (q_move rfl (by decide)) ?_)
  refine list_guard_d rfl rfl rfl rfl (by decide) rfl (by decide) (fun h1 => ?_) (fun h1 => ?_)
  · simp only [Bool.false_eq_true, if_true, if_false, Decidable.not_not] at h1
    refine id (op_q (q_move rfl (by decide)) ?_)
    refine list_guard_y rfl rfl rfl rfl (by decide) rfl ?_
    refine id (op_q (q_len_sl Try.underlying22 rfl rfl (by decide)) ?_)
    refine list_guard_y rfl rfl rfl rfl (by decide) rfl ?_
    refine id (op_q (q_gt rfl rfl (by decide)) ?_)
    refine list_cons rfl (op_q (q_pick rfl rfl (by decide)) ?_)
    refine list_nil ?_
    refine hK3 _ ?_; clear hK3 K3
    refine codeT.imp (σ' := [(0, _), (2, _), (12, _)]) ?_ (imp_covers ⟨rfl, rfl, rfl, trivial⟩)
    refine code_cond_d rfl (fun h2 => ?_) (fun h2 => ?_)
    · skip
      (try simp only [Decidable.not_not] at h2)
      refine code_seq (fun K4 hK4 => ?_)
      refine code_region ?_
      refine list_cons rfl (op_q (q_assign rfl (by decide)) ?_)
      refine list_nil ?_
      refine hK4 _ ?_; clear hK4 K4
      refine code_ret ?_
      refine then_r ?_; clear hK2 K2
      refine ends_ret (cs := []) rfl rfl rfl rfl trivial ?_
      first
        | (rw [decide_eq_false (fun e => absurd (codK_at e.2 (j := t15.toNat) (by omega)).1 (by assumption))]; done)
        | (have hx := h2
           rw [decide_eq_false (fun e => by rw [(codK_at e.2 (j := t15.toNat) (by omega)).2] at hx; exact absurd hx (by simp))]; done)
        | (rw [decide_eq_true (show CodeP l from ⟨i0, by rw [show l.length = t15.toNat by omega]; exact i3⟩)]; done)
        | (rw [decide_eq_false (fun e => by have := e.1; omega)]; done)
    · skip
      (try simp only [Decidable.not_not] at h2)
      refine code_skip ?_
      refine hK2 _ ?_; clear hK2 K2
      refine code_seq (fun K5 hK5 => ?_)
      refine code_seq (fun K6 hK6 => ?_)
      refine code_region ?_
      refine list_cons rfl (op_q (q_move rfl (by decide)) ?_)
      refine list_cons rfl (op_q (q_len_sl Try.underlying22 rfl rfl (by decide)) ?_)
      refine list_cons rfl (op_q (q_move rfl (by decide)) ?_)
      refine list_nil ?_
      refine hK6 _ ?_; clear hK6 K6
      refine code_block ?_
      refine code_loop (X := Bool × Int) (fun x => [(0, .par 0 (.sl l.length (l.map (.int .i64)))), (2, .val (.bool x.1)), (13, .par 0 (.sl l.length (l.map (.int .i64)))), (14, .val (.int .i64 l.length)), (15, .val (.int .i64 x.2))]) (fun x => (1 ≤ l.length ∧ l.length ≤ 12) ∧ 0 ≤ x.2 ∧ x.2 ≤ l.length ∧ codK l x.2.toNat = true) (fun x => (l.length - x.2).toNat) (_, _) (imp_covers ⟨rfl, rfl, rfl, rfl, rfl, trivial⟩) ?_ ?_
      · (try dsimp only)
        exact ⟨⟨by omega, by omega⟩, by omega, by omega, rfl⟩
      · intro x hI
        obtain ⟨t2, t15⟩ := x
        replace hI : (1 ≤ l.length ∧ l.length ≤ 12) ∧ 0 ≤ t15 ∧ t15 ≤ l.length ∧ codK l t15.toNat = true := hI
        show codeT _ _ _ [(0, .par 0 (.sl l.length (l.map (.int .i64)))), (2, .val (.bool t2)), (13, .par 0 (.sl l.length (l.map (.int .i64)))), (14, .val (.int .i64 l.length)), (15, .val (.int .i64 t15))] _
        obtain ⟨i0, i1, i2, i3⟩ := hI
        refine code_seq (fun K7 hK7 => ?_)
        refine code_region ?_
        refine list_cons rfl (op_q (q_lt rfl rfl (by decide)) ?_)
        refine list_nil ?_
        refine hK7 _ ?_; clear hK7 K7
        refine code_seq (fun K8 hK8 => ?_)
        refine code_cond_d rfl (fun h3 => ?_) (fun h3 => ?_)
        · skip
          (try simp only [Decidable.not_not] at h3)
          refine code_skip ?_
          refine hK8 _ ?_; clear hK8 K8
          refine code_seq (fun K9 hK9 => ?_)
          refine code_block ?_
          refine code_seq (fun K10 hK10 => ?_)
          refine code_region ?_
          refine list_cons rfl (op_q (q_move rfl (by decide)) ?_)
          refine list_cons rfl (op_q (q_indexAddr_rd sl_22 rfl (.inl ⟨_, rfl, rfl⟩) rfl (by omega) (by omega) (by decide)) ?_)
          refine list_cons rfl (op_q (q_load_rd one_3 rfl (.inl ⟨_, (by first | rfl | exact congrArg (SV.rpar _) (drop_map1 _ 0 _ (by first | omega | (simp; omega)))), rfl⟩) (by decide)) ?_)
          refine list_cons rfl (op_q (q_assign rfl (by decide)) ?_)
          refine list_cons rfl (op_q (q_assign rfl (by decide)) ?_)
          refine list_nil ?_
          refine hK10 _ ?_; clear hK10 K10
          refine code_seq (fun K11 hK11 => ?_)
          refine code_region ?_
          refine list_cons rfl (op_q (q_move rfl (by decide)) ?_)
          refine list_cons rfl (op_call _ (impl_IsCell _) rfl rfl (by decide) (by decide) (by decide) rfl ?_)
          rintro _ rfl
          refine list_cons rfl (op_q (by first | exact q_notd rfl (by decide) | exact q_not rfl (by decide)) ?_)
          refine list_cons rfl (op_q (q_move rfl (by decide)) ?_)
          refine list_guard_d rfl rfl rfl rfl (by decide) rfl (by decide) (fun h4 => ?_) (fun h4 => ?_)
          · simp only [Bool.false_eq_true, if_true, if_false, Decidable.not_not] at h4
            refine id (op_q (q_move rfl (by decide)) ?_)
            refine list_guard_y rfl rfl rfl rfl (by decide) rfl ?_
            refine id (op_q (q_move rfl (by decide)) ?_)
            refine list_guard_y rfl rfl rfl rfl (by decide) rfl ?_
            refine id (op_q (q_slice_sl sl_22 rfl rfl rfl ⟨_, rfl⟩ (by omega) (by omega) (by omega) rfl (by decide)) ?_)
            refine list_guard_y rfl rfl rfl rfl (by decide) rfl ?_
            refine id (op_q (q_move rfl (by decide)) ?_)
            refine list_guard_y rfl rfl rfl rfl (by decide) rfl ?_
            refine id (op_call _ (contains_T l _ t15 i1 (by omega) hl) rfl rfl (by decide) (by decide) (by decide) rfl ?_)
            rintro _ rfl
            refine list_cons rfl (op_q (q_pick rfl rfl (by decide)) ?_)
            refine list_nil ?_
            refine hK11 _ ?_; clear hK11 K11
            refine codeT.imp (σ' := [(0, _), (2, _), (3, _), (4, _), (13, _), (14, _), (15, _), (29, _)]) ?_ (imp_covers ⟨rfl, rfl, rfl, rfl, rfl, rfl, rfl, rfl, trivial⟩)
            refine code_cond_d rfl (fun h5 => ?_) (fun h5 => ?_)
            · skip
              (try simp only [Decidable.not_not] at h5)
              refine code_seq (fun K12 hK12 => ?_)
              refine code_region ?_
              refine list_cons rfl (op_q (q_assign rfl (by decide)) ?_)
              refine list_nil ?_
              refine hK12 _ ?_; clear hK12 K12
              refine code_ret ?_
              refine blk_r ?_
              refine then_r ?_; clear hK9 K9
              refine then_r ?_
              refine blk_r ?_
              refine then_r ?_; clear hK5 K5
              refine ends_ret (cs := []) rfl rfl rfl rfl trivial ?_
              first
                | (rw [decide_eq_false (fun e => absurd (codK_at e.2 (j := t15.toNat) (by omega)).1 (by assumption))]; done)
                | (have hx := h5
                   rw [decide_eq_false (fun e => by rw [(codK_at e.2 (j := t15.toNat) (by omega)).2] at hx; exact absurd hx (by simp))]; done)
                | (rw [decide_eq_true (show CodeP l from ⟨i0, by rw [show l.length = t15.toNat by omega]; exact i3⟩)]; done)
                | (rw [decide_eq_false (fun e => by have := e.1; omega)]; done)
            · skip
              (try simp only [Decidable.not_not] at h5)
              refine code_skip ?_
              refine blk_n ?_
              refine hK9 _ ?_; clear hK9 K9
              refine code_region ?_
              refine list_cons rfl (op_q (by first | exact q_addI rfl rfl (by decide) (by omega) (by omega) | exact q_ib rfl rfl rfl (by decide)) ?_)
              refine list_cons rfl (op_q (q_move rfl (by decide)) ?_)
              refine list_nil ?_
              refine then_n ⟨(_, _), imp_covers ⟨rfl, rfl, rfl, rfl, rfl, trivial⟩, ?_, ?_⟩
              · (try dsimp only)
                exact ⟨i0, by omega, by omega, by rw [show (t15 + 1).toNat = t15.toNat + 1 by omega]; exact codK_succ i3 (by assumption) (by simpa using h5)⟩
              · (try dsimp only); omega
          · simp only [Bool.false_eq_true, if_true, if_false, Decidable.not_not] at h4
            refine list_guard_n rfl rfl rfl rfl (by decide) rfl ?_
            refine list_guard_n rfl rfl rfl rfl (by decide) rfl ?_
            refine list_guard_n rfl rfl rfl rfl (by decide) rfl ?_
            refine list_guard_n rfl rfl rfl rfl (by decide) rfl ?_
            refine list_cons rfl (op_q (q_pick rfl rfl (by decide)) ?_)
            refine list_nil ?_
            refine hK11 _ ?_; clear hK11 K11
            refine codeT.imp (σ' := [(0, _), (2, _), (3, _), (4, _), (13, _), (14, _), (15, _), (29, _)]) ?_ (imp_covers ⟨rfl, rfl, rfl, rfl, rfl, rfl, rfl, rfl, trivial⟩)
            refine code_cond_t rfl ?_
            refine code_seq (fun K13 hK13 => ?_)
            refine code_region ?_
            refine list_cons rfl (op_q (q_assign rfl (by decide)) ?_)
            refine list_nil ?_
            refine hK13 _ ?_; clear hK13 K13
            refine code_ret ?_
            refine blk_r ?_
            refine then_r ?_; clear hK9 K9
            refine then_r ?_
            refine blk_r ?_
            refine then_r ?_; clear hK5 K5
            refine ends_ret (cs := []) rfl rfl rfl rfl trivial ?_
            first
              | (rw [decide_eq_false (fun e => absurd (codK_at e.2 (j := t15.toNat) (by omega)).1 (by assumption))]; done)
              | (have hx := h4
                 rw [decide_eq_false (fun e => by rw [(codK_at e.2 (j := t15.toNat) (by omega)).2] at hx; exact absurd hx (by simp))]; done)
              | (rw [decide_eq_true (show CodeP l from ⟨i0, by rw [show l.length = t15.toNat by omega]; exact i3⟩)]; done)
              | (rw [decide_eq_false (fun e => by have := e.1; omega)]; done)
        · skip
          (try simp only [Decidable.not_not] at h3)
          refine code_exit ?_
          refine then_x ?_; clear hK8 K8
          refine then_x ?_
          refine blk_hit ?_
          refine hK5 _ ?_; clear hK5 K5
          refine code_seq (fun K14 hK14 => ?_)
          refine code_region ?_
          refine list_cons rfl (op_q (q_assign rfl (by decide)) ?_)
          refine list_nil ?_
          refine hK14 _ ?_; clear hK14 K14
          refine code_ret ?_
          refine ends_ret (cs := []) rfl rfl rfl rfl trivial ?_
          first
            | (rw [decide_eq_false (fun e => absurd (codK_at e.2 (j := t15.toNat) (by omega)).1 (by assumption))]; done)
            | (have hx := h3
               rw [decide_eq_false (fun e => by rw [(codK_at e.2 (j := t15.toNat) (by omega)).2] at hx; exact absurd hx (by simp))]; done)
            | (rw [decide_eq_true (show CodeP l from ⟨i0, by rw [show l.length = t15.toNat by omega]; exact i3⟩)]; done)
            | (rw [decide_eq_false (fun e => by have := e.1; omega)]; done)
  · simp only [Bool.false_eq_true, if_true, if_false, Decidable.not_not] at h1
    refine list_guard_n rfl rfl rfl rfl (by decide) rfl ?_
    refine list_guard_n rfl rfl rfl rfl (by decide) rfl ?_
    refine list_cons rfl (op_q (q_pick rfl rfl (by decide)) ?_)
    refine list_nil ?_
    refine hK3 _ ?_; clear hK3 K3
    refine code_cond_t rfl ?_
    refine code_seq (fun K15 hK15 => ?_)
    refine code_region ?_
    refine list_cons rfl (op_q (q_assign rfl (by decide)) ?_)
    refine list_nil ?_
    refine hK15 _ ?_; clear hK15 K15
    refine code_ret ?_
    refine then_r ?_; clear hK2 K2
    refine ends_ret (cs := []) rfl rfl rfl rfl trivial ?_
    first
      | (rw [decide_eq_false (fun e => absurd (codK_at e.2 (j := t15.toNat) (by omega)).1 (by assumption))]; done)
      | (have hx := h1
         rw [decide_eq_false (fun e => by rw [(codK_at e.2 (j := t15.toNat) (by omega)).2] at hx; exact absurd hx (by simp))]; done)
      | (rw [decide_eq_true (show CodeP l from ⟨i0, by rw [show l.length = t15.toNat by omega]; exact i3⟩)]; done)
      | (rw [decide_eq_false (fun e => by have := e.1; omega)]; done)

set_option maxRecDepth 4000 in
theorem impl_farApart (a b : Int) (ha : 0 ≤ a ∧ a ≤ 127) (hb : 0 ≤ b ∧ b ≤ 127) : PCalls Try.prog 52 [.int .i64 a, .int .i64 b] (· = [.val (.int .i64 (farC a b))]) := by
  refine pcalls_of_code (n := 14) az Try.func52 (by kernel_rfl) rfl rfl (Nat.le_of_ble_eq_true rfl) (by intro t u h; simp [Try.f52] at h) ?_
  refine code_seq (fun K1 hK1 => ?_)
  refine code_region ?_
  refine list_cons rfl (op_q (q_assign rfl (by decide)) ?_)
  refine list_nil ?_
  refine hK1 _ ?_; clear hK1 K1
  refine code_seq (fun K2 hK2 => ?_)
  refine code_region ?_
  refine list_cons rfl (op_q (q_move rfl (by decide)) ?_)
  refine list_cons rfl (op_q (q_move rfl (by decide)) ?_)
  refine list_cons rfl (op_call _ (impl_FarCells _ _) rfl rfl (by decide) (by decide) (by decide) rfl ?_)
  rintro _ rfl
  refine list_cons rfl (op_q (q_move rfl (by decide)) ?_)
  refine list_cons rfl (op_q (q_extract rfl rfl (by decide)) ?_)
  refine list_cons rfl (op_q (q_extract rfl rfl (by decide)) ?_)
  refine list_cons rfl (op_q (q_assign rfl (by decide)) ?_)
  refine list_cons rfl (op_q (q_assign rfl (by decide)) ?_)
  refine list_nil ?_
  refine hK2 _ ?_; clear hK2 K2
  refine codeT.imp (σ' := [(0, _), (1, _), (4, _), (5, _)]) ?_ (imp_covers ⟨rfl, rfl, rfl, rfl, trivial⟩)
  refine code_seq (fun K3 hK3 => ?_)
  refine code_region ?_
  refine list_cons rfl (op_q (q_move rfl (by decide)) ?_)
  refine list_cons rfl (op_q (q_assign rfl (by decide)) ?_)
  refine list_nil ?_
  refine hK3 _ ?_; clear hK3 K3
  refine code_ret ?_
  refine ends_ret (cs := []) rfl rfl rfl rfl trivial ?_
  rw [if_pos ⟨ha, hb⟩]; rfl

set_option maxRecDepth 4000 in
theorem impl_NearestOf (l : List Int) (c : Int) (hl : l.length ≤ 4611686018427387904) : PCalls Try.prog 27 [.sl l.length (l.map (.int .i64)), .int .i64 c] (· = [.own 0 3 1 (if CodeP l ∧ 0 ≤ c ∧ c ≤ 127 then (nrK l c 8 l.length).1 else []).length ((if CodeP l ∧ 0 ≤ c ∧ c ≤ 127 then (nrK l c 8 l.length).1 else []).map (.int .i64)), .val (.int .i64 (if CodeP l ∧ 0 ≤ c ∧ c ≤ 127 then (nrK l c 8 l.length).2 else 0)), .val (.bool (decide (CodeP l ∧ 0 ≤ c ∧ c ≤ 127)))]) := by
  refine pcalls_of_code (n := 47) az Try.func27 (by kernel_rfl) rfl rfl (Nat.le_of_ble_eq_true rfl) (by intro t u h; simp [Try.f27] at h) ?_
  refine code_seq (fun K1 hK1 => ?_)
  refine code_region ?_
  refine list_cons rfl (op_q (q_assign rfl (by decide)) ?_)
  refine list_cons rfl (op_q (q_assign rfl (by decide)) ?_)
  refine list_cons rfl (op_q (q_assign rfl (by decide)) ?_)
  refine list_nil ?_
  refine hK1 _ ?_; clear hK1 K1
  refine code_seq (fun K2 hK2 => ?_)
  refine code_seq (fun K3 hK3 => ?_)
  refine code_region ?_
  refine list_cons rfl (op_q (q_move rfl (by decide)) ?_)
  refine list_cons rfl (op_call _ (impl_IsCode _ (by omega)) rfl rfl (by decide) (by decide) (by decide) rfl ?_)
  rintro _ rfl
  refine list_cons rfl (op_q (by first | exact q_notd rfl (by decide) | exact q_not rfl (by decide)) ?_)
  refine list_cons rfl (op_q (q_move rfl (by decide)) ?_)
  refine list_guard_d rfl rfl rfl rfl (by decide) rfl (by decide) (fun h1 => ?_) (fun h1 => ?_)
  · simp only [Bool.false_eq_true, if_true, if_false, Decidable.not_not] at h1
    refine id (op_q (q_move rfl (by decide)) ?_)
    refine list_guard_y rfl rfl rfl rfl (by decide) rfl ?_
    refine id (op_call _ (impl_IsCell _) rfl rfl (by decide) (by decide) (by decide) rfl ?_)
    rintro _ rfl
    refine list_guard_y rfl rfl rfl rfl (by decide) rfl ?_
    refine id (op_q (by first | exact q_notd rfl (by decide) | exact q_not rfl (by decide)) ?_)
    refine list_cons rfl (op_q (q_pick rfl rfl (by decide)) ?_)
    refine list_nil ?_
    refine hK3 _ ?_; clear hK3 K3
    refine codeT.imp (σ' := [(0, _), (1, _), (4, _), (5, _), (6, _), (19, _)]) ?_ (imp_covers ⟨rfl, rfl, rfl, rfl, rfl, rfl, trivial⟩)
    refine code_cond_d rfl (fun h2 => ?_) (fun h2 => ?_)
    · skip
      (try simp only [Decidable.not_not] at h2)
      refine code_seq (fun K4 hK4 => ?_)
      refine code_region ?_
      refine list_cons rfl (op_buildSlice sl_22 (parts := []) rfl rfl rfl (by decide) (by decide) (by decide) rfl ?_)
      refine list_cons rfl (op_q (q_assign rfl (by decide)) ?_)
      refine list_cons rfl (op_q (q_assign rfl (by decide)) ?_)
      refine list_cons rfl (op_q (q_assign rfl (by decide)) ?_)
      refine list_nil ?_
      refine hK4 _ ?_; clear hK4 K4
      refine code_ret ?_
      refine then_r ?_; clear hK2 K2
      refine ends_ret (cs := []) rfl rfl rfl rfl trivial ?_
      first
        | (have e : ¬ (CodeP l ∧ 0 ≤ c ∧ c ≤ 127) := fun e => absurd e.1 (by assumption)
           simp only [if_neg e, decide_eq_false e]; rfl)
        | (have e : ¬ (CodeP l ∧ 0 ≤ c ∧ c ≤ 127) := fun e => absurd e.2 (by assumption)
           simp only [if_neg e, decide_eq_false e]; rfl)
        | (have e7 : nrK l c 8 l.length = (L, least) := by
             rw [hk, show t24.toNat = l.length by omega, show l.length = l.length - 1 + 1 by omega]; exact (nr_87 l c _).symm
           simp only [if_pos hC, decide_eq_true hC, e7])
    · skip
      (try simp only [Decidable.not_not] at h2)
      refine code_skip ?_
      refine hK2 _ ?_; clear hK2 K2
      refine code_seq (fun K5 hK5 => ?_)
      refine code_region ?_
      refine list_cons rfl (op_buildSlice sl_22 (parts := []) rfl rfl rfl (by decide) (by decide) (by decide) rfl ?_)
      refine list_cons rfl (op_q (q_assign rfl (by decide)) ?_)
      refine list_cons rfl (op_q (q_assign rfl (by decide)) ?_)
      refine list_nil ?_
      refine hK5 _ ?_; clear hK5 K5
      refine code_seq (fun K6 hK6 => ?_)
      refine code_seq (fun K7 hK7 => ?_)
      refine code_region ?_
      refine list_cons rfl (op_q (q_move rfl (by decide)) ?_)
      refine list_cons rfl (op_q (q_len_sl Try.underlying22 rfl rfl (by decide)) ?_)
      refine list_cons rfl (op_q (q_move rfl (by decide)) ?_)
      refine list_nil ?_
      refine hK7 _ ?_; clear hK7 K7
      refine code_block ?_
      refine code_loop (X := PV × Int × Bool × Nat × List PV × Int × Int) (fun x => [(0, .par 0 (.sl l.length (l.map (.int .i64)))), (1, .val (.int .i64 c)), (4, .val x.1), (5, .val (.int .i64 x.2.1)), (6, .val (.bool x.2.2.1)), (7, .own 21 3 1 x.2.2.2.1 x.2.2.2.2.1), (8, .val (.int .i64 x.2.2.2.2.2.1)), (22, .par 0 (.sl l.length (l.map (.int .i64)))), (23, .val (.int .i64 l.length)), (24, .val (.int .i64 x.2.2.2.2.2.2))]) (fun x => (CodeP l ∧ 0 ≤ c ∧ c ≤ 127) ∧ 0 ≤ x.2.2.2.2.2.2 ∧ x.2.2.2.2.2.2 ≤ l.length ∧ ∃ L : List Int, x.2.2.2.1 = L.length ∧ x.2.2.2.2.1 = L.map (.int .i64) ∧ (L, x.2.2.2.2.2.1) = nrK l c 7 x.2.2.2.2.2.2.toNat) (fun x => (l.length - x.2.2.2.2.2.2).toNat) (_, _, _, _, _, _, _) (imp_covers ⟨rfl, rfl, rfl, rfl, rfl, rfl, rfl, rfl, rfl, rfl, trivial⟩) ?_ ?_
      · (try dsimp only)
        exact ⟨⟨by assumption, by assumption⟩, by omega, by omega, [], rfl, rfl, rfl⟩
      · intro x hI
        obtain ⟨t4_p, t5, t6, nearest_n, nearest_c, least, t24⟩ := x
        replace hI : (CodeP l ∧ 0 ≤ c ∧ c ≤ 127) ∧ 0 ≤ t24 ∧ t24 ≤ l.length ∧ ∃ L : List Int, nearest_n = L.length ∧ nearest_c = L.map (.int .i64) ∧ (L, least) = nrK l c 7 t24.toNat := hI
        show codeT _ _ _ [(0, .par 0 (.sl l.length (l.map (.int .i64)))), (1, .val (.int .i64 c)), (4, .val t4_p), (5, .val (.int .i64 t5)), (6, .val (.bool t6)), (7, .own 21 3 1 nearest_n nearest_c), (8, .val (.int .i64 least)), (22, .par 0 (.sl l.length (l.map (.int .i64)))), (23, .val (.int .i64 l.length)), (24, .val (.int .i64 t24))] _
        obtain ⟨hC, i1, i2, L, rfl, rfl, hk⟩ := hI
        have hd : ((t24.toNat : Nat) : Int) = t24 := Int.toNat_of_nonneg i1
        have hn := nrK_le l c (m := 7) (by omega) t24.toNat
        rw [← hk] at hn
        simp only [] at hn
        have hg := farC_le (l.getD t24.toNat 0) c
        have hci := hC.1.cell t24.toNat
        have hl12 := hC.1.1
        refine code_seq (fun K8 hK8 => ?_)
        refine code_region ?_
        refine list_cons rfl (op_q (q_lt rfl rfl (by decide)) ?_)
        refine list_nil ?_
        refine hK8 _ ?_; clear hK8 K8
        refine code_seq (fun K9 hK9 => ?_)
        refine code_cond_d rfl (fun h3 => ?_) (fun h3 => ?_)
        · skip
          (try simp only [Decidable.not_not] at h3)
          refine code_skip ?_
          refine hK9 _ ?_; clear hK9 K9
          refine code_seq (fun K10 hK10 => ?_)
          refine code_block ?_
          refine code_seq (fun K11 hK11 => ?_)
          refine code_region ?_
          refine list_cons rfl (op_q (q_move rfl (by decide)) ?_)
          refine list_cons rfl (op_q (q_indexAddr_rd sl_22 rfl (.inl ⟨_, rfl, rfl⟩) rfl (by omega) (by omega) (by decide)) ?_)
          refine list_cons rfl (op_q (q_load_rd one_3 rfl (.inl ⟨_, (by first | rfl | exact congrArg (SV.rpar _) (drop_map1 _ 0 _ (by first | omega | (simp; omega)))), rfl⟩) (by decide)) ?_)
          refine list_cons rfl (op_q (q_assign rfl (by decide)) ?_)
          refine list_cons rfl (op_q (q_assign rfl (by decide)) ?_)
          refine list_nil ?_
          refine hK11 _ ?_; clear hK11 K11
          refine code_seq (fun K12 hK12 => ?_)
          refine code_region ?_
          refine list_cons rfl (op_q (q_move rfl (by decide)) ?_)
          refine list_cons rfl (op_q (q_move rfl (by decide)) ?_)
          refine list_cons rfl (op_call _ (impl_farApart _ _ (by omega) (by omega)) rfl rfl (by decide) (by decide) (by decide) rfl ?_)
          rintro _ rfl
          refine list_cons rfl (op_q (q_assign rfl (by decide)) ?_)
          refine list_nil ?_
          refine hK12 _ ?_; clear hK12 K12
          refine codeT.imp (σ' := [(0, _), (1, _), (4, _), (5, _), (6, _), (7, _), (8, _), (9, _), (10, _), (11, _), (22, _), (23, _), (24, _)]) ?_ (imp_covers ⟨rfl, rfl, rfl, rfl, rfl, rfl, rfl, rfl, rfl, rfl, rfl, rfl, rfl, trivial⟩)
          refine code_seq (fun K13 hK13 => ?_)
          refine code_seq (fun K14 hK14 => ?_)
          refine code_region ?_
          refine list_cons rfl (op_q (q_move rfl (by decide)) ?_)
          refine list_cons rfl (op_q (q_move rfl (by decide)) ?_)
          refine list_cons rfl (op_q (q_lt rfl rfl (by decide)) ?_)
          refine list_nil ?_
          refine hK14 _ ?_; clear hK14 K14
          refine code_cond_d rfl (fun h4 => ?_) (fun h4 => ?_)
          · skip
            (try simp only [Decidable.not_not] at h4)
            refine code_region ?_
            refine list_cons rfl (op_buildSlice sl_22 (parts := []) rfl rfl rfl (by decide) (by decide) (by decide) rfl ?_)
            refine list_cons rfl (op_q (q_move rfl (by decide)) ?_)
            refine list_cons rfl (op_q (q_assign rfl (by decide)) ?_)
            refine list_cons rfl (op_q (q_assign rfl (by decide)) ?_)
            refine list_nil ?_
            refine hK13 _ ?_; clear hK13 K13
            refine code_seq (fun K15 hK15 => ?_)
            refine code_region ?_
            refine list_cons rfl (op_q (q_move rfl (by decide)) ?_)
            refine list_cons rfl (op_q (q_move rfl (by decide)) ?_)
            refine list_cons rfl (op_q (q_eq rfl rfl (by decide)) ?_)
            refine list_nil ?_
            refine hK15 _ ?_; clear hK15 K15
            refine codeT.imp (σ' := [(0, _), (1, _), (4, _), (5, _), (6, _), (7, _), (8, _), (9, _), (10, _), (11, _), (22, _), (23, _), (24, _), (39, _)]) ?_ (imp_covers ⟨rfl, rfl, rfl, rfl, rfl, rfl, rfl, rfl, rfl, rfl, rfl, rfl, rfl, rfl, trivial⟩)
            refine code_cond_d rfl (fun h5 => ?_) (fun h5 => ?_)
            · skip
              (try simp only [Decidable.not_not] at h5)
              refine code_region ?_
              refine list_cons rfl (op_q (q_move rfl (by decide)) ?_)
              refine list_cons rfl (op_q (q_move rfl (by decide)) ?_)
              refine list_cons rfl (op_buildSlice sl_22 (parts := [(0, .tmp 41)]) rfl rfl rfl (by decide) (by decide) (by decide) rfl ?_)
              refine list_cons rfl (op_append_gen sl_22 (l := 35) (.inl rfl) rfl rfl (l2 := none) (.inl ⟨rfl, (by first | rfl | exact flat_map _ (fun _ => rfl) _)⟩) (by first | rfl | simp | omega) (by omega) (by decide) (by decide) (by decide) ?_)
              refine list_cons rfl (op_q (q_assign rfl (by decide)) ?_)
              refine list_nil ?_
              refine blk_n ?_
              refine hK10 _ ?_; clear hK10 K10
              refine codeT.imp (σ' := [(0, _), (1, _), (4, _), (5, _), (6, _), (7, _), (8, _), (9, _), (10, _), (11, _), (22, _), (23, _), (24, _)]) ?_ (imp_covers ⟨rfl, rfl, rfl, rfl, rfl, rfl, rfl, rfl, rfl, rfl, rfl, rfl, rfl, trivial⟩)
              refine code_region ?_
              refine list_cons rfl (op_q (by first | exact q_addI rfl rfl (by decide) (by omega) (by omega) | exact q_ib rfl rfl rfl (by decide)) ?_)
              refine list_cons rfl (op_q (q_move rfl (by decide)) ?_)
              refine list_nil ?_
              refine then_n ⟨(_, _, _, _, _, _, _), (imp_covers (σ' := [(0, _), (1, _), (4, _), (5, _), (6, _), (7, _), (8, _), (22, _), (23, _), (24, _)]) ⟨rfl, rfl, rfl, rfl, rfl, rfl, rfl, rfl, rfl, rfl, trivial⟩).trans ((imp_ren 35 21 (by decide) (by decide) rfl).trans (imp_covers ⟨rfl, rfl, rfl, rfl, rfl, rfl, rfl, rfl, rfl, rfl, trivial⟩)), ?_, ?_⟩
              · (try dsimp only)
                first
                  | exact absurd trivial h5
                  | (refine ⟨hC, by omega, by omega, [t24], rfl, rfl, ?_⟩
                     rw [show (t24 + 1).toNat = t24.toNat + 1 by omega, nrK, ← hk]
                     unfold nr1
                     simp only [hd]
                     exact (if_pos (show farC (l.getD t24.toNat 0) c < least by assumption)).symm)
                  | (refine ⟨hC, by omega, by omega, [t24], rfl, rfl, ?_⟩
                     rw [show (t24 + 1).toNat = t24.toNat + 1 by omega, nrK, ← hk]
                     unfold nr1
                     simp only [hd]
                     rw [if_pos (show farC (l.getD t24.toNat 0) c < least by assumption)]; done)
                  | (refine ⟨hC, by omega, by omega, L ++ [t24], by simp, by simp; rfl, ?_⟩
                     rw [show (t24 + 1).toNat = t24.toNat + 1 by omega, nrK, ← hk]
                     unfold nr1
                     simp only [hd]
                     rw [if_neg (show ¬ farC (l.getD t24.toNat 0) c < least by assumption), if_pos (show farC (l.getD t24.toNat 0) c = least by assumption)]; done)
                  | (refine ⟨hC, by omega, by omega, L, rfl, rfl, ?_⟩
                     rw [show (t24 + 1).toNat = t24.toNat + 1 by omega, nrK, ← hk]
                     unfold nr1
                     simp only [hd]
                     rw [if_neg (show ¬ farC (l.getD t24.toNat 0) c < least by assumption), if_neg (show ¬ farC (l.getD t24.toNat 0) c = least by assumption)]; done)
              · (try dsimp only); omega
            · skip
              (try simp only [Decidable.not_not] at h5)
              refine code_skip ?_
              refine blk_n ?_
              refine hK10 _ ?_; clear hK10 K10
              refine code_region ?_
              refine list_cons rfl (op_q (by first | exact q_addI rfl rfl (by decide) (by omega) (by omega) | exact q_ib rfl rfl rfl (by decide)) ?_)
              refine list_cons rfl (op_q (q_move rfl (by decide)) ?_)
              refine list_nil ?_
              refine then_n ⟨(_, _, _, _, _, _, _), (imp_covers (σ' := [(0, _), (1, _), (4, _), (5, _), (6, _), (7, _), (8, _), (22, _), (23, _), (24, _)]) ⟨rfl, rfl, rfl, rfl, rfl, rfl, rfl, rfl, rfl, rfl, trivial⟩).trans ((imp_ren 35 21 (by decide) (by decide) rfl).trans (imp_covers ⟨rfl, rfl, rfl, rfl, rfl, rfl, rfl, rfl, rfl, rfl, trivial⟩)), ?_, ?_⟩
              · (try dsimp only)
                first
                  | exact absurd trivial h5
                  | (refine ⟨hC, by omega, by omega, [t24], rfl, rfl, ?_⟩
                     rw [show (t24 + 1).toNat = t24.toNat + 1 by omega, nrK, ← hk]
                     unfold nr1
                     simp only [hd]
                     exact (if_pos (show farC (l.getD t24.toNat 0) c < least by assumption)).symm)
                  | (refine ⟨hC, by omega, by omega, [t24], rfl, rfl, ?_⟩
                     rw [show (t24 + 1).toNat = t24.toNat + 1 by omega, nrK, ← hk]
                     unfold nr1
                     simp only [hd]
                     rw [if_pos (show farC (l.getD t24.toNat 0) c < least by assumption)]; done)
                  | (refine ⟨hC, by omega, by omega, L ++ [t24], by simp, by simp; rfl, ?_⟩
                     rw [show (t24 + 1).toNat = t24.toNat + 1 by omega, nrK, ← hk]
                     unfold nr1
                     simp only [hd]
                     rw [if_neg (show ¬ farC (l.getD t24.toNat 0) c < least by assumption), if_pos (show farC (l.getD t24.toNat 0) c = least by assumption)]; done)
                  | (refine ⟨hC, by omega, by omega, L, rfl, rfl, ?_⟩
                     rw [show (t24 + 1).toNat = t24.toNat + 1 by omega, nrK, ← hk]
                     unfold nr1
                     simp only [hd]
                     rw [if_neg (show ¬ farC (l.getD t24.toNat 0) c < least by assumption), if_neg (show ¬ farC (l.getD t24.toNat 0) c = least by assumption)]; done)
              · (try dsimp only); omega
          · skip
            (try simp only [Decidable.not_not] at h4)
            refine code_skip ?_
            refine hK13 _ ?_; clear hK13 K13
            refine code_seq (fun K16 hK16 => ?_)
            refine code_region ?_
            refine list_cons rfl (op_q (q_move rfl (by decide)) ?_)
            refine list_cons rfl (op_q (q_move rfl (by decide)) ?_)
            refine list_cons rfl (op_q (q_eq rfl rfl (by decide)) ?_)
            refine list_nil ?_
            refine hK16 _ ?_; clear hK16 K16
            refine code_cond_d rfl (fun h6 => ?_) (fun h6 => ?_)
            · skip
              (try simp only [Decidable.not_not] at h6)
              refine code_region ?_
              refine list_cons rfl (op_q (q_move rfl (by decide)) ?_)
              refine list_cons rfl (op_q (q_move rfl (by decide)) ?_)
              refine list_cons rfl (op_buildSlice sl_22 (parts := [(0, .tmp 41)]) rfl rfl rfl (by decide) (by decide) (by decide) rfl ?_)
              refine list_cons rfl (op_append_gen sl_22 (l := 21) (.inl rfl) rfl rfl (l2 := none) (.inl ⟨rfl, (by first | rfl | exact flat_map _ (fun _ => rfl) _)⟩) (by first | rfl | simp | omega) (by omega) (by decide) (by decide) (by decide) ?_)
              refine list_cons rfl (op_q (q_assign rfl (by decide)) ?_)
              refine list_nil ?_
              refine blk_n ?_
              refine hK10 _ ?_; clear hK10 K10
              refine codeT.imp (σ' := [(0, _), (1, _), (4, _), (5, _), (6, _), (7, _), (8, _), (9, _), (10, _), (11, _), (22, _), (23, _), (24, _)]) ?_ (imp_covers ⟨rfl, rfl, rfl, rfl, rfl, rfl, rfl, rfl, rfl, rfl, rfl, rfl, rfl, trivial⟩)
              refine code_region ?_
              refine list_cons rfl (op_q (by first | exact q_addI rfl rfl (by decide) (by omega) (by omega) | exact q_ib rfl rfl rfl (by decide)) ?_)
              refine list_cons rfl (op_q (q_move rfl (by decide)) ?_)
              refine list_nil ?_
              refine then_n ⟨(_, _, _, _, _, _, _), imp_covers ⟨rfl, rfl, rfl, rfl, rfl, rfl, rfl, rfl, rfl, rfl, trivial⟩, ?_, ?_⟩
              · (try dsimp only)
                first
                  | exact absurd trivial h6
                  | (refine ⟨hC, by omega, by omega, [t24], rfl, rfl, ?_⟩
                     rw [show (t24 + 1).toNat = t24.toNat + 1 by omega, nrK, ← hk]
                     unfold nr1
                     simp only [hd]
                     exact (if_pos (show farC (l.getD t24.toNat 0) c < least by assumption)).symm)
                  | (refine ⟨hC, by omega, by omega, [t24], rfl, rfl, ?_⟩
                     rw [show (t24 + 1).toNat = t24.toNat + 1 by omega, nrK, ← hk]
                     unfold nr1
                     simp only [hd]
                     rw [if_pos (show farC (l.getD t24.toNat 0) c < least by assumption)]; done)
                  | (refine ⟨hC, by omega, by omega, L ++ [t24], by simp, by simp; rfl, ?_⟩
                     rw [show (t24 + 1).toNat = t24.toNat + 1 by omega, nrK, ← hk]
                     unfold nr1
                     simp only [hd]
                     rw [if_neg (show ¬ farC (l.getD t24.toNat 0) c < least by assumption), if_pos (show farC (l.getD t24.toNat 0) c = least by assumption)]; done)
                  | (refine ⟨hC, by omega, by omega, L, rfl, rfl, ?_⟩
                     rw [show (t24 + 1).toNat = t24.toNat + 1 by omega, nrK, ← hk]
                     unfold nr1
                     simp only [hd]
                     rw [if_neg (show ¬ farC (l.getD t24.toNat 0) c < least by assumption), if_neg (show ¬ farC (l.getD t24.toNat 0) c = least by assumption)]; done)
              · (try dsimp only); omega
            · skip
              (try simp only [Decidable.not_not] at h6)
              refine code_skip ?_
              refine blk_n ?_
              refine hK10 _ ?_; clear hK10 K10
              refine code_region ?_
              refine list_cons rfl (op_q (by first | exact q_addI rfl rfl (by decide) (by omega) (by omega) | exact q_ib rfl rfl rfl (by decide)) ?_)
              refine list_cons rfl (op_q (q_move rfl (by decide)) ?_)
              refine list_nil ?_
              refine then_n ⟨(_, _, _, _, _, _, _), imp_covers ⟨rfl, rfl, rfl, rfl, rfl, rfl, rfl, rfl, rfl, rfl, trivial⟩, ?_, ?_⟩
              · (try dsimp only)
                first
                  | exact absurd trivial h6
                  | (refine ⟨hC, by omega, by omega, [t24], rfl, rfl, ?_⟩
                     rw [show (t24 + 1).toNat = t24.toNat + 1 by omega, nrK, ← hk]
                     unfold nr1
                     simp only [hd]
                     exact (if_pos (show farC (l.getD t24.toNat 0) c < least by assumption)).symm)
                  | (refine ⟨hC, by omega, by omega, [t24], rfl, rfl, ?_⟩
                     rw [show (t24 + 1).toNat = t24.toNat + 1 by omega, nrK, ← hk]
                     unfold nr1
                     simp only [hd]
                     rw [if_pos (show farC (l.getD t24.toNat 0) c < least by assumption)]; done)
                  | (refine ⟨hC, by omega, by omega, L ++ [t24], by simp, by simp; rfl, ?_⟩
                     rw [show (t24 + 1).toNat = t24.toNat + 1 by omega, nrK, ← hk]
                     unfold nr1
                     simp only [hd]
                     rw [if_neg (show ¬ farC (l.getD t24.toNat 0) c < least by assumption), if_pos (show farC (l.getD t24.toNat 0) c = least by assumption)]; done)
                  | (refine ⟨hC, by omega, by omega, L, rfl, rfl, ?_⟩
                     rw [show (t24 + 1).toNat = t24.toNat + 1 by omega, nrK, ← hk]
                     unfold nr1
                     simp only [hd]
                     rw [if_neg (show ¬ farC (l.getD t24.toNat 0) c < least by assumption), if_neg (show ¬ farC (l.getD t24.toNat 0) c = least by assumption)]; done)
              · (try dsimp only); omega
        · skip
          (try simp only [Decidable.not_not] at h3)
          refine code_exit ?_
          refine then_x ?_; clear hK9 K9
          refine then_x ?_
          refine blk_hit ?_
          refine hK6 _ ?_; clear hK6 K6
          refine code_seq (fun K17 hK17 => ?_)
          refine code_region ?_
          refine list_cons rfl (op_q (q_move rfl (by decide)) ?_)
          refine list_cons rfl (op_q (q_move rfl (by decide)) ?_)
          refine list_cons rfl (op_q (q_assign rfl (by decide)) ?_)
          refine list_cons rfl (op_q (q_assign rfl (by decide)) ?_)
          refine list_cons rfl (op_q (q_assign rfl (by decide)) ?_)
          refine list_nil ?_
          refine hK17 _ ?_; clear hK17 K17
          refine code_ret ?_
          refine ends_ret (cs := []) rfl rfl rfl rfl trivial ?_
          first
            | (have e : ¬ (CodeP l ∧ 0 ≤ c ∧ c ≤ 127) := fun e => absurd e.1 (by assumption)
               simp only [if_neg e, decide_eq_false e]; rfl)
            | (have e : ¬ (CodeP l ∧ 0 ≤ c ∧ c ≤ 127) := fun e => absurd e.2 (by assumption)
               simp only [if_neg e, decide_eq_false e]; rfl)
            | (have e7 : nrK l c 8 l.length = (L, least) := by
                 rw [hk, show t24.toNat = l.length by omega, show l.length = l.length - 1 + 1 by omega]; exact (nr_87 l c _).symm
               simp only [if_pos hC, decide_eq_true hC, e7])
  · simp only [Bool.false_eq_true, if_true, if_false, Decidable.not_not] at h1
    refine list_guard_n rfl rfl rfl rfl (by decide) rfl ?_
    refine list_guard_n rfl rfl rfl rfl (by decide) rfl ?_
    refine list_cons rfl (op_q (q_pick rfl rfl (by decide)) ?_)
    refine list_nil ?_
    refine hK3 _ ?_; clear hK3 K3
    refine code_cond_t rfl ?_
    refine code_seq (fun K18 hK18 => ?_)
    refine code_region ?_
    refine list_cons rfl (op_buildSlice sl_22 (parts := []) rfl rfl rfl (by decide) (by decide) (by decide) rfl ?_)
    refine list_cons rfl (op_q (q_assign rfl (by decide)) ?_)
    refine list_cons rfl (op_q (q_assign rfl (by decide)) ?_)
    refine list_cons rfl (op_q (q_assign rfl (by decide)) ?_)
    refine list_nil ?_
    refine hK18 _ ?_; clear hK18 K18
    refine code_ret ?_
    refine then_r ?_; clear hK2 K2
    refine ends_ret (cs := []) rfl rfl rfl rfl trivial ?_
    first
      | (have e : ¬ (CodeP l ∧ 0 ≤ c ∧ c ≤ 127) := fun e => absurd e.1 (by assumption)
         simp only [if_neg e, decide_eq_false e]; rfl)
      | (have e : ¬ (CodeP l ∧ 0 ≤ c ∧ c ≤ 127) := fun e => absurd e.2 (by assumption)
         simp only [if_neg e, decide_eq_false e]; rfl)
      | (have e7 : nrK l c 8 l.length = (L, least) := by
           rw [hk, show t24.toNat = l.length by omega, show l.length = l.length - 1 + 1 by omega]; exact (nr_87 l c _).symm
         simp only [if_pos hC, decide_eq_true hC, e7])

set_option maxRecDepth 4000 in
theorem impl_CountNear (l : List Int) (k : Int) (hl : l.length ≤ 4611686018427387904) : PCalls Try.prog 34 [.sl l.length (l.map (.int .i64)), .int .i64 k] (· = [.val (.int .i64 (if CodeP l ∧ 0 ≤ k ∧ k ≤ 7 then ((cnN l k 128 : Nat) : Int) else 0)), .val (.bool (decide (CodeP l ∧ 0 ≤ k ∧ k ≤ 7)))]) := by
  refine pcalls_of_code (n := 36) az Try.func34 (by kernel_rfl) rfl rfl (Nat.le_of_ble_eq_true rfl) (by intro t u h; simp [Try.f34] at h) ?_
  refine code_seq (fun K1 hK1 => ?_)
  refine code_region ?_
  refine list_cons rfl (op_q (q_assign rfl (by decide)) ?_)
  refine list_cons rfl (op_q (q_assign rfl (by decide)) ?_)
  refine list_nil ?_
  refine hK1 _ ?_; clear hK1 K1
  refine code_seq (fun K2 hK2 => ?_)
  refine code_seq (fun K3 hK3 => ?_)
  refine code_region ?_
  refine list_cons rfl (op_q (q_move rfl (by decide)) ?_)
  refine list_cons rfl (op_q (q_lt rfl rfl (by decide)) ?_)
  refine list_cons rfl (op_q (q_move rfl (by decide)) ?_)
  refine list_guard_d rfl rfl rfl rfl (by decide) rfl (by decide) (fun h1 => ?_) (fun h1 => ?_)
  · simp only [Bool.false_eq_true, if_true, if_false, Decidable.not_not] at h1
    refine id (op_q (q_move rfl (by decide)) ?_)
    refine list_guard_y rfl rfl rfl rfl (by decide) rfl ?_
    refine id (op_q (q_gt rfl rfl (by decide)) ?_)
    refine list_cons rfl (op_q (q_pick rfl rfl (by decide)) ?_)
    refine list_nil ?_
    refine hK3 _ ?_; clear hK3 K3
    refine code_cond_d rfl (fun h2 => ?_) (fun h2 => ?_)
    · skip
      (try simp only [Decidable.not_not] at h2)
      refine code_seq (fun K4 hK4 => ?_)
      refine code_region ?_
      refine list_cons rfl (op_q (q_assign rfl (by decide)) ?_)
      refine list_cons rfl (op_q (q_assign rfl (by decide)) ?_)
      refine list_nil ?_
      refine hK4 _ ?_; clear hK4 K4
      refine code_ret ?_
      refine then_r ?_; clear hK2 K2
      refine ends_ret (cs := []) rfl rfl rfl rfl trivial ?_
      first
        | (have e : ¬ (CodeP l ∧ 0 ≤ k ∧ k ≤ 7) := fun e => absurd e.2 (by omega)
           simp only [if_neg e, decide_eq_false e]; done)
        | (have e : ¬ (CodeP l ∧ 0 ≤ k ∧ k ≤ 7) := fun e => absurd (show CodeP l ∧ 0 ≤ t17 ∧ t17 ≤ 127 from ⟨e.1, by omega, by omega⟩) (by assumption)
           simp only [if_neg e, decide_eq_false e]; done)
        | (have e : CodeP l ∧ 0 ≤ k ∧ k ≤ 7 := ⟨by rcases iC with h | h; omega; exact h, hk⟩
           simp only [if_pos e, decide_eq_true e]
           rw [show t17.toNat = 128 by omega])
    · skip
      (try simp only [Decidable.not_not] at h2)
      refine code_skip ?_
      refine hK2 _ ?_; clear hK2 K2
      refine code_seq (fun K5 hK5 => ?_)
      refine code_region ?_
      refine list_cons rfl (op_q (q_assign rfl (by decide)) ?_)
      refine list_nil ?_
      refine hK5 _ ?_; clear hK5 K5
      refine code_seq (fun K6 hK6 => ?_)
      refine code_seq (fun K7 hK7 => ?_)
      refine code_region ?_
      refine list_cons rfl (op_q (q_move rfl (by decide)) ?_)
      refine list_nil ?_
      refine hK7 _ ?_; clear hK7 K7
      refine code_block ?_
      refine code_loop (X := Int × Bool × Int × Int) (fun x => [(0, .par 0 (.sl l.length (l.map (.int .i64)))), (1, .val (.int .i64 k)), (4, .val (.int .i64 x.1)), (5, .val (.bool x.2.1)), (6, .val (.int .i64 x.2.2.1)), (17, .val (.int .i64 x.2.2.2))]) (fun x => (0 ≤ k ∧ k ≤ 7) ∧ 0 ≤ x.2.2.2 ∧ x.2.2.2 ≤ 128 ∧ (x.2.2.2 = 0 ∨ CodeP l) ∧ x.2.2.1 = ((cnN l k x.2.2.2.toNat : Nat) : Int)) (fun x => (128 - x.2.2.2).toNat) (_, _, _, _) (imp_covers ⟨rfl, rfl, rfl, rfl, rfl, rfl, trivial⟩) ?_ ?_
      · (try dsimp only)
        exact ⟨⟨by omega, by omega⟩, by omega, by omega, .inl rfl, rfl⟩
      · intro x hI
        obtain ⟨t4, t5, count, t17⟩ := x
        replace hI : (0 ≤ k ∧ k ≤ 7) ∧ 0 ≤ t17 ∧ t17 ≤ 128 ∧ (t17 = 0 ∨ CodeP l) ∧ count = ((cnN l k t17.toNat : Nat) : Int) := hI
        show codeT _ _ _ [(0, .par 0 (.sl l.length (l.map (.int .i64)))), (1, .val (.int .i64 k)), (4, .val (.int .i64 t4)), (5, .val (.bool t5)), (6, .val (.int .i64 count)), (17, .val (.int .i64 t17))] _
        obtain ⟨hk, i1, i2, iC, rfl⟩ := hI
        have hq := cnN_le l k t17.toNat
        refine code_seq (fun K8 hK8 => ?_)
        refine code_region ?_
        refine list_cons rfl (op_q (q_lt rfl rfl (by decide)) ?_)
        refine list_nil ?_
        refine hK8 _ ?_; clear hK8 K8
        refine code_seq (fun K9 hK9 => ?_)
        refine code_cond_d rfl (fun h3 => ?_) (fun h3 => ?_)
        · skip
          (try simp only [Decidable.not_not] at h3)
          refine code_skip ?_
          refine hK9 _ ?_; clear hK9 K9
          refine code_seq (fun K10 hK10 => ?_)
          refine code_block ?_
          refine code_seq (fun K11 hK11 => ?_)
          refine code_region ?_
          refine list_cons rfl (op_q (q_move rfl (by decide)) ?_)
          refine list_cons rfl (op_q (q_assign rfl (by decide)) ?_)
          refine list_nil ?_
          refine hK11 _ ?_; clear hK11 K11
          refine code_seq (fun K12 hK12 => ?_)
          refine code_region ?_
          refine list_cons rfl (op_q (q_move rfl (by decide)) ?_)
          refine list_cons rfl (op_q (q_move rfl (by decide)) ?_)
          refine list_cons rfl (op_call _ (impl_NearestOf _ _ (by omega)) rfl rfl (by decide) (by decide) (by decide) rfl ?_)
          rintro _ rfl
          refine list_cons rfl (op_q (q_move rfl (by decide)) ?_)
          refine list_cons rfl (op_q (q_extract rfl rfl (by decide)) ?_)
          refine list_cons rfl (op_q (q_extract rfl rfl (by decide)) ?_)
          refine list_cons rfl (op_q (q_extract rfl rfl (by decide)) ?_)
          refine list_cons rfl (op_q (q_assign rfl (by decide)) ?_)
          refine list_cons rfl (op_q (q_assign rfl (by decide)) ?_)
          refine list_cons rfl (op_q (q_assign rfl (by decide)) ?_)
          refine list_nil ?_
          refine hK12 _ ?_; clear hK12 K12
          refine codeT.imp (σ' := [(0, _), (1, _), (4, _), (5, _), (6, _), (7, _), (9, _), (10, _), (17, _)]) ?_ (imp_covers ⟨rfl, rfl, rfl, rfl, rfl, rfl, rfl, rfl, rfl, trivial⟩)
          refine code_seq (fun K13 hK13 => ?_)
          refine code_seq (fun K14 hK14 => ?_)
          refine code_region ?_
          refine list_cons rfl (op_q (q_move rfl (by decide)) ?_)
          refine list_cons rfl (op_q (by first | exact q_notd rfl (by decide) | exact q_not rfl (by decide)) ?_)
          refine list_nil ?_
          refine hK14 _ ?_; clear hK14 K14
          refine code_cond_d rfl (fun h4 => ?_) (fun h4 => ?_)
          · skip
            (try simp only [Decidable.not_not] at h4)
            refine code_seq (fun K15 hK15 => ?_)
            refine code_region ?_
            refine list_cons rfl (op_q (q_assign rfl (by decide)) ?_)
            refine list_cons rfl (op_q (q_assign rfl (by decide)) ?_)
            refine list_nil ?_
            refine hK15 _ ?_; clear hK15 K15
            refine code_ret ?_
            refine then_r ?_; clear hK13 K13
            refine blk_r ?_
            refine then_r ?_; clear hK10 K10
            refine then_r ?_
            refine blk_r ?_
            refine then_r ?_; clear hK6 K6
            refine ends_ret (cs := []) rfl rfl rfl rfl trivial ?_
            first
              | (have e : ¬ (CodeP l ∧ 0 ≤ k ∧ k ≤ 7) := fun e => absurd e.2 (by omega)
                 simp only [if_neg e, decide_eq_false e]; done)
              | (have e : ¬ (CodeP l ∧ 0 ≤ k ∧ k ≤ 7) := fun e => absurd (show CodeP l ∧ 0 ≤ t17 ∧ t17 ≤ 127 from ⟨e.1, by omega, by omega⟩) (by assumption)
                 simp only [if_neg e, decide_eq_false e]; done)
              | (have e : CodeP l ∧ 0 ≤ k ∧ k ≤ 7 := ⟨by rcases iC with h | h; omega; exact h, hk⟩
                 simp only [if_pos e, decide_eq_true e]
                 rw [show t17.toNat = 128 by omega])
          · skip
            (try simp only [Decidable.not_not] at h4)
            refine code_skip ?_
            refine hK13 _ ?_; clear hK13 K13
            refine code_seq (fun K16 hK16 => ?_)
            refine code_region ?_
            refine list_cons rfl (op_q (q_move rfl (by decide)) ?_)
            refine list_cons rfl (op_q (q_move rfl (by decide)) ?_)
            refine list_cons rfl (op_q (q_le rfl rfl (by decide)) ?_)
            refine list_nil ?_
            refine hK16 _ ?_; clear hK16 K16
            refine code_cond_d rfl (fun h5 => ?_) (fun h5 => ?_)
            · skip
              (try simp only [Decidable.not_not] at h5)
              refine code_region ?_
              refine list_cons rfl (op_q (q_move rfl (by decide)) ?_)
              refine list_cons rfl (op_q (by first | exact q_addI rfl rfl (by decide) (by omega) (by omega) | exact q_ib rfl rfl rfl (by decide)) ?_)
              refine list_cons rfl (op_q (q_assign rfl (by decide)) ?_)
              refine list_nil ?_
              refine blk_n ?_
              refine hK10 _ ?_; clear hK10 K10
              refine codeT.imp (σ' := [(0, _), (1, _), (4, _), (5, _), (6, _), (7, _), (9, _), (10, _), (17, _)]) ?_ (imp_covers ⟨rfl, rfl, rfl, rfl, rfl, rfl, rfl, rfl, rfl, trivial⟩)
              refine code_region ?_
              refine list_cons rfl (op_q (by first | exact q_addI rfl rfl (by decide) (by omega) (by omega) | exact q_ib rfl rfl rfl (by decide)) ?_)
              refine list_cons rfl (op_q (q_move rfl (by decide)) ?_)
              refine list_nil ?_
              refine then_n ⟨(_, _, _, _), imp_covers ⟨rfl, rfl, rfl, rfl, rfl, rfl, trivial⟩, ?_, ?_⟩
              · (try dsimp only)
                have hN : CodeP l ∧ 0 ≤ t17 ∧ t17 ≤ 127 := by assumption
                have hx := h5
                rw [if_pos hN, ndS_at l i1] at hx
                refine ⟨hk, by omega, by omega, .inr hN.1, ?_⟩
                rw [show (t17 + 1).toNat = t17.toNat + 1 by omega]
                first
                  | exact cnN_yes hx
                  | exact cnN_no hx
              · (try dsimp only); omega
            · skip
              (try simp only [Decidable.not_not] at h5)
              refine code_skip ?_
              refine blk_n ?_
              refine hK10 _ ?_; clear hK10 K10
              refine code_region ?_
              refine list_cons rfl (op_q (by first | exact q_addI rfl rfl (by decide) (by omega) (by omega) | exact q_ib rfl rfl rfl (by decide)) ?_)
              refine list_cons rfl (op_q (q_move rfl (by decide)) ?_)
              refine list_nil ?_
              refine then_n ⟨(_, _, _, _), imp_covers ⟨rfl, rfl, rfl, rfl, rfl, rfl, trivial⟩, ?_, ?_⟩
              · (try dsimp only)
                have hN : CodeP l ∧ 0 ≤ t17 ∧ t17 ≤ 127 := by assumption
                have hx := h5
                rw [if_pos hN, ndS_at l i1] at hx
                refine ⟨hk, by omega, by omega, .inr hN.1, ?_⟩
                rw [show (t17 + 1).toNat = t17.toNat + 1 by omega]
                first
                  | exact cnN_yes hx
                  | exact cnN_no hx
              · (try dsimp only); omega
        · skip
          (try simp only [Decidable.not_not] at h3)
          refine code_exit ?_
          refine then_x ?_; clear hK9 K9
          refine then_x ?_
          refine blk_hit ?_
          refine hK6 _ ?_; clear hK6 K6
          refine code_seq (fun K17 hK17 => ?_)
          refine code_region ?_
          refine list_cons rfl (op_q (q_move rfl (by decide)) ?_)
          refine list_cons rfl (op_q (q_assign rfl (by decide)) ?_)
          refine list_cons rfl (op_q (q_assign rfl (by decide)) ?_)
          refine list_nil ?_
          refine hK17 _ ?_; clear hK17 K17
          refine code_ret ?_
          refine ends_ret (cs := []) rfl rfl rfl rfl trivial ?_
          first
            | (have e : ¬ (CodeP l ∧ 0 ≤ k ∧ k ≤ 7) := fun e => absurd e.2 (by omega)
               simp only [if_neg e, decide_eq_false e]; done)
            | (have e : ¬ (CodeP l ∧ 0 ≤ k ∧ k ≤ 7) := fun e => absurd (show CodeP l ∧ 0 ≤ t17 ∧ t17 ≤ 127 from ⟨e.1, by omega, by omega⟩) (by assumption)
               simp only [if_neg e, decide_eq_false e]; done)
            | (have e : CodeP l ∧ 0 ≤ k ∧ k ≤ 7 := ⟨by rcases iC with h | h; omega; exact h, hk⟩
               simp only [if_pos e, decide_eq_true e]
               rw [show t17.toNat = 128 by omega])
  · simp only [Bool.false_eq_true, if_true, if_false, Decidable.not_not] at h1
    refine list_guard_n rfl rfl rfl rfl (by decide) rfl ?_
    refine list_cons rfl (op_q (q_pick rfl rfl (by decide)) ?_)
    refine list_nil ?_
    refine hK3 _ ?_; clear hK3 K3
    refine code_cond_t rfl ?_
    refine code_seq (fun K18 hK18 => ?_)
    refine code_region ?_
    refine list_cons rfl (op_q (q_assign rfl (by decide)) ?_)
    refine list_cons rfl (op_q (q_assign rfl (by decide)) ?_)
    refine list_nil ?_
    refine hK18 _ ?_; clear hK18 K18
    refine code_ret ?_
    refine then_r ?_; clear hK2 K2
    refine ends_ret (cs := []) rfl rfl rfl rfl trivial ?_
    first
      | (have e : ¬ (CodeP l ∧ 0 ≤ k ∧ k ≤ 7) := fun e => absurd e.2 (by omega)
         simp only [if_neg e, decide_eq_false e]; done)
      | (have e : ¬ (CodeP l ∧ 0 ≤ k ∧ k ≤ 7) := fun e => absurd (show CodeP l ∧ 0 ≤ t17 ∧ t17 ≤ 127 from ⟨e.1, by omega, by omega⟩) (by assumption)
         simp only [if_neg e, decide_eq_false e]; done)
      | (have e : CodeP l ∧ 0 ≤ k ∧ k ≤ 7 := ⟨by rcases iC with h | h; omega; exact h, hk⟩
         simp only [if_pos e, decide_eq_true e]
         rw [show t17.toNat = 128 by omega])

set_option maxRecDepth 4000 in
theorem impl_FarthestCell (l : List Int) (hl : l.length ≤ 4611686018427387904) : PCalls Try.prog 38 [.sl l.length (l.map (.int .i64))] (· = [.val (.int .i64 (if CodeP l then (fthK l (-1) 128).1 else 0)), .val (.int .i64 (if CodeP l then (fthK l (-1) 128).2 else 0)), .val (.bool (decide (CodeP l)))]) := by
  refine pcalls_of_code (n := 31) az Try.func38 (by kernel_rfl) rfl rfl (Nat.le_of_ble_eq_true rfl) (by intro t u h; simp [Try.f38] at h) ?_
  refine code_seq (fun K1 hK1 => ?_)
  refine code_region ?_
  refine list_cons rfl (op_q (q_assign rfl (by decide)) ?_)
  refine list_cons rfl (op_q (q_assign rfl (by decide)) ?_)
  refine list_cons rfl (op_q (q_assign rfl (by decide)) ?_)
  refine list_nil ?_
  refine hK1 _ ?_; clear hK1 K1
  refine code_seq (fun K2 hK2 => ?_)
  refine code_region ?_
  refine list_cons rfl (op_q (q_assign rfl (by decide)) ?_)
  refine list_cons rfl (op_q (q_assign rfl (by decide)) ?_)
  refine list_nil ?_
  refine hK2 _ ?_; clear hK2 K2
  refine code_seq (fun K3 hK3 => ?_)
  refine code_seq (fun K4 hK4 => ?_)
  refine code_region ?_
  refine list_cons rfl (op_q (q_move rfl (by decide)) ?_)
  refine list_nil ?_
  refine hK4 _ ?_; clear hK4 K4
  refine code_block ?_
  refine code_loop (X := Int × Int × Bool × Int × Int × Int) (fun x => [(0, .par 0 (.sl l.length (l.map (.int .i64)))), (2, .val (.int .i64 x.1)), (3, .val (.int .i64 x.2.1)), (4, .val (.bool x.2.2.1)), (5, .val (.int .i64 x.2.2.2.1)), (6, .val (.int .i64 x.2.2.2.2.1)), (11, .val (.int .i64 x.2.2.2.2.2))]) (fun x => 0 ≤ x.2.2.2.2.2 ∧ x.2.2.2.2.2 ≤ 128 ∧ (x.2.2.2.2.2 = 0 ∨ CodeP l) ∧ (x.2.2.2.1, x.2.2.2.2.1) = fthK l 0 x.2.2.2.2.2.toNat) (fun x => (128 - x.2.2.2.2.2).toNat) (_, _, _, _, _, _) (imp_covers ⟨rfl, rfl, rfl, rfl, rfl, rfl, rfl, trivial⟩) ?_ ?_
  · (try dsimp only)
    exact ⟨by omega, by omega, .inl rfl, rfl⟩
  · intro x hI
    obtain ⟨t2, t3, t4, farthest, most, t11⟩ := x
    replace hI : 0 ≤ t11 ∧ t11 ≤ 128 ∧ (t11 = 0 ∨ CodeP l) ∧ (farthest, most) = fthK l 0 t11.toNat := hI
    show codeT _ _ _ [(0, .par 0 (.sl l.length (l.map (.int .i64)))), (2, .val (.int .i64 t2)), (3, .val (.int .i64 t3)), (4, .val (.bool t4)), (5, .val (.int .i64 farthest)), (6, .val (.int .i64 most)), (11, .val (.int .i64 t11))] _
    obtain ⟨i1, i2, iC, hk⟩ := hI
    have hd : ((t11.toNat : Nat) : Int) = t11 := Int.toNat_of_nonneg i1
    refine code_seq (fun K5 hK5 => ?_)
    refine code_region ?_
    refine list_cons rfl (op_q (q_lt rfl rfl (by decide)) ?_)
    refine list_nil ?_
    refine hK5 _ ?_; clear hK5 K5
    refine code_seq (fun K6 hK6 => ?_)
    refine code_cond_d rfl (fun h1 => ?_) (fun h1 => ?_)
    · skip
      (try simp only [Decidable.not_not] at h1)
      refine code_skip ?_
      refine hK6 _ ?_; clear hK6 K6
      refine code_seq (fun K7 hK7 => ?_)
      refine code_block ?_
      refine code_seq (fun K8 hK8 => ?_)
      refine code_region ?_
      refine list_cons rfl (op_q (q_move rfl (by decide)) ?_)
      refine list_cons rfl (op_q (q_assign rfl (by decide)) ?_)
      refine list_nil ?_
      refine hK8 _ ?_; clear hK8 K8
      refine code_seq (fun K9 hK9 => ?_)
      refine code_region ?_
      refine list_cons rfl (op_q (q_move rfl (by decide)) ?_)
      refine list_cons rfl (op_q (q_move rfl (by decide)) ?_)
      refine list_cons rfl (op_call _ (impl_NearestOf _ _ (by omega)) rfl rfl (by decide) (by decide) (by decide) rfl ?_)
      rintro _ rfl
      refine list_cons rfl (op_q (q_move rfl (by decide)) ?_)
      refine list_cons rfl (op_q (q_extract rfl rfl (by decide)) ?_)
      refine list_cons rfl (op_q (q_extract rfl rfl (by decide)) ?_)
      refine list_cons rfl (op_q (q_extract rfl rfl (by decide)) ?_)
      refine list_cons rfl (op_q (q_assign rfl (by decide)) ?_)
      refine list_cons rfl (op_q (q_assign rfl (by decide)) ?_)
      refine list_cons rfl (op_q (q_assign rfl (by decide)) ?_)
      refine list_nil ?_
      refine hK9 _ ?_; clear hK9 K9
      refine codeT.imp (σ' := [(0, _), (2, _), (3, _), (4, _), (5, _), (6, _), (7, _), (9, _), (10, _), (11, _)]) ?_ (imp_covers ⟨rfl, rfl, rfl, rfl, rfl, rfl, rfl, rfl, rfl, rfl, trivial⟩)
      refine code_seq (fun K10 hK10 => ?_)
      refine code_seq (fun K11 hK11 => ?_)
      refine code_region ?_
      refine list_cons rfl (op_q (q_move rfl (by decide)) ?_)
      refine list_cons rfl (op_q (by first | exact q_notd rfl (by decide) | exact q_not rfl (by decide)) ?_)
      refine list_nil ?_
      refine hK11 _ ?_; clear hK11 K11
      refine code_cond_d rfl (fun h2 => ?_) (fun h2 => ?_)
      · skip
        (try simp only [Decidable.not_not] at h2)
        refine code_seq (fun K12 hK12 => ?_)
        refine code_region ?_
        refine list_cons rfl (op_q (q_assign rfl (by decide)) ?_)
        refine list_cons rfl (op_q (q_assign rfl (by decide)) ?_)
        refine list_cons rfl (op_q (q_assign rfl (by decide)) ?_)
        refine list_nil ?_
        refine hK12 _ ?_; clear hK12 K12
        refine code_ret ?_
        refine then_r ?_; clear hK10 K10
        refine blk_r ?_
        refine then_r ?_; clear hK7 K7
        refine then_r ?_
        refine blk_r ?_
        refine then_r ?_; clear hK3 K3
        refine ends_ret (cs := []) rfl rfl rfl rfl trivial ?_
        first
          | (have e : ¬ CodeP l := fun e => absurd (show CodeP l ∧ 0 ≤ t11 ∧ t11 ≤ 127 from ⟨e, by omega, by omega⟩) (by assumption)
             simp only [if_neg e, decide_eq_false e]; done)
          | (have e : CodeP l := by rcases iC with h | h; omega; exact h
             have e2 : fthK l (-1) 128 = (farthest, most) := by rw [hk, show t11.toNat = 128 by omega]; exact fth_01 l 127
             simp only [if_pos e, decide_eq_true e, e2])
      · skip
        (try simp only [Decidable.not_not] at h2)
        refine code_skip ?_
        refine hK10 _ ?_; clear hK10 K10
        refine code_seq (fun K13 hK13 => ?_)
        refine code_region ?_
        refine list_cons rfl (op_q (q_move rfl (by decide)) ?_)
        refine list_cons rfl (op_q (q_move rfl (by decide)) ?_)
        refine list_cons rfl (op_q (q_gt rfl rfl (by decide)) ?_)
        refine list_nil ?_
        refine hK13 _ ?_; clear hK13 K13
        refine code_cond_d rfl (fun h3 => ?_) (fun h3 => ?_)
        · skip
          (try simp only [Decidable.not_not] at h3)
          refine code_region ?_
          refine list_cons rfl (op_q (q_move rfl (by decide)) ?_)
          refine list_cons rfl (op_q (q_move rfl (by decide)) ?_)
          refine list_cons rfl (op_q (q_assign rfl (by decide)) ?_)
          refine list_cons rfl (op_q (q_assign rfl (by decide)) ?_)
          refine list_nil ?_
          refine blk_n ?_
          refine hK7 _ ?_; clear hK7 K7
          refine codeT.imp (σ' := [(0, _), (2, _), (3, _), (4, _), (5, _), (6, _), (7, _), (9, _), (10, _), (11, _)]) ?_ (imp_covers ⟨rfl, rfl, rfl, rfl, rfl, rfl, rfl, rfl, rfl, rfl, trivial⟩)
          refine code_region ?_
          refine list_cons rfl (op_q (by first | exact q_addI rfl rfl (by decide) (by omega) (by omega) | exact q_ib rfl rfl rfl (by decide)) ?_)
          refine list_cons rfl (op_q (q_move rfl (by decide)) ?_)
          refine list_nil ?_
          refine then_n ⟨(_, _, _, _, _, _), imp_covers ⟨rfl, rfl, rfl, rfl, rfl, rfl, rfl, trivial⟩, ?_, ?_⟩
          · (try dsimp only)
            have hN : CodeP l ∧ 0 ≤ t11 ∧ t11 ≤ 127 := by assumption
            have hx := h3
            rw [if_pos hN, ndS_at l i1] at hx
            refine ⟨by omega, by omega, .inr hN.1, ?_⟩
            rw [show (t11 + 1).toNat = t11.toNat + 1 by omega]
            first
              | (have e := fth_yes hk hx
                 have e3 : (if CodeP l ∧ 0 ≤ t11 ∧ t11 ≤ 127 then (nrK l t11 8 l.length).2 else 0) = _ := if_pos hN
                 rw [hd, ← ndS_at l i1, ← e3] at e; exact e)
              | exact fth_no hk hx
          · (try dsimp only); omega
        · skip
          (try simp only [Decidable.not_not] at h3)
          refine code_skip ?_
          refine blk_n ?_
          refine hK7 _ ?_; clear hK7 K7
          refine code_region ?_
          refine list_cons rfl (op_q (by first | exact q_addI rfl rfl (by decide) (by omega) (by omega) | exact q_ib rfl rfl rfl (by decide)) ?_)
          refine list_cons rfl (op_q (q_move rfl (by decide)) ?_)
          refine list_nil ?_
          refine then_n ⟨(_, _, _, _, _, _), imp_covers ⟨rfl, rfl, rfl, rfl, rfl, rfl, rfl, trivial⟩, ?_, ?_⟩
          · (try dsimp only)
            have hN : CodeP l ∧ 0 ≤ t11 ∧ t11 ≤ 127 := by assumption
            have hx := h3
            rw [if_pos hN, ndS_at l i1] at hx
            refine ⟨by omega, by omega, .inr hN.1, ?_⟩
            rw [show (t11 + 1).toNat = t11.toNat + 1 by omega]
            first
              | (have e := fth_yes hk hx
                 have e3 : (if CodeP l ∧ 0 ≤ t11 ∧ t11 ≤ 127 then (nrK l t11 8 l.length).2 else 0) = _ := if_pos hN
                 rw [hd, ← ndS_at l i1, ← e3] at e; exact e)
              | exact fth_no hk hx
          · (try dsimp only); omega
    · skip
      (try simp only [Decidable.not_not] at h1)
      refine code_exit ?_
      refine then_x ?_; clear hK6 K6
      refine then_x ?_
      refine blk_hit ?_
      refine hK3 _ ?_; clear hK3 K3
      refine code_seq (fun K14 hK14 => ?_)
      refine code_region ?_
      refine list_cons rfl (op_q (q_move rfl (by decide)) ?_)
      refine list_cons rfl (op_q (q_move rfl (by decide)) ?_)
      refine list_cons rfl (op_q (q_assign rfl (by decide)) ?_)
      refine list_cons rfl (op_q (q_assign rfl (by decide)) ?_)
      refine list_cons rfl (op_q (q_assign rfl (by decide)) ?_)
      refine list_nil ?_
      refine hK14 _ ?_; clear hK14 K14
      refine code_ret ?_
      refine ends_ret (cs := []) rfl rfl rfl rfl trivial ?_
      first
        | (have e : ¬ CodeP l := fun e => absurd (show CodeP l ∧ 0 ≤ t11 ∧ t11 ≤ 127 from ⟨e, by omega, by omega⟩) (by assumption)
           simp only [if_neg e, decide_eq_false e]; done)
        | (have e : CodeP l := by rcases iC with h | h; omega; exact h
           have e2 : fthK l (-1) 128 = (farthest, most) := by rw [hk, show t11.toNat = 128 by omega]; exact fth_01 l 127
           simp only [if_pos e, decide_eq_true e, e2])

set_option maxRecDepth 4000 in
theorem impl_CoverOf (l : List Int) (hl : l.length ≤ 4611686018427387904) : PCalls Try.prog 36 [.sl l.length (l.map (.int .i64))] (· = [.val (.int .i64 (if CodeP l then (fthK l (-1) 128).2 else 0)), .val (.bool (decide (CodeP l)))]) := by
  refine pcalls_of_code (n := 15) az Try.func36 (by kernel_rfl) rfl rfl (Nat.le_of_ble_eq_true rfl) (by intro t u h; simp [Try.f36] at h) ?_
  refine code_seq (fun K1 hK1 => ?_)
  refine code_region ?_
  refine list_cons rfl (op_q (q_assign rfl (by decide)) ?_)
  refine list_cons rfl (op_q (q_assign rfl (by decide)) ?_)
  refine list_nil ?_
  refine hK1 _ ?_; clear hK1 K1
  refine code_seq (fun K2 hK2 => ?_)
  refine code_region ?_
  refine list_cons rfl (op_q (q_move rfl (by decide)) ?_)
  refine list_cons rfl (op_call _ (impl_FarthestCell _ (by omega)) rfl rfl (by decide) (by decide) (by decide) rfl ?_)
  rintro _ rfl
  refine list_cons rfl (op_q (q_move rfl (by decide)) ?_)
  refine list_cons rfl (op_q (q_extract rfl rfl (by decide)) ?_)
  refine list_cons rfl (op_q (q_extract rfl rfl (by decide)) ?_)
  refine list_cons rfl (op_q (q_extract rfl rfl (by decide)) ?_)
  refine list_cons rfl (op_q (q_assign rfl (by decide)) ?_)
  refine list_cons rfl (op_q (q_assign rfl (by decide)) ?_)
  refine list_cons rfl (op_q (q_assign rfl (by decide)) ?_)
  refine list_nil ?_
  refine hK2 _ ?_; clear hK2 K2
  refine codeT.imp (σ' := [(0, _), (2, _), (3, _), (5, _), (6, _)]) ?_ (imp_covers ⟨rfl, rfl, rfl, rfl, rfl, trivial⟩)
  refine code_seq (fun K3 hK3 => ?_)
  refine code_region ?_
  refine list_cons rfl (op_q (q_move rfl (by decide)) ?_)
  refine list_cons rfl (op_q (q_move rfl (by decide)) ?_)
  refine list_cons rfl (op_q (q_assign rfl (by decide)) ?_)
  refine list_cons rfl (op_q (q_assign rfl (by decide)) ?_)
  refine list_nil ?_
  refine hK3 _ ?_; clear hK3 K3
  refine code_ret ?_
  refine ends_ret (cs := []) rfl rfl rfl rfl trivial ?_
  rfl

set_option maxRecDepth 4000 in
theorem impl_isDistance (d : Int) : PCalls Try.prog 55 [.int .i64 d] (· = [.val (.bool (decide (1 ≤ d ∧ d ≤ 7)))]) := by
  refine pcalls_of_code (n := 9) az Try.func55 (by kernel_rfl) rfl rfl (Nat.le_of_ble_eq_true rfl) (by intro t u h; simp [Try.f55] at h) ?_
  refine code_seq (fun K1 hK1 => ?_)
  refine code_region ?_
  refine list_cons rfl (op_q (q_assign rfl (by decide)) ?_)
  refine list_nil ?_
  refine hK1 _ ?_; clear hK1 K1
  refine code_seq (fun K2 hK2 => ?_)
  refine code_region ?_
  refine list_cons rfl (op_q (q_move rfl (by decide)) ?_)
  refine list_cons rfl (op_q (q_ge rfl rfl (by decide)) ?_)
  refine list_cons rfl (op_q (q_move rfl (by decide)) ?_)
  refine list_guard_d rfl rfl rfl rfl (by decide) rfl (by decide) (fun h1 => ?_) (fun h1 => ?_)
  · simp only [Bool.false_eq_true, if_true, if_false, Decidable.not_not] at h1
    refine id (op_q (q_move rfl (by decide)) ?_)
    refine list_guard_y rfl rfl rfl rfl (by decide) rfl ?_
    refine id (op_q (q_le rfl rfl (by decide)) ?_)
    refine list_cons rfl (op_q (q_pick rfl rfl (by decide)) ?_)
    refine list_cons rfl (op_q (q_assign rfl (by decide)) ?_)
    refine list_nil ?_
    refine hK2 _ ?_; clear hK2 K2
    refine code_ret ?_
    refine ends_ret (cs := []) rfl rfl rfl rfl trivial ?_
    first | rfl | (congr 3; exact decide_eq_decide.mpr ⟨fun k => by omega, fun k => by omega⟩) | (rw [decide_eq_false (by omega)]) | (rw [decide_eq_true (by omega)])
  · simp only [Bool.false_eq_true, if_true, if_false, Decidable.not_not] at h1
    refine list_guard_n rfl rfl rfl rfl (by decide) rfl ?_
    refine list_cons rfl (op_q (q_pick rfl rfl (by decide)) ?_)
    refine list_cons rfl (op_q (q_assign rfl (by decide)) ?_)
    refine list_nil ?_
    refine hK2 _ ?_; clear hK2 K2
    refine code_ret ?_
    refine ends_ret (cs := []) rfl rfl rfl rfl trivial ?_
    first | rfl | (congr 3; exact decide_eq_decide.mpr ⟨fun k => by omega, fun k => by omega⟩) | (rw [decide_eq_false (by omega)]) | (rw [decide_eq_true (by omega)])

set_option maxRecDepth 4000 in
theorem indexF_c (l : List Int) (f : FuncId) (z : List PV) (caps : List PV) (p : Int → Prop) [DecidablePred p] (hl : l.length ≤ 4611686018427387904) (hf : ∀ j, j < l.length → PCalls Try.prog f (.int .i64 (l.getD j 0) :: .ptr z :: caps) (· = [.val (.bool (decide (p (l.getD j 0))))])) : PCalls Try.prog 69 [.sl l.length (l.map (.int .i64)), .clo f (.ptr z :: caps)] (fun rs => ∃ i : Int, rs = [.val (.int .i64 i)] ∧ (0 ≤ i ↔ (l.any fun v => decide (p v)) = true)) := by
  refine pcalls_of_code (n := 19) az Try.func69 (by kernel_rfl) rfl rfl (Nat.le_of_ble_eq_true rfl) (by intro t u h; simp [Try.f69] at h) ?_
  refine code_seq (fun K1 hK1 => ?_)
  refine code_region ?_
  refine list_cons rfl (op_q (q_assign rfl (by decide)) ?_)
  refine list_nil ?_
  refine hK1 _ ?_; clear hK1 K1
  refine code_seq (fun K2 hK2 => ?_)
  refine code_seq (fun K3 hK3 => ?_)
  refine code_region ?_
  refine list_cons rfl (op_q (q_move rfl (by decide)) ?_)
  refine list_cons rfl (op_q (q_len_sl Try.underlying22 rfl rfl (by decide)) ?_)
  refine list_cons rfl (op_q (q_move rfl (by decide)) ?_)
  refine list_nil ?_
  refine hK3 _ ?_; clear hK3 K3
  refine code_block ?_
  refine code_loop (X := Int × Int) (fun x => [(0, .par 0 (.sl l.length (l.map (.int .i64)))), (1, .par 1 (.clo f (.ptr z :: caps))), (4, .val (.int .i64 x.1)), (7, .val (.int .i64 l.length)), (8, .val (.int .i64 x.2))]) (fun x => 0 ≤ x.2 ∧ x.2 ≤ l.length ∧ ∀ j, j < x.2.toNat → ¬ p (l.getD j 0)) (fun x => (l.length - x.2).toNat) (_, _) (imp_covers ⟨rfl, rfl, rfl, rfl, rfl, trivial⟩) ?_ ?_
  · (try dsimp only)
    exact ⟨by omega, by omega, fun j hj => by simp at hj⟩
  · intro x hI
    obtain ⟨t4, t8⟩ := x
    replace hI : 0 ≤ t8 ∧ t8 ≤ l.length ∧ ∀ j, j < t8.toNat → ¬ p (l.getD j 0) := hI
    show codeT _ _ _ [(0, .par 0 (.sl l.length (l.map (.int .i64)))), (1, .par 1 (.clo f (.ptr z :: caps))), (4, .val (.int .i64 t4)), (7, .val (.int .i64 l.length)), (8, .val (.int .i64 t8))] _
    obtain ⟨i1, i2, i3⟩ := hI
    refine code_seq (fun K4 hK4 => ?_)
    refine code_region ?_
    refine list_cons rfl (op_q (q_lt rfl rfl (by decide)) ?_)
    refine list_nil ?_
    refine hK4 _ ?_; clear hK4 K4
    refine code_seq (fun K5 hK5 => ?_)
    refine code_cond_d rfl (fun h1 => ?_) (fun h1 => ?_)
    · skip
      (try simp only [Decidable.not_not] at h1)
      refine code_skip ?_
      refine hK5 _ ?_; clear hK5 K5
      refine code_seq (fun K6 hK6 => ?_)
      refine code_block ?_
      refine code_seq (fun K7 hK7 => ?_)
      refine code_region ?_
      refine list_cons rfl (op_q (q_move rfl (by decide)) ?_)
      refine list_cons rfl (op_q (q_assign rfl (by decide)) ?_)
      refine list_nil ?_
      refine hK7 _ ?_; clear hK7 K7
      refine code_seq (fun K8 hK8 => ?_)
      refine code_region ?_
      refine list_cons rfl (op_q (q_move rfl (by decide)) ?_)
      refine list_cons rfl (op_q (q_move rfl (by decide)) ?_)
      refine list_cons rfl (op_q (q_move rfl (by decide)) ?_)
      refine list_cons rfl (op_q (q_indexAddr_rd sl_22 rfl (.inl ⟨_, rfl, rfl⟩) rfl (by omega) (by omega) (by decide)) ?_)
      refine list_cons rfl (op_q (q_load_rd one_3 rfl (.inl ⟨_, (by first | rfl | exact congrArg (SV.rpar _) (drop_map1 _ 0 _ (by first | omega | (simp; omega)))), rfl⟩) (by decide)) ?_)
      refine list_cons rfl (op_callV _ rfl rfl rfl rfl (pcV (hf t8.toNat (by omega))) (by decide) ?_)
      rintro _ rfl
      refine list_nil ?_
      refine hK8 _ ?_; clear hK8 K8
      refine codeT.imp (σ' := [(0, _), (1, _), (4, _), (5, _), (7, _), (8, _), (16, _)]) ?_ (imp_covers ⟨rfl, rfl, rfl, rfl, rfl, rfl, rfl, trivial⟩)
      refine code_cond_d rfl (fun h2 => ?_) (fun h2 => ?_)
      · skip
        (try simp only [Decidable.not_not] at h2)
        refine code_seq (fun K9 hK9 => ?_)
        refine code_region ?_
        refine list_cons rfl (op_q (q_move rfl (by decide)) ?_)
        refine list_cons rfl (op_q (q_assign rfl (by decide)) ?_)
        refine list_nil ?_
        refine hK9 _ ?_; clear hK9 K9
        refine code_ret ?_
        refine blk_r ?_
        refine then_r ?_; clear hK6 K6
        refine then_r ?_
        refine blk_r ?_
        refine then_r ?_; clear hK2 K2
        refine ends_ret (cs := []) rfl rfl rfl rfl trivial ?_
        first
          | (refine ⟨_, rfl, fun _ => ?_, fun _ => by omega⟩
             rw [List.any_eq_true]
             refine ⟨l.getD t8.toNat 0, ?_, decide_eq_true h2⟩
             rw [show l.getD t8.toNat 0 = l[t8.toNat]'(by omega) by simp [show t8.toNat < l.length by omega]]; exact List.getElem_mem _)
          | (refine ⟨_, rfl, fun h => by omega, fun h => ?_⟩
             rw [List.any_eq_true] at h
             obtain ⟨v, hv, hp⟩ := h
             obtain ⟨j, hj, rfl⟩ := List.getElem_of_mem hv
             exfalso
             refine i3 j (by omega) ?_
             rw [show l.getD j 0 = l[j] by simp [hj]]; exact of_decide_eq_true hp)
      · skip
        (try simp only [Decidable.not_not] at h2)
        refine code_skip ?_
        refine blk_n ?_
        refine hK6 _ ?_; clear hK6 K6
        refine code_region ?_
        refine list_cons rfl (op_q (by first | exact q_addI rfl rfl (by decide) (by omega) (by omega) | exact q_ib rfl rfl rfl (by decide)) ?_)
        refine list_cons rfl (op_q (q_move rfl (by decide)) ?_)
        refine list_nil ?_
        refine then_n ⟨(_, _), imp_covers ⟨rfl, rfl, rfl, rfl, rfl, trivial⟩, ?_, ?_⟩
        · (try dsimp only)
          refine ⟨by omega, by omega, fun j hj => ?_⟩
          by_cases e : j = t8.toNat
          · subst e; exact h2
          · exact i3 j (by omega)
        · (try dsimp only); omega
    · skip
      (try simp only [Decidable.not_not] at h1)
      refine code_exit ?_
      refine then_x ?_; clear hK5 K5
      refine then_x ?_
      refine blk_hit ?_
      refine hK2 _ ?_; clear hK2 K2
      refine code_seq (fun K10 hK10 => ?_)
      refine code_region ?_
      refine list_cons rfl (op_q (q_assign rfl (by decide)) ?_)
      refine list_nil ?_
      refine hK10 _ ?_; clear hK10 K10
      refine code_ret ?_
      refine ends_ret (cs := []) rfl rfl rfl rfl trivial ?_
      first
        | (refine ⟨_, rfl, fun _ => ?_, fun _ => by omega⟩
           rw [List.any_eq_true]
           refine ⟨l.getD t8.toNat 0, ?_, decide_eq_true h1⟩
           rw [show l.getD t8.toNat 0 = l[t8.toNat]'(by omega) by simp [show t8.toNat < l.length by omega]]; exact List.getElem_mem _)
        | (refine ⟨_, rfl, fun h => by omega, fun h => ?_⟩
           rw [List.any_eq_true] at h
           obtain ⟨v, hv, hp⟩ := h
           obtain ⟨j, hj, rfl⟩ := List.getElem_of_mem hv
           exfalso
           refine i3 j (by omega) ?_
           rw [show l.getD j 0 = l[j] by simp [hj]]; exact of_decide_eq_true hp)

set_option maxRecDepth 4000 in
theorem containsF_c (l : List Int) (f : FuncId) (z : List PV) (caps : List PV) (p : Int → Prop) [DecidablePred p] (hl : l.length ≤ 4611686018427387904) (hf : ∀ j, j < l.length → PCalls Try.prog f (.int .i64 (l.getD j 0) :: .ptr z :: caps) (· = [.val (.bool (decide (p (l.getD j 0))))])) : PCalls Try.prog 65 [.sl l.length (l.map (.int .i64)), .clo f (.ptr z :: caps)] (· = [.val (.bool (decide ((l.any fun v => decide (p v)) = true)))]) := by
  refine pcalls_of_code (n := 9) az Try.func65 (by kernel_rfl) rfl rfl (Nat.le_of_ble_eq_true rfl) (by intro t u h; simp [Try.f65] at h) ?_
  refine code_seq (fun K1 hK1 => ?_)
  refine code_region ?_
  refine list_cons rfl (op_q (q_assign rfl (by decide)) ?_)
  refine list_nil ?_
  refine hK1 _ ?_; clear hK1 K1
  refine code_seq (fun K2 hK2 => ?_)
  refine code_region ?_
  refine list_cons rfl (op_q (q_move rfl (by decide)) ?_)
  refine list_cons rfl (op_q (q_move rfl (by decide)) ?_)
  refine list_cons rfl (op_call _ (indexF_c l f z caps p hl hf) rfl rfl (by decide) (by decide) (by decide) rfl ?_)
  rintro _ ⟨ix, rfl, hix⟩
  refine list_cons rfl (op_q (q_ge rfl rfl (by decide)) ?_)
  refine list_cons rfl (op_q (q_assign rfl (by decide)) ?_)
  refine list_nil ?_
  refine hK2 _ ?_; clear hK2 K2
  refine codeT.imp (σ' := [(0, _), (1, _), (4, _)]) ?_ (imp_covers ⟨rfl, rfl, rfl, trivial⟩)
  refine code_ret ?_
  refine ends_ret (cs := []) rfl rfl rfl rfl trivial ?_
  congr 3
  exact decide_eq_decide.mpr hix

set_option maxRecDepth 4000 in
theorem staysSpread1_c (v c d : Int) (hv : 0 ≤ v ∧ v ≤ 127) (hc : 0 ≤ c ∧ c ≤ 127) : PCalls Try.prog 66 [.int .i64 v, .ptr [.clo 52 []], .ptr [.int .i64 c], .ptr [.int .i64 d]] (· = [.val (.bool (decide (farC v c < d)))]) := by
  refine pcalls_of_code (n := 12) az Try.func66 (by kernel_rfl) rfl rfl (Nat.le_of_ble_eq_true rfl) (by intro t u h; simp [Try.f66] at h) ?_
  refine codeT.imp ?_ (imp_rpar (s := 1) (i := 1) rfl)
  refine codeT.imp ?_ (imp_rpar (s := 2) (i := 2) rfl)
  refine codeT.imp ?_ (imp_rpar (s := 3) (i := 3) rfl)
  refine code_seq (fun K1 hK1 => ?_)
  refine code_region ?_
  refine list_cons rfl (op_q (q_assign rfl (by decide)) ?_)
  refine list_nil ?_
  refine hK1 _ ?_; clear hK1 K1
  refine code_seq (fun K2 hK2 => ?_)
  refine code_draw (by kernel_rfl) (by kernel_rfl) ?_
  refine draw_q rfl (q_load_rd one_57 rfl (.inl ⟨_, (by first | rfl | exact congrArg (SV.rpar _) (drop_map1 _ [] _ (by first | omega | (simp; omega)))), rfl⟩) (by decide)) ?_
  refine draw_q rfl (q_move rfl (by decide)) ?_
  refine draw_q rfl (q_load_rd one_3 rfl (.inl ⟨_, (by first | rfl | exact congrArg (SV.rpar _) (drop_map1 _ 0 _ (by first | omega | (simp; omega)))), rfl⟩) (by decide)) ?_
  refine draw_callV _ rfl rfl rfl rfl (impl_farApart v c hv hc) rfl (by decide) ?_
  refine draw_q rfl (q_load_rd one_3 rfl (.inl ⟨_, (by first | rfl | exact congrArg (SV.rpar _) (drop_map1 _ 0 _ (by first | omega | (simp; omega)))), rfl⟩) (by decide)) ?_
  refine draw_q rfl (q_lt rfl rfl (by decide)) ?_
  refine draw_q rfl (q_assign rfl (by decide)) ?_
  refine draw_nil ?_
  refine hK2 _ ?_; clear hK2 K2
  refine codeT.imp (σ' := [(0, _), (1, _), (2, _), (3, _), (5, _)]) ?_ (imp_covers ⟨rfl, rfl, rfl, rfl, rfl, trivial⟩)
  refine code_ret ?_
  refine ends_ret (cs := []) rfl rfl rfl rfl trivial ?_
  rfl

set_option maxRecDepth 4000 in
theorem impl_staysSpread (l : List Int) (c d : Int) (hl : l.length ≤ 4611686018427387904) (hv : ∀ j, j < l.length → 0 ≤ l.getD j 0 ∧ l.getD j 0 ≤ 127) (hc : 0 ≤ c ∧ c ≤ 127) : PCalls Try.prog 56 [.sl l.length (l.map (.int .i64)), .int .i64 c, .int .i64 d, .clo 52 []] (· = [.val (.bool (decide (okA d l c = true)))]) := by
  refine pcalls_of_code (n := 13) az Try.func56 (by kernel_rfl) rfl rfl (Nat.le_of_ble_eq_true rfl) (by intro t u h; simp [Try.f56] at h) ?_
  refine code_seq (fun K1 hK1 => ?_)
  refine code_region ?_
  refine list_cons rfl (op_box rfl (.inl ⟨rfl, rfl⟩) (by decide) (by decide) rfl ?_)
  refine list_cons rfl (op_box rfl (.inl ⟨rfl, rfl⟩) (by decide) (by decide) rfl ?_)
  refine list_cons rfl (op_box rfl (.inl ⟨rfl, rfl⟩) (by decide) (by decide) rfl ?_)
  refine list_cons rfl (op_q (q_assign rfl (by decide)) ?_)
  refine list_nil ?_
  refine hK1 _ ?_; clear hK1 K1
  refine code_seq (fun K2 hK2 => ?_)
  refine code_region ?_
  refine list_cons rfl (op_q (q_move rfl (by decide)) ?_)
  refine list_cons rfl (op_makeFunc (xs := [.tmp 7, .tmp 5, .tmp 6]) rfl rfl rfl (by decide) (by decide) rfl ?_)
  refine list_cons rfl (op_call _ (containsF_c l 66 [.clo 52 []] [.ptr [.int .i64 c], .ptr [.int .i64 d]] (fun v => farC v c < d) hl (fun j hj => staysSpread1_c _ c d (hv j hj) hc)) rfl rfl (by decide) (by decide) (by decide) rfl ?_)
  rintro _ rfl
  refine list_cons rfl (op_q (by first | exact q_notd rfl (by decide) | exact q_not rfl (by decide)) ?_)
  refine list_cons rfl (op_q (q_assign rfl (by decide)) ?_)
  refine list_nil ?_
  refine hK2 _ ?_; clear hK2 K2
  refine codeT.imp (σ' := [(0, _), (1, _), (2, _), (3, _), (5, _), (6, _), (7, _), (8, _)]) ?_ (imp_covers ⟨rfl, rfl, rfl, rfl, rfl, rfl, rfl, rfl, trivial⟩)
  refine code_ret ?_
  refine ends_ret (cs := []) rfl rfl rfl rfl trivial ?_
  congr 3
  refine decide_eq_decide.mpr ?_
  unfold okA
  rw [List.any_eq_true, List.all_eq_true]
  constructor
  · intro h v hv
    exact decide_eq_true (Int.not_lt.1 fun hlt => h ⟨v, hv, decide_eq_true hlt⟩)
  · rintro h ⟨v, hv, hlt⟩
    exact absurd (of_decide_eq_true hlt) (Int.not_lt.2 (of_decide_eq_true (h v hv)))

set_option maxRecDepth 4000 in
theorem impl_GreedyCode (d m : Int) : PCalls Try.prog 40 [.int .i64 d, .int .i64 m] (· = [.own 0 3 1 (if (1 ≤ d ∧ d ≤ 7) ∧ 1 ≤ m ∧ m ≤ 12 then grK d m 128 else []).length ((if (1 ≤ d ∧ d ≤ 7) ∧ 1 ≤ m ∧ m ≤ 12 then grK d m 128 else []).map (.int .i64)), .val (.bool (decide ((1 ≤ d ∧ d ≤ 7) ∧ 1 ≤ m ∧ m ≤ 12)))]) := by
  refine pcalls_of_code (n := 40) az Try.func40 (by kernel_rfl) rfl rfl (Nat.le_of_ble_eq_true rfl) (by intro t u h; simp [Try.f40] at h) ?_
  refine code_seq (fun K1 hK1 => ?_)
  refine code_region ?_
  refine list_cons rfl (op_q (q_assign rfl (by decide)) ?_)
  refine list_cons rfl (op_q (q_assign rfl (by decide)) ?_)
  refine list_nil ?_
  refine hK1 _ ?_; clear hK1 K1
  refine code_seq (fun K2 hK2 => ?_)
  refine code_seq (fun K3 hK3 => ?_)
  refine code_region ?_
  refine list_cons rfl (op_q (q_move rfl (by decide)) ?_)
  refine list_cons rfl (op_call _ (impl_isDistance _) rfl rfl (by decide) (by decide) (by decide) rfl ?_)
  rintro _ rfl
  refine list_cons rfl (op_q (by first | exact q_notd rfl (by decide) | exact q_not rfl (by decide)) ?_)
  refine list_cons rfl (op_q (q_move rfl (by decide)) ?_)
  refine list_guard_d rfl rfl rfl rfl (by decide) rfl (by decide) (fun h1 => ?_) (fun h1 => ?_)
  · simp only [Bool.false_eq_true, if_true, if_false, Decidable.not_not] at h1
    refine id (op_q (q_move rfl (by decide)) ?_)
    refine list_guard_y rfl rfl rfl rfl (by decide) rfl ?_
    refine id (op_q (q_lt rfl rfl (by decide)) ?_)
    refine list_cons rfl (op_q (q_pick rfl rfl (by decide)) ?_)
    refine list_cons rfl (op_q (q_move rfl (by decide)) ?_)
    refine list_guard_d rfl rfl rfl rfl (by decide) rfl (by decide) (fun h2 => ?_) (fun h2 => ?_)
    · simp only [Bool.false_eq_true, if_true, if_false, Decidable.not_not] at h2
      refine id (op_q (q_move rfl (by decide)) ?_)
      refine list_guard_y rfl rfl rfl rfl (by decide) rfl ?_
      refine id (op_q (q_gt rfl rfl (by decide)) ?_)
      refine list_cons rfl (op_q (q_pick rfl rfl (by decide)) ?_)
      refine list_nil ?_
      refine hK3 _ ?_; clear hK3 K3
      refine codeT.imp (σ' := [(0, _), (1, _), (4, _), (5, _), (18, _)]) ?_ (imp_covers ⟨rfl, rfl, rfl, rfl, rfl, trivial⟩)
      refine code_cond_d rfl (fun h3 => ?_) (fun h3 => ?_)
      · skip
        (try simp only [Decidable.not_not] at h3)
        refine code_seq (fun K4 hK4 => ?_)
        refine code_region ?_
        refine list_cons rfl (op_buildSlice sl_22 (parts := []) rfl rfl rfl (by decide) (by decide) (by decide) rfl ?_)
        refine list_cons rfl (op_q (q_assign rfl (by decide)) ?_)
        refine list_cons rfl (op_q (q_assign rfl (by decide)) ?_)
        refine list_nil ?_
        refine hK4 _ ?_; clear hK4 K4
        refine code_ret ?_
        refine then_r ?_; clear hK2 K2
        refine ends_ret (cs := []) rfl rfl rfl rfl trivial ?_
        first
          | (have e : ¬ ((1 ≤ d ∧ d ≤ 7) ∧ 1 ≤ m ∧ m ≤ 12) := fun e => absurd e.1 (by assumption)
             simp only [if_neg e, decide_eq_false e]; rfl)
          | (have e : ¬ ((1 ≤ d ∧ d ≤ 7) ∧ 1 ≤ m ∧ m ≤ 12) := fun e => absurd e.2 (by omega)
             simp only [if_neg e, decide_eq_false e]; rfl)
          | (rw [show t21.toNat = 128 by omega] at hk
             simp only [if_pos hG, decide_eq_true hG, ← hk])
      · skip
        (try simp only [Decidable.not_not] at h3)
        refine code_skip ?_
        refine hK2 _ ?_; clear hK2 K2
        refine code_seq (fun K5 hK5 => ?_)
        refine code_region ?_
        refine list_cons rfl (op_buildSlice sl_22 (parts := []) rfl rfl rfl (by decide) (by decide) (by decide) rfl ?_)
        refine list_cons rfl (op_q (q_assign rfl (by decide)) ?_)
        refine list_nil ?_
        refine hK5 _ ?_; clear hK5 K5
        refine code_seq (fun K6 hK6 => ?_)
        refine code_seq (fun K7 hK7 => ?_)
        refine code_region ?_
        refine list_cons rfl (op_q (q_move rfl (by decide)) ?_)
        refine list_nil ?_
        refine hK7 _ ?_; clear hK7 K7
        refine code_block ?_
        refine code_loop (X := PV × Bool × Nat × List PV × Int) (fun x => [(0, .val (.int .i64 d)), (1, .val (.int .i64 m)), (4, .val x.1), (5, .val (.bool x.2.1)), (6, .own 20 3 1 x.2.2.1 x.2.2.2.1), (21, .val (.int .i64 x.2.2.2.2))]) (fun x => ((1 ≤ d ∧ d ≤ 7) ∧ 1 ≤ m ∧ m ≤ 12) ∧ 0 ≤ x.2.2.2.2 ∧ x.2.2.2.2 ≤ 128 ∧ ∃ L : List Int, x.2.2.1 = L.length ∧ x.2.2.2.1 = L.map (.int .i64) ∧ L = grK d m x.2.2.2.2.toNat) (fun x => (128 - x.2.2.2.2).toNat) (_, _, _, _, _) (imp_covers ⟨rfl, rfl, rfl, rfl, rfl, rfl, trivial⟩) ?_ ?_
        · (try dsimp only)
          exact ⟨⟨by omega, by omega, by omega⟩, by omega, by omega, [], rfl, rfl, rfl⟩
        · intro x hI
          obtain ⟨t4_p, t5, code_n, code_c, t21⟩ := x
          replace hI : ((1 ≤ d ∧ d ≤ 7) ∧ 1 ≤ m ∧ m ≤ 12) ∧ 0 ≤ t21 ∧ t21 ≤ 128 ∧ ∃ L : List Int, code_n = L.length ∧ code_c = L.map (.int .i64) ∧ L = grK d m t21.toNat := hI
          show codeT _ _ _ [(0, .val (.int .i64 d)), (1, .val (.int .i64 m)), (4, .val t4_p), (5, .val (.bool t5)), (6, .own 20 3 1 code_n code_c), (21, .val (.int .i64 t21))] _
          obtain ⟨hG, i1, i2, L, rfl, rfl, hk⟩ := hI
          have hd : ((t21.toNat : Nat) : Int) = t21 := Int.toNat_of_nonneg (by omega)
          have hL := grK_len d (m := m) (by omega) t21.toNat
          rw [← hk] at hL
          have hcl : ∀ j, j < L.length → 0 ≤ L.getD j 0 ∧ L.getD j 0 ≤ 127 := fun j hj => by subst hk; exact grK_at d m (by omega) hj
          refine code_seq (fun K8 hK8 => ?_)
          refine code_region ?_
          refine list_cons rfl (op_q (q_lt rfl rfl (by decide)) ?_)
          refine list_nil ?_
          refine hK8 _ ?_; clear hK8 K8
          refine code_seq (fun K9 hK9 => ?_)
          refine code_cond_d rfl (fun h4 => ?_) (fun h4 => ?_)
          · skip
            (try simp only [Decidable.not_not] at h4)
            refine code_skip ?_
            refine hK9 _ ?_; clear hK9 K9
            refine code_seq (fun K10 hK10 => ?_)
            refine code_block ?_
            refine code_seq (fun K11 hK11 => ?_)
            refine code_region ?_
            refine list_cons rfl (op_q (q_move rfl (by decide)) ?_)
            refine list_cons rfl (op_q (q_assign rfl (by decide)) ?_)
            refine list_nil ?_
            refine hK11 _ ?_; clear hK11 K11
            refine code_seq (fun K12 hK12 => ?_)
            refine code_region ?_
            refine list_cons rfl (op_q (q_move rfl (by decide)) ?_)
            refine list_cons rfl (op_q (q_len_sl Try.underlying22 rfl rfl (by decide)) ?_)
            refine list_cons rfl (op_q (q_move rfl (by decide)) ?_)
            refine list_cons rfl (op_q (q_lt rfl rfl (by decide)) ?_)
            refine list_cons rfl (op_q (q_move rfl (by decide)) ?_)
            refine list_guard_d rfl rfl rfl rfl (by decide) rfl (by decide) (fun h5 => ?_) (fun h5 => ?_)
            · simp only [Bool.false_eq_true, if_true, if_false, Decidable.not_not] at h5
              refine id (op_q (q_move rfl (by decide)) ?_)
              refine list_guard_y rfl rfl rfl rfl (by decide) rfl ?_
              refine id (op_q (q_move rfl (by decide)) ?_)
              refine list_guard_y rfl rfl rfl rfl (by decide) rfl ?_
              refine id (op_q (q_move rfl (by decide)) ?_)
              refine list_guard_y rfl rfl rfl rfl (by decide) rfl ?_
              refine id (op_call _ (impl_staysSpread _ _ _ (by omega) (by assumption) (by omega)) rfl rfl (by decide) (by decide) (by decide) rfl ?_)
              rintro _ rfl
              refine list_cons rfl (op_q (q_pick rfl rfl (by decide)) ?_)
              refine list_nil ?_
              refine hK12 _ ?_; clear hK12 K12
              refine codeT.imp (σ' := [(0, _), (1, _), (4, _), (5, _), (6, _), (7, _), (21, _), (33, _)]) ?_ (imp_covers ⟨rfl, rfl, rfl, rfl, rfl, rfl, rfl, rfl, trivial⟩)
              refine code_cond_d rfl (fun h6 => ?_) (fun h6 => ?_)
              · skip
                (try simp only [Decidable.not_not] at h6)
                refine code_region ?_
                refine list_cons rfl (op_q (q_move rfl (by decide)) ?_)
                refine list_cons rfl (op_q (q_move rfl (by decide)) ?_)
                refine list_cons rfl (op_buildSlice sl_22 (parts := [(0, .tmp 35)]) rfl rfl rfl (by decide) (by decide) (by decide) rfl ?_)
                refine list_cons rfl (op_append_gen sl_22 (l := 20) (.inl rfl) rfl rfl (l2 := none) (.inl ⟨rfl, (by first | rfl | exact flat_map _ (fun _ => rfl) _)⟩) (by first | rfl | simp | omega) (by omega) (by decide) (by decide) (by decide) ?_)
                refine list_cons rfl (op_q (q_assign rfl (by decide)) ?_)
                refine list_nil ?_
                refine blk_n ?_
                refine hK10 _ ?_; clear hK10 K10
                refine codeT.imp (σ' := [(0, _), (1, _), (4, _), (5, _), (6, _), (7, _), (21, _)]) ?_ (imp_covers ⟨rfl, rfl, rfl, rfl, rfl, rfl, rfl, trivial⟩)
                refine code_region ?_
                refine list_cons rfl (op_q (by first | exact q_addI rfl rfl (by decide) (by omega) (by omega) | exact q_ib rfl rfl rfl (by decide)) ?_)
                refine list_cons rfl (op_q (q_move rfl (by decide)) ?_)
                refine list_nil ?_
                refine then_n ⟨(_, _, _, _, _), imp_covers ⟨rfl, rfl, rfl, rfl, rfl, rfl, trivial⟩, ?_, ?_⟩
                · (try dsimp only)
                  have hx := h6
                  first
                    | (refine ⟨hG, by omega, by omega, L ++ [t21], by simp, by simp; rfl, ?_⟩
                       rw [show (t21 + 1).toNat = t21.toNat + 1 by omega, grK, ← hk, hd, if_pos ⟨by omega, hx⟩]; done)
                    | (refine ⟨hG, by omega, by omega, L, rfl, rfl, ?_⟩
                       rw [show (t21 + 1).toNat = t21.toNat + 1 by omega, grK, ← hk, hd, if_neg (fun e => hx e.2)]; done)
                    | (refine ⟨hG, by omega, by omega, L, rfl, rfl, ?_⟩
                       rw [show (t21 + 1).toNat = t21.toNat + 1 by omega, grK, ← hk, hd, if_neg (fun e => absurd e.1 (by omega))])
                · (try dsimp only); omega
              · skip
                (try simp only [Decidable.not_not] at h6)
                refine code_skip ?_
                refine blk_n ?_
                refine hK10 _ ?_; clear hK10 K10
                refine code_region ?_
                refine list_cons rfl (op_q (by first | exact q_addI rfl rfl (by decide) (by omega) (by omega) | exact q_ib rfl rfl rfl (by decide)) ?_)
                refine list_cons rfl (op_q (q_move rfl (by decide)) ?_)
                refine list_nil ?_
                refine then_n ⟨(_, _, _, _, _), imp_covers ⟨rfl, rfl, rfl, rfl, rfl, rfl, trivial⟩, ?_, ?_⟩
                · (try dsimp only)
                  have hx := h6
                  first
                    | (refine ⟨hG, by omega, by omega, L ++ [t21], by simp, by simp; rfl, ?_⟩
                       rw [show (t21 + 1).toNat = t21.toNat + 1 by omega, grK, ← hk, hd, if_pos ⟨by omega, hx⟩]; done)
                    | (refine ⟨hG, by omega, by omega, L, rfl, rfl, ?_⟩
                       rw [show (t21 + 1).toNat = t21.toNat + 1 by omega, grK, ← hk, hd, if_neg (fun e => hx e.2)]; done)
                    | (refine ⟨hG, by omega, by omega, L, rfl, rfl, ?_⟩
                       rw [show (t21 + 1).toNat = t21.toNat + 1 by omega, grK, ← hk, hd, if_neg (fun e => absurd e.1 (by omega))])
                · (try dsimp only); omega
            · simp only [Bool.false_eq_true, if_true, if_false, Decidable.not_not] at h5
              refine list_guard_n rfl rfl rfl rfl (by decide) rfl ?_
              refine list_guard_n rfl rfl rfl rfl (by decide) rfl ?_
              refine list_guard_n rfl rfl rfl rfl (by decide) rfl ?_
              refine list_cons rfl (op_q (q_pick rfl rfl (by decide)) ?_)
              refine list_nil ?_
              refine hK12 _ ?_; clear hK12 K12
              refine codeT.imp (σ' := [(0, _), (1, _), (4, _), (5, _), (6, _), (7, _), (21, _), (33, _)]) ?_ (imp_covers ⟨rfl, rfl, rfl, rfl, rfl, rfl, rfl, rfl, trivial⟩)
              refine code_cond_f rfl ?_
              refine code_skip ?_
              refine blk_n ?_
              refine hK10 _ ?_; clear hK10 K10
              refine code_region ?_
              refine list_cons rfl (op_q (by first | exact q_addI rfl rfl (by decide) (by omega) (by omega) | exact q_ib rfl rfl rfl (by decide)) ?_)
              refine list_cons rfl (op_q (q_move rfl (by decide)) ?_)
              refine list_nil ?_
              refine then_n ⟨(_, _, _, _, _), imp_covers ⟨rfl, rfl, rfl, rfl, rfl, rfl, trivial⟩, ?_, ?_⟩
              · (try dsimp only)
                have hx := h5
                first
                  | (refine ⟨hG, by omega, by omega, L ++ [t21], by simp, by simp; rfl, ?_⟩
                     rw [show (t21 + 1).toNat = t21.toNat + 1 by omega, grK, ← hk, hd, if_pos ⟨by omega, hx⟩]; done)
                  | (refine ⟨hG, by omega, by omega, L, rfl, rfl, ?_⟩
                     rw [show (t21 + 1).toNat = t21.toNat + 1 by omega, grK, ← hk, hd, if_neg (fun e => hx e.2)]; done)
                  | (refine ⟨hG, by omega, by omega, L, rfl, rfl, ?_⟩
                     rw [show (t21 + 1).toNat = t21.toNat + 1 by omega, grK, ← hk, hd, if_neg (fun e => absurd e.1 (by omega))])
              · (try dsimp only); omega
          · skip
            (try simp only [Decidable.not_not] at h4)
            refine code_exit ?_
            refine then_x ?_; clear hK9 K9
            refine then_x ?_
            refine blk_hit ?_
            refine hK6 _ ?_; clear hK6 K6
            refine code_seq (fun K13 hK13 => ?_)
            refine code_region ?_
            refine list_cons rfl (op_q (q_move rfl (by decide)) ?_)
            refine list_cons rfl (op_q (q_assign rfl (by decide)) ?_)
            refine list_cons rfl (op_q (q_assign rfl (by decide)) ?_)
            refine list_nil ?_
            refine hK13 _ ?_; clear hK13 K13
            refine code_ret ?_
            refine ends_ret (cs := []) rfl rfl rfl rfl trivial ?_
            first
              | (have e : ¬ ((1 ≤ d ∧ d ≤ 7) ∧ 1 ≤ m ∧ m ≤ 12) := fun e => absurd e.1 (by assumption)
                 simp only [if_neg e, decide_eq_false e]; rfl)
              | (have e : ¬ ((1 ≤ d ∧ d ≤ 7) ∧ 1 ≤ m ∧ m ≤ 12) := fun e => absurd e.2 (by omega)
                 simp only [if_neg e, decide_eq_false e]; rfl)
              | (rw [show t21.toNat = 128 by omega] at hk
                 simp only [if_pos hG, decide_eq_true hG, ← hk])
    · simp only [Bool.false_eq_true, if_true, if_false, Decidable.not_not] at h2
      refine list_guard_n rfl rfl rfl rfl (by decide) rfl ?_
      refine list_cons rfl (op_q (q_pick rfl rfl (by decide)) ?_)
      refine list_nil ?_
      refine hK3 _ ?_; clear hK3 K3
      refine codeT.imp (σ' := [(0, _), (1, _), (4, _), (5, _), (18, _)]) ?_ (imp_covers ⟨rfl, rfl, rfl, rfl, rfl, trivial⟩)
      refine code_cond_t rfl ?_
      refine code_seq (fun K14 hK14 => ?_)
      refine code_region ?_
      refine list_cons rfl (op_buildSlice sl_22 (parts := []) rfl rfl rfl (by decide) (by decide) (by decide) rfl ?_)
      refine list_cons rfl (op_q (q_assign rfl (by decide)) ?_)
      refine list_cons rfl (op_q (q_assign rfl (by decide)) ?_)
      refine list_nil ?_
      refine hK14 _ ?_; clear hK14 K14
      refine code_ret ?_
      refine then_r ?_; clear hK2 K2
      refine ends_ret (cs := []) rfl rfl rfl rfl trivial ?_
      first
        | (have e : ¬ ((1 ≤ d ∧ d ≤ 7) ∧ 1 ≤ m ∧ m ≤ 12) := fun e => absurd e.1 (by assumption)
           simp only [if_neg e, decide_eq_false e]; rfl)
        | (have e : ¬ ((1 ≤ d ∧ d ≤ 7) ∧ 1 ≤ m ∧ m ≤ 12) := fun e => absurd e.2 (by omega)
           simp only [if_neg e, decide_eq_false e]; rfl)
        | (rw [show t21.toNat = 128 by omega] at hk
           simp only [if_pos hG, decide_eq_true hG, ← hk])
  · simp only [Bool.false_eq_true, if_true, if_false, Decidable.not_not] at h1
    refine list_guard_n rfl rfl rfl rfl (by decide) rfl ?_
    refine list_cons rfl (op_q (q_pick rfl rfl (by decide)) ?_)
    refine list_cons rfl (op_q (q_move rfl (by decide)) ?_)
    refine list_guard_n rfl rfl rfl rfl (by decide) rfl ?_
    refine list_guard_n rfl rfl rfl rfl (by decide) rfl ?_
    refine list_cons rfl (op_q (q_pick rfl rfl (by decide)) ?_)
    refine list_nil ?_
    refine hK3 _ ?_; clear hK3 K3
    refine code_cond_t rfl ?_
    refine code_seq (fun K15 hK15 => ?_)
    refine code_region ?_
    refine list_cons rfl (op_buildSlice sl_22 (parts := []) rfl rfl rfl (by decide) (by decide) (by decide) rfl ?_)
    refine list_cons rfl (op_q (q_assign rfl (by decide)) ?_)
    refine list_cons rfl (op_q (q_assign rfl (by decide)) ?_)
    refine list_nil ?_
    refine hK15 _ ?_; clear hK15 K15
    refine codeT.imp (σ' := [(0, _), (1, _), (4, _), (5, _)]) ?_ (imp_covers ⟨rfl, rfl, rfl, rfl, trivial⟩)
    refine code_ret ?_
    refine then_r ?_; clear hK2 K2
    refine ends_ret (cs := []) rfl rfl rfl rfl trivial ?_
    first
      | (have e : ¬ ((1 ≤ d ∧ d ≤ 7) ∧ 1 ≤ m ∧ m ≤ 12) := fun e => absurd e.1 (by assumption)
         simp only [if_neg e, decide_eq_false e]; rfl)
      | (have e : ¬ ((1 ≤ d ∧ d ≤ 7) ∧ 1 ≤ m ∧ m ≤ 12) := fun e => absurd e.2 (by omega)
         simp only [if_neg e, decide_eq_false e]; rfl)
      | (rw [show t21.toNat = 128 by omega] at hk
         simp only [if_pos hG, decide_eq_true hG, ← hk])

end Go.Proofs.Ytaobknhblnlegaa
