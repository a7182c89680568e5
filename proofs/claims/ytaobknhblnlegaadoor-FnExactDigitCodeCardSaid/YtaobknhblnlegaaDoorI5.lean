/- Contracts of functions, walked over the pure layer; each says for which arguments. -/
import Derived.Test.YtaobknhblnlegaaDoorI5Ty
import Derived.Test.YtaobknhblnlegaaDoorTf
import Derived.Test.YtaobknhblnlegaaDoorSp
import Derived.Test.YtaobknhblnlegaaDoorS4
import Derived.Test.YtaobknhblnlegaaDoorS4c
import Derived.Test.YtaobknhblnlegaaDoorShelf
import Derived.Test.YtaobknhblnlegaaDoorIm
import Derived.Test.YtaobknhblnlegaaDoorS5
import Derived.Test.YtaobknhblnlegaaDoorI4c
namespace Go.Proofs.YtaobknhblnlegaaDoor
open Go.RowKit I5Ty
set_option linter.unusedVariables false
set_option linter.unusedSimpArgs false

theorem fillC (l : List Int) (f : Int → Int) {k : Nat} (h : k < l.length) : putAt (((l.take k).map f ++ List.replicate (l.length - k) 0).map (PV.int .i64)) (k * 1) [PV.int .i64 (f (l.getD k 0))] = (((l.take (k + 1)).map f ++ List.replicate (l.length - (k + 1)) 0).map (PV.int .i64)) := by
  rw [put_map1 (PV.int .i64) _ (by simp; omega), map_take f 0 l h, List.set_append_right _ _ (by simp; omega), show k - ((l.take k).map f).length = 0 by simp; omega, show l.length - k = l.length - (k + 1) + 1 by omega, List.replicate_succ, List.set_cons_zero]
  simp

set_option maxRecDepth 4000 in
theorem impl_DigitCode (l : List Int) (hl : l.length ≤ 4611686018427387904) : PCalls Tryd.prog 6 [.sl l.length (l.map (.int .i64))] (· = [.own 0 3 1 (if DigP l then dcd l else []).length ((if DigP l then dcd l else []).map (.int .i64)), .val (.bool (decide (DigP l)))]) := by
  refine pcalls_of_code (n := 42) az Tryd.func6 (by kernel_rfl) rfl rfl (Nat.le_of_ble_eq_true rfl) (by intro t u h; simp [Tryd.f6] at h) ?_
  refine code_seq (fun K1 hK1 => ?_)
  refine code_region ?_
  refine list_cons rfl (op_q (q_assign rfl (by decide)) ?_)
  refine list_cons rfl (op_q (q_assign rfl (by decide)) ?_)
  refine list_nil ?_
  refine hK1 _ ?_; clear hK1 K1
  refine code_seq (fun K2 hK2 => ?_)
  refine code_seq (fun K3 hK3 => ?_)
  refine code_region ?_
  refine list_cons rfl (op_q (q_move rfl (by decide)) ?_)
  refine list_cons rfl (op_call _ (impl_isOrder _ (by omega)) rfl rfl (by decide) (by decide) (by decide) rfl ?_)
  rintro _ rfl
  refine list_cons rfl (op_q (by first | exact q_notd rfl (by decide) | exact q_not rfl (by decide)) ?_)
  refine list_cons rfl (op_q (q_move rfl (by decide)) ?_)
  refine list_guard_d rfl rfl rfl rfl (by decide) rfl (by decide) (fun h1 => ?_) (fun h1 => ?_)
  · simp only [Bool.false_eq_true, if_true, if_false, Decidable.not_not] at h1
    refine id (op_q (q_move rfl (by decide)) ?_)
    refine list_guard_y rfl rfl rfl rfl (by decide) rfl ?_
    refine id (op_q (q_len_sl Tryd.underlying22 rfl rfl (by decide)) ?_)
    refine list_guard_y rfl rfl rfl rfl (by decide) rfl ?_
    refine id (op_q (q_eq rfl rfl (by decide)) ?_)
    refine list_cons rfl (op_q (q_pick rfl rfl (by decide)) ?_)
    refine list_nil ?_
    refine hK3 _ ?_; clear hK3 K3
    refine codeT.imp (σ' := [(0, _), (2, _), (3, _), (16, _)]) ?_ (imp_covers ⟨rfl, rfl, rfl, rfl, trivial⟩)
    refine code_cond_d rfl (fun h2 => ?_) (fun h2 => ?_)
    · skip
      (try simp only [Decidable.not_not] at h2)
      refine code_seq (fun K4 hK4 => ?_)
      refine code_region ?_
      refine list_cons rfl (op_buildSlice sl_22 (parts := []) rfl rfl rfl (by decide) (by decide) (by decide) rfl ?_)
      refine list_cons rfl (op_q (q_assign rfl (by decide)) ?_)
      refine list_cons rfl (op_q (q_assign rfl (by decide)) ?_)
      refine list_nil ?_
      refine hK4 _ ?_; clear hK4 K4
      refine code_ret ?_
      refine then_r ?_; clear hK2 K2
      refine ends_ret (cs := []) rfl rfl rfl rfl trivial ?_
      first
        | (have e : DigP l := hD
           have hi : t23.toNat = l.length := by omega
           simp only [if_pos e, decide_eq_true e, dcd_len, hi, List.take_length, Nat.sub_self, List.replicate_zero, List.append_nil]; rfl)
        | (exact absurd (hdg (by omega)) (by assumption))
        | (have e : ¬ DigP l := fun e => absurd e.2 (by assumption)
           simp only [if_neg e, decide_eq_false e]; rfl)
        | (have e : ¬ DigP l := fun e => by have := e.1; omega
           simp only [if_neg e, decide_eq_false e]; rfl)
    · skip
      (try simp only [Decidable.not_not] at h2)
      refine code_skip ?_
      refine hK2 _ ?_; clear hK2 K2
      refine code_seq (fun K5 hK5 => ?_)
      refine code_region ?_
      refine list_cons rfl (op_q (q_move rfl (by decide)) ?_)
      refine list_cons rfl (op_q (q_len_sl Tryd.underlying22 rfl rfl (by decide)) ?_)
      refine list_cons rfl (op_make sl_22 rfl rfl (by have h12 := ord_len (by assumption : ordK l l.length = true); omega) (by decide) (by decide) rfl ?_)
      refine list_cons rfl (op_q (q_assign rfl (by decide)) ?_)
      refine list_nil ?_
      refine hK5 _ ?_; clear hK5 K5
      refine code_seq (fun K6 hK6 => ?_)
      refine code_seq (fun K7 hK7 => ?_)
      refine code_region ?_
      refine list_cons rfl (op_q (q_move rfl (by decide)) ?_)
      refine list_cons rfl (op_q (q_len_sl Tryd.underlying22 rfl rfl (by decide)) ?_)
      refine list_cons rfl (op_q (q_move rfl (by decide)) ?_)
      refine list_nil ?_
      refine hK7 _ ?_; clear hK7 K7
      refine code_block ?_
      refine code_loop (X := PV × Bool × Nat × List PV × Int) (fun x => [(0, .par 0 (.sl l.length (l.map (.int .i64)))), (2, .val x.1), (3, .val (.bool x.2.1)), (4, .own 20 3 1 x.2.2.1 x.2.2.2.1), (21, .par 0 (.sl l.length (l.map (.int .i64)))), (22, .val (.int .i64 l.length)), (23, .val (.int .i64 x.2.2.2.2))]) (fun x => DigP l ∧ 0 ≤ x.2.2.2.2 ∧ x.2.2.2.2 ≤ l.length ∧ x.2.2.1 = l.length ∧ x.2.2.2.1 = ((l.take x.2.2.2.2.toNat).map digC ++ List.replicate (l.length - x.2.2.2.2.toNat) 0).map (.int .i64)) (fun x => (l.length - x.2.2.2.2).toNat) (_, _, _, _, _) (imp_covers ⟨rfl, rfl, rfl, rfl, rfl, rfl, rfl, trivial⟩) ?_ ?_
      · (try dsimp only)
        refine ⟨⟨by omega, by assumption⟩, by omega, by omega, rfl, ?_⟩
        exact zeros_map1 (PV.int .i64) 0 l.length
      · intro x hI
        obtain ⟨t2_p, t3, code_n, code_c, t23⟩ := x
        replace hI : DigP l ∧ 0 ≤ t23 ∧ t23 ≤ l.length ∧ code_n = l.length ∧ code_c = ((l.take t23.toNat).map digC ++ List.replicate (l.length - t23.toNat) 0).map (.int .i64) := hI
        show codeT _ _ _ [(0, .par 0 (.sl l.length (l.map (.int .i64)))), (2, .val t2_p), (3, .val (.bool t3)), (4, .own 20 3 1 code_n code_c), (21, .par 0 (.sl l.length (l.map (.int .i64)))), (22, .val (.int .i64 l.length)), (23, .val (.int .i64 t23))] _
        obtain ⟨hD, i1, i2, rfl, rfl⟩ := hI
        have hlt := ord_len hD.2
        have hdg := fun h => (ordK_at hD.2 (j := t23.toNat) h).1
        refine code_seq (fun K8 hK8 => ?_)
        refine code_region ?_
        refine list_cons rfl (op_q (q_lt rfl rfl (by decide)) ?_)
        refine list_nil ?_
        refine hK8 _ ?_; clear hK8 K8
        refine code_seq (fun K9 hK9 => ?_)
        refine code_cond_d rfl (fun h3 => ?_) (fun h3 => ?_)
        · skip
          (try simp only [Decidable.not_not] at h3)
          refine code_skip ?_
          refine hK9 _ ?_; clear hK9 K9
          refine code_seq (fun K10 hK10 => ?_)
          refine code_block ?_
          refine code_seq (fun K11 hK11 => ?_)
          refine code_region ?_
          refine list_cons rfl (op_q (q_move rfl (by decide)) ?_)
          refine list_cons rfl (op_q (q_indexAddr_rd sl_22 rfl (.inl ⟨_, rfl, rfl⟩) rfl (by omega) (by omega) (by decide)) ?_)
          refine list_cons rfl (op_q (q_load_rd one_3 rfl (.inl ⟨_, (by first | rfl | exact congrArg (SV.rpar _) (drop_map1 _ 0 _ (by first | omega | (simp; omega)))), rfl⟩) (by decide)) ?_)
          refine list_cons rfl (op_q (q_assign rfl (by decide)) ?_)
          refine list_cons rfl (op_q (q_assign rfl (by decide)) ?_)
          refine list_nil ?_
          refine hK11 _ ?_; clear hK11 K11
          refine code_seq (fun K12 hK12 => ?_)
          refine code_region ?_
          refine list_cons rfl (op_q (q_move rfl (by decide)) ?_)
          refine list_cons rfl (op_call _ (impl_CellOf _) rfl rfl (by decide) (by decide) (by decide) rfl ?_)
          rintro _ rfl
          refine list_cons rfl (op_q (q_move rfl (by decide)) ?_)
          refine list_cons rfl (op_q (q_extract rfl rfl (by decide)) ?_)
          refine list_cons rfl (op_q (q_extract rfl rfl (by decide)) ?_)
          refine list_cons rfl (op_q (q_assign rfl (by decide)) ?_)
          refine list_cons rfl (op_q (q_assign rfl (by decide)) ?_)
          refine list_nil ?_
          refine hK12 _ ?_; clear hK12 K12
          refine codeT.imp (σ' := [(0, _), (2, _), (3, _), (4, _), (5, _), (6, _), (7, _), (8, _), (21, _), (22, _), (23, _)]) ?_ (imp_covers ⟨rfl, rfl, rfl, rfl, rfl, rfl, rfl, rfl, rfl, rfl, rfl, trivial⟩)
          refine code_seq (fun K13 hK13 => ?_)
          refine code_seq (fun K14 hK14 => ?_)
          refine code_region ?_
          refine list_cons rfl (op_q (q_move rfl (by decide)) ?_)
          refine list_cons rfl (op_q (by first | exact q_notd rfl (by decide) | exact q_not rfl (by decide)) ?_)
          refine list_nil ?_
          refine hK14 _ ?_; clear hK14 K14
          refine code_cond_d rfl (fun h4 => ?_) (fun h4 => ?_)
          · skip
            (try simp only [Decidable.not_not] at h4)
            refine code_seq (fun K15 hK15 => ?_)
            refine code_region ?_
            refine list_cons rfl (op_buildSlice sl_22 (parts := []) rfl rfl rfl (by decide) (by decide) (by decide) rfl ?_)
            refine list_cons rfl (op_q (q_assign rfl (by decide)) ?_)
            refine list_cons rfl (op_q (q_assign rfl (by decide)) ?_)
            refine list_nil ?_
            refine hK15 _ ?_; clear hK15 K15
            refine code_ret ?_
            refine then_r ?_; clear hK13 K13
            refine blk_r ?_
            refine then_r ?_; clear hK10 K10
            refine then_r ?_
            refine blk_r ?_
            refine then_r ?_; clear hK6 K6
            refine ends_ret (cs := []) rfl rfl rfl rfl trivial ?_
            first
              | (have e : DigP l := hD
                 have hi : t23.toNat = l.length := by omega
                 simp only [if_pos e, decide_eq_true e, dcd_len, hi, List.take_length, Nat.sub_self, List.replicate_zero, List.append_nil]; rfl)
              | (exact absurd (hdg (by omega)) (by assumption))
              | (have e : ¬ DigP l := fun e => absurd e.2 (by assumption)
                 simp only [if_neg e, decide_eq_false e]; rfl)
              | (have e : ¬ DigP l := fun e => by have := e.1; omega
                 simp only [if_neg e, decide_eq_false e]; rfl)
          · skip
            (try simp only [Decidable.not_not] at h4)
            refine code_skip ?_
            refine hK13 _ ?_; clear hK13 K13
            refine code_region ?_
            refine list_cons rfl (op_q (q_move rfl (by decide)) ?_)
            refine list_cons rfl (op_q (q_move rfl (by decide)) ?_)
            refine list_cons rfl (op_q (q_move rfl (by decide)) ?_)
            refine list_cons rfl (op_q (q_indexAddr_own sl_22 rfl rfl (by omega) (by omega) (by decide)) ?_)
            refine list_cons rfl (op_store (one_3).2 4 [4, 36] (by intro t ht; simp only [List.mem_cons, List.not_mem_nil, or_false] at ht; rcases ht with rfl | rfl <;> rfl) (.inl rfl) rfl rfl rfl rfl rfl rfl (by first | decide | omega | exact Nat.le_refl _ | (simp; done) | (simp; omega)) (by decide) rfl ?_)
            refine list_nil ?_
            refine blk_n ?_
            refine hK10 _ ?_; clear hK10 K10
            refine codeT.imp (σ' := [(0, _), (2, _), (3, _), (4, _), (5, _), (6, _), (7, _), (8, _), (21, _), (22, _), (23, _)]) ?_ (imp_covers ⟨rfl, rfl, rfl, rfl, rfl, rfl, rfl, rfl, rfl, rfl, rfl, trivial⟩)
            refine code_region ?_
            refine list_cons rfl (op_q (by first | exact q_addI rfl rfl (by decide) (by omega) (by omega) | exact q_ib rfl rfl rfl (by decide)) ?_)
            refine list_cons rfl (op_q (q_move rfl (by decide)) ?_)
            refine list_nil ?_
            refine then_n ⟨(_, _, _, _, _), imp_covers ⟨rfl, rfl, rfl, rfl, rfl, rfl, rfl, trivial⟩, ?_, ?_⟩
            · (try dsimp only)
              refine ⟨hD, by omega, by omega, rfl, ?_⟩
              have hd := hdg (by omega)
              rw [show (t23 + 1).toNat = t23.toNat + 1 by omega]
              simp only [if_pos hd]
              exact fillC l digC (by omega)
            · (try dsimp only); omega
        · skip
          (try simp only [Decidable.not_not] at h3)
          refine code_exit ?_
          refine then_x ?_; clear hK9 K9
          refine then_x ?_
          refine blk_hit ?_
          refine hK6 _ ?_; clear hK6 K6
          refine code_seq (fun K16 hK16 => ?_)
          refine code_region ?_
          refine list_cons rfl (op_q (q_move rfl (by decide)) ?_)
          refine list_cons rfl (op_q (q_assign rfl (by decide)) ?_)
          refine list_cons rfl (op_q (q_assign rfl (by decide)) ?_)
          refine list_nil ?_
          refine hK16 _ ?_; clear hK16 K16
          refine code_ret ?_
          refine ends_ret (cs := []) rfl rfl rfl rfl trivial ?_
          first
            | (have e : DigP l := hD
               have hi : t23.toNat = l.length := by omega
               simp only [if_pos e, decide_eq_true e, dcd_len, hi, List.take_length, Nat.sub_self, List.replicate_zero, List.append_nil]; rfl)
            | (exact absurd (hdg (by omega)) (by assumption))
            | (have e : ¬ DigP l := fun e => absurd e.2 (by assumption)
               simp only [if_neg e, decide_eq_false e]; rfl)
            | (have e : ¬ DigP l := fun e => by have := e.1; omega
               simp only [if_neg e, decide_eq_false e]; rfl)
  · simp only [Bool.false_eq_true, if_true, if_false, Decidable.not_not] at h1
    refine list_guard_n rfl rfl rfl rfl (by decide) rfl ?_
    refine list_guard_n rfl rfl rfl rfl (by decide) rfl ?_
    refine list_cons rfl (op_q (q_pick rfl rfl (by decide)) ?_)
    refine list_nil ?_
    refine hK3 _ ?_; clear hK3 K3
    refine code_cond_t rfl ?_
    refine code_seq (fun K17 hK17 => ?_)
    refine code_region ?_
    refine list_cons rfl (op_buildSlice sl_22 (parts := []) rfl rfl rfl (by decide) (by decide) (by decide) rfl ?_)
    refine list_cons rfl (op_q (q_assign rfl (by decide)) ?_)
    refine list_cons rfl (op_q (q_assign rfl (by decide)) ?_)
    refine list_nil ?_
    refine hK17 _ ?_; clear hK17 K17
    refine code_ret ?_
    refine then_r ?_; clear hK2 K2
    refine ends_ret (cs := []) rfl rfl rfl rfl trivial ?_
    first
      | (have e : DigP l := hD
         have hi : t23.toNat = l.length := by omega
         simp only [if_pos e, decide_eq_true e, dcd_len, hi, List.take_length, Nat.sub_self, List.replicate_zero, List.append_nil]; rfl)
      | (exact absurd (hdg (by omega)) (by assumption))
      | (have e : ¬ DigP l := fun e => absurd e.2 (by assumption)
         simp only [if_neg e, decide_eq_false e]; rfl)
      | (have e : ¬ DigP l := fun e => by have := e.1; omega
         simp only [if_neg e, decide_eq_false e]; rfl)

end Go.Proofs.YtaobknhblnlegaaDoor
