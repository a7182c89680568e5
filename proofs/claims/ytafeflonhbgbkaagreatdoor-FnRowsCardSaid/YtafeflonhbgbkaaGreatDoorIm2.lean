/- Contracts of functions, walked over the pure layer; each says for which arguments. -/
import Derived.Test.YtafeflonhbgbkaaGreatDoorIm2Ty
import Derived.Shelf.Strings.BuilderRune
import Derived.Lib.AppendIntMem
import Derived.Test.YtafeflonhbgbkaaGreatDoorTf
import Derived.Test.YtafeflonhbgbkaaGreatDoorSp
import Derived.Test.YtafeflonhbgbkaaGreatDoorShelf
import Derived.Test.YtafeflonhbgbkaaGreatDoorBl
import Derived.Test.YtafeflonhbgbkaaGreatDoorIm
import Derived.Test.YtafeflonhbgbkaaGreatDoorIt
namespace Go.Proofs.YtafeflonhbgbkaaGreatDoor
open Go.RowKit Im2Ty
set_option linter.unusedVariables false
set_option linter.unusedSimpArgs false

def digB (b : UInt8) : Int := digT.getD (b.toNat - 48) 0
theorem dec_row : ∀ n : Nat, (Lib.decDigits n).map digB = rowN n := by
  intro n
  induction n using Nat.strongRecOn with
  | _ n ih =>
    have key : ∀ d, d < 10 → digB (UInt8.ofNat (48 + d)) = digT.getD d 0 := by
      intro d hd
      unfold digB
      have : (UInt8.ofNat (48 + d)).toNat = 48 + d := by simp; omega
      rw [this, Nat.add_sub_cancel_left]
    by_cases h : n < 10
    · rw [Lib.decDigits_one h, rowN_lt h, List.map_cons, List.map_nil, key n h]
    · rw [Lib.decDigits, dif_neg h, rowN_ge h, List.map_append, ih (n / 10) (by omega), List.map_cons, List.map_nil, key _ (by omega)]
theorem dec_dig : ∀ n : Nat, ∀ b ∈ Lib.decDigits n, 48 ≤ b.toNat ∧ b.toNat ≤ 57 := by
  intro n
  induction n using Nat.strongRecOn with
  | _ n ih =>
    have key : ∀ d, d < 10 → 48 ≤ (UInt8.ofNat (48 + d)).toNat ∧ (UInt8.ofNat (48 + d)).toNat ≤ 57 := by
      intro d hd
      have : (UInt8.ofNat (48 + d)).toNat = 48 + d := by simp; omega
      rw [this]; omega
    by_cases h : n < 10
    · rw [Lib.decDigits_one h]
      intro b hb
      simp only [List.mem_singleton] at hb
      subst hb; exact key n h
    · rw [Lib.decDigits, dif_neg h]
      intro b hb
      rcases List.mem_append.1 hb with hb | hb
      · exact ih (n / 10) (by omega) b hb
      · simp only [List.mem_singleton] at hb
        subst hb; exact key _ (by omega)
theorem fmtN_eq {n : Int} (h0 : 0 ≤ n) (h1 : n ≤ 999999) : fmtN n = Lib.decDigits n.toNat := by
  unfold fmtN Lib.itoa
  rw [if_pos (by omega), if_neg (by omega)]
theorem fmtN_dig {n : Int} (h0 : 0 ≤ n) (h1 : n ≤ 999999) {j : Nat} (h : j < (fmtN n).length) : 48 ≤ ((fmtN n).getD j 0).toNat ∧ ((fmtN n).getD j 0).toNat ≤ 57 := by
  have e : (fmtN n).getD j 0 = (fmtN n)[j] := by simp [h]
  rw [e]
  exact dec_dig n.toNat _ (by rw [← fmtN_eq h0 h1]; exact List.getElem_mem h)
theorem fmtN_row {n : Int} (h0 : 0 ≤ n) (h1 : n ≤ 999999) : (fmtN n).map digB = rowN n.toNat := by rw [fmtN_eq h0 h1, dec_row]
theorem fmtN_len {n : Int} (h0 : 0 ≤ n) (h1 : n ≤ 999999) : (fmtN n).length ≤ 6 := by
  have := congrArg List.length (fmtN_row h0 h1)
  rw [List.length_map] at this
  rw [this]; exact (rowN_len 6 n.toNat (by omega) (by omega)).1
theorem rowI_len (n : Int) : (if 0 ≤ n ∧ n ≤ 999999 then rowN n.toNat else []).length ≤ 6 := by
  split
  · exact (rowN_len 6 _ (by omega) (by omega)).1
  · simp
theorem turnI_len (a : List Int) : (if RowP a then turnL a else []).length ≤ 6 := by
  split
  · rename_i h; rw [turnL_len]; exact h.1
  · simp
theorem turnL_row {l : List Int} (h : RowP l) : RowP (turnL l) := ⟨by rw [turnL_len]; exact h.1, fun x hx => by
  unfold turnL at hx
  obtain ⟨y, _, rfl⟩ := List.mem_map.1 hx
  exact turnC_cell y⟩

set_option maxRecDepth 4000 in
theorem impl_RowOf (n : Int) : PCalls Tryz.prog 6 [.int .i64 n] (· = [.own 0 3 1 (if 0 ≤ n ∧ n ≤ 999999 then rowN n.toNat else []).length ((if 0 ≤ n ∧ n ≤ 999999 then rowN n.toNat else []).map (.int .i64)), .val (.bool (decide (0 ≤ n ∧ n ≤ 999999)))]) := by
  refine pcalls_of_code (n := 44) az Tryz.func6 (by kernel_rfl) rfl rfl (Nat.le_of_ble_eq_true rfl) (by intro t u h; simp [Tryz.f6] at h) ?_
  refine code_seq (fun K1 hK1 => ?_)
  refine code_region ?_
  refine list_cons rfl (op_q (q_assign rfl (by decide)) ?_)
  refine list_cons rfl (op_q (q_assign rfl (by decide)) ?_)
  refine list_nil ?_
  refine hK1 _ ?_; clear hK1 K1
  refine code_seq (fun K2 hK2 => ?_)
  refine code_region ?_
  refine list_cons rfl (op_q (q_move rfl (by decide)) ?_)
  refine list_cons rfl (op_call _ (impl_FormatInt _) rfl rfl (by decide) (by decide) (by decide) rfl ?_)
  rintro _ rfl
  refine list_cons rfl (op_q (q_move rfl (by decide)) ?_)
  refine list_cons rfl (op_q (q_extract rfl rfl (by decide)) ?_)
  refine list_cons rfl (op_q (q_extract rfl rfl (by decide)) ?_)
  refine list_cons rfl (op_q (q_assign rfl (by decide)) ?_)
  refine list_cons rfl (op_q (q_assign rfl (by decide)) ?_)
  refine list_nil ?_
  refine hK2 _ ?_; clear hK2 K2
  refine codeT.imp (σ' := [(0, _), (2, _), (3, _), (4, _), (5, _)]) ?_ (imp_covers ⟨rfl, rfl, rfl, rfl, rfl, trivial⟩)
  refine code_seq (fun K3 hK3 => ?_)
  refine code_seq (fun K4 hK4 => ?_)
  refine code_region ?_
  refine list_cons rfl (op_q (q_move rfl (by decide)) ?_)
  refine list_cons rfl (op_q (by first | exact q_notd rfl (by decide) | exact q_not rfl (by decide)) ?_)
  refine list_cons rfl (op_q (q_move rfl (by decide)) ?_)
  refine list_guard_d rfl rfl rfl rfl (by decide) rfl (by decide) (fun h1 => ?_) (fun h1 => ?_)
  · simp only [Bool.false_eq_true, if_true, if_false, Decidable.not_not] at h1
    refine id (op_q (q_move rfl (by decide)) ?_)
    refine list_guard_y rfl rfl rfl rfl (by decide) rfl ?_
    refine id (op_q (q_lt rfl rfl (by decide)) ?_)
    refine list_cons rfl (op_q (q_pick rfl rfl (by decide)) ?_)
    refine list_nil ?_
    refine hK4 _ ?_; clear hK4 K4
    refine code_cond_d rfl (fun h2 => ?_) (fun h2 => ?_)
    · skip
      (try simp only [Decidable.not_not] at h2)
      refine code_seq (fun K5 hK5 => ?_)
      refine code_region ?_
      refine list_cons rfl (op_buildSlice sl_25 (parts := []) rfl rfl rfl (by decide) (by decide) (by decide) rfl ?_)
      refine list_cons rfl (op_q (q_assign rfl (by decide)) ?_)
      refine list_cons rfl (op_q (q_assign rfl (by decide)) ?_)
      refine list_nil ?_
      refine hK5 _ ?_; clear hK5 K5
      refine codeT.imp (σ' := [(0, _), (2, _), (3, _), (4, _), (5, _)]) ?_ (imp_covers ⟨rfl, rfl, rfl, rfl, rfl, trivial⟩)
      refine code_ret ?_
      refine then_r ?_; clear hK3 K3
      refine ends_ret (cs := []) rfl rfl rfl rfl trivial ?_
      first
        | (have e : ¬ (0 ≤ n ∧ n ≤ 999999) := by omega
           simp only [if_neg e, decide_eq_false e]; rfl)
        | (have hd := hfd (by omega)
           exfalso; omega)
        | (have e0 : t25_i = (fmtN n).length := by omega
           rw [e0, List.take_length, fmtN_row (by omega) (by omega)] at i2
           have e : 0 ≤ n ∧ n ≤ 999999 := by omega
           simp only [if_pos e, decide_eq_true e, ← i2])
    (try simp only [Decidable.not_not] at h2)
    refine code_skip ?_
    refine hK3 _ ?_; clear hK3 K3
    refine code_seq (fun K6 hK6 => ?_)
    refine code_region ?_
    refine list_cons rfl (op_make0 (m := 6) sl_25 rfl rfl (by omega) (by decide) (by decide) rfl ?_)
    refine list_cons rfl (op_q (q_assign rfl (by decide)) ?_)
    refine list_nil ?_
    refine hK6 _ ?_; clear hK6 K6
    refine codeT.imp (σ' := [(0, _), (2, _), (3, _), (4, _), (5, _), (6, _)]) ?_ (imp_covers ⟨rfl, rfl, rfl, rfl, rfl, rfl, trivial⟩)
    refine code_seq (fun K7 hK7 => ?_)
    refine code_seq (fun K8 hK8 => ?_)
    refine code_region ?_
    refine list_cons rfl (op_q (q_move rfl (by decide)) ?_)
    refine list_cons rfl (op_range_str Tryz.underlying9 rfl (by decide) (by decide) rfl ?_)
    refine list_nil ?_
    refine hK8 _ ?_; clear hK8 K8
    refine code_block ?_
    refine code_loop (X := PV × Bool × List UInt8 × Bool × Nat × List PV × Nat) (fun x => [(0, .val (.int .i64 n)), (2, .val x.1), (3, .val (.bool x.2.1)), (4, .val (.str x.2.2.1)), (5, .val (.bool x.2.2.2.1)), (6, .own 23 3 1 x.2.2.2.2.1 x.2.2.2.2.2.1), (25, .sit 25 (fmtN n) x.2.2.2.2.2.2)]) (fun x => x.2.2.2.2.2.2 ≤ (fmtN n).length ∧ ∃ l : List Int, x.2.2.2.2.1 = l.length ∧ x.2.2.2.2.2.1 = l.map (.int .i64) ∧ l = ((fmtN n).take x.2.2.2.2.2.2).map digB) (fun x => (fmtN n).length - x.2.2.2.2.2.2) (_, _, _, _, _, _, _) (imp_covers ⟨rfl, rfl, rfl, rfl, rfl, rfl, rfl, trivial⟩) ?_ ?_
    · (try dsimp only)
      exact ⟨by omega, [], rfl, rfl, rfl⟩
    · intro x hI
      obtain ⟨t2_p, t3, text, ok, row_n, row_c, t25_i⟩ := x
      replace hI : t25_i ≤ (fmtN n).length ∧ ∃ l : List Int, row_n = l.length ∧ row_c = l.map (.int .i64) ∧ l = ((fmtN n).take t25_i).map digB := hI
      show codeT _ _ _ [(0, .val (.int .i64 n)), (2, .val t2_p), (3, .val (.bool t3)), (4, .val (.str text)), (5, .val (.bool ok)), (6, .own 23 3 1 row_n row_c), (25, .sit 25 (fmtN n) t25_i)] _
      obtain ⟨i1, l, rfl, rfl, i2⟩ := hI
      have hfl := fmtN_len (n := n) (by omega) (by omega)
      have hfd := fun k => fmtN_dig (n := n) (by omega) (by omega) (j := t25_i) k
      have hll : l.length ≤ 6 := by rw [i2]; simp; omega
      refine code_seq (fun K9 hK9 => ?_)
      refine code_region ?_
      refine list_cons rfl (op_nextA (h := 25) (fun j hj => by have := fmtN_dig (n := n) (by omega) (by omega) hj; omega) rfl rfl (by decide) (fun h3 => ?_) (fun h3 => ?_))
      · skip
        refine list_cons rfl (op_q (q_extract rfl rfl (by decide)) ?_)
        refine list_nil ?_
        refine hK9 _ ?_; clear hK9 K9
        refine code_seq (fun K10 hK10 => ?_)
        refine code_cond_f rfl ?_
        refine code_exit ?_
        refine then_x ?_; clear hK10 K10
        refine then_x ?_
        refine blk_hit ?_
        refine hK7 _ ?_; clear hK7 K7
        refine code_seq (fun K11 hK11 => ?_)
        refine code_region ?_
        refine list_cons rfl (op_q (q_move rfl (by decide)) ?_)
        refine list_cons rfl (op_q (q_assign rfl (by decide)) ?_)
        refine list_cons rfl (op_q (q_assign rfl (by decide)) ?_)
        refine list_nil ?_
        refine hK11 _ ?_; clear hK11 K11
        refine code_ret ?_
        refine ends_ret (cs := []) rfl rfl rfl rfl trivial ?_
        first
          | (have e : ¬ (0 ≤ n ∧ n ≤ 999999) := by omega
             simp only [if_neg e, decide_eq_false e]; rfl)
          | (have hd := hfd (by omega)
             exfalso; omega)
          | (have e0 : t25_i = (fmtN n).length := by omega
             rw [e0, List.take_length, fmtN_row (by omega) (by omega)] at i2
             have e : 0 ≤ n ∧ n ≤ 999999 := by omega
             simp only [if_pos e, decide_eq_true e, ← i2])
      · skip
        refine list_cons rfl (op_q (q_extract rfl rfl (by decide)) ?_)
        refine list_nil ?_
        refine hK9 _ ?_; clear hK9 K9
        refine code_seq (fun K12 hK12 => ?_)
        refine code_cond_t rfl ?_
        refine code_skip ?_
        refine hK12 _ ?_; clear hK12 K12
        refine code_block ?_
        refine code_seq (fun K13 hK13 => ?_)
        refine code_region ?_
        refine list_cons rfl (op_q (q_extract rfl rfl (by decide)) ?_)
        refine list_cons rfl (op_q (q_assign rfl (by decide)) ?_)
        refine list_nil ?_
        refine hK13 _ ?_; clear hK13 K13
        refine code_seq (fun K14 hK14 => ?_)
        refine code_region ?_
        refine list_cons rfl (op_q (q_move rfl (by decide)) ?_)
        refine list_cons rfl (op_q (by first | exact q_sub32 rfl rfl (by decide) (by omega) (by omega) | exact q_ib rfl rfl rfl (by decide)) ?_)
        refine list_cons rfl (op_q (by first | exact q_convB (by rw [Tryz.underlying21]; rfl) Tryz.underlying3 rfl (by decide) | exact q_convI (by rw [Tryz.underlying21]; rfl) Tryz.underlying3 rfl (by decide) (by omega) (by omega) | exact q_conv (by rw [Tryz.underlying21]; rfl) Tryz.underlying3 rfl (by decide)) ?_)
        refine list_cons rfl (op_call _ (impl_CellOf _) rfl rfl (by decide) (by decide) (by decide) rfl ?_)
        rintro _ rfl
        refine list_cons rfl (op_q (q_move rfl (by decide)) ?_)
        refine list_cons rfl (op_q (q_extract rfl rfl (by decide)) ?_)
        refine list_cons rfl (op_q (q_extract rfl rfl (by decide)) ?_)
        refine list_cons rfl (op_q (q_assign rfl (by decide)) ?_)
        refine list_cons rfl (op_q (q_assign rfl (by decide)) ?_)
        refine list_nil ?_
        refine hK14 _ ?_; clear hK14 K14
        refine codeT.imp (σ' := [(0, _), (2, _), (3, _), (4, _), (5, _), (6, _), (8, _), (9, _), (10, _), (25, _), (26, _)]) ?_ (imp_covers ⟨rfl, rfl, rfl, rfl, rfl, rfl, rfl, rfl, rfl, rfl, rfl, trivial⟩)
        refine code_seq (fun K15 hK15 => ?_)
        refine code_seq (fun K16 hK16 => ?_)
        refine code_region ?_
        refine list_cons rfl (op_q (q_move rfl (by decide)) ?_)
        refine list_cons rfl (op_q (by first | exact q_notd rfl (by decide) | exact q_not rfl (by decide)) ?_)
        refine list_nil ?_
        refine hK16 _ ?_; clear hK16 K16
        refine code_cond_d rfl (fun h4 => ?_) (fun h4 => ?_)
        · skip
          (try simp only [Decidable.not_not] at h4)
          refine code_seq (fun K17 hK17 => ?_)
          refine code_region ?_
          refine list_cons rfl (op_buildSlice sl_25 (parts := []) rfl rfl rfl (by decide) (by decide) (by decide) rfl ?_)
          refine list_cons rfl (op_q (q_assign rfl (by decide)) ?_)
          refine list_cons rfl (op_q (q_assign rfl (by decide)) ?_)
          refine list_nil ?_
          refine hK17 _ ?_; clear hK17 K17
          refine code_ret ?_
          refine then_r ?_; clear hK15 K15
          refine blk_r ?_
          refine then_r ?_
          refine blk_r ?_
          refine then_r ?_; clear hK7 K7
          refine ends_ret (cs := []) rfl rfl rfl rfl trivial ?_
          first
            | (have e : ¬ (0 ≤ n ∧ n ≤ 999999) := by omega
               simp only [if_neg e, decide_eq_false e]; rfl)
            | (have hd := hfd (by omega)
               exfalso; omega)
            | (have e0 : t25_i = (fmtN n).length := by omega
               rw [e0, List.take_length, fmtN_row (by omega) (by omega)] at i2
               have e : 0 ≤ n ∧ n ≤ 999999 := by omega
               simp only [if_pos e, decide_eq_true e, ← i2])
        (try simp only [Decidable.not_not] at h4)
        refine code_skip ?_
        refine hK15 _ ?_; clear hK15 K15
        refine code_region ?_
        refine list_cons rfl (op_q (q_move rfl (by decide)) ?_)
        refine list_cons rfl (op_q (q_move rfl (by decide)) ?_)
        refine list_cons rfl (op_buildSlice sl_25 (parts := [(0, .tmp 40)]) rfl rfl rfl (by decide) (by decide) (by decide) rfl ?_)
        refine list_cons rfl (op_append_gen sl_25 (l := 23) (.inl rfl) rfl rfl (l2 := none) (.inl ⟨rfl, (by first | rfl | exact flat_map _ (fun _ => rfl) _)⟩) (by first | rfl | simp | omega) (by omega) (by decide) (by decide) (by decide) ?_)
        refine list_cons rfl (op_q (q_assign rfl (by decide)) ?_)
        refine list_nil ?_
        refine blk_n ?_
        refine then_n ⟨(_, _, _, _, _, _, _), imp_covers ⟨rfl, rfl, rfl, rfl, rfl, rfl, rfl, trivial⟩, ?_, ?_⟩
        · (try dsimp only)
          have hd := hfd (by omega)
          have e : ((((fmtN n).getD t25_i 0).toNat : Int) - 48).toNat = ((fmtN n).getD t25_i 0).toNat - 48 := by omega
          refine ⟨by omega, l ++ [digB ((fmtN n).getD t25_i 0)], by simp, ?_, ?_⟩
          · rw [if_pos h4, e, List.map_append]; rfl
          · rw [i2, map_take digB 0 _ (by omega)]
        · (try dsimp only); omega
  simp only [Bool.false_eq_true, if_true, if_false, Decidable.not_not] at h1
  refine list_guard_n rfl rfl rfl rfl (by decide) rfl ?_
  refine list_cons rfl (op_q (q_pick rfl rfl (by decide)) ?_)
  refine list_nil ?_
  refine hK4 _ ?_; clear hK4 K4
  refine codeT.imp (σ' := [(0, _), (2, _), (3, _), (4, _), (5, _), (21, _)]) ?_ (imp_covers ⟨rfl, rfl, rfl, rfl, rfl, rfl, trivial⟩)
  refine code_cond_t rfl ?_
  refine code_seq (fun K18 hK18 => ?_)
  refine code_region ?_
  refine list_cons rfl (op_buildSlice sl_25 (parts := []) rfl rfl rfl (by decide) (by decide) (by decide) rfl ?_)
  refine list_cons rfl (op_q (q_assign rfl (by decide)) ?_)
  refine list_cons rfl (op_q (q_assign rfl (by decide)) ?_)
  refine list_nil ?_
  refine hK18 _ ?_; clear hK18 K18
  refine code_ret ?_
  refine then_r ?_; clear hK3 K3
  refine ends_ret (cs := []) rfl rfl rfl rfl trivial ?_
  first
    | (have e : ¬ (0 ≤ n ∧ n ≤ 999999) := by omega
       simp only [if_neg e, decide_eq_false e]; rfl)
    | (have hd := hfd (by omega)
       exfalso; omega)
    | (have e0 : t25_i = (fmtN n).length := by omega
       rw [e0, List.take_length, fmtN_row (by omega) (by omega)] at i2
       have e : 0 ≤ n ∧ n ≤ 999999 := by omega
       simp only [if_pos e, decide_eq_true e, ← i2])

set_option maxRecDepth 4000 in
theorem impl_TurnedNumber (n : Int) : PCalls Tryz.prog 18 [.int .i64 n] (· = [.val (.int .i64 (if (0 ≤ n ∧ n ≤ 999999) ∧ DigsP (turnL (rowN n.toNat)) then numF (turnL (rowN n.toNat)) else 0)), .val (.bool (decide ((0 ≤ n ∧ n ≤ 999999) ∧ DigsP (turnL (rowN n.toNat)))))]) := by
  refine pcalls_of_code (n := 25) az Tryz.func18 (by kernel_rfl) rfl rfl (Nat.le_of_ble_eq_true rfl) (by intro t u h; simp [Tryz.f18] at h) ?_
  have hrl := rowI_len n
  have htl := turnI_len (if 0 ≤ n ∧ n ≤ 999999 then rowN n.toNat else [])
  refine code_seq (fun K1 hK1 => ?_)
  refine code_region ?_
  refine list_cons rfl (op_q (q_assign rfl (by decide)) ?_)
  refine list_cons rfl (op_q (q_assign rfl (by decide)) ?_)
  refine list_nil ?_
  refine hK1 _ ?_; clear hK1 K1
  refine code_seq (fun K2 hK2 => ?_)
  refine code_region ?_
  refine list_cons rfl (op_q (q_move rfl (by decide)) ?_)
  refine list_cons rfl (op_call _ (impl_RowOf _) rfl rfl (by decide) (by decide) (by decide) rfl ?_)
  rintro _ rfl
  refine list_cons rfl (op_q (q_move rfl (by decide)) ?_)
  refine list_cons rfl (op_q (q_extract rfl rfl (by decide)) ?_)
  refine list_cons rfl (op_q (q_extract rfl rfl (by decide)) ?_)
  refine list_cons rfl (op_q (q_assign rfl (by decide)) ?_)
  refine list_cons rfl (op_q (q_assign rfl (by decide)) ?_)
  refine list_nil ?_
  refine hK2 _ ?_; clear hK2 K2
  refine codeT.imp (σ' := [(0, _), (2, _), (3, _), (4, _), (5, _)]) ?_ (imp_covers ⟨rfl, rfl, rfl, rfl, rfl, trivial⟩)
  refine code_seq (fun K3 hK3 => ?_)
  refine code_seq (fun K4 hK4 => ?_)
  refine code_region ?_
  refine list_cons rfl (op_q (q_move rfl (by decide)) ?_)
  refine list_cons rfl (op_q (by first | exact q_notd rfl (by decide) | exact q_not rfl (by decide)) ?_)
  refine list_nil ?_
  refine hK4 _ ?_; clear hK4 K4
  refine code_cond_d rfl (fun h1 => ?_) (fun h1 => ?_)
  · skip
    (try simp only [Decidable.not_not] at h1)
    refine code_seq (fun K5 hK5 => ?_)
    refine code_region ?_
    refine list_cons rfl (op_q (q_assign rfl (by decide)) ?_)
    refine list_cons rfl (op_q (q_assign rfl (by decide)) ?_)
    refine list_nil ?_
    refine hK5 _ ?_; clear hK5 K5
    refine code_ret ?_
    refine then_r ?_; clear hK3 K3
    refine ends_ret (cs := []) rfl rfl rfl rfl trivial ?_
    rw [if_neg (fun k => h1 k.1), decide_eq_false (fun k => h1 k.1)]
  (try simp only [Decidable.not_not] at h1)
  refine code_skip ?_
  refine hK3 _ ?_; clear hK3 K3
  refine code_seq (fun K6 hK6 => ?_)
  refine code_region ?_
  refine list_cons rfl (op_q (q_move rfl (by decide)) ?_)
  refine list_cons rfl (op_call _ (impl_TurnRow (if 0 ≤ n ∧ n ≤ 999999 then rowN n.toNat else []) (by omega)) rfl rfl (by decide) (by decide) (by decide) rfl ?_)
  rintro _ rfl
  refine list_cons rfl (op_q (q_move rfl (by decide)) ?_)
  refine list_cons rfl (op_q (q_extract rfl rfl (by decide)) ?_)
  refine list_cons rfl (op_q (q_extract rfl rfl (by decide)) ?_)
  refine list_cons rfl (op_q (q_assign rfl (by decide)) ?_)
  refine list_cons rfl (op_q (q_assign rfl (by decide)) ?_)
  refine list_nil ?_
  refine hK6 _ ?_; clear hK6 K6
  refine codeT.imp (σ' := [(0, _), (2, _), (3, _), (4, _), (5, _), (6, _)]) ?_ (imp_covers ⟨rfl, rfl, rfl, rfl, rfl, rfl, trivial⟩)
  refine code_seq (fun K7 hK7 => ?_)
  refine code_seq (fun K8 hK8 => ?_)
  refine code_region ?_
  refine list_cons rfl (op_q (q_move rfl (by decide)) ?_)
  refine list_cons rfl (op_q (by first | exact q_notd rfl (by decide) | exact q_not rfl (by decide)) ?_)
  refine list_nil ?_
  refine hK8 _ ?_; clear hK8 K8
  refine code_cond_d rfl (fun h2 => ?_) (fun h2 => ?_)
  · skip
    (try simp only [Decidable.not_not] at h2)
    refine code_seq (fun K9 hK9 => ?_)
    refine code_region ?_
    refine list_cons rfl (op_q (q_assign rfl (by decide)) ?_)
    refine list_cons rfl (op_q (q_assign rfl (by decide)) ?_)
    refine list_nil ?_
    refine hK9 _ ?_; clear hK9 K9
    refine code_ret ?_
    refine then_r ?_; clear hK7 K7
    refine ends_ret (cs := []) rfl rfl rfl rfl trivial ?_
    rw [if_pos h1] at h2
    exact absurd (rowN_row (by omega)) h2
  (try simp only [Decidable.not_not] at h2)
  refine code_skip ?_
  refine hK7 _ ?_; clear hK7 K7
  refine code_seq (fun K10 hK10 => ?_)
  refine code_region ?_
  refine list_cons rfl (op_q (q_move rfl (by decide)) ?_)
  refine list_cons rfl (op_call _ (impl_NumberOf _ (by omega)) rfl rfl (by decide) (by decide) (by decide) rfl ?_)
  rintro _ rfl
  refine list_cons rfl (op_q (q_extract rfl rfl (by decide)) ?_)
  refine list_cons rfl (op_q (q_extract rfl rfl (by decide)) ?_)
  refine list_cons rfl (op_q (q_assign rfl (by decide)) ?_)
  refine list_cons rfl (op_q (q_assign rfl (by decide)) ?_)
  refine list_nil ?_
  refine hK10 _ ?_; clear hK10 K10
  refine codeT.imp (σ' := [(0, _), (2, _), (3, _), (4, _), (5, _), (6, _)]) ?_ (imp_covers ⟨rfl, rfl, rfl, rfl, rfl, rfl, trivial⟩)
  refine code_ret ?_
  refine ends_ret (cs := []) rfl rfl rfl rfl trivial ?_
  rw [if_pos h1] at h2
  have e2 := turnL_row h2
  have e3 : 0 < (turnL (rowN n.toNat)).length := by rw [turnL_len]; exact (rowN_len 6 n.toNat (by omega) (by omega)).2
  simp only [if_pos h1, if_pos h2]
  simp only [e2, e3, h1, and_self, true_and, and_true]

set_option maxRecDepth 4000 in
theorem impl_isAlike (n : Int) (p0 : 0 ≤ n) (p1 : n ≤ 9999) : PCalls Tryz.prog 47 [.int .i64 n] (· = [.val (.bool (decide (turnL (rowN n.toNat) = rowN n.toNat)))]) := by
  refine pcalls_of_code (n := 24) az Tryz.func47 (by kernel_rfl) rfl rfl (Nat.le_of_ble_eq_true rfl) (by intro t u h; simp [Tryz.f47] at h) ?_
  have hrl := rowI_len n
  have htl := turnI_len (if 0 ≤ n ∧ n ≤ 999999 then rowN n.toNat else [])
  have h9 : 0 ≤ n ∧ n ≤ 999999 := by omega
  have hR := rowN_row (n := n.toNat) (by omega)
  refine code_seq (fun K1 hK1 => ?_)
  refine code_region ?_
  refine list_cons rfl (op_q (q_assign rfl (by decide)) ?_)
  refine list_nil ?_
  refine hK1 _ ?_; clear hK1 K1
  refine code_seq (fun K2 hK2 => ?_)
  refine code_region ?_
  refine list_cons rfl (op_q (q_move rfl (by decide)) ?_)
  refine list_cons rfl (op_call _ (impl_RowOf _) rfl rfl (by decide) (by decide) (by decide) rfl ?_)
  rintro _ rfl
  refine list_cons rfl (op_q (q_move rfl (by decide)) ?_)
  refine list_cons rfl (op_q (q_extract rfl rfl (by decide)) ?_)
  refine list_cons rfl (op_q (q_extract rfl rfl (by decide)) ?_)
  refine list_cons rfl (op_q (q_assign rfl (by decide)) ?_)
  refine list_cons rfl (op_q (q_assign rfl (by decide)) ?_)
  refine list_nil ?_
  refine hK2 _ ?_; clear hK2 K2
  refine codeT.imp (σ' := [(0, _), (2, _), (3, _), (4, _)]) ?_ (imp_covers ⟨rfl, rfl, rfl, rfl, trivial⟩)
  refine code_seq (fun K3 hK3 => ?_)
  refine code_seq (fun K4 hK4 => ?_)
  refine code_region ?_
  refine list_cons rfl (op_q (q_move rfl (by decide)) ?_)
  refine list_cons rfl (op_q (by first | exact q_notd rfl (by decide) | exact q_not rfl (by decide)) ?_)
  refine list_nil ?_
  refine hK4 _ ?_; clear hK4 K4
  refine code_cond_d rfl (fun h1 => ?_) (fun h1 => ?_)
  · skip
    (try simp only [Decidable.not_not] at h1)
    refine code_seq (fun K5 hK5 => ?_)
    refine code_region ?_
    refine list_cons rfl (op_q (q_assign rfl (by decide)) ?_)
    refine list_nil ?_
    refine hK5 _ ?_; clear hK5 K5
    refine code_ret ?_
    refine then_r ?_; clear hK3 K3
    refine ends_ret (cs := []) rfl rfl rfl rfl trivial ?_
    exact absurd h9 h1
  (try simp only [Decidable.not_not] at h1)
  refine code_skip ?_
  refine hK3 _ ?_; clear hK3 K3
  refine code_seq (fun K6 hK6 => ?_)
  refine code_region ?_
  refine list_cons rfl (op_q (q_move rfl (by decide)) ?_)
  refine list_cons rfl (op_call _ (impl_TurnRow (if 0 ≤ n ∧ n ≤ 999999 then rowN n.toNat else []) (by omega)) rfl rfl (by decide) (by decide) (by decide) rfl ?_)
  rintro _ rfl
  refine list_cons rfl (op_q (q_move rfl (by decide)) ?_)
  refine list_cons rfl (op_q (q_extract rfl rfl (by decide)) ?_)
  refine list_cons rfl (op_q (q_extract rfl rfl (by decide)) ?_)
  refine list_cons rfl (op_q (q_assign rfl (by decide)) ?_)
  refine list_cons rfl (op_q (q_assign rfl (by decide)) ?_)
  refine list_nil ?_
  refine hK6 _ ?_; clear hK6 K6
  refine codeT.imp (σ' := [(0, _), (2, _), (3, _), (4, _), (5, _)]) ?_ (imp_covers ⟨rfl, rfl, rfl, rfl, rfl, trivial⟩)
  refine code_seq (fun K7 hK7 => ?_)
  refine code_region ?_
  refine list_cons rfl (op_q (q_move rfl (by decide)) ?_)
  refine list_cons rfl (op_q (q_move rfl (by decide)) ?_)
  refine list_guard_d rfl rfl rfl rfl (by decide) rfl (by decide) (fun h2 => ?_) (fun h2 => ?_)
  · simp only [Bool.false_eq_true, if_true, if_false, Decidable.not_not] at h2
    refine id (op_q (q_move rfl (by decide)) ?_)
    refine list_guard_y rfl rfl rfl rfl (by decide) rfl ?_
    refine id (op_q (q_move rfl (by decide)) ?_)
    refine list_guard_y rfl rfl rfl rfl (by decide) rfl ?_
    refine id (op_call _ (equalI_c _ _ (by omega) (by omega)) rfl rfl (by decide) (by decide) (by decide) rfl ?_)
    rintro _ rfl
    refine list_cons rfl (op_q (q_pick rfl rfl (by decide)) ?_)
    refine list_cons rfl (op_q (q_assign rfl (by decide)) ?_)
    refine list_nil ?_
    refine hK7 _ ?_; clear hK7 K7
    refine codeT.imp (σ' := [(0, _), (2, _), (3, _), (4, _), (5, _)]) ?_ (imp_covers ⟨rfl, rfl, rfl, rfl, rfl, trivial⟩)
    refine code_ret ?_
    refine ends_ret (cs := []) rfl rfl rfl rfl trivial ?_
    simp only [if_pos h9, if_pos hR]
    congr 3
    exact decide_eq_decide.mpr ⟨fun k => k.symm, fun k => k.symm⟩
  simp only [Bool.false_eq_true, if_true, if_false, Decidable.not_not] at h2
  refine list_guard_n rfl rfl rfl rfl (by decide) rfl ?_
  refine list_guard_n rfl rfl rfl rfl (by decide) rfl ?_
  refine list_cons rfl (op_q (q_pick rfl rfl (by decide)) ?_)
  refine list_cons rfl (op_q (q_assign rfl (by decide)) ?_)
  refine list_nil ?_
  refine hK7 _ ?_; clear hK7 K7
  refine code_ret ?_
  refine ends_ret (cs := []) rfl rfl rfl rfl trivial ?_
  rw [if_pos h9] at h2
  exact absurd hR h2

set_option maxRecDepth 4000 in
theorem impl_CountAlike (n : Int) : PCalls Tryz.prog 21 [.int .i64 n] (· = [.val (.int .i64 (if 0 ≤ n ∧ n ≤ 9999 then ((alikeTo (n.toNat + 1) : Nat) : Int) else 0)), .val (.bool (decide (0 ≤ n ∧ n ≤ 9999)))]) := by
  refine pcalls_of_code (n := 23) az Tryz.func21 (by kernel_rfl) rfl rfl (Nat.le_of_ble_eq_true rfl) (by intro t u h; simp [Tryz.f21] at h) ?_
  refine code_seq (fun K1 hK1 => ?_)
  refine code_region ?_
  refine list_cons rfl (op_q (q_assign rfl (by decide)) ?_)
  refine list_cons rfl (op_q (q_assign rfl (by decide)) ?_)
  refine list_nil ?_
  refine hK1 _ ?_; clear hK1 K1
  refine code_seq (fun K2 hK2 => ?_)
  refine code_seq (fun K3 hK3 => ?_)
  refine code_region ?_
  refine list_cons rfl (op_q (q_move rfl (by decide)) ?_)
  refine list_cons rfl (op_q (q_lt rfl rfl (by decide)) ?_)
  refine list_cons rfl (op_q (q_move rfl (by decide)) ?_)
  refine list_guard_d rfl rfl rfl rfl (by decide) rfl (by decide) (fun h1 => ?_) (fun h1 => ?_)
  · simp only [Bool.false_eq_true, if_true, if_false, Decidable.not_not] at h1
    refine id (op_q (q_move rfl (by decide)) ?_)
    refine list_guard_y rfl rfl rfl rfl (by decide) rfl ?_
    refine id (op_q (q_gt rfl rfl (by decide)) ?_)
    refine list_cons rfl (op_q (q_pick rfl rfl (by decide)) ?_)
    refine list_nil ?_
    refine hK3 _ ?_; clear hK3 K3
    refine code_cond_d rfl (fun h2 => ?_) (fun h2 => ?_)
    · skip
      (try simp only [Decidable.not_not] at h2)
      refine code_seq (fun K4 hK4 => ?_)
      refine code_region ?_
      refine list_cons rfl (op_q (q_assign rfl (by decide)) ?_)
      refine list_cons rfl (op_q (q_assign rfl (by decide)) ?_)
      refine list_nil ?_
      refine hK4 _ ?_; clear hK4 K4
      refine code_ret ?_
      refine then_r ?_; clear hK2 K2
      refine ends_ret (cs := []) rfl rfl rfl rfl trivial ?_
      first
        | (have e : ¬ (0 ≤ n ∧ n ≤ 9999) := by omega
           simp only [if_neg e, decide_eq_false e])
        | (have e : (0 ≤ n ∧ n ≤ 9999) := by omega
           rw [if_pos e, decide_eq_true e, i3, show n.toNat + 1 = t14.toNat by omega])
    (try simp only [Decidable.not_not] at h2)
    refine code_skip ?_
    refine hK2 _ ?_; clear hK2 K2
    refine code_seq (fun K5 hK5 => ?_)
    refine code_region ?_
    refine list_cons rfl (op_q (q_assign rfl (by decide)) ?_)
    refine list_nil ?_
    refine hK5 _ ?_; clear hK5 K5
    refine code_seq (fun K6 hK6 => ?_)
    refine code_seq (fun K7 hK7 => ?_)
    refine code_region ?_
    refine list_cons rfl (op_q (q_move rfl (by decide)) ?_)
    refine list_cons rfl (op_q (by first | exact q_addI rfl rfl (by decide) (by omega) (by omega) | exact q_ib rfl rfl rfl (by decide)) ?_)
    refine list_cons rfl (op_q (q_move rfl (by decide)) ?_)
    refine list_nil ?_
    refine hK7 _ ?_; clear hK7 K7
    refine codeT.imp (σ' := [(0, _), (2, _), (3, _), (4, _), (13, _), (14, _)]) ?_ (imp_covers ⟨rfl, rfl, rfl, rfl, rfl, rfl, trivial⟩)
    refine code_block ?_
    refine code_loop (X := Int × Bool × Int × Int) (fun x => [(0, .val (.int .i64 n)), (2, .val (.int .i64 x.1)), (3, .val (.bool x.2.1)), (4, .val (.int .i64 x.2.2.1)), (13, .val (.int .i64 (n + 1))), (14, .val (.int .i64 x.2.2.2))]) (fun x => 0 ≤ x.2.2.2 ∧ x.2.2.2 ≤ n + 1 ∧ x.2.2.1 = ((alikeTo x.2.2.2.toNat : Nat) : Int)) (fun x => (n + 1 - x.2.2.2).toNat) (_, _, _, _) (imp_covers ⟨rfl, rfl, rfl, rfl, rfl, rfl, trivial⟩) ?_ ?_
    · (try dsimp only)
      exact ⟨by omega, by omega, rfl⟩
    · intro x hI
      obtain ⟨t2, t3, alike, t14⟩ := x
      replace hI : 0 ≤ t14 ∧ t14 ≤ n + 1 ∧ alike = ((alikeTo t14.toNat : Nat) : Int) := hI
      show codeT _ _ _ [(0, .val (.int .i64 n)), (2, .val (.int .i64 t2)), (3, .val (.bool t3)), (4, .val (.int .i64 alike)), (13, .val (.int .i64 (n + 1))), (14, .val (.int .i64 t14))] _
      obtain ⟨i1, i2, i3⟩ := hI
      have ha := alikeTo_le t14.toNat
      refine code_seq (fun K8 hK8 => ?_)
      refine code_region ?_
      refine list_cons rfl (op_q (q_lt rfl rfl (by decide)) ?_)
      refine list_nil ?_
      refine hK8 _ ?_; clear hK8 K8
      refine code_seq (fun K9 hK9 => ?_)
      refine code_cond_d rfl (fun h3 => ?_) (fun h3 => ?_)
      · skip
        (try simp only [Decidable.not_not] at h3)
        refine code_skip ?_
        refine hK9 _ ?_; clear hK9 K9
        refine code_seq (fun K10 hK10 => ?_)
        refine code_block ?_
        refine code_seq (fun K11 hK11 => ?_)
        refine code_region ?_
        refine list_cons rfl (op_q (q_move rfl (by decide)) ?_)
        refine list_cons rfl (op_q (q_assign rfl (by decide)) ?_)
        refine list_nil ?_
        refine hK11 _ ?_; clear hK11 K11
        refine code_seq (fun K12 hK12 => ?_)
        refine code_region ?_
        refine list_cons rfl (op_q (q_move rfl (by decide)) ?_)
        refine list_cons rfl (op_call _ (impl_isAlike _ (by omega) (by omega)) rfl rfl (by decide) (by decide) (by decide) rfl ?_)
        rintro _ rfl
        refine list_nil ?_
        refine hK12 _ ?_; clear hK12 K12
        refine codeT.imp (σ' := [(0, _), (2, _), (3, _), (4, _), (5, _), (13, _), (14, _), (18, _)]) ?_ (imp_covers ⟨rfl, rfl, rfl, rfl, rfl, rfl, rfl, rfl, trivial⟩)
        refine code_cond_d rfl (fun h4 => ?_) (fun h4 => ?_)
        · skip
          (try simp only [Decidable.not_not] at h4)
          refine code_region ?_
          refine list_cons rfl (op_q (q_move rfl (by decide)) ?_)
          refine list_cons rfl (op_q (by first | exact q_addI rfl rfl (by decide) (by omega) (by omega) | exact q_ib rfl rfl rfl (by decide)) ?_)
          refine list_cons rfl (op_q (q_assign rfl (by decide)) ?_)
          refine list_nil ?_
          refine blk_n ?_
          refine hK10 _ ?_; clear hK10 K10
          refine code_region ?_
          refine list_cons rfl (op_q (by first | exact q_addI rfl rfl (by decide) (by omega) (by omega) | exact q_ib rfl rfl rfl (by decide)) ?_)
          refine list_cons rfl (op_q (q_move rfl (by decide)) ?_)
          refine list_nil ?_
          refine then_n ⟨(_, _, _, _), imp_covers ⟨rfl, rfl, rfl, rfl, rfl, rfl, trivial⟩, ?_, ?_⟩
          · (try dsimp only)
            refine ⟨by omega, by omega, ?_⟩
            rw [show (t14 + 1).toNat = t14.toNat + 1 by omega, alikeTo_succ, if_pos h4]; omega
          · (try dsimp only); omega
        (try simp only [Decidable.not_not] at h4)
        refine code_skip ?_
        refine blk_n ?_
        refine hK10 _ ?_; clear hK10 K10
        refine code_region ?_
        refine list_cons rfl (op_q (by first | exact q_addI rfl rfl (by decide) (by omega) (by omega) | exact q_ib rfl rfl rfl (by decide)) ?_)
        refine list_cons rfl (op_q (q_move rfl (by decide)) ?_)
        refine list_nil ?_
        refine then_n ⟨(_, _, _, _), imp_covers ⟨rfl, rfl, rfl, rfl, rfl, rfl, trivial⟩, ?_, ?_⟩
        · (try dsimp only)
          refine ⟨by omega, by omega, ?_⟩
          rw [show (t14 + 1).toNat = t14.toNat + 1 by omega, alikeTo_succ, if_neg h4]; omega
        · (try dsimp only); omega
      (try simp only [Decidable.not_not] at h3)
      refine code_exit ?_
      refine then_x ?_; clear hK9 K9
      refine then_x ?_
      refine blk_hit ?_
      refine hK6 _ ?_; clear hK6 K6
      refine code_seq (fun K13 hK13 => ?_)
      refine code_region ?_
      refine list_cons rfl (op_q (q_move rfl (by decide)) ?_)
      refine list_cons rfl (op_q (q_assign rfl (by decide)) ?_)
      refine list_cons rfl (op_q (q_assign rfl (by decide)) ?_)
      refine list_nil ?_
      refine hK13 _ ?_; clear hK13 K13
      refine code_ret ?_
      refine ends_ret (cs := []) rfl rfl rfl rfl trivial ?_
      first
        | (have e : ¬ (0 ≤ n ∧ n ≤ 9999) := by omega
           simp only [if_neg e, decide_eq_false e])
        | (have e : (0 ≤ n ∧ n ≤ 9999) := by omega
           rw [if_pos e, decide_eq_true e, i3, show n.toNat + 1 = t14.toNat by omega])
  simp only [Bool.false_eq_true, if_true, if_false, Decidable.not_not] at h1
  refine list_guard_n rfl rfl rfl rfl (by decide) rfl ?_
  refine list_cons rfl (op_q (q_pick rfl rfl (by decide)) ?_)
  refine list_nil ?_
  refine hK3 _ ?_; clear hK3 K3
  refine code_cond_t rfl ?_
  refine code_seq (fun K14 hK14 => ?_)
  refine code_region ?_
  refine list_cons rfl (op_q (q_assign rfl (by decide)) ?_)
  refine list_cons rfl (op_q (q_assign rfl (by decide)) ?_)
  refine list_nil ?_
  refine hK14 _ ?_; clear hK14 K14
  refine code_ret ?_
  refine then_r ?_; clear hK2 K2
  refine ends_ret (cs := []) rfl rfl rfl rfl trivial ?_
  first
    | (have e : ¬ (0 ≤ n ∧ n ≤ 9999) := by omega
       simp only [if_neg e, decide_eq_false e])
    | (have e : (0 ≤ n ∧ n ≤ 9999) := by omega
       rw [if_pos e, decide_eq_true e, i3, show n.toNat + 1 = t14.toNat by omega])

end Go.Proofs.YtafeflonhbgbkaaGreatDoor
