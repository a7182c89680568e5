/- Contracts of functions, walked over the pure layer; each says for which arguments. -/
import Derived.Test.YtjbbijlbenkgcaaDoorIm3fTy
import Derived.Test.YtjbbijlbenkgcaaDoorTf
import Derived.Test.YtjbbijlbenkgcaaDoorSp
import Derived.Test.YtjbbijlbenkgcaaDoorShelf
import Derived.Test.YtjbbijlbenkgcaaDoorIm
import Derived.Test.YtjbbijlbenkgcaaDoorS3b
import Derived.Test.YtjbbijlbenkgcaaDoorS3
namespace Go.Proofs.YtjbbijlbenkgcaaDoor
open Go.RowKit Im3fTy
set_option linter.unusedVariables false
set_option linter.unusedSimpArgs false

theorem xor_sub7 (a b : Nat) (ha : a < 128) (hb : b < 128) : a ^^^ (a &&& b) = a - (a &&& b) := by
  have k : below 128 (fun x => below 128 (fun y => Nat.beq (x ^^^ (x &&& y)) (x - (x &&& y)))) = true := by kernel_rfl
  exact Nat.eq_of_beq_eq_true (below_ok (below_ok k a ha) b hb)
theorem shF_andNot {fx fy c : Int} (hx : 0 ≤ fx ∧ fx ≤ 127) (hc : 0 ≤ c ∧ c ≤ 127) : (((((c.toNat ^^^ (c.toNat &&& fx.toNat) : Nat) : Int)).toNat ||| fy.toNat : Nat) : Int) = shF fx fy c := by
  unfold shF shB
  rw [Int.toNat_natCast, xor_sub7 _ _ (by omega) (by omega)]
theorem xor7b {a b : Int} (ha : 0 ≤ a ∧ a ≤ 127) (hb : 0 ≤ b ∧ b ≤ 127) : 0 ≤ ((a.toNat ^^^ (a.toNat &&& b.toNat) : Nat) : Int) ∧ ((a.toNat ^^^ (a.toNat &&& b.toNat) : Nat) : Int) ≤ 127 := by
  rw [xor_sub7 _ _ (by omega) (by omega)]; omega
/-- The shown row so far, and zeros. -/
def shZ (fs : List (Int × Int)) (l : List Int) (k : Nat) : List Int := shRowK fs l k ++ List.replicate (l.length - k) 0
theorem shZ_len (fs : List (Int × Int)) (l : List Int) {k : Nat} (h : k ≤ l.length) : (shZ fs l k).length = l.length := by
  unfold shZ; rw [List.length_append, shRowK_len, List.length_replicate]; omega
theorem shZ_put (fs : List (Int × Int)) (l : List Int) {i : Int} (h : i.toNat < l.length) : putAt ((shZ fs l i.toNat).map (.int .i64)) (i.toNat * 1) [PV.int .i64 (shF (fs.getD i.toNat (0, 0)).1 (fs.getD i.toNat (0, 0)).2 (l.getD i.toNat 0))] = (shZ fs l (i.toNat + 1)).map (.int .i64) := by
  rw [put_map1 (PV.int .i64) _ (by rw [shZ_len fs l (by omega)]; omega)]
  congr 1
  unfold shZ
  rw [List.set_append_right _ _ (by rw [shRowK_len]; omega), shRowK_len, Nat.sub_self, show l.length - i.toNat = (l.length - (i.toNat + 1)) + 1 by omega, List.replicate_succ, List.set_cons_zero, shRowK_succ, List.append_assoc]
  rfl
theorem shZ_end (fs : List (Int × Int)) (l : List Int) : shZ fs l l.length = shRow fs l := by
  unfold shZ shRow; simp
theorem ofInt_pos {x : Int} (h0 : -9223372036854775808 ≤ x) (h1 : x ≤ 9223372036854775807) (h : (BitVec.ofInt 64 x).toNat < 9223372036854775808) : x = ((BitVec.ofInt 64 x).toNat : Int) := by
  rw [BitVec.toNat_ofInt] at h ⊢
  omega
theorem ior_in {x y : Int} (hx : -9223372036854775808 ≤ x ∧ x ≤ 9223372036854775807) (hy : -9223372036854775808 ≤ y ∧ y ≤ 9223372036854775807) (h : 0 ≤ ior .i64 x y ∧ ior .i64 x y ≤ 127) : (0 ≤ x ∧ x ≤ 127) ∧ (0 ≤ y ∧ y ≤ 127) := by
  have hlt := (BitVec.ofInt 64 x ||| BitVec.ofInt 64 y).isLt
  have e : (BitVec.ofInt 64 x ||| BitVec.ofInt 64 y).toNat ≤ 127 := by
    unfold ior at h
    rw [show IntKind.i64.bits = 64 from rfl] at h
    generalize (BitVec.ofInt 64 x ||| BitVec.ofInt 64 y).toNat = m at h hlt
    rw [IntKind.wrap_i64] at h
    omega
  rw [BitVec.toNat_or] at e
  have e1 : (BitVec.ofInt 64 x).toNat ≤ 127 := Nat.le_trans Nat.left_le_or e
  have e2 : (BitVec.ofInt 64 y).toNat ≤ 127 := Nat.le_trans Nat.right_le_or e
  have k1 := ofInt_pos hx.1 hx.2 (by omega)
  have k2 := ofInt_pos hy.1 hy.2 (by omega)
  omega
theorem ior_7 {x y : Int} (hx : 0 ≤ x ∧ x ≤ 127) (hy : 0 ≤ y ∧ y ≤ 127) : ior .i64 x y = ((x.toNat ||| y.toNat : Nat) : Int) := by
  have h := ior_nat x.toNat y.toNat (by omega) (by omega)
  rwa [Int.toNat_of_nonneg hx.1, Int.toNat_of_nonneg hy.1] at h
section
variable {fx fy gx gy : Int} (b1 : -9223372036854775808 ≤ fx ∧ fx ≤ 9223372036854775807) (b2 : -9223372036854775808 ≤ fy ∧ fy ≤ 9223372036854775807) (b3 : -9223372036854775808 ≤ gx ∧ gx ≤ 9223372036854775807) (b4 : -9223372036854775808 ≤ gy ∧ gy ≤ 9223372036854775807)
theorem join_of (h : FaultP fx fy ∧ FaultP gx gy ∧ FaultP ((fx.toNat ||| gx.toNat : Nat) : Int) ((fy.toNat ||| gy.toNat : Nat) : Int)) : FaultP (ior .i64 fx gx) (ior .i64 fy gy) ∧ ior .i64 fx gx = ((fx.toNat ||| gx.toNat : Nat) : Int) ∧ ior .i64 fy gy = ((fy.toNat ||| gy.toNat : Nat) : Int) := by
  have e1 := ior_7 h.1.1 h.2.1.1
  have e2 := ior_7 h.1.2.1 h.2.1.2.1
  rw [e1, e2]; exact ⟨h.2.2, rfl, rfl⟩
theorem sub_zero7 {a b c d : Nat} (h : (a ||| c) &&& (b ||| d) = 0) : a &&& b = 0 ∧ c &&& d = 0 := by
  constructor
  · apply Nat.eq_of_testBit_eq
    intro i
    have := congrArg (fun z => z.testBit i) h
    simp only [Nat.testBit_and, Nat.testBit_or, Nat.zero_testBit] at this ⊢
    cases ha : a.testBit i <;> cases hb : b.testBit i <;> simp_all
  · apply Nat.eq_of_testBit_eq
    intro i
    have := congrArg (fun z => z.testBit i) h
    simp only [Nat.testBit_and, Nat.testBit_or, Nat.zero_testBit] at this ⊢
    cases ha : c.testBit i <;> cases hb : d.testBit i <;> simp_all
include b1 b2 b3 b4 in
theorem join_is (h : FaultP (ior .i64 fx gx) (ior .i64 fy gy)) : FaultP fx fy ∧ FaultP gx gy ∧ FaultP ((fx.toNat ||| gx.toNat : Nat) : Int) ((fy.toNat ||| gy.toNat : Nat) : Int) := by
  obtain ⟨h1, h2⟩ := ior_in b1 b3 h.1
  obtain ⟨h3, h4⟩ := ior_in b2 b4 h.2.1
  have e1 := ior_7 h1 h2
  have e2 := ior_7 h3 h4
  rw [e1, e2] at h
  have hz := h.2.2
  rw [Int.toNat_natCast, Int.toNat_natCast] at hz
  obtain ⟨z1, z2⟩ := sub_zero7 hz
  exact ⟨⟨h1, h3, z1⟩, ⟨h2, h4, z2⟩, h⟩
end

set_option maxRecDepth 4000 in
theorem impl_IsFault (fx fy : Int) : PCalls Tryd.prog 85 [.agg [.int .i64 fx, .int .i64 fy]] (· = [.val (.bool (decide (FaultP fx fy)))]) := by
  refine pcalls_of_code (n := 19) az Tryd.func85 (by kernel_rfl) rfl rfl (Nat.le_of_ble_eq_true rfl) (by intro t u h; simp [Tryd.f85] at h) ?_
  refine code_seq (fun K1 hK1 => ?_)
  refine code_region ?_
  refine list_cons rfl (op_box rfl (.inl ⟨rfl, rfl⟩) (by decide) (by decide) rfl ?_)
  refine list_cons rfl (op_q (q_assign rfl (by decide)) ?_)
  refine list_nil ?_
  refine hK1 _ ?_; clear hK1 K1
  refine code_seq (fun K2 hK2 => ?_)
  refine code_region ?_
  refine list_cons rfl (op_q (q_fieldAddr fi_42_0 rfl rfl (by decide)) ?_)
  refine list_cons rfl (op_q (q_load one_3 1 rfl rfl rfl (by first | rfl | exact get_map1 _ 0 _ (by first | omega | (simp; omega))) (by decide)) ?_)
  refine list_cons rfl (op_call _ (impl_IsCell _) rfl rfl (by decide) (by decide) (by decide) rfl ?_)
  rintro _ rfl
  refine list_cons rfl (op_q (q_move rfl (by decide)) ?_)
  refine list_guard_d rfl rfl rfl rfl (by decide) rfl (by decide) (fun h1 => ?_) (fun h1 => ?_)
  · simp only [Bool.false_eq_true, if_true, if_false, Decidable.not_not] at h1
    refine id (op_q (q_fieldAddr fi_42_1 rfl rfl (by decide)) ?_)
    refine list_guard_y rfl rfl rfl rfl (by decide) rfl ?_
    refine id (op_q (q_load one_3 1 rfl rfl rfl (by first | rfl | exact get_map1 _ 0 _ (by first | omega | (simp; omega))) (by decide)) ?_)
    refine list_guard_y rfl rfl rfl rfl (by decide) rfl ?_
    refine id (op_call _ (impl_IsCell _) rfl rfl (by decide) (by decide) (by decide) rfl ?_)
    rintro _ rfl
    refine list_cons rfl (op_q (q_pick rfl rfl (by decide)) ?_)
    refine list_cons rfl (op_q (q_move rfl (by decide)) ?_)
    refine list_guard_d rfl rfl rfl rfl (by decide) rfl (by decide) (fun h2 => ?_) (fun h2 => ?_)
    · simp only [Bool.false_eq_true, if_true, if_false, Decidable.not_not] at h2
      refine id (op_q (q_fieldAddr fi_42_0 rfl rfl (by decide)) ?_)
      refine list_guard_y rfl rfl rfl rfl (by decide) rfl ?_
      refine id (op_q (q_load one_3 1 rfl rfl rfl (by first | rfl | exact get_map1 _ 0 _ (by first | omega | (simp; omega))) (by decide)) ?_)
      refine list_guard_y rfl rfl rfl rfl (by decide) rfl ?_
      refine id (op_q (q_fieldAddr fi_42_1 rfl rfl (by decide)) ?_)
      refine list_guard_y rfl rfl rfl rfl (by decide) rfl ?_
      refine id (op_q (q_load one_3 1 rfl rfl rfl (by first | rfl | exact get_map1 _ 0 _ (by first | omega | (simp; omega))) (by decide)) ?_)
      refine list_guard_y rfl rfl rfl rfl (by decide) rfl ?_
      refine id (op_q (by first | exact q_andI rfl rfl (by decide) (by omega) (by omega) (by omega) (by omega) | exact q_ib rfl rfl rfl (by decide)) ?_)
      refine list_guard_y rfl rfl rfl rfl (by decide) rfl ?_
      refine id (op_q (q_eq rfl rfl (by decide)) ?_)
      refine list_cons rfl (op_q (q_pick rfl rfl (by decide)) ?_)
      refine list_cons rfl (op_q (q_assign rfl (by decide)) ?_)
      refine list_nil ?_
      refine hK2 _ ?_; clear hK2 K2
      refine codeT.imp (σ' := [(0, _), (1, _), (2, _)]) ?_ (imp_covers ⟨rfl, rfl, rfl, trivial⟩)
      refine code_ret ?_
      refine ends_ret (cs := []) rfl rfl rfl rfl trivial ?_
      congr 3
      exact decide_eq_decide.mpr ⟨fun k => ⟨h1, h2, by omega⟩, fun k => by have := k.2.2; omega⟩
    · simp only [Bool.false_eq_true, if_true, if_false, Decidable.not_not] at h2
      refine list_guard_n rfl rfl rfl rfl (by decide) rfl ?_
      refine list_guard_n rfl rfl rfl rfl (by decide) rfl ?_
      refine list_guard_n rfl rfl rfl rfl (by decide) rfl ?_
      refine list_guard_n rfl rfl rfl rfl (by decide) rfl ?_
      refine list_guard_n rfl rfl rfl rfl (by decide) rfl ?_
      refine list_cons rfl (op_q (q_pick rfl rfl (by decide)) ?_)
      refine list_cons rfl (op_q (q_assign rfl (by decide)) ?_)
      refine list_nil ?_
      refine hK2 _ ?_; clear hK2 K2
      refine codeT.imp (σ' := [(0, _), (1, _), (2, _)]) ?_ (imp_covers ⟨rfl, rfl, rfl, trivial⟩)
      refine code_ret ?_
      refine ends_ret (cs := []) rfl rfl rfl rfl trivial ?_
      rw [decide_eq_false (fun k => h2 k.2.1)]
  · simp only [Bool.false_eq_true, if_true, if_false, Decidable.not_not] at h1
    refine list_guard_n rfl rfl rfl rfl (by decide) rfl ?_
    refine list_guard_n rfl rfl rfl rfl (by decide) rfl ?_
    refine list_cons rfl (op_q (q_pick rfl rfl (by decide)) ?_)
    refine list_cons rfl (op_q (q_move rfl (by decide)) ?_)
    refine list_guard_n rfl rfl rfl rfl (by decide) rfl ?_
    refine list_guard_n rfl rfl rfl rfl (by decide) rfl ?_
    refine list_guard_n rfl rfl rfl rfl (by decide) rfl ?_
    refine list_guard_n rfl rfl rfl rfl (by decide) rfl ?_
    refine list_guard_n rfl rfl rfl rfl (by decide) rfl ?_
    refine list_guard_n rfl rfl rfl rfl (by decide) rfl ?_
    refine list_cons rfl (op_q (q_pick rfl rfl (by decide)) ?_)
    refine list_cons rfl (op_q (q_assign rfl (by decide)) ?_)
    refine list_nil ?_
    refine hK2 _ ?_; clear hK2 K2
    refine codeT.imp (σ' := [(0, _), (1, _), (2, _)]) ?_ (imp_covers ⟨rfl, rfl, rfl, trivial⟩)
    refine code_ret ?_
    refine ends_ret (cs := []) rfl rfl rfl rfl trivial ?_
    rw [decide_eq_false (fun k => h1 k.1)]

set_option maxRecDepth 4000 in
theorem impl_ShownCell (fx fy c : Int) : PCalls Tryd.prog 19 [.agg [.int .i64 fx, .int .i64 fy], .int .i64 c] (· = [.val (.int .i64 (if FaultP fx fy ∧ 0 ≤ c ∧ c ≤ 127 then shF fx fy c else 0)), .val (.bool (decide (FaultP fx fy ∧ 0 ≤ c ∧ c ≤ 127)))]) := by
  refine pcalls_of_code (n := 21) az Tryd.func19 (by kernel_rfl) rfl rfl (Nat.le_of_ble_eq_true rfl) (by intro t u h; simp [Tryd.f19] at h) ?_
  refine code_seq (fun K1 hK1 => ?_)
  refine code_region ?_
  refine list_cons rfl (op_box rfl (.inl ⟨rfl, rfl⟩) (by decide) (by decide) rfl ?_)
  refine list_cons rfl (op_q (q_assign rfl (by decide)) ?_)
  refine list_cons rfl (op_q (q_assign rfl (by decide)) ?_)
  refine list_nil ?_
  refine hK1 _ ?_; clear hK1 K1
  refine code_seq (fun K2 hK2 => ?_)
  refine code_seq (fun K3 hK3 => ?_)
  refine code_region ?_
  refine list_cons rfl (op_q (q_load_agg agg_42 2 (.inr ⟨rfl, _, rfl⟩) rfl rfl (by first | decide | omega | exact Nat.le_refl _ | (simp; done) | (simp; omega)) (by first | rfl | exact flat_part (flat_map _ (fun _ => rfl) _) _ _) (by decide)) ?_)
  refine list_cons rfl (op_call _ (impl_IsFault _ _) rfl rfl (by decide) (by decide) (by decide) rfl ?_)
  rintro _ rfl
  refine list_cons rfl (op_q (by first | exact q_notd rfl (by decide) | exact q_not rfl (by decide)) ?_)
  refine list_cons rfl (op_q (q_move rfl (by decide)) ?_)
  refine list_guard_d rfl rfl rfl rfl (by decide) rfl (by decide) (fun h1 => ?_) (fun h1 => ?_)
  · simp only [Bool.false_eq_true, if_true, if_false, Decidable.not_not] at h1
    (try simp only [Decidable.not_not] at h1); (try have qh1 := FaultP.b h1); (try have qqh1 := @xor7b c fx (by omega) (by omega))
    refine id (op_q (q_move rfl (by decide)) ?_)
    refine list_guard_y rfl rfl rfl rfl (by decide) rfl ?_
    refine id (op_call _ (impl_IsCell _) rfl rfl (by decide) (by decide) (by decide) rfl ?_)
    rintro _ rfl
    refine list_guard_y rfl rfl rfl rfl (by decide) rfl ?_
    refine id (op_q (by first | exact q_notd rfl (by decide) | exact q_not rfl (by decide)) ?_)
    refine list_cons rfl (op_q (q_pick rfl rfl (by decide)) ?_)
    refine list_nil ?_
    refine hK3 _ ?_; clear hK3 K3
    refine codeT.imp (σ' := [(0, _), (1, _), (2, _), (4, _), (5, _), (13, _)]) ?_ (imp_covers ⟨rfl, rfl, rfl, rfl, rfl, rfl, trivial⟩)
    refine code_cond_d rfl (fun h2 => ?_) (fun h2 => ?_)
    · skip
      (try simp only [Decidable.not_not] at h2); (try have qh2 := FaultP.b h2); (try have qqh2 := @xor7b c fx (by omega) (by omega))
      refine code_seq (fun K4 hK4 => ?_)
      refine code_region ?_
      refine list_cons rfl (op_q (q_assign rfl (by decide)) ?_)
      refine list_cons rfl (op_q (q_assign rfl (by decide)) ?_)
      refine list_nil ?_
      refine hK4 _ ?_; clear hK4 K4
      refine code_ret ?_
      refine then_r ?_; clear hK2 K2
      refine ends_ret (cs := []) rfl rfl rfl rfl trivial ?_
      simp only [if_neg (fun k : FaultP fx fy ∧ 0 ≤ c ∧ c ≤ 127 => h2 k.2), decide_eq_false (fun k : FaultP fx fy ∧ 0 ≤ c ∧ c ≤ 127 => h2 k.2)]
    · skip
      (try simp only [Decidable.not_not] at h2); (try have qh2 := FaultP.b h2); (try have qqh2 := @xor7b c fx (by omega) (by omega))
      refine code_skip ?_
      refine hK2 _ ?_; clear hK2 K2
      refine code_seq (fun K5 hK5 => ?_)
      refine code_region ?_
      refine list_cons rfl (op_q (q_move rfl (by decide)) ?_)
      refine list_cons rfl (op_q (q_fieldAddr fi_42_0 rfl rfl (by decide)) ?_)
      refine list_cons rfl (op_q (q_load one_3 2 rfl rfl rfl (by first | rfl | exact get_map1 _ 0 _ (by first | omega | (simp; omega))) (by decide)) ?_)
      refine list_cons rfl (op_q (by first | exact q_andNotI rfl rfl (by decide) (by omega) (by omega) (by omega) (by omega) | exact q_ib rfl rfl rfl (by decide)) ?_)
      refine list_cons rfl (op_q (q_fieldAddr fi_42_1 rfl rfl (by decide)) ?_)
      refine list_cons rfl (op_q (q_load one_3 2 rfl rfl rfl (by first | rfl | exact get_map1 _ 0 _ (by first | omega | (simp; omega))) (by decide)) ?_)
      refine list_cons rfl (op_q (by first | exact q_orI rfl rfl (by decide) (by omega) (by omega) (by omega) (by omega) | exact q_ib rfl rfl rfl (by decide)) ?_)
      refine list_cons rfl (op_q (q_assign rfl (by decide)) ?_)
      refine list_cons rfl (op_q (q_assign rfl (by decide)) ?_)
      refine list_nil ?_
      refine hK5 _ ?_; clear hK5 K5
      refine codeT.imp (σ' := [(0, _), (1, _), (2, _), (4, _), (5, _)]) ?_ (imp_covers ⟨rfl, rfl, rfl, rfl, rfl, trivial⟩)
      refine code_ret ?_
      refine ends_ret (cs := []) rfl rfl rfl rfl trivial ?_
      simp only [if_pos (show FaultP fx fy ∧ 0 ≤ c ∧ c ≤ 127 from ⟨h1, h2⟩), decide_eq_true (show FaultP fx fy ∧ 0 ≤ c ∧ c ≤ 127 from ⟨h1, h2⟩), shF_andNot h1.1 h2]
  · simp only [Bool.false_eq_true, if_true, if_false, Decidable.not_not] at h1
    (try simp only [Decidable.not_not] at h1); (try have qh1 := FaultP.b h1); (try have qqh1 := @xor7b c fx (by omega) (by omega))
    refine list_guard_n rfl rfl rfl rfl (by decide) rfl ?_
    refine list_guard_n rfl rfl rfl rfl (by decide) rfl ?_
    refine list_cons rfl (op_q (q_pick rfl rfl (by decide)) ?_)
    refine list_nil ?_
    refine hK3 _ ?_; clear hK3 K3
    refine code_cond_t rfl ?_
    refine code_seq (fun K6 hK6 => ?_)
    refine code_region ?_
    refine list_cons rfl (op_q (q_assign rfl (by decide)) ?_)
    refine list_cons rfl (op_q (q_assign rfl (by decide)) ?_)
    refine list_nil ?_
    refine hK6 _ ?_; clear hK6 K6
    refine code_ret ?_
    refine then_r ?_; clear hK2 K2
    refine ends_ret (cs := []) rfl rfl rfl rfl trivial ?_
    simp only [if_neg (fun k : FaultP fx fy ∧ 0 ≤ c ∧ c ≤ 127 => h1 k.1), decide_eq_false (fun k : FaultP fx fy ∧ 0 ≤ c ∧ c ≤ 127 => h1 k.1)]

set_option maxRecDepth 4000 in
set_option maxHeartbeats 1000000 in
theorem impl_ShownRow (fs : List (Int × Int)) (l : List Int) (hf : fs.length ≤ 4611686018427387904) (hl : l.length ≤ 4611686018427387904) : PCalls Tryd.prog 20 [.sl fs.length (fl fs), .sl l.length (l.map (.int .i64))] (· = [.own 0 3 1 (if FaultsP fs l then shRow fs l else []).length ((if FaultsP fs l then shRow fs l else []).map (.int .i64)), .val (.bool (decide (FaultsP fs l)))]) := by
  refine pcalls_of_code (n := 50) az Tryd.func20 (by kernel_rfl) rfl rfl (Nat.le_of_ble_eq_true rfl) (by intro t u h; simp [Tryd.f20] at h) ?_
  have hfl := fl_len fs
  have hfla := fl_flat fs
  refine code_seq (fun K1 hK1 => ?_)
  refine code_region ?_
  refine list_cons rfl (op_q (q_assign rfl (by decide)) ?_)
  refine list_cons rfl (op_q (q_assign rfl (by decide)) ?_)
  refine list_nil ?_
  refine hK1 _ ?_; clear hK1 K1
  refine code_seq (fun K2 hK2 => ?_)
  refine code_seq (fun K3 hK3 => ?_)
  refine code_region ?_
  refine list_cons rfl (op_q (q_move rfl (by decide)) ?_)
  refine list_cons rfl (op_call _ (impl_IsRow _ (by first | omega | (simp; omega))) rfl rfl (by decide) (by decide) (by decide) rfl ?_)
  rintro _ rfl
  refine list_cons rfl (op_q (by first | exact q_notd rfl (by decide) | exact q_not rfl (by decide)) ?_)
  refine list_cons rfl (op_q (q_move rfl (by decide)) ?_)
  refine list_guard_d rfl rfl rfl rfl (by decide) rfl (by decide) (fun h1 => ?_) (fun h1 => ?_)
  · simp only [Bool.false_eq_true, if_true, if_false, Decidable.not_not] at h1
    (try simp only [Decidable.not_not] at h1); (try have qlh1 := (h1 : RowP l).1)
    refine id (op_q (q_move rfl (by decide)) ?_)
    refine list_guard_y rfl rfl rfl rfl (by decide) rfl ?_
    refine id (op_q (q_len_sl Tryd.underlying27 rfl rfl (by decide)) ?_)
    refine list_guard_y rfl rfl rfl rfl (by decide) rfl ?_
    refine id (op_q (q_move rfl (by decide)) ?_)
    refine list_guard_y rfl rfl rfl rfl (by decide) rfl ?_
    refine id (op_q (q_len_sl Tryd.underlying24 rfl rfl (by decide)) ?_)
    refine list_guard_y rfl rfl rfl rfl (by decide) rfl ?_
    refine id (op_q (q_ne rfl rfl (by decide)) ?_)
    refine list_cons rfl (op_q (q_pick rfl rfl (by decide)) ?_)
    refine list_nil ?_
    refine hK3 _ ?_; clear hK3 K3
    refine codeT.imp (σ' := [(0, _), (1, _), (4, _), (5, _), (20, _)]) ?_ (imp_covers ⟨rfl, rfl, rfl, rfl, rfl, trivial⟩)
    refine code_cond_d rfl (fun h2 => ?_) (fun h2 => ?_)
    · skip
      (try simp only [Decidable.not_not] at h2); (try have qlh2 := (h2 : RowP l).1)
      refine code_seq (fun K4 hK4 => ?_)
      refine code_region ?_
      refine list_cons rfl (op_buildSlice sl_24 (parts := []) rfl rfl rfl (by decide) (by decide) (by decide) rfl ?_)
      refine list_cons rfl (op_q (q_assign rfl (by decide)) ?_)
      refine list_cons rfl (op_q (q_assign rfl (by decide)) ?_)
      refine list_nil ?_
      refine hK4 _ ?_; clear hK4 K4
      refine code_ret ?_
      refine then_r ?_; clear hK2 K2
      refine ends_ret (cs := []) rfl rfl rfl rfl trivial ?_
      rw [if_neg (fun k => h2 (by have := k.1; omega)), decide_eq_false (fun k => h2 (by have := k.1; omega))]; rfl
    · skip
      (try simp only [Decidable.not_not] at h2); (try have qlh2 := (h2 : RowP l).1)
      refine code_skip ?_
      refine hK2 _ ?_; clear hK2 K2
      refine code_seq (fun K5 hK5 => ?_)
      refine code_region ?_
      refine list_cons rfl (op_q (q_move rfl (by decide)) ?_)
      refine list_cons rfl (op_q (q_len_sl Tryd.underlying24 rfl rfl (by decide)) ?_)
      refine list_cons rfl (op_make sl_24 rfl rfl (by omega) (by decide) (by decide) rfl ?_)
      refine list_cons rfl (op_q (q_assign rfl (by decide)) ?_)
      refine list_nil ?_
      refine hK5 _ ?_; clear hK5 K5
      refine code_seq (fun K6 hK6 => ?_)
      refine code_seq (fun K7 hK7 => ?_)
      refine code_region ?_
      refine list_cons rfl (op_q (q_move rfl (by decide)) ?_)
      refine list_cons rfl (op_q (q_len_sl Tryd.underlying27 rfl rfl (by decide)) ?_)
      refine list_cons rfl (op_q (q_move rfl (by decide)) ?_)
      refine list_nil ?_
      refine hK7 _ ?_; clear hK7 K7
      refine code_block ?_
      refine code_loop (X := PV × Bool × Nat × List PV × Int) (fun x => [(0, .par 0 (.sl fs.length (fl fs))), (1, .par 1 (.sl l.length (l.map (.int .i64)))), (4, .val x.1), (5, .val (.bool x.2.1)), (6, .own 24 3 1 x.2.2.1 x.2.2.2.1), (25, .par 0 (.sl fs.length (fl fs))), (26, .val (.int .i64 fs.length)), (27, .val (.int .i64 x.2.2.2.2))]) (fun x => 0 ≤ x.2.2.2.2 ∧ x.2.2.2.2 ≤ (fs.length : Int) ∧ x.2.2.1 = l.length ∧ x.2.2.2.1 = (shZ fs l x.2.2.2.2.toNat).map (.int .i64) ∧ ∀ j, j < x.2.2.2.2.toNat → FaultP (fs.getD j (0, 0)).1 (fs.getD j (0, 0)).2) (fun x => fs.length - x.2.2.2.2.toNat) (_, _, _, _, _) (imp_covers ⟨rfl, rfl, rfl, rfl, rfl, rfl, rfl, rfl, trivial⟩) ?_ ?_
      · (try dsimp only)
        refine ⟨by omega, by omega, rfl, ?_, fun j hj => absurd hj (Nat.not_lt_zero j)⟩
        exact (zeros_map1 (PV.int .i64) 0 l.length).trans (by simp [shZ, shRowK])
      · intro x hI
        obtain ⟨t4_p, t5, shown_n, shown_c, t27⟩ := x
        replace hI : 0 ≤ t27 ∧ t27 ≤ (fs.length : Int) ∧ shown_n = l.length ∧ shown_c = (shZ fs l t27.toNat).map (.int .i64) ∧ ∀ j, j < t27.toNat → FaultP (fs.getD j (0, 0)).1 (fs.getD j (0, 0)).2 := hI
        show codeT _ _ _ [(0, .par 0 (.sl fs.length (fl fs))), (1, .par 1 (.sl l.length (l.map (.int .i64)))), (4, .val t4_p), (5, .val (.bool t5)), (6, .own 24 3 1 shown_n shown_c), (25, .par 0 (.sl fs.length (fl fs))), (26, .val (.int .i64 fs.length)), (27, .val (.int .i64 t27))] _
        obtain ⟨i1, i2, rfl, rfl, i5⟩ := hI
        have hzl := shZ_len fs l (k := t27.toNat) (by omega)
        refine code_seq (fun K8 hK8 => ?_)
        refine code_region ?_
        refine list_cons rfl (op_q (q_lt rfl rfl (by decide)) ?_)
        refine list_nil ?_
        refine hK8 _ ?_; clear hK8 K8
        refine code_seq (fun K9 hK9 => ?_)
        refine code_cond_d rfl (fun h3 => ?_) (fun h3 => ?_)
        · skip
          (try simp only [Decidable.not_not] at h3); (try have qlh3 := (h3 : RowP l).1)
          refine code_skip ?_
          refine hK9 _ ?_; clear hK9 K9
          refine code_seq (fun K10 hK10 => ?_)
          refine code_block ?_
          refine code_seq (fun K11 hK11 => ?_)
          refine code_region ?_
          refine list_cons rfl (op_q (q_move rfl (by decide)) ?_)
          refine list_cons rfl (op_q (q_indexAddr_rd sl_27 rfl (.inl ⟨_, rfl, rfl⟩) rfl (by omega) (by omega) (by decide)) ?_)
          refine list_cons rfl (op_q (q_load_rd_aggE agg_42 rfl (.inl ⟨_, rfl⟩) (by first | decide | omega | exact Nat.le_refl _ | (simp; done) | (simp; omega)) (fl_at fs t27.toNat (by omega)) rfl (by decide)) ?_)
          refine list_cons rfl (op_alloc zt_42 (by decide) (by decide) rfl ?_)
          refine list_cons rfl (op_q (q_assign rfl (by decide)) ?_)
          refine list_cons rfl (op_store (agg_42).2 8 [8] (by intro t ht; simp only [List.mem_cons, List.not_mem_nil, or_false] at ht; subst ht; rfl) (.inr ⟨rfl, _, rfl⟩) rfl rfl rfl rfl (by first | rfl | exact flat_part (flat_map _ (fun _ => rfl) _) _ _ | exact flat_map _ (fun _ => rfl) _) (by first | rfl | (simp [PV.cells]; done)) (by first | decide | omega | (simp; omega)) (by decide) rfl ?_)
          refine list_nil ?_
          refine hK11 _ ?_; clear hK11 K11
          refine codeT.imp (σ' := [(0, _), (1, _), (4, _), (5, _), (6, _), (7, _), (8, _), (25, _), (26, _), (27, _)]) ?_ (imp_covers ⟨rfl, rfl, rfl, rfl, rfl, rfl, rfl, rfl, rfl, rfl, trivial⟩)
          refine code_seq (fun K12 hK12 => ?_)
          refine any_start fun ob1_0 => ?_
          refine any_op (rd := [8]) ob1_0 rfl rfl rfl (anyT_quiet [(8, _)] ⟨rfl, trivial⟩ rfl (q_load_agg agg_42 8 (.inr ⟨rfl, _, rfl⟩) rfl rfl (by first | decide | omega | exact Nat.le_refl _ | (simp; done) | (simp; omega)) (by first | rfl | exact flat_part (flat_map _ (fun _ => rfl) _) _ _) (by decide))) (fun ob1_1 => ?_)
          refine any_op (rd := [1]) ob1_1 rfl rfl rfl (anyT_quiet [(1, _)] ⟨rfl, trivial⟩ rfl (q_move rfl (by decide))) (fun ob1_2 => ?_)
          refine any_op (rd := [7]) ob1_2 rfl rfl rfl (anyT_quiet [(7, _)] ⟨rfl, trivial⟩ rfl (q_move rfl (by decide))) (fun ob1_3 => ?_)
          refine any_op (rd := [34, 35]) ob1_3 rfl rfl rfl (anyT_quiet [(34, _), (35, _)] ⟨rfl, rfl, trivial⟩ rfl (q_indexAddr_rd sl_24 rfl (.inl ⟨_, rfl, rfl⟩) rfl (by omega) (by omega) (by decide))) (fun ob1_4 => ?_)
          refine any_op (rd := [36]) ob1_4 rfl rfl rfl (anyT_quiet [(36, _)] ⟨rfl, trivial⟩ rfl (q_load_rd one_3 rfl (.inl ⟨_, (by first | rfl | exact congrArg (SV.rpar _) (drop_map1 _ 0 _ (by first | omega | (simp; omega)))), rfl⟩) (by decide))) (fun ob1_5 => ?_)
          refine any_op (rd := [33, 37]) ob1_5 rfl rfl rfl (fun σ hag hfr => by have e33 : σ.at 33 = some _ := (hag 33 (by decide)).trans rfl; have e37 : σ.at 37 = some _ := (hag 37 (by decide)).trans rfl; exact op_call _ (impl_ShownCell _ _ _) (evs_cons e33 (evs_cons e37 evs_nil)) rfl (by decide) (by decide) (by decide) hfr (fun rs hR => by subst hR; rfl)) (fun ob1_6 => ?_)
          refine any_op (rd := [38]) ob1_6 rfl rfl rfl (anyT_quiet [(38, _)] ⟨rfl, trivial⟩ rfl (q_move rfl (by decide))) (fun ob1_7 => ?_)
          refine any_op (rd := [32]) ob1_7 rfl rfl rfl (anyT_quiet [(32, _)] ⟨rfl, trivial⟩ rfl (q_extract rfl rfl (by decide))) (fun ob1_8 => ?_)
          refine any_op (rd := [32]) ob1_8 rfl rfl rfl (anyT_quiet [(32, _)] ⟨rfl, trivial⟩ rfl (q_extract rfl rfl (by decide))) (fun ob1_9 => ?_)
          refine any_op (rd := [39]) ob1_9 rfl rfl rfl (anyT_quiet [(39, _)] ⟨rfl, trivial⟩ rfl (q_assign rfl (by decide))) (fun ob1_10 => ?_)
          refine any_end [[], [], [], [1, 2], [1, 2, 3], [0, 1, 2, 3, 4], [0, 1, 2, 3, 4, 5], [0, 1, 2, 3, 4, 5, 6], [0, 1, 2, 3, 4, 5, 6], [0, 1, 2, 3, 4, 5, 6, 7], [0, 1, 2, 3, 4, 5, 6, 7, 8, 9]] ob1_10 (by kernel_rfl) (Nat.le_of_ble_eq_true rfl) (by decide) (by decide) (by kernel_rfl) (by kernel_rfl) (by kernel_rfl) (by kernel_rfl) (by kernel_rfl) ?_
          clear ob1_0 ob1_1 ob1_2 ob1_3 ob1_4 ob1_5 ob1_6 ob1_7 ob1_8 ob1_9 ob1_10
          refine listT.imp (σ' := [(0, _), (1, _), (4, _), (5, _), (6, _), (7, _), (8, _), (9, _), (25, _), (26, _), (27, _), (32, _), (33, _), (34, _), (35, _), (36, _), (37, _), (38, _), (39, _), (40, _)]) ?_ (imp_covers ⟨rfl, rfl, rfl, rfl, rfl, rfl, rfl, rfl, rfl, rfl, rfl, rfl, rfl, rfl, rfl, rfl, rfl, rfl, rfl, rfl, trivial⟩)
          refine list_cons rfl (op_q (q_assign rfl (by decide)) ?_)
          refine list_nil ?_
          refine hK12 _ ?_; clear hK12 K12
          refine codeT.imp (σ' := [(0, _), (1, _), (4, _), (5, _), (6, _), (7, _), (8, _), (9, _), (10, _), (25, _), (26, _), (27, _)]) ?_ (imp_covers ⟨rfl, rfl, rfl, rfl, rfl, rfl, rfl, rfl, rfl, rfl, rfl, rfl, trivial⟩)
          refine code_seq (fun K13 hK13 => ?_)
          refine code_seq (fun K14 hK14 => ?_)
          refine code_region ?_
          refine list_cons rfl (op_q (q_move rfl (by decide)) ?_)
          refine list_cons rfl (op_q (by first | exact q_notd rfl (by decide) | exact q_not rfl (by decide)) ?_)
          refine list_nil ?_
          refine hK14 _ ?_; clear hK14 K14
          refine code_cond_d rfl (fun h4 => ?_) (fun h4 => ?_)
          · skip
            (try simp only [Decidable.not_not] at h4); (try have qlh4 := (h4 : RowP l).1)
            refine code_seq (fun K15 hK15 => ?_)
            refine code_region ?_
            refine list_cons rfl (op_buildSlice sl_24 (parts := []) rfl rfl rfl (by decide) (by decide) (by decide) rfl ?_)
            refine list_cons rfl (op_q (q_assign rfl (by decide)) ?_)
            refine list_cons rfl (op_q (q_assign rfl (by decide)) ?_)
            refine list_nil ?_
            refine hK15 _ ?_; clear hK15 K15
            refine code_ret ?_
            refine then_r ?_; clear hK13 K13
            refine blk_r ?_
            refine then_r ?_; clear hK10 K10
            refine then_r ?_
            refine blk_r ?_
            refine then_r ?_; clear hK6 K6
            refine ends_ret (cs := []) rfl rfl rfl rfl trivial ?_
            rw [if_neg (fun k => h4 ⟨k.at (by omega), k.2.1.at (by omega)⟩), decide_eq_false (fun k => h4 ⟨k.at (by omega), k.2.1.at (by omega)⟩)]; rfl
          · skip
            (try simp only [Decidable.not_not] at h4); (try have qlh4 := (h4 : RowP l).1)
            refine code_skip ?_
            refine hK13 _ ?_; clear hK13 K13
            refine code_region ?_
            refine list_cons rfl (op_q (q_move rfl (by decide)) ?_)
            refine list_cons rfl (op_q (q_move rfl (by decide)) ?_)
            refine list_cons rfl (op_q (q_move rfl (by decide)) ?_)
            refine list_cons rfl (op_q (q_indexAddr_own sl_24 rfl rfl (by omega) (by omega) (by decide)) ?_)
            refine list_cons rfl (op_store (one_3).2 6 [6, 44] (by intro t ht; simp only [List.mem_cons, List.not_mem_nil, or_false] at ht; rcases ht with rfl | rfl <;> rfl) (.inl rfl) rfl rfl rfl rfl rfl rfl (by first | decide | omega | (simp; omega)) (by decide) rfl ?_)
            refine list_nil ?_
            refine blk_n ?_
            refine hK10 _ ?_; clear hK10 K10
            refine codeT.imp (σ' := [(0, _), (1, _), (4, _), (5, _), (6, _), (7, _), (8, _), (9, _), (10, _), (25, _), (26, _), (27, _)]) ?_ (imp_covers ⟨rfl, rfl, rfl, rfl, rfl, rfl, rfl, rfl, rfl, rfl, rfl, rfl, trivial⟩)
            refine code_region ?_
            refine list_cons rfl (op_q (by first | exact q_addI rfl rfl (by decide) (by omega) (by omega) | exact q_ib rfl rfl rfl (by decide)) ?_)
            refine list_cons rfl (op_q (q_move rfl (by decide)) ?_)
            refine list_nil ?_
            refine then_n ⟨(_, _, _, _, _), imp_covers ⟨rfl, rfl, rfl, rfl, rfl, rfl, rfl, rfl, trivial⟩, ?_, ?_⟩
            · (try dsimp only)
              rw [if_pos h4]
              refine ⟨by omega, by omega, rfl, ?_, fun j hj => ?_⟩
              · rw [show (t27 + 1).toNat = t27.toNat + 1 by omega]
                exact shZ_put fs l (by omega)
              · by_cases e : j = t27.toNat
                · subst e; exact (h4).1
                · exact i5 j (by omega)
            · (try dsimp only); omega
        · skip
          (try simp only [Decidable.not_not] at h3); (try have qlh3 := (h3 : RowP l).1)
          refine code_exit ?_
          refine then_x ?_; clear hK9 K9
          refine then_x ?_
          refine blk_hit ?_
          refine hK6 _ ?_; clear hK6 K6
          refine code_seq (fun K16 hK16 => ?_)
          refine code_region ?_
          refine list_cons rfl (op_q (q_move rfl (by decide)) ?_)
          refine list_cons rfl (op_q (q_assign rfl (by decide)) ?_)
          refine list_cons rfl (op_q (q_assign rfl (by decide)) ?_)
          refine list_nil ?_
          refine hK16 _ ?_; clear hK16 K16
          refine code_ret ?_
          refine ends_ret (cs := []) rfl rfl rfl rfl trivial ?_
          have hw : FaultsP fs l := FaultsP.of (by omega) h1 (fun j hj => i5 j (by omega))
          rw [if_pos hw, decide_eq_true hw, shRow_len, ← shZ_end, show t27.toNat = l.length by omega]
  · simp only [Bool.false_eq_true, if_true, if_false, Decidable.not_not] at h1
    (try simp only [Decidable.not_not] at h1); (try have qlh1 := (h1 : RowP l).1)
    refine list_guard_n rfl rfl rfl rfl (by decide) rfl ?_
    refine list_guard_n rfl rfl rfl rfl (by decide) rfl ?_
    refine list_guard_n rfl rfl rfl rfl (by decide) rfl ?_
    refine list_guard_n rfl rfl rfl rfl (by decide) rfl ?_
    refine list_cons rfl (op_q (q_pick rfl rfl (by decide)) ?_)
    refine list_nil ?_
    refine hK3 _ ?_; clear hK3 K3
    refine code_cond_t rfl ?_
    refine code_seq (fun K17 hK17 => ?_)
    refine code_region ?_
    refine list_cons rfl (op_buildSlice sl_24 (parts := []) rfl rfl rfl (by decide) (by decide) (by decide) rfl ?_)
    refine list_cons rfl (op_q (q_assign rfl (by decide)) ?_)
    refine list_cons rfl (op_q (q_assign rfl (by decide)) ?_)
    refine list_nil ?_
    refine hK17 _ ?_; clear hK17 K17
    refine code_ret ?_
    refine then_r ?_; clear hK2 K2
    refine ends_ret (cs := []) rfl rfl rfl rfl trivial ?_
    rw [if_neg (fun k => h1 k.2.1), decide_eq_false (fun k => h1 k.2.1)]; rfl

end Go.Proofs.YtjbbijlbenkgcaaDoor
