/- Contracts of functions, walked over the pure layer; each says for which arguments. -/
import Derived.Test.YtfkdochnjcpedaaDoorIm3fTy
import Derived.Test.YtfkdochnjcpedaaDoorTf
import Derived.Test.YtfkdochnjcpedaaDoorSp
import Derived.Test.YtfkdochnjcpedaaDoorShelf
import Derived.Test.YtfkdochnjcpedaaDoorIm
import Derived.Test.YtfkdochnjcpedaaDoorS3
import Derived.Test.YtfkdochnjcpedaaDoorS3
import Derived.Test.YtfkdochnjcpedaaDoorS7
namespace Go.Proofs.YtfkdochnjcpedaaDoor
open Go.RowKit Im3fTy
set_option linter.unusedVariables false
set_option linter.unusedSimpArgs false

theorem xor_sub7 (a b : Nat) (ha : a < 128) (hb : b < 128) : a ^^^ (a &&& b) = a - (a &&& b) := by
  have k : below 128 (fun x => below 128 (fun y => Nat.beq (x ^^^ (x &&& y)) (x - (x &&& y)))) = true := by kernel_rfl
  exact Nat.eq_of_beq_eq_true (below_ok (below_ok k a ha) b hb)
theorem shF_andNot {fx fy c : Int} (hx : 0 ≤ fx ∧ fx ≤ 127) (hc : 0 ≤ c ∧ c ≤ 127) : (((((c.toNat ^^^ (c.toNat &&& fx.toNat) : Nat) : Int)).toNat ||| fy.toNat : Nat) : Int) = shF fx fy c := by
  unfold shF shB
  rw [Int.toNat_natCast, xor_sub7 _ _ (by omega) (by omega)]
theorem xor7b {a b : Int} (ha : 0 ≤ a ∧ a ≤ 127) (hb : 0 ≤ b ∧ b ≤ 127) : 0 ≤ ((a.toNat ^^^ (a.toNat &&& b.toNat) : Nat) : Int) ∧ ((a.toNat ^^^ (a.toNat &&& b.toNat) : Nat) : Int) ≤ 127 := by
  rw [xor_sub7 _ _ (by omega) (by omega)]; omega
theorem ofInt_pos {x : Int} (h0 : -9223372036854775808 ≤ x) (h1 : x ≤ 9223372036854775807) (h : (BitVec.ofInt 64 x).toNat < 9223372036854775808) : x = ((BitVec.ofInt 64 x).toNat : Int) := by
  rw [BitVec.toNat_ofInt] at h ⊢
  omega
theorem ior_in {x y : Int} (hx : -9223372036854775808 ≤ x ∧ x ≤ 9223372036854775807) (hy : -9223372036854775808 ≤ y ∧ y ≤ 9223372036854775807) (h : 0 ≤ ior .i64 x y ∧ ior .i64 x y ≤ 127) : (0 ≤ x ∧ x ≤ 127) ∧ (0 ≤ y ∧ y ≤ 127) := by
  have hlt := (BitVec.ofInt 64 x ||| BitVec.ofInt 64 y).isLt
  have e : (BitVec.ofInt 64 x ||| BitVec.ofInt 64 y).toNat ≤ 127 := by
    unfold ior at h
    rw [show IntKind.i64.bits = 64 from rfl] at h
    generalize (BitVec.ofInt 64 x ||| BitVec.ofInt 64 y).toNat = m at h hlt
    rw [IntKind.wrap_i64] at h
    omega
  rw [BitVec.toNat_or] at e
  have e1 : (BitVec.ofInt 64 x).toNat ≤ 127 := Nat.le_trans Nat.left_le_or e
  have e2 : (BitVec.ofInt 64 y).toNat ≤ 127 := Nat.le_trans Nat.right_le_or e
  have k1 := ofInt_pos hx.1 hx.2 (by omega)
  have k2 := ofInt_pos hy.1 hy.2 (by omega)
  omega
theorem ior_7 {x y : Int} (hx : 0 ≤ x ∧ x ≤ 127) (hy : 0 ≤ y ∧ y ≤ 127) : ior .i64 x y = ((x.toNat ||| y.toNat : Nat) : Int) := by
  have h := ior_nat x.toNat y.toNat (by omega) (by omega)
  rwa [Int.toNat_of_nonneg hx.1, Int.toNat_of_nonneg hy.1] at h
section
variable {fx fy gx gy : Int} (b1 : -9223372036854775808 ≤ fx ∧ fx ≤ 9223372036854775807) (b2 : -9223372036854775808 ≤ fy ∧ fy ≤ 9223372036854775807) (b3 : -9223372036854775808 ≤ gx ∧ gx ≤ 9223372036854775807) (b4 : -9223372036854775808 ≤ gy ∧ gy ≤ 9223372036854775807)
theorem join_of (h : FaultP fx fy ∧ FaultP gx gy ∧ FaultP ((fx.toNat ||| gx.toNat : Nat) : Int) ((fy.toNat ||| gy.toNat : Nat) : Int)) : FaultP (ior .i64 fx gx) (ior .i64 fy gy) ∧ ior .i64 fx gx = ((fx.toNat ||| gx.toNat : Nat) : Int) ∧ ior .i64 fy gy = ((fy.toNat ||| gy.toNat : Nat) : Int) := by
  have e1 := ior_7 h.1.1 h.2.1.1
  have e2 := ior_7 h.1.2.1 h.2.1.2.1
  rw [e1, e2]; exact ⟨h.2.2, rfl, rfl⟩
theorem sub_zero7 {a b c d : Nat} (h : (a ||| c) &&& (b ||| d) = 0) : a &&& b = 0 ∧ c &&& d = 0 := by
  constructor
  · apply Nat.eq_of_testBit_eq
    intro i
    have := congrArg (fun z => z.testBit i) h
    simp only [Nat.testBit_and, Nat.testBit_or, Nat.zero_testBit] at this ⊢
    cases ha : a.testBit i <;> cases hb : b.testBit i <;> simp_all
  · apply Nat.eq_of_testBit_eq
    intro i
    have := congrArg (fun z => z.testBit i) h
    simp only [Nat.testBit_and, Nat.testBit_or, Nat.zero_testBit] at this ⊢
    cases ha : c.testBit i <;> cases hb : d.testBit i <;> simp_all
include b1 b2 b3 b4 in
theorem join_is (h : FaultP (ior .i64 fx gx) (ior .i64 fy gy)) : FaultP fx fy ∧ FaultP gx gy ∧ FaultP ((fx.toNat ||| gx.toNat : Nat) : Int) ((fy.toNat ||| gy.toNat : Nat) : Int) := by
  obtain ⟨h1, h2⟩ := ior_in b1 b3 h.1
  obtain ⟨h3, h4⟩ := ior_in b2 b4 h.2.1
  have e1 := ior_7 h1 h2
  have e2 := ior_7 h3 h4
  rw [e1, e2] at h
  have hz := h.2.2
  rw [Int.toNat_natCast, Int.toNat_natCast] at hz
  obtain ⟨z1, z2⟩ := sub_zero7 hz
  exact ⟨⟨h1, h3, z1⟩, ⟨h2, h4, z2⟩, h⟩
end

set_option maxRecDepth 4000 in
theorem impl_IsFault (fx fy : Int) : PCalls Tryd.prog 97 [.agg [.int .i64 fx, .int .i64 fy]] (· = [.val (.bool (decide (FaultP fx fy)))]) := by
  refine pcalls_of_code (n := 19) az Tryd.func97 (by kernel_rfl) rfl rfl (Nat.le_of_ble_eq_true rfl) (by intro t u h; simp [Tryd.f97] at h) ?_
  refine code_seq (fun K1 hK1 => ?_)
  refine code_region ?_
  refine list_cons rfl (op_box rfl (.inl ⟨rfl, rfl⟩) (by decide) (by decide) rfl ?_)
  refine list_cons rfl (op_q (q_assign rfl (by decide)) ?_)
  refine list_nil ?_
  refine hK1 _ ?_; clear hK1 K1
  refine code_seq (fun K2 hK2 => ?_)
  refine code_region ?_
  refine list_cons rfl (op_q (q_fieldAddr fi_91_0 rfl rfl (by decide)) ?_)
  refine list_cons rfl (op_q (q_load one_3 1 rfl rfl rfl (by first | rfl | exact get_map1 _ 0 _ (by first | omega | (simp; omega))) (by decide)) ?_)
  refine list_cons rfl (op_call _ (impl_IsCell _) rfl rfl (by decide) (by decide) (by decide) rfl ?_)
  rintro _ rfl
  refine list_cons rfl (op_q (q_move rfl (by decide)) ?_)
  refine list_guard_d rfl rfl rfl rfl (by decide) rfl (by decide) (fun h1 => ?_) (fun h1 => ?_)
  · simp only [Bool.false_eq_true, if_true, if_false, Decidable.not_not] at h1
    refine id (op_q (q_fieldAddr fi_91_1 rfl rfl (by decide)) ?_)
    refine list_guard_y rfl rfl rfl rfl (by decide) rfl ?_
    refine id (op_q (q_load one_3 1 rfl rfl rfl (by first | rfl | exact get_map1 _ 0 _ (by first | omega | (simp; omega))) (by decide)) ?_)
    refine list_guard_y rfl rfl rfl rfl (by decide) rfl ?_
    refine id (op_call _ (impl_IsCell _) rfl rfl (by decide) (by decide) (by decide) rfl ?_)
    rintro _ rfl
    refine list_cons rfl (op_q (q_pick rfl rfl (by decide)) ?_)
    refine list_cons rfl (op_q (q_move rfl (by decide)) ?_)
    refine list_guard_d rfl rfl rfl rfl (by decide) rfl (by decide) (fun h2 => ?_) (fun h2 => ?_)
    · simp only [Bool.false_eq_true, if_true, if_false, Decidable.not_not] at h2
      refine id (op_q (q_fieldAddr fi_91_0 rfl rfl (by decide)) ?_)
      refine list_guard_y rfl rfl rfl rfl (by decide) rfl ?_
      refine id (op_q (q_load one_3 1 rfl rfl rfl (by first | rfl | exact get_map1 _ 0 _ (by first | omega | (simp; omega))) (by decide)) ?_)
      refine list_guard_y rfl rfl rfl rfl (by decide) rfl ?_
      refine id (op_q (q_fieldAddr fi_91_1 rfl rfl (by decide)) ?_)
      refine list_guard_y rfl rfl rfl rfl (by decide) rfl ?_
      refine id (op_q (q_load one_3 1 rfl rfl rfl (by first | rfl | exact get_map1 _ 0 _ (by first | omega | (simp; omega))) (by decide)) ?_)
      refine list_guard_y rfl rfl rfl rfl (by decide) rfl ?_
      refine id (op_q (by first | exact q_andI rfl rfl (by decide) (by omega) (by omega) (by omega) (by omega) | exact q_ib rfl rfl rfl (by decide)) ?_)
      refine list_guard_y rfl rfl rfl rfl (by decide) rfl ?_
      refine id (op_q (q_eq rfl rfl (by decide)) ?_)
      refine list_cons rfl (op_q (q_pick rfl rfl (by decide)) ?_)
      refine list_cons rfl (op_q (q_assign rfl (by decide)) ?_)
      refine list_nil ?_
      refine hK2 _ ?_; clear hK2 K2
      refine codeT.imp (σ' := [(0, _), (1, _), (2, _)]) ?_ (imp_covers ⟨rfl, rfl, rfl, trivial⟩)
      refine code_ret ?_
      refine ends_ret (cs := []) rfl rfl rfl rfl trivial ?_
      congr 3
      exact decide_eq_decide.mpr ⟨fun k => ⟨h1, h2, by omega⟩, fun k => by have := k.2.2; omega⟩
    simp only [Bool.false_eq_true, if_true, if_false, Decidable.not_not] at h2
    refine list_guard_n rfl rfl rfl rfl (by decide) rfl ?_
    refine list_guard_n rfl rfl rfl rfl (by decide) rfl ?_
    refine list_guard_n rfl rfl rfl rfl (by decide) rfl ?_
    refine list_guard_n rfl rfl rfl rfl (by decide) rfl ?_
    refine list_guard_n rfl rfl rfl rfl (by decide) rfl ?_
    refine list_cons rfl (op_q (q_pick rfl rfl (by decide)) ?_)
    refine list_cons rfl (op_q (q_assign rfl (by decide)) ?_)
    refine list_nil ?_
    refine hK2 _ ?_; clear hK2 K2
    refine codeT.imp (σ' := [(0, _), (1, _), (2, _)]) ?_ (imp_covers ⟨rfl, rfl, rfl, trivial⟩)
    refine code_ret ?_
    refine ends_ret (cs := []) rfl rfl rfl rfl trivial ?_
    rw [decide_eq_false (fun k => h2 k.2.1)]
  simp only [Bool.false_eq_true, if_true, if_false, Decidable.not_not] at h1
  refine list_guard_n rfl rfl rfl rfl (by decide) rfl ?_
  refine list_guard_n rfl rfl rfl rfl (by decide) rfl ?_
  refine list_cons rfl (op_q (q_pick rfl rfl (by decide)) ?_)
  refine list_cons rfl (op_q (q_move rfl (by decide)) ?_)
  refine list_guard_n rfl rfl rfl rfl (by decide) rfl ?_
  refine list_guard_n rfl rfl rfl rfl (by decide) rfl ?_
  refine list_guard_n rfl rfl rfl rfl (by decide) rfl ?_
  refine list_guard_n rfl rfl rfl rfl (by decide) rfl ?_
  refine list_guard_n rfl rfl rfl rfl (by decide) rfl ?_
  refine list_guard_n rfl rfl rfl rfl (by decide) rfl ?_
  refine list_cons rfl (op_q (q_pick rfl rfl (by decide)) ?_)
  refine list_cons rfl (op_q (q_assign rfl (by decide)) ?_)
  refine list_nil ?_
  refine hK2 _ ?_; clear hK2 K2
  refine codeT.imp (σ' := [(0, _), (1, _), (2, _)]) ?_ (imp_covers ⟨rfl, rfl, rfl, trivial⟩)
  refine code_ret ?_
  refine ends_ret (cs := []) rfl rfl rfl rfl trivial ?_
  rw [decide_eq_false (fun k => h1 k.1)]

set_option maxRecDepth 4000 in
theorem impl_ShownCell (fx fy c : Int) : PCalls Tryd.prog 92 [.agg [.int .i64 fx, .int .i64 fy], .int .i64 c] (· = [.val (.int .i64 (if FaultP fx fy ∧ 0 ≤ c ∧ c ≤ 127 then shF fx fy c else 0)), .val (.bool (decide (FaultP fx fy ∧ 0 ≤ c ∧ c ≤ 127)))]) := by
  refine pcalls_of_code (n := 21) az Tryd.func92 (by kernel_rfl) rfl rfl (Nat.le_of_ble_eq_true rfl) (by intro t u h; simp [Tryd.f92] at h) ?_
  refine code_seq (fun K1 hK1 => ?_)
  refine code_region ?_
  refine list_cons rfl (op_box rfl (.inl ⟨rfl, rfl⟩) (by decide) (by decide) rfl ?_)
  refine list_cons rfl (op_q (q_assign rfl (by decide)) ?_)
  refine list_cons rfl (op_q (q_assign rfl (by decide)) ?_)
  refine list_nil ?_
  refine hK1 _ ?_; clear hK1 K1
  refine code_seq (fun K2 hK2 => ?_)
  refine code_seq (fun K3 hK3 => ?_)
  refine code_region ?_
  refine list_cons rfl (op_q (q_load_agg agg_91 2 (.inr ⟨rfl, _, rfl⟩) rfl rfl (by first | decide | omega | exact Nat.le_refl _ | (simp; done) | (simp; omega)) (by first | rfl | exact flat_part (flat_map _ (fun _ => rfl) _) _ _) (by decide)) ?_)
  refine list_cons rfl (op_call _ (impl_IsFault _ _) rfl rfl (by decide) (by decide) (by decide) rfl ?_)
  rintro _ rfl
  refine list_cons rfl (op_q (by first | exact q_notd rfl (by decide) | exact q_not rfl (by decide)) ?_)
  refine list_cons rfl (op_q (q_move rfl (by decide)) ?_)
  refine list_guard_d rfl rfl rfl rfl (by decide) rfl (by decide) (fun h1 => ?_) (fun h1 => ?_)
  · simp only [Bool.false_eq_true, if_true, if_false, Decidable.not_not] at h1
    (try simp only [Decidable.not_not] at h1); (try have qh1 := FaultP.b h1); (try have qqh1 := @xor7b c fx (by omega) (by omega))
    refine id (op_q (q_move rfl (by decide)) ?_)
    refine list_guard_y rfl rfl rfl rfl (by decide) rfl ?_
    refine id (op_call _ (impl_IsCell _) rfl rfl (by decide) (by decide) (by decide) rfl ?_)
    rintro _ rfl
    refine list_guard_y rfl rfl rfl rfl (by decide) rfl ?_
    refine id (op_q (by first | exact q_notd rfl (by decide) | exact q_not rfl (by decide)) ?_)
    refine list_cons rfl (op_q (q_pick rfl rfl (by decide)) ?_)
    refine list_nil ?_
    refine hK3 _ ?_; clear hK3 K3
    refine codeT.imp (σ' := [(0, _), (1, _), (2, _), (4, _), (5, _), (13, _)]) ?_ (imp_covers ⟨rfl, rfl, rfl, rfl, rfl, rfl, trivial⟩)
    refine code_cond_d rfl (fun h2 => ?_) (fun h2 => ?_)
    · skip
      (try simp only [Decidable.not_not] at h2); (try have qh2 := FaultP.b h2); (try have qqh2 := @xor7b c fx (by omega) (by omega))
      refine code_seq (fun K4 hK4 => ?_)
      refine code_region ?_
      refine list_cons rfl (op_q (q_assign rfl (by decide)) ?_)
      refine list_cons rfl (op_q (q_assign rfl (by decide)) ?_)
      refine list_nil ?_
      refine hK4 _ ?_; clear hK4 K4
      refine code_ret ?_
      refine then_r ?_; clear hK2 K2
      refine ends_ret (cs := []) rfl rfl rfl rfl trivial ?_
      simp only [if_neg (fun k : FaultP fx fy ∧ 0 ≤ c ∧ c ≤ 127 => h2 k.2), decide_eq_false (fun k : FaultP fx fy ∧ 0 ≤ c ∧ c ≤ 127 => h2 k.2)]
    (try simp only [Decidable.not_not] at h2); (try have qh2 := FaultP.b h2); (try have qqh2 := @xor7b c fx (by omega) (by omega))
    refine code_skip ?_
    refine hK2 _ ?_; clear hK2 K2
    refine code_seq (fun K5 hK5 => ?_)
    refine code_region ?_
    refine list_cons rfl (op_q (q_move rfl (by decide)) ?_)
    refine list_cons rfl (op_q (q_fieldAddr fi_91_0 rfl rfl (by decide)) ?_)
    refine list_cons rfl (op_q (q_load one_3 2 rfl rfl rfl (by first | rfl | exact get_map1 _ 0 _ (by first | omega | (simp; omega))) (by decide)) ?_)
    refine list_cons rfl (op_q (by first | exact q_andNotI rfl rfl (by decide) (by omega) (by omega) (by omega) (by omega) | exact q_ib rfl rfl rfl (by decide)) ?_)
    refine list_cons rfl (op_q (q_fieldAddr fi_91_1 rfl rfl (by decide)) ?_)
    refine list_cons rfl (op_q (q_load one_3 2 rfl rfl rfl (by first | rfl | exact get_map1 _ 0 _ (by first | omega | (simp; omega))) (by decide)) ?_)
    refine list_cons rfl (op_q (by first | exact q_orI rfl rfl (by decide) (by omega) (by omega) (by omega) (by omega) | exact q_ib rfl rfl rfl (by decide)) ?_)
    refine list_cons rfl (op_q (q_assign rfl (by decide)) ?_)
    refine list_cons rfl (op_q (q_assign rfl (by decide)) ?_)
    refine list_nil ?_
    refine hK5 _ ?_; clear hK5 K5
    refine codeT.imp (σ' := [(0, _), (1, _), (2, _), (4, _), (5, _)]) ?_ (imp_covers ⟨rfl, rfl, rfl, rfl, rfl, trivial⟩)
    refine code_ret ?_
    refine ends_ret (cs := []) rfl rfl rfl rfl trivial ?_
    simp only [if_pos (show FaultP fx fy ∧ 0 ≤ c ∧ c ≤ 127 from ⟨h1, h2⟩), decide_eq_true (show FaultP fx fy ∧ 0 ≤ c ∧ c ≤ 127 from ⟨h1, h2⟩), shF_andNot h1.1 h2]
  simp only [Bool.false_eq_true, if_true, if_false, Decidable.not_not] at h1
  (try simp only [Decidable.not_not] at h1); (try have qh1 := FaultP.b h1); (try have qqh1 := @xor7b c fx (by omega) (by omega))
  refine list_guard_n rfl rfl rfl rfl (by decide) rfl ?_
  refine list_guard_n rfl rfl rfl rfl (by decide) rfl ?_
  refine list_cons rfl (op_q (q_pick rfl rfl (by decide)) ?_)
  refine list_nil ?_
  refine hK3 _ ?_; clear hK3 K3
  refine code_cond_t rfl ?_
  refine code_seq (fun K6 hK6 => ?_)
  refine code_region ?_
  refine list_cons rfl (op_q (q_assign rfl (by decide)) ?_)
  refine list_cons rfl (op_q (q_assign rfl (by decide)) ?_)
  refine list_nil ?_
  refine hK6 _ ?_; clear hK6 K6
  refine code_ret ?_
  refine then_r ?_; clear hK2 K2
  refine ends_ret (cs := []) rfl rfl rfl rfl trivial ?_
  simp only [if_neg (fun k : FaultP fx fy ∧ 0 ≤ c ∧ c ≤ 127 => h1 k.1), decide_eq_false (fun k : FaultP fx fy ∧ 0 ≤ c ∧ c ≤ 127 => h1 k.1)]

end Go.Proofs.YtfkdochnjcpedaaDoor
