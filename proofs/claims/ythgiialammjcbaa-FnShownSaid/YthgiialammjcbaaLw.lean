/- Contracts of functions, walked over the pure layer; each says for which arguments. -/
import Derived.Test.YthgiialammjcbaaLwTy
import Derived.Test.YthgiialammjcbaaTf
import Derived.Test.YthgiialammjcbaaSp
import Derived.Test.YthgiialammjcbaaShelf
import Derived.Test.YthgiialammjcbaaIm
import Derived.Test.YthgiialammjcbaaS3b
import Derived.Test.YthgiialammjcbaaDr
import Derived.Test.YthgiialammjcbaaDr2
import Derived.Test.YthgiialammjcbaaS3
import Derived.Test.YthgiialammjcbaaIm3f
import Derived.Test.YthgiialammjcbaaDr3
import Derived.Test.YthgiialammjcbaaLv
namespace Go.Proofs.Ythgiialammjcbaa
open Go.RowKit LwTy
set_option linter.unusedVariables false
set_option linter.unusedSimpArgs false

theorem turn7_lt (n : Nat) (h : n < 128) : turn7 n < 128 := by
  have k : below 128 (fun x => Nat.blt (turn7 x) 128) = true := by kernel_rfl
  exact Nat.lt_of_lt_of_le (Nat.le_of_ble_eq_true (below_ok k n h)) (Nat.le_refl _)
theorem turn7_inv (n : Nat) (h : n < 128) : turn7 (turn7 n) = n := by
  have k : below 128 (fun x => Nat.beq (turn7 (turn7 x)) x) = true := by kernel_rfl
  exact Nat.eq_of_beq_eq_true (below_ok k n h)
def bEq (a b : Bool) : Bool := match a, b with | true, true => true | false, false => true | _, _ => false
theorem bEq_ok {a b : Bool} (h : bEq a b = true) : a = b := by cases a <;> cases b <;> first | rfl | cases h
def perm7 (i : Nat) : Nat := match i with | 0 => 3 | 1 => 4 | 2 => 5 | 3 => 0 | 4 => 1 | 5 => 2 | 6 => 6 | i => i
set_option maxRecDepth 100000 in
theorem turn7_bit (n i : Nat) (h : n < 128) (hi : i < 7) : (turn7 n).testBit i = n.testBit (perm7 i) := by
  have k : below 128 (fun x => below 7 (fun j => bEq ((turn7 x).testBit j) (x.testBit (perm7 j)))) = true := by kernel_rfl
  exact bEq_ok (below_ok (below_ok k n h) i hi)
theorem bits7 {a b : Nat} (ha : a < 128) (hb : b < 128) (h : ∀ i, i < 7 → a.testBit i = b.testBit i) : a = b := by
  apply Nat.eq_of_testBit_eq
  intro i
  by_cases hi : i < 7
  · exact h i hi
  · have e : ∀ x : Nat, x < 128 → x.testBit i = false := fun x hx => Nat.testBit_lt_two_pow (Nat.lt_of_lt_of_le hx (Nat.pow_le_pow_right (n := 2) (by omega) (show 7 ≤ i by omega)))
    rw [e a ha, e b hb]
theorem perm7_lt {i : Nat} (h : i < 7) : perm7 i < 7 := by
  have : i = 0 ∨ i = 1 ∨ i = 2 ∨ i = 3 ∨ i = 4 ∨ i = 5 ∨ i = 6 := by omega
  rcases this with rfl | rfl | rfl | rfl | rfl | rfl | rfl <;> decide
theorem shB_bit {x y c i : Nat} (hx : x < 128) (hc : c < 128) : (shB x y c).testBit i = ((c.testBit i && !x.testBit i) || y.testBit i) := by
  unfold shB
  rw [← xor_sub7 c x hc hx, Nat.testBit_or, Nat.testBit_xor, Nat.testBit_and]
  cases c.testBit i <;> cases x.testBit i <;> rfl
theorem shB_lt {x y c : Nat} (hy : y < 128) (hc : c < 128) : shB x y c < 128 := by
  unfold shB
  exact @Nat.or_lt_two_pow _ _ 7 (by omega) hy
theorem and_bit0 {x y : Nat} (h : x &&& y = 0) (i : Nat) : (x.testBit i && y.testBit i) = false := by
  have := congrArg (fun z => z.testBit i) h
  simpa [Nat.testBit_and] using this
section
variable {fx fy c : Int} (h : FaultP fx fy) (hc : 0 ≤ c ∧ c ≤ 127)
include h
omit h in
theorem turnC_inv {z : Int} (hz : 0 ≤ z ∧ z ≤ 127) : turnC (turnC z) = z := by
  unfold turnC
  rw [Int.toNat_natCast, turn7_inv _ (by omega)]; omega
theorem turn_fault : FaultP (turnC fx) (turnC fy) := by
  refine ⟨turnC_cell _, turnC_cell _, ?_⟩
  have b := h.b
  unfold turnC
  rw [Int.toNat_natCast, Int.toNat_natCast]
  refine bits7 (Nat.lt_of_le_of_lt Nat.and_le_left (turn7_lt _ (by omega))) (by decide) fun i hi => ?_
  rw [Nat.testBit_and, turn7_bit _ _ (by omega) hi, turn7_bit _ _ (by omega) hi, and_bit0 h.2.2]; simp
include hc
theorem sh_idem : shF fx fy (shF fx fy c) = shF fx fy c := by
  have b := h.b
  unfold shF
  rw [Int.toNat_natCast]
  congr 1
  have l1 : shB fx.toNat fy.toNat c.toNat < 128 := shB_lt (by omega) (by omega)
  refine bits7 (shB_lt (by omega) l1) l1 fun i _ => ?_
  rw [shB_bit (by omega) l1, shB_bit (by omega) (by omega)]
  have := and_bit0 h.2.2 i
  revert this
  cases fx.toNat.testBit i <;> cases fy.toNat.testBit i <;> cases c.toNat.testBit i <;> simp
theorem sh_turn : shF (turnC fx) (turnC fy) (turnC c) = turnC (shF fx fy c) := by
  have b := h.b
  unfold shF turnC
  simp only [Int.toNat_natCast]
  congr 1
  have l1 : shB fx.toNat fy.toNat c.toNat < 128 := shB_lt (by omega) (by omega)
  have t1 := turn7_lt fx.toNat (by omega)
  have t2 := turn7_lt fy.toNat (by omega)
  have t3 := turn7_lt c.toNat (by omega)
  refine bits7 (shB_lt t2 t3) (turn7_lt _ l1) fun i hi => ?_
  rw [shB_bit t1 t3, turn7_bit _ _ l1 hi, shB_bit (by omega) (by omega), turn7_bit _ _ (by omega) hi, turn7_bit _ _ (by omega) hi, turn7_bit _ _ (by omega) hi]
end
theorem shRow_at (fs : List (Int × Int)) (l : List Int) {j : Nat} (h : j < l.length) : (shRow fs l).getD j 0 = shF (fs.getD j (0, 0)).1 (fs.getD j (0, 0)).2 (l.getD j 0) := by
  unfold shRow shRowK; simp [h]

set_option maxRecDepth 4000 in
set_option maxHeartbeats 16000000 in
theorem FnShown_law (code : List UInt8) (p0 : code.length ≤ 9223372036854775807) : MCalls Try.prog 3 true none [.sl code.length (bytesP code)] fun rs _ => rs = [.val (.bool true)] := by
  refine mcalls_of_code (n := 285) az Try.func3 (by kernel_rfl) rfl rfl (Nat.le_of_ble_eq_true rfl) (by intro t u h; simp [Try.f3] at h) ?_
  refine code_seq (fun K1 hK1 => ?_)
  refine code_region ?_
  refine list_cons rfl (op_q (q_assign rfl (by decide)) ?_)
  refine list_nil ?_
  refine hK1 _ ?_; clear hK1 K1
  refine code_seq (fun K2 hK2 => ?_)
  refine code_seq (fun K3 hK3 => ?_)
  refine code_region ?_
  refine list_cons rfl (op_q (q_move rfl (by decide)) ?_)
  refine list_cons rfl (op_call _ (vBig_c _) rfl rfl (by decide) (by decide) (by decide) rfl ?_)
  rintro _ rfl
  refine list_nil ?_
  refine hK3 _ ?_; clear hK3 K3
  refine codeT.imp (σ' := [(0, .ext _), (2, .val (.bool _)), (39, .val (.bool _))]) ?_ (imp_covers ⟨rfl, rfl, rfl, trivial⟩)
  refine code_cond_d rfl (fun h1 => ?_) (fun h1 => ?_)
  · skip
    (try simp only [Decidable.not_not] at h1); (try have hth : FaultsP fs l := h1); (try have how : FaultP gx gy ∧ FaultP ux uy ∧ FaultP ((gx.toNat ||| ux.toNat : Nat) : Int) ((gy.toNat ||| uy.toNat : Nat) : Int) := h1); (try have hok : FaultP fx fy ∧ 0 ≤ c0 ∧ c0 ≤ 127 := h1; have k1 := shF_cell (fx := fx) hok.1.2.1 hok.2; have k2 := turn_fault hok.1; have k3 : 0 ≤ ((turn7 c0.toNat : Nat) : Int) ∧ ((turn7 c0.toNat : Nat) : Int) ≤ 127 := turnC_cell _; have k4 := sh_idem hok.1 hok.2; have k5 : shF (turnC fx) (turnC fy) ((turn7 c0.toNat : Nat) : Int) = ((turn7 (shF fx fy c0).toNat : Nat) : Int) := sh_turn hok.1 hok.2); (try have hWh1 : fs.length = l.length := (h1 : FaultsP fs l).1); (try have hLh1 : (if FaultsP fs l then shRow fs l else []).length = l.length := by rw [if_pos (h1 : FaultsP fs l), shRow_len])
    refine code_seq (fun K4 hK4 => ?_)
    refine code_region ?_
    refine list_cons rfl (op_q (q_assign rfl (by decide)) ?_)
    refine list_nil ?_
    refine hK4 _ ?_; clear hK4 K4
    refine code_ret ?_
    refine then_r ?_; clear hK2 K2
    refine ends_ret (cs := []) rfl rfl rfl rfl trivial ?_
    first | rfl | exact absurd rfl h1
  · skip
    (try simp only [Decidable.not_not] at h1); (try have hth : FaultsP fs l := h1); (try have how : FaultP gx gy ∧ FaultP ux uy ∧ FaultP ((gx.toNat ||| ux.toNat : Nat) : Int) ((gy.toNat ||| uy.toNat : Nat) : Int) := h1); (try have hok : FaultP fx fy ∧ 0 ≤ c0 ∧ c0 ≤ 127 := h1; have k1 := shF_cell (fx := fx) hok.1.2.1 hok.2; have k2 := turn_fault hok.1; have k3 : 0 ≤ ((turn7 c0.toNat : Nat) : Int) ∧ ((turn7 c0.toNat : Nat) : Int) ≤ 127 := turnC_cell _; have k4 := sh_idem hok.1 hok.2; have k5 : shF (turnC fx) (turnC fy) ((turn7 c0.toNat : Nat) : Int) = ((turn7 (shF fx fy c0).toNat : Nat) : Int) := sh_turn hok.1 hok.2); (try have hWh1 : fs.length = l.length := (h1 : FaultsP fs l).1); (try have hLh1 : (if FaultsP fs l then shRow fs l else []).length = l.length := by rw [if_pos (h1 : FaultsP fs l), shRow_len])
    refine code_skip ?_
    refine hK2 _ ?_; clear hK2 K2
    refine code_seq (fun K5 hK5 => ?_)
    refine code_region ?_
    refine list_cons rfl (op_q (q_move rfl (by decide)) ?_)
    refine list_cons rfl (op_callM (DrawShownCell_c _ ?_) (.tmp 0) 0 [] [.tmp 41] _ rfl rfl (by intro y hy; cases hy) (by decide) (by decide) (by decide) rfl (by intro h; cases h) ?_)
    · first | assumption | omega | (simp; omega)
    rintro _ _ ⟨fx, fy, c0, ⟨hx0, hx1⟩, ⟨hy0, hy1⟩, ⟨hz0, hz1⟩, rfl⟩
    refine list_cons rfl (op_q (q_move rfl (by decide)) ?_)
    refine list_cons rfl (op_q (q_extract rfl rfl (by decide)) ?_)
    refine list_cons rfl (op_q (q_extract rfl rfl (by decide)) ?_)
    refine list_cons rfl (op_alloc zt_25 (by decide) (by decide) rfl ?_)
    refine list_cons rfl (op_store (agg_25).2 3 [3] (by intro t ht; simp only [List.mem_cons, List.not_mem_nil, or_false] at ht; subst ht; rfl) (.inr ⟨rfl, _, rfl⟩) rfl rfl rfl rfl rfl rfl (by first | decide | omega | exact Nat.le_refl _ | (simp; done) | (simp; omega)) (by decide) rfl ?_)
    refine list_cons rfl (op_q (q_assign rfl (by decide)) ?_)
    refine list_nil ?_
    refine hK5 _ ?_; clear hK5 K5
    refine codeT.imp (σ' := [(0, .ext _), (2, .val (.bool _)), (3, .box 3 25 _), (4, .val (.int .i64 _))]) ?_ (imp_covers ⟨rfl, rfl, rfl, rfl, trivial⟩)
    refine code_seq (fun K6 hK6 => ?_)
    refine code_region ?_
    refine list_cons rfl (op_q (q_load_agg agg_25 3 (.inr ⟨rfl, _, rfl⟩) rfl rfl (by first | decide | omega | exact Nat.le_refl _ | (simp; done) | (simp; omega)) rfl (by decide)) ?_)
    refine list_cons rfl (op_q (q_move rfl (by decide)) ?_)
    refine list_cons rfl (op_call _ (impl_ShownCell _ _ _) rfl rfl (by decide) (by decide) (by decide) rfl ?_)
    rintro _ rfl
    refine list_cons rfl (op_q (q_move rfl (by decide)) ?_)
    refine list_cons rfl (op_q (q_extract rfl rfl (by decide)) ?_)
    refine list_cons rfl (op_q (q_extract rfl rfl (by decide)) ?_)
    refine list_cons rfl (op_q (q_assign rfl (by decide)) ?_)
    refine list_cons rfl (op_q (q_assign rfl (by decide)) ?_)
    refine list_nil ?_
    refine hK6 _ ?_; clear hK6 K6
    refine codeT.imp (σ' := [(0, .ext _), (2, .val (.bool _)), (3, .box 3 25 _), (4, .val (.int .i64 _)), (5, .val (.int .i64 _)), (6, .val (.bool _))]) ?_ (imp_covers ⟨rfl, rfl, rfl, rfl, rfl, rfl, trivial⟩)
    refine code_seq (fun K7 hK7 => ?_)
    refine code_region ?_
    refine list_cons rfl (op_q (q_load_agg agg_25 3 (.inr ⟨rfl, _, rfl⟩) rfl rfl (by first | decide | omega | exact Nat.le_refl _ | (simp; done) | (simp; omega)) rfl (by decide)) ?_)
    refine list_cons rfl (op_q (q_move rfl (by decide)) ?_)
    refine list_cons rfl (op_call _ (spec_ShownCell _ _ _) rfl rfl (by decide) (by decide) (by decide) rfl ?_)
    rintro _ rfl
    refine list_cons rfl (op_q (q_move rfl (by decide)) ?_)
    refine list_cons rfl (op_q (q_extract rfl rfl (by decide)) ?_)
    refine list_cons rfl (op_q (q_extract rfl rfl (by decide)) ?_)
    refine list_cons rfl (op_q (q_assign rfl (by decide)) ?_)
    refine list_cons rfl (op_q (q_assign rfl (by decide)) ?_)
    refine list_nil ?_
    refine hK7 _ ?_; clear hK7 K7
    refine codeT.imp (σ' := [(0, .ext _), (2, .val (.bool _)), (3, .box 3 25 _), (4, .val (.int .i64 _)), (5, .val (.int .i64 _)), (6, .val (.bool _)), (7, .val (.int .i64 _)), (8, .val (.bool _))]) ?_ (imp_covers ⟨rfl, rfl, rfl, rfl, rfl, rfl, rfl, rfl, trivial⟩)
    refine code_seq (fun K8 hK8 => ?_)
    refine code_region ?_
    refine list_cons rfl (op_q (q_load_agg agg_25 3 (.inr ⟨rfl, _, rfl⟩) rfl rfl (by first | decide | omega | exact Nat.le_refl _ | (simp; done) | (simp; omega)) rfl (by decide)) ?_)
    refine list_cons rfl (op_call _ (impl_TurnFault _ _) rfl rfl (by decide) (by decide) (by decide) rfl ?_)
    rintro _ rfl
    refine list_cons rfl (op_q (q_move rfl (by decide)) ?_)
    refine list_cons rfl (op_q (q_extract rfl rfl (by decide)) ?_)
    refine list_cons rfl (op_q (q_extract rfl rfl (by decide)) ?_)
    refine list_cons rfl (op_alloc zt_25 (by decide) (by decide) rfl ?_)
    refine list_cons rfl (op_store (agg_25).2 9 [9] (by intro t ht; simp only [List.mem_cons, List.not_mem_nil, or_false] at ht; subst ht; rfl) (.inr ⟨rfl, _, rfl⟩) rfl rfl rfl rfl rfl rfl (by first | decide | omega | exact Nat.le_refl _ | (simp; done) | (simp; omega)) (by decide) rfl ?_)
    refine list_cons rfl (op_q (q_assign rfl (by decide)) ?_)
    refine list_nil ?_
    refine hK8 _ ?_; clear hK8 K8
    refine codeT.imp (σ' := [(0, .ext _), (2, .val (.bool _)), (3, .box 3 25 _), (4, .val (.int .i64 _)), (5, .val (.int .i64 _)), (6, .val (.bool _)), (7, .val (.int .i64 _)), (8, .val (.bool _)), (9, .box 9 25 _), (10, .val (.bool _))]) ?_ (imp_covers ⟨rfl, rfl, rfl, rfl, rfl, rfl, rfl, rfl, rfl, rfl, trivial⟩)
    refine code_seq (fun K9 hK9 => ?_)
    refine code_region ?_
    refine list_cons rfl (op_q (q_load_agg agg_25 3 (.inr ⟨rfl, _, rfl⟩) rfl rfl (by first | decide | omega | exact Nat.le_refl _ | (simp; done) | (simp; omega)) rfl (by decide)) ?_)
    refine list_cons rfl (op_call _ (spec_TurnFault _ _) rfl rfl (by decide) (by decide) (by decide) rfl ?_)
    rintro _ rfl
    refine list_cons rfl (op_q (q_move rfl (by decide)) ?_)
    refine list_cons rfl (op_q (q_extract rfl rfl (by decide)) ?_)
    refine list_cons rfl (op_q (q_extract rfl rfl (by decide)) ?_)
    refine list_cons rfl (op_alloc zt_25 (by decide) (by decide) rfl ?_)
    refine list_cons rfl (op_store (agg_25).2 11 [11] (by intro t ht; simp only [List.mem_cons, List.not_mem_nil, or_false] at ht; subst ht; rfl) (.inr ⟨rfl, _, rfl⟩) rfl rfl rfl rfl rfl rfl (by first | decide | omega | exact Nat.le_refl _ | (simp; done) | (simp; omega)) (by decide) rfl ?_)
    refine list_cons rfl (op_q (q_assign rfl (by decide)) ?_)
    refine list_nil ?_
    refine hK9 _ ?_; clear hK9 K9
    refine codeT.imp (σ' := [(0, .ext _), (2, .val (.bool _)), (3, .box 3 25 _), (4, .val (.int .i64 _)), (5, .val (.int .i64 _)), (6, .val (.bool _)), (7, .val (.int .i64 _)), (8, .val (.bool _)), (9, .box 9 25 _), (10, .val (.bool _)), (11, .box 11 25 _), (12, .val (.bool _))]) ?_ (imp_covers ⟨rfl, rfl, rfl, rfl, rfl, rfl, rfl, rfl, rfl, rfl, rfl, rfl, trivial⟩)
    refine code_seq (fun K10 hK10 => ?_)
    refine code_region ?_
    refine list_cons rfl (op_q (q_move rfl (by decide)) ?_)
    refine list_cons rfl (op_call _ (vCut_c _ (by omega) _ (by omega) (by omega)) rfl rfl (by decide) (by decide) (by decide) rfl ?_)
    rintro _ ⟨c2, hc2, rfl⟩
    refine list_cons rfl (op_callM (DrawShownRow_c _ ?_) (.tmp 0) 0 [] [.tmp 69] _ rfl rfl (by intro y hy; cases hy) (by decide) (by decide) (by decide) rfl (by intro h; cases h) ?_)
    · first | assumption | omega | (simp; omega)
    rintro _ _ ⟨fs, l, ⟨hf1, hf2⟩, ⟨hl1, hl2⟩, rfl⟩
    have hfl := fl_len fs
    have hfla := fl_flat fs
    have sr : (if FaultsP fs l then shRow fs l else []).length ≤ 6 := by
      split
      · rename_i h; rw [shRow_len]; exact h.2.1.1
      · simp
    refine listT.imp ?_ imp_unfrz
    refine list_cons rfl (op_q (q_move rfl (by decide)) ?_)
    refine list_cons rfl (op_q (q_extract rfl rfl (by decide)) ?_)
    refine list_cons rfl (op_q (q_extract rfl rfl (by decide)) ?_)
    refine list_cons rfl (op_q (q_assign rfl (by decide)) ?_)
    refine list_cons rfl (op_q (q_assign rfl (by decide)) ?_)
    refine list_nil ?_
    refine hK10 _ ?_; clear hK10 K10
    refine codeT.imp (σ' := [(0, .ext _), (2, .val (.bool _)), (3, .box 3 25 _), (4, .val (.int .i64 _)), (5, .val (.int .i64 _)), (6, .val (.bool _)), (7, .val (.int .i64 _)), (8, .val (.bool _)), (9, .box 9 25 _), (10, .val (.bool _)), (11, .box 11 25 _), (12, .val (.bool _)), (13, .bor 70 _), (14, .own 1070 3 1 _ _)]) ?_ (imp_covers ⟨rfl, rfl, rfl, rfl, rfl, rfl, rfl, rfl, rfl, rfl, rfl, rfl, rfl, rfl, trivial⟩)
    refine code_seq (fun K11 hK11 => ?_)
    refine code_region ?_
    refine list_cons rfl (op_q (q_move rfl (by decide)) ?_)
    refine list_cons rfl (op_q (q_move rfl (by decide)) ?_)
    refine list_cons rfl (op_call _ (impl_ShownRow _ _ (by omega) (by omega)) rfl rfl (by decide) (by decide) (by decide) rfl ?_)
    rintro _ rfl
    refine list_cons rfl (op_q (q_move rfl (by decide)) ?_)
    refine list_cons rfl (op_q (q_extract rfl rfl (by decide)) ?_)
    refine list_cons rfl (op_q (q_extract rfl rfl (by decide)) ?_)
    refine list_cons rfl (op_q (q_assign rfl (by decide)) ?_)
    refine list_cons rfl (op_q (q_assign rfl (by decide)) ?_)
    refine list_nil ?_
    refine hK11 _ ?_; clear hK11 K11
    refine codeT.imp (σ' := [(0, .ext _), (2, .val (.bool _)), (3, .box 3 25 _), (4, .val (.int .i64 _)), (5, .val (.int .i64 _)), (6, .val (.bool _)), (7, .val (.int .i64 _)), (8, .val (.bool _)), (9, .box 9 25 _), (10, .val (.bool _)), (11, .box 11 25 _), (12, .val (.bool _)), (13, .bor 70 _), (14, .own 1070 3 1 _ _), (15, .own 76 3 1 _ _), (16, .val (.bool _))]) ?_ (imp_covers ⟨rfl, rfl, rfl, rfl, rfl, rfl, rfl, rfl, rfl, rfl, rfl, rfl, rfl, rfl, rfl, rfl, trivial⟩)
    refine code_seq (fun K12 hK12 => ?_)
    refine code_region ?_
    refine list_cons rfl (op_q (q_move rfl (by decide)) ?_)
    refine list_cons rfl (op_q (q_move rfl (by decide)) ?_)
    refine list_cons rfl (op_call _ (spec_ShownRow _ _ (by omega) (by omega)) rfl rfl (by decide) (by decide) (by decide) rfl ?_)
    rintro _ rfl
    refine list_cons rfl (op_q (q_move rfl (by decide)) ?_)
    refine list_cons rfl (op_q (q_extract rfl rfl (by decide)) ?_)
    refine list_cons rfl (op_q (q_extract rfl rfl (by decide)) ?_)
    refine list_cons rfl (op_q (q_assign rfl (by decide)) ?_)
    refine list_cons rfl (op_q (q_assign rfl (by decide)) ?_)
    refine list_nil ?_
    refine hK12 _ ?_; clear hK12 K12
    refine codeT.imp (σ' := [(0, .ext _), (2, .val (.bool _)), (3, .box 3 25 _), (4, .val (.int .i64 _)), (5, .val (.int .i64 _)), (6, .val (.bool _)), (7, .val (.int .i64 _)), (8, .val (.bool _)), (9, .box 9 25 _), (10, .val (.bool _)), (11, .box 11 25 _), (12, .val (.bool _)), (13, .bor 70 _), (14, .own 1070 3 1 _ _), (15, .own 76 3 1 _ _), (16, .val (.bool _)), (17, .own 82 3 1 _ _), (18, .val (.bool _))]) ?_ (imp_covers ⟨rfl, rfl, rfl, rfl, rfl, rfl, rfl, rfl, rfl, rfl, rfl, rfl, rfl, rfl, rfl, rfl, rfl, rfl, trivial⟩)
    refine code_seq (fun K13 hK13 => ?_)
    refine code_region ?_
    refine list_cons rfl (op_q (q_move rfl (by decide)) ?_)
    refine list_cons rfl (op_call _ (vCut_c _ (by omega) _ (by omega) (by omega)) rfl rfl (by decide) (by decide) (by decide) rfl ?_)
    rintro _ ⟨c2, hc2, rfl⟩
    refine list_cons rfl (op_callM (DrawJoinFaults_c _ ?_) (.tmp 0) 0 [] [.tmp 87] _ rfl rfl (by intro y hy; cases hy) (by decide) (by decide) (by decide) rfl (by intro h; cases h) ?_)
    · first | assumption | omega | (simp; omega)
    rintro _ _ ⟨gx, gy, ux, uy, ⟨hg0, hg1⟩, ⟨hg2, hg3⟩, ⟨hu0, hu1⟩, ⟨hu2, hu3⟩, rfl⟩
    refine list_cons rfl (op_q (q_move rfl (by decide)) ?_)
    refine list_cons rfl (op_q (q_extract rfl rfl (by decide)) ?_)
    refine list_cons rfl (op_q (q_extract rfl rfl (by decide)) ?_)
    refine list_cons rfl (op_alloc zt_25 (by decide) (by decide) rfl ?_)
    refine list_cons rfl (op_alloc zt_25 (by decide) (by decide) rfl ?_)
    refine list_cons rfl (op_store (agg_25).2 19 [19] (by intro t ht; simp only [List.mem_cons, List.not_mem_nil, or_false] at ht; subst ht; rfl) (.inr ⟨rfl, _, rfl⟩) rfl rfl rfl rfl rfl rfl (by first | decide | omega | exact Nat.le_refl _ | (simp; done) | (simp; omega)) (by decide) rfl ?_)
    refine list_cons rfl (op_store (agg_25).2 20 [20] (by intro t ht; simp only [List.mem_cons, List.not_mem_nil, or_false] at ht; subst ht; rfl) (.inr ⟨rfl, _, rfl⟩) rfl rfl rfl rfl rfl rfl (by first | decide | omega | exact Nat.le_refl _ | (simp; done) | (simp; omega)) (by decide) rfl ?_)
    refine list_nil ?_
    refine hK13 _ ?_; clear hK13 K13
    refine codeT.imp (σ' := [(0, .ext _), (2, .val (.bool _)), (3, .box 3 25 _), (4, .val (.int .i64 _)), (5, .val (.int .i64 _)), (6, .val (.bool _)), (7, .val (.int .i64 _)), (8, .val (.bool _)), (9, .box 9 25 _), (10, .val (.bool _)), (11, .box 11 25 _), (12, .val (.bool _)), (13, .bor 70 _), (14, .own 1070 3 1 _ _), (15, .own 76 3 1 _ _), (16, .val (.bool _)), (17, .own 82 3 1 _ _), (18, .val (.bool _)), (19, .box 19 25 _), (20, .box 20 25 _)]) ?_ (imp_covers ⟨rfl, rfl, rfl, rfl, rfl, rfl, rfl, rfl, rfl, rfl, rfl, rfl, rfl, rfl, rfl, rfl, rfl, rfl, rfl, rfl, trivial⟩)
    refine code_seq (fun K14 hK14 => ?_)
    refine code_region ?_
    refine list_cons rfl (op_q (q_load_agg agg_25 19 (.inr ⟨rfl, _, rfl⟩) rfl rfl (by first | decide | omega | exact Nat.le_refl _ | (simp; done) | (simp; omega)) rfl (by decide)) ?_)
    refine list_cons rfl (op_q (q_load_agg agg_25 20 (.inr ⟨rfl, _, rfl⟩) rfl rfl (by first | decide | omega | exact Nat.le_refl _ | (simp; done) | (simp; omega)) rfl (by decide)) ?_)
    refine list_cons rfl (op_call _ (impl_JoinFaults _ _ _ _ (by omega) (by omega) (by omega) (by omega)) rfl rfl (by decide) (by decide) (by decide) rfl ?_)
    rintro _ rfl
    refine list_cons rfl (op_q (q_move rfl (by decide)) ?_)
    refine list_cons rfl (op_q (q_extract rfl rfl (by decide)) ?_)
    refine list_cons rfl (op_q (q_extract rfl rfl (by decide)) ?_)
    refine list_cons rfl (op_alloc zt_25 (by decide) (by decide) rfl ?_)
    refine list_cons rfl (op_store (agg_25).2 21 [21] (by intro t ht; simp only [List.mem_cons, List.not_mem_nil, or_false] at ht; subst ht; rfl) (.inr ⟨rfl, _, rfl⟩) rfl rfl rfl rfl rfl rfl (by first | decide | omega | exact Nat.le_refl _ | (simp; done) | (simp; omega)) (by decide) rfl ?_)
    refine list_cons rfl (op_q (q_assign rfl (by decide)) ?_)
    refine list_nil ?_
    refine hK14 _ ?_; clear hK14 K14
    refine codeT.imp (σ' := [(0, .ext _), (2, .val (.bool _)), (3, .box 3 25 _), (4, .val (.int .i64 _)), (5, .val (.int .i64 _)), (6, .val (.bool _)), (7, .val (.int .i64 _)), (8, .val (.bool _)), (9, .box 9 25 _), (10, .val (.bool _)), (11, .box 11 25 _), (12, .val (.bool _)), (13, .bor 70 _), (14, .own 1070 3 1 _ _), (15, .own 76 3 1 _ _), (16, .val (.bool _)), (17, .own 82 3 1 _ _), (18, .val (.bool _)), (19, .box 19 25 _), (20, .box 20 25 _), (21, .box 21 25 _), (22, .val (.bool _))]) ?_ (imp_covers ⟨rfl, rfl, rfl, rfl, rfl, rfl, rfl, rfl, rfl, rfl, rfl, rfl, rfl, rfl, rfl, rfl, rfl, rfl, rfl, rfl, rfl, rfl, trivial⟩)
    refine code_seq (fun K15 hK15 => ?_)
    refine code_region ?_
    refine list_cons rfl (op_q (q_load_agg agg_25 19 (.inr ⟨rfl, _, rfl⟩) rfl rfl (by first | decide | omega | exact Nat.le_refl _ | (simp; done) | (simp; omega)) rfl (by decide)) ?_)
    refine list_cons rfl (op_q (q_load_agg agg_25 20 (.inr ⟨rfl, _, rfl⟩) rfl rfl (by first | decide | omega | exact Nat.le_refl _ | (simp; done) | (simp; omega)) rfl (by decide)) ?_)
    refine list_cons rfl (op_call _ (spec_JoinFaults _ _ _ _) rfl rfl (by decide) (by decide) (by decide) rfl ?_)
    rintro _ rfl
    refine list_cons rfl (op_q (q_move rfl (by decide)) ?_)
    refine list_cons rfl (op_q (q_extract rfl rfl (by decide)) ?_)
    refine list_cons rfl (op_q (q_extract rfl rfl (by decide)) ?_)
    refine list_cons rfl (op_alloc zt_25 (by decide) (by decide) rfl ?_)
    refine list_cons rfl (op_store (agg_25).2 23 [23] (by intro t ht; simp only [List.mem_cons, List.not_mem_nil, or_false] at ht; subst ht; rfl) (.inr ⟨rfl, _, rfl⟩) rfl rfl rfl rfl rfl rfl (by first | decide | omega | exact Nat.le_refl _ | (simp; done) | (simp; omega)) (by decide) rfl ?_)
    refine list_cons rfl (op_q (q_assign rfl (by decide)) ?_)
    refine list_nil ?_
    refine hK15 _ ?_; clear hK15 K15
    refine codeT.imp (σ' := [(0, .ext _), (2, .val (.bool _)), (3, .box 3 25 _), (4, .val (.int .i64 _)), (5, .val (.int .i64 _)), (6, .val (.bool _)), (7, .val (.int .i64 _)), (8, .val (.bool _)), (9, .box 9 25 _), (10, .val (.bool _)), (11, .box 11 25 _), (12, .val (.bool _)), (13, .bor 70 _), (14, .own 1070 3 1 _ _), (15, .own 76 3 1 _ _), (16, .val (.bool _)), (17, .own 82 3 1 _ _), (18, .val (.bool _)), (19, .box 19 25 _), (20, .box 20 25 _), (21, .box 21 25 _), (22, .val (.bool _)), (23, .box 23 25 _), (24, .val (.bool _))]) ?_ (imp_covers ⟨rfl, rfl, rfl, rfl, rfl, rfl, rfl, rfl, rfl, rfl, rfl, rfl, rfl, rfl, rfl, rfl, rfl, rfl, rfl, rfl, rfl, rfl, rfl, rfl, trivial⟩)
    refine codeT.imp (σ' := [(2, .val (.bool _)), (3, .box 3 25 _), (4, .val (.int .i64 _)), (5, .val (.int .i64 _)), (6, .val (.bool _)), (7, .val (.int .i64 _)), (8, .val (.bool _)), (9, .box 9 25 _), (10, .val (.bool _)), (11, .box 11 25 _), (12, .val (.bool _)), (13, .bor 70 _), (14, .own 1070 3 1 _ _), (15, .own 76 3 1 _ _), (16, .val (.bool _)), (17, .own 82 3 1 _ _), (18, .val (.bool _)), (19, .box 19 25 _), (20, .box 20 25 _), (21, .box 21 25 _), (22, .val (.bool _)), (23, .box 23 25 _), (24, .val (.bool _))]) ?_ (imp_covers ⟨rfl, rfl, rfl, rfl, rfl, rfl, rfl, rfl, rfl, rfl, rfl, rfl, rfl, rfl, rfl, rfl, rfl, rfl, rfl, rfl, rfl, rfl, rfl, trivial⟩)
    refine code_seq_same ?_ ?_
    · skip
      refine code_seq (fun K16 hK16 => ?_)
      refine code_draw (by kernel_rfl) (by kernel_rfl) ?_
      refine draw_q rfl (q_move rfl (by decide)) ?_
      refine draw_q rfl (q_move rfl (by decide)) ?_
      refine draw_q rfl (q_ne rfl rfl (by decide)) ?_
      refine draw_q rfl (q_move rfl (by decide)) ?_
      refine draw_guard_d rfl rfl rfl rfl (by decide) rfl (by decide) (fun h2 => q_move rfl (by decide)) (fun h2 => ?_) (fun h2 => ?_)
      · simp only [Bool.false_eq_true, if_true, if_false, Decidable.not_not] at h2
        (try simp only [Decidable.not_not] at h2); (try have hth : FaultsP fs l := h2); (try have how : FaultP gx gy ∧ FaultP ux uy ∧ FaultP ((gx.toNat ||| ux.toNat : Nat) : Int) ((gy.toNat ||| uy.toNat : Nat) : Int) := h2); (try have hok : FaultP fx fy ∧ 0 ≤ c0 ∧ c0 ≤ 127 := h2; have k1 := shF_cell (fx := fx) hok.1.2.1 hok.2; have k2 := turn_fault hok.1; have k3 : 0 ≤ ((turn7 c0.toNat : Nat) : Int) ∧ ((turn7 c0.toNat : Nat) : Int) ≤ 127 := turnC_cell _; have k4 := sh_idem hok.1 hok.2; have k5 : shF (turnC fx) (turnC fy) ((turn7 c0.toNat : Nat) : Int) = ((turn7 (shF fx fy c0).toNat : Nat) : Int) := sh_turn hok.1 hok.2); (try have hWh2 : fs.length = l.length := (h2 : FaultsP fs l).1); (try have hLh2 : (if FaultsP fs l then shRow fs l else []).length = l.length := by rw [if_pos (h2 : FaultsP fs l), shRow_len])
        refine draw_guard_y rfl rfl rfl rfl (by decide) rfl (q_move rfl (by decide)) ?_
        refine draw_guard_y rfl rfl rfl rfl (by decide) rfl (q_bne Try.underlying4 rfl rfl (by decide)) ?_
        refine draw_q rfl (q_pick rfl rfl (by decide)) ?_
        refine draw_q rfl (q_move rfl (by decide)) ?_
        refine draw_guard_d rfl rfl rfl rfl (by decide) rfl (by decide) (fun h3 => q_load_agg agg_25 9 (.inr ⟨rfl, _, rfl⟩) rfl rfl (by first | decide | omega | exact Nat.le_refl _ | (simp; done) | (simp; omega)) rfl (by decide)) (fun h3 => ?_) (fun h3 => ?_)
        · simp only [Bool.false_eq_true, if_true, if_false, Decidable.not_not] at h3
          (try simp only [Decidable.not_not] at h3); (try have hth : FaultsP fs l := h3); (try have how : FaultP gx gy ∧ FaultP ux uy ∧ FaultP ((gx.toNat ||| ux.toNat : Nat) : Int) ((gy.toNat ||| uy.toNat : Nat) : Int) := h3); (try have hok : FaultP fx fy ∧ 0 ≤ c0 ∧ c0 ≤ 127 := h3; have k1 := shF_cell (fx := fx) hok.1.2.1 hok.2; have k2 := turn_fault hok.1; have k3 : 0 ≤ ((turn7 c0.toNat : Nat) : Int) ∧ ((turn7 c0.toNat : Nat) : Int) ≤ 127 := turnC_cell _; have k4 := sh_idem hok.1 hok.2; have k5 : shF (turnC fx) (turnC fy) ((turn7 c0.toNat : Nat) : Int) = ((turn7 (shF fx fy c0).toNat : Nat) : Int) := sh_turn hok.1 hok.2); (try have hWh3 : fs.length = l.length := (h3 : FaultsP fs l).1); (try have hLh3 : (if FaultsP fs l then shRow fs l else []).length = l.length := by rw [if_pos (h3 : FaultsP fs l), shRow_len])
          refine draw_guard_y rfl rfl rfl rfl (by decide) rfl (q_load_agg agg_25 11 (.inr ⟨rfl, _, rfl⟩) rfl rfl (by first | decide | omega | exact Nat.le_refl _ | (simp; done) | (simp; omega)) rfl (by decide)) ?_
          refine draw_guard_y rfl rfl rfl rfl (by decide) rfl (q_aggne (by decide) agg_25 eqty_25 eqg_25 rfl rfl (by first | exact ⟨_, _, rfl, ⟨_, rfl⟩, ⟨_, _, rfl, ⟨_, rfl⟩, trivial⟩⟩) (by first | exact ⟨_, _, rfl, ⟨_, rfl⟩, ⟨_, _, rfl, ⟨_, rfl⟩, trivial⟩⟩) rfl rfl (by decide)) ?_
          refine draw_q rfl (q_pick rfl rfl (by decide)) ?_
          refine draw_q rfl (q_move rfl (by decide)) ?_
          refine draw_guard_d rfl rfl rfl rfl (by decide) rfl (by decide) (fun h4 => q_move rfl (by decide)) (fun h4 => ?_) (fun h4 => ?_)
          · simp only [Bool.false_eq_true, if_true, if_false, Decidable.not_not] at h4
            (try simp only [Decidable.not_not] at h4); (try have hth : FaultsP fs l := h4); (try have how : FaultP gx gy ∧ FaultP ux uy ∧ FaultP ((gx.toNat ||| ux.toNat : Nat) : Int) ((gy.toNat ||| uy.toNat : Nat) : Int) := h4); (try have hok : FaultP fx fy ∧ 0 ≤ c0 ∧ c0 ≤ 127 := h4; have k1 := shF_cell (fx := fx) hok.1.2.1 hok.2; have k2 := turn_fault hok.1; have k3 : 0 ≤ ((turn7 c0.toNat : Nat) : Int) ∧ ((turn7 c0.toNat : Nat) : Int) ≤ 127 := turnC_cell _; have k4 := sh_idem hok.1 hok.2; have k5 : shF (turnC fx) (turnC fy) ((turn7 c0.toNat : Nat) : Int) = ((turn7 (shF fx fy c0).toNat : Nat) : Int) := sh_turn hok.1 hok.2); (try have hWh4 : fs.length = l.length := (h4 : FaultsP fs l).1); (try have hLh4 : (if FaultsP fs l then shRow fs l else []).length = l.length := by rw [if_pos (h4 : FaultsP fs l), shRow_len])
            refine draw_guard_y rfl rfl rfl rfl (by decide) rfl (q_move rfl (by decide)) ?_
            refine draw_guard_y rfl rfl rfl rfl (by decide) rfl (q_bne Try.underlying4 rfl rfl (by decide)) ?_
            refine draw_q rfl (q_pick rfl rfl (by decide)) ?_
            refine draw_q rfl (q_move rfl (by decide)) ?_
            refine draw_guard_d rfl rfl rfl rfl (by decide) rfl (by decide) (fun h5 => q_move rfl (by decide)) (fun h5 => ?_) (fun h5 => ?_)
            · simp only [Bool.false_eq_true, if_true, if_false, Decidable.not_not] at h5
              (try simp only [Decidable.not_not] at h5); (try have hth : FaultsP fs l := h5); (try have how : FaultP gx gy ∧ FaultP ux uy ∧ FaultP ((gx.toNat ||| ux.toNat : Nat) : Int) ((gy.toNat ||| uy.toNat : Nat) : Int) := h5); (try have hok : FaultP fx fy ∧ 0 ≤ c0 ∧ c0 ≤ 127 := h5; have k1 := shF_cell (fx := fx) hok.1.2.1 hok.2; have k2 := turn_fault hok.1; have k3 : 0 ≤ ((turn7 c0.toNat : Nat) : Int) ∧ ((turn7 c0.toNat : Nat) : Int) ≤ 127 := turnC_cell _; have k4 := sh_idem hok.1 hok.2; have k5 : shF (turnC fx) (turnC fy) ((turn7 c0.toNat : Nat) : Int) = ((turn7 (shF fx fy c0).toNat : Nat) : Int) := sh_turn hok.1 hok.2); (try have hWh5 : fs.length = l.length := (h5 : FaultsP fs l).1); (try have hLh5 : (if FaultsP fs l then shRow fs l else []).length = l.length := by rw [if_pos (h5 : FaultsP fs l), shRow_len])
              refine draw_guard_y rfl rfl rfl rfl (by decide) rfl (q_move rfl (by decide)) ?_
              refine draw_guard_y rfl rfl rfl rfl (by decide) rfl (q_bne Try.underlying4 rfl rfl (by decide)) ?_
              refine draw_q rfl (q_pick rfl rfl (by decide)) ?_
              refine draw_q rfl (q_move rfl (by decide)) ?_
              refine draw_guard_d rfl rfl rfl rfl (by decide) rfl (by decide) (fun h6 => q_move rfl (by decide)) (fun h6 => ?_) (fun h6 => ?_)
              · simp only [Bool.false_eq_true, if_true, if_false, Decidable.not_not] at h6
                (try simp only [Decidable.not_not] at h6); (try have hth : FaultsP fs l := h6); (try have how : FaultP gx gy ∧ FaultP ux uy ∧ FaultP ((gx.toNat ||| ux.toNat : Nat) : Int) ((gy.toNat ||| uy.toNat : Nat) : Int) := h6); (try have hok : FaultP fx fy ∧ 0 ≤ c0 ∧ c0 ≤ 127 := h6; have k1 := shF_cell (fx := fx) hok.1.2.1 hok.2; have k2 := turn_fault hok.1; have k3 : 0 ≤ ((turn7 c0.toNat : Nat) : Int) ∧ ((turn7 c0.toNat : Nat) : Int) ≤ 127 := turnC_cell _; have k4 := sh_idem hok.1 hok.2; have k5 : shF (turnC fx) (turnC fy) ((turn7 c0.toNat : Nat) : Int) = ((turn7 (shF fx fy c0).toNat : Nat) : Int) := sh_turn hok.1 hok.2); (try have hWh6 : fs.length = l.length := (h6 : FaultsP fs l).1); (try have hLh6 : (if FaultsP fs l then shRow fs l else []).length = l.length := by rw [if_pos (h6 : FaultsP fs l), shRow_len])
                refine draw_guard_y rfl rfl rfl rfl (by decide) rfl (q_move rfl (by decide)) ?_
                refine draw_callW _ (vInts_c _ _ (by first | omega | (simp; omega))) rfl rfl rfl (by decide) (wanted_of rfl rfl rfl (by decide)) ?_
                refine draw_guard_y rfl rfl rfl rfl (by decide) rfl (by first | exact q_notd rfl (by decide) | exact q_not rfl (by decide)) ?_
                refine draw_q rfl (q_pick rfl rfl (by decide)) ?_
                refine draw_q rfl (q_move rfl (by decide)) ?_
                refine draw_guard_d rfl rfl rfl rfl (by decide) rfl (by decide) (fun h7 => q_load_agg agg_25 21 (.inr ⟨rfl, _, rfl⟩) rfl rfl (by first | decide | omega | exact Nat.le_refl _ | (simp; done) | (simp; omega)) rfl (by decide)) (fun h7 => ?_) (fun h7 => ?_)
                · simp only [Bool.false_eq_true, if_true, if_false, Decidable.not_not] at h7
                  (try simp only [Decidable.not_not] at h7); (try have hth : FaultsP fs l := h7); (try have how : FaultP gx gy ∧ FaultP ux uy ∧ FaultP ((gx.toNat ||| ux.toNat : Nat) : Int) ((gy.toNat ||| uy.toNat : Nat) : Int) := h7); (try have hok : FaultP fx fy ∧ 0 ≤ c0 ∧ c0 ≤ 127 := h7; have k1 := shF_cell (fx := fx) hok.1.2.1 hok.2; have k2 := turn_fault hok.1; have k3 : 0 ≤ ((turn7 c0.toNat : Nat) : Int) ∧ ((turn7 c0.toNat : Nat) : Int) ≤ 127 := turnC_cell _; have k4 := sh_idem hok.1 hok.2; have k5 : shF (turnC fx) (turnC fy) ((turn7 c0.toNat : Nat) : Int) = ((turn7 (shF fx fy c0).toNat : Nat) : Int) := sh_turn hok.1 hok.2); (try have hWh7 : fs.length = l.length := (h7 : FaultsP fs l).1); (try have hLh7 : (if FaultsP fs l then shRow fs l else []).length = l.length := by rw [if_pos (h7 : FaultsP fs l), shRow_len])
                  refine draw_guard_y rfl rfl rfl rfl (by decide) rfl (q_load_agg agg_25 23 (.inr ⟨rfl, _, rfl⟩) rfl rfl (by first | decide | omega | exact Nat.le_refl _ | (simp; done) | (simp; omega)) rfl (by decide)) ?_
                  refine draw_guard_y rfl rfl rfl rfl (by decide) rfl (q_aggne (by decide) agg_25 eqty_25 eqg_25 rfl rfl (by first | exact ⟨_, _, rfl, ⟨_, rfl⟩, ⟨_, _, rfl, ⟨_, rfl⟩, trivial⟩⟩) (by first | exact ⟨_, _, rfl, ⟨_, rfl⟩, ⟨_, _, rfl, ⟨_, rfl⟩, trivial⟩⟩) rfl rfl (by decide)) ?_
                  refine draw_q rfl (q_pick rfl rfl (by decide)) ?_
                  refine draw_q rfl (q_move rfl (by decide)) ?_
                  refine draw_guard_d rfl rfl rfl rfl (by decide) rfl (by decide) (fun h8 => q_move rfl (by decide)) (fun h8 => ?_) (fun h8 => ?_)
                  · simp only [Bool.false_eq_true, if_true, if_false, Decidable.not_not] at h8
                    (try simp only [Decidable.not_not] at h8); (try have hth : FaultsP fs l := h8); (try have how : FaultP gx gy ∧ FaultP ux uy ∧ FaultP ((gx.toNat ||| ux.toNat : Nat) : Int) ((gy.toNat ||| uy.toNat : Nat) : Int) := h8); (try have hok : FaultP fx fy ∧ 0 ≤ c0 ∧ c0 ≤ 127 := h8; have k1 := shF_cell (fx := fx) hok.1.2.1 hok.2; have k2 := turn_fault hok.1; have k3 : 0 ≤ ((turn7 c0.toNat : Nat) : Int) ∧ ((turn7 c0.toNat : Nat) : Int) ≤ 127 := turnC_cell _; have k4 := sh_idem hok.1 hok.2; have k5 : shF (turnC fx) (turnC fy) ((turn7 c0.toNat : Nat) : Int) = ((turn7 (shF fx fy c0).toNat : Nat) : Int) := sh_turn hok.1 hok.2); (try have hWh8 : fs.length = l.length := (h8 : FaultsP fs l).1); (try have hLh8 : (if FaultsP fs l then shRow fs l else []).length = l.length := by rw [if_pos (h8 : FaultsP fs l), shRow_len])
                    refine draw_guard_y rfl rfl rfl rfl (by decide) rfl (q_move rfl (by decide)) ?_
                    refine draw_guard_y rfl rfl rfl rfl (by decide) rfl (q_bne Try.underlying4 rfl rfl (by decide)) ?_
                    refine draw_q rfl (q_pick rfl rfl (by decide)) ?_
                    refine draw_q rfl (q_move rfl (by decide)) ?_
                    refine draw_guard_d rfl rfl rfl rfl (by decide) rfl (by decide) (fun h9 => q_load_agg agg_25 3 (.inr ⟨rfl, _, rfl⟩) rfl rfl (by first | decide | omega | exact Nat.le_refl _ | (simp; done) | (simp; omega)) rfl (by decide)) (fun h9 => ?_) (fun h9 => ?_)
                    · simp only [Bool.false_eq_true, if_true, if_false, Decidable.not_not] at h9
                      (try simp only [Decidable.not_not] at h9); (try have hth : FaultsP fs l := h9); (try have how : FaultP gx gy ∧ FaultP ux uy ∧ FaultP ((gx.toNat ||| ux.toNat : Nat) : Int) ((gy.toNat ||| uy.toNat : Nat) : Int) := h9); (try have hok : FaultP fx fy ∧ 0 ≤ c0 ∧ c0 ≤ 127 := h9; have k1 := shF_cell (fx := fx) hok.1.2.1 hok.2; have k2 := turn_fault hok.1; have k3 : 0 ≤ ((turn7 c0.toNat : Nat) : Int) ∧ ((turn7 c0.toNat : Nat) : Int) ≤ 127 := turnC_cell _; have k4 := sh_idem hok.1 hok.2; have k5 : shF (turnC fx) (turnC fy) ((turn7 c0.toNat : Nat) : Int) = ((turn7 (shF fx fy c0).toNat : Nat) : Int) := sh_turn hok.1 hok.2); (try have hWh9 : fs.length = l.length := (h9 : FaultsP fs l).1); (try have hLh9 : (if FaultsP fs l then shRow fs l else []).length = l.length := by rw [if_pos (h9 : FaultsP fs l), shRow_len])
                      refine draw_callW _ (impl_IsFault _ _) rfl rfl rfl (by decide) (wanted_of rfl rfl rfl (by decide)) ?_
                      refine draw_guard_y rfl rfl rfl rfl (by decide) rfl (q_load_agg agg_25 3 (.inr ⟨rfl, _, rfl⟩) rfl rfl (by first | decide | omega | exact Nat.le_refl _ | (simp; done) | (simp; omega)) rfl (by decide)) ?_
                      refine draw_callW _ (spec_IsFault _ _) rfl rfl rfl (by decide) (wanted_of rfl rfl rfl (by decide)) ?_
                      refine draw_guard_y rfl rfl rfl rfl (by decide) rfl (q_bne Try.underlying4 rfl rfl (by decide)) ?_
                      refine draw_q rfl (q_pick rfl rfl (by decide)) ?_
                      refine draw_q rfl (q_move rfl (by decide)) ?_
                      refine draw_guard_d rfl rfl rfl rfl (by decide) rfl (by decide) (fun h10 => q_move rfl (by decide)) (fun h10 => ?_) (fun h10 => ?_)
                      · simp only [Bool.false_eq_true, if_true, if_false, Decidable.not_not] at h10
                        (try simp only [Decidable.not_not] at h10); (try have hth : FaultsP fs l := h10); (try have how : FaultP gx gy ∧ FaultP ux uy ∧ FaultP ((gx.toNat ||| ux.toNat : Nat) : Int) ((gy.toNat ||| uy.toNat : Nat) : Int) := h10); (try have hok : FaultP fx fy ∧ 0 ≤ c0 ∧ c0 ≤ 127 := h10; have k1 := shF_cell (fx := fx) hok.1.2.1 hok.2; have k2 := turn_fault hok.1; have k3 : 0 ≤ ((turn7 c0.toNat : Nat) : Int) ∧ ((turn7 c0.toNat : Nat) : Int) ≤ 127 := turnC_cell _; have k4 := sh_idem hok.1 hok.2; have k5 : shF (turnC fx) (turnC fy) ((turn7 c0.toNat : Nat) : Int) = ((turn7 (shF fx fy c0).toNat : Nat) : Int) := sh_turn hok.1 hok.2); (try have hWh10 : fs.length = l.length := (h10 : FaultsP fs l).1); (try have hLh10 : (if FaultsP fs l then shRow fs l else []).length = l.length := by rw [if_pos (h10 : FaultsP fs l), shRow_len])
                        refine draw_guard_y rfl rfl rfl rfl (by decide) rfl (q_load_agg agg_25 3 (.inr ⟨rfl, _, rfl⟩) rfl rfl (by first | decide | omega | exact Nat.le_refl _ | (simp; done) | (simp; omega)) rfl (by decide)) ?_
                        refine draw_callW _ (impl_IsFault _ _) rfl rfl rfl (by decide) (wanted_of rfl rfl rfl (by decide)) ?_
                        refine draw_guard_y rfl rfl rfl rfl (by decide) rfl (q_bne Try.underlying4 rfl rfl (by decide)) ?_
                        refine draw_q rfl (q_pick rfl rfl (by decide)) ?_
                        refine draw_q rfl (q_move rfl (by decide)) ?_
                        refine draw_guard_d rfl rfl rfl rfl (by decide) rfl (by decide) (fun h11 => q_move rfl (by decide)) (fun h11 => ?_) (fun h11 => ?_)
                        · simp only [Bool.false_eq_true, if_true, if_false, Decidable.not_not] at h11
                          (try simp only [Decidable.not_not] at h11); (try have hth : FaultsP fs l := h11); (try have how : FaultP gx gy ∧ FaultP ux uy ∧ FaultP ((gx.toNat ||| ux.toNat : Nat) : Int) ((gy.toNat ||| uy.toNat : Nat) : Int) := h11); (try have hok : FaultP fx fy ∧ 0 ≤ c0 ∧ c0 ≤ 127 := h11; have k1 := shF_cell (fx := fx) hok.1.2.1 hok.2; have k2 := turn_fault hok.1; have k3 : 0 ≤ ((turn7 c0.toNat : Nat) : Int) ∧ ((turn7 c0.toNat : Nat) : Int) ≤ 127 := turnC_cell _; have k4 := sh_idem hok.1 hok.2; have k5 : shF (turnC fx) (turnC fy) ((turn7 c0.toNat : Nat) : Int) = ((turn7 (shF fx fy c0).toNat : Nat) : Int) := sh_turn hok.1 hok.2); (try have hWh11 : fs.length = l.length := (h11 : FaultsP fs l).1); (try have hLh11 : (if FaultsP fs l then shRow fs l else []).length = l.length := by rw [if_pos (h11 : FaultsP fs l), shRow_len])
                          refine draw_guard_y rfl rfl rfl rfl (by decide) rfl (q_move rfl (by decide)) ?_
                          refine draw_guard_y rfl rfl rfl rfl (by decide) rfl (q_move rfl (by decide)) ?_
                          refine draw_guard_d rfl rfl rfl rfl (by decide) rfl (by decide) (fun h12 => q_move rfl (by decide)) (fun h12 => ?_) (fun h12 => ?_)
                          · simp only [Bool.false_eq_true, if_true, if_false, Decidable.not_not] at h12
                            (try simp only [Decidable.not_not] at h12); (try have hth : FaultsP fs l := h12); (try have how : FaultP gx gy ∧ FaultP ux uy ∧ FaultP ((gx.toNat ||| ux.toNat : Nat) : Int) ((gy.toNat ||| uy.toNat : Nat) : Int) := h12); (try have hok : FaultP fx fy ∧ 0 ≤ c0 ∧ c0 ≤ 127 := h12; have k1 := shF_cell (fx := fx) hok.1.2.1 hok.2; have k2 := turn_fault hok.1; have k3 : 0 ≤ ((turn7 c0.toNat : Nat) : Int) ∧ ((turn7 c0.toNat : Nat) : Int) ≤ 127 := turnC_cell _; have k4 := sh_idem hok.1 hok.2; have k5 : shF (turnC fx) (turnC fy) ((turn7 c0.toNat : Nat) : Int) = ((turn7 (shF fx fy c0).toNat : Nat) : Int) := sh_turn hok.1 hok.2); (try have hWh12 : fs.length = l.length := (h12 : FaultsP fs l).1); (try have hLh12 : (if FaultsP fs l then shRow fs l else []).length = l.length := by rw [if_pos (h12 : FaultsP fs l), shRow_len])
                            refine draw_callW _ (impl_IsCell _) rfl rfl rfl (by decide) (wanted_of rfl rfl rfl (by decide)) ?_
                            refine draw_guard_y rfl rfl rfl rfl (by decide) rfl (q_pick rfl rfl (by decide)) ?_
                            refine draw_guard_y rfl rfl rfl rfl (by decide) rfl (q_bne Try.underlying4 rfl rfl (by decide)) ?_
                            refine draw_q rfl (q_pick rfl rfl (by decide)) ?_
                            refine draw_nil ?_
                            refine hK16 _ ?_; clear hK16 K16
                            refine codeT.imp (σ' := [(2, .val (.bool _)), (3, .box 3 25 _), (4, .val (.int .i64 _)), (5, .val (.int .i64 _)), (6, .val (.bool _)), (7, .val (.int .i64 _)), (8, .val (.bool _)), (9, .box 9 25 _), (10, .val (.bool _)), (11, .box 11 25 _), (12, .val (.bool _)), (13, .bor 70 _), (14, .own 1070 3 1 _ _), (15, .own 76 3 1 _ _), (16, .val (.bool _)), (17, .own 82 3 1 _ _), (18, .val (.bool _)), (19, .box 19 25 _), (20, .box 20 25 _), (21, .box 21 25 _), (22, .val (.bool _)), (23, .box 23 25 _), (24, .val (.bool _)), (163, .val (.bool _))]) ?_ (imp_covers ⟨rfl, rfl, rfl, rfl, rfl, rfl, rfl, rfl, rfl, rfl, rfl, rfl, rfl, rfl, rfl, rfl, rfl, rfl, rfl, rfl, rfl, rfl, rfl, rfl, trivial⟩)
                            refine code_cond_d rfl (fun h13 => ?_) (fun h13 => ?_)
                            · skip
                              (try simp only [Decidable.not_not] at h13); (try have hth : FaultsP fs l := h13); (try have how : FaultP gx gy ∧ FaultP ux uy ∧ FaultP ((gx.toNat ||| ux.toNat : Nat) : Int) ((gy.toNat ||| uy.toNat : Nat) : Int) := h13); (try have hok : FaultP fx fy ∧ 0 ≤ c0 ∧ c0 ≤ 127 := h13; have k1 := shF_cell (fx := fx) hok.1.2.1 hok.2; have k2 := turn_fault hok.1; have k3 : 0 ≤ ((turn7 c0.toNat : Nat) : Int) ∧ ((turn7 c0.toNat : Nat) : Int) ≤ 127 := turnC_cell _; have k4 := sh_idem hok.1 hok.2; have k5 : shF (turnC fx) (turnC fy) ((turn7 c0.toNat : Nat) : Int) = ((turn7 (shF fx fy c0).toNat : Nat) : Int) := sh_turn hok.1 hok.2); (try have hWh13 : fs.length = l.length := (h13 : FaultsP fs l).1); (try have hLh13 : (if FaultsP fs l then shRow fs l else []).length = l.length := by rw [if_pos (h13 : FaultsP fs l), shRow_len])
                              exfalso
                              first | exact h13 (decide_eq_decide.mpr ⟨fun k => k.2, fun k => ⟨by assumption, k⟩⟩) | exact h13 (decide_eq_false fun k => absurd k.1 (by assumption))
                            · skip
                              (try simp only [Decidable.not_not] at h13); (try have hth : FaultsP fs l := h13); (try have how : FaultP gx gy ∧ FaultP ux uy ∧ FaultP ((gx.toNat ||| ux.toNat : Nat) : Int) ((gy.toNat ||| uy.toNat : Nat) : Int) := h13); (try have hok : FaultP fx fy ∧ 0 ≤ c0 ∧ c0 ≤ 127 := h13; have k1 := shF_cell (fx := fx) hok.1.2.1 hok.2; have k2 := turn_fault hok.1; have k3 : 0 ≤ ((turn7 c0.toNat : Nat) : Int) ∧ ((turn7 c0.toNat : Nat) : Int) ≤ 127 := turnC_cell _; have k4 := sh_idem hok.1 hok.2; have k5 : shF (turnC fx) (turnC fy) ((turn7 c0.toNat : Nat) : Int) = ((turn7 (shF fx fy c0).toNat : Nat) : Int) := sh_turn hok.1 hok.2); (try have hWh13 : fs.length = l.length := (h13 : FaultsP fs l).1); (try have hLh13 : (if FaultsP fs l then shRow fs l else []).length = l.length := by rw [if_pos (h13 : FaultsP fs l), shRow_len])
                              refine code_skip ?_
                              exact then_n (imp_covers ⟨rfl, rfl, rfl, rfl, rfl, rfl, rfl, rfl, rfl, rfl, rfl, rfl, rfl, rfl, rfl, rfl, rfl, rfl, rfl, rfl, rfl, rfl, rfl, trivial⟩)
                          · simp only [Bool.false_eq_true, if_true, if_false, Decidable.not_not] at h12
                            (try simp only [Decidable.not_not] at h12); (try have hth : FaultsP fs l := h12); (try have how : FaultP gx gy ∧ FaultP ux uy ∧ FaultP ((gx.toNat ||| ux.toNat : Nat) : Int) ((gy.toNat ||| uy.toNat : Nat) : Int) := h12); (try have hok : FaultP fx fy ∧ 0 ≤ c0 ∧ c0 ≤ 127 := h12; have k1 := shF_cell (fx := fx) hok.1.2.1 hok.2; have k2 := turn_fault hok.1; have k3 : 0 ≤ ((turn7 c0.toNat : Nat) : Int) ∧ ((turn7 c0.toNat : Nat) : Int) ≤ 127 := turnC_cell _; have k4 := sh_idem hok.1 hok.2; have k5 : shF (turnC fx) (turnC fy) ((turn7 c0.toNat : Nat) : Int) = ((turn7 (shF fx fy c0).toNat : Nat) : Int) := sh_turn hok.1 hok.2); (try have hWh12 : fs.length = l.length := (h12 : FaultsP fs l).1); (try have hLh12 : (if FaultsP fs l then shRow fs l else []).length = l.length := by rw [if_pos (h12 : FaultsP fs l), shRow_len])
                            refine draw_guard_n rfl rfl rfl rfl (by decide) rfl ?_
                            refine draw_guard_y rfl rfl rfl rfl (by decide) rfl (q_pick rfl rfl (by decide)) ?_
                            refine draw_guard_y rfl rfl rfl rfl (by decide) rfl (q_bne Try.underlying4 rfl rfl (by decide)) ?_
                            refine draw_q rfl (q_pick rfl rfl (by decide)) ?_
                            refine draw_nil ?_
                            refine hK16 _ ?_; clear hK16 K16
                            refine codeT.imp (σ' := [(2, .val (.bool _)), (3, .box 3 25 _), (4, .val (.int .i64 _)), (5, .val (.int .i64 _)), (6, .val (.bool _)), (7, .val (.int .i64 _)), (8, .val (.bool _)), (9, .box 9 25 _), (10, .val (.bool _)), (11, .box 11 25 _), (12, .val (.bool _)), (13, .bor 70 _), (14, .own 1070 3 1 _ _), (15, .own 76 3 1 _ _), (16, .val (.bool _)), (17, .own 82 3 1 _ _), (18, .val (.bool _)), (19, .box 19 25 _), (20, .box 20 25 _), (21, .box 21 25 _), (22, .val (.bool _)), (23, .box 23 25 _), (24, .val (.bool _)), (163, .val (.bool _))]) ?_ (imp_covers ⟨rfl, rfl, rfl, rfl, rfl, rfl, rfl, rfl, rfl, rfl, rfl, rfl, rfl, rfl, rfl, rfl, rfl, rfl, rfl, rfl, rfl, rfl, rfl, rfl, trivial⟩)
                            refine code_cond_d rfl (fun h14 => ?_) (fun h14 => ?_)
                            · skip
                              (try simp only [Decidable.not_not] at h14); (try have hth : FaultsP fs l := h14); (try have how : FaultP gx gy ∧ FaultP ux uy ∧ FaultP ((gx.toNat ||| ux.toNat : Nat) : Int) ((gy.toNat ||| uy.toNat : Nat) : Int) := h14); (try have hok : FaultP fx fy ∧ 0 ≤ c0 ∧ c0 ≤ 127 := h14; have k1 := shF_cell (fx := fx) hok.1.2.1 hok.2; have k2 := turn_fault hok.1; have k3 : 0 ≤ ((turn7 c0.toNat : Nat) : Int) ∧ ((turn7 c0.toNat : Nat) : Int) ≤ 127 := turnC_cell _; have k4 := sh_idem hok.1 hok.2; have k5 : shF (turnC fx) (turnC fy) ((turn7 c0.toNat : Nat) : Int) = ((turn7 (shF fx fy c0).toNat : Nat) : Int) := sh_turn hok.1 hok.2); (try have hWh14 : fs.length = l.length := (h14 : FaultsP fs l).1); (try have hLh14 : (if FaultsP fs l then shRow fs l else []).length = l.length := by rw [if_pos (h14 : FaultsP fs l), shRow_len])
                              exfalso
                              first | exact h14 (decide_eq_decide.mpr ⟨fun k => k.2, fun k => ⟨by assumption, k⟩⟩) | exact h14 (decide_eq_false fun k => absurd k.1 (by assumption))
                            · skip
                              (try simp only [Decidable.not_not] at h14); (try have hth : FaultsP fs l := h14); (try have how : FaultP gx gy ∧ FaultP ux uy ∧ FaultP ((gx.toNat ||| ux.toNat : Nat) : Int) ((gy.toNat ||| uy.toNat : Nat) : Int) := h14); (try have hok : FaultP fx fy ∧ 0 ≤ c0 ∧ c0 ≤ 127 := h14; have k1 := shF_cell (fx := fx) hok.1.2.1 hok.2; have k2 := turn_fault hok.1; have k3 : 0 ≤ ((turn7 c0.toNat : Nat) : Int) ∧ ((turn7 c0.toNat : Nat) : Int) ≤ 127 := turnC_cell _; have k4 := sh_idem hok.1 hok.2; have k5 : shF (turnC fx) (turnC fy) ((turn7 c0.toNat : Nat) : Int) = ((turn7 (shF fx fy c0).toNat : Nat) : Int) := sh_turn hok.1 hok.2); (try have hWh14 : fs.length = l.length := (h14 : FaultsP fs l).1); (try have hLh14 : (if FaultsP fs l then shRow fs l else []).length = l.length := by rw [if_pos (h14 : FaultsP fs l), shRow_len])
                              refine code_skip ?_
                              exact then_n (imp_covers ⟨rfl, rfl, rfl, rfl, rfl, rfl, rfl, rfl, rfl, rfl, rfl, rfl, rfl, rfl, rfl, rfl, rfl, rfl, rfl, rfl, rfl, rfl, rfl, trivial⟩)
                        · simp only [Bool.false_eq_true, if_true, if_false, Decidable.not_not] at h11
                          (try simp only [Decidable.not_not] at h11); (try have hth : FaultsP fs l := h11); (try have how : FaultP gx gy ∧ FaultP ux uy ∧ FaultP ((gx.toNat ||| ux.toNat : Nat) : Int) ((gy.toNat ||| uy.toNat : Nat) : Int) := h11); (try have hok : FaultP fx fy ∧ 0 ≤ c0 ∧ c0 ≤ 127 := h11; have k1 := shF_cell (fx := fx) hok.1.2.1 hok.2; have k2 := turn_fault hok.1; have k3 : 0 ≤ ((turn7 c0.toNat : Nat) : Int) ∧ ((turn7 c0.toNat : Nat) : Int) ≤ 127 := turnC_cell _; have k4 := sh_idem hok.1 hok.2; have k5 : shF (turnC fx) (turnC fy) ((turn7 c0.toNat : Nat) : Int) = ((turn7 (shF fx fy c0).toNat : Nat) : Int) := sh_turn hok.1 hok.2); (try have hWh11 : fs.length = l.length := (h11 : FaultsP fs l).1); (try have hLh11 : (if FaultsP fs l then shRow fs l else []).length = l.length := by rw [if_pos (h11 : FaultsP fs l), shRow_len])
                          exfalso
                          first | exact absurd rfl h11 | exact h11 trivial | (simp at h11; done)
                      · simp only [Bool.false_eq_true, if_true, if_false, Decidable.not_not] at h10
                        (try simp only [Decidable.not_not] at h10); (try have hth : FaultsP fs l := h10); (try have how : FaultP gx gy ∧ FaultP ux uy ∧ FaultP ((gx.toNat ||| ux.toNat : Nat) : Int) ((gy.toNat ||| uy.toNat : Nat) : Int) := h10); (try have hok : FaultP fx fy ∧ 0 ≤ c0 ∧ c0 ≤ 127 := h10; have k1 := shF_cell (fx := fx) hok.1.2.1 hok.2; have k2 := turn_fault hok.1; have k3 : 0 ≤ ((turn7 c0.toNat : Nat) : Int) ∧ ((turn7 c0.toNat : Nat) : Int) ≤ 127 := turnC_cell _; have k4 := sh_idem hok.1 hok.2; have k5 : shF (turnC fx) (turnC fy) ((turn7 c0.toNat : Nat) : Int) = ((turn7 (shF fx fy c0).toNat : Nat) : Int) := sh_turn hok.1 hok.2); (try have hWh10 : fs.length = l.length := (h10 : FaultsP fs l).1); (try have hLh10 : (if FaultsP fs l then shRow fs l else []).length = l.length := by rw [if_pos (h10 : FaultsP fs l), shRow_len])
                        exfalso
                        first | exact absurd rfl h10 | exact h10 trivial | (simp at h10; done)
                    · simp only [Bool.false_eq_true, if_true, if_false, Decidable.not_not] at h9
                      (try simp only [Decidable.not_not] at h9); (try have hth : FaultsP fs l := h9); (try have how : FaultP gx gy ∧ FaultP ux uy ∧ FaultP ((gx.toNat ||| ux.toNat : Nat) : Int) ((gy.toNat ||| uy.toNat : Nat) : Int) := h9); (try have hok : FaultP fx fy ∧ 0 ≤ c0 ∧ c0 ≤ 127 := h9; have k1 := shF_cell (fx := fx) hok.1.2.1 hok.2; have k2 := turn_fault hok.1; have k3 : 0 ≤ ((turn7 c0.toNat : Nat) : Int) ∧ ((turn7 c0.toNat : Nat) : Int) ≤ 127 := turnC_cell _; have k4 := sh_idem hok.1 hok.2; have k5 : shF (turnC fx) (turnC fy) ((turn7 c0.toNat : Nat) : Int) = ((turn7 (shF fx fy c0).toNat : Nat) : Int) := sh_turn hok.1 hok.2); (try have hWh9 : fs.length = l.length := (h9 : FaultsP fs l).1); (try have hLh9 : (if FaultsP fs l then shRow fs l else []).length = l.length := by rw [if_pos (h9 : FaultsP fs l), shRow_len])
                      exfalso
                      first | exact absurd rfl h9 | exact h9 trivial | (simp at h9; done)
                  · simp only [Bool.false_eq_true, if_true, if_false, Decidable.not_not] at h8
                    (try simp only [Decidable.not_not] at h8); (try have hth : FaultsP fs l := h8); (try have how : FaultP gx gy ∧ FaultP ux uy ∧ FaultP ((gx.toNat ||| ux.toNat : Nat) : Int) ((gy.toNat ||| uy.toNat : Nat) : Int) := h8); (try have hok : FaultP fx fy ∧ 0 ≤ c0 ∧ c0 ≤ 127 := h8; have k1 := shF_cell (fx := fx) hok.1.2.1 hok.2; have k2 := turn_fault hok.1; have k3 : 0 ≤ ((turn7 c0.toNat : Nat) : Int) ∧ ((turn7 c0.toNat : Nat) : Int) ≤ 127 := turnC_cell _; have k4 := sh_idem hok.1 hok.2; have k5 : shF (turnC fx) (turnC fy) ((turn7 c0.toNat : Nat) : Int) = ((turn7 (shF fx fy c0).toNat : Nat) : Int) := sh_turn hok.1 hok.2); (try have hWh8 : fs.length = l.length := (h8 : FaultsP fs l).1); (try have hLh8 : (if FaultsP fs l then shRow fs l else []).length = l.length := by rw [if_pos (h8 : FaultsP fs l), shRow_len])
                    exfalso
                    first | (exact h8 ⟨rfl, rfl, trivial⟩) | (simp [EqP, Eq1] at h8; done)
                · simp only [Bool.false_eq_true, if_true, if_false, Decidable.not_not] at h7
                  (try simp only [Decidable.not_not] at h7); (try have hth : FaultsP fs l := h7); (try have how : FaultP gx gy ∧ FaultP ux uy ∧ FaultP ((gx.toNat ||| ux.toNat : Nat) : Int) ((gy.toNat ||| uy.toNat : Nat) : Int) := h7); (try have hok : FaultP fx fy ∧ 0 ≤ c0 ∧ c0 ≤ 127 := h7; have k1 := shF_cell (fx := fx) hok.1.2.1 hok.2; have k2 := turn_fault hok.1; have k3 : 0 ≤ ((turn7 c0.toNat : Nat) : Int) ∧ ((turn7 c0.toNat : Nat) : Int) ≤ 127 := turnC_cell _; have k4 := sh_idem hok.1 hok.2; have k5 : shF (turnC fx) (turnC fy) ((turn7 c0.toNat : Nat) : Int) = ((turn7 (shF fx fy c0).toNat : Nat) : Int) := sh_turn hok.1 hok.2); (try have hWh7 : fs.length = l.length := (h7 : FaultsP fs l).1); (try have hLh7 : (if FaultsP fs l then shRow fs l else []).length = l.length := by rw [if_pos (h7 : FaultsP fs l), shRow_len])
                  exfalso
                  first | exact absurd rfl h7 | exact h7 trivial | (simp at h7; done)
              · simp only [Bool.false_eq_true, if_true, if_false, Decidable.not_not] at h6
                (try simp only [Decidable.not_not] at h6); (try have hth : FaultsP fs l := h6); (try have how : FaultP gx gy ∧ FaultP ux uy ∧ FaultP ((gx.toNat ||| ux.toNat : Nat) : Int) ((gy.toNat ||| uy.toNat : Nat) : Int) := h6); (try have hok : FaultP fx fy ∧ 0 ≤ c0 ∧ c0 ≤ 127 := h6; have k1 := shF_cell (fx := fx) hok.1.2.1 hok.2; have k2 := turn_fault hok.1; have k3 : 0 ≤ ((turn7 c0.toNat : Nat) : Int) ∧ ((turn7 c0.toNat : Nat) : Int) ≤ 127 := turnC_cell _; have k4 := sh_idem hok.1 hok.2; have k5 : shF (turnC fx) (turnC fy) ((turn7 c0.toNat : Nat) : Int) = ((turn7 (shF fx fy c0).toNat : Nat) : Int) := sh_turn hok.1 hok.2); (try have hWh6 : fs.length = l.length := (h6 : FaultsP fs l).1); (try have hLh6 : (if FaultsP fs l then shRow fs l else []).length = l.length := by rw [if_pos (h6 : FaultsP fs l), shRow_len])
                exfalso
                first | exact absurd rfl h6 | exact h6 trivial | (simp at h6; done)
            · simp only [Bool.false_eq_true, if_true, if_false, Decidable.not_not] at h5
              (try simp only [Decidable.not_not] at h5); (try have hth : FaultsP fs l := h5); (try have how : FaultP gx gy ∧ FaultP ux uy ∧ FaultP ((gx.toNat ||| ux.toNat : Nat) : Int) ((gy.toNat ||| uy.toNat : Nat) : Int) := h5); (try have hok : FaultP fx fy ∧ 0 ≤ c0 ∧ c0 ≤ 127 := h5; have k1 := shF_cell (fx := fx) hok.1.2.1 hok.2; have k2 := turn_fault hok.1; have k3 : 0 ≤ ((turn7 c0.toNat : Nat) : Int) ∧ ((turn7 c0.toNat : Nat) : Int) ≤ 127 := turnC_cell _; have k4 := sh_idem hok.1 hok.2; have k5 : shF (turnC fx) (turnC fy) ((turn7 c0.toNat : Nat) : Int) = ((turn7 (shF fx fy c0).toNat : Nat) : Int) := sh_turn hok.1 hok.2); (try have hWh5 : fs.length = l.length := (h5 : FaultsP fs l).1); (try have hLh5 : (if FaultsP fs l then shRow fs l else []).length = l.length := by rw [if_pos (h5 : FaultsP fs l), shRow_len])
              exfalso
              first | exact absurd rfl h5 | exact h5 trivial | (simp at h5; done)
          · simp only [Bool.false_eq_true, if_true, if_false, Decidable.not_not] at h4
            (try simp only [Decidable.not_not] at h4); (try have hth : FaultsP fs l := h4); (try have how : FaultP gx gy ∧ FaultP ux uy ∧ FaultP ((gx.toNat ||| ux.toNat : Nat) : Int) ((gy.toNat ||| uy.toNat : Nat) : Int) := h4); (try have hok : FaultP fx fy ∧ 0 ≤ c0 ∧ c0 ≤ 127 := h4; have k1 := shF_cell (fx := fx) hok.1.2.1 hok.2; have k2 := turn_fault hok.1; have k3 : 0 ≤ ((turn7 c0.toNat : Nat) : Int) ∧ ((turn7 c0.toNat : Nat) : Int) ≤ 127 := turnC_cell _; have k4 := sh_idem hok.1 hok.2; have k5 : shF (turnC fx) (turnC fy) ((turn7 c0.toNat : Nat) : Int) = ((turn7 (shF fx fy c0).toNat : Nat) : Int) := sh_turn hok.1 hok.2); (try have hWh4 : fs.length = l.length := (h4 : FaultsP fs l).1); (try have hLh4 : (if FaultsP fs l then shRow fs l else []).length = l.length := by rw [if_pos (h4 : FaultsP fs l), shRow_len])
            exfalso
            first | (exact h4 ⟨rfl, rfl, trivial⟩) | (simp [EqP, Eq1] at h4; done)
        · simp only [Bool.false_eq_true, if_true, if_false, Decidable.not_not] at h3
          (try simp only [Decidable.not_not] at h3); (try have hth : FaultsP fs l := h3); (try have how : FaultP gx gy ∧ FaultP ux uy ∧ FaultP ((gx.toNat ||| ux.toNat : Nat) : Int) ((gy.toNat ||| uy.toNat : Nat) : Int) := h3); (try have hok : FaultP fx fy ∧ 0 ≤ c0 ∧ c0 ≤ 127 := h3; have k1 := shF_cell (fx := fx) hok.1.2.1 hok.2; have k2 := turn_fault hok.1; have k3 : 0 ≤ ((turn7 c0.toNat : Nat) : Int) ∧ ((turn7 c0.toNat : Nat) : Int) ≤ 127 := turnC_cell _; have k4 := sh_idem hok.1 hok.2; have k5 : shF (turnC fx) (turnC fy) ((turn7 c0.toNat : Nat) : Int) = ((turn7 (shF fx fy c0).toNat : Nat) : Int) := sh_turn hok.1 hok.2); (try have hWh3 : fs.length = l.length := (h3 : FaultsP fs l).1); (try have hLh3 : (if FaultsP fs l then shRow fs l else []).length = l.length := by rw [if_pos (h3 : FaultsP fs l), shRow_len])
          exfalso
          first | exact absurd rfl h3 | exact h3 trivial | (simp at h3; done)
      · simp only [Bool.false_eq_true, if_true, if_false, Decidable.not_not] at h2
        (try simp only [Decidable.not_not] at h2); (try have hth : FaultsP fs l := h2); (try have how : FaultP gx gy ∧ FaultP ux uy ∧ FaultP ((gx.toNat ||| ux.toNat : Nat) : Int) ((gy.toNat ||| uy.toNat : Nat) : Int) := h2); (try have hok : FaultP fx fy ∧ 0 ≤ c0 ∧ c0 ≤ 127 := h2; have k1 := shF_cell (fx := fx) hok.1.2.1 hok.2; have k2 := turn_fault hok.1; have k3 : 0 ≤ ((turn7 c0.toNat : Nat) : Int) ∧ ((turn7 c0.toNat : Nat) : Int) ≤ 127 := turnC_cell _; have k4 := sh_idem hok.1 hok.2; have k5 : shF (turnC fx) (turnC fy) ((turn7 c0.toNat : Nat) : Int) = ((turn7 (shF fx fy c0).toNat : Nat) : Int) := sh_turn hok.1 hok.2); (try have hWh2 : fs.length = l.length := (h2 : FaultsP fs l).1); (try have hLh2 : (if FaultsP fs l then shRow fs l else []).length = l.length := by rw [if_pos (h2 : FaultsP fs l), shRow_len])
        exfalso
        first | exact absurd rfl h2 | exact h2 trivial | (simp at h2; done)
    · skip
      refine codeT.imp (σ' := [(2, .val (.bool _)), (3, .box 3 25 _), (4, .val (.int .i64 _)), (5, .val (.int .i64 _)), (6, .val (.bool _)), (9, .box 9 25 _), (13, .bor 70 _), (14, .own 1070 3 1 _ _), (15, .own 76 3 1 _ _), (16, .val (.bool _)), (19, .box 19 25 _), (20, .box 20 25 _), (21, .box 21 25 _), (22, .val (.bool _))]) ?_ (imp_covers ⟨rfl, rfl, rfl, rfl, rfl, rfl, rfl, rfl, rfl, rfl, rfl, rfl, rfl, rfl, trivial⟩)
      refine code_seq_same ?_ ?_
      · skip
        refine code_seq (fun K17 hK17 => ?_)
        refine code_region ?_
        refine list_cons rfl (op_q (q_move rfl (by decide)) ?_)
        refine list_nil ?_
        refine hK17 _ ?_; clear hK17 K17
        refine code_cond_d rfl (fun h15 => ?_) (fun h15 => ?_)
        · skip
          (try simp only [Decidable.not_not] at h15); (try have hth : FaultsP fs l := h15); (try have how : FaultP gx gy ∧ FaultP ux uy ∧ FaultP ((gx.toNat ||| ux.toNat : Nat) : Int) ((gy.toNat ||| uy.toNat : Nat) : Int) := h15); (try have hok : FaultP fx fy ∧ 0 ≤ c0 ∧ c0 ≤ 127 := h15; have k1 := shF_cell (fx := fx) hok.1.2.1 hok.2; have k2 := turn_fault hok.1; have k3 : 0 ≤ ((turn7 c0.toNat : Nat) : Int) ∧ ((turn7 c0.toNat : Nat) : Int) ≤ 127 := turnC_cell _; have k4 := sh_idem hok.1 hok.2; have k5 : shF (turnC fx) (turnC fy) ((turn7 c0.toNat : Nat) : Int) = ((turn7 (shF fx fy c0).toNat : Nat) : Int) := sh_turn hok.1 hok.2); (try have hWh15 : fs.length = l.length := (h15 : FaultsP fs l).1); (try have hLh15 : (if FaultsP fs l then shRow fs l else []).length = l.length := by rw [if_pos (h15 : FaultsP fs l), shRow_len])
          refine code_seq (fun K18 hK18 => ?_)
          refine code_region ?_
          refine list_cons rfl (op_q (q_load_agg agg_25 3 (.inr ⟨rfl, _, rfl⟩) rfl rfl (by first | decide | omega | exact Nat.le_refl _ | (simp; done) | (simp; omega)) rfl (by decide)) ?_)
          refine list_cons rfl (op_q (q_move rfl (by decide)) ?_)
          refine list_cons rfl (op_call _ (impl_ShownCell _ _ _) rfl rfl (by decide) (by decide) (by decide) rfl ?_)
          rintro _ rfl
          refine list_cons rfl (op_q (q_move rfl (by decide)) ?_)
          refine list_cons rfl (op_q (q_extract rfl rfl (by decide)) ?_)
          refine list_cons rfl (op_q (q_extract rfl rfl (by decide)) ?_)
          refine list_cons rfl (op_q (q_assign rfl (by decide)) ?_)
          refine list_cons rfl (op_q (q_assign rfl (by decide)) ?_)
          refine list_nil ?_
          refine hK18 _ ?_; clear hK18 K18
          refine codeT.imp (σ' := [(2, .val (.bool _)), (3, .box 3 25 _), (4, .val (.int .i64 _)), (5, .val (.int .i64 _)), (6, .val (.bool _)), (9, .box 9 25 _), (13, .bor 70 _), (14, .own 1070 3 1 _ _), (15, .own 76 3 1 _ _), (16, .val (.bool _)), (19, .box 19 25 _), (20, .box 20 25 _), (21, .box 21 25 _), (22, .val (.bool _)), (25, .val (.int .i64 _)), (26, .val (.bool _))]) ?_ (imp_covers ⟨rfl, rfl, rfl, rfl, rfl, rfl, rfl, rfl, rfl, rfl, rfl, rfl, rfl, rfl, rfl, rfl, trivial⟩)
          refine code_seq (fun K19 hK19 => ?_)
          refine code_region ?_
          refine list_cons rfl (op_q (q_move rfl (by decide)) ?_)
          refine list_cons rfl (op_call _ (impl_TurnCell _) rfl rfl (by decide) (by decide) (by decide) rfl ?_)
          rintro _ rfl
          refine list_cons rfl (op_q (q_move rfl (by decide)) ?_)
          refine list_cons rfl (op_q (q_extract rfl rfl (by decide)) ?_)
          refine list_cons rfl (op_q (q_extract rfl rfl (by decide)) ?_)
          refine list_cons rfl (op_q (q_assign rfl (by decide)) ?_)
          refine list_cons rfl (op_q (q_assign rfl (by decide)) ?_)
          refine list_nil ?_
          refine hK19 _ ?_; clear hK19 K19
          refine codeT.imp (σ' := [(2, .val (.bool _)), (3, .box 3 25 _), (4, .val (.int .i64 _)), (5, .val (.int .i64 _)), (6, .val (.bool _)), (9, .box 9 25 _), (13, .bor 70 _), (14, .own 1070 3 1 _ _), (15, .own 76 3 1 _ _), (16, .val (.bool _)), (19, .box 19 25 _), (20, .box 20 25 _), (21, .box 21 25 _), (22, .val (.bool _)), (25, .val (.int .i64 _)), (26, .val (.bool _)), (27, .val (.int .i64 _)), (28, .val (.bool _))]) ?_ (imp_covers ⟨rfl, rfl, rfl, rfl, rfl, rfl, rfl, rfl, rfl, rfl, rfl, rfl, rfl, rfl, rfl, rfl, rfl, rfl, trivial⟩)
          refine code_seq (fun K20 hK20 => ?_)
          refine code_region ?_
          refine list_cons rfl (op_q (q_load_agg agg_25 9 (.inr ⟨rfl, _, rfl⟩) rfl rfl (by first | decide | omega | exact Nat.le_refl _ | (simp; done) | (simp; omega)) rfl (by decide)) ?_)
          refine list_cons rfl (op_q (q_move rfl (by decide)) ?_)
          refine list_cons rfl (op_call _ (impl_ShownCell _ _ _) rfl rfl (by decide) (by decide) (by decide) rfl ?_)
          rintro _ rfl
          refine list_cons rfl (op_q (q_move rfl (by decide)) ?_)
          refine list_cons rfl (op_q (q_extract rfl rfl (by decide)) ?_)
          refine list_cons rfl (op_q (q_extract rfl rfl (by decide)) ?_)
          refine list_cons rfl (op_q (q_assign rfl (by decide)) ?_)
          refine list_cons rfl (op_q (q_assign rfl (by decide)) ?_)
          refine list_nil ?_
          refine hK20 _ ?_; clear hK20 K20
          refine codeT.imp (σ' := [(2, .val (.bool _)), (3, .box 3 25 _), (4, .val (.int .i64 _)), (5, .val (.int .i64 _)), (6, .val (.bool _)), (9, .box 9 25 _), (13, .bor 70 _), (14, .own 1070 3 1 _ _), (15, .own 76 3 1 _ _), (16, .val (.bool _)), (19, .box 19 25 _), (20, .box 20 25 _), (21, .box 21 25 _), (22, .val (.bool _)), (25, .val (.int .i64 _)), (26, .val (.bool _)), (27, .val (.int .i64 _)), (28, .val (.bool _)), (29, .val (.int .i64 _)), (30, .val (.bool _))]) ?_ (imp_covers ⟨rfl, rfl, rfl, rfl, rfl, rfl, rfl, rfl, rfl, rfl, rfl, rfl, rfl, rfl, rfl, rfl, rfl, rfl, rfl, rfl, trivial⟩)
          refine code_seq (fun K21 hK21 => ?_)
          refine code_region ?_
          refine list_cons rfl (op_q (q_move rfl (by decide)) ?_)
          refine list_cons rfl (op_call _ (impl_TurnCell _) rfl rfl (by decide) (by decide) (by decide) rfl ?_)
          rintro _ rfl
          refine list_cons rfl (op_q (q_move rfl (by decide)) ?_)
          refine list_cons rfl (op_q (q_extract rfl rfl (by decide)) ?_)
          refine list_cons rfl (op_q (q_extract rfl rfl (by decide)) ?_)
          refine list_cons rfl (op_q (q_assign rfl (by decide)) ?_)
          refine list_cons rfl (op_q (q_assign rfl (by decide)) ?_)
          refine list_nil ?_
          refine hK21 _ ?_; clear hK21 K21
          refine codeT.imp (σ' := [(2, .val (.bool _)), (3, .box 3 25 _), (4, .val (.int .i64 _)), (5, .val (.int .i64 _)), (6, .val (.bool _)), (9, .box 9 25 _), (13, .bor 70 _), (14, .own 1070 3 1 _ _), (15, .own 76 3 1 _ _), (16, .val (.bool _)), (19, .box 19 25 _), (20, .box 20 25 _), (21, .box 21 25 _), (22, .val (.bool _)), (25, .val (.int .i64 _)), (26, .val (.bool _)), (27, .val (.int .i64 _)), (28, .val (.bool _)), (29, .val (.int .i64 _)), (30, .val (.bool _)), (31, .val (.int .i64 _)), (32, .val (.bool _))]) ?_ (imp_covers ⟨rfl, rfl, rfl, rfl, rfl, rfl, rfl, rfl, rfl, rfl, rfl, rfl, rfl, rfl, rfl, rfl, rfl, rfl, rfl, rfl, rfl, rfl, trivial⟩)
          refine code_seq (fun K22 hK22 => ?_)
          refine code_region ?_
          refine list_cons rfl (op_q (q_load_agg agg_25 9 (.inr ⟨rfl, _, rfl⟩) rfl rfl (by first | decide | omega | exact Nat.le_refl _ | (simp; done) | (simp; omega)) rfl (by decide)) ?_)
          refine list_cons rfl (op_call _ (impl_TurnFault _ _) rfl rfl (by decide) (by decide) (by decide) rfl ?_)
          rintro _ rfl
          refine list_cons rfl (op_q (q_move rfl (by decide)) ?_)
          refine list_cons rfl (op_q (q_extract rfl rfl (by decide)) ?_)
          refine list_cons rfl (op_q (q_extract rfl rfl (by decide)) ?_)
          refine list_cons rfl (op_alloc zt_25 (by decide) (by decide) rfl ?_)
          refine list_cons rfl (op_store (agg_25).2 33 [33] (by intro t ht; simp only [List.mem_cons, List.not_mem_nil, or_false] at ht; subst ht; rfl) (.inr ⟨rfl, _, rfl⟩) rfl rfl rfl rfl rfl rfl (by first | decide | omega | exact Nat.le_refl _ | (simp; done) | (simp; omega)) (by decide) rfl ?_)
          refine list_cons rfl (op_q (q_assign rfl (by decide)) ?_)
          refine list_nil ?_
          refine hK22 _ ?_; clear hK22 K22
          refine codeT.imp (σ' := [(2, .val (.bool _)), (3, .box 3 25 _), (4, .val (.int .i64 _)), (5, .val (.int .i64 _)), (6, .val (.bool _)), (9, .box 9 25 _), (13, .bor 70 _), (14, .own 1070 3 1 _ _), (15, .own 76 3 1 _ _), (16, .val (.bool _)), (19, .box 19 25 _), (20, .box 20 25 _), (21, .box 21 25 _), (22, .val (.bool _)), (25, .val (.int .i64 _)), (26, .val (.bool _)), (27, .val (.int .i64 _)), (28, .val (.bool _)), (29, .val (.int .i64 _)), (30, .val (.bool _)), (31, .val (.int .i64 _)), (32, .val (.bool _)), (33, .box 33 25 _), (34, .val (.bool _))]) ?_ (imp_covers ⟨rfl, rfl, rfl, rfl, rfl, rfl, rfl, rfl, rfl, rfl, rfl, rfl, rfl, rfl, rfl, rfl, rfl, rfl, rfl, rfl, rfl, rfl, rfl, rfl, trivial⟩)
          refine code_seq (fun K23 hK23 => ?_)
          refine code_region ?_
          refine list_cons rfl (op_q (q_move rfl (by decide)) ?_)
          refine list_cons rfl (op_q (by first | exact q_notd rfl (by decide) | exact q_not rfl (by decide)) ?_)
          refine list_cons rfl (op_q (q_move rfl (by decide)) ?_)
          refine list_guard_d rfl rfl rfl rfl (by decide) rfl (by decide) (fun h16 => ?_) (fun h16 => ?_)
          · simp only [Bool.false_eq_true, if_true, if_false, Decidable.not_not] at h16
            (try simp only [Decidable.not_not] at h16); (try have hth : FaultsP fs l := h16); (try have how : FaultP gx gy ∧ FaultP ux uy ∧ FaultP ((gx.toNat ||| ux.toNat : Nat) : Int) ((gy.toNat ||| uy.toNat : Nat) : Int) := h16); (try have hok : FaultP fx fy ∧ 0 ≤ c0 ∧ c0 ≤ 127 := h16; have k1 := shF_cell (fx := fx) hok.1.2.1 hok.2; have k2 := turn_fault hok.1; have k3 : 0 ≤ ((turn7 c0.toNat : Nat) : Int) ∧ ((turn7 c0.toNat : Nat) : Int) ≤ 127 := turnC_cell _; have k4 := sh_idem hok.1 hok.2; have k5 : shF (turnC fx) (turnC fy) ((turn7 c0.toNat : Nat) : Int) = ((turn7 (shF fx fy c0).toNat : Nat) : Int) := sh_turn hok.1 hok.2); (try have hWh16 : fs.length = l.length := (h16 : FaultsP fs l).1); (try have hLh16 : (if FaultsP fs l then shRow fs l else []).length = l.length := by rw [if_pos (h16 : FaultsP fs l), shRow_len])
            refine id (op_q (q_move rfl (by decide)) ?_)
            refine list_guard_y rfl rfl rfl rfl (by decide) rfl ?_
            refine id (op_q (by first | exact q_notd rfl (by decide) | exact q_not rfl (by decide)) ?_)
            refine list_cons rfl (op_q (q_pick rfl rfl (by decide)) ?_)
            refine list_cons rfl (op_q (q_move rfl (by decide)) ?_)
            refine list_guard_d rfl rfl rfl rfl (by decide) rfl (by decide) (fun h17 => ?_) (fun h17 => ?_)
            · simp only [Bool.false_eq_true, if_true, if_false, Decidable.not_not] at h17
              (try simp only [Decidable.not_not] at h17); (try have hth : FaultsP fs l := h17); (try have how : FaultP gx gy ∧ FaultP ux uy ∧ FaultP ((gx.toNat ||| ux.toNat : Nat) : Int) ((gy.toNat ||| uy.toNat : Nat) : Int) := h17); (try have hok : FaultP fx fy ∧ 0 ≤ c0 ∧ c0 ≤ 127 := h17; have k1 := shF_cell (fx := fx) hok.1.2.1 hok.2; have k2 := turn_fault hok.1; have k3 : 0 ≤ ((turn7 c0.toNat : Nat) : Int) ∧ ((turn7 c0.toNat : Nat) : Int) ≤ 127 := turnC_cell _; have k4 := sh_idem hok.1 hok.2; have k5 : shF (turnC fx) (turnC fy) ((turn7 c0.toNat : Nat) : Int) = ((turn7 (shF fx fy c0).toNat : Nat) : Int) := sh_turn hok.1 hok.2); (try have hWh17 : fs.length = l.length := (h17 : FaultsP fs l).1); (try have hLh17 : (if FaultsP fs l then shRow fs l else []).length = l.length := by rw [if_pos (h17 : FaultsP fs l), shRow_len])
              refine id (op_q (q_move rfl (by decide)) ?_)
              refine list_guard_y rfl rfl rfl rfl (by decide) rfl ?_
              refine id (op_q (by first | exact q_notd rfl (by decide) | exact q_not rfl (by decide)) ?_)
              refine list_cons rfl (op_q (q_pick rfl rfl (by decide)) ?_)
              refine list_cons rfl (op_q (q_move rfl (by decide)) ?_)
              refine list_guard_d rfl rfl rfl rfl (by decide) rfl (by decide) (fun h18 => ?_) (fun h18 => ?_)
              · simp only [Bool.false_eq_true, if_true, if_false, Decidable.not_not] at h18
                (try simp only [Decidable.not_not] at h18); (try have hth : FaultsP fs l := h18); (try have how : FaultP gx gy ∧ FaultP ux uy ∧ FaultP ((gx.toNat ||| ux.toNat : Nat) : Int) ((gy.toNat ||| uy.toNat : Nat) : Int) := h18); (try have hok : FaultP fx fy ∧ 0 ≤ c0 ∧ c0 ≤ 127 := h18; have k1 := shF_cell (fx := fx) hok.1.2.1 hok.2; have k2 := turn_fault hok.1; have k3 : 0 ≤ ((turn7 c0.toNat : Nat) : Int) ∧ ((turn7 c0.toNat : Nat) : Int) ≤ 127 := turnC_cell _; have k4 := sh_idem hok.1 hok.2; have k5 : shF (turnC fx) (turnC fy) ((turn7 c0.toNat : Nat) : Int) = ((turn7 (shF fx fy c0).toNat : Nat) : Int) := sh_turn hok.1 hok.2); (try have hWh18 : fs.length = l.length := (h18 : FaultsP fs l).1); (try have hLh18 : (if FaultsP fs l then shRow fs l else []).length = l.length := by rw [if_pos (h18 : FaultsP fs l), shRow_len])
                refine id (op_q (q_move rfl (by decide)) ?_)
                refine list_guard_y rfl rfl rfl rfl (by decide) rfl ?_
                refine id (op_q (by first | exact q_notd rfl (by decide) | exact q_not rfl (by decide)) ?_)
                refine list_cons rfl (op_q (q_pick rfl rfl (by decide)) ?_)
                refine list_cons rfl (op_q (q_move rfl (by decide)) ?_)
                refine list_guard_d rfl rfl rfl rfl (by decide) rfl (by decide) (fun h19 => ?_) (fun h19 => ?_)
                · simp only [Bool.false_eq_true, if_true, if_false, Decidable.not_not] at h19
                  (try simp only [Decidable.not_not] at h19); (try have hth : FaultsP fs l := h19); (try have how : FaultP gx gy ∧ FaultP ux uy ∧ FaultP ((gx.toNat ||| ux.toNat : Nat) : Int) ((gy.toNat ||| uy.toNat : Nat) : Int) := h19); (try have hok : FaultP fx fy ∧ 0 ≤ c0 ∧ c0 ≤ 127 := h19; have k1 := shF_cell (fx := fx) hok.1.2.1 hok.2; have k2 := turn_fault hok.1; have k3 : 0 ≤ ((turn7 c0.toNat : Nat) : Int) ∧ ((turn7 c0.toNat : Nat) : Int) ≤ 127 := turnC_cell _; have k4 := sh_idem hok.1 hok.2; have k5 : shF (turnC fx) (turnC fy) ((turn7 c0.toNat : Nat) : Int) = ((turn7 (shF fx fy c0).toNat : Nat) : Int) := sh_turn hok.1 hok.2); (try have hWh19 : fs.length = l.length := (h19 : FaultsP fs l).1); (try have hLh19 : (if FaultsP fs l then shRow fs l else []).length = l.length := by rw [if_pos (h19 : FaultsP fs l), shRow_len])
                  refine id (op_q (q_move rfl (by decide)) ?_)
                  refine list_guard_y rfl rfl rfl rfl (by decide) rfl ?_
                  refine id (op_q (by first | exact q_notd rfl (by decide) | exact q_not rfl (by decide)) ?_)
                  refine list_cons rfl (op_q (q_pick rfl rfl (by decide)) ?_)
                  refine list_cons rfl (op_q (q_move rfl (by decide)) ?_)
                  refine list_guard_d rfl rfl rfl rfl (by decide) rfl (by decide) (fun h20 => ?_) (fun h20 => ?_)
                  · simp only [Bool.false_eq_true, if_true, if_false, Decidable.not_not] at h20
                    (try simp only [Decidable.not_not] at h20); (try have hth : FaultsP fs l := h20); (try have how : FaultP gx gy ∧ FaultP ux uy ∧ FaultP ((gx.toNat ||| ux.toNat : Nat) : Int) ((gy.toNat ||| uy.toNat : Nat) : Int) := h20); (try have hok : FaultP fx fy ∧ 0 ≤ c0 ∧ c0 ≤ 127 := h20; have k1 := shF_cell (fx := fx) hok.1.2.1 hok.2; have k2 := turn_fault hok.1; have k3 : 0 ≤ ((turn7 c0.toNat : Nat) : Int) ∧ ((turn7 c0.toNat : Nat) : Int) ≤ 127 := turnC_cell _; have k4 := sh_idem hok.1 hok.2; have k5 : shF (turnC fx) (turnC fy) ((turn7 c0.toNat : Nat) : Int) = ((turn7 (shF fx fy c0).toNat : Nat) : Int) := sh_turn hok.1 hok.2); (try have hWh20 : fs.length = l.length := (h20 : FaultsP fs l).1); (try have hLh20 : (if FaultsP fs l then shRow fs l else []).length = l.length := by rw [if_pos (h20 : FaultsP fs l), shRow_len])
                    refine id (op_q (q_move rfl (by decide)) ?_)
                    refine list_guard_y rfl rfl rfl rfl (by decide) rfl ?_
                    refine id (op_q (q_move rfl (by decide)) ?_)
                    refine list_guard_y rfl rfl rfl rfl (by decide) rfl ?_
                    refine id (op_q (q_ne rfl rfl (by decide)) ?_)
                    refine list_cons rfl (op_q (q_pick rfl rfl (by decide)) ?_)
                    refine list_cons rfl (op_q (q_move rfl (by decide)) ?_)
                    refine list_guard_d rfl rfl rfl rfl (by decide) rfl (by decide) (fun h21 => ?_) (fun h21 => ?_)
                    · simp only [Bool.false_eq_true, if_true, if_false, Decidable.not_not] at h21
                      (try simp only [Decidable.not_not] at h21); (try have hth : FaultsP fs l := h21); (try have how : FaultP gx gy ∧ FaultP ux uy ∧ FaultP ((gx.toNat ||| ux.toNat : Nat) : Int) ((gy.toNat ||| uy.toNat : Nat) : Int) := h21); (try have hok : FaultP fx fy ∧ 0 ≤ c0 ∧ c0 ≤ 127 := h21; have k1 := shF_cell (fx := fx) hok.1.2.1 hok.2; have k2 := turn_fault hok.1; have k3 : 0 ≤ ((turn7 c0.toNat : Nat) : Int) ∧ ((turn7 c0.toNat : Nat) : Int) ≤ 127 := turnC_cell _; have k4 := sh_idem hok.1 hok.2; have k5 : shF (turnC fx) (turnC fy) ((turn7 c0.toNat : Nat) : Int) = ((turn7 (shF fx fy c0).toNat : Nat) : Int) := sh_turn hok.1 hok.2); (try have hWh21 : fs.length = l.length := (h21 : FaultsP fs l).1); (try have hLh21 : (if FaultsP fs l then shRow fs l else []).length = l.length := by rw [if_pos (h21 : FaultsP fs l), shRow_len])
                      refine id (op_q (q_move rfl (by decide)) ?_)
                      refine list_guard_y rfl rfl rfl rfl (by decide) rfl ?_
                      refine id (op_q (q_move rfl (by decide)) ?_)
                      refine list_guard_y rfl rfl rfl rfl (by decide) rfl ?_
                      refine id (op_q (q_ne rfl rfl (by decide)) ?_)
                      refine list_cons rfl (op_q (q_pick rfl rfl (by decide)) ?_)
                      refine list_cons rfl (op_q (q_move rfl (by decide)) ?_)
                      refine list_guard_d rfl rfl rfl rfl (by decide) rfl (by decide) (fun h22 => ?_) (fun h22 => ?_)
                      · simp only [Bool.false_eq_true, if_true, if_false, Decidable.not_not] at h22
                        (try simp only [Decidable.not_not] at h22); (try have hth : FaultsP fs l := h22); (try have how : FaultP gx gy ∧ FaultP ux uy ∧ FaultP ((gx.toNat ||| ux.toNat : Nat) : Int) ((gy.toNat ||| uy.toNat : Nat) : Int) := h22); (try have hok : FaultP fx fy ∧ 0 ≤ c0 ∧ c0 ≤ 127 := h22; have k1 := shF_cell (fx := fx) hok.1.2.1 hok.2; have k2 := turn_fault hok.1; have k3 : 0 ≤ ((turn7 c0.toNat : Nat) : Int) ∧ ((turn7 c0.toNat : Nat) : Int) ≤ 127 := turnC_cell _; have k4 := sh_idem hok.1 hok.2; have k5 : shF (turnC fx) (turnC fy) ((turn7 c0.toNat : Nat) : Int) = ((turn7 (shF fx fy c0).toNat : Nat) : Int) := sh_turn hok.1 hok.2); (try have hWh22 : fs.length = l.length := (h22 : FaultsP fs l).1); (try have hLh22 : (if FaultsP fs l then shRow fs l else []).length = l.length := by rw [if_pos (h22 : FaultsP fs l), shRow_len])
                        refine id (op_q (q_load_agg agg_25 33 (.inr ⟨rfl, _, rfl⟩) rfl rfl (by first | decide | omega | exact Nat.le_refl _ | (simp; done) | (simp; omega)) rfl (by decide)) ?_)
                        refine list_guard_y rfl rfl rfl rfl (by decide) rfl ?_
                        refine id (op_q (q_load_agg agg_25 3 (.inr ⟨rfl, _, rfl⟩) rfl rfl (by first | decide | omega | exact Nat.le_refl _ | (simp; done) | (simp; omega)) rfl (by decide)) ?_)
                        refine list_guard_y rfl rfl rfl rfl (by decide) rfl ?_
                        refine id (op_q (q_aggne (by decide) agg_25 eqty_25 eqg_25 rfl rfl (by first | exact ⟨_, _, rfl, ⟨_, rfl⟩, ⟨_, _, rfl, ⟨_, rfl⟩, trivial⟩⟩) (by first | exact ⟨_, _, rfl, ⟨_, rfl⟩, ⟨_, _, rfl, ⟨_, rfl⟩, trivial⟩⟩) rfl rfl (by decide)) ?_)
                        refine list_cons rfl (op_q (q_pick rfl rfl (by decide)) ?_)
                        refine list_nil ?_
                        refine hK23 _ ?_; clear hK23 K23
                        refine codeT.imp (σ' := [(2, .val (.bool _)), (3, .box 3 25 _), (4, .val (.int .i64 _)), (5, .val (.int .i64 _)), (6, .val (.bool _)), (9, .box 9 25 _), (13, .bor 70 _), (14, .own 1070 3 1 _ _), (15, .own 76 3 1 _ _), (16, .val (.bool _)), (19, .box 19 25 _), (20, .box 20 25 _), (21, .box 21 25 _), (22, .val (.bool _)), (25, .val (.int .i64 _)), (26, .val (.bool _)), (27, .val (.int .i64 _)), (28, .val (.bool _)), (29, .val (.int .i64 _)), (30, .val (.bool _)), (31, .val (.int .i64 _)), (32, .val (.bool _)), (33, .box 33 25 _), (34, .val (.bool _)), (224, .val (.bool _))]) ?_ (imp_covers ⟨rfl, rfl, rfl, rfl, rfl, rfl, rfl, rfl, rfl, rfl, rfl, rfl, rfl, rfl, rfl, rfl, rfl, rfl, rfl, rfl, rfl, rfl, rfl, rfl, rfl, trivial⟩)
                        refine code_cond_d rfl (fun h23 => ?_) (fun h23 => ?_)
                        · skip
                          (try simp only [Decidable.not_not] at h23); (try have hth : FaultsP fs l := h23); (try have how : FaultP gx gy ∧ FaultP ux uy ∧ FaultP ((gx.toNat ||| ux.toNat : Nat) : Int) ((gy.toNat ||| uy.toNat : Nat) : Int) := h23); (try have hok : FaultP fx fy ∧ 0 ≤ c0 ∧ c0 ≤ 127 := h23; have k1 := shF_cell (fx := fx) hok.1.2.1 hok.2; have k2 := turn_fault hok.1; have k3 : 0 ≤ ((turn7 c0.toNat : Nat) : Int) ∧ ((turn7 c0.toNat : Nat) : Int) ≤ 127 := turnC_cell _; have k4 := sh_idem hok.1 hok.2; have k5 : shF (turnC fx) (turnC fy) ((turn7 c0.toNat : Nat) : Int) = ((turn7 (shF fx fy c0).toNat : Nat) : Int) := sh_turn hok.1 hok.2); (try have hWh23 : fs.length = l.length := (h23 : FaultsP fs l).1); (try have hLh23 : (if FaultsP fs l then shRow fs l else []).length = l.length := by rw [if_pos (h23 : FaultsP fs l), shRow_len])
                          exfalso
                          rw [if_pos hok.1, if_pos hok.1, if_pos k2, if_pos k2] at h23; exact h23 ⟨turnC_inv hok.1.1, turnC_inv hok.1.2.1, trivial⟩
                        · skip
                          (try simp only [Decidable.not_not] at h23); (try have hth : FaultsP fs l := h23); (try have how : FaultP gx gy ∧ FaultP ux uy ∧ FaultP ((gx.toNat ||| ux.toNat : Nat) : Int) ((gy.toNat ||| uy.toNat : Nat) : Int) := h23); (try have hok : FaultP fx fy ∧ 0 ≤ c0 ∧ c0 ≤ 127 := h23; have k1 := shF_cell (fx := fx) hok.1.2.1 hok.2; have k2 := turn_fault hok.1; have k3 : 0 ≤ ((turn7 c0.toNat : Nat) : Int) ∧ ((turn7 c0.toNat : Nat) : Int) ≤ 127 := turnC_cell _; have k4 := sh_idem hok.1 hok.2; have k5 : shF (turnC fx) (turnC fy) ((turn7 c0.toNat : Nat) : Int) = ((turn7 (shF fx fy c0).toNat : Nat) : Int) := sh_turn hok.1 hok.2); (try have hWh23 : fs.length = l.length := (h23 : FaultsP fs l).1); (try have hLh23 : (if FaultsP fs l then shRow fs l else []).length = l.length := by rw [if_pos (h23 : FaultsP fs l), shRow_len])
                          refine code_skip ?_
                          exact then_n (imp_covers ⟨rfl, rfl, rfl, rfl, rfl, rfl, rfl, rfl, rfl, rfl, rfl, rfl, rfl, rfl, trivial⟩)
                      · simp only [Bool.false_eq_true, if_true, if_false, Decidable.not_not] at h22
                        (try simp only [Decidable.not_not] at h22); (try have hth : FaultsP fs l := h22); (try have how : FaultP gx gy ∧ FaultP ux uy ∧ FaultP ((gx.toNat ||| ux.toNat : Nat) : Int) ((gy.toNat ||| uy.toNat : Nat) : Int) := h22); (try have hok : FaultP fx fy ∧ 0 ≤ c0 ∧ c0 ≤ 127 := h22; have k1 := shF_cell (fx := fx) hok.1.2.1 hok.2; have k2 := turn_fault hok.1; have k3 : 0 ≤ ((turn7 c0.toNat : Nat) : Int) ∧ ((turn7 c0.toNat : Nat) : Int) ≤ 127 := turnC_cell _; have k4 := sh_idem hok.1 hok.2; have k5 : shF (turnC fx) (turnC fy) ((turn7 c0.toNat : Nat) : Int) = ((turn7 (shF fx fy c0).toNat : Nat) : Int) := sh_turn hok.1 hok.2); (try have hWh22 : fs.length = l.length := (h22 : FaultsP fs l).1); (try have hLh22 : (if FaultsP fs l then shRow fs l else []).length = l.length := by rw [if_pos (h22 : FaultsP fs l), shRow_len])
                        exfalso
                        rw [if_pos hok, if_pos hok.1, if_pos hok.1, if_pos hok.2, if_pos ⟨k2, k3⟩, if_pos k1] at h22; exact h22 k5
                    · simp only [Bool.false_eq_true, if_true, if_false, Decidable.not_not] at h21
                      (try simp only [Decidable.not_not] at h21); (try have hth : FaultsP fs l := h21); (try have how : FaultP gx gy ∧ FaultP ux uy ∧ FaultP ((gx.toNat ||| ux.toNat : Nat) : Int) ((gy.toNat ||| uy.toNat : Nat) : Int) := h21); (try have hok : FaultP fx fy ∧ 0 ≤ c0 ∧ c0 ≤ 127 := h21; have k1 := shF_cell (fx := fx) hok.1.2.1 hok.2; have k2 := turn_fault hok.1; have k3 : 0 ≤ ((turn7 c0.toNat : Nat) : Int) ∧ ((turn7 c0.toNat : Nat) : Int) ≤ 127 := turnC_cell _; have k4 := sh_idem hok.1 hok.2; have k5 : shF (turnC fx) (turnC fy) ((turn7 c0.toNat : Nat) : Int) = ((turn7 (shF fx fy c0).toNat : Nat) : Int) := sh_turn hok.1 hok.2); (try have hWh21 : fs.length = l.length := (h21 : FaultsP fs l).1); (try have hLh21 : (if FaultsP fs l then shRow fs l else []).length = l.length := by rw [if_pos (h21 : FaultsP fs l), shRow_len])
                      exfalso
                      rw [if_pos hok, if_pos ⟨hok.1, k1⟩] at h21; exact h21 k4
                  · simp only [Bool.false_eq_true, if_true, if_false, Decidable.not_not] at h20
                    (try simp only [Decidable.not_not] at h20); (try have hth : FaultsP fs l := h20); (try have how : FaultP gx gy ∧ FaultP ux uy ∧ FaultP ((gx.toNat ||| ux.toNat : Nat) : Int) ((gy.toNat ||| uy.toNat : Nat) : Int) := h20); (try have hok : FaultP fx fy ∧ 0 ≤ c0 ∧ c0 ≤ 127 := h20; have k1 := shF_cell (fx := fx) hok.1.2.1 hok.2; have k2 := turn_fault hok.1; have k3 : 0 ≤ ((turn7 c0.toNat : Nat) : Int) ∧ ((turn7 c0.toNat : Nat) : Int) ≤ 127 := turnC_cell _; have k4 := sh_idem hok.1 hok.2; have k5 : shF (turnC fx) (turnC fy) ((turn7 c0.toNat : Nat) : Int) = ((turn7 (shF fx fy c0).toNat : Nat) : Int) := sh_turn hok.1 hok.2); (try have hWh20 : fs.length = l.length := (h20 : FaultsP fs l).1); (try have hLh20 : (if FaultsP fs l then shRow fs l else []).length = l.length := by rw [if_pos (h20 : FaultsP fs l), shRow_len])
                    exfalso
                    rw [if_pos hok.1, if_pos hok.1] at h20; exact h20 k2
                · simp only [Bool.false_eq_true, if_true, if_false, Decidable.not_not] at h19
                  (try simp only [Decidable.not_not] at h19); (try have hth : FaultsP fs l := h19); (try have how : FaultP gx gy ∧ FaultP ux uy ∧ FaultP ((gx.toNat ||| ux.toNat : Nat) : Int) ((gy.toNat ||| uy.toNat : Nat) : Int) := h19); (try have hok : FaultP fx fy ∧ 0 ≤ c0 ∧ c0 ≤ 127 := h19; have k1 := shF_cell (fx := fx) hok.1.2.1 hok.2; have k2 := turn_fault hok.1; have k3 : 0 ≤ ((turn7 c0.toNat : Nat) : Int) ∧ ((turn7 c0.toNat : Nat) : Int) ≤ 127 := turnC_cell _; have k4 := sh_idem hok.1 hok.2; have k5 : shF (turnC fx) (turnC fy) ((turn7 c0.toNat : Nat) : Int) = ((turn7 (shF fx fy c0).toNat : Nat) : Int) := sh_turn hok.1 hok.2); (try have hWh19 : fs.length = l.length := (h19 : FaultsP fs l).1); (try have hLh19 : (if FaultsP fs l then shRow fs l else []).length = l.length := by rw [if_pos (h19 : FaultsP fs l), shRow_len])
                  exfalso
                  rw [if_pos hok] at h19; exact h19 k1
              · simp only [Bool.false_eq_true, if_true, if_false, Decidable.not_not] at h18
                (try simp only [Decidable.not_not] at h18); (try have hth : FaultsP fs l := h18); (try have how : FaultP gx gy ∧ FaultP ux uy ∧ FaultP ((gx.toNat ||| ux.toNat : Nat) : Int) ((gy.toNat ||| uy.toNat : Nat) : Int) := h18); (try have hok : FaultP fx fy ∧ 0 ≤ c0 ∧ c0 ≤ 127 := h18; have k1 := shF_cell (fx := fx) hok.1.2.1 hok.2; have k2 := turn_fault hok.1; have k3 : 0 ≤ ((turn7 c0.toNat : Nat) : Int) ∧ ((turn7 c0.toNat : Nat) : Int) ≤ 127 := turnC_cell _; have k4 := sh_idem hok.1 hok.2; have k5 : shF (turnC fx) (turnC fy) ((turn7 c0.toNat : Nat) : Int) = ((turn7 (shF fx fy c0).toNat : Nat) : Int) := sh_turn hok.1 hok.2); (try have hWh18 : fs.length = l.length := (h18 : FaultsP fs l).1); (try have hLh18 : (if FaultsP fs l then shRow fs l else []).length = l.length := by rw [if_pos (h18 : FaultsP fs l), shRow_len])
                exfalso
                rw [if_pos hok.1, if_pos hok.1, if_pos hok.2] at h18; exact h18 ⟨k2, k3⟩
            · simp only [Bool.false_eq_true, if_true, if_false, Decidable.not_not] at h17
              (try simp only [Decidable.not_not] at h17); (try have hth : FaultsP fs l := h17); (try have how : FaultP gx gy ∧ FaultP ux uy ∧ FaultP ((gx.toNat ||| ux.toNat : Nat) : Int) ((gy.toNat ||| uy.toNat : Nat) : Int) := h17); (try have hok : FaultP fx fy ∧ 0 ≤ c0 ∧ c0 ≤ 127 := h17; have k1 := shF_cell (fx := fx) hok.1.2.1 hok.2; have k2 := turn_fault hok.1; have k3 : 0 ≤ ((turn7 c0.toNat : Nat) : Int) ∧ ((turn7 c0.toNat : Nat) : Int) ≤ 127 := turnC_cell _; have k4 := sh_idem hok.1 hok.2; have k5 : shF (turnC fx) (turnC fy) ((turn7 c0.toNat : Nat) : Int) = ((turn7 (shF fx fy c0).toNat : Nat) : Int) := sh_turn hok.1 hok.2); (try have hWh17 : fs.length = l.length := (h17 : FaultsP fs l).1); (try have hLh17 : (if FaultsP fs l then shRow fs l else []).length = l.length := by rw [if_pos (h17 : FaultsP fs l), shRow_len])
              exfalso
              exact h17 hok.2
          · simp only [Bool.false_eq_true, if_true, if_false, Decidable.not_not] at h16
            (try simp only [Decidable.not_not] at h16); (try have hth : FaultsP fs l := h16); (try have how : FaultP gx gy ∧ FaultP ux uy ∧ FaultP ((gx.toNat ||| ux.toNat : Nat) : Int) ((gy.toNat ||| uy.toNat : Nat) : Int) := h16); (try have hok : FaultP fx fy ∧ 0 ≤ c0 ∧ c0 ≤ 127 := h16; have k1 := shF_cell (fx := fx) hok.1.2.1 hok.2; have k2 := turn_fault hok.1; have k3 : 0 ≤ ((turn7 c0.toNat : Nat) : Int) ∧ ((turn7 c0.toNat : Nat) : Int) ≤ 127 := turnC_cell _; have k4 := sh_idem hok.1 hok.2; have k5 : shF (turnC fx) (turnC fy) ((turn7 c0.toNat : Nat) : Int) = ((turn7 (shF fx fy c0).toNat : Nat) : Int) := sh_turn hok.1 hok.2); (try have hWh16 : fs.length = l.length := (h16 : FaultsP fs l).1); (try have hLh16 : (if FaultsP fs l then shRow fs l else []).length = l.length := by rw [if_pos (h16 : FaultsP fs l), shRow_len])
            exfalso
            rw [if_pos hok] at h16; exact h16 ⟨hok.1, k1⟩
        · skip
          (try simp only [Decidable.not_not] at h15); (try have hth : FaultsP fs l := h15); (try have how : FaultP gx gy ∧ FaultP ux uy ∧ FaultP ((gx.toNat ||| ux.toNat : Nat) : Int) ((gy.toNat ||| uy.toNat : Nat) : Int) := h15); (try have hok : FaultP fx fy ∧ 0 ≤ c0 ∧ c0 ≤ 127 := h15; have k1 := shF_cell (fx := fx) hok.1.2.1 hok.2; have k2 := turn_fault hok.1; have k3 : 0 ≤ ((turn7 c0.toNat : Nat) : Int) ∧ ((turn7 c0.toNat : Nat) : Int) ≤ 127 := turnC_cell _; have k4 := sh_idem hok.1 hok.2; have k5 : shF (turnC fx) (turnC fy) ((turn7 c0.toNat : Nat) : Int) = ((turn7 (shF fx fy c0).toNat : Nat) : Int) := sh_turn hok.1 hok.2); (try have hWh15 : fs.length = l.length := (h15 : FaultsP fs l).1); (try have hLh15 : (if FaultsP fs l then shRow fs l else []).length = l.length := by rw [if_pos (h15 : FaultsP fs l), shRow_len])
          refine code_skip ?_
          exact then_n (imp_covers ⟨rfl, rfl, rfl, rfl, rfl, rfl, rfl, rfl, rfl, rfl, rfl, rfl, rfl, rfl, trivial⟩)
      · skip
        refine codeT.imp (σ' := [(2, .val (.bool _)), (13, .bor 70 _), (14, .own 1070 3 1 _ _), (15, .own 76 3 1 _ _), (16, .val (.bool _)), (19, .box 19 25 _), (20, .box 20 25 _), (21, .box 21 25 _), (22, .val (.bool _))]) ?_ (imp_covers ⟨rfl, rfl, rfl, rfl, rfl, rfl, rfl, rfl, rfl, trivial⟩)
        refine code_seq_same ?_ ?_
        · skip
          refine code_seq (fun K24 hK24 => ?_)
          refine code_region ?_
          refine list_cons rfl (op_q (q_move rfl (by decide)) ?_)
          refine list_nil ?_
          refine hK24 _ ?_; clear hK24 K24
          refine code_cond_d rfl (fun h24 => ?_) (fun h24 => ?_)
          · skip
            (try simp only [Decidable.not_not] at h24); (try have hth : FaultsP fs l := h24); (try have how : FaultP gx gy ∧ FaultP ux uy ∧ FaultP ((gx.toNat ||| ux.toNat : Nat) : Int) ((gy.toNat ||| uy.toNat : Nat) : Int) := h24); (try have hok : FaultP fx fy ∧ 0 ≤ c0 ∧ c0 ≤ 127 := h24; have k1 := shF_cell (fx := fx) hok.1.2.1 hok.2; have k2 := turn_fault hok.1; have k3 : 0 ≤ ((turn7 c0.toNat : Nat) : Int) ∧ ((turn7 c0.toNat : Nat) : Int) ≤ 127 := turnC_cell _; have k4 := sh_idem hok.1 hok.2; have k5 : shF (turnC fx) (turnC fy) ((turn7 c0.toNat : Nat) : Int) = ((turn7 (shF fx fy c0).toNat : Nat) : Int) := sh_turn hok.1 hok.2); (try have hWh24 : fs.length = l.length := (h24 : FaultsP fs l).1); (try have hLh24 : (if FaultsP fs l then shRow fs l else []).length = l.length := by rw [if_pos (h24 : FaultsP fs l), shRow_len])
            refine code_seq (fun K25 hK25 => ?_)
            refine code_seq (fun K26 hK26 => ?_)
            refine code_region ?_
            refine list_cons rfl (op_q (q_move rfl (by decide)) ?_)
            refine list_cons rfl (op_q (q_len_sl Try.underlying33 rfl rfl (by decide)) ?_)
            refine list_cons rfl (op_q (q_move rfl (by decide)) ?_)
            refine list_cons rfl (op_q (q_len_sl Try.underlying33 rfl rfl (by decide)) ?_)
            refine list_cons rfl (op_q (q_ne rfl rfl (by decide)) ?_)
            refine list_nil ?_
            refine hK26 _ ?_; clear hK26 K26
            refine code_cond_d rfl (fun h25 => ?_) (fun h25 => ?_)
            · skip
              (try simp only [Decidable.not_not] at h25); (try have hth : FaultsP fs l := h25); (try have how : FaultP gx gy ∧ FaultP ux uy ∧ FaultP ((gx.toNat ||| ux.toNat : Nat) : Int) ((gy.toNat ||| uy.toNat : Nat) : Int) := h25); (try have hok : FaultP fx fy ∧ 0 ≤ c0 ∧ c0 ≤ 127 := h25; have k1 := shF_cell (fx := fx) hok.1.2.1 hok.2; have k2 := turn_fault hok.1; have k3 : 0 ≤ ((turn7 c0.toNat : Nat) : Int) ∧ ((turn7 c0.toNat : Nat) : Int) ≤ 127 := turnC_cell _; have k4 := sh_idem hok.1 hok.2; have k5 : shF (turnC fx) (turnC fy) ((turn7 c0.toNat : Nat) : Int) = ((turn7 (shF fx fy c0).toNat : Nat) : Int) := sh_turn hok.1 hok.2); (try have hWh25 : fs.length = l.length := (h25 : FaultsP fs l).1); (try have hLh25 : (if FaultsP fs l then shRow fs l else []).length = l.length := by rw [if_pos (h25 : FaultsP fs l), shRow_len])
              exfalso
              exact absurd (by rw [if_pos hth, shRow_len]) h25
            · skip
              (try simp only [Decidable.not_not] at h25); (try have hth : FaultsP fs l := h25); (try have how : FaultP gx gy ∧ FaultP ux uy ∧ FaultP ((gx.toNat ||| ux.toNat : Nat) : Int) ((gy.toNat ||| uy.toNat : Nat) : Int) := h25); (try have hok : FaultP fx fy ∧ 0 ≤ c0 ∧ c0 ≤ 127 := h25; have k1 := shF_cell (fx := fx) hok.1.2.1 hok.2; have k2 := turn_fault hok.1; have k3 : 0 ≤ ((turn7 c0.toNat : Nat) : Int) ∧ ((turn7 c0.toNat : Nat) : Int) ≤ 127 := turnC_cell _; have k4 := sh_idem hok.1 hok.2; have k5 : shF (turnC fx) (turnC fy) ((turn7 c0.toNat : Nat) : Int) = ((turn7 (shF fx fy c0).toNat : Nat) : Int) := sh_turn hok.1 hok.2); (try have hWh25 : fs.length = l.length := (h25 : FaultsP fs l).1); (try have hLh25 : (if FaultsP fs l then shRow fs l else []).length = l.length := by rw [if_pos (h25 : FaultsP fs l), shRow_len])
              refine code_skip ?_
              refine hK25 _ ?_; clear hK25 K25
              refine code_seq (fun K27 hK27 => ?_)
              refine code_region ?_
              refine list_cons rfl (op_q (q_assign rfl (by decide)) ?_)
              refine list_nil ?_
              refine hK27 _ ?_; clear hK27 K27
              refine code_block ?_
              refine code_loop (X := Int) (fun x => [(2, .val (.bool false)), (13, .bor 70 (.sl fs.length (fl fs))), (14, .own 1070 3 1 l.length (l.map (.int .i64))), (15, .own 76 3 1 (if FaultsP fs l then shRow fs l else []).length ((if FaultsP fs l then shRow fs l else []).map (.int .i64))), (16, .val (.bool (decide (FaultsP fs l)))), (19, .box 19 25 [.int .i64 gx, .int .i64 gy]), (20, .box 20 25 [.int .i64 ux, .int .i64 uy]), (21, .box 21 25 [.int .i64 (if FaultP gx gy ∧ FaultP ux uy ∧ FaultP ((gx.toNat ||| ux.toNat : Nat) : Int) ((gy.toNat ||| uy.toNat : Nat) : Int) then ((gx.toNat ||| ux.toNat : Nat) : Int) else 0), .int .i64 (if FaultP gx gy ∧ FaultP ux uy ∧ FaultP ((gx.toNat ||| ux.toNat : Nat) : Int) ((gy.toNat ||| uy.toNat : Nat) : Int) then ((gy.toNat ||| uy.toNat : Nat) : Int) else 0)]), (22, .val (.bool (decide (FaultP gx gy ∧ FaultP ux uy ∧ FaultP ((gx.toNat ||| ux.toNat : Nat) : Int) ((gy.toNat ||| uy.toNat : Nat) : Int))))), (35, .val (.int .i64 x))]) (fun x => 0 ≤ x ∧ x ≤ l.length) (fun x => l.length - x.toNat) (_) (imp_covers ⟨rfl, rfl, rfl, rfl, rfl, rfl, rfl, rfl, rfl, rfl, trivial⟩) ?_ ?_
              · (try dsimp only)
                exact ⟨by omega, by omega⟩
              · intro x hI
                revert hI; revert x; intro i hI
                replace hI : 0 ≤ i ∧ i ≤ l.length := hI
                show codeT _ _ _ [(2, .val (.bool false)), (13, .bor 70 (.sl fs.length (fl fs))), (14, .own 1070 3 1 l.length (l.map (.int .i64))), (15, .own 76 3 1 (if FaultsP fs l then shRow fs l else []).length ((if FaultsP fs l then shRow fs l else []).map (.int .i64))), (16, .val (.bool (decide (FaultsP fs l)))), (19, .box 19 25 [.int .i64 gx, .int .i64 gy]), (20, .box 20 25 [.int .i64 ux, .int .i64 uy]), (21, .box 21 25 [.int .i64 (if FaultP gx gy ∧ FaultP ux uy ∧ FaultP ((gx.toNat ||| ux.toNat : Nat) : Int) ((gy.toNat ||| uy.toNat : Nat) : Int) then ((gx.toNat ||| ux.toNat : Nat) : Int) else 0), .int .i64 (if FaultP gx gy ∧ FaultP ux uy ∧ FaultP ((gx.toNat ||| ux.toNat : Nat) : Int) ((gy.toNat ||| uy.toNat : Nat) : Int) then ((gy.toNat ||| uy.toNat : Nat) : Int) else 0)]), (22, .val (.bool (decide (FaultP gx gy ∧ FaultP ux uy ∧ FaultP ((gx.toNat ||| ux.toNat : Nat) : Int) ((gy.toNat ||| uy.toNat : Nat) : Int))))), (35, .val (.int .i64 i))] _
                obtain ⟨i1, i2⟩ := hI
                refine code_seq (fun K28 hK28 => ?_)
                refine code_seq (fun K29 hK29 => ?_)
                refine code_region ?_
                refine list_cons rfl (op_q (q_move rfl (by decide)) ?_)
                refine list_cons rfl (op_q (q_move rfl (by decide)) ?_)
                refine list_cons rfl (op_q (q_len_sl Try.underlying33 rfl rfl (by decide)) ?_)
                refine list_cons rfl (op_q (q_lt rfl rfl (by decide)) ?_)
                refine list_nil ?_
                refine hK29 _ ?_; clear hK29 K29
                refine code_cond_d rfl (fun h26 => ?_) (fun h26 => ?_)
                · skip
                  (try simp only [Decidable.not_not] at h26); (try have hth : FaultsP fs l := h26); (try have how : FaultP gx gy ∧ FaultP ux uy ∧ FaultP ((gx.toNat ||| ux.toNat : Nat) : Int) ((gy.toNat ||| uy.toNat : Nat) : Int) := h26); (try have hok : FaultP fx fy ∧ 0 ≤ c0 ∧ c0 ≤ 127 := h26; have k1 := shF_cell (fx := fx) hok.1.2.1 hok.2; have k2 := turn_fault hok.1; have k3 : 0 ≤ ((turn7 c0.toNat : Nat) : Int) ∧ ((turn7 c0.toNat : Nat) : Int) ≤ 127 := turnC_cell _; have k4 := sh_idem hok.1 hok.2; have k5 : shF (turnC fx) (turnC fy) ((turn7 c0.toNat : Nat) : Int) = ((turn7 (shF fx fy c0).toNat : Nat) : Int) := sh_turn hok.1 hok.2); (try have hWh26 : fs.length = l.length := (h26 : FaultsP fs l).1); (try have hLh26 : (if FaultsP fs l then shRow fs l else []).length = l.length := by rw [if_pos (h26 : FaultsP fs l), shRow_len])
                  refine code_skip ?_
                  refine hK28 _ ?_; clear hK28 K28
                  refine code_seq (fun K30 hK30 => ?_)
                  refine code_block ?_
                  refine code_seq (fun K31 hK31 => ?_)
                  refine any_start fun ob1_0 => ?_
                  refine any_op (rd := [13]) ob1_0 rfl rfl rfl (anyT_quiet [(13, _)] ⟨rfl, trivial⟩ rfl (q_move rfl (by decide))) (fun ob1_1 => ?_)
                  refine any_op (rd := [35]) ob1_1 rfl rfl rfl (anyT_quiet [(35, _)] ⟨rfl, trivial⟩ rfl (q_move rfl (by decide))) (fun ob1_2 => ?_)
                  refine any_op (rd := [238, 239]) ob1_2 rfl rfl rfl (anyT_quiet [(238, _), (239, _)] ⟨rfl, rfl, trivial⟩ rfl (q_indexAddr_rd sl_32 rfl (.inr ⟨_, rfl, rfl⟩) rfl (by omega) (by omega) (by decide))) (fun ob1_3 => ?_)
                  refine any_op (rd := [240]) ob1_3 rfl rfl rfl (anyT_quiet [(240, _)] ⟨rfl, trivial⟩ rfl (q_load_rd_aggE agg_25 rfl (.inr ⟨_, rfl⟩) (by first | decide | omega | exact Nat.le_refl _ | (simp; done) | (simp; omega)) (fl_at fs i.toNat (by omega)) rfl (by decide))) (fun ob1_4 => ?_)
                  refine any_op (rd := [14]) ob1_4 rfl rfl rfl (anyT_quiet [(14, _)] ⟨rfl, trivial⟩ rfl (q_move rfl (by decide))) (fun ob1_5 => ?_)
                  refine any_op (rd := [35]) ob1_5 rfl rfl rfl (anyT_quiet [(35, _)] ⟨rfl, trivial⟩ rfl (q_move rfl (by decide))) (fun ob1_6 => ?_)
                  refine any_op (rd := [242, 243]) ob1_6 rfl rfl rfl (anyT_quiet [(242, _), (243, _)] ⟨rfl, rfl, trivial⟩ rfl (q_indexAddr_own sl_33 rfl rfl (by omega) (by omega) (by decide))) (fun ob1_7 => ?_)
                  refine any_op (rd := [244, 14]) ob1_7 rfl rfl rfl (anyT_quiet [(244, _), (14, _)] ⟨rfl, rfl, trivial⟩ rfl (q_load one_3 14 rfl rfl rfl (by first | rfl | exact get_map1 _ 0 _ (by first | omega | (simp; omega))) (by decide))) (fun ob1_8 => ?_)
                  refine any_op (rd := [241, 245]) ob1_8 rfl rfl rfl (fun σ hag hfr => by have e241 : σ.at 241 = some _ := (hag 241 (by decide)).trans rfl; have e245 : σ.at 245 = some _ := (hag 245 (by decide)).trans rfl; exact op_call _ (impl_ShownCell _ _ _) (evs_cons e241 (evs_cons e245 evs_nil)) rfl (by decide) (by decide) (by decide) hfr (fun rs hR => by subst hR; rfl)) (fun ob1_9 => ?_)
                  refine any_op (rd := [246]) ob1_9 rfl rfl rfl (anyT_quiet [(246, _)] ⟨rfl, trivial⟩ rfl (q_move rfl (by decide))) (fun ob1_10 => ?_)
                  refine any_op (rd := [237]) ob1_10 rfl rfl rfl (anyT_quiet [(237, _)] ⟨rfl, trivial⟩ rfl (q_extract rfl rfl (by decide))) (fun ob1_11 => ?_)
                  refine any_op (rd := [237]) ob1_11 rfl rfl rfl (anyT_quiet [(237, _)] ⟨rfl, trivial⟩ rfl (q_extract rfl rfl (by decide))) (fun ob1_12 => ?_)
                  refine any_op (rd := [247]) ob1_12 rfl rfl rfl (anyT_quiet [(247, _)] ⟨rfl, trivial⟩ rfl (q_assign rfl (by decide))) (fun ob1_13 => ?_)
                  refine any_end [[], [], [0, 1], [0, 1, 2], [], [], [4, 5], [4, 5, 6], [0, 1, 2, 3, 4, 5, 6, 7], [0, 1, 2, 3, 4, 5, 6, 7, 8], [0, 1, 2, 3, 4, 5, 6, 7, 8, 9], [0, 1, 2, 3, 4, 5, 6, 7, 8, 9], [0, 1, 2, 3, 4, 5, 6, 7, 8, 9, 10], [0, 1, 2, 3, 4, 5, 6, 7, 8, 9, 10, 11, 12]] ob1_13 (by kernel_rfl) (Nat.le_of_ble_eq_true rfl) (by decide) (by decide) (by kernel_rfl) (by kernel_rfl) (by kernel_rfl) (by kernel_rfl) (by kernel_rfl) ?_
                  clear ob1_0 ob1_1 ob1_2 ob1_3 ob1_4 ob1_5 ob1_6 ob1_7 ob1_8 ob1_9 ob1_10 ob1_11 ob1_12 ob1_13
                  refine listT.imp (σ' := [(2, _), (13, _), (14, _), (15, _), (16, _), (19, _), (20, _), (21, _), (22, _), (35, _), (36, _), (231, _), (232, _), (233, _), (234, _), (237, _), (238, _), (239, _), (240, _), (241, _), (242, _), (243, _), (244, _), (245, _), (246, _), (247, _), (248, _)]) ?_ (imp_covers ⟨rfl, rfl, rfl, rfl, rfl, rfl, rfl, rfl, rfl, rfl, rfl, rfl, rfl, rfl, rfl, rfl, rfl, rfl, rfl, rfl, rfl, rfl, rfl, rfl, rfl, rfl, rfl, trivial⟩)
                  refine list_cons rfl (op_q (q_assign rfl (by decide)) ?_)
                  refine list_nil ?_
                  refine hK31 _ ?_; clear hK31 K31
                  refine codeT.imp (σ' := [(2, .val (.bool _)), (13, .bor 70 _), (14, .own 1070 3 1 _ _), (15, .own 76 3 1 _ _), (16, .val (.bool _)), (19, .box 19 25 _), (20, .box 20 25 _), (21, .box 21 25 _), (22, .val (.bool _)), (35, .val (.int .i64 _)), (36, .val (.int .i64 _)), (37, .val (.bool _))]) ?_ (imp_covers ⟨rfl, rfl, rfl, rfl, rfl, rfl, rfl, rfl, rfl, rfl, rfl, rfl, trivial⟩)
                  refine code_seq (fun K32 hK32 => ?_)
                  refine code_region ?_
                  refine list_cons rfl (op_q (q_move rfl (by decide)) ?_)
                  refine list_cons rfl (op_q (by first | exact q_notd rfl (by decide) | exact q_not rfl (by decide)) ?_)
                  refine list_cons rfl (op_q (q_move rfl (by decide)) ?_)
                  refine list_guard_d rfl rfl rfl rfl (by decide) rfl (by decide) (fun h27 => ?_) (fun h27 => ?_)
                  · simp only [Bool.false_eq_true, if_true, if_false, Decidable.not_not] at h27
                    (try simp only [Decidable.not_not] at h27); (try have hth : FaultsP fs l := h27); (try have how : FaultP gx gy ∧ FaultP ux uy ∧ FaultP ((gx.toNat ||| ux.toNat : Nat) : Int) ((gy.toNat ||| uy.toNat : Nat) : Int) := h27); (try have hok : FaultP fx fy ∧ 0 ≤ c0 ∧ c0 ≤ 127 := h27; have k1 := shF_cell (fx := fx) hok.1.2.1 hok.2; have k2 := turn_fault hok.1; have k3 : 0 ≤ ((turn7 c0.toNat : Nat) : Int) ∧ ((turn7 c0.toNat : Nat) : Int) ≤ 127 := turnC_cell _; have k4 := sh_idem hok.1 hok.2; have k5 : shF (turnC fx) (turnC fy) ((turn7 c0.toNat : Nat) : Int) = ((turn7 (shF fx fy c0).toNat : Nat) : Int) := sh_turn hok.1 hok.2); (try have hWh27 : fs.length = l.length := (h27 : FaultsP fs l).1); (try have hLh27 : (if FaultsP fs l then shRow fs l else []).length = l.length := by rw [if_pos (h27 : FaultsP fs l), shRow_len])
                    refine id (op_q (q_move rfl (by decide)) ?_)
                    refine list_guard_y rfl rfl rfl rfl (by decide) rfl ?_
                    refine id (op_q (q_move rfl (by decide)) ?_)
                    refine list_guard_y rfl rfl rfl rfl (by decide) rfl ?_
                    refine id (op_q (q_move rfl (by decide)) ?_)
                    refine list_guard_y rfl rfl rfl rfl (by decide) rfl ?_
                    refine id (op_q (q_indexAddr_own sl_33 rfl rfl (by omega) (by omega) (by decide)) ?_)
                    refine list_guard_y rfl rfl rfl rfl (by decide) rfl ?_
                    refine id (op_q (q_load one_3 15 rfl rfl rfl (by first | rfl | exact get_map1 _ 0 _ (by first | omega | (simp; omega))) (by decide)) ?_)
                    refine list_guard_y rfl rfl rfl rfl (by decide) rfl ?_
                    refine id (op_q (q_ne rfl rfl (by decide)) ?_)
                    refine list_cons rfl (op_q (q_pick rfl rfl (by decide)) ?_)
                    refine list_nil ?_
                    refine hK32 _ ?_; clear hK32 K32
                    refine codeT.imp (σ' := [(2, .val (.bool _)), (13, .bor 70 _), (14, .own 1070 3 1 _ _), (15, .own 76 3 1 _ _), (16, .val (.bool _)), (19, .box 19 25 _), (20, .box 20 25 _), (21, .box 21 25 _), (22, .val (.bool _)), (35, .val (.int .i64 _)), (36, .val (.int .i64 _)), (37, .val (.bool _)), (258, .val (.bool _))]) ?_ (imp_covers ⟨rfl, rfl, rfl, rfl, rfl, rfl, rfl, rfl, rfl, rfl, rfl, rfl, rfl, trivial⟩)
                    refine code_cond_d rfl (fun h28 => ?_) (fun h28 => ?_)
                    · skip
                      (try simp only [Decidable.not_not] at h28); (try have hth : FaultsP fs l := h28); (try have how : FaultP gx gy ∧ FaultP ux uy ∧ FaultP ((gx.toNat ||| ux.toNat : Nat) : Int) ((gy.toNat ||| uy.toNat : Nat) : Int) := h28); (try have hok : FaultP fx fy ∧ 0 ≤ c0 ∧ c0 ≤ 127 := h28; have k1 := shF_cell (fx := fx) hok.1.2.1 hok.2; have k2 := turn_fault hok.1; have k3 : 0 ≤ ((turn7 c0.toNat : Nat) : Int) ∧ ((turn7 c0.toNat : Nat) : Int) ≤ 127 := turnC_cell _; have k4 := sh_idem hok.1 hok.2; have k5 : shF (turnC fx) (turnC fy) ((turn7 c0.toNat : Nat) : Int) = ((turn7 (shF fx fy c0).toNat : Nat) : Int) := sh_turn hok.1 hok.2); (try have hWh28 : fs.length = l.length := (h28 : FaultsP fs l).1); (try have hLh28 : (if FaultsP fs l then shRow fs l else []).length = l.length := by rw [if_pos (h28 : FaultsP fs l), shRow_len])
                      exfalso
                      exact h28 (by rw [if_pos ⟨hth.at (by omega), hth.2.1.at (by omega)⟩, if_pos hth, shRow_at fs l (by omega)])
                    · skip
                      (try simp only [Decidable.not_not] at h28); (try have hth : FaultsP fs l := h28); (try have how : FaultP gx gy ∧ FaultP ux uy ∧ FaultP ((gx.toNat ||| ux.toNat : Nat) : Int) ((gy.toNat ||| uy.toNat : Nat) : Int) := h28); (try have hok : FaultP fx fy ∧ 0 ≤ c0 ∧ c0 ≤ 127 := h28; have k1 := shF_cell (fx := fx) hok.1.2.1 hok.2; have k2 := turn_fault hok.1; have k3 : 0 ≤ ((turn7 c0.toNat : Nat) : Int) ∧ ((turn7 c0.toNat : Nat) : Int) ≤ 127 := turnC_cell _; have k4 := sh_idem hok.1 hok.2; have k5 : shF (turnC fx) (turnC fy) ((turn7 c0.toNat : Nat) : Int) = ((turn7 (shF fx fy c0).toNat : Nat) : Int) := sh_turn hok.1 hok.2); (try have hWh28 : fs.length = l.length := (h28 : FaultsP fs l).1); (try have hLh28 : (if FaultsP fs l then shRow fs l else []).length = l.length := by rw [if_pos (h28 : FaultsP fs l), shRow_len])
                      refine code_skip ?_
                      refine blk_n ?_
                      refine hK30 _ ?_; clear hK30 K30
                      refine code_region ?_
                      refine list_cons rfl (op_q (q_move rfl (by decide)) ?_)
                      refine list_cons rfl (op_q (by first | exact q_addI rfl rfl (by decide) (by omega) (by omega) | exact q_ib rfl rfl rfl (by decide)) ?_)
                      refine list_cons rfl (op_q (q_assign rfl (by decide)) ?_)
                      refine list_nil ?_
                      refine then_n ⟨(_), imp_covers ⟨rfl, rfl, rfl, rfl, rfl, rfl, rfl, rfl, rfl, rfl, trivial⟩, ?_, ?_⟩
                      · (try dsimp only)
                        exact ⟨by omega, by omega⟩
                      · (try dsimp only); omega
                  · simp only [Bool.false_eq_true, if_true, if_false, Decidable.not_not] at h27
                    (try simp only [Decidable.not_not] at h27); (try have hth : FaultsP fs l := h27); (try have how : FaultP gx gy ∧ FaultP ux uy ∧ FaultP ((gx.toNat ||| ux.toNat : Nat) : Int) ((gy.toNat ||| uy.toNat : Nat) : Int) := h27); (try have hok : FaultP fx fy ∧ 0 ≤ c0 ∧ c0 ≤ 127 := h27; have k1 := shF_cell (fx := fx) hok.1.2.1 hok.2; have k2 := turn_fault hok.1; have k3 : 0 ≤ ((turn7 c0.toNat : Nat) : Int) ∧ ((turn7 c0.toNat : Nat) : Int) ≤ 127 := turnC_cell _; have k4 := sh_idem hok.1 hok.2; have k5 : shF (turnC fx) (turnC fy) ((turn7 c0.toNat : Nat) : Int) = ((turn7 (shF fx fy c0).toNat : Nat) : Int) := sh_turn hok.1 hok.2); (try have hWh27 : fs.length = l.length := (h27 : FaultsP fs l).1); (try have hLh27 : (if FaultsP fs l then shRow fs l else []).length = l.length := by rw [if_pos (h27 : FaultsP fs l), shRow_len])
                    exfalso
                    exact h27 ⟨hth.at (by omega), hth.2.1.at (by omega)⟩
                · skip
                  (try simp only [Decidable.not_not] at h26); (try have hth : FaultsP fs l := h26); (try have how : FaultP gx gy ∧ FaultP ux uy ∧ FaultP ((gx.toNat ||| ux.toNat : Nat) : Int) ((gy.toNat ||| uy.toNat : Nat) : Int) := h26); (try have hok : FaultP fx fy ∧ 0 ≤ c0 ∧ c0 ≤ 127 := h26; have k1 := shF_cell (fx := fx) hok.1.2.1 hok.2; have k2 := turn_fault hok.1; have k3 : 0 ≤ ((turn7 c0.toNat : Nat) : Int) ∧ ((turn7 c0.toNat : Nat) : Int) ≤ 127 := turnC_cell _; have k4 := sh_idem hok.1 hok.2; have k5 : shF (turnC fx) (turnC fy) ((turn7 c0.toNat : Nat) : Int) = ((turn7 (shF fx fy c0).toNat : Nat) : Int) := sh_turn hok.1 hok.2); (try have hWh26 : fs.length = l.length := (h26 : FaultsP fs l).1); (try have hLh26 : (if FaultsP fs l then shRow fs l else []).length = l.length := by rw [if_pos (h26 : FaultsP fs l), shRow_len])
                  refine code_exit ?_
                  refine then_x ?_; clear hK28 K28
                  refine then_x ?_
                  refine blk_hit ?_
                  exact then_n (imp_covers ⟨rfl, rfl, rfl, rfl, rfl, rfl, rfl, rfl, rfl, trivial⟩)
          · skip
            (try simp only [Decidable.not_not] at h24); (try have hth : FaultsP fs l := h24); (try have how : FaultP gx gy ∧ FaultP ux uy ∧ FaultP ((gx.toNat ||| ux.toNat : Nat) : Int) ((gy.toNat ||| uy.toNat : Nat) : Int) := h24); (try have hok : FaultP fx fy ∧ 0 ≤ c0 ∧ c0 ≤ 127 := h24; have k1 := shF_cell (fx := fx) hok.1.2.1 hok.2; have k2 := turn_fault hok.1; have k3 : 0 ≤ ((turn7 c0.toNat : Nat) : Int) ∧ ((turn7 c0.toNat : Nat) : Int) ≤ 127 := turnC_cell _; have k4 := sh_idem hok.1 hok.2; have k5 : shF (turnC fx) (turnC fy) ((turn7 c0.toNat : Nat) : Int) = ((turn7 (shF fx fy c0).toNat : Nat) : Int) := sh_turn hok.1 hok.2); (try have hWh24 : fs.length = l.length := (h24 : FaultsP fs l).1); (try have hLh24 : (if FaultsP fs l then shRow fs l else []).length = l.length := by rw [if_pos (h24 : FaultsP fs l), shRow_len])
            refine code_skip ?_
            exact then_n (imp_covers ⟨rfl, rfl, rfl, rfl, rfl, rfl, rfl, rfl, rfl, trivial⟩)
        · skip
          refine code_seq (fun K33 hK33 => ?_)
          refine code_seq (fun K34 hK34 => ?_)
          refine code_region ?_
          refine list_cons rfl (op_q (q_move rfl (by decide)) ?_)
          refine list_cons rfl (op_q (q_move rfl (by decide)) ?_)
          refine list_guard_d rfl rfl rfl rfl (by decide) rfl (by decide) (fun h29 => ?_) (fun h29 => ?_)
          · simp only [Bool.false_eq_true, if_true, if_false, Decidable.not_not] at h29
            (try simp only [Decidable.not_not] at h29); (try have hth : FaultsP fs l := h29); (try have how : FaultP gx gy ∧ FaultP ux uy ∧ FaultP ((gx.toNat ||| ux.toNat : Nat) : Int) ((gy.toNat ||| uy.toNat : Nat) : Int) := h29); (try have hok : FaultP fx fy ∧ 0 ≤ c0 ∧ c0 ≤ 127 := h29; have k1 := shF_cell (fx := fx) hok.1.2.1 hok.2; have k2 := turn_fault hok.1; have k3 : 0 ≤ ((turn7 c0.toNat : Nat) : Int) ∧ ((turn7 c0.toNat : Nat) : Int) ≤ 127 := turnC_cell _; have k4 := sh_idem hok.1 hok.2; have k5 : shF (turnC fx) (turnC fy) ((turn7 c0.toNat : Nat) : Int) = ((turn7 (shF fx fy c0).toNat : Nat) : Int) := sh_turn hok.1 hok.2); (try have hWh29 : fs.length = l.length := (h29 : FaultsP fs l).1); (try have hLh29 : (if FaultsP fs l then shRow fs l else []).length = l.length := by rw [if_pos (h29 : FaultsP fs l), shRow_len])
            refine id (op_q (q_load_agg agg_25 21 (.inr ⟨rfl, _, rfl⟩) rfl rfl (by first | decide | omega | exact Nat.le_refl _ | (simp; done) | (simp; omega)) rfl (by decide)) ?_)
            refine list_guard_y rfl rfl rfl rfl (by decide) rfl ?_
            refine id (op_call _ (impl_IsFault _ _) rfl rfl (by decide) (by decide) (by decide) rfl ?_)
            rintro _ rfl
            refine list_guard_y rfl rfl rfl rfl (by decide) rfl ?_
            refine id (op_q (by first | exact q_notd rfl (by decide) | exact q_not rfl (by decide)) ?_)
            refine list_guard_y rfl rfl rfl rfl (by decide) rfl ?_
            refine id (op_q (q_move rfl (by decide)) ?_)
            refine list_guard_d rfl rfl rfl rfl (by decide) rfl (by decide) (fun h30 => ?_) (fun h30 => ?_)
            · simp only [Bool.false_eq_true, if_true, if_false, Decidable.not_not] at h30
              (try simp only [Decidable.not_not] at h30); (try have hth : FaultsP fs l := h30); (try have how : FaultP gx gy ∧ FaultP ux uy ∧ FaultP ((gx.toNat ||| ux.toNat : Nat) : Int) ((gy.toNat ||| uy.toNat : Nat) : Int) := h30); (try have hok : FaultP fx fy ∧ 0 ≤ c0 ∧ c0 ≤ 127 := h30; have k1 := shF_cell (fx := fx) hok.1.2.1 hok.2; have k2 := turn_fault hok.1; have k3 : 0 ≤ ((turn7 c0.toNat : Nat) : Int) ∧ ((turn7 c0.toNat : Nat) : Int) ≤ 127 := turnC_cell _; have k4 := sh_idem hok.1 hok.2; have k5 : shF (turnC fx) (turnC fy) ((turn7 c0.toNat : Nat) : Int) = ((turn7 (shF fx fy c0).toNat : Nat) : Int) := sh_turn hok.1 hok.2); (try have hWh30 : fs.length = l.length := (h30 : FaultsP fs l).1); (try have hLh30 : (if FaultsP fs l then shRow fs l else []).length = l.length := by rw [if_pos (h30 : FaultsP fs l), shRow_len])
              refine id (op_q (q_fieldAddr fi_25_0 rfl rfl (by decide)) ?_)
              refine list_guard_y rfl rfl rfl rfl (by decide) rfl ?_
              refine id (op_q (q_load one_3 21 rfl rfl rfl (by first | rfl | exact get_map1 _ 0 _ (by first | omega | (simp; omega))) (by decide)) ?_)
              refine list_guard_y rfl rfl rfl rfl (by decide) rfl ?_
              refine id (op_q (q_fieldAddr fi_25_0 rfl rfl (by decide)) ?_)
              refine list_guard_y rfl rfl rfl rfl (by decide) rfl ?_
              refine id (op_q (q_load one_3 19 rfl rfl rfl (by first | rfl | exact get_map1 _ 0 _ (by first | omega | (simp; omega))) (by decide)) ?_)
              refine list_guard_y rfl rfl rfl rfl (by decide) rfl ?_
              refine id (op_q (q_fieldAddr fi_25_0 rfl rfl (by decide)) ?_)
              refine list_guard_y rfl rfl rfl rfl (by decide) rfl ?_
              refine id (op_q (q_load one_3 20 rfl rfl rfl (by first | rfl | exact get_map1 _ 0 _ (by first | omega | (simp; omega))) (by decide)) ?_)
              refine list_guard_y rfl rfl rfl rfl (by decide) rfl ?_
              refine id (op_q (by first | exact q_orI rfl rfl (by decide) (by omega) (by omega) (by omega) (by omega) | exact q_ib rfl rfl rfl (by decide)) ?_)
              refine list_guard_y rfl rfl rfl rfl (by decide) rfl ?_
              refine id (op_q (q_ne rfl rfl (by decide)) ?_)
              refine list_guard_y rfl rfl rfl rfl (by decide) rfl ?_
              refine id (op_q (q_pick rfl rfl (by decide)) ?_)
              refine list_guard_y rfl rfl rfl rfl (by decide) rfl ?_
              refine id (op_q (q_move rfl (by decide)) ?_)
              refine list_guard_d rfl rfl rfl rfl (by decide) rfl (by decide) (fun h31 => ?_) (fun h31 => ?_)
              · simp only [Bool.false_eq_true, if_true, if_false, Decidable.not_not] at h31
                (try simp only [Decidable.not_not] at h31); (try have hth : FaultsP fs l := h31); (try have how : FaultP gx gy ∧ FaultP ux uy ∧ FaultP ((gx.toNat ||| ux.toNat : Nat) : Int) ((gy.toNat ||| uy.toNat : Nat) : Int) := h31); (try have hok : FaultP fx fy ∧ 0 ≤ c0 ∧ c0 ≤ 127 := h31; have k1 := shF_cell (fx := fx) hok.1.2.1 hok.2; have k2 := turn_fault hok.1; have k3 : 0 ≤ ((turn7 c0.toNat : Nat) : Int) ∧ ((turn7 c0.toNat : Nat) : Int) ≤ 127 := turnC_cell _; have k4 := sh_idem hok.1 hok.2; have k5 : shF (turnC fx) (turnC fy) ((turn7 c0.toNat : Nat) : Int) = ((turn7 (shF fx fy c0).toNat : Nat) : Int) := sh_turn hok.1 hok.2); (try have hWh31 : fs.length = l.length := (h31 : FaultsP fs l).1); (try have hLh31 : (if FaultsP fs l then shRow fs l else []).length = l.length := by rw [if_pos (h31 : FaultsP fs l), shRow_len])
                refine id (op_q (q_fieldAddr fi_25_1 rfl rfl (by decide)) ?_)
                refine list_guard_y rfl rfl rfl rfl (by decide) rfl ?_
                refine id (op_q (q_load one_3 21 rfl rfl rfl (by first | rfl | exact get_map1 _ 0 _ (by first | omega | (simp; omega))) (by decide)) ?_)
                refine list_guard_y rfl rfl rfl rfl (by decide) rfl ?_
                refine id (op_q (q_fieldAddr fi_25_1 rfl rfl (by decide)) ?_)
                refine list_guard_y rfl rfl rfl rfl (by decide) rfl ?_
                refine id (op_q (q_load one_3 19 rfl rfl rfl (by first | rfl | exact get_map1 _ 0 _ (by first | omega | (simp; omega))) (by decide)) ?_)
                refine list_guard_y rfl rfl rfl rfl (by decide) rfl ?_
                refine id (op_q (q_fieldAddr fi_25_1 rfl rfl (by decide)) ?_)
                refine list_guard_y rfl rfl rfl rfl (by decide) rfl ?_
                refine id (op_q (q_load one_3 20 rfl rfl rfl (by first | rfl | exact get_map1 _ 0 _ (by first | omega | (simp; omega))) (by decide)) ?_)
                refine list_guard_y rfl rfl rfl rfl (by decide) rfl ?_
                refine id (op_q (by first | exact q_orI rfl rfl (by decide) (by omega) (by omega) (by omega) (by omega) | exact q_ib rfl rfl rfl (by decide)) ?_)
                refine list_guard_y rfl rfl rfl rfl (by decide) rfl ?_
                refine id (op_q (q_ne rfl rfl (by decide)) ?_)
                refine list_guard_y rfl rfl rfl rfl (by decide) rfl ?_
                refine id (op_q (q_pick rfl rfl (by decide)) ?_)
                refine list_cons rfl (op_q (q_pick rfl rfl (by decide)) ?_)
                refine list_nil ?_
                refine hK34 _ ?_; clear hK34 K34
                refine codeT.imp (σ' := [(2, .val (.bool _)), (13, .bor 70 _), (14, .own 1070 3 1 _ _), (15, .own 76 3 1 _ _), (16, .val (.bool _)), (19, .box 19 25 _), (20, .box 20 25 _), (21, .box 21 25 _), (22, .val (.bool _)), (284, .val (.bool _))]) ?_ (imp_covers ⟨rfl, rfl, rfl, rfl, rfl, rfl, rfl, rfl, rfl, rfl, trivial⟩)
                refine code_cond_d rfl (fun h32 => ?_) (fun h32 => ?_)
                · skip
                  (try simp only [Decidable.not_not] at h32); (try have hth : FaultsP fs l := h32); (try have how : FaultP gx gy ∧ FaultP ux uy ∧ FaultP ((gx.toNat ||| ux.toNat : Nat) : Int) ((gy.toNat ||| uy.toNat : Nat) : Int) := h32); (try have hok : FaultP fx fy ∧ 0 ≤ c0 ∧ c0 ≤ 127 := h32; have k1 := shF_cell (fx := fx) hok.1.2.1 hok.2; have k2 := turn_fault hok.1; have k3 : 0 ≤ ((turn7 c0.toNat : Nat) : Int) ∧ ((turn7 c0.toNat : Nat) : Int) ≤ 127 := turnC_cell _; have k4 := sh_idem hok.1 hok.2; have k5 : shF (turnC fx) (turnC fy) ((turn7 c0.toNat : Nat) : Int) = ((turn7 (shF fx fy c0).toNat : Nat) : Int) := sh_turn hok.1 hok.2); (try have hWh32 : fs.length = l.length := (h32 : FaultsP fs l).1); (try have hLh32 : (if FaultsP fs l then shRow fs l else []).length = l.length := by rw [if_pos (h32 : FaultsP fs l), shRow_len])
                  exfalso
                  rw [if_pos how] at h32; first | exact h32 rfl | exact h32 (ior_7 how.1.2.1 how.2.1.2.1).symm
                · skip
                  (try simp only [Decidable.not_not] at h32); (try have hth : FaultsP fs l := h32); (try have how : FaultP gx gy ∧ FaultP ux uy ∧ FaultP ((gx.toNat ||| ux.toNat : Nat) : Int) ((gy.toNat ||| uy.toNat : Nat) : Int) := h32); (try have hok : FaultP fx fy ∧ 0 ≤ c0 ∧ c0 ≤ 127 := h32; have k1 := shF_cell (fx := fx) hok.1.2.1 hok.2; have k2 := turn_fault hok.1; have k3 : 0 ≤ ((turn7 c0.toNat : Nat) : Int) ∧ ((turn7 c0.toNat : Nat) : Int) ≤ 127 := turnC_cell _; have k4 := sh_idem hok.1 hok.2; have k5 : shF (turnC fx) (turnC fy) ((turn7 c0.toNat : Nat) : Int) = ((turn7 (shF fx fy c0).toNat : Nat) : Int) := sh_turn hok.1 hok.2); (try have hWh32 : fs.length = l.length := (h32 : FaultsP fs l).1); (try have hLh32 : (if FaultsP fs l then shRow fs l else []).length = l.length := by rw [if_pos (h32 : FaultsP fs l), shRow_len])
                  refine code_skip ?_
                  refine hK33 _ ?_; clear hK33 K33
                  refine code_seq (fun K35 hK35 => ?_)
                  refine code_region ?_
                  refine list_cons rfl (op_q (q_assign rfl (by decide)) ?_)
                  refine list_nil ?_
                  refine hK35 _ ?_; clear hK35 K35
                  refine code_ret ?_
                  refine ends_ret (cs := []) rfl rfl rfl rfl trivial ?_
                  first | rfl | exact absurd rfl h32
              · simp only [Bool.false_eq_true, if_true, if_false, Decidable.not_not] at h31
                (try simp only [Decidable.not_not] at h31); (try have hth : FaultsP fs l := h31); (try have how : FaultP gx gy ∧ FaultP ux uy ∧ FaultP ((gx.toNat ||| ux.toNat : Nat) : Int) ((gy.toNat ||| uy.toNat : Nat) : Int) := h31); (try have hok : FaultP fx fy ∧ 0 ≤ c0 ∧ c0 ≤ 127 := h31; have k1 := shF_cell (fx := fx) hok.1.2.1 hok.2; have k2 := turn_fault hok.1; have k3 : 0 ≤ ((turn7 c0.toNat : Nat) : Int) ∧ ((turn7 c0.toNat : Nat) : Int) ≤ 127 := turnC_cell _; have k4 := sh_idem hok.1 hok.2; have k5 : shF (turnC fx) (turnC fy) ((turn7 c0.toNat : Nat) : Int) = ((turn7 (shF fx fy c0).toNat : Nat) : Int) := sh_turn hok.1 hok.2); (try have hWh31 : fs.length = l.length := (h31 : FaultsP fs l).1); (try have hLh31 : (if FaultsP fs l then shRow fs l else []).length = l.length := by rw [if_pos (h31 : FaultsP fs l), shRow_len])
                exfalso
                rw [if_pos how] at h31; first | exact h31 rfl | exact h31 (ior_7 how.1.1 how.2.1.1).symm
            · simp only [Bool.false_eq_true, if_true, if_false, Decidable.not_not] at h30
              (try simp only [Decidable.not_not] at h30); (try have hth : FaultsP fs l := h30); (try have how : FaultP gx gy ∧ FaultP ux uy ∧ FaultP ((gx.toNat ||| ux.toNat : Nat) : Int) ((gy.toNat ||| uy.toNat : Nat) : Int) := h30); (try have hok : FaultP fx fy ∧ 0 ≤ c0 ∧ c0 ≤ 127 := h30; have k1 := shF_cell (fx := fx) hok.1.2.1 hok.2; have k2 := turn_fault hok.1; have k3 : 0 ≤ ((turn7 c0.toNat : Nat) : Int) ∧ ((turn7 c0.toNat : Nat) : Int) ≤ 127 := turnC_cell _; have k4 := sh_idem hok.1 hok.2; have k5 : shF (turnC fx) (turnC fy) ((turn7 c0.toNat : Nat) : Int) = ((turn7 (shF fx fy c0).toNat : Nat) : Int) := sh_turn hok.1 hok.2); (try have hWh30 : fs.length = l.length := (h30 : FaultsP fs l).1); (try have hLh30 : (if FaultsP fs l then shRow fs l else []).length = l.length := by rw [if_pos (h30 : FaultsP fs l), shRow_len])
              exfalso
              rw [if_pos how, if_pos how] at h30; exact h30 how.2.2
          · simp only [Bool.false_eq_true, if_true, if_false, Decidable.not_not] at h29
            (try simp only [Decidable.not_not] at h29); (try have hth : FaultsP fs l := h29); (try have how : FaultP gx gy ∧ FaultP ux uy ∧ FaultP ((gx.toNat ||| ux.toNat : Nat) : Int) ((gy.toNat ||| uy.toNat : Nat) : Int) := h29); (try have hok : FaultP fx fy ∧ 0 ≤ c0 ∧ c0 ≤ 127 := h29; have k1 := shF_cell (fx := fx) hok.1.2.1 hok.2; have k2 := turn_fault hok.1; have k3 : 0 ≤ ((turn7 c0.toNat : Nat) : Int) ∧ ((turn7 c0.toNat : Nat) : Int) ≤ 127 := turnC_cell _; have k4 := sh_idem hok.1 hok.2; have k5 : shF (turnC fx) (turnC fy) ((turn7 c0.toNat : Nat) : Int) = ((turn7 (shF fx fy c0).toNat : Nat) : Int) := sh_turn hok.1 hok.2); (try have hWh29 : fs.length = l.length := (h29 : FaultsP fs l).1); (try have hLh29 : (if FaultsP fs l then shRow fs l else []).length = l.length := by rw [if_pos (h29 : FaultsP fs l), shRow_len])
            refine list_guard_nT rfl rfl rfl rfl (by decide) (by decide) ?_
            refine list_guard_nT rfl rfl rfl rfl (by decide) (by decide) ?_
            refine list_guard_nT rfl rfl rfl rfl (by decide) (by decide) ?_
            refine list_guard_u rfl rfl rfl rfl (by decide) (by decide) ?_
            refine list_guard_u rfl rfl rfl rfl (by decide) (by decide) ?_
            refine list_guard_u rfl rfl rfl rfl (by decide) (by decide) ?_
            refine list_guard_u rfl rfl rfl rfl (by decide) (by decide) ?_
            refine list_guard_u rfl rfl rfl rfl (by decide) (by decide) ?_
            refine list_guard_u rfl rfl rfl rfl (by decide) (by decide) ?_
            refine list_guard_u rfl rfl rfl rfl (by decide) (by decide) ?_
            refine list_guard_u rfl rfl rfl rfl (by decide) (by decide) ?_
            refine list_guard_nT rfl rfl rfl rfl (by decide) (by decide) ?_
            refine list_guard_nT rfl rfl rfl rfl (by decide) (by decide) ?_
            refine list_guard_u rfl rfl rfl rfl (by decide) (by decide) ?_
            refine list_guard_u rfl rfl rfl rfl (by decide) (by decide) ?_
            refine list_guard_u rfl rfl rfl rfl (by decide) (by decide) ?_
            refine list_guard_u rfl rfl rfl rfl (by decide) (by decide) ?_
            refine list_guard_u rfl rfl rfl rfl (by decide) (by decide) ?_
            refine list_guard_u rfl rfl rfl rfl (by decide) (by decide) ?_
            refine list_guard_u rfl rfl rfl rfl (by decide) (by decide) ?_
            refine list_guard_u rfl rfl rfl rfl (by decide) (by decide) ?_
            refine list_guard_nT rfl rfl rfl rfl (by decide) (by decide) ?_
            refine list_cons rfl (op_q (q_pick rfl rfl (by decide)) ?_)
            refine list_nil ?_
            refine hK34 _ ?_; clear hK34 K34
            refine codeT.imp (σ' := [(2, .val (.bool _)), (13, .bor 70 _), (14, .own 1070 3 1 _ _), (15, .own 76 3 1 _ _), (16, .val (.bool _)), (19, .box 19 25 _), (20, .box 20 25 _), (21, .box 21 25 _), (22, .val (.bool _)), (284, .val (.bool _))]) ?_ (imp_covers ⟨rfl, rfl, rfl, rfl, rfl, rfl, rfl, rfl, rfl, rfl, trivial⟩)
            refine code_cond_f rfl ?_
            refine code_skip ?_
            refine hK33 _ ?_; clear hK33 K33
            refine code_seq (fun K36 hK36 => ?_)
            refine code_region ?_
            refine list_cons rfl (op_q (q_assign rfl (by decide)) ?_)
            refine list_nil ?_
            refine hK36 _ ?_; clear hK36 K36
            refine code_ret ?_
            refine ends_ret (cs := []) rfl rfl rfl rfl trivial ?_
            first | rfl | exact absurd rfl h29

end Go.Proofs.Ythgiialammjcbaa
