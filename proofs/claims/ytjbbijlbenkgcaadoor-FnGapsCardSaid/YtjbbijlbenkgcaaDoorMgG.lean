/- Contracts of functions, walked over the pure layer; each says for which arguments. -/
import Derived.Test.YtjbbijlbenkgcaaDoorRows
import Derived.Test.YtjbbijlbenkgcaaDoorPwR
import Derived.Test.YtjbbijlbenkgcaaDoorTf
import Derived.Test.YtjbbijlbenkgcaaDoorSp
import Derived.Test.YtjbbijlbenkgcaaDoorS4
import Derived.Test.YtjbbijlbenkgcaaDoorS4c
import Derived.Test.YtjbbijlbenkgcaaDoorS5
import Derived.Test.YtjbbijlbenkgcaaDoorShelf
import Derived.Test.YtjbbijlbenkgcaaDoorIm
import Derived.Test.YtjbbijlbenkgcaaDoorS5p
import Derived.Test.YtjbbijlbenkgcaaDoorMgI
import Derived.Test.YtjbbijlbenkgcaaDoorI4c
namespace Go.Proofs.YtjbbijlbenkgcaaDoor.DrTy
open Go.RowKit

def az (u : TypeId) : Nat := match u with  | _ => 0

theorem fi_74_1 : FiTy Tryd.prog 74 1 1 := fiTy_of (k := 1) Tryd.underlying74 rfl rfl (by kernel_rfl) (by decide)
theorem one_3 : OneTy Tryd.prog 3 := oneTy_of Tryd.underlying3 rfl (by kernel_rfl)
theorem fi_74_0 : FiTy Tryd.prog 74 0 0 := fiTy_of (k := 1) Tryd.underlying74 rfl rfl (by kernel_rfl) (by decide)
theorem one_22 : OneTy Tryd.prog 22 := oneTy_of Tryd.underlying22 rfl (by kernel_rfl)
theorem sl_22 : SlTy Tryd.prog 22 5 1 1 [.int .u8 0] := slTy_of Tryd.underlying22 (z := .int .u8 0) (by kernel_rfl) rfl (by decide) (by decide) rfl
theorem one_5 : OneTy Tryd.prog 5 := oneTy_of Tryd.underlying5 rfl (by kernel_rfl)
theorem fi_74_2 : FiTy Tryd.prog 74 2 2 := fiTy_of (k := 1) Tryd.underlying74 rfl rfl (by kernel_rfl) (by decide)
theorem one_72 : OneTy Tryd.prog 72 := oneTy_of Tryd.underlying72 rfl (by kernel_rfl)
theorem sl_24 : SlTy Tryd.prog 24 3 1 8 [.int .i64 0] := slTy_of Tryd.underlying24 (z := .int .i64 0) (by kernel_rfl) rfl (by decide) (by decide) rfl

end Go.Proofs.YtjbbijlbenkgcaaDoor.DrTy
namespace Go.Proofs.YtjbbijlbenkgcaaDoor
open Go.RowKit DrTy
set_option linter.unusedVariables false
set_option linter.unusedSimpArgs false

theorem iand_255 (x : Int) : 0 ≤ iand .u64 x 255 ∧ iand .u64 x 255 ≤ 255 := by
  unfold iand
  rw [BitVec.toNat_and, show (BitVec.ofInt IntKind.u64.bits 255).toNat = 255 from rfl]
  have h : (BitVec.ofInt IntKind.u64.bits x).toNat &&& 255 ≤ 255 := Nat.and_le_right
  rw [IntWalk.u64_in _ ⟨by omega, by omega⟩]
  omega
theorem getD_mem {l : List Int} {k : Nat} (h : k < l.length) : l.getD k 0 ∈ l := by
  rw [List.getD_eq_getElem?_getD, List.getElem?_eq_getElem h]; exact List.getElem_mem h
theorem p2_64 {k : Nat} (h : k ≤ 6) : p2 k ≤ 64 := by
  have : p2 k ≤ p2 6 := Nat.pow_le_pow_right (by omega) h
  exact this
theorem xor7c {x y : Int} (hx : 0 ≤ x ∧ x ≤ 127) (hy : 0 ≤ y ∧ y ≤ 127) : 0 ≤ ((x.toNat ^^^ y.toNat : Nat) : Int) ∧ ((x.toNat ^^^ y.toNat : Nat) : Int) ≤ 127 := by
  have h := @Nat.xor_lt_two_pow x.toNat y.toNat 7 (by omega) (by omega)
  omega
theorem iandw_255 (x : Int) : 0 ≤ IntKind.i64.wrap (iand .u64 x 255) ∧ IntKind.i64.wrap (iand .u64 x 255) ≤ 255 := by
  have h := iand_255 x
  rw [wrap_in (by omega) (by omega)]; exact h

set_option maxRecDepth 4000 in
theorem next_c (code : List UInt8) (hcode : code.length ≤ 9223372036854775807) (a s : Int) (ha : 0 ≤ a) (ha2 : a ≤ 4611686018427387904) : MCalls Tryd.prog 117 false (some (.box 74 [.sl code.length (bytesP code), .int .i64 a, .int .u64 s])) [] fun rs cs => ∃ b s2 : Int, 0 ≤ b ∧ b ≤ 255 ∧ rs = [.val (.int .i64 b)] ∧ cs = [.sl code.length (bytesP code), .int .i64 (a + 1), .int .u64 s2] := by
  refine mcalls_of_code (n := 62) az Tryd.func117 (by kernel_rfl) rfl rfl (Nat.le_of_ble_eq_true rfl) (by intro t u h; simp [Tryd.f117] at h) ?_
  refine code_seq (fun K1 hK1 => ?_)
  refine code_region ?_
  refine list_cons rfl (op_q (q_assign rfl (by decide)) ?_)
  refine list_nil ?_
  refine hK1 _ ?_; clear hK1 K1
  refine code_seq (fun K2 hK2 => ?_)
  refine code_region ?_
  refine list_cons rfl (op_q (q_assign rfl (by decide)) ?_)
  refine list_nil ?_
  refine hK2 _ ?_; clear hK2 K2
  refine code_seq (fun K3 hK3 => ?_)
  refine code_seq (fun K4 hK4 => ?_)
  refine code_draw (by kernel_rfl) (by kernel_rfl) ?_
  refine draw_q rfl (q_move rfl (by decide)) ?_
  refine draw_q rfl (q_nilCheck rfl rfl (by decide)) ?_
  refine draw_q rfl (q_fieldAddr fi_74_1 rfl rfl (by decide)) ?_
  refine draw_q rfl (q_load one_3 0 rfl rfl rfl (by first | rfl | exact get_map1 _ 0 _ (by first | omega | (simp; omega))) (by decide)) ?_
  refine draw_q rfl (q_move rfl (by decide)) ?_
  refine draw_q rfl (q_nilCheck rfl rfl (by decide)) ?_
  refine draw_q rfl (q_fieldAddr fi_74_0 rfl rfl (by decide)) ?_
  refine draw_q rfl (q_load one_22 0 rfl rfl rfl (by first | rfl | exact get_map1 _ [] _ (by first | omega | (simp; omega))) (by decide)) ?_
  refine draw_q rfl (q_len_sl Tryd.underlying22 rfl rfl (by decide)) ?_
  refine draw_q rfl (q_lt rfl rfl (by decide)) ?_
  refine draw_nil ?_
  refine hK4 _ ?_; clear hK4 K4
  refine codeT.imp (σ' := [(0, _), (2, _), (3, _), (13, _)]) ?_ (imp_covers ⟨rfl, rfl, rfl, rfl, trivial⟩)
  refine code_cond_d rfl (fun h1 => ?_) (fun h1 => ?_)
  · skip
    (try simp only [Decidable.not_not] at h1)
    refine code_draw (by kernel_rfl) (by kernel_rfl) ?_
    refine draw_q rfl (q_move rfl (by decide)) ?_
    refine draw_q rfl (q_nilCheck rfl rfl (by decide)) ?_
    refine draw_q rfl (q_fieldAddr fi_74_0 rfl rfl (by decide)) ?_
    refine draw_q rfl (q_load one_22 0 rfl rfl rfl (by first | rfl | exact get_map1 _ [] _ (by first | omega | (simp; omega))) (by decide)) ?_
    refine draw_q rfl (q_move rfl (by decide)) ?_
    refine draw_q rfl (q_nilCheck rfl rfl (by decide)) ?_
    refine draw_q rfl (q_fieldAddr fi_74_1 rfl rfl (by decide)) ?_
    refine draw_q rfl (q_load one_3 0 rfl rfl rfl (by first | rfl | exact get_map1 _ 0 _ (by first | omega | (simp; omega))) (by decide)) ?_
    refine draw_q rfl (q_indexAddr_rd sl_22 rfl (.inr ⟨_, rfl, rfl⟩) rfl (by omega) (by omega) (by decide)) ?_
    refine draw_q rfl (q_load_rd one_5 rfl (.inr ⟨_, (by first | rfl | exact congrArg (SV.rbor _) (drop_map1 _ 0 _ (by first | omega | (simp; omega)))), rfl⟩) (by decide)) ?_
    refine draw_q rfl (by first | exact q_convB (by rw [Tryd.underlying5]; rfl) Tryd.underlying3 rfl (by decide) | exact q_convI (by rw [Tryd.underlying5]; rfl) Tryd.underlying3 rfl (by decide) (by omega) (by omega) | exact q_conv (by rw [Tryd.underlying5]; rfl) Tryd.underlying3 rfl (by decide)) ?_
    refine draw_q rfl (q_assign rfl (by decide)) ?_
    refine draw_nil ?_
    refine hK3 _ ?_; clear hK3 K3
    refine codeT.imp (σ' := [(0, _), (2, _), (3, _)]) ?_ (imp_covers ⟨rfl, rfl, rfl, trivial⟩)
    refine code_seq (fun K5 hK5 => ?_)
    refine code_region ?_
    refine list_cons rfl (op_q (q_move rfl (by decide)) ?_)
    refine list_cons rfl (op_q (q_nilCheck rfl rfl (by decide)) ?_)
    refine list_cons rfl (op_q (q_fieldAddr fi_74_1 rfl rfl (by decide)) ?_)
    refine list_cons rfl (op_q (q_load one_3 0 rfl rfl rfl (by first | rfl | exact get_map1 _ 0 _ (by first | omega | (simp; omega))) (by decide)) ?_)
    refine list_cons rfl (op_q (by first | exact q_addI rfl rfl (by decide) (by omega) (by omega) | exact q_ib rfl rfl rfl (by decide)) ?_)
    refine list_cons rfl (op_q (q_nilCheck rfl rfl (by decide)) ?_)
    refine list_cons rfl (op_q (q_fieldAddr fi_74_1 rfl rfl (by decide)) ?_)
    refine list_cons rfl (op_store (one_3).2 0 [0, 25, 26, 30] (by intro t ht; simp only [List.mem_cons, List.not_mem_nil, or_false] at ht; rcases ht with rfl | rfl | rfl | rfl <;> rfl) (.inl rfl) rfl rfl rfl rfl rfl rfl (by first | decide | omega | exact Nat.le_refl _ | (simp; done) | (simp; omega)) (by decide) rfl ?_)
    refine list_nil ?_
    refine hK5 _ ?_; clear hK5 K5
    refine codeT.imp (σ' := [(0, _), (2, _), (3, _)]) ?_ (imp_covers ⟨rfl, rfl, rfl, trivial⟩)
    refine code_seq (fun K6 hK6 => ?_)
    refine code_region ?_
    refine list_cons rfl (op_q (q_move rfl (by decide)) ?_)
    refine list_cons rfl (op_q (q_move rfl (by decide)) ?_)
    refine list_cons rfl (op_q (q_nilCheck rfl rfl (by decide)) ?_)
    refine list_cons rfl (op_q (q_fieldAddr fi_74_2 rfl rfl (by decide)) ?_)
    refine list_cons rfl (op_q (q_load one_72 0 rfl rfl rfl (by first | rfl | exact get_map1 _ 0 _ (by first | omega | (simp; omega))) (by decide)) ?_)
    refine list_cons rfl (op_q (q_ib rfl rfl rfl (by decide)) ?_)
    refine list_cons rfl (op_q (q_move rfl (by decide)) ?_)
    refine list_cons rfl (op_q (by first | exact q_convU (by rw [Tryd.underlying3]; rfl) Tryd.underlying72 rfl (by decide) (by omega) (by omega) | exact q_conv (by rw [Tryd.underlying3]; rfl) Tryd.underlying72 rfl (by decide)) ?_)
    refine list_cons rfl (op_q (q_ib rfl rfl rfl (by decide)) ?_)
    refine list_cons rfl (op_q (q_ib rfl rfl rfl (by decide)) ?_)
    refine list_cons rfl (op_q (q_nilCheck rfl rfl (by decide)) ?_)
    refine list_cons rfl (op_q (q_fieldAddr fi_74_2 rfl rfl (by decide)) ?_)
    refine list_cons rfl (op_store (one_72).2 0 [0, 32, 33, 34, 42] (by intro t ht; simp only [List.mem_cons, List.not_mem_nil, or_false] at ht; rcases ht with rfl | rfl | rfl | rfl | rfl <;> rfl) (.inl rfl) rfl rfl rfl rfl rfl rfl (by first | decide | omega | exact Nat.le_refl _ | (simp; done) | (simp; omega)) (by decide) rfl ?_)
    refine list_nil ?_
    refine hK6 _ ?_; clear hK6 K6
    refine codeT.imp (σ' := [(0, _), (2, _), (3, _)]) ?_ (imp_covers ⟨rfl, rfl, rfl, trivial⟩)
    refine code_seq (fun K7 hK7 => ?_)
    refine code_seq (fun K8 hK8 => ?_)
    refine code_draw (by kernel_rfl) (by kernel_rfl) ?_
    refine draw_q rfl (q_move rfl (by decide)) ?_
    refine draw_q rfl (q_nilCheck rfl rfl (by decide)) ?_
    refine draw_q rfl (q_fieldAddr fi_74_1 rfl rfl (by decide)) ?_
    refine draw_q rfl (q_load one_3 0 rfl rfl rfl (by first | rfl | exact get_map1 _ 0 _ (by first | omega | (simp; omega))) (by decide)) ?_
    refine draw_q rfl (q_move rfl (by decide)) ?_
    refine draw_q rfl (q_nilCheck rfl rfl (by decide)) ?_
    refine draw_q rfl (q_fieldAddr fi_74_0 rfl rfl (by decide)) ?_
    refine draw_q rfl (q_load one_22 0 rfl rfl rfl (by first | rfl | exact get_map1 _ [] _ (by first | omega | (simp; omega))) (by decide)) ?_
    refine draw_q rfl (q_len_sl Tryd.underlying22 rfl rfl (by decide)) ?_
    refine draw_q rfl (q_le rfl rfl (by decide)) ?_
    refine draw_nil ?_
    refine hK8 _ ?_; clear hK8 K8
    refine codeT.imp (σ' := [(0, _), (2, _), (3, _), (53, _)]) ?_ (imp_covers ⟨rfl, rfl, rfl, rfl, trivial⟩)
    refine code_cond_d rfl (fun h2 => ?_) (fun h2 => ?_)
    · skip
      (try simp only [Decidable.not_not] at h2)
      refine code_seq (fun K9 hK9 => ?_)
      refine code_region ?_
      refine list_cons rfl (op_q (q_move rfl (by decide)) ?_)
      refine list_cons rfl (op_q (q_assign rfl (by decide)) ?_)
      refine list_nil ?_
      refine hK9 _ ?_; clear hK9 K9
      refine code_ret ?_
      refine then_r ?_; clear hK7 K7
      refine ends_ret (cs := _) rfl rfl rfl rfl rfl ?_
      first | exact ⟨_, _, (iand_255 _).1, (iand_255 _).2, rfl, rfl⟩ | exact ⟨_, _, (iandw_255 _).1, (iandw_255 _).2, rfl, rfl⟩ | exact ⟨_, _, by have := UInt8.toNat_lt (code.getD a.toNat 0); omega, by have := UInt8.toNat_lt (code.getD a.toNat 0); omega, rfl, rfl⟩ | exact ⟨_, _, by omega, by omega, rfl, rfl⟩
    (try simp only [Decidable.not_not] at h2)
    refine code_skip ?_
    refine hK7 _ ?_; clear hK7 K7
    refine code_seq (fun K10 hK10 => ?_)
    refine code_region ?_
    refine list_cons rfl (op_q (q_move rfl (by decide)) ?_)
    refine list_cons rfl (op_q (q_nilCheck rfl rfl (by decide)) ?_)
    refine list_cons rfl (op_q (q_fieldAddr fi_74_2 rfl rfl (by decide)) ?_)
    refine list_cons rfl (op_q (q_load one_72 0 rfl rfl rfl (by first | rfl | exact get_map1 _ 0 _ (by first | omega | (simp; omega))) (by decide)) ?_)
    refine list_cons rfl (op_q (q_shr rfl rfl (by omega) (by decide)) ?_)
    refine list_cons rfl (op_q (q_ib rfl rfl rfl (by decide)) ?_)
    refine list_cons rfl (op_q (by first | exact q_convB (by rw [Tryd.underlying72]; rfl) Tryd.underlying3 rfl (by decide) | exact q_convI (by rw [Tryd.underlying72]; rfl) Tryd.underlying3 rfl (by decide) (by omega) (by omega) | exact q_conv (by rw [Tryd.underlying72]; rfl) Tryd.underlying3 rfl (by decide)) ?_)
    refine list_cons rfl (op_q (q_assign rfl (by decide)) ?_)
    refine list_nil ?_
    refine hK10 _ ?_; clear hK10 K10
    refine codeT.imp (σ' := [(0, _), (2, _), (3, _)]) ?_ (imp_covers ⟨rfl, rfl, rfl, trivial⟩)
    refine code_ret ?_
    refine ends_ret (cs := _) rfl rfl rfl rfl rfl ?_
    first | exact ⟨_, _, (iand_255 _).1, (iand_255 _).2, rfl, rfl⟩ | exact ⟨_, _, (iandw_255 _).1, (iandw_255 _).2, rfl, rfl⟩ | exact ⟨_, _, by have := UInt8.toNat_lt (code.getD a.toNat 0); omega, by have := UInt8.toNat_lt (code.getD a.toNat 0); omega, rfl, rfl⟩ | exact ⟨_, _, by omega, by omega, rfl, rfl⟩
  (try simp only [Decidable.not_not] at h1)
  refine code_skip ?_
  refine hK3 _ ?_; clear hK3 K3
  refine code_seq (fun K11 hK11 => ?_)
  refine code_region ?_
  refine list_cons rfl (op_q (q_move rfl (by decide)) ?_)
  refine list_cons rfl (op_q (q_nilCheck rfl rfl (by decide)) ?_)
  refine list_cons rfl (op_q (q_fieldAddr fi_74_1 rfl rfl (by decide)) ?_)
  refine list_cons rfl (op_q (q_load one_3 0 rfl rfl rfl (by first | rfl | exact get_map1 _ 0 _ (by first | omega | (simp; omega))) (by decide)) ?_)
  refine list_cons rfl (op_q (by first | exact q_addI rfl rfl (by decide) (by omega) (by omega) | exact q_ib rfl rfl rfl (by decide)) ?_)
  refine list_cons rfl (op_q (q_nilCheck rfl rfl (by decide)) ?_)
  refine list_cons rfl (op_q (q_fieldAddr fi_74_1 rfl rfl (by decide)) ?_)
  refine list_cons rfl (op_store (one_3).2 0 [0, 25, 26, 30] (by intro t ht; simp only [List.mem_cons, List.not_mem_nil, or_false] at ht; rcases ht with rfl | rfl | rfl | rfl <;> rfl) (.inl rfl) rfl rfl rfl rfl rfl rfl (by first | decide | omega | exact Nat.le_refl _ | (simp; done) | (simp; omega)) (by decide) rfl ?_)
  refine list_nil ?_
  refine hK11 _ ?_; clear hK11 K11
  refine codeT.imp (σ' := [(0, _), (2, _), (3, _)]) ?_ (imp_covers ⟨rfl, rfl, rfl, trivial⟩)
  refine code_seq (fun K12 hK12 => ?_)
  refine code_region ?_
  refine list_cons rfl (op_q (q_move rfl (by decide)) ?_)
  refine list_cons rfl (op_q (q_move rfl (by decide)) ?_)
  refine list_cons rfl (op_q (q_nilCheck rfl rfl (by decide)) ?_)
  refine list_cons rfl (op_q (q_fieldAddr fi_74_2 rfl rfl (by decide)) ?_)
  refine list_cons rfl (op_q (q_load one_72 0 rfl rfl rfl (by first | rfl | exact get_map1 _ 0 _ (by first | omega | (simp; omega))) (by decide)) ?_)
  refine list_cons rfl (op_q (q_ib rfl rfl rfl (by decide)) ?_)
  refine list_cons rfl (op_q (q_move rfl (by decide)) ?_)
  refine list_cons rfl (op_q (by first | exact q_convU (by rw [Tryd.underlying3]; rfl) Tryd.underlying72 rfl (by decide) (by omega) (by omega) | exact q_conv (by rw [Tryd.underlying3]; rfl) Tryd.underlying72 rfl (by decide)) ?_)
  refine list_cons rfl (op_q (q_ib rfl rfl rfl (by decide)) ?_)
  refine list_cons rfl (op_q (q_ib rfl rfl rfl (by decide)) ?_)
  refine list_cons rfl (op_q (q_nilCheck rfl rfl (by decide)) ?_)
  refine list_cons rfl (op_q (q_fieldAddr fi_74_2 rfl rfl (by decide)) ?_)
  refine list_cons rfl (op_store (one_72).2 0 [0, 32, 33, 34, 42] (by intro t ht; simp only [List.mem_cons, List.not_mem_nil, or_false] at ht; rcases ht with rfl | rfl | rfl | rfl | rfl <;> rfl) (.inl rfl) rfl rfl rfl rfl rfl rfl (by first | decide | omega | exact Nat.le_refl _ | (simp; done) | (simp; omega)) (by decide) rfl ?_)
  refine list_nil ?_
  refine hK12 _ ?_; clear hK12 K12
  refine codeT.imp (σ' := [(0, _), (2, _), (3, _)]) ?_ (imp_covers ⟨rfl, rfl, rfl, trivial⟩)
  refine code_seq (fun K13 hK13 => ?_)
  refine code_seq (fun K14 hK14 => ?_)
  refine code_draw (by kernel_rfl) (by kernel_rfl) ?_
  refine draw_q rfl (q_move rfl (by decide)) ?_
  refine draw_q rfl (q_nilCheck rfl rfl (by decide)) ?_
  refine draw_q rfl (q_fieldAddr fi_74_1 rfl rfl (by decide)) ?_
  refine draw_q rfl (q_load one_3 0 rfl rfl rfl (by first | rfl | exact get_map1 _ 0 _ (by first | omega | (simp; omega))) (by decide)) ?_
  refine draw_q rfl (q_move rfl (by decide)) ?_
  refine draw_q rfl (q_nilCheck rfl rfl (by decide)) ?_
  refine draw_q rfl (q_fieldAddr fi_74_0 rfl rfl (by decide)) ?_
  refine draw_q rfl (q_load one_22 0 rfl rfl rfl (by first | rfl | exact get_map1 _ [] _ (by first | omega | (simp; omega))) (by decide)) ?_
  refine draw_q rfl (q_len_sl Tryd.underlying22 rfl rfl (by decide)) ?_
  refine draw_q rfl (q_le rfl rfl (by decide)) ?_
  refine draw_nil ?_
  refine hK14 _ ?_; clear hK14 K14
  refine codeT.imp (σ' := [(0, _), (2, _), (3, _), (53, _)]) ?_ (imp_covers ⟨rfl, rfl, rfl, rfl, trivial⟩)
  refine code_cond_d rfl (fun h3 => ?_) (fun h3 => ?_)
  · skip
    (try simp only [Decidable.not_not] at h3)
    refine code_seq (fun K15 hK15 => ?_)
    refine code_region ?_
    refine list_cons rfl (op_q (q_move rfl (by decide)) ?_)
    refine list_cons rfl (op_q (q_assign rfl (by decide)) ?_)
    refine list_nil ?_
    refine hK15 _ ?_; clear hK15 K15
    refine code_ret ?_
    refine then_r ?_; clear hK13 K13
    refine ends_ret (cs := _) rfl rfl rfl rfl rfl ?_
    first | exact ⟨_, _, (iand_255 _).1, (iand_255 _).2, rfl, rfl⟩ | exact ⟨_, _, (iandw_255 _).1, (iandw_255 _).2, rfl, rfl⟩ | exact ⟨_, _, by have := UInt8.toNat_lt (code.getD a.toNat 0); omega, by have := UInt8.toNat_lt (code.getD a.toNat 0); omega, rfl, rfl⟩ | exact ⟨_, _, by omega, by omega, rfl, rfl⟩
  (try simp only [Decidable.not_not] at h3)
  refine code_skip ?_
  refine hK13 _ ?_; clear hK13 K13
  refine code_seq (fun K16 hK16 => ?_)
  refine code_region ?_
  refine list_cons rfl (op_q (q_move rfl (by decide)) ?_)
  refine list_cons rfl (op_q (q_nilCheck rfl rfl (by decide)) ?_)
  refine list_cons rfl (op_q (q_fieldAddr fi_74_2 rfl rfl (by decide)) ?_)
  refine list_cons rfl (op_q (q_load one_72 0 rfl rfl rfl (by first | rfl | exact get_map1 _ 0 _ (by first | omega | (simp; omega))) (by decide)) ?_)
  refine list_cons rfl (op_q (q_shr rfl rfl (by omega) (by decide)) ?_)
  refine list_cons rfl (op_q (q_ib rfl rfl rfl (by decide)) ?_)
  refine list_cons rfl (op_q (by first | exact q_convB (by rw [Tryd.underlying72]; rfl) Tryd.underlying3 rfl (by decide) | exact q_convI (by rw [Tryd.underlying72]; rfl) Tryd.underlying3 rfl (by decide) (by omega) (by omega) | exact q_conv (by rw [Tryd.underlying72]; rfl) Tryd.underlying3 rfl (by decide)) ?_)
  refine list_cons rfl (op_q (q_assign rfl (by decide)) ?_)
  refine list_nil ?_
  refine hK16 _ ?_; clear hK16 K16
  refine codeT.imp (σ' := [(0, _), (2, _), (3, _)]) ?_ (imp_covers ⟨rfl, rfl, rfl, trivial⟩)
  refine code_ret ?_
  refine ends_ret (cs := _) rfl rfl rfl rfl rfl ?_
  first | exact ⟨_, _, (iand_255 _).1, (iand_255 _).2, rfl, rfl⟩ | exact ⟨_, _, (iandw_255 _).1, (iandw_255 _).2, rfl, rfl⟩ | exact ⟨_, _, by have := UInt8.toNat_lt (code.getD a.toNat 0); omega, by have := UInt8.toNat_lt (code.getD a.toNat 0); omega, rfl, rfl⟩ | exact ⟨_, _, by omega, by omega, rfl, rfl⟩

set_option maxRecDepth 4000 in
theorem pick_c (code : List UInt8) (hcode : code.length ≤ 9223372036854775807) (a s : Int) (ha : 0 ≤ a) (ha2 : a ≤ 4611686018427387900) (k : Int) : MCalls Tryd.prog 67 false (some (.box 74 [.sl code.length (bytesP code), .int .i64 a, .int .u64 s])) [.int .i64 k] fun rs cs => ∃ b a2 s2 : Int, 0 ≤ b ∧ b < max k 1 ∧ a ≤ a2 ∧ a2 ≤ a + 2 ∧ rs = [.val (.int .i64 b)] ∧ cs = [.sl code.length (bytesP code), .int .i64 a2, .int .u64 s2] := by
  refine mcalls_of_code (n := 20) az Tryd.func67 (by kernel_rfl) rfl rfl (Nat.le_of_ble_eq_true rfl) (by intro t u h; simp [Tryd.f67] at h) ?_
  refine code_seq (fun K1 hK1 => ?_)
  refine code_region ?_
  refine list_cons rfl (op_q (q_assign rfl (by decide)) ?_)
  refine list_nil ?_
  refine hK1 _ ?_; clear hK1 K1
  refine code_seq (fun K2 hK2 => ?_)
  refine code_seq (fun K3 hK3 => ?_)
  refine code_region ?_
  refine list_cons rfl (op_q (q_move rfl (by decide)) ?_)
  refine list_cons rfl (op_q (q_le rfl rfl (by decide)) ?_)
  refine list_nil ?_
  refine hK3 _ ?_; clear hK3 K3
  refine code_cond_d rfl (fun h1 => ?_) (fun h1 => ?_)
  · skip
    (try simp only [Decidable.not_not] at h1)
    refine code_seq (fun K4 hK4 => ?_)
    refine code_region ?_
    refine list_cons rfl (op_q (q_assign rfl (by decide)) ?_)
    refine list_nil ?_
    refine hK4 _ ?_; clear hK4 K4
    refine code_ret ?_
    refine then_r ?_; clear hK2 K2
    refine ends_ret (cs := _) rfl rfl rfl rfl rfl ?_
    exact ⟨0, a, s, by omega, by omega, by omega, by omega, rfl, rfl⟩
  (try simp only [Decidable.not_not] at h1)
  refine code_skip ?_
  refine hK2 _ ?_; clear hK2 K2
  refine code_seq (fun K5 hK5 => ?_)
  refine code_region ?_
  refine list_cons rfl (op_q (q_move rfl (by decide)) ?_)
  refine list_cons rfl (op_callM (next_c code ?_ _ _ ?_ ?_) (.tmp 8) 2000 [0, 8] [] _ rfl rfl (by intro y hy; cases hy; exact ⟨rfl, (by intro t ht; simp only [List.mem_cons, List.not_mem_nil, or_false] at ht; rcases ht with rfl | rfl <;> rfl), (by intro s hs; simp only [List.mem_cons, List.not_mem_nil, or_false] at hs; (try cases hs))⟩) (by decide) (by decide) (by decide) rfl (fun _ => rfl) ?_)
  · first | assumption | omega | (simp; omega)
  · first | assumption | omega | (simp; omega)
  · first | assumption | omega | (simp; omega)
  rintro _ _ ⟨b, s2, hb0, hb1, rfl, rfl⟩
  refine list_cons rfl (op_q (q_assign rfl (by decide)) ?_)
  refine list_nil ?_
  refine hK5 _ ?_; clear hK5 K5
  refine codeT.imp (σ' := [(0, _), (1, _), (4, _), (5, _)]) ?_ (imp_covers ⟨rfl, rfl, rfl, rfl, trivial⟩)
  refine code_seq (fun K6 hK6 => ?_)
  refine code_seq (fun K7 hK7 => ?_)
  refine code_region ?_
  refine list_cons rfl (op_q (q_move rfl (by decide)) ?_)
  refine list_cons rfl (op_q (q_gt rfl rfl (by decide)) ?_)
  refine list_nil ?_
  refine hK7 _ ?_; clear hK7 K7
  refine code_cond_d rfl (fun h2 => ?_) (fun h2 => ?_)
  · skip
    (try simp only [Decidable.not_not] at h2)
    refine code_region ?_
    refine list_cons rfl (op_q (q_move rfl (by decide)) ?_)
    refine list_cons rfl (op_q (by first | exact q_mulI rfl rfl (by decide) (by omega) (by omega) | exact q_ib rfl rfl rfl (by decide)) ?_)
    refine list_cons rfl (op_q (q_move rfl (by decide)) ?_)
    refine list_cons rfl (op_callM (next_c code ?_ _ _ ?_ ?_) (.tmp 14) 2000 [0, 14] [] _ rfl rfl (by intro y hy; cases hy; exact ⟨rfl, (by intro t ht; simp only [List.mem_cons, List.not_mem_nil, or_false] at ht; rcases ht with rfl | rfl <;> rfl), (by intro s hs; simp only [List.mem_cons, List.not_mem_nil, or_false] at hs; (try cases hs))⟩) (by decide) (by decide) (by decide) rfl (fun _ => rfl) ?_)
    · first | assumption | omega | (simp; omega)
    · first | assumption | omega | (simp; omega)
    · first | assumption | omega | (simp; omega)
    rintro _ _ ⟨b2, s3, hc0, hc1, rfl, rfl⟩
    refine list_cons rfl (op_q (by first | exact q_addI rfl rfl (by decide) (by omega) (by omega) | exact q_ib rfl rfl rfl (by decide)) ?_)
    refine list_cons rfl (op_q (q_assign rfl (by decide)) ?_)
    refine list_nil ?_
    refine hK6 _ ?_; clear hK6 K6
    refine codeT.imp (σ' := [(0, _), (1, _), (4, _), (5, _)]) ?_ (imp_covers ⟨rfl, rfl, rfl, rfl, trivial⟩)
    refine code_seq (fun K8 hK8 => ?_)
    refine code_region ?_
    refine list_cons rfl (op_q (q_move rfl (by decide)) ?_)
    refine list_cons rfl (op_q (q_move rfl (by decide)) ?_)
    refine list_cons rfl (op_q (by first | exact q_remI rfl rfl (by decide) (by omega) (by omega) | exact q_rem rfl rfl (by omega) (by decide)) ?_)
    refine list_cons rfl (op_q (q_assign rfl (by decide)) ?_)
    refine list_nil ?_
    refine hK8 _ ?_; clear hK8 K8
    refine code_ret ?_
    refine ends_ret (cs := _) rfl rfl rfl rfl rfl ?_
    exact ⟨_, _, _, Int.emod_nonneg _ (by omega), by have := Int.emod_lt_of_pos (b * 256 + b2) (show 0 < k by omega); omega, by omega, by omega, rfl, rfl⟩
  (try simp only [Decidable.not_not] at h2)
  refine code_skip ?_
  refine hK6 _ ?_; clear hK6 K6
  refine code_seq (fun K9 hK9 => ?_)
  refine code_region ?_
  refine list_cons rfl (op_q (q_move rfl (by decide)) ?_)
  refine list_cons rfl (op_q (q_move rfl (by decide)) ?_)
  refine list_cons rfl (op_q (by first | exact q_remI rfl rfl (by decide) (by omega) (by omega) | exact q_rem rfl rfl (by omega) (by decide)) ?_)
  refine list_cons rfl (op_q (q_assign rfl (by decide)) ?_)
  refine list_nil ?_
  refine hK9 _ ?_; clear hK9 K9
  refine code_ret ?_
  refine ends_ret (cs := _) rfl rfl rfl rfl rfl ?_
  exact ⟨_, _, _, Int.emod_nonneg _ (by omega), by have := Int.emod_lt_of_pos b (show 0 < k by omega); omega, by omega, by omega, rfl, rfl⟩

set_option maxRecDepth 4000 in
theorem one_c (code : List UInt8) (hcode : code.length ≤ 9223372036854775807) (a s : Int) (ha : 0 ≤ a) (ha2 : a ≤ 4611686018427387900) (k : Int) : MCalls Tryd.prog 80 false (some (.box 74 [.sl code.length (bytesP code), .int .i64 a, .int .u64 s])) [.int .i64 k] fun rs cs => ∃ (o a2 s2 : Int), a ≤ a2 ∧ a2 ≤ a + 2 ∧ rs = [.val (.bool (decide (o = 0)))] ∧ cs = [.sl code.length (bytesP code), .int .i64 a2, .int .u64 s2] := by
  refine mcalls_of_code (n := 9) az Tryd.func80 (by kernel_rfl) rfl rfl (Nat.le_of_ble_eq_true rfl) (by intro t u h; simp [Tryd.f80] at h) ?_
  refine code_seq (fun K1 hK1 => ?_)
  refine code_region ?_
  refine list_cons rfl (op_q (q_assign rfl (by decide)) ?_)
  refine list_nil ?_
  refine hK1 _ ?_; clear hK1 K1
  refine code_seq (fun K2 hK2 => ?_)
  refine code_region ?_
  refine list_cons rfl (op_q (q_move rfl (by decide)) ?_)
  refine list_cons rfl (op_q (q_move rfl (by decide)) ?_)
  refine list_cons rfl (op_callM (pick_c code ?_ _ _ ?_ ?_ _) (.tmp 5) 2000 [0, 5] [.tmp 6] _ rfl rfl (by intro y hy; cases hy; exact ⟨rfl, (by intro t ht; simp only [List.mem_cons, List.not_mem_nil, or_false] at ht; rcases ht with rfl | rfl <;> rfl), (by intro s hs; simp only [List.mem_cons, List.not_mem_nil, or_false] at hs; subst hs; first | (simp [SV.labels]; done) | (simp [SV.labels, packS, SV.back]; done) | exact List.not_mem_nil)⟩) (by decide) (by decide) (by decide) rfl (fun _ => rfl) ?_)
  · first | assumption | omega | (simp; omega)
  · first | assumption | omega | (simp; omega)
  · first | assumption | omega | (simp; omega)
  rintro _ _ ⟨b, a2, s2, hb0, hb1, ha0, ha1, rfl, rfl⟩
  try have hp2 := p2_64 (k := b.toNat) (by omega)
  refine list_cons rfl (op_q (q_eq rfl rfl (by decide)) ?_)
  refine list_cons rfl (op_q (q_assign rfl (by decide)) ?_)
  refine list_nil ?_
  refine hK2 _ ?_; clear hK2 K2
  refine codeT.imp (σ' := [(0, _), (1, _), (4, _)]) ?_ (imp_covers ⟨rfl, rfl, rfl, trivial⟩)
  refine code_ret ?_
  refine ends_ret (cs := _) rfl rfl rfl rfl rfl ?_
  exact ⟨_, _, _, by omega, by omega, rfl, rfl⟩

set_option maxRecDepth 4000 in
theorem among_c (code : List UInt8) (hcode : code.length ≤ 9223372036854775807) (a s : Int) (ha : 0 ≤ a) (ha2 : a ≤ 4611686018427387900) (l : List Int) (hl : 0 < l.length) (hl2 : l.length ≤ 4611686018427387904) : MCalls Tryd.prog 66 false (some (.box 74 [.sl code.length (bytesP code), .int .i64 a, .int .u64 s])) [.sl l.length (l.map (.int .i64))] fun rs cs => ∃ (x : Int) (a2 s2 : Int), x ∈ l ∧ a ≤ a2 ∧ a2 ≤ a + 2 ∧ rs = [.val (.int .i64 x)] ∧ cs = [.sl code.length (bytesP code), .int .i64 a2, .int .u64 s2] := by
  refine mcalls_of_code (n := 12) az Tryd.func66 (by kernel_rfl) rfl rfl (Nat.le_of_ble_eq_true rfl) (by intro t u h; simp [Tryd.f66] at h) ?_
  refine code_seq (fun K1 hK1 => ?_)
  refine code_region ?_
  refine list_cons rfl (op_q (q_assign rfl (by decide)) ?_)
  refine list_nil ?_
  refine hK1 _ ?_; clear hK1 K1
  refine code_seq (fun K2 hK2 => ?_)
  refine code_region ?_
  refine list_cons rfl (op_q (q_move rfl (by decide)) ?_)
  refine list_cons rfl (op_q (q_move rfl (by decide)) ?_)
  refine list_cons rfl (op_q (q_move rfl (by decide)) ?_)
  refine list_cons rfl (op_q (q_len_sl Tryd.underlying24 rfl rfl (by decide)) ?_)
  refine list_cons rfl (op_callM (pick_c code ?_ _ _ ?_ ?_ _) (.tmp 6) 2000 [0, 6] [.tmp 8] _ rfl rfl (by intro y hy; cases hy; exact ⟨rfl, (by intro t ht; simp only [List.mem_cons, List.not_mem_nil, or_false] at ht; rcases ht with rfl | rfl <;> rfl), (by intro s hs; simp only [List.mem_cons, List.not_mem_nil, or_false] at hs; subst hs; first | (simp [SV.labels]; done) | (simp [SV.labels, packS, SV.back]; done) | exact List.not_mem_nil)⟩) (by decide) (by decide) (by decide) rfl (fun _ => rfl) ?_)
  · first | assumption | omega | (simp; omega)
  · first | assumption | omega | (simp; omega)
  · first | assumption | omega | (simp; omega)
  rintro _ _ ⟨b, a2, s2, hb0, hb1, ha0, ha1, rfl, rfl⟩
  try have hp2 := p2_64 (k := b.toNat) (by omega)
  refine list_cons rfl (op_q (q_indexAddr_rd sl_24 rfl (.inl ⟨_, rfl, rfl⟩) rfl (by omega) (by omega) (by decide)) ?_)
  refine list_cons rfl (op_q (q_load_rd one_3 rfl (.inl ⟨_, (by first | rfl | exact congrArg (SV.rpar _) (drop_map1 _ 0 _ (by first | omega | (simp; omega)))), rfl⟩) (by decide)) ?_)
  refine list_cons rfl (op_q (q_assign rfl (by decide)) ?_)
  refine list_nil ?_
  refine hK2 _ ?_; clear hK2 K2
  refine codeT.imp (σ' := [(0, _), (1, _), (4, _)]) ?_ (imp_covers ⟨rfl, rfl, rfl, trivial⟩)
  refine code_ret ?_
  refine ends_ret (cs := _) rfl rfl rfl rfl rfl ?_
  exact ⟨_, _, _, getD_mem (show b.toNat < l.length by omega), by omega, by omega, rfl, rfl⟩

end Go.Proofs.YtjbbijlbenkgcaaDoor
namespace Go.Proofs.YtjbbijlbenkgcaaDoor.Dr2Ty
open Go.RowKit

def az (u : TypeId) : Nat := match u with  | _ => 0

theorem sl_24 : SlTy Tryd.prog 24 3 1 8 [.int .i64 0] := slTy_of Tryd.underlying24 (z := .int .i64 0) (by kernel_rfl) rfl (by decide) (by decide) rfl

end Go.Proofs.YtjbbijlbenkgcaaDoor.Dr2Ty
namespace Go.Proofs.YtjbbijlbenkgcaaDoor
open Go.RowKit Dr2Ty
set_option linter.unusedVariables false
set_option linter.unusedSimpArgs false

set_option maxRecDepth 4000 in
set_option maxHeartbeats 4000000 in
theorem cell_c (code : List UInt8) (hcode : code.length ≤ 9223372036854775807) (a s : Int) (ha : 0 ≤ a) (ha2 : a ≤ 4611686018427387000) : MCalls Tryd.prog 70 false (some (.box 74 [.sl code.length (bytesP code), .int .i64 a, .int .u64 s])) [] fun rs cs => ∃ (x : Int) (a2 s2 : Int), (-1 ≤ x ∧ x ≤ 4611686018427387904) ∧ a ≤ a2 ∧ a2 ≤ a + 20 ∧ rs = [.val (.int .i64 x)] ∧ cs = [.sl code.length (bytesP code), .int .i64 a2, .int .u64 s2] := by
  refine mcalls_of_code (n := 33) az Tryd.func70 (by kernel_rfl) rfl rfl (Nat.le_of_ble_eq_true rfl) (by intro t u h; simp [Tryd.f70] at h) ?_
  refine code_seq (fun K1 hK1 => ?_)
  refine code_region ?_
  refine list_cons rfl (op_q (q_assign rfl (by decide)) ?_)
  refine list_nil ?_
  refine hK1 _ ?_; clear hK1 K1
  refine code_seq (fun K2 hK2 => ?_)
  refine code_seq (fun K3 hK3 => ?_)
  refine code_region ?_
  refine list_cons rfl (op_q (q_move rfl (by decide)) ?_)
  refine list_cons rfl (op_callM (pick_c code ?_ _ _ ?_ ?_ _) (.tmp 4) 2000 [0, 4] [_] _ rfl rfl (by intro y hy; cases hy; exact ⟨rfl, (by intro t ht; simp only [List.mem_cons, List.not_mem_nil, or_false] at ht; rcases ht with rfl | rfl <;> rfl), (by intro s hs; simp only [List.mem_cons, List.not_mem_nil, or_false] at hs; subst hs; first | (simp [SV.labels]; done) | (simp [SV.labels, packS, SV.back]; done) | exact List.not_mem_nil)⟩) (by decide) (by decide) (by decide) rfl (fun _ => rfl) ?_)
  · first | assumption | omega | (simp; omega)
  · first | assumption | omega | (simp; omega)
  · first | assumption | omega | (simp; omega)
  rintro _ _ ⟨b, a2, s2, hb0, hb1, ha0, ha1, rfl, rfl⟩
  try have hp2 := p2_64 (k := b.toNat) (by omega)
  refine list_nil ?_
  refine hK3 _ ?_; clear hK3 K3
  refine codeT.imp (σ' := [(0, _), (2, _), (5, _)]) ?_ (imp_covers ⟨rfl, rfl, rfl, trivial⟩)
  refine code_block ?_
  refine code_seq (fun K4 hK4 => ?_)
  refine code_region ?_
  refine list_cons rfl (op_q (q_eq rfl rfl (by decide)) ?_)
  refine list_cons rfl (op_q (q_assign rfl (by decide)) ?_)
  refine list_nil ?_
  refine hK4 _ ?_; clear hK4 K4
  refine code_cond_d rfl (fun h1 => ?_) (fun h1 => ?_)
  · skip
    (try simp only [Decidable.not_not] at h1)
    refine code_seq (fun K5 hK5 => ?_)
    refine code_region ?_
    refine list_cons rfl (op_q (q_move rfl (by decide)) ?_)
    refine list_cons rfl (op_buildSlice sl_24 (parts := [(0, _), (1, _), (2, _)]) rfl rfl rfl (by decide) (by decide) (by decide) rfl ?_)
    refine list_cons rfl (op_callM (among_c code ?_ _ _ ?_ ?_ ([-1, 128, 4611686018427387904]) (by decide) (by decide)) (.tmp 8) 2000 [0, 8] [.tmp 9] _ rfl rfl (by intro y hy; cases hy; exact ⟨rfl, (by intro t ht; simp only [List.mem_cons, List.not_mem_nil, or_false] at ht; rcases ht with rfl | rfl <;> rfl), (by intro s hs; simp only [List.mem_cons, List.not_mem_nil, or_false] at hs; subst hs; first | (simp [SV.labels]; done) | (simp [SV.labels, packS, SV.back]; done) | exact List.not_mem_nil)⟩) (by decide) (by decide) (by decide) rfl (fun _ => rfl) ?_)
    · first | assumption | omega | (simp; omega)
    · first | assumption | omega | (simp; omega)
    · first | assumption | omega | (simp; omega)
    rintro _ _ ⟨x, a2, s2, hx, ha0, ha1, rfl, rfl⟩
    simp only [List.mem_cons, List.not_mem_nil, or_false] at hx
    refine list_cons rfl (op_q (q_assign rfl (by decide)) ?_)
    refine list_nil ?_
    refine hK5 _ ?_; clear hK5 K5
    refine codeT.imp (σ' := [(0, _), (2, _), (5, _)]) ?_ (imp_covers ⟨rfl, rfl, rfl, trivial⟩)
    refine code_ret ?_
    refine blk_r ?_
    refine then_r ?_; clear hK2 K2
    refine ends_ret (cs := _) rfl rfl rfl rfl rfl ?_
    first
    | exact ⟨_, _, _, by omega, by omega, by omega, rfl, rfl⟩
    | (refine ⟨_, _, _, ?_, by omega, by omega, rfl, rfl⟩; have hx7 := @xor7c (digT.getD _ 0) ((p2 b.toNat : Nat) : Int) hdc ⟨by omega, by omega⟩; omega)
  (try simp only [Decidable.not_not] at h1)
  refine code_seq (fun K6 hK6 => ?_)
  refine code_seq (fun K7 hK7 => ?_)
  refine code_region ?_
  refine list_cons rfl (op_q (q_eq rfl rfl (by decide)) ?_)
  refine list_cons rfl (op_q (q_assign rfl (by decide)) ?_)
  refine list_nil ?_
  refine hK7 _ ?_; clear hK7 K7
  refine code_cond_d rfl (fun h2 => ?_) (fun h2 => ?_)
  · skip
    (try simp only [Decidable.not_not] at h2)
    refine code_skip ?_
    refine hK6 _ ?_; clear hK6 K6
    refine code_cond_d rfl (fun h3 => ?_) (fun h3 => ?_)
    · skip
      (try simp only [Decidable.not_not] at h3)
      refine code_seq (fun K8 hK8 => ?_)
      refine code_region ?_
      refine list_cons rfl (op_q (q_move rfl (by decide)) ?_)
      refine list_cons rfl (op_buildSlice sl_24 (parts := [(0, _), (1, _), (2, _)]) rfl rfl rfl (by decide) (by decide) (by decide) rfl ?_)
      refine list_cons rfl (op_callM (among_c code ?_ _ _ ?_ ?_ ([0, 127, 64]) (by decide) (by decide)) (.tmp 15) 2000 [0, 15] [.tmp 16] _ rfl rfl (by intro y hy; cases hy; exact ⟨rfl, (by intro t ht; simp only [List.mem_cons, List.not_mem_nil, or_false] at ht; rcases ht with rfl | rfl <;> rfl), (by intro s hs; simp only [List.mem_cons, List.not_mem_nil, or_false] at hs; subst hs; first | (simp [SV.labels]; done) | (simp [SV.labels, packS, SV.back]; done) | exact List.not_mem_nil)⟩) (by decide) (by decide) (by decide) rfl (fun _ => rfl) ?_)
      · first | assumption | omega | (simp; omega)
      · first | assumption | omega | (simp; omega)
      · first | assumption | omega | (simp; omega)
      rintro _ _ ⟨x, a2, s2, hx, ha0, ha1, rfl, rfl⟩
      simp only [List.mem_cons, List.not_mem_nil, or_false] at hx
      refine list_cons rfl (op_q (q_assign rfl (by decide)) ?_)
      refine list_nil ?_
      refine hK8 _ ?_; clear hK8 K8
      refine codeT.imp (σ' := [(0, _), (2, _), (5, _), (11, _)]) ?_ (imp_covers ⟨rfl, rfl, rfl, rfl, trivial⟩)
      refine code_ret ?_
      refine blk_r ?_
      refine then_r ?_; clear hK2 K2
      refine ends_ret (cs := _) rfl rfl rfl rfl rfl ?_
      first
      | exact ⟨_, _, _, by omega, by omega, by omega, rfl, rfl⟩
      | (refine ⟨_, _, _, ?_, by omega, by omega, rfl, rfl⟩; have hx7 := @xor7c (digT.getD _ 0) ((p2 b.toNat : Nat) : Int) hdc ⟨by omega, by omega⟩; omega)
    (try simp only [Decidable.not_not] at h3)
    refine code_skip ?_
    refine blk_n ?_
    refine hK2 _ ?_; clear hK2 K2
    refine code_seq (fun K9 hK9 => ?_)
    refine code_seq (fun K10 hK10 => ?_)
    refine code_region ?_
    refine list_cons rfl (op_q (q_move rfl (by decide)) ?_)
    refine list_cons rfl (op_callM (one_c code ?_ _ _ ?_ ?_ _) (.tmp 18) 2000 [0, 18] [_] _ rfl rfl (by intro y hy; cases hy; exact ⟨rfl, (by intro t ht; simp only [List.mem_cons, List.not_mem_nil, or_false] at ht; rcases ht with rfl | rfl <;> rfl), (by intro s hs; simp only [List.mem_cons, List.not_mem_nil, or_false] at hs; subst hs; first | (simp [SV.labels]; done) | (simp [SV.labels, packS, SV.back]; done) | exact List.not_mem_nil)⟩) (by decide) (by decide) (by decide) rfl (fun _ => rfl) ?_)
    · first | assumption | omega | (simp; omega)
    · first | assumption | omega | (simp; omega)
    · first | assumption | omega | (simp; omega)
    rintro _ _ ⟨o, a2, s2, ha0, ha1, rfl, rfl⟩
    refine list_nil ?_
    refine hK10 _ ?_; clear hK10 K10
    refine codeT.imp (σ' := [(0, _), (2, _), (5, _), (11, _), (19, _)]) ?_ (imp_covers ⟨rfl, rfl, rfl, rfl, rfl, trivial⟩)
    refine code_cond_d rfl (fun h4 => ?_) (fun h4 => ?_)
    · skip
      (try simp only [Decidable.not_not] at h4)
      refine code_seq (fun K11 hK11 => ?_)
      refine code_region ?_
      refine list_cons rfl (op_q (q_move rfl (by decide)) ?_)
      refine list_cons rfl (op_callM (pick_c code ?_ _ _ ?_ ?_ _) (.tmp 20) 2000 [0, 20] [_] _ rfl rfl (by intro y hy; cases hy; exact ⟨rfl, (by intro t ht; simp only [List.mem_cons, List.not_mem_nil, or_false] at ht; rcases ht with rfl | rfl <;> rfl), (by intro s hs; simp only [List.mem_cons, List.not_mem_nil, or_false] at hs; subst hs; first | (simp [SV.labels]; done) | (simp [SV.labels, packS, SV.back]; done) | exact List.not_mem_nil)⟩) (by decide) (by decide) (by decide) rfl (fun _ => rfl) ?_)
      · first | assumption | omega | (simp; omega)
      · first | assumption | omega | (simp; omega)
      · first | assumption | omega | (simp; omega)
      rintro _ _ ⟨b, a2, s2, hb0, hb1, ha0, ha1, rfl, rfl⟩
      try have hp2 := p2_64 (k := b.toNat) (by omega)
      refine list_cons rfl (op_q (q_assign rfl (by decide)) ?_)
      refine list_nil ?_
      refine hK11 _ ?_; clear hK11 K11
      refine codeT.imp (σ' := [(0, _), (2, _), (5, _), (11, _)]) ?_ (imp_covers ⟨rfl, rfl, rfl, rfl, trivial⟩)
      refine code_ret ?_
      refine then_r ?_; clear hK9 K9
      refine ends_ret (cs := _) rfl rfl rfl rfl rfl ?_
      first
      | exact ⟨_, _, _, by omega, by omega, by omega, rfl, rfl⟩
      | (refine ⟨_, _, _, ?_, by omega, by omega, rfl, rfl⟩; have hx7 := @xor7c (digT.getD _ 0) ((p2 b.toNat : Nat) : Int) hdc ⟨by omega, by omega⟩; omega)
    (try simp only [Decidable.not_not] at h4)
    refine code_skip ?_
    refine hK9 _ ?_; clear hK9 K9
    refine code_seq (fun K12 hK12 => ?_)
    refine code_region ?_
    refine list_cons rfl (op_q (q_move rfl (by decide)) ?_)
    refine list_cons rfl (op_callM (pick_c code ?_ _ _ ?_ ?_ _) (.tmp 22) 2000 [0, 22] [_] _ rfl rfl (by intro y hy; cases hy; exact ⟨rfl, (by intro t ht; simp only [List.mem_cons, List.not_mem_nil, or_false] at ht; rcases ht with rfl | rfl <;> rfl), (by intro s hs; simp only [List.mem_cons, List.not_mem_nil, or_false] at hs; subst hs; first | (simp [SV.labels]; done) | (simp [SV.labels, packS, SV.back]; done) | exact List.not_mem_nil)⟩) (by decide) (by decide) (by decide) rfl (fun _ => rfl) ?_)
    · first | assumption | omega | (simp; omega)
    · first | assumption | omega | (simp; omega)
    · first | assumption | omega | (simp; omega)
    rintro _ _ ⟨b, a2, s2, hb0, hb1, ha0, ha1, rfl, rfl⟩
    try have hp2 := p2_64 (k := b.toNat) (by omega)
    refine list_cons rfl (op_call _ (spec_l2Digit _ (by omega) (by omega)) rfl rfl (by decide) (by decide) (by decide) rfl ?_)
    rintro _ rfl; have hdc := digT_cell b.toNat
    refine list_cons rfl (op_q (q_assign rfl (by decide)) ?_)
    refine list_nil ?_
    refine hK12 _ ?_; clear hK12 K12
    refine codeT.imp (σ' := [(0, _), (2, _), (3, _), (5, _), (11, _)]) ?_ (imp_covers ⟨rfl, rfl, rfl, rfl, rfl, trivial⟩)
    refine code_seq (fun K13 hK13 => ?_)
    refine code_seq (fun K14 hK14 => ?_)
    refine code_region ?_
    refine list_cons rfl (op_q (q_move rfl (by decide)) ?_)
    refine list_cons rfl (op_callM (one_c code ?_ _ _ ?_ ?_ _) (.tmp 25) 2000 [0, 25] [_] _ rfl rfl (by intro y hy; cases hy; exact ⟨rfl, (by intro t ht; simp only [List.mem_cons, List.not_mem_nil, or_false] at ht; rcases ht with rfl | rfl <;> rfl), (by intro s hs; simp only [List.mem_cons, List.not_mem_nil, or_false] at hs; subst hs; first | (simp [SV.labels]; done) | (simp [SV.labels, packS, SV.back]; done) | exact List.not_mem_nil)⟩) (by decide) (by decide) (by decide) rfl (fun _ => rfl) ?_)
    · first | assumption | omega | (simp; omega)
    · first | assumption | omega | (simp; omega)
    · first | assumption | omega | (simp; omega)
    rintro _ _ ⟨o, a2, s2, ha0, ha1, rfl, rfl⟩
    refine list_nil ?_
    refine hK14 _ ?_; clear hK14 K14
    refine codeT.imp (σ' := [(0, _), (2, _), (3, _), (5, _), (11, _), (26, _)]) ?_ (imp_covers ⟨rfl, rfl, rfl, rfl, rfl, rfl, trivial⟩)
    refine code_cond_d rfl (fun h5 => ?_) (fun h5 => ?_)
    · skip
      (try simp only [Decidable.not_not] at h5)
      refine code_region ?_
      refine list_cons rfl (op_q (q_move rfl (by decide)) ?_)
      refine list_cons rfl (op_q (q_move rfl (by decide)) ?_)
      refine list_cons rfl (op_callM (pick_c code ?_ _ _ ?_ ?_ _) (.tmp 28) 2000 [0, 28] [_] _ rfl rfl (by intro y hy; cases hy; exact ⟨rfl, (by intro t ht; simp only [List.mem_cons, List.not_mem_nil, or_false] at ht; rcases ht with rfl | rfl <;> rfl), (by intro s hs; simp only [List.mem_cons, List.not_mem_nil, or_false] at hs; subst hs; first | (simp [SV.labels]; done) | (simp [SV.labels, packS, SV.back]; done) | exact List.not_mem_nil)⟩) (by decide) (by decide) (by decide) rfl (fun _ => rfl) ?_)
      · first | assumption | omega | (simp; omega)
      · first | assumption | omega | (simp; omega)
      · first | assumption | omega | (simp; omega)
      rintro _ _ ⟨b, a2, s2, hb0, hb1, ha0, ha1, rfl, rfl⟩
      try have hp2 := p2_64 (k := b.toNat) (by omega)
      refine list_cons rfl (op_q (by first | exact q_shl1 rfl rfl (by decide) (by omega) (by omega) | exact q_shlI rfl rfl (by decide) (by omega) (by omega) (by omega) | exact q_shl rfl rfl (by omega) (by decide)) ?_)
      refine list_cons rfl (op_q (by first | exact q_xorI rfl rfl (by decide) (by omega) (by omega) (by omega) (by omega) | exact q_ib rfl rfl rfl (by decide)) ?_)
      refine list_cons rfl (op_q (q_assign rfl (by decide)) ?_)
      refine list_nil ?_
      refine hK13 _ ?_; clear hK13 K13
      refine codeT.imp (σ' := [(0, _), (2, _), (3, _), (5, _), (11, _)]) ?_ (imp_covers ⟨rfl, rfl, rfl, rfl, rfl, trivial⟩)
      refine code_seq (fun K15 hK15 => ?_)
      refine code_region ?_
      refine list_cons rfl (op_q (q_move rfl (by decide)) ?_)
      refine list_cons rfl (op_q (q_assign rfl (by decide)) ?_)
      refine list_nil ?_
      refine hK15 _ ?_; clear hK15 K15
      refine code_ret ?_
      refine ends_ret (cs := _) rfl rfl rfl rfl rfl ?_
      first
      | exact ⟨_, _, _, by omega, by omega, by omega, rfl, rfl⟩
      | (refine ⟨_, _, _, ?_, by omega, by omega, rfl, rfl⟩; have hx7 := @xor7c (digT.getD _ 0) ((p2 b.toNat : Nat) : Int) hdc ⟨by omega, by omega⟩; omega)
    (try simp only [Decidable.not_not] at h5)
    refine code_skip ?_
    refine hK13 _ ?_; clear hK13 K13
    refine code_seq (fun K16 hK16 => ?_)
    refine code_region ?_
    refine list_cons rfl (op_q (q_move rfl (by decide)) ?_)
    refine list_cons rfl (op_q (q_assign rfl (by decide)) ?_)
    refine list_nil ?_
    refine hK16 _ ?_; clear hK16 K16
    refine code_ret ?_
    refine ends_ret (cs := _) rfl rfl rfl rfl rfl ?_
    first
    | exact ⟨_, _, _, by omega, by omega, by omega, rfl, rfl⟩
    | (refine ⟨_, _, _, ?_, by omega, by omega, rfl, rfl⟩; have hx7 := @xor7c (digT.getD _ 0) ((p2 b.toNat : Nat) : Int) hdc ⟨by omega, by omega⟩; omega)
  (try simp only [Decidable.not_not] at h2)
  refine code_seq (fun K17 hK17 => ?_)
  refine code_region ?_
  refine list_cons rfl (op_q (q_eq rfl rfl (by decide)) ?_)
  refine list_cons rfl (op_q (q_assign rfl (by decide)) ?_)
  refine list_nil ?_
  refine hK17 _ ?_; clear hK17 K17
  refine code_cond_d rfl (fun h6 => ?_) (fun h6 => ?_)
  · skip
    (try simp only [Decidable.not_not] at h6)
    refine code_skip ?_
    refine hK6 _ ?_; clear hK6 K6
    refine code_cond_d rfl (fun h7 => ?_) (fun h7 => ?_)
    · skip
      (try simp only [Decidable.not_not] at h7)
      refine code_seq (fun K18 hK18 => ?_)
      refine code_region ?_
      refine list_cons rfl (op_q (q_move rfl (by decide)) ?_)
      refine list_cons rfl (op_buildSlice sl_24 (parts := [(0, _), (1, _), (2, _)]) rfl rfl rfl (by decide) (by decide) (by decide) rfl ?_)
      refine list_cons rfl (op_callM (among_c code ?_ _ _ ?_ ?_ ([0, 127, 64]) (by decide) (by decide)) (.tmp 15) 2000 [0, 15] [.tmp 16] _ rfl rfl (by intro y hy; cases hy; exact ⟨rfl, (by intro t ht; simp only [List.mem_cons, List.not_mem_nil, or_false] at ht; rcases ht with rfl | rfl <;> rfl), (by intro s hs; simp only [List.mem_cons, List.not_mem_nil, or_false] at hs; subst hs; first | (simp [SV.labels]; done) | (simp [SV.labels, packS, SV.back]; done) | exact List.not_mem_nil)⟩) (by decide) (by decide) (by decide) rfl (fun _ => rfl) ?_)
      · first | assumption | omega | (simp; omega)
      · first | assumption | omega | (simp; omega)
      · first | assumption | omega | (simp; omega)
      rintro _ _ ⟨x, a2, s2, hx, ha0, ha1, rfl, rfl⟩
      simp only [List.mem_cons, List.not_mem_nil, or_false] at hx
      refine list_cons rfl (op_q (q_assign rfl (by decide)) ?_)
      refine list_nil ?_
      refine hK18 _ ?_; clear hK18 K18
      refine codeT.imp (σ' := [(0, _), (2, _), (5, _), (11, _)]) ?_ (imp_covers ⟨rfl, rfl, rfl, rfl, trivial⟩)
      refine code_ret ?_
      refine blk_r ?_
      refine then_r ?_; clear hK2 K2
      refine ends_ret (cs := _) rfl rfl rfl rfl rfl ?_
      first
      | exact ⟨_, _, _, by omega, by omega, by omega, rfl, rfl⟩
      | (refine ⟨_, _, _, ?_, by omega, by omega, rfl, rfl⟩; have hx7 := @xor7c (digT.getD _ 0) ((p2 b.toNat : Nat) : Int) hdc ⟨by omega, by omega⟩; omega)
    (try simp only [Decidable.not_not] at h7)
    refine code_skip ?_
    refine blk_n ?_
    refine hK2 _ ?_; clear hK2 K2
    refine code_seq (fun K19 hK19 => ?_)
    refine code_seq (fun K20 hK20 => ?_)
    refine code_region ?_
    refine list_cons rfl (op_q (q_move rfl (by decide)) ?_)
    refine list_cons rfl (op_callM (one_c code ?_ _ _ ?_ ?_ _) (.tmp 18) 2000 [0, 18] [_] _ rfl rfl (by intro y hy; cases hy; exact ⟨rfl, (by intro t ht; simp only [List.mem_cons, List.not_mem_nil, or_false] at ht; rcases ht with rfl | rfl <;> rfl), (by intro s hs; simp only [List.mem_cons, List.not_mem_nil, or_false] at hs; subst hs; first | (simp [SV.labels]; done) | (simp [SV.labels, packS, SV.back]; done) | exact List.not_mem_nil)⟩) (by decide) (by decide) (by decide) rfl (fun _ => rfl) ?_)
    · first | assumption | omega | (simp; omega)
    · first | assumption | omega | (simp; omega)
    · first | assumption | omega | (simp; omega)
    rintro _ _ ⟨o, a2, s2, ha0, ha1, rfl, rfl⟩
    refine list_nil ?_
    refine hK20 _ ?_; clear hK20 K20
    refine codeT.imp (σ' := [(0, _), (2, _), (5, _), (11, _), (19, _)]) ?_ (imp_covers ⟨rfl, rfl, rfl, rfl, rfl, trivial⟩)
    refine code_cond_d rfl (fun h8 => ?_) (fun h8 => ?_)
    · skip
      (try simp only [Decidable.not_not] at h8)
      refine code_seq (fun K21 hK21 => ?_)
      refine code_region ?_
      refine list_cons rfl (op_q (q_move rfl (by decide)) ?_)
      refine list_cons rfl (op_callM (pick_c code ?_ _ _ ?_ ?_ _) (.tmp 20) 2000 [0, 20] [_] _ rfl rfl (by intro y hy; cases hy; exact ⟨rfl, (by intro t ht; simp only [List.mem_cons, List.not_mem_nil, or_false] at ht; rcases ht with rfl | rfl <;> rfl), (by intro s hs; simp only [List.mem_cons, List.not_mem_nil, or_false] at hs; subst hs; first | (simp [SV.labels]; done) | (simp [SV.labels, packS, SV.back]; done) | exact List.not_mem_nil)⟩) (by decide) (by decide) (by decide) rfl (fun _ => rfl) ?_)
      · first | assumption | omega | (simp; omega)
      · first | assumption | omega | (simp; omega)
      · first | assumption | omega | (simp; omega)
      rintro _ _ ⟨b, a2, s2, hb0, hb1, ha0, ha1, rfl, rfl⟩
      try have hp2 := p2_64 (k := b.toNat) (by omega)
      refine list_cons rfl (op_q (q_assign rfl (by decide)) ?_)
      refine list_nil ?_
      refine hK21 _ ?_; clear hK21 K21
      refine codeT.imp (σ' := [(0, _), (2, _), (5, _), (11, _)]) ?_ (imp_covers ⟨rfl, rfl, rfl, rfl, trivial⟩)
      refine code_ret ?_
      refine then_r ?_; clear hK19 K19
      refine ends_ret (cs := _) rfl rfl rfl rfl rfl ?_
      first
      | exact ⟨_, _, _, by omega, by omega, by omega, rfl, rfl⟩
      | (refine ⟨_, _, _, ?_, by omega, by omega, rfl, rfl⟩; have hx7 := @xor7c (digT.getD _ 0) ((p2 b.toNat : Nat) : Int) hdc ⟨by omega, by omega⟩; omega)
    (try simp only [Decidable.not_not] at h8)
    refine code_skip ?_
    refine hK19 _ ?_; clear hK19 K19
    refine code_seq (fun K22 hK22 => ?_)
    refine code_region ?_
    refine list_cons rfl (op_q (q_move rfl (by decide)) ?_)
    refine list_cons rfl (op_callM (pick_c code ?_ _ _ ?_ ?_ _) (.tmp 22) 2000 [0, 22] [_] _ rfl rfl (by intro y hy; cases hy; exact ⟨rfl, (by intro t ht; simp only [List.mem_cons, List.not_mem_nil, or_false] at ht; rcases ht with rfl | rfl <;> rfl), (by intro s hs; simp only [List.mem_cons, List.not_mem_nil, or_false] at hs; subst hs; first | (simp [SV.labels]; done) | (simp [SV.labels, packS, SV.back]; done) | exact List.not_mem_nil)⟩) (by decide) (by decide) (by decide) rfl (fun _ => rfl) ?_)
    · first | assumption | omega | (simp; omega)
    · first | assumption | omega | (simp; omega)
    · first | assumption | omega | (simp; omega)
    rintro _ _ ⟨b, a2, s2, hb0, hb1, ha0, ha1, rfl, rfl⟩
    try have hp2 := p2_64 (k := b.toNat) (by omega)
    refine list_cons rfl (op_call _ (spec_l2Digit _ (by omega) (by omega)) rfl rfl (by decide) (by decide) (by decide) rfl ?_)
    rintro _ rfl; have hdc := digT_cell b.toNat
    refine list_cons rfl (op_q (q_assign rfl (by decide)) ?_)
    refine list_nil ?_
    refine hK22 _ ?_; clear hK22 K22
    refine codeT.imp (σ' := [(0, _), (2, _), (3, _), (5, _), (11, _)]) ?_ (imp_covers ⟨rfl, rfl, rfl, rfl, rfl, trivial⟩)
    refine code_seq (fun K23 hK23 => ?_)
    refine code_seq (fun K24 hK24 => ?_)
    refine code_region ?_
    refine list_cons rfl (op_q (q_move rfl (by decide)) ?_)
    refine list_cons rfl (op_callM (one_c code ?_ _ _ ?_ ?_ _) (.tmp 25) 2000 [0, 25] [_] _ rfl rfl (by intro y hy; cases hy; exact ⟨rfl, (by intro t ht; simp only [List.mem_cons, List.not_mem_nil, or_false] at ht; rcases ht with rfl | rfl <;> rfl), (by intro s hs; simp only [List.mem_cons, List.not_mem_nil, or_false] at hs; subst hs; first | (simp [SV.labels]; done) | (simp [SV.labels, packS, SV.back]; done) | exact List.not_mem_nil)⟩) (by decide) (by decide) (by decide) rfl (fun _ => rfl) ?_)
    · first | assumption | omega | (simp; omega)
    · first | assumption | omega | (simp; omega)
    · first | assumption | omega | (simp; omega)
    rintro _ _ ⟨o, a2, s2, ha0, ha1, rfl, rfl⟩
    refine list_nil ?_
    refine hK24 _ ?_; clear hK24 K24
    refine codeT.imp (σ' := [(0, _), (2, _), (3, _), (5, _), (11, _), (26, _)]) ?_ (imp_covers ⟨rfl, rfl, rfl, rfl, rfl, rfl, trivial⟩)
    refine code_cond_d rfl (fun h9 => ?_) (fun h9 => ?_)
    · skip
      (try simp only [Decidable.not_not] at h9)
      refine code_region ?_
      refine list_cons rfl (op_q (q_move rfl (by decide)) ?_)
      refine list_cons rfl (op_q (q_move rfl (by decide)) ?_)
      refine list_cons rfl (op_callM (pick_c code ?_ _ _ ?_ ?_ _) (.tmp 28) 2000 [0, 28] [_] _ rfl rfl (by intro y hy; cases hy; exact ⟨rfl, (by intro t ht; simp only [List.mem_cons, List.not_mem_nil, or_false] at ht; rcases ht with rfl | rfl <;> rfl), (by intro s hs; simp only [List.mem_cons, List.not_mem_nil, or_false] at hs; subst hs; first | (simp [SV.labels]; done) | (simp [SV.labels, packS, SV.back]; done) | exact List.not_mem_nil)⟩) (by decide) (by decide) (by decide) rfl (fun _ => rfl) ?_)
      · first | assumption | omega | (simp; omega)
      · first | assumption | omega | (simp; omega)
      · first | assumption | omega | (simp; omega)
      rintro _ _ ⟨b, a2, s2, hb0, hb1, ha0, ha1, rfl, rfl⟩
      try have hp2 := p2_64 (k := b.toNat) (by omega)
      refine list_cons rfl (op_q (by first | exact q_shl1 rfl rfl (by decide) (by omega) (by omega) | exact q_shlI rfl rfl (by decide) (by omega) (by omega) (by omega) | exact q_shl rfl rfl (by omega) (by decide)) ?_)
      refine list_cons rfl (op_q (by first | exact q_xorI rfl rfl (by decide) (by omega) (by omega) (by omega) (by omega) | exact q_ib rfl rfl rfl (by decide)) ?_)
      refine list_cons rfl (op_q (q_assign rfl (by decide)) ?_)
      refine list_nil ?_
      refine hK23 _ ?_; clear hK23 K23
      refine codeT.imp (σ' := [(0, _), (2, _), (3, _), (5, _), (11, _)]) ?_ (imp_covers ⟨rfl, rfl, rfl, rfl, rfl, trivial⟩)
      refine code_seq (fun K25 hK25 => ?_)
      refine code_region ?_
      refine list_cons rfl (op_q (q_move rfl (by decide)) ?_)
      refine list_cons rfl (op_q (q_assign rfl (by decide)) ?_)
      refine list_nil ?_
      refine hK25 _ ?_; clear hK25 K25
      refine code_ret ?_
      refine ends_ret (cs := _) rfl rfl rfl rfl rfl ?_
      first
      | exact ⟨_, _, _, by omega, by omega, by omega, rfl, rfl⟩
      | (refine ⟨_, _, _, ?_, by omega, by omega, rfl, rfl⟩; have hx7 := @xor7c (digT.getD _ 0) ((p2 b.toNat : Nat) : Int) hdc ⟨by omega, by omega⟩; omega)
    (try simp only [Decidable.not_not] at h9)
    refine code_skip ?_
    refine hK23 _ ?_; clear hK23 K23
    refine code_seq (fun K26 hK26 => ?_)
    refine code_region ?_
    refine list_cons rfl (op_q (q_move rfl (by decide)) ?_)
    refine list_cons rfl (op_q (q_assign rfl (by decide)) ?_)
    refine list_nil ?_
    refine hK26 _ ?_; clear hK26 K26
    refine code_ret ?_
    refine ends_ret (cs := _) rfl rfl rfl rfl rfl ?_
    first
    | exact ⟨_, _, _, by omega, by omega, by omega, rfl, rfl⟩
    | (refine ⟨_, _, _, ?_, by omega, by omega, rfl, rfl⟩; have hx7 := @xor7c (digT.getD _ 0) ((p2 b.toNat : Nat) : Int) hdc ⟨by omega, by omega⟩; omega)
  (try simp only [Decidable.not_not] at h6)
  refine code_region ?_
  refine list_cons rfl (op_q (q_eq rfl rfl (by decide)) ?_)
  refine list_cons rfl (op_q (q_assign rfl (by decide)) ?_)
  refine list_nil ?_
  refine hK6 _ ?_; clear hK6 K6
  refine code_cond_d rfl (fun h10 => ?_) (fun h10 => ?_)
  · skip
    (try simp only [Decidable.not_not] at h10)
    refine code_seq (fun K27 hK27 => ?_)
    refine code_region ?_
    refine list_cons rfl (op_q (q_move rfl (by decide)) ?_)
    refine list_cons rfl (op_buildSlice sl_24 (parts := [(0, _), (1, _), (2, _)]) rfl rfl rfl (by decide) (by decide) (by decide) rfl ?_)
    refine list_cons rfl (op_callM (among_c code ?_ _ _ ?_ ?_ ([0, 127, 64]) (by decide) (by decide)) (.tmp 15) 2000 [0, 15] [.tmp 16] _ rfl rfl (by intro y hy; cases hy; exact ⟨rfl, (by intro t ht; simp only [List.mem_cons, List.not_mem_nil, or_false] at ht; rcases ht with rfl | rfl <;> rfl), (by intro s hs; simp only [List.mem_cons, List.not_mem_nil, or_false] at hs; subst hs; first | (simp [SV.labels]; done) | (simp [SV.labels, packS, SV.back]; done) | exact List.not_mem_nil)⟩) (by decide) (by decide) (by decide) rfl (fun _ => rfl) ?_)
    · first | assumption | omega | (simp; omega)
    · first | assumption | omega | (simp; omega)
    · first | assumption | omega | (simp; omega)
    rintro _ _ ⟨x, a2, s2, hx, ha0, ha1, rfl, rfl⟩
    simp only [List.mem_cons, List.not_mem_nil, or_false] at hx
    refine list_cons rfl (op_q (q_assign rfl (by decide)) ?_)
    refine list_nil ?_
    refine hK27 _ ?_; clear hK27 K27
    refine codeT.imp (σ' := [(0, _), (2, _), (5, _), (11, _)]) ?_ (imp_covers ⟨rfl, rfl, rfl, rfl, trivial⟩)
    refine code_ret ?_
    refine blk_r ?_
    refine then_r ?_; clear hK2 K2
    refine ends_ret (cs := _) rfl rfl rfl rfl rfl ?_
    first
    | exact ⟨_, _, _, by omega, by omega, by omega, rfl, rfl⟩
    | (refine ⟨_, _, _, ?_, by omega, by omega, rfl, rfl⟩; have hx7 := @xor7c (digT.getD _ 0) ((p2 b.toNat : Nat) : Int) hdc ⟨by omega, by omega⟩; omega)
  (try simp only [Decidable.not_not] at h10)
  refine code_skip ?_
  refine blk_n ?_
  refine hK2 _ ?_; clear hK2 K2
  refine code_seq (fun K28 hK28 => ?_)
  refine code_seq (fun K29 hK29 => ?_)
  refine code_region ?_
  refine list_cons rfl (op_q (q_move rfl (by decide)) ?_)
  refine list_cons rfl (op_callM (one_c code ?_ _ _ ?_ ?_ _) (.tmp 18) 2000 [0, 18] [_] _ rfl rfl (by intro y hy; cases hy; exact ⟨rfl, (by intro t ht; simp only [List.mem_cons, List.not_mem_nil, or_false] at ht; rcases ht with rfl | rfl <;> rfl), (by intro s hs; simp only [List.mem_cons, List.not_mem_nil, or_false] at hs; subst hs; first | (simp [SV.labels]; done) | (simp [SV.labels, packS, SV.back]; done) | exact List.not_mem_nil)⟩) (by decide) (by decide) (by decide) rfl (fun _ => rfl) ?_)
  · first | assumption | omega | (simp; omega)
  · first | assumption | omega | (simp; omega)
  · first | assumption | omega | (simp; omega)
  rintro _ _ ⟨o, a2, s2, ha0, ha1, rfl, rfl⟩
  refine list_nil ?_
  refine hK29 _ ?_; clear hK29 K29
  refine codeT.imp (σ' := [(0, _), (2, _), (5, _), (11, _), (19, _)]) ?_ (imp_covers ⟨rfl, rfl, rfl, rfl, rfl, trivial⟩)
  refine code_cond_d rfl (fun h11 => ?_) (fun h11 => ?_)
  · skip
    (try simp only [Decidable.not_not] at h11)
    refine code_seq (fun K30 hK30 => ?_)
    refine code_region ?_
    refine list_cons rfl (op_q (q_move rfl (by decide)) ?_)
    refine list_cons rfl (op_callM (pick_c code ?_ _ _ ?_ ?_ _) (.tmp 20) 2000 [0, 20] [_] _ rfl rfl (by intro y hy; cases hy; exact ⟨rfl, (by intro t ht; simp only [List.mem_cons, List.not_mem_nil, or_false] at ht; rcases ht with rfl | rfl <;> rfl), (by intro s hs; simp only [List.mem_cons, List.not_mem_nil, or_false] at hs; subst hs; first | (simp [SV.labels]; done) | (simp [SV.labels, packS, SV.back]; done) | exact List.not_mem_nil)⟩) (by decide) (by decide) (by decide) rfl (fun _ => rfl) ?_)
    · first | assumption | omega | (simp; omega)
    · first | assumption | omega | (simp; omega)
    · first | assumption | omega | (simp; omega)
    rintro _ _ ⟨b, a2, s2, hb0, hb1, ha0, ha1, rfl, rfl⟩
    try have hp2 := p2_64 (k := b.toNat) (by omega)
    refine list_cons rfl (op_q (q_assign rfl (by decide)) ?_)
    refine list_nil ?_
    refine hK30 _ ?_; clear hK30 K30
    refine codeT.imp (σ' := [(0, _), (2, _), (5, _), (11, _)]) ?_ (imp_covers ⟨rfl, rfl, rfl, rfl, trivial⟩)
    refine code_ret ?_
    refine then_r ?_; clear hK28 K28
    refine ends_ret (cs := _) rfl rfl rfl rfl rfl ?_
    first
    | exact ⟨_, _, _, by omega, by omega, by omega, rfl, rfl⟩
    | (refine ⟨_, _, _, ?_, by omega, by omega, rfl, rfl⟩; have hx7 := @xor7c (digT.getD _ 0) ((p2 b.toNat : Nat) : Int) hdc ⟨by omega, by omega⟩; omega)
  (try simp only [Decidable.not_not] at h11)
  refine code_skip ?_
  refine hK28 _ ?_; clear hK28 K28
  refine code_seq (fun K31 hK31 => ?_)
  refine code_region ?_
  refine list_cons rfl (op_q (q_move rfl (by decide)) ?_)
  refine list_cons rfl (op_callM (pick_c code ?_ _ _ ?_ ?_ _) (.tmp 22) 2000 [0, 22] [_] _ rfl rfl (by intro y hy; cases hy; exact ⟨rfl, (by intro t ht; simp only [List.mem_cons, List.not_mem_nil, or_false] at ht; rcases ht with rfl | rfl <;> rfl), (by intro s hs; simp only [List.mem_cons, List.not_mem_nil, or_false] at hs; subst hs; first | (simp [SV.labels]; done) | (simp [SV.labels, packS, SV.back]; done) | exact List.not_mem_nil)⟩) (by decide) (by decide) (by decide) rfl (fun _ => rfl) ?_)
  · first | assumption | omega | (simp; omega)
  · first | assumption | omega | (simp; omega)
  · first | assumption | omega | (simp; omega)
  rintro _ _ ⟨b, a2, s2, hb0, hb1, ha0, ha1, rfl, rfl⟩
  try have hp2 := p2_64 (k := b.toNat) (by omega)
  refine list_cons rfl (op_call _ (spec_l2Digit _ (by omega) (by omega)) rfl rfl (by decide) (by decide) (by decide) rfl ?_)
  rintro _ rfl; have hdc := digT_cell b.toNat
  refine list_cons rfl (op_q (q_assign rfl (by decide)) ?_)
  refine list_nil ?_
  refine hK31 _ ?_; clear hK31 K31
  refine codeT.imp (σ' := [(0, _), (2, _), (3, _), (5, _), (11, _)]) ?_ (imp_covers ⟨rfl, rfl, rfl, rfl, rfl, trivial⟩)
  refine code_seq (fun K32 hK32 => ?_)
  refine code_seq (fun K33 hK33 => ?_)
  refine code_region ?_
  refine list_cons rfl (op_q (q_move rfl (by decide)) ?_)
  refine list_cons rfl (op_callM (one_c code ?_ _ _ ?_ ?_ _) (.tmp 25) 2000 [0, 25] [_] _ rfl rfl (by intro y hy; cases hy; exact ⟨rfl, (by intro t ht; simp only [List.mem_cons, List.not_mem_nil, or_false] at ht; rcases ht with rfl | rfl <;> rfl), (by intro s hs; simp only [List.mem_cons, List.not_mem_nil, or_false] at hs; subst hs; first | (simp [SV.labels]; done) | (simp [SV.labels, packS, SV.back]; done) | exact List.not_mem_nil)⟩) (by decide) (by decide) (by decide) rfl (fun _ => rfl) ?_)
  · first | assumption | omega | (simp; omega)
  · first | assumption | omega | (simp; omega)
  · first | assumption | omega | (simp; omega)
  rintro _ _ ⟨o, a2, s2, ha0, ha1, rfl, rfl⟩
  refine list_nil ?_
  refine hK33 _ ?_; clear hK33 K33
  refine codeT.imp (σ' := [(0, _), (2, _), (3, _), (5, _), (11, _), (26, _)]) ?_ (imp_covers ⟨rfl, rfl, rfl, rfl, rfl, rfl, trivial⟩)
  refine code_cond_d rfl (fun h12 => ?_) (fun h12 => ?_)
  · skip
    (try simp only [Decidable.not_not] at h12)
    refine code_region ?_
    refine list_cons rfl (op_q (q_move rfl (by decide)) ?_)
    refine list_cons rfl (op_q (q_move rfl (by decide)) ?_)
    refine list_cons rfl (op_callM (pick_c code ?_ _ _ ?_ ?_ _) (.tmp 28) 2000 [0, 28] [_] _ rfl rfl (by intro y hy; cases hy; exact ⟨rfl, (by intro t ht; simp only [List.mem_cons, List.not_mem_nil, or_false] at ht; rcases ht with rfl | rfl <;> rfl), (by intro s hs; simp only [List.mem_cons, List.not_mem_nil, or_false] at hs; subst hs; first | (simp [SV.labels]; done) | (simp [SV.labels, packS, SV.back]; done) | exact List.not_mem_nil)⟩) (by decide) (by decide) (by decide) rfl (fun _ => rfl) ?_)
    · first | assumption | omega | (simp; omega)
    · first | assumption | omega | (simp; omega)
    · first | assumption | omega | (simp; omega)
    rintro _ _ ⟨b, a2, s2, hb0, hb1, ha0, ha1, rfl, rfl⟩
    try have hp2 := p2_64 (k := b.toNat) (by omega)
    refine list_cons rfl (op_q (by first | exact q_shl1 rfl rfl (by decide) (by omega) (by omega) | exact q_shlI rfl rfl (by decide) (by omega) (by omega) (by omega) | exact q_shl rfl rfl (by omega) (by decide)) ?_)
    refine list_cons rfl (op_q (by first | exact q_xorI rfl rfl (by decide) (by omega) (by omega) (by omega) (by omega) | exact q_ib rfl rfl rfl (by decide)) ?_)
    refine list_cons rfl (op_q (q_assign rfl (by decide)) ?_)
    refine list_nil ?_
    refine hK32 _ ?_; clear hK32 K32
    refine codeT.imp (σ' := [(0, _), (2, _), (3, _), (5, _), (11, _)]) ?_ (imp_covers ⟨rfl, rfl, rfl, rfl, rfl, trivial⟩)
    refine code_seq (fun K34 hK34 => ?_)
    refine code_region ?_
    refine list_cons rfl (op_q (q_move rfl (by decide)) ?_)
    refine list_cons rfl (op_q (q_assign rfl (by decide)) ?_)
    refine list_nil ?_
    refine hK34 _ ?_; clear hK34 K34
    refine code_ret ?_
    refine ends_ret (cs := _) rfl rfl rfl rfl rfl ?_
    first
    | exact ⟨_, _, _, by omega, by omega, by omega, rfl, rfl⟩
    | (refine ⟨_, _, _, ?_, by omega, by omega, rfl, rfl⟩; have hx7 := @xor7c (digT.getD _ 0) ((p2 b.toNat : Nat) : Int) hdc ⟨by omega, by omega⟩; omega)
  (try simp only [Decidable.not_not] at h12)
  refine code_skip ?_
  refine hK32 _ ?_; clear hK32 K32
  refine code_seq (fun K35 hK35 => ?_)
  refine code_region ?_
  refine list_cons rfl (op_q (q_move rfl (by decide)) ?_)
  refine list_cons rfl (op_q (q_assign rfl (by decide)) ?_)
  refine list_nil ?_
  refine hK35 _ ?_; clear hK35 K35
  refine code_ret ?_
  refine ends_ret (cs := _) rfl rfl rfl rfl rfl ?_
  first
  | exact ⟨_, _, _, by omega, by omega, by omega, rfl, rfl⟩
  | (refine ⟨_, _, _, ?_, by omega, by omega, rfl, rfl⟩; have hx7 := @xor7c (digT.getD _ 0) ((p2 b.toNat : Nat) : Int) hdc ⟨by omega, by omega⟩; omega)

set_option maxRecDepth 4000 in
set_option maxHeartbeats 4000000 in
theorem row_c (code : List UInt8) (hcode : code.length ≤ 9223372036854775807) (a s : Int) (ha : 0 ≤ a) (ha2 : a ≤ 4611686018427300000) : MCalls Tryd.prog 120 false (some (.box 74 [.sl code.length (bytesP code), .int .i64 a, .int .u64 s])) [] fun rs cs => ∃ (l : List Int) (a2 s2 : Int), (l.length ≤ 7 ∧ ∀ x ∈ l, -1 ≤ x ∧ x ≤ 4611686018427387904) ∧ a ≤ a2 ∧ a2 ≤ a + 300 ∧ rs = [.own 0 3 1 l.length (l.map (.int .i64))] ∧ cs = [.sl code.length (bytesP code), .int .i64 a2, .int .u64 s2] := by
  refine mcalls_of_code (n := 22) az Tryd.func120 (by kernel_rfl) rfl rfl (Nat.le_of_ble_eq_true rfl) (by intro t u h; simp [Tryd.f120] at h) ?_
  refine code_seq (fun K1 hK1 => ?_)
  refine code_region ?_
  refine list_cons rfl (op_q (q_assign rfl (by decide)) ?_)
  refine list_nil ?_
  refine hK1 _ ?_; clear hK1 K1
  refine code_seq (fun K2 hK2 => ?_)
  refine code_region ?_
  refine list_cons rfl (op_buildSlice sl_24 (parts := []) rfl rfl rfl (by decide) (by decide) (by decide) rfl ?_)
  refine list_cons rfl (op_q (q_assign rfl (by decide)) ?_)
  refine list_nil ?_
  refine hK2 _ ?_; clear hK2 K2
  refine code_seq (fun K3 hK3 => ?_)
  refine code_seq (fun K4 hK4 => ?_)
  refine code_region ?_
  refine list_cons rfl (op_q (q_move rfl (by decide)) ?_)
  refine list_cons rfl (op_buildSlice sl_24 (parts := [(0, _), (1, _), (2, _), (3, _), (4, _), (5, _), (6, _), (7, _), (8, _)]) rfl rfl rfl (by decide) (by decide) (by decide) rfl ?_)
  refine list_cons rfl (op_callM (among_c code ?_ _ _ ?_ ?_ ([2, 3, 1, 4, 6, 0, 5, 2, 3]) (by decide) (by decide)) (.tmp 6) 2000 [0, 6] [.tmp 7] _ rfl rfl (by intro y hy; cases hy; exact ⟨rfl, (by intro t ht; simp only [List.mem_cons, List.not_mem_nil, or_false] at ht; rcases ht with rfl | rfl <;> rfl), (by intro s hs; simp only [List.mem_cons, List.not_mem_nil, or_false] at hs; subst hs; first | (simp [SV.labels]; done) | (simp [SV.labels, packS, SV.back]; done) | exact List.not_mem_nil)⟩) (by decide) (by decide) (by decide) rfl (fun _ => rfl) ?_)
  · first | assumption | omega | (simp; omega)
  · first | assumption | omega | (simp; omega)
  · first | assumption | omega | (simp; omega)
  rintro _ _ ⟨n0, a2, s2, hx, ha0, ha1, rfl, rfl⟩
  simp only [List.mem_cons, List.not_mem_nil, or_false] at hx
  refine list_cons rfl (op_q (q_assign rfl (by decide)) ?_)
  refine list_nil ?_
  refine hK4 _ ?_; clear hK4 K4
  refine codeT.imp (σ' := [(0, _), (2, _), (3, _), (4, _)]) ?_ (imp_covers ⟨rfl, rfl, rfl, rfl, trivial⟩)
  refine code_block ?_
  refine code_loop (X := List PV × PV × Nat × List PV × Int) (fun x => [(0, .box 2000 74 x.1), (2, .val x.2.1), (3, .own 5 3 1 x.2.2.1 x.2.2.2.1), (4, .val (.int .i64 x.2.2.2.2))]) (fun x => x.2.2.2.2 ≤ 6 ∧ ∃ (a1 s1 : Int) (l : List Int), x.1 = [.sl code.length (bytesP code), .int .i64 a1, .int .u64 s1] ∧ x.2.2.1 = l.length ∧ x.2.2.2.1 = l.map (.int .i64) ∧ a ≤ a1 ∧ a1 ≤ a + 10 + 20 * l.length ∧ (l.length : Int) + max x.2.2.2.2 0 ≤ 6 ∧ ∀ x ∈ l, -1 ≤ x ∧ x ≤ 4611686018427387904) (fun x => x.2.2.2.2.toNat) (_, _, _, _, _) (imp_covers ⟨rfl, rfl, rfl, rfl, trivial⟩) ?_ ?_
  · (try dsimp only)
    exact ⟨by omega, _, _, [], rfl, rfl, rfl, by omega, by simp only [List.length_nil]; omega, by simp only [List.length_nil]; omega, fun _ h => by simp at h⟩
  · intro x hI
    obtain ⟨c_c, t2_p, out_n, out_c, n⟩ := x
    replace hI : n ≤ 6 ∧ ∃ (a1 s1 : Int) (l : List Int), c_c = [.sl code.length (bytesP code), .int .i64 a1, .int .u64 s1] ∧ out_n = l.length ∧ out_c = l.map (.int .i64) ∧ a ≤ a1 ∧ a1 ≤ a + 10 + 20 * l.length ∧ (l.length : Int) + max n 0 ≤ 6 ∧ ∀ x ∈ l, -1 ≤ x ∧ x ≤ 4611686018427387904 := hI
    show codeT _ _ _ [(0, .box 2000 74 c_c), (2, .val t2_p), (3, .own 5 3 1 out_n out_c), (4, .val (.int .i64 n))] _
    obtain ⟨i0, a1, s1, l, rfl, rfl, rfl, i1, i2, i3, i4⟩ := hI
    refine code_seq (fun K5 hK5 => ?_)
    refine code_seq (fun K6 hK6 => ?_)
    refine code_region ?_
    refine list_cons rfl (op_q (q_move rfl (by decide)) ?_)
    refine list_cons rfl (op_q (q_gt rfl rfl (by decide)) ?_)
    refine list_nil ?_
    refine hK6 _ ?_; clear hK6 K6
    refine code_cond_d rfl (fun h1 => ?_) (fun h1 => ?_)
    · skip
      (try simp only [Decidable.not_not] at h1)
      refine code_skip ?_
      refine hK5 _ ?_; clear hK5 K5
      refine code_seq (fun K7 hK7 => ?_)
      refine code_block ?_
      refine code_region ?_
      refine list_cons rfl (op_q (q_move rfl (by decide)) ?_)
      refine list_cons rfl (op_q (q_move rfl (by decide)) ?_)
      refine list_cons rfl (op_callM (cell_c code ?_ _ _ ?_ ?_) (.tmp 14) 2000 [0, 14] [] _ rfl rfl (by intro y hy; cases hy; exact ⟨rfl, (by intro t ht; simp only [List.mem_cons, List.not_mem_nil, or_false] at ht; rcases ht with rfl | rfl <;> rfl), (by intro s hs; simp only [List.mem_cons, List.not_mem_nil, or_false] at hs; (try cases hs))⟩) (by decide) (by decide) (by decide) rfl (fun _ => rfl) ?_)
      · first | assumption | omega | (simp; omega)
      · first | assumption | omega | (simp; omega)
      · first | assumption | omega | (simp; omega)
      rintro _ _ ⟨x, a2, s2, hx, ha0, ha1, rfl, rfl⟩
      refine list_cons rfl (op_buildSlice sl_24 (parts := [(0, .tmp 15)]) rfl rfl rfl (by decide) (by decide) (by decide) rfl ?_)
      refine list_cons rfl (op_append_gen sl_24 (l := 5) (.inl rfl) rfl rfl (l2 := none) (.inl ⟨rfl, (by first | rfl | exact flat_map _ (fun _ => rfl) _)⟩) (by first | rfl | simp | omega) (by omega) (by decide) (by decide) (by decide) ?_)
      refine list_cons rfl (op_q (q_assign rfl (by decide)) ?_)
      refine list_nil ?_
      refine blk_n ?_
      refine hK7 _ ?_; clear hK7 K7
      refine codeT.imp (σ' := [(0, _), (2, _), (3, _), (4, _)]) ?_ (imp_covers ⟨rfl, rfl, rfl, rfl, trivial⟩)
      refine code_region ?_
      refine list_cons rfl (op_q (q_move rfl (by decide)) ?_)
      refine list_cons rfl (op_q (by first | exact q_subI rfl rfl (by decide) (by omega) (by omega) | exact q_ib rfl rfl rfl (by decide)) ?_)
      refine list_cons rfl (op_q (q_assign rfl (by decide)) ?_)
      refine list_nil ?_
      refine then_n ⟨(_, _, _, _, _), imp_covers ⟨rfl, rfl, rfl, rfl, trivial⟩, ?_, ?_⟩
      · (try dsimp only)
        refine ⟨by omega, _, _, l ++ [x], rfl, by simp, by simp; rfl, by omega, by simp only [List.length_append, List.length_cons, List.length_nil]; omega, by simp only [List.length_append, List.length_cons, List.length_nil]; omega, fun y hy => ?_⟩
        rcases List.mem_append.1 hy with hy | hy
        · exact i4 y hy
        · simp only [List.mem_singleton] at hy; subst hy; omega
      · (try dsimp only); omega
    (try simp only [Decidable.not_not] at h1)
    refine code_exit ?_
    refine then_x ?_; clear hK5 K5
    refine then_x ?_
    refine blk_hit ?_
    refine hK3 _ ?_; clear hK3 K3
    refine code_seq (fun K8 hK8 => ?_)
    refine code_seq (fun K9 hK9 => ?_)
    refine code_region ?_
    refine list_cons rfl (op_q (q_move rfl (by decide)) ?_)
    refine list_cons rfl (op_callM (one_c code ?_ _ _ ?_ ?_ _) (.tmp 18) 2000 [0, 18] [_] _ rfl rfl (by intro y hy; cases hy; exact ⟨rfl, (by intro t ht; simp only [List.mem_cons, List.not_mem_nil, or_false] at ht; rcases ht with rfl | rfl <;> rfl), (by intro s hs; simp only [List.mem_cons, List.not_mem_nil, or_false] at hs; subst hs; first | (simp [SV.labels]; done) | (simp [SV.labels, packS, SV.back]; done) | exact List.not_mem_nil)⟩) (by decide) (by decide) (by decide) rfl (fun _ => rfl) ?_)
    · first | assumption | omega | (simp; omega)
    · first | assumption | omega | (simp; omega)
    · first | assumption | omega | (simp; omega)
    rintro _ _ ⟨o, a2, s2, ha0, ha1, rfl, rfl⟩
    refine list_nil ?_
    refine hK9 _ ?_; clear hK9 K9
    refine codeT.imp (σ' := [(0, _), (2, _), (3, _), (4, _), (19, _)]) ?_ (imp_covers ⟨rfl, rfl, rfl, rfl, rfl, trivial⟩)
    refine code_cond_d rfl (fun h2 => ?_) (fun h2 => ?_)
    · skip
      (try simp only [Decidable.not_not] at h2)
      refine code_seq (fun K10 hK10 => ?_)
      refine code_region ?_
      refine list_cons rfl (op_buildSlice sl_24 (parts := [(0, _), (1, _), (2, _), (3, _), (4, _), (5, _), (6, _)]) rfl rfl rfl (by decide) (by decide) (by decide) rfl ?_)
      refine list_cons rfl (op_q (q_assign rfl (by decide)) ?_)
      refine list_nil ?_
      refine hK10 _ ?_; clear hK10 K10
      refine code_ret ?_
      refine then_r ?_; clear hK8 K8
      refine ends_ret (cs := _) rfl rfl rfl rfl rfl ?_
      exact ⟨[6, 6, 6, 6, 6, 6, 6], _, _, ⟨by decide, by decide⟩, by omega, by omega, rfl, rfl⟩
    (try simp only [Decidable.not_not] at h2)
    refine code_skip ?_
    refine hK8 _ ?_; clear hK8 K8
    refine code_seq (fun K11 hK11 => ?_)
    refine code_region ?_
    refine list_cons rfl (op_q (q_move rfl (by decide)) ?_)
    refine list_cons rfl (op_q (q_assign rfl (by decide)) ?_)
    refine list_nil ?_
    refine hK11 _ ?_; clear hK11 K11
    refine code_ret ?_
    refine ends_ret (cs := _) rfl rfl rfl rfl rfl ?_
    exact ⟨l, _, _, ⟨by omega, i4⟩, by omega, by omega, rfl, rfl⟩

set_option maxRecDepth 4000 in
set_option maxHeartbeats 4000000 in
theorem digits_c (code : List UInt8) (hcode : code.length ≤ 9223372036854775807) (a s : Int) (ha : 0 ≤ a) (ha2 : a ≤ 4611686018427200000) : MCalls Tryd.prog 77 false (some (.box 74 [.sl code.length (bytesP code), .int .i64 a, .int .u64 s])) [] fun rs cs => ∃ (l : List Int) (a2 s2 : Int), (l.length ≤ 7 ∧ ∀ x ∈ l, -1 ≤ x ∧ x ≤ 4611686018427387904) ∧ a ≤ a2 ∧ a2 ≤ a + 400 ∧ rs = [.own 0 3 1 l.length (l.map (.int .i64))] ∧ cs = [.sl code.length (bytesP code), .int .i64 a2, .int .u64 s2] := by
  refine mcalls_of_code (n := 25) az Tryd.func77 (by kernel_rfl) rfl rfl (Nat.le_of_ble_eq_true rfl) (by intro t u h; simp [Tryd.f77] at h) ?_
  refine code_seq (fun K1 hK1 => ?_)
  refine code_region ?_
  refine list_cons rfl (op_q (q_assign rfl (by decide)) ?_)
  refine list_nil ?_
  refine hK1 _ ?_; clear hK1 K1
  refine code_seq (fun K2 hK2 => ?_)
  refine code_seq (fun K3 hK3 => ?_)
  refine code_region ?_
  refine list_cons rfl (op_q (q_move rfl (by decide)) ?_)
  refine list_cons rfl (op_callM (one_c code ?_ _ _ ?_ ?_ _) (.tmp 5) 2000 [0, 5] [_] _ rfl rfl (by intro y hy; cases hy; exact ⟨rfl, (by intro t ht; simp only [List.mem_cons, List.not_mem_nil, or_false] at ht; rcases ht with rfl | rfl <;> rfl), (by intro s hs; simp only [List.mem_cons, List.not_mem_nil, or_false] at hs; subst hs; first | (simp [SV.labels]; done) | (simp [SV.labels, packS, SV.back]; done) | exact List.not_mem_nil)⟩) (by decide) (by decide) (by decide) rfl (fun _ => rfl) ?_)
  · first | assumption | omega | (simp; omega)
  · first | assumption | omega | (simp; omega)
  · first | assumption | omega | (simp; omega)
  rintro _ _ ⟨o, a2, s2, ha0, ha1, rfl, rfl⟩
  refine list_nil ?_
  refine hK3 _ ?_; clear hK3 K3
  refine codeT.imp (σ' := [(0, _), (2, _), (6, _)]) ?_ (imp_covers ⟨rfl, rfl, rfl, trivial⟩)
  refine code_cond_d rfl (fun h1 => ?_) (fun h1 => ?_)
  · skip
    (try simp only [Decidable.not_not] at h1)
    refine code_seq (fun K4 hK4 => ?_)
    refine code_region ?_
    refine list_cons rfl (op_q (q_move rfl (by decide)) ?_)
    refine list_cons rfl (op_callM (row_c code ?_ _ _ ?_ ?_) (.tmp 7) 2000 [0, 7] [] _ rfl rfl (by intro y hy; cases hy; exact ⟨rfl, (by intro t ht; simp only [List.mem_cons, List.not_mem_nil, or_false] at ht; rcases ht with rfl | rfl <;> rfl), (by intro s hs; simp only [List.mem_cons, List.not_mem_nil, or_false] at hs; (try cases hs))⟩) (by decide) (by decide) (by decide) rfl (fun _ => rfl) ?_)
    · first | assumption | omega | (simp; omega)
    · first | assumption | omega | (simp; omega)
    · first | assumption | omega | (simp; omega)
    rintro _ _ ⟨l, a2, s2, ⟨hl1, hl2⟩, ha0, ha1, rfl, rfl⟩
    refine list_cons rfl (op_q (q_assign rfl (by decide)) ?_)
    refine list_nil ?_
    refine hK4 _ ?_; clear hK4 K4
    refine codeT.imp (σ' := [(0, _), (2, _)]) ?_ (imp_covers ⟨rfl, rfl, trivial⟩)
    refine code_ret ?_
    refine then_r ?_; clear hK2 K2
    refine ends_ret (cs := _) rfl rfl rfl rfl rfl ?_
    exact ⟨l, _, _, ⟨by omega, hl2⟩, by omega, by omega, rfl, rfl⟩
  (try simp only [Decidable.not_not] at h1)
  refine code_skip ?_
  refine hK2 _ ?_; clear hK2 K2
  refine code_seq (fun K5 hK5 => ?_)
  refine code_region ?_
  refine list_cons rfl (op_buildSlice sl_24 (parts := []) rfl rfl rfl (by decide) (by decide) (by decide) rfl ?_)
  refine list_cons rfl (op_q (q_assign rfl (by decide)) ?_)
  refine list_nil ?_
  refine hK5 _ ?_; clear hK5 K5
  refine code_seq (fun K6 hK6 => ?_)
  refine code_seq (fun K7 hK7 => ?_)
  refine code_region ?_
  refine list_cons rfl (op_q (q_move rfl (by decide)) ?_)
  refine list_cons rfl (op_buildSlice sl_24 (parts := [(0, _), (1, _), (2, _), (3, _), (4, _)]) rfl rfl rfl (by decide) (by decide) (by decide) rfl ?_)
  refine list_cons rfl (op_callM (among_c code ?_ _ _ ?_ ?_ ([2, 3, 1, 4, 6]) (by decide) (by decide)) (.tmp 10) 2000 [0, 10] [.tmp 11] _ rfl rfl (by intro y hy; cases hy; exact ⟨rfl, (by intro t ht; simp only [List.mem_cons, List.not_mem_nil, or_false] at ht; rcases ht with rfl | rfl <;> rfl), (by intro s hs; simp only [List.mem_cons, List.not_mem_nil, or_false] at hs; subst hs; first | (simp [SV.labels]; done) | (simp [SV.labels, packS, SV.back]; done) | exact List.not_mem_nil)⟩) (by decide) (by decide) (by decide) rfl (fun _ => rfl) ?_)
  · first | assumption | omega | (simp; omega)
  · first | assumption | omega | (simp; omega)
  · first | assumption | omega | (simp; omega)
  rintro _ _ ⟨n0, a2, s2, hx, ha0, ha1, rfl, rfl⟩
  simp only [List.mem_cons, List.not_mem_nil, or_false] at hx
  refine list_cons rfl (op_q (q_assign rfl (by decide)) ?_)
  refine list_nil ?_
  refine hK7 _ ?_; clear hK7 K7
  refine codeT.imp (σ' := [(0, _), (2, _), (3, _), (4, _)]) ?_ (imp_covers ⟨rfl, rfl, rfl, rfl, trivial⟩)
  refine code_block ?_
  refine code_loop (X := List PV × PV × Nat × List PV × Int) (fun x => [(0, .box 2000 74 x.1), (2, .val x.2.1), (3, .own 9 3 1 x.2.2.1 x.2.2.2.1), (4, .val (.int .i64 x.2.2.2.2))]) (fun x => x.2.2.2.2 ≤ 6 ∧ ∃ (a1 s1 : Int) (l : List Int), x.1 = [.sl code.length (bytesP code), .int .i64 a1, .int .u64 s1] ∧ x.2.2.1 = l.length ∧ x.2.2.2.1 = l.map (.int .i64) ∧ a ≤ a1 ∧ a1 ≤ a + 10 + 20 * l.length ∧ (l.length : Int) + max x.2.2.2.2 0 ≤ 6 ∧ ∀ x ∈ l, -1 ≤ x ∧ x ≤ 4611686018427387904) (fun x => x.2.2.2.2.toNat) (_, _, _, _, _) (imp_covers ⟨rfl, rfl, rfl, rfl, trivial⟩) ?_ ?_
  · (try dsimp only)
    exact ⟨by omega, _, _, [], rfl, rfl, rfl, by omega, by simp only [List.length_nil]; omega, by simp only [List.length_nil]; omega, fun _ h => by simp at h⟩
  · intro x hI
    obtain ⟨c_c, t2_p, out_n, out_c, n⟩ := x
    replace hI : n ≤ 6 ∧ ∃ (a1 s1 : Int) (l : List Int), c_c = [.sl code.length (bytesP code), .int .i64 a1, .int .u64 s1] ∧ out_n = l.length ∧ out_c = l.map (.int .i64) ∧ a ≤ a1 ∧ a1 ≤ a + 10 + 20 * l.length ∧ (l.length : Int) + max n 0 ≤ 6 ∧ ∀ x ∈ l, -1 ≤ x ∧ x ≤ 4611686018427387904 := hI
    show codeT _ _ _ [(0, .box 2000 74 c_c), (2, .val t2_p), (3, .own 9 3 1 out_n out_c), (4, .val (.int .i64 n))] _
    obtain ⟨i0, a1, s1, l, rfl, rfl, rfl, i1, i2, i3, i4⟩ := hI
    refine code_seq (fun K8 hK8 => ?_)
    refine code_seq (fun K9 hK9 => ?_)
    refine code_region ?_
    refine list_cons rfl (op_q (q_move rfl (by decide)) ?_)
    refine list_cons rfl (op_q (q_gt rfl rfl (by decide)) ?_)
    refine list_nil ?_
    refine hK9 _ ?_; clear hK9 K9
    refine code_cond_d rfl (fun h2 => ?_) (fun h2 => ?_)
    · skip
      (try simp only [Decidable.not_not] at h2)
      refine code_skip ?_
      refine hK8 _ ?_; clear hK8 K8
      refine code_seq (fun K10 hK10 => ?_)
      refine code_block ?_
      refine code_region ?_
      refine list_cons rfl (op_q (q_move rfl (by decide)) ?_)
      refine list_cons rfl (op_q (q_move rfl (by decide)) ?_)
      refine list_cons rfl (op_buildSlice sl_24 (parts := [(0, _), (1, _), (2, _), (3, _), (4, _), (5, _), (6, _), (7, _), (8, _), (9, _)]) rfl rfl rfl (by decide) (by decide) (by decide) rfl ?_)
      refine list_cons rfl (op_callM (among_c code ?_ _ _ ?_ ?_ ([0, 1, 2, 5, 6, 8, 9, 3, 4, 7]) (by decide) (by decide)) (.tmp 18) 2000 [0, 18] [.tmp 19] _ rfl rfl (by intro y hy; cases hy; exact ⟨rfl, (by intro t ht; simp only [List.mem_cons, List.not_mem_nil, or_false] at ht; rcases ht with rfl | rfl <;> rfl), (by intro s hs; simp only [List.mem_cons, List.not_mem_nil, or_false] at hs; subst hs; first | (simp [SV.labels]; done) | (simp [SV.labels, packS, SV.back]; done) | exact List.not_mem_nil)⟩) (by decide) (by decide) (by decide) rfl (fun _ => rfl) ?_)
      · first | assumption | omega | (simp; omega)
      · first | assumption | omega | (simp; omega)
      · first | assumption | omega | (simp; omega)
      rintro _ _ ⟨x, a2, s2, hx, ha0, ha1, rfl, rfl⟩
      simp only [List.mem_cons, List.not_mem_nil, or_false] at hx
      refine list_cons rfl (op_call _ (spec_l2Digit _ (by omega) (by omega)) rfl rfl (by decide) (by decide) (by decide) rfl ?_)
      rintro _ rfl; have hdc := digT_cell x.toNat
      refine list_cons rfl (op_buildSlice sl_24 (parts := [(0, .tmp 21)]) rfl rfl rfl (by decide) (by decide) (by decide) rfl ?_)
      refine list_cons rfl (op_append_gen sl_24 (l := 9) (.inl rfl) rfl rfl (l2 := none) (.inl ⟨rfl, (by first | rfl | exact flat_map _ (fun _ => rfl) _)⟩) (by first | rfl | simp | omega) (by omega) (by decide) (by decide) (by decide) ?_)
      refine list_cons rfl (op_q (q_assign rfl (by decide)) ?_)
      refine list_nil ?_
      refine blk_n ?_
      refine hK10 _ ?_; clear hK10 K10
      refine codeT.imp (σ' := [(0, _), (2, _), (3, _), (4, _)]) ?_ (imp_covers ⟨rfl, rfl, rfl, rfl, trivial⟩)
      refine code_region ?_
      refine list_cons rfl (op_q (q_move rfl (by decide)) ?_)
      refine list_cons rfl (op_q (by first | exact q_subI rfl rfl (by decide) (by omega) (by omega) | exact q_ib rfl rfl rfl (by decide)) ?_)
      refine list_cons rfl (op_q (q_assign rfl (by decide)) ?_)
      refine list_nil ?_
      refine then_n ⟨(_, _, _, _, _), imp_covers ⟨rfl, rfl, rfl, rfl, trivial⟩, ?_, ?_⟩
      · (try dsimp only)
        refine ⟨by omega, _, _, l ++ [digT.getD x.toNat 0], rfl, by simp, by simp; rfl, by omega, by simp only [List.length_append, List.length_cons, List.length_nil]; omega, by simp only [List.length_append, List.length_cons, List.length_nil]; omega, fun y hy => ?_⟩
        rcases List.mem_append.1 hy with hy | hy
        · exact i4 y hy
        · simp only [List.mem_singleton] at hy; subst hy; omega
      · (try dsimp only); omega
    (try simp only [Decidable.not_not] at h2)
    refine code_exit ?_
    refine then_x ?_; clear hK8 K8
    refine then_x ?_
    refine blk_hit ?_
    refine hK6 _ ?_; clear hK6 K6
    refine code_seq (fun K11 hK11 => ?_)
    refine code_region ?_
    refine list_cons rfl (op_q (q_move rfl (by decide)) ?_)
    refine list_cons rfl (op_q (q_assign rfl (by decide)) ?_)
    refine list_nil ?_
    refine hK11 _ ?_; clear hK11 K11
    refine code_ret ?_
    refine ends_ret (cs := _) rfl rfl rfl rfl rfl ?_
    exact ⟨l, _, _, ⟨by omega, i4⟩, by omega, by omega, rfl, rfl⟩

end Go.Proofs.YtjbbijlbenkgcaaDoor
namespace Go.Proofs.YtjbbijlbenkgcaaDoor.Dr5Ty
open Go.RowKit

def az (u : TypeId) : Nat := match u with  | _ => 0

theorem sl_24 : SlTy Tryd.prog 24 3 1 8 [.int .i64 0] := slTy_of Tryd.underlying24 (z := .int .i64 0) (by kernel_rfl) rfl (by decide) (by decide) rfl
theorem bt_74 : BuildTy Tryd.prog 74 (fun i => match i with | 0 => some (0, 1) | 1 => some (1, 1) | 2 => some (2, 1) | _ => none) [.sl 0 [], .int .i64 0, .int .u64 0] := ⟨.agg #[.slice none 0 0, .int .i64 0, .int .u64 0], rfl, fun parts => by
  have h : Tryd.prog.built 74 parts = Instr.fill (#[(0, 1), (1, 1), (2, 1)][·]?) ((.agg #[.slice none 0 0, .int .i64 0, .int .u64 0] : Value)).cells parts := by kernel_rfl
  have hp : (fun i => (#[(0, 1), (1, 1), (2, 1)] : Array (Nat × Nat))[i]?) = (fun i => match i with | 0 => some (0, 1) | 1 => some (1, 1) | 2 => some (2, 1) | _ => none) := by
    funext i
    rcases i with _ | _ | _ | _ <;> rfl
  rw [h, hp]⟩
theorem one_3 : OneTy Tryd.prog 3 := oneTy_of Tryd.underlying3 rfl (by kernel_rfl)

end Go.Proofs.YtjbbijlbenkgcaaDoor.Dr5Ty
namespace Go.Proofs.YtjbbijlbenkgcaaDoor
open Go.RowKit Dr5Ty
set_option linter.unusedVariables false
set_option linter.unusedSimpArgs false

theorem mem_takeB {l : List Int} {k : Nat} {a b x : Int} (h : l.all (fun y => decide (a ≤ y ∧ y ≤ b)) = true) (hx : x ∈ l.take k) : a ≤ x ∧ x ≤ b := of_decide_eq_true (List.all_eq_true.1 h x (List.mem_of_mem_take hx))

set_option maxRecDepth 4000 in
set_option maxHeartbeats 4000000 in
theorem code5_c (code : List UInt8) (hcode : code.length ≤ 9223372036854775807) (a s : Int) (ha : 0 ≤ a) (ha2 : a ≤ 4611686018427000000) : MCalls Tryd.prog 92 false (some (.box 74 [.sl code.length (bytesP code), .int .i64 a, .int .u64 s])) [] fun rs cs => ∃ (l : List Int) (a2 s2 : Int), (l.length ≤ 13 ∧ ∀ x ∈ l, -1 ≤ x ∧ x ≤ 4611686018427387904) ∧ a ≤ a2 ∧ a2 ≤ a + 500 ∧ rs = [.own 0 3 1 l.length (l.map (.int .i64))] ∧ cs = [.sl code.length (bytesP code), .int .i64 a2, .int .u64 s2] := by
  refine mcalls_of_code (n := 45) az Tryd.func92 (by kernel_rfl) rfl rfl (Nat.le_of_ble_eq_true rfl) (by intro t u h; simp [Tryd.f92] at h) ?_
  refine code_seq (fun K1 hK1 => ?_)
  refine code_region ?_
  refine list_cons rfl (op_q (q_assign rfl (by decide)) ?_)
  refine list_nil ?_
  refine hK1 _ ?_; clear hK1 K1
  refine code_seq (fun K2 hK2 => ?_)
  refine code_region ?_
  refine list_cons rfl (op_buildSlice sl_24 (parts := []) rfl rfl rfl (by decide) (by decide) (by decide) rfl ?_)
  refine list_cons rfl (op_q (q_assign rfl (by decide)) ?_)
  refine list_nil ?_
  refine hK2 _ ?_; clear hK2 K2
  refine code_seq (fun K3 hK3 => ?_)
  refine code_seq (fun K4 hK4 => ?_)
  refine code_region ?_
  refine list_cons rfl (op_q (q_move rfl (by decide)) ?_)
  refine list_cons rfl (op_buildSlice sl_24 (parts := [(0, _), (1, _), (2, _), (3, _), (4, _), (5, _), (6, _), (7, _)]) rfl rfl rfl (by decide) (by decide) (by decide) rfl ?_)
  refine list_cons rfl (op_callM (among_c code ?_ _ _ ?_ ?_ ([4, 3, 6, 2, 1, 8, 10, 12]) (by decide) (by decide)) (.tmp 7) 2000 [0, 7] [.tmp 8] _ rfl rfl (by intro y hy; cases hy; exact ⟨rfl, (by intro t ht; simp only [List.mem_cons, List.not_mem_nil, or_false] at ht; rcases ht with rfl | rfl <;> rfl), (by intro s hs; simp only [List.mem_cons, List.not_mem_nil, or_false] at hs; subst hs; first | (simp [SV.labels]; done) | (simp [SV.labels, packS, SV.back]; done) | exact List.not_mem_nil)⟩) (by decide) (by decide) (by decide) rfl (fun _ => rfl) ?_)
  · first | assumption | omega | (simp; omega)
  · first | assumption | omega | (simp; omega)
  · first | assumption | omega | (simp; omega)
  rintro _ _ ⟨n0, a2, s2, hx, ha0, ha1, rfl, rfl⟩
  simp only [List.mem_cons, List.not_mem_nil, or_false] at hx
  refine list_cons rfl (op_q (q_assign rfl (by decide)) ?_)
  refine list_nil ?_
  refine hK4 _ ?_; clear hK4 K4
  refine codeT.imp (σ' := [(0, _), (2, _), (3, _), (4, _)]) ?_ (imp_covers ⟨rfl, rfl, rfl, rfl, trivial⟩)
  refine code_block ?_
  refine code_loop (X := List PV × PV × Nat × List PV × Int) (fun x => [(0, .box 2000 74 x.1), (2, .val x.2.1), (3, .own 6 3 1 x.2.2.1 x.2.2.2.1), (4, .val (.int .i64 x.2.2.2.2))]) (fun x => x.2.2.2.2 ≤ 12 ∧ ∃ (a1 s1 : Int) (l : List Int), x.1 = [.sl code.length (bytesP code), .int .i64 a1, .int .u64 s1] ∧ x.2.2.1 = l.length ∧ x.2.2.2.1 = l.map (.int .i64) ∧ a ≤ a1 ∧ a1 + 22 * max x.2.2.2.2 0 ≤ a + 270 ∧ (l.length : Int) + max x.2.2.2.2 0 ≤ 12 ∧ ∀ x ∈ l, -1 ≤ x ∧ x ≤ 4611686018427387904) (fun x => x.2.2.2.2.toNat) (_, _, _, _, _) (imp_covers ⟨rfl, rfl, rfl, rfl, trivial⟩) ?_ ?_
  · (try dsimp only)
    exact ⟨by omega, _, _, [], rfl, rfl, rfl, by omega, by omega, by simp only [List.length_nil]; omega, fun _ h => by simp at h⟩
  · intro x hI
    obtain ⟨c_c, t2_p, out_n, out_c, n⟩ := x
    replace hI : n ≤ 12 ∧ ∃ (a1 s1 : Int) (l : List Int), c_c = [.sl code.length (bytesP code), .int .i64 a1, .int .u64 s1] ∧ out_n = l.length ∧ out_c = l.map (.int .i64) ∧ a ≤ a1 ∧ a1 + 22 * max n 0 ≤ a + 270 ∧ (l.length : Int) + max n 0 ≤ 12 ∧ ∀ x ∈ l, -1 ≤ x ∧ x ≤ 4611686018427387904 := hI
    show codeT _ _ _ [(0, .box 2000 74 c_c), (2, .val t2_p), (3, .own 6 3 1 out_n out_c), (4, .val (.int .i64 n))] _
    obtain ⟨i0, a1, s1, l, rfl, rfl, rfl, i1, i2, i3, i4⟩ := hI
    refine code_seq (fun K5 hK5 => ?_)
    refine code_seq (fun K6 hK6 => ?_)
    refine code_region ?_
    refine list_cons rfl (op_q (q_move rfl (by decide)) ?_)
    refine list_cons rfl (op_q (q_gt rfl rfl (by decide)) ?_)
    refine list_nil ?_
    refine hK6 _ ?_; clear hK6 K6
    refine code_cond_d rfl (fun h1 => ?_) (fun h1 => ?_)
    · skip
      (try simp only [Decidable.not_not] at h1)
      refine code_skip ?_
      refine hK5 _ ?_; clear hK5 K5
      refine code_seq (fun K7 hK7 => ?_)
      refine code_block ?_
      refine code_seq (fun K8 hK8 => ?_)
      refine code_region ?_
      refine list_cons rfl (op_q (q_move rfl (by decide)) ?_)
      refine list_cons rfl (op_callM (cell_c code ?_ _ _ ?_ ?_) (.tmp 14) 2000 [0, 14] [] _ rfl rfl (by intro y hy; cases hy; exact ⟨rfl, (by intro t ht; simp only [List.mem_cons, List.not_mem_nil, or_false] at ht; rcases ht with rfl | rfl <;> rfl), (by intro s hs; simp only [List.mem_cons, List.not_mem_nil, or_false] at hs; (try cases hs))⟩) (by decide) (by decide) (by decide) rfl (fun _ => rfl) ?_)
      · first | assumption | omega | (simp; omega)
      · first | assumption | omega | (simp; omega)
      · first | assumption | omega | (simp; omega)
      rintro _ _ ⟨x, a2, s2, hx, ha0, ha1, rfl, rfl⟩
      refine list_cons rfl (op_q (q_assign rfl (by decide)) ?_)
      refine list_nil ?_
      refine hK8 _ ?_; clear hK8 K8
      refine codeT.imp (σ' := [(0, _), (2, _), (3, _), (4, _), (5, _)]) ?_ (imp_covers ⟨rfl, rfl, rfl, rfl, rfl, trivial⟩)
      refine code_seq (fun K9 hK9 => ?_)
      refine code_region ?_
      refine list_cons rfl (op_q (q_move rfl (by decide)) ?_)
      refine list_cons rfl (op_q (q_move rfl (by decide)) ?_)
      refine list_cons rfl (op_call _ (spec_l1Has _ _ (by first | omega | (simp; omega))) rfl rfl (by decide) (by decide) (by decide) rfl ?_)
      rintro _ rfl
      refine list_cons rfl (op_q (by first | exact q_notd rfl (by decide) | exact q_not rfl (by decide)) ?_)
      refine list_cons rfl (op_q (q_move rfl (by decide)) ?_)
      refine list_guard_d rfl rfl rfl rfl (by decide) rfl (by decide) (fun h2 => ?_) (fun h2 => ?_)
      · simp only [Bool.false_eq_true, if_true, if_false, Decidable.not_not] at h2
        refine id (op_q (q_move rfl (by decide)) ?_)
        refine list_guard_y rfl rfl rfl rfl (by decide) rfl ?_
        refine id (op_callM (one_c code ?_ _ _ ?_ ?_ _) (.tmp 21) 2000 [0, 21] [_] _ rfl rfl (by intro y hy; cases hy; exact ⟨rfl, (by intro t ht; simp only [List.mem_cons, List.not_mem_nil, or_false] at ht; rcases ht with rfl | rfl <;> rfl), (by intro s hs; simp only [List.mem_cons, List.not_mem_nil, or_false] at hs; subst hs; first | (simp [SV.labels]; done) | (simp [SV.labels, packS, SV.back]; done) | exact List.not_mem_nil)⟩) (by decide) (by decide) (by decide) rfl (fun _ => rfl) ?_)
        · first | assumption | omega | (simp; omega)
        · first | assumption | omega | (simp; omega)
        · first | assumption | omega | (simp; omega)
        rintro _ _ ⟨o, a2, s2, ha0, ha1, rfl, rfl⟩
        refine list_cons rfl (op_q (q_pick rfl rfl (by decide)) ?_)
        refine list_nil ?_
        refine hK9 _ ?_; clear hK9 K9
        refine codeT.imp (σ' := [(0, _), (2, _), (3, _), (4, _), (5, _), (23, _)]) ?_ (imp_covers ⟨rfl, rfl, rfl, rfl, rfl, rfl, trivial⟩)
        refine code_cond_d rfl (fun h3 => ?_) (fun h3 => ?_)
        · skip
          (try simp only [Decidable.not_not] at h3)
          refine code_region ?_
          refine list_cons rfl (op_q (q_move rfl (by decide)) ?_)
          refine list_cons rfl (op_q (q_move rfl (by decide)) ?_)
          refine list_cons rfl (op_buildSlice sl_24 (parts := [(0, .tmp 25)]) rfl rfl rfl (by decide) (by decide) (by decide) rfl ?_)
          refine list_cons rfl (op_append_gen sl_24 (l := 6) (.inl rfl) rfl rfl (l2 := none) (.inl ⟨rfl, (by first | rfl | exact flat_map _ (fun _ => rfl) _)⟩) (by first | rfl | simp | omega) (by omega) (by decide) (by decide) (by decide) ?_)
          refine list_cons rfl (op_q (q_assign rfl (by decide)) ?_)
          refine list_nil ?_
          refine blk_n ?_
          refine hK7 _ ?_; clear hK7 K7
          refine codeT.imp (σ' := [(0, _), (2, _), (3, _), (4, _), (5, _)]) ?_ (imp_covers ⟨rfl, rfl, rfl, rfl, rfl, trivial⟩)
          refine code_region ?_
          refine list_cons rfl (op_q (q_move rfl (by decide)) ?_)
          refine list_cons rfl (op_q (by first | exact q_subI rfl rfl (by decide) (by omega) (by omega) | exact q_ib rfl rfl rfl (by decide)) ?_)
          refine list_cons rfl (op_q (q_assign rfl (by decide)) ?_)
          refine list_nil ?_
          refine then_n ⟨(_, _, _, _, _), imp_covers ⟨rfl, rfl, rfl, rfl, trivial⟩, ?_, ?_⟩
          · (try dsimp only)
            first
            | (refine ⟨by omega, _, _, l ++ [x], rfl, by simp, by simp; rfl, by omega, by omega, by simp only [List.length_append, List.length_cons, List.length_nil]; omega, fun y hy => ?_⟩
               rcases List.mem_append.1 hy with hy | hy
               · exact i4 y hy
               · simp only [List.mem_singleton] at hy; subst hy; omega)
            | exact ⟨by omega, _, _, l, rfl, rfl, rfl, by omega, by omega, by omega, i4⟩
          · (try dsimp only); omega
        (try simp only [Decidable.not_not] at h3)
        refine code_skip ?_
        refine blk_n ?_
        refine hK7 _ ?_; clear hK7 K7
        refine code_region ?_
        refine list_cons rfl (op_q (q_move rfl (by decide)) ?_)
        refine list_cons rfl (op_q (by first | exact q_subI rfl rfl (by decide) (by omega) (by omega) | exact q_ib rfl rfl rfl (by decide)) ?_)
        refine list_cons rfl (op_q (q_assign rfl (by decide)) ?_)
        refine list_nil ?_
        refine then_n ⟨(_, _, _, _, _), imp_covers ⟨rfl, rfl, rfl, rfl, trivial⟩, ?_, ?_⟩
        · (try dsimp only)
          first
          | (refine ⟨by omega, _, _, l ++ [x], rfl, by simp, by simp; rfl, by omega, by omega, by simp only [List.length_append, List.length_cons, List.length_nil]; omega, fun y hy => ?_⟩
             rcases List.mem_append.1 hy with hy | hy
             · exact i4 y hy
             · simp only [List.mem_singleton] at hy; subst hy; omega)
          | exact ⟨by omega, _, _, l, rfl, rfl, rfl, by omega, by omega, by omega, i4⟩
        · (try dsimp only); omega
      simp only [Bool.false_eq_true, if_true, if_false, Decidable.not_not] at h2
      refine list_guard_n rfl rfl rfl rfl (by decide) rfl ?_
      refine list_cons rfl (op_q (q_pick rfl rfl (by decide)) ?_)
      refine list_nil ?_
      refine hK9 _ ?_; clear hK9 K9
      refine code_cond_t rfl ?_
      refine code_region ?_
      refine list_cons rfl (op_q (q_move rfl (by decide)) ?_)
      refine list_cons rfl (op_q (q_move rfl (by decide)) ?_)
      refine list_cons rfl (op_buildSlice sl_24 (parts := [(0, .tmp 25)]) rfl rfl rfl (by decide) (by decide) (by decide) rfl ?_)
      refine list_cons rfl (op_append_gen sl_24 (l := 6) (.inl rfl) rfl rfl (l2 := none) (.inl ⟨rfl, (by first | rfl | exact flat_map _ (fun _ => rfl) _)⟩) (by first | rfl | simp | omega) (by omega) (by decide) (by decide) (by decide) ?_)
      refine list_cons rfl (op_q (q_assign rfl (by decide)) ?_)
      refine list_nil ?_
      refine blk_n ?_
      refine hK7 _ ?_; clear hK7 K7
      refine codeT.imp (σ' := [(0, _), (2, _), (3, _), (4, _), (5, _)]) ?_ (imp_covers ⟨rfl, rfl, rfl, rfl, rfl, trivial⟩)
      refine code_region ?_
      refine list_cons rfl (op_q (q_move rfl (by decide)) ?_)
      refine list_cons rfl (op_q (by first | exact q_subI rfl rfl (by decide) (by omega) (by omega) | exact q_ib rfl rfl rfl (by decide)) ?_)
      refine list_cons rfl (op_q (q_assign rfl (by decide)) ?_)
      refine list_nil ?_
      refine then_n ⟨(_, _, _, _, _), imp_covers ⟨rfl, rfl, rfl, rfl, trivial⟩, ?_, ?_⟩
      · (try dsimp only)
        first
        | (refine ⟨by omega, _, _, l ++ [x], rfl, by simp, by simp; rfl, by omega, by omega, by simp only [List.length_append, List.length_cons, List.length_nil]; omega, fun y hy => ?_⟩
           rcases List.mem_append.1 hy with hy | hy
           · exact i4 y hy
           · simp only [List.mem_singleton] at hy; subst hy; omega)
        | exact ⟨by omega, _, _, l, rfl, rfl, rfl, by omega, by omega, by omega, i4⟩
      · (try dsimp only); omega
    (try simp only [Decidable.not_not] at h1)
    refine code_exit ?_
    refine then_x ?_; clear hK5 K5
    refine then_x ?_
    refine blk_hit ?_
    refine hK3 _ ?_; clear hK3 K3
    refine code_seq (fun K10 hK10 => ?_)
    refine code_seq (fun K11 hK11 => ?_)
    refine code_region ?_
    refine list_cons rfl (op_q (q_move rfl (by decide)) ?_)
    refine list_cons rfl (op_callM (pick_c code ?_ _ _ ?_ ?_ _) (.tmp 28) 2000 [0, 28] [_] _ rfl rfl (by intro y hy; cases hy; exact ⟨rfl, (by intro t ht; simp only [List.mem_cons, List.not_mem_nil, or_false] at ht; rcases ht with rfl | rfl <;> rfl), (by intro s hs; simp only [List.mem_cons, List.not_mem_nil, or_false] at hs; subst hs; first | (simp [SV.labels]; done) | (simp [SV.labels, packS, SV.back]; done) | exact List.not_mem_nil)⟩) (by decide) (by decide) (by decide) rfl (fun _ => rfl) ?_)
    · first | assumption | omega | (simp; omega)
    · first | assumption | omega | (simp; omega)
    · first | assumption | omega | (simp; omega)
    rintro _ _ ⟨b, a2, s2, hb0, hb1, ha0, ha1, rfl, rfl⟩
    try have hp2 := p2_64 (k := b.toNat) (by omega)
    refine list_nil ?_
    refine hK11 _ ?_; clear hK11 K11
    refine codeT.imp (σ' := [(0, _), (2, _), (3, _), (4, _), (29, _)]) ?_ (imp_covers ⟨rfl, rfl, rfl, rfl, rfl, trivial⟩)
    refine code_block ?_
    refine code_seq (fun K12 hK12 => ?_)
    refine code_region ?_
    refine list_cons rfl (op_q (q_eq rfl rfl (by decide)) ?_)
    refine list_cons rfl (op_q (q_assign rfl (by decide)) ?_)
    refine list_nil ?_
    refine hK12 _ ?_; clear hK12 K12
    refine code_cond_d rfl (fun h4 => ?_) (fun h4 => ?_)
    · skip
      (try simp only [Decidable.not_not] at h4)
      refine code_seq (fun K13 hK13 => ?_)
      refine code_region ?_
      refine list_cons rfl (op_buildSlice sl_24 (parts := []) rfl rfl rfl (by decide) (by decide) (by decide) rfl ?_)
      refine list_cons rfl (op_q (q_assign rfl (by decide)) ?_)
      refine list_nil ?_
      refine hK13 _ ?_; clear hK13 K13
      refine code_ret ?_
      refine blk_r ?_
      refine then_r ?_; clear hK10 K10
      refine ends_ret (cs := _) rfl rfl rfl rfl rfl ?_
      first | exact ⟨[], _, _, ⟨by simp, by simp⟩, by omega, by omega, rfl, rfl⟩ | exact ⟨l, _, _, ⟨by omega, j2⟩, by omega, by omega, rfl, rfl⟩ | exact ⟨l, _, _, ⟨by omega, i4⟩, by omega, by omega, rfl, rfl⟩
    (try simp only [Decidable.not_not] at h4)
    refine code_seq (fun K14 hK14 => ?_)
    refine code_region ?_
    refine list_cons rfl (op_q (q_eq rfl rfl (by decide)) ?_)
    refine list_cons rfl (op_q (q_assign rfl (by decide)) ?_)
    refine list_nil ?_
    refine hK14 _ ?_; clear hK14 K14
    refine code_cond_d rfl (fun h5 => ?_) (fun h5 => ?_)
    · skip
      (try simp only [Decidable.not_not] at h5)
      refine code_block ?_
      refine code_loop (X := PV × Nat × List PV × Int × Int) (fun x => [(0, .box 2000 74 [.sl code.length (bytesP code), .int .i64 a2, .int .u64 s2]), (2, .val x.1), (3, .own 6 3 1 x.2.1 x.2.2.1), (4, .val (.int .i64 x.2.2.2.1)), (29, .val (.int .i64 x.2.2.2.2))]) (fun x => ∃ l : List Int, x.2.1 = l.length ∧ x.2.2.1 = l.map (.int .i64) ∧ l.length ≤ 13 ∧ ∀ x ∈ l, -1 ≤ x ∧ x ≤ 4611686018427387904) (fun x => (13 - x.2.1)) (_, _, _, _, _) (imp_covers ⟨rfl, rfl, rfl, rfl, rfl, trivial⟩) ?_ ?_
      · (try dsimp only)
        exact ⟨l, rfl, rfl, by omega, i4⟩
      · intro x hI
        obtain ⟨t2_p, out_n, out_c, n, t29⟩ := x
        replace hI : ∃ l : List Int, out_n = l.length ∧ out_c = l.map (.int .i64) ∧ l.length ≤ 13 ∧ ∀ x ∈ l, -1 ≤ x ∧ x ≤ 4611686018427387904 := hI
        show codeT _ _ _ [(0, .box 2000 74 [.sl code.length (bytesP code), .int .i64 a2, .int .u64 s2]), (2, .val t2_p), (3, .own 6 3 1 out_n out_c), (4, .val (.int .i64 n)), (29, .val (.int .i64 t29))] _
        obtain ⟨l, rfl, rfl, j1, j2⟩ := hI
        refine code_seq (fun K15 hK15 => ?_)
        refine code_seq (fun K16 hK16 => ?_)
        refine code_region ?_
        refine list_cons rfl (op_q (q_move rfl (by decide)) ?_)
        refine list_cons rfl (op_q (q_len_sl Tryd.underlying24 rfl rfl (by decide)) ?_)
        refine list_cons rfl (op_q (q_lt rfl rfl (by decide)) ?_)
        refine list_nil ?_
        refine hK16 _ ?_; clear hK16 K16
        refine code_cond_d rfl (fun h6 => ?_) (fun h6 => ?_)
        · skip
          (try simp only [Decidable.not_not] at h6)
          refine code_skip ?_
          refine hK15 _ ?_; clear hK15 K15
          refine code_block ?_
          refine code_region ?_
          refine list_cons rfl (op_q (q_move rfl (by decide)) ?_)
          refine list_cons rfl (op_q (q_move rfl (by decide)) ?_)
          refine list_cons rfl (op_q (q_len_sl Tryd.underlying24 rfl rfl (by decide)) ?_)
          refine list_cons rfl (op_q (by first | exact q_addI rfl rfl (by decide) (by omega) (by omega) | exact q_ib rfl rfl rfl (by decide)) ?_)
          refine list_cons rfl (op_buildSlice sl_24 (parts := [(0, .tmp 41)]) rfl rfl rfl (by decide) (by decide) (by decide) rfl ?_)
          refine list_cons rfl (op_append_gen sl_24 (l := 6) (.inl rfl) rfl rfl (l2 := none) (.inl ⟨rfl, (by first | rfl | exact flat_map _ (fun _ => rfl) _)⟩) (by first | rfl | simp | omega) (by omega) (by decide) (by decide) (by decide) ?_)
          refine list_cons rfl (op_q (q_assign rfl (by decide)) ?_)
          refine list_nil ?_
          refine blk_n ?_
          refine then_n ⟨(_, _, _, _, _), imp_covers ⟨rfl, rfl, rfl, rfl, rfl, trivial⟩, ?_, ?_⟩
          · (try dsimp only)
            refine ⟨l ++ [20 + (l.length : Int)], by simp, by simp; rfl, by simp; omega, fun y hy => ?_⟩
            rcases List.mem_append.1 hy with hy | hy
            · exact j2 y hy
            · simp only [List.mem_singleton] at hy; subst hy; omega
          · (try dsimp only); omega
        (try simp only [Decidable.not_not] at h6)
        refine code_exit ?_
        refine then_x ?_; clear hK15 K15
        refine then_x ?_
        refine blk_hit ?_
        refine blk_n ?_
        refine hK10 _ ?_; clear hK10 K10
        refine codeT.imp (σ' := [(0, _), (2, _), (3, _), (4, _), (29, _)]) ?_ (imp_covers ⟨rfl, rfl, rfl, rfl, rfl, trivial⟩)
        refine code_seq (fun K17 hK17 => ?_)
        refine code_region ?_
        refine list_cons rfl (op_q (q_move rfl (by decide)) ?_)
        refine list_cons rfl (op_q (q_assign rfl (by decide)) ?_)
        refine list_nil ?_
        refine hK17 _ ?_; clear hK17 K17
        refine code_ret ?_
        refine ends_ret (cs := _) rfl rfl rfl rfl rfl ?_
        first | exact ⟨[], _, _, ⟨by simp, by simp⟩, by omega, by omega, rfl, rfl⟩ | exact ⟨l, _, _, ⟨by omega, j2⟩, by omega, by omega, rfl, rfl⟩ | exact ⟨l, _, _, ⟨by omega, i4⟩, by omega, by omega, rfl, rfl⟩
    (try simp only [Decidable.not_not] at h5)
    refine code_skip ?_
    refine blk_n ?_
    refine hK10 _ ?_; clear hK10 K10
    refine code_seq (fun K18 hK18 => ?_)
    refine code_region ?_
    refine list_cons rfl (op_q (q_move rfl (by decide)) ?_)
    refine list_cons rfl (op_q (q_assign rfl (by decide)) ?_)
    refine list_nil ?_
    refine hK18 _ ?_; clear hK18 K18
    refine code_ret ?_
    refine ends_ret (cs := _) rfl rfl rfl rfl rfl ?_
    first | exact ⟨[], _, _, ⟨by simp, by simp⟩, by omega, by omega, rfl, rfl⟩ | exact ⟨l, _, _, ⟨by omega, j2⟩, by omega, by omega, rfl, rfl⟩ | exact ⟨l, _, _, ⟨by omega, i4⟩, by omega, by omega, rfl, rfl⟩

theorem amongT_c (code : List UInt8) (hcode : code.length ≤ 9223372036854775807) (a s : Int) (ha : 0 ≤ a) (ha2 : a ≤ 4611686018427387900) (l : List Int) (k : Nat) (hk : 0 < k) (hk2 : k ≤ l.length) (hl2 : l.length ≤ 4611686018427387904) : MCalls Tryd.prog 66 false (some (.box 74 [.sl code.length (bytesP code), .int .i64 a, .int .u64 s])) [.sl (k - Int.toNat 0) (List.take ((k - Int.toNat 0) * 1) (List.drop (Int.toNat 0 * 1) (l.map (.int .i64))))] fun rs cs => ∃ (x : Int) (a2 s2 : Int), x ∈ l.take k ∧ a ≤ a2 ∧ a2 ≤ a + 2 ∧ rs = [.val (.int .i64 x)] ∧ cs = [.sl code.length (bytesP code), .int .i64 a2, .int .u64 s2] := by
  have h := among_c code hcode a s ha ha2 (l.take k) (by simp; omega) (by simp; omega)
  have e : (l.take k).length = k := by simp; omega
  rw [e, List.map_take] at h
  rw [show k - Int.toNat 0 = k from rfl, show Int.toNat 0 * 1 = 0 from rfl, List.drop_zero, Nat.mul_one]
  exact h

set_option maxRecDepth 4000 in
set_option maxHeartbeats 4000000 in
theorem DrawIsCode_c (code : List UInt8) (hcode : code.length ≤ 9223372036854775807) : MCalls Tryd.prog 87 true none [.sl code.length (bytesP code)] fun rs _ => ∃ l : List Int, (l.length ≤ 13 ∧ ∀ x ∈ l, -1 ≤ x ∧ x ≤ 4611686018427387904) ∧ rs = [.own 0 3 1 l.length (l.map (.int .i64))] := by
  refine mcalls_of_code (n := 9) az Tryd.func87 (by kernel_rfl) rfl rfl (Nat.le_of_ble_eq_true rfl) (by intro t u h; simp [Tryd.f87] at h) ?_
  refine code_seq (fun K1 hK1 => ?_)
  refine code_region ?_
  refine list_cons rfl (op_q (q_assign rfl (by decide)) ?_)
  refine list_nil ?_
  refine hK1 _ ?_; clear hK1 K1
  refine code_seq (fun K2 hK2 => ?_)
  refine code_region ?_
  refine list_cons rfl (op_q (q_move rfl (by decide)) ?_)
  refine list_cons rfl (op_q (q_build_ext bt_74 (parts := [(0, .tmp 4)]) rfl rfl (by decide)) ?_)
  refine list_cons rfl (op_box rfl (.inr rfl) (by decide) (by decide) rfl ?_)
  refine list_cons rfl (op_q (q_assign rfl (by decide)) ?_)
  refine list_nil ?_
  refine hK2 _ ?_; clear hK2 K2
  refine code_seq (fun K3 hK3 => ?_)
  refine code_region ?_
  refine list_cons rfl (op_q (q_move rfl (by decide)) ?_)
  refine list_cons rfl (op_callM (code5_c code ?_ _ _ ?_ ?_) (.tmp 7) 6 [6, 3, 7] [] _ rfl rfl (by intro y hy; cases hy; exact ⟨rfl, (by intro t ht; simp only [List.mem_cons, List.not_mem_nil, or_false] at ht; rcases ht with rfl | rfl | rfl <;> rfl), (by intro s hs; simp only [List.mem_cons, List.not_mem_nil, or_false] at hs; (try cases hs))⟩) (by decide) (by decide) (by decide) rfl (fun _ => rfl) ?_)
  · first | assumption | omega | (simp; omega)
  · first | assumption | omega | (simp; omega)
  · first | assumption | omega | (simp; omega)
  rintro _ _ ⟨l, a2, s2, ⟨hl1, hl2⟩, ha0, ha1, rfl, rfl⟩
  refine list_cons rfl (op_q (q_assign rfl (by decide)) ?_)
  refine list_nil ?_
  refine hK3 _ ?_; clear hK3 K3
  refine codeT.imp (σ' := [(0, _), (2, _), (3, _)]) ?_ (imp_covers ⟨rfl, rfl, rfl, trivial⟩)
  refine code_ret ?_
  refine ends_ret (cs := []) rfl rfl rfl rfl trivial ?_
  exact ⟨_, ⟨hl1, hl2⟩, rfl⟩

set_option maxRecDepth 4000 in
set_option maxHeartbeats 4000000 in
theorem DrawGapOf_c (code : List UInt8) (hcode : code.length ≤ 9223372036854775807) : MCalls Tryd.prog 21 true none [.sl code.length (bytesP code)] fun rs _ => ∃ l : List Int, (l.length ≤ 13 ∧ ∀ x ∈ l, -1 ≤ x ∧ x ≤ 4611686018427387904) ∧ rs = [.own 0 3 1 l.length (l.map (.int .i64))] := by
  refine mcalls_of_code (n := 5) az Tryd.func21 (by kernel_rfl) rfl rfl (Nat.le_of_ble_eq_true rfl) (by intro t u h; simp [Tryd.f21] at h) ?_
  refine code_seq (fun K1 hK1 => ?_)
  refine code_region ?_
  refine list_cons rfl (op_q (q_assign rfl (by decide)) ?_)
  refine list_nil ?_
  refine hK1 _ ?_; clear hK1 K1
  refine code_seq (fun K2 hK2 => ?_)
  refine code_region ?_
  refine list_cons rfl (op_q (q_move rfl (by decide)) ?_)
  refine list_cons rfl (op_callM (DrawIsCode_c _ ?_) (.tmp 0) 0 [] [.tmp 3] _ rfl rfl (by intro y hy; cases hy) (by decide) (by decide) (by decide) rfl (by intro h; cases h) ?_)
  · first | assumption | omega | (simp; omega)
  rintro _ _ ⟨l, ⟨hl1, hl2⟩, rfl⟩
  refine list_cons rfl (op_q (q_assign rfl (by decide)) ?_)
  refine list_nil ?_
  refine hK2 _ ?_; clear hK2 K2
  refine codeT.imp (σ' := [(0, _), (2, _)]) ?_ (imp_covers ⟨rfl, rfl, trivial⟩)
  refine code_ret ?_
  refine ends_ret (cs := []) rfl rfl rfl rfl trivial ?_
  exact ⟨_, ⟨hl1, hl2⟩, rfl⟩

set_option maxRecDepth 4000 in
set_option maxHeartbeats 4000000 in
theorem DrawFlipCode_c (code : List UInt8) (hcode : code.length ≤ 9223372036854775807) : MCalls Tryd.prog 30 true none [.sl code.length (bytesP code)] fun rs _ => ∃ (l : List Int) (x : Int), (l.length ≤ 13 ∧ ∀ x ∈ l, -1 ≤ x ∧ x ≤ 4611686018427387904) ∧ (-1 ≤ x ∧ x ≤ 4611686018427387904) ∧ rs = [.own 0 3 1 l.length (l.map (.int .i64)), .val (.int .i64 x)] := by
  refine mcalls_of_code (n := 12) az Tryd.func30 (by kernel_rfl) rfl rfl (Nat.le_of_ble_eq_true rfl) (by intro t u h; simp [Tryd.f30] at h) ?_
  refine code_seq (fun K1 hK1 => ?_)
  refine code_region ?_
  refine list_cons rfl (op_q (q_assign rfl (by decide)) ?_)
  refine list_cons rfl (op_q (q_assign rfl (by decide)) ?_)
  refine list_nil ?_
  refine hK1 _ ?_; clear hK1 K1
  refine code_seq (fun K2 hK2 => ?_)
  refine code_region ?_
  refine list_cons rfl (op_q (q_move rfl (by decide)) ?_)
  refine list_cons rfl (op_q (q_build_ext bt_74 (parts := [(0, .tmp 5)]) rfl rfl (by decide)) ?_)
  refine list_cons rfl (op_box rfl (.inr rfl) (by decide) (by decide) rfl ?_)
  refine list_cons rfl (op_q (q_assign rfl (by decide)) ?_)
  refine list_nil ?_
  refine hK2 _ ?_; clear hK2 K2
  refine code_seq (fun K3 hK3 => ?_)
  refine code_region ?_
  refine list_cons rfl (op_q (q_move rfl (by decide)) ?_)
  refine list_cons rfl (op_callM (code5_c code ?_ _ _ ?_ ?_) (.tmp 8) 7 [7, 4, 8] [] _ rfl rfl (by intro y hy; cases hy; exact ⟨rfl, (by intro t ht; simp only [List.mem_cons, List.not_mem_nil, or_false] at ht; rcases ht with rfl | rfl | rfl <;> rfl), (by intro s hs; simp only [List.mem_cons, List.not_mem_nil, or_false] at hs; (try cases hs))⟩) (by decide) (by decide) (by decide) rfl (fun _ => rfl) ?_)
  · first | assumption | omega | (simp; omega)
  · first | assumption | omega | (simp; omega)
  · first | assumption | omega | (simp; omega)
  rintro _ _ ⟨l, a2, s2, ⟨hl1, hl2⟩, ha0, ha1, rfl, rfl⟩
  refine list_cons rfl (op_q (q_move rfl (by decide)) ?_)
  refine list_cons rfl (op_callM (cell_c code ?_ _ _ ?_ ?_) (.tmp 10) 7 [7, 4, 8, 10] [] _ rfl rfl (by intro y hy; cases hy; exact ⟨rfl, (by intro t ht; simp only [List.mem_cons, List.not_mem_nil, or_false] at ht; rcases ht with rfl | rfl | rfl | rfl <;> rfl), (by intro s hs; simp only [List.mem_cons, List.not_mem_nil, or_false] at hs; (try cases hs))⟩) (by decide) (by decide) (by decide) rfl (fun _ => rfl) ?_)
  · first | assumption | omega | (simp; omega)
  · first | assumption | omega | (simp; omega)
  · first | assumption | omega | (simp; omega)
  rintro _ _ ⟨x, a2, s2, hx, ha0, ha1, rfl, rfl⟩
  refine list_cons rfl (op_q (q_assign rfl (by decide)) ?_)
  refine list_cons rfl (op_q (q_assign rfl (by decide)) ?_)
  refine list_nil ?_
  refine hK3 _ ?_; clear hK3 K3
  refine codeT.imp (σ' := [(0, _), (2, _), (3, _), (4, _)]) ?_ (imp_covers ⟨rfl, rfl, rfl, rfl, trivial⟩)
  refine code_ret ?_
  refine ends_ret (cs := []) rfl rfl rfl rfl trivial ?_
  exact ⟨_, _, ⟨hl1, hl2⟩, by omega, rfl⟩

set_option maxRecDepth 4000 in
set_option maxHeartbeats 4000000 in
theorem DrawSpreadPart_c (code : List UInt8) (hcode : code.length ≤ 9223372036854775807) : MCalls Tryd.prog 94 true none [.sl code.length (bytesP code)] fun rs _ => ∃ (l : List Int) (x : Int), (l.length ≤ 13 ∧ ∀ x ∈ l, -1 ≤ x ∧ x ≤ 4611686018427387904) ∧ (0 ≤ x ∧ x ≤ 8) ∧ rs = [.own 0 3 1 l.length (l.map (.int .i64)), .val (.int .i64 x)] := by
  refine mcalls_of_code (n := 18) az Tryd.func94 (by kernel_rfl) rfl rfl (Nat.le_of_ble_eq_true rfl) (by intro t u h; simp [Tryd.f94] at h) ?_
  refine code_seq (fun K1 hK1 => ?_)
  refine code_region ?_
  refine list_cons rfl (op_q (q_assign rfl (by decide)) ?_)
  refine list_cons rfl (op_q (q_assign rfl (by decide)) ?_)
  refine list_nil ?_
  refine hK1 _ ?_; clear hK1 K1
  refine code_seq (fun K2 hK2 => ?_)
  refine code_region ?_
  refine list_cons rfl (op_q (q_move rfl (by decide)) ?_)
  refine list_cons rfl (op_q (q_build_ext bt_74 (parts := [(0, .tmp 5)]) rfl rfl (by decide)) ?_)
  refine list_cons rfl (op_box rfl (.inr rfl) (by decide) (by decide) rfl ?_)
  refine list_cons rfl (op_q (q_assign rfl (by decide)) ?_)
  refine list_nil ?_
  refine hK2 _ ?_; clear hK2 K2
  refine code_seq (fun K3 hK3 => ?_)
  refine code_region ?_
  refine list_cons rfl (op_q (q_move rfl (by decide)) ?_)
  refine list_cons rfl (op_callM (code5_c code ?_ _ _ ?_ ?_) (.tmp 8) 7 [7, 4, 8] [] _ rfl rfl (by intro y hy; cases hy; exact ⟨rfl, (by intro t ht; simp only [List.mem_cons, List.not_mem_nil, or_false] at ht; rcases ht with rfl | rfl | rfl <;> rfl), (by intro s hs; simp only [List.mem_cons, List.not_mem_nil, or_false] at hs; (try cases hs))⟩) (by decide) (by decide) (by decide) rfl (fun _ => rfl) ?_)
  · first | assumption | omega | (simp; omega)
  · first | assumption | omega | (simp; omega)
  · first | assumption | omega | (simp; omega)
  rintro _ _ ⟨l, a2, s2, ⟨hl1, hl2⟩, ha0, ha1, rfl, rfl⟩
  refine list_cons rfl (op_q (q_move rfl (by decide)) ?_)
  refine list_cons rfl (op_buildSlice sl_24 (parts := [(0, _), (1, _), (2, _), (3, _), (4, _), (5, _), (6, _)]) rfl rfl rfl (by decide) (by decide) (by decide) rfl ?_)
  refine list_cons rfl (op_q (q_move rfl (by decide)) ?_)
  refine list_cons rfl (op_callM (pick_c code ?_ _ _ ?_ ?_ _) (.tmp 12) 7 [7, 4, 8, 10, 12] [_] _ rfl rfl (by intro y hy; cases hy; exact ⟨rfl, (by intro t ht; simp only [List.mem_cons, List.not_mem_nil, or_false] at ht; rcases ht with rfl | rfl | rfl | rfl | rfl <;> rfl), (by intro s hs; simp only [List.mem_cons, List.not_mem_nil, or_false] at hs; subst hs; first | (simp [SV.labels]; done) | (simp [SV.labels, packS, SV.back]; done) | exact List.not_mem_nil)⟩) (by decide) (by decide) (by decide) rfl (fun _ => rfl) ?_)
  · first | assumption | omega | (simp; omega)
  · first | assumption | omega | (simp; omega)
  · first | assumption | omega | (simp; omega)
  rintro _ _ ⟨b, a2, s2, hb0, hb1, ha0, ha1, rfl, rfl⟩
  try have hp2 := p2_64 (k := b.toNat) (by omega)
  refine list_cons rfl (op_q (by first | exact q_quoI rfl rfl (by decide) (by omega) (by omega) (by omega) | exact q_quoT rfl rfl (by omega) (by decide) (by omega) (by omega) | exact q_quo rfl rfl (by omega) (by decide)) ?_)
  refine list_cons rfl (op_q (by first | exact q_addI rfl rfl (by decide) (by omega) (by omega) | exact q_ib rfl rfl rfl (by decide)) ?_)
  refine list_cons rfl (op_q (q_slice_sl sl_24 rfl rfl rfl ⟨_, rfl⟩ (by omega) (by omega) (by omega) rfl (by decide)) ?_)
  refine list_cons rfl (op_callM (amongT_c code ?_ _ _ ?_ ?_ [2, 3, 4, 1, 7, 0, 8] (5 + b / 11).toNat (by omega) (by show _ ≤ 7; omega) (by decide)) (.tmp 10) 7 [7, 4, 8, 10, 12] [.tmp 16] _ rfl rfl (by intro y hy; cases hy; exact ⟨rfl, (by intro t ht; simp only [List.mem_cons, List.not_mem_nil, or_false] at ht; rcases ht with rfl | rfl | rfl | rfl | rfl <;> rfl), (by intro s hs; simp only [List.mem_cons, List.not_mem_nil, or_false] at hs; subst hs; first | (simp [SV.labels]; done) | (simp [SV.labels, packS, SV.back]; done) | exact List.not_mem_nil)⟩) (by decide) (by decide) (by decide) rfl (fun _ => rfl) ?_)
  · first | assumption | omega | (simp; omega)
  · first | assumption | omega | (simp; omega)
  · first | assumption | omega | (simp; omega)
  rintro _ _ ⟨x, a2, s2, hx, ha0, ha1, rfl, rfl⟩
  have hxb := mem_takeB (a := 0) (b := 8) (by decide) hx
  refine list_cons rfl (op_q (q_assign rfl (by decide)) ?_)
  refine list_cons rfl (op_q (q_assign rfl (by decide)) ?_)
  refine list_nil ?_
  refine hK3 _ ?_; clear hK3 K3
  refine codeT.imp (σ' := [(0, _), (2, _), (3, _), (4, _)]) ?_ (imp_covers ⟨rfl, rfl, rfl, rfl, trivial⟩)
  refine code_ret ?_
  refine ends_ret (cs := []) rfl rfl rfl rfl trivial ?_
  exact ⟨_, _, ⟨hl1, hl2⟩, by omega, rfl⟩

set_option maxRecDepth 4000 in
set_option maxHeartbeats 4000000 in
theorem DrawCountFar_c (code : List UInt8) (hcode : code.length ≤ 9223372036854775807) : MCalls Tryd.prog 33 true none [.sl code.length (bytesP code)] fun rs _ => ∃ (l : List Int) (x : Int), (l.length ≤ 13 ∧ ∀ x ∈ l, -1 ≤ x ∧ x ≤ 4611686018427387904) ∧ (0 ≤ x ∧ x ≤ 8) ∧ rs = [.own 0 3 1 l.length (l.map (.int .i64)), .val (.int .i64 x)] := by
  refine mcalls_of_code (n := 8) az Tryd.func33 (by kernel_rfl) rfl rfl (Nat.le_of_ble_eq_true rfl) (by intro t u h; simp [Tryd.f33] at h) ?_
  refine code_seq (fun K1 hK1 => ?_)
  refine code_region ?_
  refine list_cons rfl (op_q (q_assign rfl (by decide)) ?_)
  refine list_cons rfl (op_q (q_assign rfl (by decide)) ?_)
  refine list_nil ?_
  refine hK1 _ ?_; clear hK1 K1
  refine code_seq (fun K2 hK2 => ?_)
  refine code_region ?_
  refine list_cons rfl (op_q (q_move rfl (by decide)) ?_)
  refine list_cons rfl (op_callM (DrawSpreadPart_c _ ?_) (.tmp 0) 0 [] [.tmp 4] _ rfl rfl (by intro y hy; cases hy) (by decide) (by decide) (by decide) rfl (by intro h; cases h) ?_)
  · first | assumption | omega | (simp; omega)
  rintro _ _ ⟨l, x, ⟨hl1, hl2⟩, hx, rfl⟩
  refine list_cons rfl (op_q (q_extract rfl rfl (by decide)) ?_)
  refine list_cons rfl (op_q (q_extract rfl rfl (by decide)) ?_)
  refine list_cons rfl (op_q (q_assign rfl (by decide)) ?_)
  refine list_cons rfl (op_q (q_assign rfl (by decide)) ?_)
  refine list_nil ?_
  refine hK2 _ ?_; clear hK2 K2
  refine codeT.imp (σ' := [(0, _), (2, _), (3, _)]) ?_ (imp_covers ⟨rfl, rfl, rfl, trivial⟩)
  refine code_ret ?_
  refine ends_ret (cs := []) rfl rfl rfl rfl trivial ?_
  exact ⟨_, _, ⟨hl1, hl2⟩, by omega, rfl⟩

set_option maxRecDepth 4000 in
set_option maxHeartbeats 4000000 in
theorem DrawDigitCode_c (code : List UInt8) (hcode : code.length ≤ 9223372036854775807) : MCalls Tryd.prog 36 true none [.sl code.length (bytesP code)] fun rs _ => ∃ l : List Int, (l.length ≤ 10 ∧ ∀ x ∈ l, -1 ≤ x ∧ x ≤ 4611686018427387904) ∧ rs = [.own 0 3 1 l.length (l.map (.int .i64))] := by
  refine mcalls_of_code (n := 45) az Tryd.func36 (by kernel_rfl) rfl rfl (Nat.le_of_ble_eq_true rfl) (by intro t u h; simp [Tryd.f36] at h) ?_
  refine code_seq (fun K1 hK1 => ?_)
  refine code_region ?_
  refine list_cons rfl (op_q (q_assign rfl (by decide)) ?_)
  refine list_nil ?_
  refine hK1 _ ?_; clear hK1 K1
  refine code_seq (fun K2 hK2 => ?_)
  refine code_region ?_
  refine list_cons rfl (op_q (q_move rfl (by decide)) ?_)
  refine list_cons rfl (op_q (q_build_ext bt_74 (parts := [(0, .tmp 7)]) rfl rfl (by decide)) ?_)
  refine list_cons rfl (op_box rfl (.inr rfl) (by decide) (by decide) rfl ?_)
  refine list_cons rfl (op_q (q_assign rfl (by decide)) ?_)
  refine list_nil ?_
  refine hK2 _ ?_; clear hK2 K2
  refine code_seq (fun K3 hK3 => ?_)
  refine code_region ?_
  refine list_cons rfl (op_buildSlice sl_24 (parts := []) rfl rfl rfl (by decide) (by decide) (by decide) rfl ?_)
  refine list_cons rfl (op_q (q_assign rfl (by decide)) ?_)
  refine list_nil ?_
  refine hK3 _ ?_; clear hK3 K3
  refine code_seq (fun K4 hK4 => ?_)
  refine code_seq (fun K5 hK5 => ?_)
  refine code_region ?_
  refine list_cons rfl (op_q (q_move rfl (by decide)) ?_)
  refine list_cons rfl (op_buildSlice sl_24 (parts := [(0, _), (1, _), (2, _), (3, _), (4, _), (5, _), (6, _)]) rfl rfl rfl (by decide) (by decide) (by decide) rfl ?_)
  refine list_cons rfl (op_callM (among_c code ?_ _ _ ?_ ?_ ([4, 3, 6, 2, 1, 10, 0]) (by decide) (by decide)) (.tmp 11) 9 [9, 3, 11] [.tmp 12] _ rfl rfl (by intro y hy; cases hy; exact ⟨rfl, (by intro t ht; simp only [List.mem_cons, List.not_mem_nil, or_false] at ht; rcases ht with rfl | rfl | rfl <;> rfl), (by intro s hs; simp only [List.mem_cons, List.not_mem_nil, or_false] at hs; subst hs; first | (simp [SV.labels]; done) | (simp [SV.labels, packS, SV.back]; done) | exact List.not_mem_nil)⟩) (by decide) (by decide) (by decide) rfl (fun _ => rfl) ?_)
  · first | assumption | omega | (simp; omega)
  · first | assumption | omega | (simp; omega)
  · first | assumption | omega | (simp; omega)
  rintro _ _ ⟨n0, a2, s2, hx, ha0, ha1, rfl, rfl⟩
  simp only [List.mem_cons, List.not_mem_nil, or_false] at hx
  refine list_cons rfl (op_q (q_assign rfl (by decide)) ?_)
  refine list_nil ?_
  refine hK5 _ ?_; clear hK5 K5
  refine codeT.imp (σ' := [(0, _), (2, _), (3, _), (4, _), (5, _)]) ?_ (imp_covers ⟨rfl, rfl, rfl, rfl, rfl, trivial⟩)
  refine code_block ?_
  refine code_loop (X := PV × List PV × Nat × List PV × Int) (fun x => [(0, .ext (.sl code.length (bytesP code))), (2, .val x.1), (3, .box 9 74 x.2.1), (4, .own 10 3 1 x.2.2.1 x.2.2.2.1), (5, .val (.int .i64 x.2.2.2.2))]) (fun x => x.2.2.2.2 ≤ 10 ∧ ∃ (a1 s1 : Int) (l : List Int), x.2.1 = [.sl code.length (bytesP code), .int .i64 a1, .int .u64 s1] ∧ x.2.2.1 = l.length ∧ x.2.2.2.1 = l.map (.int .i64) ∧ 0 ≤ a1 ∧ a1 + 4 * max x.2.2.2.2 0 ≤ 50 ∧ (l.length : Int) + max x.2.2.2.2 0 ≤ 10 ∧ ∀ x ∈ l, -1 ≤ x ∧ x ≤ 4611686018427387904) (fun x => x.2.2.2.2.toNat) (_, _, _, _, _) (imp_covers ⟨rfl, rfl, rfl, rfl, rfl, trivial⟩) ?_ ?_
  · (try dsimp only)
    exact ⟨by omega, _, _, [], rfl, rfl, rfl, by omega, by omega, by simp only [List.length_nil]; omega, fun _ h => by simp at h⟩
  · intro x hI
    obtain ⟨t2_p, c_c, out_n, out_c, n⟩ := x
    replace hI : n ≤ 10 ∧ ∃ (a1 s1 : Int) (l : List Int), c_c = [.sl code.length (bytesP code), .int .i64 a1, .int .u64 s1] ∧ out_n = l.length ∧ out_c = l.map (.int .i64) ∧ 0 ≤ a1 ∧ a1 + 4 * max n 0 ≤ 50 ∧ (l.length : Int) + max n 0 ≤ 10 ∧ ∀ x ∈ l, -1 ≤ x ∧ x ≤ 4611686018427387904 := hI
    show codeT _ _ _ [(0, .ext (.sl code.length (bytesP code))), (2, .val t2_p), (3, .box 9 74 c_c), (4, .own 10 3 1 out_n out_c), (5, .val (.int .i64 n))] _
    obtain ⟨i0, a1, s1, l, rfl, rfl, rfl, i1, i2, i3, i4⟩ := hI
    refine code_seq (fun K6 hK6 => ?_)
    refine code_seq (fun K7 hK7 => ?_)
    refine code_region ?_
    refine list_cons rfl (op_q (q_move rfl (by decide)) ?_)
    refine list_cons rfl (op_q (q_gt rfl rfl (by decide)) ?_)
    refine list_nil ?_
    refine hK7 _ ?_; clear hK7 K7
    refine code_cond_d rfl (fun h1 => ?_) (fun h1 => ?_)
    · skip
      (try simp only [Decidable.not_not] at h1)
      refine code_skip ?_
      refine hK6 _ ?_; clear hK6 K6
      refine code_seq (fun K8 hK8 => ?_)
      refine code_block ?_
      refine code_seq (fun K9 hK9 => ?_)
      refine code_region ?_
      refine list_cons rfl (op_q (q_move rfl (by decide)) ?_)
      refine list_cons rfl (op_callM (pick_c code ?_ _ _ ?_ ?_ _) (.tmp 18) 9 [3, 18] [_] _ rfl rfl (by intro y hy; cases hy; exact ⟨rfl, (by intro t ht; simp only [List.mem_cons, List.not_mem_nil, or_false] at ht; rcases ht with rfl | rfl <;> rfl), (by intro s hs; simp only [List.mem_cons, List.not_mem_nil, or_false] at hs; subst hs; first | (simp [SV.labels]; done) | (simp [SV.labels, packS, SV.back]; done) | exact List.not_mem_nil)⟩) (by decide) (by decide) (by decide) rfl (fun _ => rfl) ?_)
      · first | assumption | omega | (simp; omega)
      · first | assumption | omega | (simp; omega)
      · first | assumption | omega | (simp; omega)
      rintro _ _ ⟨b, a2, s2, hb0, hb1, ha0, ha1, rfl, rfl⟩
      try have hp2 := p2_64 (k := b.toNat) (by omega)
      refine list_cons rfl (op_q (q_assign rfl (by decide)) ?_)
      refine list_nil ?_
      refine hK9 _ ?_; clear hK9 K9
      refine codeT.imp (σ' := [(0, _), (2, _), (3, _), (4, _), (5, _), (6, _)]) ?_ (imp_covers ⟨rfl, rfl, rfl, rfl, rfl, rfl, trivial⟩)
      refine code_seq (fun K10 hK10 => ?_)
      refine code_region ?_
      refine list_cons rfl (op_q (q_move rfl (by decide)) ?_)
      refine list_cons rfl (op_q (q_move rfl (by decide)) ?_)
      refine list_cons rfl (op_call _ (spec_l1Has _ _ (by first | omega | (simp; omega))) rfl rfl (by decide) (by decide) (by decide) rfl ?_)
      rintro _ rfl
      refine list_cons rfl (op_q (by first | exact q_notd rfl (by decide) | exact q_not rfl (by decide)) ?_)
      refine list_cons rfl (op_q (q_move rfl (by decide)) ?_)
      refine list_guard_d rfl rfl rfl rfl (by decide) rfl (by decide) (fun h2 => ?_) (fun h2 => ?_)
      · simp only [Bool.false_eq_true, if_true, if_false, Decidable.not_not] at h2
        refine id (op_q (q_move rfl (by decide)) ?_)
        refine list_guard_y rfl rfl rfl rfl (by decide) rfl ?_
        refine id (op_callM (one_c code ?_ _ _ ?_ ?_ _) (.tmp 25) 9 [3, 25] [_] _ rfl rfl (by intro y hy; cases hy; exact ⟨rfl, (by intro t ht; simp only [List.mem_cons, List.not_mem_nil, or_false] at ht; rcases ht with rfl | rfl <;> rfl), (by intro s hs; simp only [List.mem_cons, List.not_mem_nil, or_false] at hs; subst hs; first | (simp [SV.labels]; done) | (simp [SV.labels, packS, SV.back]; done) | exact List.not_mem_nil)⟩) (by decide) (by decide) (by decide) rfl (fun _ => rfl) ?_)
        · first | assumption | omega | (simp; omega)
        · first | assumption | omega | (simp; omega)
        · first | assumption | omega | (simp; omega)
        rintro _ _ ⟨o, a2, s2, ha0, ha1, rfl, rfl⟩
        refine list_cons rfl (op_q (q_pick rfl rfl (by decide)) ?_)
        refine list_nil ?_
        refine hK10 _ ?_; clear hK10 K10
        refine codeT.imp (σ' := [(0, _), (2, _), (3, _), (4, _), (5, _), (6, _), (27, _)]) ?_ (imp_covers ⟨rfl, rfl, rfl, rfl, rfl, rfl, rfl, trivial⟩)
        refine code_cond_d rfl (fun h3 => ?_) (fun h3 => ?_)
        · skip
          (try simp only [Decidable.not_not] at h3)
          refine code_region ?_
          refine list_cons rfl (op_q (q_move rfl (by decide)) ?_)
          refine list_cons rfl (op_q (q_move rfl (by decide)) ?_)
          refine list_cons rfl (op_buildSlice sl_24 (parts := [(0, .tmp 29)]) rfl rfl rfl (by decide) (by decide) (by decide) rfl ?_)
          refine list_cons rfl (op_append_gen sl_24 (l := 10) (.inl rfl) rfl rfl (l2 := none) (.inl ⟨rfl, (by first | rfl | exact flat_map _ (fun _ => rfl) _)⟩) (by first | rfl | simp | omega) (by omega) (by decide) (by decide) (by decide) ?_)
          refine list_cons rfl (op_q (q_assign rfl (by decide)) ?_)
          refine list_nil ?_
          refine blk_n ?_
          refine hK8 _ ?_; clear hK8 K8
          refine codeT.imp (σ' := [(0, _), (2, _), (3, _), (4, _), (5, _), (6, _)]) ?_ (imp_covers ⟨rfl, rfl, rfl, rfl, rfl, rfl, trivial⟩)
          refine code_region ?_
          refine list_cons rfl (op_q (q_move rfl (by decide)) ?_)
          refine list_cons rfl (op_q (by first | exact q_subI rfl rfl (by decide) (by omega) (by omega) | exact q_ib rfl rfl rfl (by decide)) ?_)
          refine list_cons rfl (op_q (q_assign rfl (by decide)) ?_)
          refine list_nil ?_
          refine then_n ⟨(_, _, _, _, _), imp_covers ⟨rfl, rfl, rfl, rfl, rfl, trivial⟩, ?_, ?_⟩
          · (try dsimp only)
            first
            | (refine ⟨by omega, _, _, l ++ [b], rfl, by simp, by simp; rfl, by omega, by omega, by simp only [List.length_append, List.length_cons, List.length_nil]; omega, fun y hy => ?_⟩
               rcases List.mem_append.1 hy with hy | hy
               · exact i4 y hy
               · simp only [List.mem_singleton] at hy; subst hy; omega)
            | exact ⟨by omega, _, _, l, rfl, rfl, rfl, by omega, by omega, by omega, i4⟩
          · (try dsimp only); omega
        (try simp only [Decidable.not_not] at h3)
        refine code_skip ?_
        refine blk_n ?_
        refine hK8 _ ?_; clear hK8 K8
        refine code_region ?_
        refine list_cons rfl (op_q (q_move rfl (by decide)) ?_)
        refine list_cons rfl (op_q (by first | exact q_subI rfl rfl (by decide) (by omega) (by omega) | exact q_ib rfl rfl rfl (by decide)) ?_)
        refine list_cons rfl (op_q (q_assign rfl (by decide)) ?_)
        refine list_nil ?_
        refine then_n ⟨(_, _, _, _, _), imp_covers ⟨rfl, rfl, rfl, rfl, rfl, trivial⟩, ?_, ?_⟩
        · (try dsimp only)
          first
          | (refine ⟨by omega, _, _, l ++ [b], rfl, by simp, by simp; rfl, by omega, by omega, by simp only [List.length_append, List.length_cons, List.length_nil]; omega, fun y hy => ?_⟩
             rcases List.mem_append.1 hy with hy | hy
             · exact i4 y hy
             · simp only [List.mem_singleton] at hy; subst hy; omega)
          | exact ⟨by omega, _, _, l, rfl, rfl, rfl, by omega, by omega, by omega, i4⟩
        · (try dsimp only); omega
      simp only [Bool.false_eq_true, if_true, if_false, Decidable.not_not] at h2
      refine list_guard_n rfl rfl rfl rfl (by decide) rfl ?_
      refine list_cons rfl (op_q (q_pick rfl rfl (by decide)) ?_)
      refine list_nil ?_
      refine hK10 _ ?_; clear hK10 K10
      refine code_cond_t rfl ?_
      refine code_region ?_
      refine list_cons rfl (op_q (q_move rfl (by decide)) ?_)
      refine list_cons rfl (op_q (q_move rfl (by decide)) ?_)
      refine list_cons rfl (op_buildSlice sl_24 (parts := [(0, .tmp 29)]) rfl rfl rfl (by decide) (by decide) (by decide) rfl ?_)
      refine list_cons rfl (op_append_gen sl_24 (l := 10) (.inl rfl) rfl rfl (l2 := none) (.inl ⟨rfl, (by first | rfl | exact flat_map _ (fun _ => rfl) _)⟩) (by first | rfl | simp | omega) (by omega) (by decide) (by decide) (by decide) ?_)
      refine list_cons rfl (op_q (q_assign rfl (by decide)) ?_)
      refine list_nil ?_
      refine blk_n ?_
      refine hK8 _ ?_; clear hK8 K8
      refine codeT.imp (σ' := [(0, _), (2, _), (3, _), (4, _), (5, _), (6, _)]) ?_ (imp_covers ⟨rfl, rfl, rfl, rfl, rfl, rfl, trivial⟩)
      refine code_region ?_
      refine list_cons rfl (op_q (q_move rfl (by decide)) ?_)
      refine list_cons rfl (op_q (by first | exact q_subI rfl rfl (by decide) (by omega) (by omega) | exact q_ib rfl rfl rfl (by decide)) ?_)
      refine list_cons rfl (op_q (q_assign rfl (by decide)) ?_)
      refine list_nil ?_
      refine then_n ⟨(_, _, _, _, _), imp_covers ⟨rfl, rfl, rfl, rfl, rfl, trivial⟩, ?_, ?_⟩
      · (try dsimp only)
        first
        | (refine ⟨by omega, _, _, l ++ [b], rfl, by simp, by simp; rfl, by omega, by omega, by simp only [List.length_append, List.length_cons, List.length_nil]; omega, fun y hy => ?_⟩
           rcases List.mem_append.1 hy with hy | hy
           · exact i4 y hy
           · simp only [List.mem_singleton] at hy; subst hy; omega)
        | exact ⟨by omega, _, _, l, rfl, rfl, rfl, by omega, by omega, by omega, i4⟩
      · (try dsimp only); omega
    (try simp only [Decidable.not_not] at h1)
    refine code_exit ?_
    refine then_x ?_; clear hK6 K6
    refine then_x ?_
    refine blk_hit ?_
    refine hK4 _ ?_; clear hK4 K4
    refine code_seq (fun K11 hK11 => ?_)
    refine code_seq (fun K12 hK12 => ?_)
    refine code_region ?_
    refine list_cons rfl (op_q (q_move rfl (by decide)) ?_)
    refine list_cons rfl (op_q (q_len_sl Tryd.underlying24 rfl rfl (by decide)) ?_)
    refine list_cons rfl (op_q (q_gt rfl rfl (by decide)) ?_)
    refine list_cons rfl (op_q (q_move rfl (by decide)) ?_)
    refine list_guard_d rfl rfl rfl rfl (by decide) rfl (by decide) (fun h4 => ?_) (fun h4 => ?_)
    · simp only [Bool.false_eq_true, if_true, if_false, Decidable.not_not] at h4
      refine id (op_q (q_move rfl (by decide)) ?_)
      refine list_guard_y rfl rfl rfl rfl (by decide) rfl ?_
      refine id (op_callM (one_c code ?_ _ _ ?_ ?_ _) (.tmp 36) 9 [3, 36] [_] _ rfl rfl (by intro y hy; cases hy; exact ⟨rfl, (by intro t ht; simp only [List.mem_cons, List.not_mem_nil, or_false] at ht; rcases ht with rfl | rfl <;> rfl), (by intro s hs; simp only [List.mem_cons, List.not_mem_nil, or_false] at hs; subst hs; first | (simp [SV.labels]; done) | (simp [SV.labels, packS, SV.back]; done) | exact List.not_mem_nil)⟩) (by decide) (by decide) (by decide) rfl (fun _ => rfl) ?_)
      · first | assumption | omega | (simp; omega)
      · first | assumption | omega | (simp; omega)
      · first | assumption | omega | (simp; omega)
      rintro _ _ ⟨o, a2, s2, ha0, ha1, rfl, rfl⟩
      refine list_cons rfl (op_q (q_pick rfl rfl (by decide)) ?_)
      refine list_nil ?_
      refine hK12 _ ?_; clear hK12 K12
      refine codeT.imp (σ' := [(0, _), (2, _), (3, _), (4, _), (5, _), (38, _)]) ?_ (imp_covers ⟨rfl, rfl, rfl, rfl, rfl, rfl, trivial⟩)
      refine code_cond_d rfl (fun h5 => ?_) (fun h5 => ?_)
      · skip
        (try simp only [Decidable.not_not] at h5)
        refine code_region ?_
        refine list_cons rfl (op_q (q_move rfl (by decide)) ?_)
        refine list_cons rfl (op_q (q_move rfl (by decide)) ?_)
        refine list_cons rfl (op_buildSlice sl_24 (parts := [(0, _), (1, _), (2, _)]) rfl rfl rfl (by decide) (by decide) (by decide) rfl ?_)
        refine list_cons rfl (op_callM (among_c code ?_ _ _ ?_ ?_ ([10, -1, 4611686018427387904]) (by decide) (by decide)) (.tmp 40) 9 [3, 40] [.tmp 41] _ rfl rfl (by intro y hy; cases hy; exact ⟨rfl, (by intro t ht; simp only [List.mem_cons, List.not_mem_nil, or_false] at ht; rcases ht with rfl | rfl <;> rfl), (by intro s hs; simp only [List.mem_cons, List.not_mem_nil, or_false] at hs; subst hs; first | (simp [SV.labels]; done) | (simp [SV.labels, packS, SV.back]; done) | exact List.not_mem_nil)⟩) (by decide) (by decide) (by decide) rfl (fun _ => rfl) ?_)
        · first | assumption | omega | (simp; omega)
        · first | assumption | omega | (simp; omega)
        · first | assumption | omega | (simp; omega)
        rintro _ _ ⟨x, a2, s2, hx, ha0, ha1, rfl, rfl⟩
        simp only [List.mem_cons, List.not_mem_nil, or_false] at hx
        refine list_cons rfl (op_q (q_indexAddr_own sl_24 rfl rfl (by omega) (by omega) (by decide)) ?_)
        refine list_cons rfl (op_store (one_3).2 4 [4, 39] (by intro t ht; simp only [List.mem_cons, List.not_mem_nil, or_false] at ht; rcases ht with rfl | rfl <;> rfl) (.inl rfl) rfl rfl rfl rfl rfl rfl (by first | decide | omega | exact Nat.le_refl _ | (simp; done) | (simp; omega)) (by decide) rfl ?_)
        refine list_nil ?_
        refine hK11 _ ?_; clear hK11 K11
        refine codeT.imp (σ' := [(0, _), (2, _), (3, _), (4, _), (5, _)]) ?_ (imp_covers ⟨rfl, rfl, rfl, rfl, rfl, trivial⟩)
        refine code_seq (fun K13 hK13 => ?_)
        refine code_region ?_
        refine list_cons rfl (op_q (q_move rfl (by decide)) ?_)
        refine list_cons rfl (op_q (q_assign rfl (by decide)) ?_)
        refine list_nil ?_
        refine hK13 _ ?_; clear hK13 K13
        refine code_ret ?_
        refine ends_ret (cs := []) rfl rfl rfl rfl trivial ?_
        first
        | exact ⟨l, ⟨by omega, i4⟩, rfl⟩
        | (have hsl : (l.set 0 x).length = l.length := List.length_set
           refine ⟨l.set 0 x, ⟨by omega, fun y hy => ?_⟩, ?_⟩
           · rcases List.mem_or_eq_of_mem_set hy with hy | hy
             · exact i4 y hy
             · subst hy; omega
           · rw [hsl, ← put_map1 (PV.int .i64) l (by omega) x]; rfl)
      (try simp only [Decidable.not_not] at h5)
      refine code_skip ?_
      refine hK11 _ ?_; clear hK11 K11
      refine code_seq (fun K14 hK14 => ?_)
      refine code_region ?_
      refine list_cons rfl (op_q (q_move rfl (by decide)) ?_)
      refine list_cons rfl (op_q (q_assign rfl (by decide)) ?_)
      refine list_nil ?_
      refine hK14 _ ?_; clear hK14 K14
      refine code_ret ?_
      refine ends_ret (cs := []) rfl rfl rfl rfl trivial ?_
      first
      | exact ⟨l, ⟨by omega, i4⟩, rfl⟩
      | (have hsl : (l.set 0 x).length = l.length := List.length_set
         refine ⟨l.set 0 x, ⟨by omega, fun y hy => ?_⟩, ?_⟩
         · rcases List.mem_or_eq_of_mem_set hy with hy | hy
           · exact i4 y hy
           · subst hy; omega
         · rw [hsl, ← put_map1 (PV.int .i64) l (by omega) x]; rfl)
    simp only [Bool.false_eq_true, if_true, if_false, Decidable.not_not] at h4
    refine list_guard_n rfl rfl rfl rfl (by decide) rfl ?_
    refine list_cons rfl (op_q (q_pick rfl rfl (by decide)) ?_)
    refine list_nil ?_
    refine hK12 _ ?_; clear hK12 K12
    refine code_cond_f rfl ?_
    refine code_skip ?_
    refine hK11 _ ?_; clear hK11 K11
    refine codeT.imp (σ' := [(0, _), (2, _), (3, _), (4, _), (5, _)]) ?_ (imp_covers ⟨rfl, rfl, rfl, rfl, rfl, trivial⟩)
    refine code_seq (fun K15 hK15 => ?_)
    refine code_region ?_
    refine list_cons rfl (op_q (q_move rfl (by decide)) ?_)
    refine list_cons rfl (op_q (q_assign rfl (by decide)) ?_)
    refine list_nil ?_
    refine hK15 _ ?_; clear hK15 K15
    refine code_ret ?_
    refine ends_ret (cs := []) rfl rfl rfl rfl trivial ?_
    first
    | exact ⟨l, ⟨by omega, i4⟩, rfl⟩
    | (have hsl : (l.set 0 x).length = l.length := List.length_set
       refine ⟨l.set 0 x, ⟨by omega, fun y hy => ?_⟩, ?_⟩
       · rcases List.mem_or_eq_of_mem_set hy with hy | hy
         · exact i4 y hy
         · subst hy; omega
       · rw [hsl, ← put_map1 (PV.int .i64) l (by omega) x]; rfl)

end Go.Proofs.YtjbbijlbenkgcaaDoor
namespace Go.Proofs.YtjbbijlbenkgcaaDoor.LvTy
open Go.RowKit

def az (u : TypeId) : Nat := match u with  | _ => 0

theorem sl_22 : SlTy Tryd.prog 22 5 1 1 [.int .u8 0] := slTy_of Tryd.underlying22 (z := .int .u8 0) (by kernel_rfl) rfl (by decide) (by decide) rfl
theorem sl_24 : SlTy Tryd.prog 24 3 1 8 [.int .i64 0] := slTy_of Tryd.underlying24 (z := .int .i64 0) (by kernel_rfl) rfl (by decide) (by decide) rfl
theorem one_3 : OneTy Tryd.prog 3 := oneTy_of Tryd.underlying3 rfl (by kernel_rfl)

end Go.Proofs.YtjbbijlbenkgcaaDoor.LvTy
namespace Go.Proofs.YtjbbijlbenkgcaaDoor
open Go.RowKit LvTy
set_option linter.unusedVariables false
set_option linter.unusedSimpArgs false

theorem flat_td (code : List UInt8) (a b : Nat) : PV.flatL (List.take a (List.drop b (bytesP code))) = true := by
  unfold bytesP
  rw [← List.map_drop, ← List.map_take]; exact flat_map _ (fun _ => rfl) _
theorem bytesP_cut (code : List UInt8) (n : Int) (k : Nat) (h0 : 0 ≤ n) (h1 : n ≤ 255) (hk : k = code.length - n.toNat) : (List.take (k * 1) (List.drop (n.toNat * 1) (bytesP code))) ++ [PV.int .u8 n] = bytesP (code.drop n.toNat ++ [UInt8.ofNat n.toNat]) := by
  subst hk
  rw [Nat.mul_one, Nat.mul_one]
  unfold bytesP
  rw [List.map_append, List.map_drop, List.take_of_length_le (by simp)]
  congr 1
  have h : (UInt8.ofNat n.toNat).toNat = n.toNat := by
    rw [UInt8.toNat_ofNat']; omega
  simp only [List.map_cons, List.map_nil, h]
  rw [show ((n.toNat : Nat) : Int) = n by omega]

set_option maxRecDepth 4000 in
theorem vBig_c (code : List UInt8) : PCalls Tryd.prog 6 [.sl code.length (bytesP code)] (· = [.val (.bool (decide (65536 < code.length)))]) := by
  refine pcalls_of_code (n := 6) az Tryd.func6 (by kernel_rfl) rfl rfl (Nat.le_of_ble_eq_true rfl) (by intro t u h; simp [Tryd.f6] at h) ?_
  refine code_seq (fun K1 hK1 => ?_)
  refine code_region ?_
  refine list_cons rfl (op_q (q_assign rfl (by decide)) ?_)
  refine list_nil ?_
  refine hK1 _ ?_; clear hK1 K1
  refine code_seq (fun K2 hK2 => ?_)
  refine code_region ?_
  refine list_cons rfl (op_q (q_move rfl (by decide)) ?_)
  refine list_cons rfl (op_q (q_len_sl Tryd.underlying22 rfl rfl (by decide)) ?_)
  refine list_cons rfl (op_q (q_gt rfl rfl (by decide)) ?_)
  refine list_cons rfl (op_q (q_assign rfl (by decide)) ?_)
  refine list_nil ?_
  refine hK2 _ ?_; clear hK2 K2
  refine code_ret ?_
  refine ends_ret (cs := []) rfl rfl rfl rfl trivial ?_
  first | rfl | (congr 3; exact decide_eq_decide.mpr (by omega))

set_option maxRecDepth 4000 in
theorem vCut_c (code : List UInt8) (hcode : code.length ≤ 65536) (k : Int) (h0 : 0 ≤ k) (h1 : k ≤ 255) : PCalls Tryd.prog 11 [.sl code.length (bytesP code), .int .i64 k] (fun rs => ∃ c2 : List UInt8, c2.length ≤ 65537 ∧ rs = [.own 0 5 1 c2.length (bytesP c2)]) := by
  refine pcalls_of_code (n := 20) az Tryd.func11 (by kernel_rfl) rfl rfl (Nat.le_of_ble_eq_true rfl) (by intro t u h; simp [Tryd.f11] at h) ?_
  have hbl : (bytesP code).length = code.length := by simp [bytesP]
  refine code_seq (fun K1 hK1 => ?_)
  refine code_region ?_
  refine list_cons rfl (op_q (q_assign rfl (by decide)) ?_)
  refine list_nil ?_
  refine hK1 _ ?_; clear hK1 K1
  refine code_seq (fun K2 hK2 => ?_)
  refine code_seq (fun K3 hK3 => ?_)
  refine code_region ?_
  refine list_cons rfl (op_q (q_move rfl (by decide)) ?_)
  refine list_cons rfl (op_q (q_move rfl (by decide)) ?_)
  refine list_cons rfl (op_q (q_len_sl Tryd.underlying22 rfl rfl (by decide)) ?_)
  refine list_cons rfl (op_q (q_gt rfl rfl (by decide)) ?_)
  refine list_nil ?_
  refine hK3 _ ?_; clear hK3 K3
  refine code_cond_d rfl (fun h1 => ?_) (fun h1 => ?_)
  · skip
    (try simp only [Decidable.not_not] at h1)
    refine code_region ?_
    refine list_cons rfl (op_q (q_move rfl (by decide)) ?_)
    refine list_cons rfl (op_q (q_len_sl Tryd.underlying22 rfl rfl (by decide)) ?_)
    refine list_cons rfl (op_q (q_assign rfl (by decide)) ?_)
    refine list_nil ?_
    refine hK2 _ ?_; clear hK2 K2
    refine code_seq (fun K4 hK4 => ?_)
    refine code_region ?_
    refine list_cons rfl (op_buildSlice sl_22 (parts := []) rfl rfl rfl (by decide) (by decide) (by decide) rfl ?_)
    refine list_cons rfl (op_q (q_move rfl (by decide)) ?_)
    refine list_cons rfl (op_q (q_move rfl (by decide)) ?_)
    refine list_cons rfl (op_q (q_slice_sl sl_22 rfl rfl ⟨_, rfl⟩ rfl (by omega) (by omega) (by omega) rfl (by decide)) ?_)
    refine list_cons rfl (op_append_gen sl_22 (l := 11) (.inl rfl) rfl rfl (l2 := none) (.inl ⟨rfl, (by first | rfl | exact flat_map _ (fun _ => rfl) _ | exact flat_td _ _ _)⟩) (by first | rfl | (simp [bytesP]; done) | (simp [bytesP]; omega) | omega) (by omega) (by decide) (by decide) (by decide) ?_)
    refine list_cons rfl (op_q (q_move rfl (by decide)) ?_)
    refine list_cons rfl (op_q (by first | exact q_conv8 (by rw [Tryd.underlying3]; rfl) Tryd.underlying5 rfl (by decide) (by omega) (by omega) | exact q_conv (by rw [Tryd.underlying3]; rfl) Tryd.underlying5 rfl (by decide)) ?_)
    refine list_cons rfl (op_buildSlice sl_22 (parts := [(0, .tmp 17)]) rfl rfl rfl (by decide) (by decide) (by decide) rfl ?_)
    refine list_cons rfl (op_append_gen sl_22 (l := 11) (.inl rfl) rfl rfl (l2 := none) (.inl ⟨rfl, (by first | rfl | exact flat_map _ (fun _ => rfl) _ | exact flat_td _ _ _)⟩) (by first | rfl | (simp [bytesP]; done) | (simp [bytesP]; omega) | omega) (by omega) (by decide) (by decide) (by decide) ?_)
    refine list_cons rfl (op_q (q_assign rfl (by decide)) ?_)
    refine list_nil ?_
    refine hK4 _ ?_; clear hK4 K4
    refine codeT.imp (σ' := [(0, _), (1, _), (4, _)]) ?_ (imp_covers ⟨rfl, rfl, rfl, trivial⟩)
    refine code_ret ?_
    refine ends_ret (cs := []) rfl rfl rfl rfl trivial ?_
    refine ⟨code.drop ((code.length : Nat) : Int).toNat ++ [UInt8.ofNat ((code.length : Nat) : Int).toNat], by simp, ?_⟩
    rw [← bytesP_cut code (code.length : Int) (((code.length : Nat) : Int).toNat - ((code.length : Nat) : Int).toNat) (by omega) (by omega) (by omega), show (code.drop ((code.length : Nat) : Int).toNat ++ [UInt8.ofNat ((code.length : Nat) : Int).toNat]).length = 0 + (((code.length : Nat) : Int).toNat - ((code.length : Nat) : Int).toNat) + 1 by simp]
    rfl
  (try simp only [Decidable.not_not] at h1)
  refine code_skip ?_
  refine hK2 _ ?_; clear hK2 K2
  refine code_seq (fun K5 hK5 => ?_)
  refine code_region ?_
  refine list_cons rfl (op_buildSlice sl_22 (parts := []) rfl rfl rfl (by decide) (by decide) (by decide) rfl ?_)
  refine list_cons rfl (op_q (q_move rfl (by decide)) ?_)
  refine list_cons rfl (op_q (q_move rfl (by decide)) ?_)
  refine list_cons rfl (op_q (q_slice_sl sl_22 rfl rfl ⟨_, rfl⟩ rfl (by omega) (by omega) (by omega) rfl (by decide)) ?_)
  refine list_cons rfl (op_append_gen sl_22 (l := 11) (.inl rfl) rfl rfl (l2 := none) (.inl ⟨rfl, (by first | rfl | exact flat_map _ (fun _ => rfl) _ | exact flat_td _ _ _)⟩) (by first | rfl | (simp [bytesP]; done) | (simp [bytesP]; omega) | omega) (by omega) (by decide) (by decide) (by decide) ?_)
  refine list_cons rfl (op_q (q_move rfl (by decide)) ?_)
  refine list_cons rfl (op_q (by first | exact q_conv8 (by rw [Tryd.underlying3]; rfl) Tryd.underlying5 rfl (by decide) (by omega) (by omega) | exact q_conv (by rw [Tryd.underlying3]; rfl) Tryd.underlying5 rfl (by decide)) ?_)
  refine list_cons rfl (op_buildSlice sl_22 (parts := [(0, .tmp 17)]) rfl rfl rfl (by decide) (by decide) (by decide) rfl ?_)
  refine list_cons rfl (op_append_gen sl_22 (l := 11) (.inl rfl) rfl rfl (l2 := none) (.inl ⟨rfl, (by first | rfl | exact flat_map _ (fun _ => rfl) _ | exact flat_td _ _ _)⟩) (by first | rfl | (simp [bytesP]; done) | (simp [bytesP]; omega) | omega) (by omega) (by decide) (by decide) (by decide) ?_)
  refine list_cons rfl (op_q (q_assign rfl (by decide)) ?_)
  refine list_nil ?_
  refine hK5 _ ?_; clear hK5 K5
  refine codeT.imp (σ' := [(0, _), (1, _), (4, _)]) ?_ (imp_covers ⟨rfl, rfl, rfl, trivial⟩)
  refine code_ret ?_
  refine ends_ret (cs := []) rfl rfl rfl rfl trivial ?_
  refine ⟨code.drop k.toNat ++ [UInt8.ofNat k.toNat], by simp; omega, ?_⟩
  rw [← bytesP_cut code k (((code.length : Nat) : Int).toNat - k.toNat) (by omega) (by omega) (by omega), show (code.drop k.toNat ++ [UInt8.ofNat k.toNat]).length = 0 + (((code.length : Nat) : Int).toNat - k.toNat) + 1 by simp]
  rfl

set_option maxRecDepth 4000 in
theorem vInts_c (a b : List Int) (ha : a.length ≤ 4611686018427387904) : PCalls Tryd.prog 17 [.sl a.length (a.map (.int .i64)), .sl b.length (b.map (.int .i64))] (· = [.val (.bool (decide (a = b)))]) := by
  refine pcalls_of_code (n := 26) az Tryd.func17 (by kernel_rfl) rfl rfl (Nat.le_of_ble_eq_true rfl) (by intro t u h; simp [Tryd.f17] at h) ?_
  refine code_seq (fun K1 hK1 => ?_)
  refine code_region ?_
  refine list_cons rfl (op_q (q_assign rfl (by decide)) ?_)
  refine list_nil ?_
  refine hK1 _ ?_; clear hK1 K1
  refine code_seq (fun K2 hK2 => ?_)
  refine code_seq (fun K3 hK3 => ?_)
  refine code_region ?_
  refine list_cons rfl (op_q (q_move rfl (by decide)) ?_)
  refine list_cons rfl (op_q (q_len_sl Tryd.underlying24 rfl rfl (by decide)) ?_)
  refine list_cons rfl (op_q (q_move rfl (by decide)) ?_)
  refine list_cons rfl (op_q (q_len_sl Tryd.underlying24 rfl rfl (by decide)) ?_)
  refine list_cons rfl (op_q (q_ne rfl rfl (by decide)) ?_)
  refine list_nil ?_
  refine hK3 _ ?_; clear hK3 K3
  refine code_cond_d rfl (fun h1 => ?_) (fun h1 => ?_)
  · skip
    (try simp only [Decidable.not_not] at h1)
    refine code_seq (fun K4 hK4 => ?_)
    refine code_region ?_
    refine list_cons rfl (op_q (q_assign rfl (by decide)) ?_)
    refine list_nil ?_
    refine hK4 _ ?_; clear hK4 K4
    refine code_ret ?_
    refine then_r ?_; clear hK2 K2
    refine ends_ret (cs := []) rfl rfl rfl rfl trivial ?_
    rw [decide_eq_false (fun e => h1 (by rw [e]))]
  (try simp only [Decidable.not_not] at h1)
  refine code_skip ?_
  refine hK2 _ ?_; clear hK2 K2
  refine code_seq (fun K5 hK5 => ?_)
  refine code_seq (fun K6 hK6 => ?_)
  refine code_region ?_
  refine list_cons rfl (op_q (q_assign rfl (by decide)) ?_)
  refine list_nil ?_
  refine hK6 _ ?_; clear hK6 K6
  refine code_block ?_
  refine code_loop (X := Bool × Int) (fun x => [(0, .par 0 (.sl a.length (a.map (.int .i64)))), (1, .par 1 (.sl b.length (b.map (.int .i64)))), (4, .val (.bool x.1)), (5, .val (.int .i64 x.2))]) (fun x => 0 ≤ x.2 ∧ x.2 ≤ a.length ∧ ∀ j, j < x.2.toNat → a.getD j 0 = b.getD j 0) (fun x => a.length - x.2.toNat) (_, _) (imp_covers ⟨rfl, rfl, rfl, rfl, trivial⟩) ?_ ?_
  · (try dsimp only)
    refine ⟨by omega, by omega, fun j hj => by simp at hj⟩
  · intro x hI
    obtain ⟨t4, i⟩ := x
    replace hI : 0 ≤ i ∧ i ≤ a.length ∧ ∀ j, j < i.toNat → a.getD j 0 = b.getD j 0 := hI
    show codeT _ _ _ [(0, .par 0 (.sl a.length (a.map (.int .i64)))), (1, .par 1 (.sl b.length (b.map (.int .i64)))), (4, .val (.bool t4)), (5, .val (.int .i64 i))] _
    obtain ⟨i1, i2, i3⟩ := hI
    refine code_seq (fun K7 hK7 => ?_)
    refine code_seq (fun K8 hK8 => ?_)
    refine code_region ?_
    refine list_cons rfl (op_q (q_move rfl (by decide)) ?_)
    refine list_cons rfl (op_q (q_move rfl (by decide)) ?_)
    refine list_cons rfl (op_q (q_len_sl Tryd.underlying24 rfl rfl (by decide)) ?_)
    refine list_cons rfl (op_q (q_lt rfl rfl (by decide)) ?_)
    refine list_nil ?_
    refine hK8 _ ?_; clear hK8 K8
    refine code_cond_d rfl (fun h2 => ?_) (fun h2 => ?_)
    · skip
      (try simp only [Decidable.not_not] at h2)
      refine code_skip ?_
      refine hK7 _ ?_; clear hK7 K7
      refine code_seq (fun K9 hK9 => ?_)
      refine code_block ?_
      refine code_seq (fun K10 hK10 => ?_)
      refine code_draw (by kernel_rfl) (by kernel_rfl) ?_
      refine draw_q rfl (q_move rfl (by decide)) ?_
      refine draw_q rfl (q_move rfl (by decide)) ?_
      refine draw_q rfl (q_indexAddr_rd sl_24 rfl (.inl ⟨_, rfl, rfl⟩) rfl (by omega) (by omega) (by decide)) ?_
      refine draw_q rfl (q_load_rd one_3 rfl (.inl ⟨_, (by first | rfl | exact congrArg (SV.rpar _) (drop_map1 _ 0 _ (by first | omega | (simp; omega)))), rfl⟩) (by decide)) ?_
      refine draw_q rfl (q_move rfl (by decide)) ?_
      refine draw_q rfl (q_move rfl (by decide)) ?_
      refine draw_q rfl (q_indexAddr_rd sl_24 rfl (.inl ⟨_, rfl, rfl⟩) rfl (by omega) (by omega) (by decide)) ?_
      refine draw_q rfl (q_load_rd one_3 rfl (.inl ⟨_, (by first | rfl | exact congrArg (SV.rpar _) (drop_map1 _ 0 _ (by first | omega | (simp; omega)))), rfl⟩) (by decide)) ?_
      refine draw_q rfl (q_ne rfl rfl (by decide)) ?_
      refine draw_nil ?_
      refine hK10 _ ?_; clear hK10 K10
      refine codeT.imp (σ' := [(0, _), (1, _), (4, _), (5, _), (25, _)]) ?_ (imp_covers ⟨rfl, rfl, rfl, rfl, rfl, trivial⟩)
      refine code_cond_d rfl (fun h3 => ?_) (fun h3 => ?_)
      · skip
        (try simp only [Decidable.not_not] at h3)
        refine code_seq (fun K11 hK11 => ?_)
        refine code_region ?_
        refine list_cons rfl (op_q (q_assign rfl (by decide)) ?_)
        refine list_nil ?_
        refine hK11 _ ?_; clear hK11 K11
        refine code_ret ?_
        refine blk_r ?_
        refine then_r ?_; clear hK9 K9
        refine then_r ?_
        refine blk_r ?_
        refine then_r ?_; clear hK5 K5
        refine ends_ret (cs := []) rfl rfl rfl rfl trivial ?_
        rw [decide_eq_false (list_ne_ofI 0 i.toNat h3)]
      (try simp only [Decidable.not_not] at h3)
      refine code_skip ?_
      refine blk_n ?_
      refine hK9 _ ?_; clear hK9 K9
      refine code_region ?_
      refine list_cons rfl (op_q (q_move rfl (by decide)) ?_)
      refine list_cons rfl (op_q (by first | exact q_addI rfl rfl (by decide) (by omega) (by omega) | exact q_ib rfl rfl rfl (by decide)) ?_)
      refine list_cons rfl (op_q (q_assign rfl (by decide)) ?_)
      refine list_nil ?_
      refine then_n ⟨(_, _), imp_covers ⟨rfl, rfl, rfl, rfl, trivial⟩, ?_, ?_⟩
      · (try dsimp only)
        refine ⟨by omega, by omega, fun j hj => ?_⟩
        by_cases e : j = i.toNat
        · subst e; exact h3
        · exact i3 j (by omega)
      · (try dsimp only); omega
    (try simp only [Decidable.not_not] at h2)
    refine code_exit ?_
    refine then_x ?_; clear hK7 K7
    refine then_x ?_
    refine blk_hit ?_
    refine hK5 _ ?_; clear hK5 K5
    refine code_seq (fun K12 hK12 => ?_)
    refine code_region ?_
    refine list_cons rfl (op_q (q_assign rfl (by decide)) ?_)
    refine list_nil ?_
    refine hK12 _ ?_; clear hK12 K12
    refine code_ret ?_
    refine ends_ret (cs := []) rfl rfl rfl rfl trivial ?_
    rw [decide_eq_true (list_eq_ofI 0 a b (by omega) fun j hj => i3 j (by omega))]

end Go.Proofs.YtjbbijlbenkgcaaDoor
namespace Go.Proofs.YtjbbijlbenkgcaaDoor.LGTy
open Go.RowKit

def az (u : TypeId) : Nat := match u with | 56 => 2 | _ => 0

theorem sl_45 : SlTy Tryd.prog 45 56 2 16 [.int .i64 0, .int .i64 0] := slTy_of Tryd.underlying45 (z := .agg #[.int .i64 0, .int .i64 0]) (by kernel_rfl) rfl (by decide) (by decide) rfl
theorem agg_56 : AggTy Tryd.prog 56 2 := aggTy_of Tryd.underlying56 rfl (by kernel_rfl)
theorem one_3 : OneTy Tryd.prog 3 := oneTy_of Tryd.underlying3 rfl (by kernel_rfl)
theorem eqty_3 : EqTy Tryd.prog 3 [.int .i64] 1 := eqTy_int one_3 Tryd.underlying3
theorem eqty_56 : EqTy Tryd.prog 56 (List.replicate 2 [.int .i64]).flatten 2 := eqTy_array agg_56 Tryd.underlying56 (by kernel_rfl) (by kernel_rfl) eqty_3
theorem eqg_56 : Tryd.prog.eqGuardType Tryd.prog.depth 56 = false := by kernel_rfl

end Go.Proofs.YtjbbijlbenkgcaaDoor.LGTy
namespace Go.Proofs.YtjbbijlbenkgcaaDoor
open Go.RowKit LGTy
set_option linter.unusedVariables false
set_option linter.unusedSimpArgs false

theorem list_eq_ofP (a b : List (Int × Int)) (hl : a.length = b.length) (h : ∀ j, j < a.length → a.getD j (0, 0) = b.getD j (0, 0)) : a = b := by
  apply List.ext_getElem hl
  intro j h1 h2
  have := h j h1
  rw [List.getD_eq_getElem?_getD, List.getElem?_eq_getElem h1, List.getD_eq_getElem?_getD, List.getElem?_eq_getElem h2] at this
  exact this
theorem prR_mem {l : List Int} {d : Int} {i : Nat} : ∀ m, ∀ p ∈ prR l d i m, ∃ j, j < m ∧ p = ((i : Int), ((i + 1 + j : Nat) : Int)) ∧ farC (l.getD i 0) (l.getD (i + 1 + j) 0) = d
  | 0, p, h => by simp [prR] at h
  | m + 1, p, h => by
    by_cases hf : farC (l.getD i 0) (l.getD (i + 1 + m) 0) = d
    · rw [prR_yes hf] at h
      rcases List.mem_append.1 h with h | h
      · obtain ⟨j, h1, h2, h3⟩ := prR_mem m p h
        exact ⟨j, by omega, h2, h3⟩
      · simp only [List.mem_singleton] at h
        exact ⟨m, by omega, h, hf⟩
    · rw [prR_no hf] at h
      obtain ⟨j, h1, h2, h3⟩ := prR_mem m p h
      exact ⟨j, by omega, h2, h3⟩
theorem prL_mem {l : List Int} {d : Int} : ∀ n, n ≤ l.length → ∀ p ∈ prL l d n, (0 ≤ p.1 ∧ p.1 < p.2 ∧ p.2 < l.length) ∧ farC (l.getD p.1.toNat 0) (l.getD p.2.toNat 0) = d
  | 0, _, p, h => by simp [prL] at h
  | n + 1, hn, p, h => by
    rw [prL] at h
    rcases List.mem_append.1 h with h | h
    · exact prL_mem n (by omega) p h
    · obtain ⟨j, h1, rfl, h3⟩ := prR_mem _ p h
      exact ⟨⟨by simp only; omega, by simp only; omega, by simp only; omega⟩, by rw [Int.toNat_natCast, Int.toNat_natCast]; exact h3⟩
theorem flpI_len (u : List Int) (b : Int) : (if CodeP u ∧ 0 ≤ b ∧ b ≤ 127 then flp u b else []).length ≤ 12 := by
  split
  · rename_i h; rw [flp_len]; exact h.1.1.2
  · simp
theorem pairs_norm (a b : Nat) {l : List Int} (h : CodeP l) : some (SV.own a b 2 (if CodeP l then prL l (gpL l l.length) l.length else []).length (fl (if CodeP l then prL l (gpL l l.length) l.length else []))) = some (SV.own a b 2 (prL l (gpL l l.length) l.length).length (fl (prL l (gpL l l.length) l.length))) := by
  rw [if_pos h]
theorem prL_at {l : List Int} {d : Int} (_ : CodeP l) (i : Nat) (h : i < (prL l d l.length).length) : (0 ≤ ((prL l d l.length).getD i (0, 0)).1 ∧ ((prL l d l.length).getD i (0, 0)).1 < ((prL l d l.length).getD i (0, 0)).2 ∧ ((prL l d l.length).getD i (0, 0)).2 < l.length) ∧ farC (l.getD ((prL l d l.length).getD i (0, 0)).1.toNat 0) (l.getD ((prL l d l.length).getD i (0, 0)).2.toNat 0) = d := by
  refine prL_mem l.length (Nat.le_refl _) _ ?_
  rw [List.getD_eq_getElem?_getD, List.getElem?_eq_getElem h]; exact List.getElem_mem h
theorem fl_getA : ∀ (gs : List (Int × Int)) (k : Nat), k < gs.length → (fl gs)[k * 2]? = some (PV.int .i64 (gs.getD k (0, 0)).1) ∧ (fl gs)[k * 2 + 1]? = some (PV.int .i64 (gs.getD k (0, 0)).2)
  | g :: gs, 0, _ => ⟨rfl, rfl⟩
  | g :: gs, k + 1, h => by
    have ih := fl_getA gs k (by simpa using h)
    show (PV.int .i64 g.1 :: PV.int .i64 g.2 :: fl gs)[(k + 1) * 2]? = _ ∧ (PV.int .i64 g.1 :: PV.int .i64 g.2 :: fl gs)[(k + 1) * 2 + 1]? = _
    rw [show (k + 1) * 2 = k * 2 + 1 + 1 by omega]
    exact ih
theorem pr_ld0 {gs : List (Int × Int)} {k : Nat} (h : k < gs.length) : (fl gs)[k * 2 + Int.toNat 0 * 1]? = some (PV.int .i64 (gs.getD k (0, 0)).1) := (fl_getA gs k h).1
theorem pr_ld1 {gs : List (Int × Int)} {k : Nat} (h : k < gs.length) : (fl gs)[k * 2 + Int.toNat 1 * 1]? = some (PV.int .i64 (gs.getD k (0, 0)).2) := (fl_getA gs k h).2
theorem flp_at (l : List Int) (b : Int) {j : Nat} (h : j < l.length) : (flp l b).getD j 0 = (((l.getD j 0).toNat ^^^ b.toNat : Nat) : Int) := by
  unfold flp
  simp [List.getD_eq_getElem?_getD, h]
theorem xx_cancel (a b : Nat) : (a ^^^ b) ^^^ b = a := by rw [Nat.xor_assoc, Nat.xor_self, Nat.xor_zero]
theorem xx_inj {a c b : Nat} (h : a ^^^ b = c ^^^ b) : a = c := by
  have := congrArg (fun z => z ^^^ b) h
  simpa only [xx_cancel] using this
theorem farC_xor (x y b : Int) : farC ((x.toNat ^^^ b.toNat : Nat) : Int) ((y.toNat ^^^ b.toNat : Nat) : Int) = farC x y := by
  unfold farC
  rw [Int.toNat_natCast, Int.toNat_natCast]
  congr 2
  rw [Nat.xor_comm y.toNat b.toNat, Nat.xor_assoc, ← Nat.xor_assoc b.toNat, Nat.xor_self, Nat.zero_xor]
theorem hasK_flp {l : List Int} {b x : Int} (hx : 0 ≤ x) (hl : ∀ j, j < l.length → 0 ≤ l.getD j 0) : ∀ k, k ≤ l.length → hasK (flp l b) ((x.toNat ^^^ b.toNat : Nat) : Int) k = hasK l x k
  | 0, _ => rfl
  | k + 1, hk => by
    have h0 := hl k (by omega)
    rw [hasK, hasK, hasK_flp hx hl k (by omega), flp_at l b (by omega)]
    congr 1
    refine decide_eq_decide.mpr ⟨fun h => ?_, fun h => by rw [h]⟩
    have := xx_inj (a := (l.getD k 0).toNat) (c := x.toNat) (b := b.toNat) (by omega)
    omega
theorem flp_codK {l : List Int} {b : Int} (h : CodeP l) (hb : 0 ≤ b ∧ b ≤ 127) : ∀ k, k ≤ l.length → codK (flp l b) k = true
  | 0, _ => rfl
  | k + 1, hk => by
    have hc := h.cell k (by omega)
    have e := flp_at l b (j := k) (by omega)
    refine codK_succ (flp_codK h hb k (by omega)) ?_ ?_
    · rw [e]; have := xor7 hc hb; omega
    · rw [e, hasK_flp hc.1 (fun j hj => (h.cell j hj).1) k (by omega)]
      exact (codK_at h.2 (j := k) (by omega)).2
theorem flp_code {l : List Int} {b : Int} (h : CodeP l) (hb : 0 ≤ b ∧ b ≤ 127) : CodeP (flp l b) := by
  refine ⟨by rw [flp_len]; exact h.1, ?_⟩
  rw [flp_len]; exact flp_codK h hb l.length (Nat.le_refl _)
theorem gpR_congr {l l' : List Int} {i : Nat} {g : Int} : ∀ k, (∀ j, j < k → farC (l.getD i 0) (l.getD j 0) = farC (l'.getD i 0) (l'.getD j 0)) → gpR l i g k = gpR l' i g k
  | 0, _ => rfl
  | k + 1, h => by rw [gpR, gpR, gpR_congr k (fun j hj => h j (by omega)), h k (by omega)]
theorem gpL_congr {l l' : List Int} : ∀ n, (∀ i j, i < n → j < n → farC (l.getD i 0) (l.getD j 0) = farC (l'.getD i 0) (l'.getD j 0)) → gpL l n = gpL l' n
  | 0, _ => rfl
  | n + 1, h => by
    rw [gpL, gpL, gpL_congr n (fun i j hi hj => h i j (by omega) (by omega))]
    exact gpR_congr n (fun j hj => h n j (by omega) (by omega))
theorem gpL_flp (l : List Int) (b : Int) : gpL (flp l b) (flp l b).length = gpL l l.length := by
  rw [flp_len]
  refine gpL_congr l.length fun i j hi hj => ?_
  rw [flp_at l b hi, flp_at l b hj, farC_xor]
theorem flp_flp {l : List Int} {b : Int} (hl : ∀ j, j < l.length → 0 ≤ l.getD j 0) : flp (flp l b) b = l := by
  refine list_eq_ofI 0 _ _ (by rw [flp_len, flp_len]) fun j hj => ?_
  rw [flp_len, flp_len] at hj
  have := hl j hj
  rw [flp_at _ b (by rw [flp_len]; exact hj), flp_at l b hj, Int.toNat_natCast, xx_cancel]; omega
def sumD (f : Nat → Nat) : Nat → Nat
  | 0 => 0
  | m + 1 => sumD f m + f m
theorem sumD_add (f g : Nat → Nat) : ∀ m, sumD (fun d => f d + g d) m = sumD f m + sumD g m
  | 0 => rfl
  | m + 1 => by simp only [sumD, sumD_add f g m]; omega
theorem sumD_zero : ∀ m, sumD (fun _ => 0) m = 0
  | 0 => rfl
  | m + 1 => by simp only [sumD, sumD_zero m]
theorem sumD_one (x : Int) : ∀ m : Nat, sumD (fun d => if x = ((d + 1 : Nat) : Int) then 1 else 0) m = if 1 ≤ x ∧ x ≤ (m : Int) then 1 else 0
  | 0 => by
    rw [if_neg (by omega)]; rfl
  | m + 1 => by
    simp only [sumD, sumD_one x m]
    by_cases h : x = ((m + 1 : Nat) : Int)
    · rw [if_pos h, if_neg (by omega), if_pos (by omega)]
    · rw [if_neg h]
      by_cases h2 : 1 ≤ x ∧ x ≤ (m : Int)
      · rw [if_pos h2, if_pos (by omega)]
      · rw [if_neg h2, if_neg (by omega)]
theorem sumR {l : List Int} {i : Nat} : ∀ k, (∀ j, j < k → 1 ≤ farC (l.getD i 0) (l.getD j 0)) → sumD (fun d => cfR l ((d + 1 : Nat) : Int) i k) 7 = k
  | 0, _ => rfl
  | k + 1, h => by
    have h1 := h k (by omega)
    have h2 := farC_le (l.getD i 0) (l.getD k 0)
    have e : (fun d => cfR l ((d + 1 : Nat) : Int) i (k + 1)) = fun d => cfR l ((d + 1 : Nat) : Int) i k + (if farC (l.getD i 0) (l.getD k 0) = ((d + 1 : Nat) : Int) then 1 else 0) := by funext d; rw [cfR, cf1]
    rw [e, sumD_add, sumR k (fun j hj => h j (by omega)), sumD_one, if_pos (by omega)]
def tr2 : Nat → Nat
  | 0 => 0
  | n + 1 => tr2 n + n
theorem tr2_eq : ∀ n : Nat, 2 * (tr2 n : Int) = (n : Int) * ((n : Int) - 1)
  | 0 => rfl
  | n + 1 => by
    have ih := tr2_eq n
    have e : ((n + 1 : Nat) : Int) * (((n + 1 : Nat) : Int) - 1) = (n : Int) * ((n : Int) - 1) + 2 * n := by
      rw [show ((n + 1 : Nat) : Int) = (n : Int) + 1 by omega, show (n : Int) + 1 - 1 = n by omega, Int.add_mul, Int.mul_sub]; omega
    rw [e, tr2]; omega
theorem sumL {l : List Int} (h : CodeP l) : ∀ n, n ≤ l.length → sumD (fun d => cfL l ((d + 1 : Nat) : Int) n) 7 = tr2 n
  | 0, _ => sumD_zero 7
  | n + 1, hn => by
    have e : (fun d => cfL l ((d + 1 : Nat) : Int) (n + 1)) = fun d => cfL l ((d + 1 : Nat) : Int) n + cfR l ((d + 1 : Nat) : Int) n n := rfl
    rw [e, sumD_add, sumL h n (by omega), sumR n (fun j hj => h.far hj (by omega)), tr2]
theorem sumD_le (l : List Int) (n : Nat) : ∀ m, sumD (fun d => cfL l ((d + 1 : Nat) : Int) n) m ≤ m * (n * n)
  | 0 => by simp [sumD]
  | m + 1 => by
    have h1 := sumD_le l n m
    have h2 := cfL_le l ((m + 1 : Nat) : Int) n
    rw [sumD, Nat.succ_mul]; exact Nat.add_le_add h1 h2
theorem dig_inj {a b : Int} (ha : 0 ≤ a ∧ a ≤ 9) (hb : 0 ≤ b ∧ b ≤ 9) (h : digC a = digC b) : a = b := by
  have h1 := digOf_at ha.1 ha.2 (show digT.getD a.toNat 0 = digC a from rfl)
  have h2 := digOf_at hb.1 hb.2 (show digT.getD b.toNat 0 = digC b from rfl)
  rw [h] at h1; omega
theorem dcd_at (l : List Int) {j : Nat} (h : j < l.length) : (dcd l).getD j 0 = digC (l.getD j 0) := by
  unfold dcd
  simp [List.getD_eq_getElem?_getD, h]
theorem hasK_dcd {l : List Int} {x : Int} (hx : 0 ≤ x ∧ x ≤ 9) (hl : ∀ j, j < l.length → 0 ≤ l.getD j 0 ∧ l.getD j 0 ≤ 9) : ∀ k, k ≤ l.length → hasK (dcd l) (digC x) k = hasK l x k
  | 0, _ => rfl
  | k + 1, hk => by
    rw [hasK, hasK, hasK_dcd hx hl k (by omega), dcd_at l (by omega)]
    congr 1
    exact decide_eq_decide.mpr ⟨fun h => dig_inj (hl k (by omega)) hx h, fun h => by rw [h]⟩
theorem dcd_codK {l : List Int} (h : DigP l) : ∀ k, k ≤ l.length → codK (dcd l) k = true
  | 0, _ => rfl
  | k + 1, hk => by
    have e := dcd_at l (j := k) (by omega)
    have hd := fun j hj => (ordK_at h.2 (j := j) hj).1
    refine codK_succ (dcd_codK h k (by omega)) ?_ ?_
    · rw [e]; exact digT_cell _
    · rw [e, hasK_dcd (hd k (by omega)) hd k (by omega)]
      exact (ordK_at h.2 (j := k) (by omega)).2
theorem dcd_code {l : List Int} (h : DigP l) : CodeP (dcd l) := by
  have := ord_len h.2
  have := h.1
  refine ⟨by rw [dcd_len]; omega, ?_⟩
  rw [dcd_len]; exact dcd_codK h l.length (Nat.le_refl _)
theorem gap_len {l : List Int} (h : CodeP l) : ((prL l (gpL l l.length) l.length).length : Int) = 0 ↔ (l.length : Int) = 1 := by
  have h1 := h.1
  constructor
  · intro h2
    by_cases h3 : l.length = 1
    · omega
    · exfalso
      have hp := gpL_pos h (by omega)
      have hm := gpL_min h l.length (Nat.le_refl _)
      rcases hm with ⟨h4, _⟩ | ⟨h4, _⟩
      · omega
      · have := prL_A.2 h4
        exact this (List.eq_nil_of_length_eq_zero (by omega))
  · intro h2
    have h3 : l.length = 1 := by omega
    cases hp : prL l (gpL l l.length) l.length with
    | nil => rfl
    | cons p r =>
      have := prL_mem l.length (Nat.le_refl _) p (by rw [hp]; exact List.mem_cons_self)
      omega
theorem prI_at {l : List Int} (hC : CodeP l) (i : Nat) (h : i < (if CodeP l then prL l (gpL l l.length) l.length else []).length) : (0 ≤ ((if CodeP l then prL l (gpL l l.length) l.length else []).getD i (0, 0)).1 ∧ ((if CodeP l then prL l (gpL l l.length) l.length else []).getD i (0, 0)).1 < ((if CodeP l then prL l (gpL l l.length) l.length else []).getD i (0, 0)).2 ∧ ((if CodeP l then prL l (gpL l l.length) l.length else []).getD i (0, 0)).2 < l.length) ∧ farC (l.getD ((if CodeP l then prL l (gpL l l.length) l.length else []).getD i (0, 0)).1.toNat 0) (l.getD ((if CodeP l then prL l (gpL l l.length) l.length else []).getD i (0, 0)).2.toNat 0) = (if CodeP l then gpL l l.length else 0) := by
  rw [if_pos hC] at h ⊢
  have := prL_at hC i h
  rw [if_pos hC]; exact this
theorem gapI_le (l : List Int) : 0 ≤ (if CodeP l then gpL l l.length else 0) ∧ (if CodeP l then gpL l l.length else 0) ≤ 7 := by
  have := gpL_le l l.length
  split <;> omega
theorem gapI_pos {l : List Int} (h : CodeP l ∧ ¬ ((l.length : Int) = 1)) : 1 ≤ (if CodeP l then gpL l l.length else 0) ∧ 1 ≤ gpL l l.length := by
  have := gpL_pos h.1 (by have := h.1.1; omega)
  rw [if_pos h.1]; omega
section
variable {u : List Int} {b : Int} (h : CodeP u ∧ 0 ≤ b ∧ b ≤ 127)
include h
theorem flip1 : CodeP (if CodeP u ∧ 0 ≤ b ∧ b ≤ 127 then flp u b else []) := by rw [if_pos h]; exact flp_code h.1 h.2
theorem flip2 : (if CodeP u then gpL u u.length else 0) = if CodeP (if CodeP u ∧ 0 ≤ b ∧ b ≤ 127 then flp u b else []) then gpL (if CodeP u ∧ 0 ≤ b ∧ b ≤ 127 then flp u b else []) (if CodeP u ∧ 0 ≤ b ∧ b ≤ 127 then flp u b else []).length else 0 := by
  rw [if_pos (flip1 h), if_pos h.1, if_pos h, gpL_flp]
theorem flip3 : (if CodeP (if CodeP u ∧ 0 ≤ b ∧ b ≤ 127 then flp u b else []) ∧ 0 ≤ b ∧ b ≤ 127 then flp (if CodeP u ∧ 0 ≤ b ∧ b ≤ 127 then flp u b else []) b else []) = u := by
  rw [if_pos ⟨flip1 h, h.2⟩, if_pos h, flp_flp (fun j hj => (h.1.cell j hj).1)]
end
theorem sumD_bd {v : List Int} (h : v.length ≤ 12) {m : Nat} (hm : m ≤ 8) : sumD (fun d => cfL v ((d + 1 : Nat) : Int) v.length) m ≤ 1152 := by
  have h1 := sumD_le v v.length m
  have h2 : m * (v.length * v.length) ≤ 8 * (12 * 12) := Nat.mul_le_mul hm (Nat.mul_le_mul h h)
  omega
theorem cfI_bd (v : List Int) (d : Int) : 0 ≤ (if CodeP v ∧ 1 ≤ d ∧ d ≤ 7 then ((cfL v d v.length : Nat) : Int) else 0) ∧ (if CodeP v ∧ 1 ≤ d ∧ d ≤ 7 then ((cfL v d v.length : Nat) : Int) else 0) ≤ 144 := by
  split
  · rename_i h
    have h1 := cfL_le v d v.length
    have h2 : v.length * v.length ≤ 12 * 12 := Nat.mul_le_mul h.1.1.2 h.1.1.2
    omega
  · omega
theorem mul_bd {v : List Int} (h : 1 ≤ v.length) (h2 : v.length ≤ 12) : 0 ≤ (v.length : Int) * ((v.length : Int) - 1) ∧ (v.length : Int) * ((v.length : Int) - 1) ≤ 132 := by
  have a : (0 : Int) ≤ (v.length : Int) - 1 := by omega
  constructor
  · exact Int.mul_nonneg (by omega) a
  · exact Int.mul_le_mul (show (v.length : Int) ≤ 12 by omega) (show (v.length : Int) - 1 ≤ 11 by omega) a (by omega)
theorem sum_all {v : List Int} (h : CodeP v) : ((sumD (fun d => cfL v ((d + 1 : Nat) : Int) v.length) 7 : Nat) : Int) = (v.length : Int) * ((v.length : Int) - 1) / 2 := by
  rw [sumL h v.length (Nat.le_refl _)]
  have := tr2_eq v.length
  omega

set_option maxRecDepth 4000 in
theorem vPairs_c (fs gs : List (Int × Int)) (hf : fs.length ≤ 4611686018427387904) : PCalls Tryd.prog 39 [.sl fs.length (fl fs), .sl gs.length (fl gs)] (· = [.val (.bool (decide (fs = gs)))]) := by
  refine pcalls_of_code (n := 26) az Tryd.func39 (by kernel_rfl) rfl rfl (Nat.le_of_ble_eq_true rfl) (by intro t u h; simp [Tryd.f39] at h) ?_
  have hfl := fl_len fs
  have hgl := fl_len gs
  have hff := fl_flat fs
  have hgf := fl_flat gs
  refine code_seq (fun K1 hK1 => ?_)
  refine code_region ?_
  refine list_cons rfl (op_q (q_assign rfl (by decide)) ?_)
  refine list_nil ?_
  refine hK1 _ ?_; clear hK1 K1
  refine code_seq (fun K2 hK2 => ?_)
  refine code_seq (fun K3 hK3 => ?_)
  refine code_region ?_
  refine list_cons rfl (op_q (q_move rfl (by decide)) ?_)
  refine list_cons rfl (op_q (q_len_sl Tryd.underlying45 rfl rfl (by decide)) ?_)
  refine list_cons rfl (op_q (q_move rfl (by decide)) ?_)
  refine list_cons rfl (op_q (q_len_sl Tryd.underlying45 rfl rfl (by decide)) ?_)
  refine list_cons rfl (op_q (q_ne rfl rfl (by decide)) ?_)
  refine list_nil ?_
  refine hK3 _ ?_; clear hK3 K3
  refine code_cond_d rfl (fun h1 => ?_) (fun h1 => ?_)
  · skip
    (try simp only [Decidable.not_not] at h1)
    refine code_seq (fun K4 hK4 => ?_)
    refine code_region ?_
    refine list_cons rfl (op_q (q_assign rfl (by decide)) ?_)
    refine list_nil ?_
    refine hK4 _ ?_; clear hK4 K4
    refine code_ret ?_
    refine then_r ?_; clear hK2 K2
    refine ends_ret (cs := []) rfl rfl rfl rfl trivial ?_
    first
      | rw [decide_eq_true (list_eq_ofP fs gs (by omega) fun j hj => i3 j (by omega))]
      | (rw [decide_eq_false (fun e => h1 (by subst e; exact ⟨rfl, rfl, trivial⟩))]; done)
      | rw [decide_eq_false (fun e => h1 (by rw [e]))]
  (try simp only [Decidable.not_not] at h1)
  refine code_skip ?_
  refine hK2 _ ?_; clear hK2 K2
  refine code_seq (fun K5 hK5 => ?_)
  refine code_seq (fun K6 hK6 => ?_)
  refine code_region ?_
  refine list_cons rfl (op_q (q_assign rfl (by decide)) ?_)
  refine list_nil ?_
  refine hK6 _ ?_; clear hK6 K6
  refine code_block ?_
  refine code_loop (X := Bool × Int) (fun x => [(0, .par 0 (.sl fs.length (fl fs))), (1, .par 1 (.sl gs.length (fl gs))), (4, .val (.bool x.1)), (5, .val (.int .i64 x.2))]) (fun x => 0 ≤ x.2 ∧ x.2 ≤ fs.length ∧ ∀ j, j < x.2.toNat → fs.getD j (0, 0) = gs.getD j (0, 0)) (fun x => fs.length - x.2.toNat) (_, _) (imp_covers ⟨rfl, rfl, rfl, rfl, trivial⟩) ?_ ?_
  · (try dsimp only)
    refine ⟨by omega, by omega, fun j hj => by simp at hj⟩
  · intro x hI
    obtain ⟨t4, i⟩ := x
    replace hI : 0 ≤ i ∧ i ≤ fs.length ∧ ∀ j, j < i.toNat → fs.getD j (0, 0) = gs.getD j (0, 0) := hI
    show codeT _ _ _ [(0, .par 0 (.sl fs.length (fl fs))), (1, .par 1 (.sl gs.length (fl gs))), (4, .val (.bool t4)), (5, .val (.int .i64 i))] _
    obtain ⟨i1, i2, i3⟩ := hI
    refine code_seq (fun K7 hK7 => ?_)
    refine code_seq (fun K8 hK8 => ?_)
    refine code_region ?_
    refine list_cons rfl (op_q (q_move rfl (by decide)) ?_)
    refine list_cons rfl (op_q (q_move rfl (by decide)) ?_)
    refine list_cons rfl (op_q (q_len_sl Tryd.underlying45 rfl rfl (by decide)) ?_)
    refine list_cons rfl (op_q (q_lt rfl rfl (by decide)) ?_)
    refine list_nil ?_
    refine hK8 _ ?_; clear hK8 K8
    refine code_cond_d rfl (fun h2 => ?_) (fun h2 => ?_)
    · skip
      (try simp only [Decidable.not_not] at h2)
      refine code_skip ?_
      refine hK7 _ ?_; clear hK7 K7
      refine code_seq (fun K9 hK9 => ?_)
      refine code_block ?_
      refine code_seq (fun K10 hK10 => ?_)
      refine code_draw (by kernel_rfl) (by kernel_rfl) ?_
      refine draw_q rfl (q_move rfl (by decide)) ?_
      refine draw_q rfl (q_move rfl (by decide)) ?_
      refine draw_q rfl (q_indexAddr_rd sl_45 rfl (.inl ⟨_, rfl, rfl⟩) rfl (by omega) (by omega) (by decide)) ?_
      refine draw_q rfl (q_load_rd_aggE agg_56 rfl (.inl ⟨_, rfl⟩) (by first | decide | omega | exact Nat.le_refl _ | (simp; done) | (simp; omega)) (by first | exact fl_at fs i.toNat (by omega) | exact fl_at gs i.toNat (by omega)) rfl (by decide)) ?_
      refine draw_q rfl (q_move rfl (by decide)) ?_
      refine draw_q rfl (q_move rfl (by decide)) ?_
      refine draw_q rfl (q_indexAddr_rd sl_45 rfl (.inl ⟨_, rfl, rfl⟩) rfl (by omega) (by omega) (by decide)) ?_
      refine draw_q rfl (q_load_rd_aggE agg_56 rfl (.inl ⟨_, rfl⟩) (by first | decide | omega | exact Nat.le_refl _ | (simp; done) | (simp; omega)) (by first | exact fl_at fs i.toNat (by omega) | exact fl_at gs i.toNat (by omega)) rfl (by decide)) ?_
      refine draw_q rfl (q_aggne (by decide) agg_56 eqty_56 eqg_56 rfl rfl (by first | exact ⟨_, _, rfl, ⟨_, rfl⟩, ⟨_, _, rfl, ⟨_, rfl⟩, trivial⟩⟩) (by first | exact ⟨_, _, rfl, ⟨_, rfl⟩, ⟨_, _, rfl, ⟨_, rfl⟩, trivial⟩⟩) rfl rfl (by decide)) ?_
      refine draw_nil ?_
      refine hK10 _ ?_; clear hK10 K10
      refine codeT.imp (σ' := [(0, _), (1, _), (4, _), (5, _), (25, _)]) ?_ (imp_covers ⟨rfl, rfl, rfl, rfl, rfl, trivial⟩)
      refine code_cond_d rfl (fun h3 => ?_) (fun h3 => ?_)
      · skip
        (try simp only [Decidable.not_not] at h3)
        refine code_seq (fun K11 hK11 => ?_)
        refine code_region ?_
        refine list_cons rfl (op_q (q_assign rfl (by decide)) ?_)
        refine list_nil ?_
        refine hK11 _ ?_; clear hK11 K11
        refine code_ret ?_
        refine blk_r ?_
        refine then_r ?_; clear hK9 K9
        refine then_r ?_
        refine blk_r ?_
        refine then_r ?_; clear hK5 K5
        refine ends_ret (cs := []) rfl rfl rfl rfl trivial ?_
        first
          | rw [decide_eq_true (list_eq_ofP fs gs (by omega) fun j hj => i3 j (by omega))]
          | (rw [decide_eq_false (fun e => h3 (by subst e; exact ⟨rfl, rfl, trivial⟩))]; done)
          | rw [decide_eq_false (fun e => h3 (by rw [e]))]
      (try simp only [Decidable.not_not] at h3)
      refine code_skip ?_
      refine blk_n ?_
      refine hK9 _ ?_; clear hK9 K9
      refine code_region ?_
      refine list_cons rfl (op_q (q_move rfl (by decide)) ?_)
      refine list_cons rfl (op_q (by first | exact q_addI rfl rfl (by decide) (by omega) (by omega) | exact q_ib rfl rfl rfl (by decide)) ?_)
      refine list_cons rfl (op_q (q_assign rfl (by decide)) ?_)
      refine list_nil ?_
      refine then_n ⟨(_, _), imp_covers ⟨rfl, rfl, rfl, rfl, trivial⟩, ?_, ?_⟩
      · (try dsimp only)
        refine ⟨by omega, by omega, fun j hj => ?_⟩
        by_cases e : j = i.toNat
        · subst e
          have hq := h3
          simp only [EqP, Eq1] at hq
          exact Prod.ext hq.1 hq.2.1
        · exact i3 j (by omega)
      · (try dsimp only); omega
    (try simp only [Decidable.not_not] at h2)
    refine code_exit ?_
    refine then_x ?_; clear hK7 K7
    refine then_x ?_
    refine blk_hit ?_
    refine hK5 _ ?_; clear hK5 K5
    refine code_seq (fun K12 hK12 => ?_)
    refine code_region ?_
    refine list_cons rfl (op_q (q_assign rfl (by decide)) ?_)
    refine list_nil ?_
    refine hK12 _ ?_; clear hK12 K12
    refine code_ret ?_
    refine ends_ret (cs := []) rfl rfl rfl rfl trivial ?_
    first
      | rw [decide_eq_true (list_eq_ofP fs gs (by omega) fun j hj => i3 j (by omega))]
      | (rw [decide_eq_false (fun e => h2 (by subst e; exact ⟨rfl, rfl, trivial⟩))]; done)
      | rw [decide_eq_false (fun e => h2 (by rw [e]))]

end Go.Proofs.YtjbbijlbenkgcaaDoor
