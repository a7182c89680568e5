/- Contracts of functions, walked over the pure layer; each says for which arguments. -/
import Derived.Test.YtjbbijlbenkgcaaDoorRows
import Derived.Test.YtjbbijlbenkgcaaDoorPwR
import Derived.Test.YtjbbijlbenkgcaaDoorTf
import Derived.Test.YtjbbijlbenkgcaaDoorSp
import Derived.Test.YtjbbijlbenkgcaaDoorS3
import Derived.Test.YtjbbijlbenkgcaaDoorS3b
import Derived.Test.YtjbbijlbenkgcaaDoorS3d
import Derived.Test.YtjbbijlbenkgcaaDoorShelf
import Derived.Test.YtjbbijlbenkgcaaDoorIm
import Derived.Test.YtjbbijlbenkgcaaDoorIm3f
import Derived.Test.YtjbbijlbenkgcaaDoorIm3g
import Derived.Test.YtjbbijlbenkgcaaDoorS3c
import Derived.Test.YtjbbijlbenkgcaaDoorMgH
import Derived.Test.YtjbbijlbenkgcaaDoorCFo
namespace Go.Proofs.YtjbbijlbenkgcaaDoor.DrTy
open Go.RowKit

def az (u : TypeId) : Nat := match u with  | _ => 0

theorem fi_74_1 : FiTy Tryd.prog 74 1 1 := fiTy_of (k := 1) Tryd.underlying74 rfl rfl (by kernel_rfl) (by decide)
theorem one_3 : OneTy Tryd.prog 3 := oneTy_of Tryd.underlying3 rfl (by kernel_rfl)
theorem fi_74_0 : FiTy Tryd.prog 74 0 0 := fiTy_of (k := 1) Tryd.underlying74 rfl rfl (by kernel_rfl) (by decide)
theorem one_22 : OneTy Tryd.prog 22 := oneTy_of Tryd.underlying22 rfl (by kernel_rfl)
theorem sl_22 : SlTy Tryd.prog 22 5 1 1 [.int .u8 0] := slTy_of Tryd.underlying22 (z := .int .u8 0) (by kernel_rfl) rfl (by decide) (by decide) rfl
theorem one_5 : OneTy Tryd.prog 5 := oneTy_of Tryd.underlying5 rfl (by kernel_rfl)
theorem fi_74_2 : FiTy Tryd.prog 74 2 2 := fiTy_of (k := 1) Tryd.underlying74 rfl rfl (by kernel_rfl) (by decide)
theorem one_72 : OneTy Tryd.prog 72 := oneTy_of Tryd.underlying72 rfl (by kernel_rfl)
theorem sl_24 : SlTy Tryd.prog 24 3 1 8 [.int .i64 0] := slTy_of Tryd.underlying24 (z := .int .i64 0) (by kernel_rfl) rfl (by decide) (by decide) rfl

end Go.Proofs.YtjbbijlbenkgcaaDoor.DrTy
namespace Go.Proofs.YtjbbijlbenkgcaaDoor
open Go.RowKit DrTy
set_option linter.unusedVariables false
set_option linter.unusedSimpArgs false

theorem iand_255 (x : Int) : 0 ≤ iand .u64 x 255 ∧ iand .u64 x 255 ≤ 255 := by
  unfold iand
  rw [BitVec.toNat_and, show (BitVec.ofInt IntKind.u64.bits 255).toNat = 255 from rfl]
  have h : (BitVec.ofInt IntKind.u64.bits x).toNat &&& 255 ≤ 255 := Nat.and_le_right
  rw [IntWalk.u64_in _ ⟨by omega, by omega⟩]
  omega
theorem getD_mem {l : List Int} {k : Nat} (h : k < l.length) : l.getD k 0 ∈ l := by
  rw [List.getD_eq_getElem?_getD, List.getElem?_eq_getElem h]; exact List.getElem_mem h
theorem p2_64 {k : Nat} (h : k ≤ 6) : p2 k ≤ 64 := by
  have : p2 k ≤ p2 6 := Nat.pow_le_pow_right (by omega) h
  exact this
theorem xor7c {x y : Int} (hx : 0 ≤ x ∧ x ≤ 127) (hy : 0 ≤ y ∧ y ≤ 127) : 0 ≤ ((x.toNat ^^^ y.toNat : Nat) : Int) ∧ ((x.toNat ^^^ y.toNat : Nat) : Int) ≤ 127 := by
  have h := @Nat.xor_lt_two_pow x.toNat y.toNat 7 (by omega) (by omega)
  omega
theorem iandw_255 (x : Int) : 0 ≤ IntKind.i64.wrap (iand .u64 x 255) ∧ IntKind.i64.wrap (iand .u64 x 255) ≤ 255 := by
  have h := iand_255 x
  rw [wrap_in (by omega) (by omega)]; exact h

set_option maxRecDepth 4000 in
theorem next_c (code : List UInt8) (hcode : code.length ≤ 9223372036854775807) (a s : Int) (ha : 0 ≤ a) (ha2 : a ≤ 4611686018427387904) : MCalls Tryd.prog 117 false (some (.box 74 [.sl code.length (bytesP code), .int .i64 a, .int .u64 s])) [] fun rs cs => ∃ b s2 : Int, 0 ≤ b ∧ b ≤ 255 ∧ rs = [.val (.int .i64 b)] ∧ cs = [.sl code.length (bytesP code), .int .i64 (a + 1), .int .u64 s2] := by
  refine mcalls_of_code (n := 62) az Tryd.func117 (by kernel_rfl) rfl rfl (Nat.le_of_ble_eq_true rfl) (by intro t u h; simp [Tryd.f117] at h) ?_
  refine code_seq (fun K1 hK1 => ?_)
  refine code_region ?_
  refine list_cons rfl (op_q (q_assign rfl (by decide)) ?_)
  refine list_nil ?_
  refine hK1 _ ?_; clear hK1 K1
  refine code_seq (fun K2 hK2 => ?_)
  refine code_region ?_
  refine list_cons rfl (op_q (q_assign rfl (by decide)) ?_)
  refine list_nil ?_
  refine hK2 _ ?_; clear hK2 K2
  refine code_seq (fun K3 hK3 => ?_)
  refine code_seq (fun K4 hK4 => ?_)
  refine code_draw (by kernel_rfl) (by kernel_rfl) ?_
  refine draw_q rfl (q_move rfl (by decide)) ?_
  refine draw_q rfl (q_nilCheck rfl rfl (by decide)) ?_
  refine draw_q rfl (q_fieldAddr fi_74_1 rfl rfl (by decide)) ?_
  refine draw_q rfl (q_load one_3 0 rfl rfl rfl (by first | rfl | exact get_map1 _ 0 _ (by first | omega | (simp; omega))) (by decide)) ?_
  refine draw_q rfl (q_move rfl (by decide)) ?_
  refine draw_q rfl (q_nilCheck rfl rfl (by decide)) ?_
  refine draw_q rfl (q_fieldAddr fi_74_0 rfl rfl (by decide)) ?_
  refine draw_q rfl (q_load one_22 0 rfl rfl rfl (by first | rfl | exact get_map1 _ [] _ (by first | omega | (simp; omega))) (by decide)) ?_
  refine draw_q rfl (q_len_sl Tryd.underlying22 rfl rfl (by decide)) ?_
  refine draw_q rfl (q_lt rfl rfl (by decide)) ?_
  refine draw_nil ?_
  refine hK4 _ ?_; clear hK4 K4
  refine codeT.imp (σ' := [(0, _), (2, _), (3, _), (13, _)]) ?_ (imp_covers ⟨rfl, rfl, rfl, rfl, trivial⟩)
  refine code_cond_d rfl (fun h1 => ?_) (fun h1 => ?_)
  · skip
    (try simp only [Decidable.not_not] at h1)
    refine code_draw (by kernel_rfl) (by kernel_rfl) ?_
    refine draw_q rfl (q_move rfl (by decide)) ?_
    refine draw_q rfl (q_nilCheck rfl rfl (by decide)) ?_
    refine draw_q rfl (q_fieldAddr fi_74_0 rfl rfl (by decide)) ?_
    refine draw_q rfl (q_load one_22 0 rfl rfl rfl (by first | rfl | exact get_map1 _ [] _ (by first | omega | (simp; omega))) (by decide)) ?_
    refine draw_q rfl (q_move rfl (by decide)) ?_
    refine draw_q rfl (q_nilCheck rfl rfl (by decide)) ?_
    refine draw_q rfl (q_fieldAddr fi_74_1 rfl rfl (by decide)) ?_
    refine draw_q rfl (q_load one_3 0 rfl rfl rfl (by first | rfl | exact get_map1 _ 0 _ (by first | omega | (simp; omega))) (by decide)) ?_
    refine draw_q rfl (q_indexAddr_rd sl_22 rfl (.inr ⟨_, rfl, rfl⟩) rfl (by omega) (by omega) (by decide)) ?_
    refine draw_q rfl (q_load_rd one_5 rfl (.inr ⟨_, (by first | rfl | exact congrArg (SV.rbor _) (drop_map1 _ 0 _ (by first | omega | (simp; omega)))), rfl⟩) (by decide)) ?_
    refine draw_q rfl (by first | exact q_convB (by rw [Tryd.underlying5]; rfl) Tryd.underlying3 rfl (by decide) | exact q_convI (by rw [Tryd.underlying5]; rfl) Tryd.underlying3 rfl (by decide) (by omega) (by omega) | exact q_conv (by rw [Tryd.underlying5]; rfl) Tryd.underlying3 rfl (by decide)) ?_
    refine draw_q rfl (q_assign rfl (by decide)) ?_
    refine draw_nil ?_
    refine hK3 _ ?_; clear hK3 K3
    refine codeT.imp (σ' := [(0, _), (2, _), (3, _)]) ?_ (imp_covers ⟨rfl, rfl, rfl, trivial⟩)
    refine code_seq (fun K5 hK5 => ?_)
    refine code_region ?_
    refine list_cons rfl (op_q (q_move rfl (by decide)) ?_)
    refine list_cons rfl (op_q (q_nilCheck rfl rfl (by decide)) ?_)
    refine list_cons rfl (op_q (q_fieldAddr fi_74_1 rfl rfl (by decide)) ?_)
    refine list_cons rfl (op_q (q_load one_3 0 rfl rfl rfl (by first | rfl | exact get_map1 _ 0 _ (by first | omega | (simp; omega))) (by decide)) ?_)
    refine list_cons rfl (op_q (by first | exact q_addI rfl rfl (by decide) (by omega) (by omega) | exact q_ib rfl rfl rfl (by decide)) ?_)
    refine list_cons rfl (op_q (q_nilCheck rfl rfl (by decide)) ?_)
    refine list_cons rfl (op_q (q_fieldAddr fi_74_1 rfl rfl (by decide)) ?_)
    refine list_cons rfl (op_store (one_3).2 0 [0, 25, 26, 30] (by intro t ht; simp only [List.mem_cons, List.not_mem_nil, or_false] at ht; rcases ht with rfl | rfl | rfl | rfl <;> rfl) (.inl rfl) rfl rfl rfl rfl rfl rfl (by first | decide | omega | exact Nat.le_refl _ | (simp; done) | (simp; omega)) (by decide) rfl ?_)
    refine list_nil ?_
    refine hK5 _ ?_; clear hK5 K5
    refine codeT.imp (σ' := [(0, _), (2, _), (3, _)]) ?_ (imp_covers ⟨rfl, rfl, rfl, trivial⟩)
    refine code_seq (fun K6 hK6 => ?_)
    refine code_region ?_
    refine list_cons rfl (op_q (q_move rfl (by decide)) ?_)
    refine list_cons rfl (op_q (q_move rfl (by decide)) ?_)
    refine list_cons rfl (op_q (q_nilCheck rfl rfl (by decide)) ?_)
    refine list_cons rfl (op_q (q_fieldAddr fi_74_2 rfl rfl (by decide)) ?_)
    refine list_cons rfl (op_q (q_load one_72 0 rfl rfl rfl (by first | rfl | exact get_map1 _ 0 _ (by first | omega | (simp; omega))) (by decide)) ?_)
    refine list_cons rfl (op_q (q_ib rfl rfl rfl (by decide)) ?_)
    refine list_cons rfl (op_q (q_move rfl (by decide)) ?_)
    refine list_cons rfl (op_q (by first | exact q_convU (by rw [Tryd.underlying3]; rfl) Tryd.underlying72 rfl (by decide) (by omega) (by omega) | exact q_conv (by rw [Tryd.underlying3]; rfl) Tryd.underlying72 rfl (by decide)) ?_)
    refine list_cons rfl (op_q (q_ib rfl rfl rfl (by decide)) ?_)
    refine list_cons rfl (op_q (q_ib rfl rfl rfl (by decide)) ?_)
    refine list_cons rfl (op_q (q_nilCheck rfl rfl (by decide)) ?_)
    refine list_cons rfl (op_q (q_fieldAddr fi_74_2 rfl rfl (by decide)) ?_)
    refine list_cons rfl (op_store (one_72).2 0 [0, 32, 33, 34, 42] (by intro t ht; simp only [List.mem_cons, List.not_mem_nil, or_false] at ht; rcases ht with rfl | rfl | rfl | rfl | rfl <;> rfl) (.inl rfl) rfl rfl rfl rfl rfl rfl (by first | decide | omega | exact Nat.le_refl _ | (simp; done) | (simp; omega)) (by decide) rfl ?_)
    refine list_nil ?_
    refine hK6 _ ?_; clear hK6 K6
    refine codeT.imp (σ' := [(0, _), (2, _), (3, _)]) ?_ (imp_covers ⟨rfl, rfl, rfl, trivial⟩)
    refine code_seq (fun K7 hK7 => ?_)
    refine code_seq (fun K8 hK8 => ?_)
    refine code_draw (by kernel_rfl) (by kernel_rfl) ?_
    refine draw_q rfl (q_move rfl (by decide)) ?_
    refine draw_q rfl (q_nilCheck rfl rfl (by decide)) ?_
    refine draw_q rfl (q_fieldAddr fi_74_1 rfl rfl (by decide)) ?_
    refine draw_q rfl (q_load one_3 0 rfl rfl rfl (by first | rfl | exact get_map1 _ 0 _ (by first | omega | (simp; omega))) (by decide)) ?_
    refine draw_q rfl (q_move rfl (by decide)) ?_
    refine draw_q rfl (q_nilCheck rfl rfl (by decide)) ?_
    refine draw_q rfl (q_fieldAddr fi_74_0 rfl rfl (by decide)) ?_
    refine draw_q rfl (q_load one_22 0 rfl rfl rfl (by first | rfl | exact get_map1 _ [] _ (by first | omega | (simp; omega))) (by decide)) ?_
    refine draw_q rfl (q_len_sl Tryd.underlying22 rfl rfl (by decide)) ?_
    refine draw_q rfl (q_le rfl rfl (by decide)) ?_
    refine draw_nil ?_
    refine hK8 _ ?_; clear hK8 K8
    refine codeT.imp (σ' := [(0, _), (2, _), (3, _), (53, _)]) ?_ (imp_covers ⟨rfl, rfl, rfl, rfl, trivial⟩)
    refine code_cond_d rfl (fun h2 => ?_) (fun h2 => ?_)
    · skip
      (try simp only [Decidable.not_not] at h2)
      refine code_seq (fun K9 hK9 => ?_)
      refine code_region ?_
      refine list_cons rfl (op_q (q_move rfl (by decide)) ?_)
      refine list_cons rfl (op_q (q_assign rfl (by decide)) ?_)
      refine list_nil ?_
      refine hK9 _ ?_; clear hK9 K9
      refine code_ret ?_
      refine then_r ?_; clear hK7 K7
      refine ends_ret (cs := _) rfl rfl rfl rfl rfl ?_
      first | exact ⟨_, _, (iand_255 _).1, (iand_255 _).2, rfl, rfl⟩ | exact ⟨_, _, (iandw_255 _).1, (iandw_255 _).2, rfl, rfl⟩ | exact ⟨_, _, by have := UInt8.toNat_lt (code.getD a.toNat 0); omega, by have := UInt8.toNat_lt (code.getD a.toNat 0); omega, rfl, rfl⟩ | exact ⟨_, _, by omega, by omega, rfl, rfl⟩
    · skip
      (try simp only [Decidable.not_not] at h2)
      refine code_skip ?_
      refine hK7 _ ?_; clear hK7 K7
      refine code_seq (fun K10 hK10 => ?_)
      refine code_region ?_
      refine list_cons rfl (op_q (q_move rfl (by decide)) ?_)
      refine list_cons rfl (op_q (q_nilCheck rfl rfl (by decide)) ?_)
      refine list_cons rfl (op_q (q_fieldAddr fi_74_2 rfl rfl (by decide)) ?_)
      refine list_cons rfl (op_q (q_load one_72 0 rfl rfl rfl (by first | rfl | exact get_map1 _ 0 _ (by first | omega | (simp; omega))) (by decide)) ?_)
      refine list_cons rfl (op_q (q_shr rfl rfl (by omega) (by decide)) ?_)
      refine list_cons rfl (op_q (q_ib rfl rfl rfl (by decide)) ?_)
      refine list_cons rfl (op_q (by first | exact q_convB (by rw [Tryd.underlying72]; rfl) Tryd.underlying3 rfl (by decide) | exact q_convI (by rw [Tryd.underlying72]; rfl) Tryd.underlying3 rfl (by decide) (by omega) (by omega) | exact q_conv (by rw [Tryd.underlying72]; rfl) Tryd.underlying3 rfl (by decide)) ?_)
      refine list_cons rfl (op_q (q_assign rfl (by decide)) ?_)
      refine list_nil ?_
      refine hK10 _ ?_; clear hK10 K10
      refine codeT.imp (σ' := [(0, _), (2, _), (3, _)]) ?_ (imp_covers ⟨rfl, rfl, rfl, trivial⟩)
      refine code_ret ?_
      refine ends_ret (cs := _) rfl rfl rfl rfl rfl ?_
      first | exact ⟨_, _, (iand_255 _).1, (iand_255 _).2, rfl, rfl⟩ | exact ⟨_, _, (iandw_255 _).1, (iandw_255 _).2, rfl, rfl⟩ | exact ⟨_, _, by have := UInt8.toNat_lt (code.getD a.toNat 0); omega, by have := UInt8.toNat_lt (code.getD a.toNat 0); omega, rfl, rfl⟩ | exact ⟨_, _, by omega, by omega, rfl, rfl⟩
  · skip
    (try simp only [Decidable.not_not] at h1)
    refine code_skip ?_
    refine hK3 _ ?_; clear hK3 K3
    refine code_seq (fun K11 hK11 => ?_)
    refine code_region ?_
    refine list_cons rfl (op_q (q_move rfl (by decide)) ?_)
    refine list_cons rfl (op_q (q_nilCheck rfl rfl (by decide)) ?_)
    refine list_cons rfl (op_q (q_fieldAddr fi_74_1 rfl rfl (by decide)) ?_)
    refine list_cons rfl (op_q (q_load one_3 0 rfl rfl rfl (by first | rfl | exact get_map1 _ 0 _ (by first | omega | (simp; omega))) (by decide)) ?_)
    refine list_cons rfl (op_q (by first | exact q_addI rfl rfl (by decide) (by omega) (by omega) | exact q_ib rfl rfl rfl (by decide)) ?_)
    refine list_cons rfl (op_q (q_nilCheck rfl rfl (by decide)) ?_)
    refine list_cons rfl (op_q (q_fieldAddr fi_74_1 rfl rfl (by decide)) ?_)
    refine list_cons rfl (op_store (one_3).2 0 [0, 25, 26, 30] (by intro t ht; simp only [List.mem_cons, List.not_mem_nil, or_false] at ht; rcases ht with rfl | rfl | rfl | rfl <;> rfl) (.inl rfl) rfl rfl rfl rfl rfl rfl (by first | decide | omega | exact Nat.le_refl _ | (simp; done) | (simp; omega)) (by decide) rfl ?_)
    refine list_nil ?_
    refine hK11 _ ?_; clear hK11 K11
    refine codeT.imp (σ' := [(0, _), (2, _), (3, _)]) ?_ (imp_covers ⟨rfl, rfl, rfl, trivial⟩)
    refine code_seq (fun K12 hK12 => ?_)
    refine code_region ?_
    refine list_cons rfl (op_q (q_move rfl (by decide)) ?_)
    refine list_cons rfl (op_q (q_move rfl (by decide)) ?_)
    refine list_cons rfl (op_q (q_nilCheck rfl rfl (by decide)) ?_)
    refine list_cons rfl (op_q (q_fieldAddr fi_74_2 rfl rfl (by decide)) ?_)
    refine list_cons rfl (op_q (q_load one_72 0 rfl rfl rfl (by first | rfl | exact get_map1 _ 0 _ (by first | omega | (simp; omega))) (by decide)) ?_)
    refine list_cons rfl (op_q (q_ib rfl rfl rfl (by decide)) ?_)
    refine list_cons rfl (op_q (q_move rfl (by decide)) ?_)
    refine list_cons rfl (op_q (by first | exact q_convU (by rw [Tryd.underlying3]; rfl) Tryd.underlying72 rfl (by decide) (by omega) (by omega) | exact q_conv (by rw [Tryd.underlying3]; rfl) Tryd.underlying72 rfl (by decide)) ?_)
    refine list_cons rfl (op_q (q_ib rfl rfl rfl (by decide)) ?_)
    refine list_cons rfl (op_q (q_ib rfl rfl rfl (by decide)) ?_)
    refine list_cons rfl (op_q (q_nilCheck rfl rfl (by decide)) ?_)
    refine list_cons rfl (op_q (q_fieldAddr fi_74_2 rfl rfl (by decide)) ?_)
    refine list_cons rfl (op_store (one_72).2 0 [0, 32, 33, 34, 42] (by intro t ht; simp only [List.mem_cons, List.not_mem_nil, or_false] at ht; rcases ht with rfl | rfl | rfl | rfl | rfl <;> rfl) (.inl rfl) rfl rfl rfl rfl rfl rfl (by first | decide | omega | exact Nat.le_refl _ | (simp; done) | (simp; omega)) (by decide) rfl ?_)
    refine list_nil ?_
    refine hK12 _ ?_; clear hK12 K12
    refine codeT.imp (σ' := [(0, _), (2, _), (3, _)]) ?_ (imp_covers ⟨rfl, rfl, rfl, trivial⟩)
    refine code_seq (fun K13 hK13 => ?_)
    refine code_seq (fun K14 hK14 => ?_)
    refine code_draw (by kernel_rfl) (by kernel_rfl) ?_
    refine draw_q rfl (q_move rfl (by decide)) ?_
    refine draw_q rfl (q_nilCheck rfl rfl (by decide)) ?_
    refine draw_q rfl (q_fieldAddr fi_74_1 rfl rfl (by decide)) ?_
    refine draw_q rfl (q_load one_3 0 rfl rfl rfl (by first | rfl | exact get_map1 _ 0 _ (by first | omega | (simp; omega))) (by decide)) ?_
    refine draw_q rfl (q_move rfl (by decide)) ?_
    refine draw_q rfl (q_nilCheck rfl rfl (by decide)) ?_
    refine draw_q rfl (q_fieldAddr fi_74_0 rfl rfl (by decide)) ?_
    refine draw_q rfl (q_load one_22 0 rfl rfl rfl (by first | rfl | exact get_map1 _ [] _ (by first | omega | (simp; omega))) (by decide)) ?_
    refine draw_q rfl (q_len_sl Tryd.underlying22 rfl rfl (by decide)) ?_
    refine draw_q rfl (q_le rfl rfl (by decide)) ?_
    refine draw_nil ?_
    refine hK14 _ ?_; clear hK14 K14
    refine codeT.imp (σ' := [(0, _), (2, _), (3, _), (53, _)]) ?_ (imp_covers ⟨rfl, rfl, rfl, rfl, trivial⟩)
    refine code_cond_d rfl (fun h3 => ?_) (fun h3 => ?_)
    · skip
      (try simp only [Decidable.not_not] at h3)
      refine code_seq (fun K15 hK15 => ?_)
      refine code_region ?_
      refine list_cons rfl (op_q (q_move rfl (by decide)) ?_)
      refine list_cons rfl (op_q (q_assign rfl (by decide)) ?_)
      refine list_nil ?_
      refine hK15 _ ?_; clear hK15 K15
      refine code_ret ?_
      refine then_r ?_; clear hK13 K13
      refine ends_ret (cs := _) rfl rfl rfl rfl rfl ?_
      first | exact ⟨_, _, (iand_255 _).1, (iand_255 _).2, rfl, rfl⟩ | exact ⟨_, _, (iandw_255 _).1, (iandw_255 _).2, rfl, rfl⟩ | exact ⟨_, _, by have := UInt8.toNat_lt (code.getD a.toNat 0); omega, by have := UInt8.toNat_lt (code.getD a.toNat 0); omega, rfl, rfl⟩ | exact ⟨_, _, by omega, by omega, rfl, rfl⟩
    · skip
      (try simp only [Decidable.not_not] at h3)
      refine code_skip ?_
      refine hK13 _ ?_; clear hK13 K13
      refine code_seq (fun K16 hK16 => ?_)
      refine code_region ?_
      refine list_cons rfl (op_q (q_move rfl (by decide)) ?_)
      refine list_cons rfl (op_q (q_nilCheck rfl rfl (by decide)) ?_)
      refine list_cons rfl (op_q (q_fieldAddr fi_74_2 rfl rfl (by decide)) ?_)
      refine list_cons rfl (op_q (q_load one_72 0 rfl rfl rfl (by first | rfl | exact get_map1 _ 0 _ (by first | omega | (simp; omega))) (by decide)) ?_)
      refine list_cons rfl (op_q (q_shr rfl rfl (by omega) (by decide)) ?_)
      refine list_cons rfl (op_q (q_ib rfl rfl rfl (by decide)) ?_)
      refine list_cons rfl (op_q (by first | exact q_convB (by rw [Tryd.underlying72]; rfl) Tryd.underlying3 rfl (by decide) | exact q_convI (by rw [Tryd.underlying72]; rfl) Tryd.underlying3 rfl (by decide) (by omega) (by omega) | exact q_conv (by rw [Tryd.underlying72]; rfl) Tryd.underlying3 rfl (by decide)) ?_)
      refine list_cons rfl (op_q (q_assign rfl (by decide)) ?_)
      refine list_nil ?_
      refine hK16 _ ?_; clear hK16 K16
      refine codeT.imp (σ' := [(0, _), (2, _), (3, _)]) ?_ (imp_covers ⟨rfl, rfl, rfl, trivial⟩)
      refine code_ret ?_
      refine ends_ret (cs := _) rfl rfl rfl rfl rfl ?_
      first | exact ⟨_, _, (iand_255 _).1, (iand_255 _).2, rfl, rfl⟩ | exact ⟨_, _, (iandw_255 _).1, (iandw_255 _).2, rfl, rfl⟩ | exact ⟨_, _, by have := UInt8.toNat_lt (code.getD a.toNat 0); omega, by have := UInt8.toNat_lt (code.getD a.toNat 0); omega, rfl, rfl⟩ | exact ⟨_, _, by omega, by omega, rfl, rfl⟩

set_option maxRecDepth 4000 in
theorem pick_c (code : List UInt8) (hcode : code.length ≤ 9223372036854775807) (a s : Int) (ha : 0 ≤ a) (ha2 : a ≤ 4611686018427387900) (k : Int) : MCalls Tryd.prog 67 false (some (.box 74 [.sl code.length (bytesP code), .int .i64 a, .int .u64 s])) [.int .i64 k] fun rs cs => ∃ b a2 s2 : Int, 0 ≤ b ∧ b < max k 1 ∧ a ≤ a2 ∧ a2 ≤ a + 2 ∧ rs = [.val (.int .i64 b)] ∧ cs = [.sl code.length (bytesP code), .int .i64 a2, .int .u64 s2] := by
  refine mcalls_of_code (n := 20) az Tryd.func67 (by kernel_rfl) rfl rfl (Nat.le_of_ble_eq_true rfl) (by intro t u h; simp [Tryd.f67] at h) ?_
  refine code_seq (fun K1 hK1 => ?_)
  refine code_region ?_
  refine list_cons rfl (op_q (q_assign rfl (by decide)) ?_)
  refine list_nil ?_
  refine hK1 _ ?_; clear hK1 K1
  refine code_seq (fun K2 hK2 => ?_)
  refine code_seq (fun K3 hK3 => ?_)
  refine code_region ?_
  refine list_cons rfl (op_q (q_move rfl (by decide)) ?_)
  refine list_cons rfl (op_q (q_le rfl rfl (by decide)) ?_)
  refine list_nil ?_
  refine hK3 _ ?_; clear hK3 K3
  refine code_cond_d rfl (fun h1 => ?_) (fun h1 => ?_)
  · skip
    (try simp only [Decidable.not_not] at h1)
    refine code_seq (fun K4 hK4 => ?_)
    refine code_region ?_
    refine list_cons rfl (op_q (q_assign rfl (by decide)) ?_)
    refine list_nil ?_
    refine hK4 _ ?_; clear hK4 K4
    refine code_ret ?_
    refine then_r ?_; clear hK2 K2
    refine ends_ret (cs := _) rfl rfl rfl rfl rfl ?_
    exact ⟨0, a, s, by omega, by omega, by omega, by omega, rfl, rfl⟩
  · skip
    (try simp only [Decidable.not_not] at h1)
    refine code_skip ?_
    refine hK2 _ ?_; clear hK2 K2
    refine code_seq (fun K5 hK5 => ?_)
    refine code_region ?_
    refine list_cons rfl (op_q (q_move rfl (by decide)) ?_)
    refine list_cons rfl (op_callM (next_c code ?_ _ _ ?_ ?_) (.tmp 8) 2000 [0, 8] [] _ rfl rfl (by intro y hy; cases hy; exact ⟨rfl, (by intro t ht; simp only [List.mem_cons, List.not_mem_nil, or_false] at ht; rcases ht with rfl | rfl <;> rfl), (by intro s hs; simp only [List.mem_cons, List.not_mem_nil, or_false] at hs; (try cases hs))⟩) (by decide) (by decide) (by decide) rfl (fun _ => rfl) ?_)
    · first | assumption | omega | (simp; omega)
    · first | assumption | omega | (simp; omega)
    · first | assumption | omega | (simp; omega)
    rintro _ _ ⟨b, s2, hb0, hb1, rfl, rfl⟩
    refine list_cons rfl (op_q (q_assign rfl (by decide)) ?_)
    refine list_nil ?_
    refine hK5 _ ?_; clear hK5 K5
    refine codeT.imp (σ' := [(0, _), (1, _), (4, _), (5, _)]) ?_ (imp_covers ⟨rfl, rfl, rfl, rfl, trivial⟩)
    refine code_seq (fun K6 hK6 => ?_)
    refine code_seq (fun K7 hK7 => ?_)
    refine code_region ?_
    refine list_cons rfl (op_q (q_move rfl (by decide)) ?_)
    refine list_cons rfl (op_q (q_gt rfl rfl (by decide)) ?_)
    refine list_nil ?_
    refine hK7 _ ?_; clear hK7 K7
    refine code_cond_d rfl (fun h2 => ?_) (fun h2 => ?_)
    · skip
      (try simp only [Decidable.not_not] at h2)
      refine code_region ?_
      refine list_cons rfl (op_q (q_move rfl (by decide)) ?_)
      refine list_cons rfl (op_q (by first | exact q_mulI rfl rfl (by decide) (by omega) (by omega) | exact q_ib rfl rfl rfl (by decide)) ?_)
      refine list_cons rfl (op_q (q_move rfl (by decide)) ?_)
      refine list_cons rfl (op_callM (next_c code ?_ _ _ ?_ ?_) (.tmp 14) 2000 [0, 14] [] _ rfl rfl (by intro y hy; cases hy; exact ⟨rfl, (by intro t ht; simp only [List.mem_cons, List.not_mem_nil, or_false] at ht; rcases ht with rfl | rfl <;> rfl), (by intro s hs; simp only [List.mem_cons, List.not_mem_nil, or_false] at hs; (try cases hs))⟩) (by decide) (by decide) (by decide) rfl (fun _ => rfl) ?_)
      · first | assumption | omega | (simp; omega)
      · first | assumption | omega | (simp; omega)
      · first | assumption | omega | (simp; omega)
      rintro _ _ ⟨b2, s3, hc0, hc1, rfl, rfl⟩
      refine list_cons rfl (op_q (by first | exact q_addI rfl rfl (by decide) (by omega) (by omega) | exact q_ib rfl rfl rfl (by decide)) ?_)
      refine list_cons rfl (op_q (q_assign rfl (by decide)) ?_)
      refine list_nil ?_
      refine hK6 _ ?_; clear hK6 K6
      refine codeT.imp (σ' := [(0, _), (1, _), (4, _), (5, _)]) ?_ (imp_covers ⟨rfl, rfl, rfl, rfl, trivial⟩)
      refine code_seq (fun K8 hK8 => ?_)
      refine code_region ?_
      refine list_cons rfl (op_q (q_move rfl (by decide)) ?_)
      refine list_cons rfl (op_q (q_move rfl (by decide)) ?_)
      refine list_cons rfl (op_q (by first | exact q_remI rfl rfl (by decide) (by omega) (by omega) | exact q_rem rfl rfl (by omega) (by decide)) ?_)
      refine list_cons rfl (op_q (q_assign rfl (by decide)) ?_)
      refine list_nil ?_
      refine hK8 _ ?_; clear hK8 K8
      refine code_ret ?_
      refine ends_ret (cs := _) rfl rfl rfl rfl rfl ?_
      exact ⟨_, _, _, Int.emod_nonneg _ (by omega), by have := Int.emod_lt_of_pos (b * 256 + b2) (show 0 < k by omega); omega, by omega, by omega, rfl, rfl⟩
    · skip
      (try simp only [Decidable.not_not] at h2)
      refine code_skip ?_
      refine hK6 _ ?_; clear hK6 K6
      refine code_seq (fun K9 hK9 => ?_)
      refine code_region ?_
      refine list_cons rfl (op_q (q_move rfl (by decide)) ?_)
      refine list_cons rfl (op_q (q_move rfl (by decide)) ?_)
      refine list_cons rfl (op_q (by first | exact q_remI rfl rfl (by decide) (by omega) (by omega) | exact q_rem rfl rfl (by omega) (by decide)) ?_)
      refine list_cons rfl (op_q (q_assign rfl (by decide)) ?_)
      refine list_nil ?_
      refine hK9 _ ?_; clear hK9 K9
      refine code_ret ?_
      refine ends_ret (cs := _) rfl rfl rfl rfl rfl ?_
      exact ⟨_, _, _, Int.emod_nonneg _ (by omega), by have := Int.emod_lt_of_pos b (show 0 < k by omega); omega, by omega, by omega, rfl, rfl⟩

set_option maxRecDepth 4000 in
theorem one_c (code : List UInt8) (hcode : code.length ≤ 9223372036854775807) (a s : Int) (ha : 0 ≤ a) (ha2 : a ≤ 4611686018427387900) (k : Int) : MCalls Tryd.prog 80 false (some (.box 74 [.sl code.length (bytesP code), .int .i64 a, .int .u64 s])) [.int .i64 k] fun rs cs => ∃ (o a2 s2 : Int), a ≤ a2 ∧ a2 ≤ a + 2 ∧ rs = [.val (.bool (decide (o = 0)))] ∧ cs = [.sl code.length (bytesP code), .int .i64 a2, .int .u64 s2] := by
  refine mcalls_of_code (n := 9) az Tryd.func80 (by kernel_rfl) rfl rfl (Nat.le_of_ble_eq_true rfl) (by intro t u h; simp [Tryd.f80] at h) ?_
  refine code_seq (fun K1 hK1 => ?_)
  refine code_region ?_
  refine list_cons rfl (op_q (q_assign rfl (by decide)) ?_)
  refine list_nil ?_
  refine hK1 _ ?_; clear hK1 K1
  refine code_seq (fun K2 hK2 => ?_)
  refine code_region ?_
  refine list_cons rfl (op_q (q_move rfl (by decide)) ?_)
  refine list_cons rfl (op_q (q_move rfl (by decide)) ?_)
  refine list_cons rfl (op_callM (pick_c code ?_ _ _ ?_ ?_ _) (.tmp 5) 2000 [0, 5] [.tmp 6] _ rfl rfl (by intro y hy; cases hy; exact ⟨rfl, (by intro t ht; simp only [List.mem_cons, List.not_mem_nil, or_false] at ht; rcases ht with rfl | rfl <;> rfl), (by intro s hs; simp only [List.mem_cons, List.not_mem_nil, or_false] at hs; subst hs; first | (simp [SV.labels]; done) | (simp [SV.labels, packS, SV.back]; done) | exact List.not_mem_nil)⟩) (by decide) (by decide) (by decide) rfl (fun _ => rfl) ?_)
  · first | assumption | omega | (simp; omega)
  · first | assumption | omega | (simp; omega)
  · first | assumption | omega | (simp; omega)
  rintro _ _ ⟨b, a2, s2, hb0, hb1, ha0, ha1, rfl, rfl⟩
  try have hp2 := p2_64 (k := b.toNat) (by omega)
  refine list_cons rfl (op_q (q_eq rfl rfl (by decide)) ?_)
  refine list_cons rfl (op_q (q_assign rfl (by decide)) ?_)
  refine list_nil ?_
  refine hK2 _ ?_; clear hK2 K2
  refine codeT.imp (σ' := [(0, _), (1, _), (4, _)]) ?_ (imp_covers ⟨rfl, rfl, rfl, trivial⟩)
  refine code_ret ?_
  refine ends_ret (cs := _) rfl rfl rfl rfl rfl ?_
  exact ⟨_, _, _, by omega, by omega, rfl, rfl⟩

set_option maxRecDepth 4000 in
theorem among_c (code : List UInt8) (hcode : code.length ≤ 9223372036854775807) (a s : Int) (ha : 0 ≤ a) (ha2 : a ≤ 4611686018427387900) (l : List Int) (hl : 0 < l.length) (hl2 : l.length ≤ 4611686018427387904) : MCalls Tryd.prog 66 false (some (.box 74 [.sl code.length (bytesP code), .int .i64 a, .int .u64 s])) [.sl l.length (l.map (.int .i64))] fun rs cs => ∃ (x : Int) (a2 s2 : Int), x ∈ l ∧ a ≤ a2 ∧ a2 ≤ a + 2 ∧ rs = [.val (.int .i64 x)] ∧ cs = [.sl code.length (bytesP code), .int .i64 a2, .int .u64 s2] := by
  refine mcalls_of_code (n := 12) az Tryd.func66 (by kernel_rfl) rfl rfl (Nat.le_of_ble_eq_true rfl) (by intro t u h; simp [Tryd.f66] at h) ?_
  refine code_seq (fun K1 hK1 => ?_)
  refine code_region ?_
  refine list_cons rfl (op_q (q_assign rfl (by decide)) ?_)
  refine list_nil ?_
  refine hK1 _ ?_; clear hK1 K1
  refine code_seq (fun K2 hK2 => ?_)
  refine code_region ?_
  refine list_cons rfl (op_q (q_move rfl (by decide)) ?_)
  refine list_cons rfl (op_q (q_move rfl (by decide)) ?_)
  refine list_cons rfl (op_q (q_move rfl (by decide)) ?_)
  refine list_cons rfl (op_q (q_len_sl Tryd.underlying24 rfl rfl (by decide)) ?_)
  refine list_cons rfl (op_callM (pick_c code ?_ _ _ ?_ ?_ _) (.tmp 6) 2000 [0, 6] [.tmp 8] _ rfl rfl (by intro y hy; cases hy; exact ⟨rfl, (by intro t ht; simp only [List.mem_cons, List.not_mem_nil, or_false] at ht; rcases ht with rfl | rfl <;> rfl), (by intro s hs; simp only [List.mem_cons, List.not_mem_nil, or_false] at hs; subst hs; first | (simp [SV.labels]; done) | (simp [SV.labels, packS, SV.back]; done) | exact List.not_mem_nil)⟩) (by decide) (by decide) (by decide) rfl (fun _ => rfl) ?_)
  · first | assumption | omega | (simp; omega)
  · first | assumption | omega | (simp; omega)
  · first | assumption | omega | (simp; omega)
  rintro _ _ ⟨b, a2, s2, hb0, hb1, ha0, ha1, rfl, rfl⟩
  try have hp2 := p2_64 (k := b.toNat) (by omega)
  refine list_cons rfl (op_q (q_indexAddr_rd sl_24 rfl (.inl ⟨_, rfl, rfl⟩) rfl (by omega) (by omega) (by decide)) ?_)
  refine list_cons rfl (op_q (q_load_rd one_3 rfl (.inl ⟨_, (by first | rfl | exact congrArg (SV.rpar _) (drop_map1 _ 0 _ (by first | omega | (simp; omega)))), rfl⟩) (by decide)) ?_)
  refine list_cons rfl (op_q (q_assign rfl (by decide)) ?_)
  refine list_nil ?_
  refine hK2 _ ?_; clear hK2 K2
  refine codeT.imp (σ' := [(0, _), (1, _), (4, _)]) ?_ (imp_covers ⟨rfl, rfl, rfl, trivial⟩)
  refine code_ret ?_
  refine ends_ret (cs := _) rfl rfl rfl rfl rfl ?_
  exact ⟨_, _, _, getD_mem (show b.toNat < l.length by omega), by omega, by omega, rfl, rfl⟩

end Go.Proofs.YtjbbijlbenkgcaaDoor
namespace Go.Proofs.YtjbbijlbenkgcaaDoor.Dr2Ty
open Go.RowKit

def az (u : TypeId) : Nat := match u with  | _ => 0

theorem sl_24 : SlTy Tryd.prog 24 3 1 8 [.int .i64 0] := slTy_of Tryd.underlying24 (z := .int .i64 0) (by kernel_rfl) rfl (by decide) (by decide) rfl

end Go.Proofs.YtjbbijlbenkgcaaDoor.Dr2Ty
namespace Go.Proofs.YtjbbijlbenkgcaaDoor
open Go.RowKit Dr2Ty
set_option linter.unusedVariables false
set_option linter.unusedSimpArgs false

set_option maxRecDepth 4000 in
set_option maxHeartbeats 4000000 in
theorem cell_c (code : List UInt8) (hcode : code.length ≤ 9223372036854775807) (a s : Int) (ha : 0 ≤ a) (ha2 : a ≤ 4611686018427387000) : MCalls Tryd.prog 70 false (some (.box 74 [.sl code.length (bytesP code), .int .i64 a, .int .u64 s])) [] fun rs cs => ∃ (x : Int) (a2 s2 : Int), (-1 ≤ x ∧ x ≤ 4611686018427387904) ∧ a ≤ a2 ∧ a2 ≤ a + 20 ∧ rs = [.val (.int .i64 x)] ∧ cs = [.sl code.length (bytesP code), .int .i64 a2, .int .u64 s2] := by
  refine mcalls_of_code (n := 33) az Tryd.func70 (by kernel_rfl) rfl rfl (Nat.le_of_ble_eq_true rfl) (by intro t u h; simp [Tryd.f70] at h) ?_
  refine code_seq (fun K1 hK1 => ?_)
  refine code_region ?_
  refine list_cons rfl (op_q (q_assign rfl (by decide)) ?_)
  refine list_nil ?_
  refine hK1 _ ?_; clear hK1 K1
  refine code_seq (fun K2 hK2 => ?_)
  refine code_seq (fun K3 hK3 => ?_)
  refine code_region ?_
  refine list_cons rfl (op_q (q_move rfl (by decide)) ?_)
  refine list_cons rfl (op_callM (pick_c code ?_ _ _ ?_ ?_ _) (.tmp 4) 2000 [0, 4] [_] _ rfl rfl (by intro y hy; cases hy; exact ⟨rfl, (by intro t ht; simp only [List.mem_cons, List.not_mem_nil, or_false] at ht; rcases ht with rfl | rfl <;> rfl), (by intro s hs; simp only [List.mem_cons, List.not_mem_nil, or_false] at hs; subst hs; first | (simp [SV.labels]; done) | (simp [SV.labels, packS, SV.back]; done) | exact List.not_mem_nil)⟩) (by decide) (by decide) (by decide) rfl (fun _ => rfl) ?_)
  · first | assumption | omega | (simp; omega)
  · first | assumption | omega | (simp; omega)
  · first | assumption | omega | (simp; omega)
  rintro _ _ ⟨b, a2, s2, hb0, hb1, ha0, ha1, rfl, rfl⟩
  try have hp2 := p2_64 (k := b.toNat) (by omega)
  refine list_nil ?_
  refine hK3 _ ?_; clear hK3 K3
  refine codeT.imp (σ' := [(0, _), (2, _), (5, _)]) ?_ (imp_covers ⟨rfl, rfl, rfl, trivial⟩)
  refine code_block ?_
  refine code_seq (fun K4 hK4 => ?_)
  refine code_region ?_
  refine list_cons rfl (op_q (q_eq rfl rfl (by decide)) ?_)
  refine list_cons rfl (op_q (q_assign rfl (by decide)) ?_)
  refine list_nil ?_
  refine hK4 _ ?_; clear hK4 K4
  refine code_cond_d rfl (fun h1 => ?_) (fun h1 => ?_)
  · skip
    (try simp only [Decidable.not_not] at h1)
    refine code_seq (fun K5 hK5 => ?_)
    refine code_region ?_
    refine list_cons rfl (op_q (q_move rfl (by decide)) ?_)
    refine list_cons rfl (op_buildSlice sl_24 (parts := [(0, _), (1, _), (2, _)]) rfl rfl rfl (by decide) (by decide) (by decide) rfl ?_)
    refine list_cons rfl (op_callM (among_c code ?_ _ _ ?_ ?_ ([-1, 128, 4611686018427387904]) (by decide) (by decide)) (.tmp 8) 2000 [0, 8] [.tmp 9] _ rfl rfl (by intro y hy; cases hy; exact ⟨rfl, (by intro t ht; simp only [List.mem_cons, List.not_mem_nil, or_false] at ht; rcases ht with rfl | rfl <;> rfl), (by intro s hs; simp only [List.mem_cons, List.not_mem_nil, or_false] at hs; subst hs; first | (simp [SV.labels]; done) | (simp [SV.labels, packS, SV.back]; done) | exact List.not_mem_nil)⟩) (by decide) (by decide) (by decide) rfl (fun _ => rfl) ?_)
    · first | assumption | omega | (simp; omega)
    · first | assumption | omega | (simp; omega)
    · first | assumption | omega | (simp; omega)
    rintro _ _ ⟨x, a2, s2, hx, ha0, ha1, rfl, rfl⟩
    simp only [List.mem_cons, List.not_mem_nil, or_false] at hx
    refine list_cons rfl (op_q (q_assign rfl (by decide)) ?_)
    refine list_nil ?_
    refine hK5 _ ?_; clear hK5 K5
    refine codeT.imp (σ' := [(0, _), (2, _), (5, _)]) ?_ (imp_covers ⟨rfl, rfl, rfl, trivial⟩)
    refine code_ret ?_
    refine blk_r ?_
    refine then_r ?_; clear hK2 K2
    refine ends_ret (cs := _) rfl rfl rfl rfl rfl ?_
    first
    | exact ⟨_, _, _, by omega, by omega, by omega, rfl, rfl⟩
    | (refine ⟨_, _, _, ?_, by omega, by omega, rfl, rfl⟩; have hx7 := @xor7c (digT.getD _ 0) ((p2 b.toNat : Nat) : Int) hdc ⟨by omega, by omega⟩; omega)
  · skip
    (try simp only [Decidable.not_not] at h1)
    refine code_seq (fun K6 hK6 => ?_)
    refine code_seq (fun K7 hK7 => ?_)
    refine code_region ?_
    refine list_cons rfl (op_q (q_eq rfl rfl (by decide)) ?_)
    refine list_cons rfl (op_q (q_assign rfl (by decide)) ?_)
    refine list_nil ?_
    refine hK7 _ ?_; clear hK7 K7
    refine code_cond_d rfl (fun h2 => ?_) (fun h2 => ?_)
    · skip
      (try simp only [Decidable.not_not] at h2)
      refine code_skip ?_
      refine hK6 _ ?_; clear hK6 K6
      refine code_cond_d rfl (fun h3 => ?_) (fun h3 => ?_)
      · skip
        (try simp only [Decidable.not_not] at h3)
        refine code_seq (fun K8 hK8 => ?_)
        refine code_region ?_
        refine list_cons rfl (op_q (q_move rfl (by decide)) ?_)
        refine list_cons rfl (op_buildSlice sl_24 (parts := [(0, _), (1, _), (2, _)]) rfl rfl rfl (by decide) (by decide) (by decide) rfl ?_)
        refine list_cons rfl (op_callM (among_c code ?_ _ _ ?_ ?_ ([0, 127, 64]) (by decide) (by decide)) (.tmp 15) 2000 [0, 15] [.tmp 16] _ rfl rfl (by intro y hy; cases hy; exact ⟨rfl, (by intro t ht; simp only [List.mem_cons, List.not_mem_nil, or_false] at ht; rcases ht with rfl | rfl <;> rfl), (by intro s hs; simp only [List.mem_cons, List.not_mem_nil, or_false] at hs; subst hs; first | (simp [SV.labels]; done) | (simp [SV.labels, packS, SV.back]; done) | exact List.not_mem_nil)⟩) (by decide) (by decide) (by decide) rfl (fun _ => rfl) ?_)
        · first | assumption | omega | (simp; omega)
        · first | assumption | omega | (simp; omega)
        · first | assumption | omega | (simp; omega)
        rintro _ _ ⟨x, a2, s2, hx, ha0, ha1, rfl, rfl⟩
        simp only [List.mem_cons, List.not_mem_nil, or_false] at hx
        refine list_cons rfl (op_q (q_assign rfl (by decide)) ?_)
        refine list_nil ?_
        refine hK8 _ ?_; clear hK8 K8
        refine codeT.imp (σ' := [(0, _), (2, _), (5, _), (11, _)]) ?_ (imp_covers ⟨rfl, rfl, rfl, rfl, trivial⟩)
        refine code_ret ?_
        refine blk_r ?_
        refine then_r ?_; clear hK2 K2
        refine ends_ret (cs := _) rfl rfl rfl rfl rfl ?_
        first
        | exact ⟨_, _, _, by omega, by omega, by omega, rfl, rfl⟩
        | (refine ⟨_, _, _, ?_, by omega, by omega, rfl, rfl⟩; have hx7 := @xor7c (digT.getD _ 0) ((p2 b.toNat : Nat) : Int) hdc ⟨by omega, by omega⟩; omega)
      · skip
        (try simp only [Decidable.not_not] at h3)
        refine code_skip ?_
        refine blk_n ?_
        refine hK2 _ ?_; clear hK2 K2
        refine code_seq (fun K9 hK9 => ?_)
        refine code_seq (fun K10 hK10 => ?_)
        refine code_region ?_
        refine list_cons rfl (op_q (q_move rfl (by decide)) ?_)
        refine list_cons rfl (op_callM (one_c code ?_ _ _ ?_ ?_ _) (.tmp 18) 2000 [0, 18] [_] _ rfl rfl (by intro y hy; cases hy; exact ⟨rfl, (by intro t ht; simp only [List.mem_cons, List.not_mem_nil, or_false] at ht; rcases ht with rfl | rfl <;> rfl), (by intro s hs; simp only [List.mem_cons, List.not_mem_nil, or_false] at hs; subst hs; first | (simp [SV.labels]; done) | (simp [SV.labels, packS, SV.back]; done) | exact List.not_mem_nil)⟩) (by decide) (by decide) (by decide) rfl (fun _ => rfl) ?_)
        · first | assumption | omega | (simp; omega)
        · first | assumption | omega | (simp; omega)
        · first | assumption | omega | (simp; omega)
        rintro _ _ ⟨o, a2, s2, ha0, ha1, rfl, rfl⟩
        refine list_nil ?_
        refine hK10 _ ?_; clear hK10 K10
        refine codeT.imp (σ' := [(0, _), (2, _), (5, _), (11, _), (19, _)]) ?_ (imp_covers ⟨rfl, rfl, rfl, rfl, rfl, trivial⟩)
        refine code_cond_d rfl (fun h4 => ?_) (fun h4 => ?_)
        · skip
          (try simp only [Decidable.not_not] at h4)
          refine code_seq (fun K11 hK11 => ?_)
          refine code_region ?_
          refine list_cons rfl (op_q (q_move rfl (by decide)) ?_)
          refine list_cons rfl (op_callM (pick_c code ?_ _ _ ?_ ?_ _) (.tmp 20) 2000 [0, 20] [_] _ rfl rfl (by intro y hy; cases hy; exact ⟨rfl, (by intro t ht; simp only [List.mem_cons, List.not_mem_nil, or_false] at ht; rcases ht with rfl | rfl <;> rfl), (by intro s hs; simp only [List.mem_cons, List.not_mem_nil, or_false] at hs; subst hs; first | (simp [SV.labels]; done) | (simp [SV.labels, packS, SV.back]; done) | exact List.not_mem_nil)⟩) (by decide) (by decide) (by decide) rfl (fun _ => rfl) ?_)
          · first | assumption | omega | (simp; omega)
          · first | assumption | omega | (simp; omega)
          · first | assumption | omega | (simp; omega)
          rintro _ _ ⟨b, a2, s2, hb0, hb1, ha0, ha1, rfl, rfl⟩
          try have hp2 := p2_64 (k := b.toNat) (by omega)
          refine list_cons rfl (op_q (q_assign rfl (by decide)) ?_)
          refine list_nil ?_
          refine hK11 _ ?_; clear hK11 K11
          refine codeT.imp (σ' := [(0, _), (2, _), (5, _), (11, _)]) ?_ (imp_covers ⟨rfl, rfl, rfl, rfl, trivial⟩)
          refine code_ret ?_
          refine then_r ?_; clear hK9 K9
          refine ends_ret (cs := _) rfl rfl rfl rfl rfl ?_
          first
          | exact ⟨_, _, _, by omega, by omega, by omega, rfl, rfl⟩
          | (refine ⟨_, _, _, ?_, by omega, by omega, rfl, rfl⟩; have hx7 := @xor7c (digT.getD _ 0) ((p2 b.toNat : Nat) : Int) hdc ⟨by omega, by omega⟩; omega)
        · skip
          (try simp only [Decidable.not_not] at h4)
          refine code_skip ?_
          refine hK9 _ ?_; clear hK9 K9
          refine code_seq (fun K12 hK12 => ?_)
          refine code_region ?_
          refine list_cons rfl (op_q (q_move rfl (by decide)) ?_)
          refine list_cons rfl (op_callM (pick_c code ?_ _ _ ?_ ?_ _) (.tmp 22) 2000 [0, 22] [_] _ rfl rfl (by intro y hy; cases hy; exact ⟨rfl, (by intro t ht; simp only [List.mem_cons, List.not_mem_nil, or_false] at ht; rcases ht with rfl | rfl <;> rfl), (by intro s hs; simp only [List.mem_cons, List.not_mem_nil, or_false] at hs; subst hs; first | (simp [SV.labels]; done) | (simp [SV.labels, packS, SV.back]; done) | exact List.not_mem_nil)⟩) (by decide) (by decide) (by decide) rfl (fun _ => rfl) ?_)
          · first | assumption | omega | (simp; omega)
          · first | assumption | omega | (simp; omega)
          · first | assumption | omega | (simp; omega)
          rintro _ _ ⟨b, a2, s2, hb0, hb1, ha0, ha1, rfl, rfl⟩
          try have hp2 := p2_64 (k := b.toNat) (by omega)
          refine list_cons rfl (op_call _ (spec_l2Digit _ (by omega) (by omega)) rfl rfl (by decide) (by decide) (by decide) rfl ?_)
          rintro _ rfl; have hdc := digT_cell b.toNat
          refine list_cons rfl (op_q (q_assign rfl (by decide)) ?_)
          refine list_nil ?_
          refine hK12 _ ?_; clear hK12 K12
          refine codeT.imp (σ' := [(0, _), (2, _), (3, _), (5, _), (11, _)]) ?_ (imp_covers ⟨rfl, rfl, rfl, rfl, rfl, trivial⟩)
          refine code_seq (fun K13 hK13 => ?_)
          refine code_seq (fun K14 hK14 => ?_)
          refine code_region ?_
          refine list_cons rfl (op_q (q_move rfl (by decide)) ?_)
          refine list_cons rfl (op_callM (one_c code ?_ _ _ ?_ ?_ _) (.tmp 25) 2000 [0, 25] [_] _ rfl rfl (by intro y hy; cases hy; exact ⟨rfl, (by intro t ht; simp only [List.mem_cons, List.not_mem_nil, or_false] at ht; rcases ht with rfl | rfl <;> rfl), (by intro s hs; simp only [List.mem_cons, List.not_mem_nil, or_false] at hs; subst hs; first | (simp [SV.labels]; done) | (simp [SV.labels, packS, SV.back]; done) | exact List.not_mem_nil)⟩) (by decide) (by decide) (by decide) rfl (fun _ => rfl) ?_)
          · first | assumption | omega | (simp; omega)
          · first | assumption | omega | (simp; omega)
          · first | assumption | omega | (simp; omega)
          rintro _ _ ⟨o, a2, s2, ha0, ha1, rfl, rfl⟩
          refine list_nil ?_
          refine hK14 _ ?_; clear hK14 K14
          refine codeT.imp (σ' := [(0, _), (2, _), (3, _), (5, _), (11, _), (26, _)]) ?_ (imp_covers ⟨rfl, rfl, rfl, rfl, rfl, rfl, trivial⟩)
          refine code_cond_d rfl (fun h5 => ?_) (fun h5 => ?_)
          · skip
            (try simp only [Decidable.not_not] at h5)
            refine code_region ?_
            refine list_cons rfl (op_q (q_move rfl (by decide)) ?_)
            refine list_cons rfl (op_q (q_move rfl (by decide)) ?_)
            refine list_cons rfl (op_callM (pick_c code ?_ _ _ ?_ ?_ _) (.tmp 28) 2000 [0, 28] [_] _ rfl rfl (by intro y hy; cases hy; exact ⟨rfl, (by intro t ht; simp only [List.mem_cons, List.not_mem_nil, or_false] at ht; rcases ht with rfl | rfl <;> rfl), (by intro s hs; simp only [List.mem_cons, List.not_mem_nil, or_false] at hs; subst hs; first | (simp [SV.labels]; done) | (simp [SV.labels, packS, SV.back]; done) | exact List.not_mem_nil)⟩) (by decide) (by decide) (by decide) rfl (fun _ => rfl) ?_)
            · first | assumption | omega | (simp; omega)
            · first | assumption | omega | (simp; omega)
            · first | assumption | omega | (simp; omega)
            rintro _ _ ⟨b, a2, s2, hb0, hb1, ha0, ha1, rfl, rfl⟩
            try have hp2 := p2_64 (k := b.toNat) (by omega)
            refine list_cons rfl (op_q (by first | exact q_shl1 rfl rfl (by decide) (by omega) (by omega) | exact q_shlI rfl rfl (by decide) (by omega) (by omega) (by omega) | exact q_shl rfl rfl (by omega) (by decide)) ?_)
            refine list_cons rfl (op_q (by first | exact q_xorI rfl rfl (by decide) (by omega) (by omega) (by omega) (by omega) | exact q_ib rfl rfl rfl (by decide)) ?_)
            refine list_cons rfl (op_q (q_assign rfl (by decide)) ?_)
            refine list_nil ?_
            refine hK13 _ ?_; clear hK13 K13
            refine codeT.imp (σ' := [(0, _), (2, _), (3, _), (5, _), (11, _)]) ?_ (imp_covers ⟨rfl, rfl, rfl, rfl, rfl, trivial⟩)
            refine code_seq (fun K15 hK15 => ?_)
            refine code_region ?_
            refine list_cons rfl (op_q (q_move rfl (by decide)) ?_)
            refine list_cons rfl (op_q (q_assign rfl (by decide)) ?_)
            refine list_nil ?_
            refine hK15 _ ?_; clear hK15 K15
            refine code_ret ?_
            refine ends_ret (cs := _) rfl rfl rfl rfl rfl ?_
            first
            | exact ⟨_, _, _, by omega, by omega, by omega, rfl, rfl⟩
            | (refine ⟨_, _, _, ?_, by omega, by omega, rfl, rfl⟩; have hx7 := @xor7c (digT.getD _ 0) ((p2 b.toNat : Nat) : Int) hdc ⟨by omega, by omega⟩; omega)
          · skip
            (try simp only [Decidable.not_not] at h5)
            refine code_skip ?_
            refine hK13 _ ?_; clear hK13 K13
            refine code_seq (fun K16 hK16 => ?_)
            refine code_region ?_
            refine list_cons rfl (op_q (q_move rfl (by decide)) ?_)
            refine list_cons rfl (op_q (q_assign rfl (by decide)) ?_)
            refine list_nil ?_
            refine hK16 _ ?_; clear hK16 K16
            refine code_ret ?_
            refine ends_ret (cs := _) rfl rfl rfl rfl rfl ?_
            first
            | exact ⟨_, _, _, by omega, by omega, by omega, rfl, rfl⟩
            | (refine ⟨_, _, _, ?_, by omega, by omega, rfl, rfl⟩; have hx7 := @xor7c (digT.getD _ 0) ((p2 b.toNat : Nat) : Int) hdc ⟨by omega, by omega⟩; omega)
    · skip
      (try simp only [Decidable.not_not] at h2)
      refine code_seq (fun K17 hK17 => ?_)
      refine code_region ?_
      refine list_cons rfl (op_q (q_eq rfl rfl (by decide)) ?_)
      refine list_cons rfl (op_q (q_assign rfl (by decide)) ?_)
      refine list_nil ?_
      refine hK17 _ ?_; clear hK17 K17
      refine code_cond_d rfl (fun h6 => ?_) (fun h6 => ?_)
      · skip
        (try simp only [Decidable.not_not] at h6)
        refine code_skip ?_
        refine hK6 _ ?_; clear hK6 K6
        refine code_cond_d rfl (fun h7 => ?_) (fun h7 => ?_)
        · skip
          (try simp only [Decidable.not_not] at h7)
          refine code_seq (fun K18 hK18 => ?_)
          refine code_region ?_
          refine list_cons rfl (op_q (q_move rfl (by decide)) ?_)
          refine list_cons rfl (op_buildSlice sl_24 (parts := [(0, _), (1, _), (2, _)]) rfl rfl rfl (by decide) (by decide) (by decide) rfl ?_)
          refine list_cons rfl (op_callM (among_c code ?_ _ _ ?_ ?_ ([0, 127, 64]) (by decide) (by decide)) (.tmp 15) 2000 [0, 15] [.tmp 16] _ rfl rfl (by intro y hy; cases hy; exact ⟨rfl, (by intro t ht; simp only [List.mem_cons, List.not_mem_nil, or_false] at ht; rcases ht with rfl | rfl <;> rfl), (by intro s hs; simp only [List.mem_cons, List.not_mem_nil, or_false] at hs; subst hs; first | (simp [SV.labels]; done) | (simp [SV.labels, packS, SV.back]; done) | exact List.not_mem_nil)⟩) (by decide) (by decide) (by decide) rfl (fun _ => rfl) ?_)
          · first | assumption | omega | (simp; omega)
          · first | assumption | omega | (simp; omega)
          · first | assumption | omega | (simp; omega)
          rintro _ _ ⟨x, a2, s2, hx, ha0, ha1, rfl, rfl⟩
          simp only [List.mem_cons, List.not_mem_nil, or_false] at hx
          refine list_cons rfl (op_q (q_assign rfl (by decide)) ?_)
          refine list_nil ?_
          refine hK18 _ ?_; clear hK18 K18
          refine codeT.imp (σ' := [(0, _), (2, _), (5, _), (11, _)]) ?_ (imp_covers ⟨rfl, rfl, rfl, rfl, trivial⟩)
          refine code_ret ?_
          refine blk_r ?_
          refine then_r ?_; clear hK2 K2
          refine ends_ret (cs := _) rfl rfl rfl rfl rfl ?_
          first
          | exact ⟨_, _, _, by omega, by omega, by omega, rfl, rfl⟩
          | (refine ⟨_, _, _, ?_, by omega, by omega, rfl, rfl⟩; have hx7 := @xor7c (digT.getD _ 0) ((p2 b.toNat : Nat) : Int) hdc ⟨by omega, by omega⟩; omega)
        · skip
          (try simp only [Decidable.not_not] at h7)
          refine code_skip ?_
          refine blk_n ?_
          refine hK2 _ ?_; clear hK2 K2
          refine code_seq (fun K19 hK19 => ?_)
          refine code_seq (fun K20 hK20 => ?_)
          refine code_region ?_
          refine list_cons rfl (op_q (q_move rfl (by decide)) ?_)
          refine list_cons rfl (op_callM (one_c code ?_ _ _ ?_ ?_ _) (.tmp 18) 2000 [0, 18] [_] _ rfl rfl (by intro y hy; cases hy; exact ⟨rfl, (by intro t ht; simp only [List.mem_cons, List.not_mem_nil, or_false] at ht; rcases ht with rfl | rfl <;> rfl), (by intro s hs; simp only [List.mem_cons, List.not_mem_nil, or_false] at hs; subst hs; first | (simp [SV.labels]; done) | (simp [SV.labels, packS, SV.back]; done) | exact List.not_mem_nil)⟩) (by decide) (by decide) (by decide) rfl (fun _ => rfl) ?_)
          · first | assumption | omega | (simp; omega)
          · first | assumption | omega | (simp; omega)
          · first | assumption | omega | (simp; omega)
          rintro _ _ ⟨o, a2, s2, ha0, ha1, rfl, rfl⟩
          refine list_nil ?_
          refine hK20 _ ?_; clear hK20 K20
          refine codeT.imp (σ' := [(0, _), (2, _), (5, _), (11, _), (19, _)]) ?_ (imp_covers ⟨rfl, rfl, rfl, rfl, rfl, trivial⟩)
          refine code_cond_d rfl (fun h8 => ?_) (fun h8 => ?_)
          · skip
            (try simp only [Decidable.not_not] at h8)
            refine code_seq (fun K21 hK21 => ?_)
            refine code_region ?_
            refine list_cons rfl (op_q (q_move rfl (by decide)) ?_)
            refine list_cons rfl (op_callM (pick_c code ?_ _ _ ?_ ?_ _) (.tmp 20) 2000 [0, 20] [_] _ rfl rfl (by intro y hy; cases hy; exact ⟨rfl, (by intro t ht; simp only [List.mem_cons, List.not_mem_nil, or_false] at ht; rcases ht with rfl | rfl <;> rfl), (by intro s hs; simp only [List.mem_cons, List.not_mem_nil, or_false] at hs; subst hs; first | (simp [SV.labels]; done) | (simp [SV.labels, packS, SV.back]; done) | exact List.not_mem_nil)⟩) (by decide) (by decide) (by decide) rfl (fun _ => rfl) ?_)
            · first | assumption | omega | (simp; omega)
            · first | assumption | omega | (simp; omega)
            · first | assumption | omega | (simp; omega)
            rintro _ _ ⟨b, a2, s2, hb0, hb1, ha0, ha1, rfl, rfl⟩
            try have hp2 := p2_64 (k := b.toNat) (by omega)
            refine list_cons rfl (op_q (q_assign rfl (by decide)) ?_)
            refine list_nil ?_
            refine hK21 _ ?_; clear hK21 K21
            refine codeT.imp (σ' := [(0, _), (2, _), (5, _), (11, _)]) ?_ (imp_covers ⟨rfl, rfl, rfl, rfl, trivial⟩)
            refine code_ret ?_
            refine then_r ?_; clear hK19 K19
            refine ends_ret (cs := _) rfl rfl rfl rfl rfl ?_
            first
            | exact ⟨_, _, _, by omega, by omega, by omega, rfl, rfl⟩
            | (refine ⟨_, _, _, ?_, by omega, by omega, rfl, rfl⟩; have hx7 := @xor7c (digT.getD _ 0) ((p2 b.toNat : Nat) : Int) hdc ⟨by omega, by omega⟩; omega)
          · skip
            (try simp only [Decidable.not_not] at h8)
            refine code_skip ?_
            refine hK19 _ ?_; clear hK19 K19
            refine code_seq (fun K22 hK22 => ?_)
            refine code_region ?_
            refine list_cons rfl (op_q (q_move rfl (by decide)) ?_)
            refine list_cons rfl (op_callM (pick_c code ?_ _ _ ?_ ?_ _) (.tmp 22) 2000 [0, 22] [_] _ rfl rfl (by intro y hy; cases hy; exact ⟨rfl, (by intro t ht; simp only [List.mem_cons, List.not_mem_nil, or_false] at ht; rcases ht with rfl | rfl <;> rfl), (by intro s hs; simp only [List.mem_cons, List.not_mem_nil, or_false] at hs; subst hs; first | (simp [SV.labels]; done) | (simp [SV.labels, packS, SV.back]; done) | exact List.not_mem_nil)⟩) (by decide) (by decide) (by decide) rfl (fun _ => rfl) ?_)
            · first | assumption | omega | (simp; omega)
            · first | assumption | omega | (simp; omega)
            · first | assumption | omega | (simp; omega)
            rintro _ _ ⟨b, a2, s2, hb0, hb1, ha0, ha1, rfl, rfl⟩
            try have hp2 := p2_64 (k := b.toNat) (by omega)
            refine list_cons rfl (op_call _ (spec_l2Digit _ (by omega) (by omega)) rfl rfl (by decide) (by decide) (by decide) rfl ?_)
            rintro _ rfl; have hdc := digT_cell b.toNat
            refine list_cons rfl (op_q (q_assign rfl (by decide)) ?_)
            refine list_nil ?_
            refine hK22 _ ?_; clear hK22 K22
            refine codeT.imp (σ' := [(0, _), (2, _), (3, _), (5, _), (11, _)]) ?_ (imp_covers ⟨rfl, rfl, rfl, rfl, rfl, trivial⟩)
            refine code_seq (fun K23 hK23 => ?_)
            refine code_seq (fun K24 hK24 => ?_)
            refine code_region ?_
            refine list_cons rfl (op_q (q_move rfl (by decide)) ?_)
            refine list_cons rfl (op_callM (one_c code ?_ _ _ ?_ ?_ _) (.tmp 25) 2000 [0, 25] [_] _ rfl rfl (by intro y hy; cases hy; exact ⟨rfl, (by intro t ht; simp only [List.mem_cons, List.not_mem_nil, or_false] at ht; rcases ht with rfl | rfl <;> rfl), (by intro s hs; simp only [List.mem_cons, List.not_mem_nil, or_false] at hs; subst hs; first | (simp [SV.labels]; done) | (simp [SV.labels, packS, SV.back]; done) | exact List.not_mem_nil)⟩) (by decide) (by decide) (by decide) rfl (fun _ => rfl) ?_)
            · first | assumption | omega | (simp; omega)
            · first | assumption | omega | (simp; omega)
            · first | assumption | omega | (simp; omega)
            rintro _ _ ⟨o, a2, s2, ha0, ha1, rfl, rfl⟩
            refine list_nil ?_
            refine hK24 _ ?_; clear hK24 K24
            refine codeT.imp (σ' := [(0, _), (2, _), (3, _), (5, _), (11, _), (26, _)]) ?_ (imp_covers ⟨rfl, rfl, rfl, rfl, rfl, rfl, trivial⟩)
            refine code_cond_d rfl (fun h9 => ?_) (fun h9 => ?_)
            · skip
              (try simp only [Decidable.not_not] at h9)
              refine code_region ?_
              refine list_cons rfl (op_q (q_move rfl (by decide)) ?_)
              refine list_cons rfl (op_q (q_move rfl (by decide)) ?_)
              refine list_cons rfl (op_callM (pick_c code ?_ _ _ ?_ ?_ _) (.tmp 28) 2000 [0, 28] [_] _ rfl rfl (by intro y hy; cases hy; exact ⟨rfl, (by intro t ht; simp only [List.mem_cons, List.not_mem_nil, or_false] at ht; rcases ht with rfl | rfl <;> rfl), (by intro s hs; simp only [List.mem_cons, List.not_mem_nil, or_false] at hs; subst hs; first | (simp [SV.labels]; done) | (simp [SV.labels, packS, SV.back]; done) | exact List.not_mem_nil)⟩) (by decide) (by decide) (by decide) rfl (fun _ => rfl) ?_)
              · first | assumption | omega | (simp; omega)
              · first | assumption | omega | (simp; omega)
              · first | assumption | omega | (simp; omega)
              rintro _ _ ⟨b, a2, s2, hb0, hb1, ha0, ha1, rfl, rfl⟩
              try have hp2 := p2_64 (k := b.toNat) (by omega)
              refine list_cons rfl (op_q (by first | exact q_shl1 rfl rfl (by decide) (by omega) (by omega) | exact q_shlI rfl rfl (by decide) (by omega) (by omega) (by omega) | exact q_shl rfl rfl (by omega) (by decide)) ?_)
              refine list_cons rfl (op_q (by first | exact q_xorI rfl rfl (by decide) (by omega) (by omega) (by omega) (by omega) | exact q_ib rfl rfl rfl (by decide)) ?_)
              refine list_cons rfl (op_q (q_assign rfl (by decide)) ?_)
              refine list_nil ?_
              refine hK23 _ ?_; clear hK23 K23
              refine codeT.imp (σ' := [(0, _), (2, _), (3, _), (5, _), (11, _)]) ?_ (imp_covers ⟨rfl, rfl, rfl, rfl, rfl, trivial⟩)
              refine code_seq (fun K25 hK25 => ?_)
              refine code_region ?_
              refine list_cons rfl (op_q (q_move rfl (by decide)) ?_)
              refine list_cons rfl (op_q (q_assign rfl (by decide)) ?_)
              refine list_nil ?_
              refine hK25 _ ?_; clear hK25 K25
              refine code_ret ?_
              refine ends_ret (cs := _) rfl rfl rfl rfl rfl ?_
              first
              | exact ⟨_, _, _, by omega, by omega, by omega, rfl, rfl⟩
              | (refine ⟨_, _, _, ?_, by omega, by omega, rfl, rfl⟩; have hx7 := @xor7c (digT.getD _ 0) ((p2 b.toNat : Nat) : Int) hdc ⟨by omega, by omega⟩; omega)
            · skip
              (try simp only [Decidable.not_not] at h9)
              refine code_skip ?_
              refine hK23 _ ?_; clear hK23 K23
              refine code_seq (fun K26 hK26 => ?_)
              refine code_region ?_
              refine list_cons rfl (op_q (q_move rfl (by decide)) ?_)
              refine list_cons rfl (op_q (q_assign rfl (by decide)) ?_)
              refine list_nil ?_
              refine hK26 _ ?_; clear hK26 K26
              refine code_ret ?_
              refine ends_ret (cs := _) rfl rfl rfl rfl rfl ?_
              first
              | exact ⟨_, _, _, by omega, by omega, by omega, rfl, rfl⟩
              | (refine ⟨_, _, _, ?_, by omega, by omega, rfl, rfl⟩; have hx7 := @xor7c (digT.getD _ 0) ((p2 b.toNat : Nat) : Int) hdc ⟨by omega, by omega⟩; omega)
      · skip
        (try simp only [Decidable.not_not] at h6)
        refine code_region ?_
        refine list_cons rfl (op_q (q_eq rfl rfl (by decide)) ?_)
        refine list_cons rfl (op_q (q_assign rfl (by decide)) ?_)
        refine list_nil ?_
        refine hK6 _ ?_; clear hK6 K6
        refine code_cond_d rfl (fun h10 => ?_) (fun h10 => ?_)
        · skip
          (try simp only [Decidable.not_not] at h10)
          refine code_seq (fun K27 hK27 => ?_)
          refine code_region ?_
          refine list_cons rfl (op_q (q_move rfl (by decide)) ?_)
          refine list_cons rfl (op_buildSlice sl_24 (parts := [(0, _), (1, _), (2, _)]) rfl rfl rfl (by decide) (by decide) (by decide) rfl ?_)
          refine list_cons rfl (op_callM (among_c code ?_ _ _ ?_ ?_ ([0, 127, 64]) (by decide) (by decide)) (.tmp 15) 2000 [0, 15] [.tmp 16] _ rfl rfl (by intro y hy; cases hy; exact ⟨rfl, (by intro t ht; simp only [List.mem_cons, List.not_mem_nil, or_false] at ht; rcases ht with rfl | rfl <;> rfl), (by intro s hs; simp only [List.mem_cons, List.not_mem_nil, or_false] at hs; subst hs; first | (simp [SV.labels]; done) | (simp [SV.labels, packS, SV.back]; done) | exact List.not_mem_nil)⟩) (by decide) (by decide) (by decide) rfl (fun _ => rfl) ?_)
          · first | assumption | omega | (simp; omega)
          · first | assumption | omega | (simp; omega)
          · first | assumption | omega | (simp; omega)
          rintro _ _ ⟨x, a2, s2, hx, ha0, ha1, rfl, rfl⟩
          simp only [List.mem_cons, List.not_mem_nil, or_false] at hx
          refine list_cons rfl (op_q (q_assign rfl (by decide)) ?_)
          refine list_nil ?_
          refine hK27 _ ?_; clear hK27 K27
          refine codeT.imp (σ' := [(0, _), (2, _), (5, _), (11, _)]) ?_ (imp_covers ⟨rfl, rfl, rfl, rfl, trivial⟩)
          refine code_ret ?_
          refine blk_r ?_
          refine then_r ?_; clear hK2 K2
          refine ends_ret (cs := _) rfl rfl rfl rfl rfl ?_
          first
          | exact ⟨_, _, _, by omega, by omega, by omega, rfl, rfl⟩
          | (refine ⟨_, _, _, ?_, by omega, by omega, rfl, rfl⟩; have hx7 := @xor7c (digT.getD _ 0) ((p2 b.toNat : Nat) : Int) hdc ⟨by omega, by omega⟩; omega)
        · skip
          (try simp only [Decidable.not_not] at h10)
          refine code_skip ?_
          refine blk_n ?_
          refine hK2 _ ?_; clear hK2 K2
          refine code_seq (fun K28 hK28 => ?_)
          refine code_seq (fun K29 hK29 => ?_)
          refine code_region ?_
          refine list_cons rfl (op_q (q_move rfl (by decide)) ?_)
          refine list_cons rfl (op_callM (one_c code ?_ _ _ ?_ ?_ _) (.tmp 18) 2000 [0, 18] [_] _ rfl rfl (by intro y hy; cases hy; exact ⟨rfl, (by intro t ht; simp only [List.mem_cons, List.not_mem_nil, or_false] at ht; rcases ht with rfl | rfl <;> rfl), (by intro s hs; simp only [List.mem_cons, List.not_mem_nil, or_false] at hs; subst hs; first | (simp [SV.labels]; done) | (simp [SV.labels, packS, SV.back]; done) | exact List.not_mem_nil)⟩) (by decide) (by decide) (by decide) rfl (fun _ => rfl) ?_)
          · first | assumption | omega | (simp; omega)
          · first | assumption | omega | (simp; omega)
          · first | assumption | omega | (simp; omega)
          rintro _ _ ⟨o, a2, s2, ha0, ha1, rfl, rfl⟩
          refine list_nil ?_
          refine hK29 _ ?_; clear hK29 K29
          refine codeT.imp (σ' := [(0, _), (2, _), (5, _), (11, _), (19, _)]) ?_ (imp_covers ⟨rfl, rfl, rfl, rfl, rfl, trivial⟩)
          refine code_cond_d rfl (fun h11 => ?_) (fun h11 => ?_)
          · skip
            (try simp only [Decidable.not_not] at h11)
            refine code_seq (fun K30 hK30 => ?_)
            refine code_region ?_
            refine list_cons rfl (op_q (q_move rfl (by decide)) ?_)
            refine list_cons rfl (op_callM (pick_c code ?_ _ _ ?_ ?_ _) (.tmp 20) 2000 [0, 20] [_] _ rfl rfl (by intro y hy; cases hy; exact ⟨rfl, (by intro t ht; simp only [List.mem_cons, List.not_mem_nil, or_false] at ht; rcases ht with rfl | rfl <;> rfl), (by intro s hs; simp only [List.mem_cons, List.not_mem_nil, or_false] at hs; subst hs; first | (simp [SV.labels]; done) | (simp [SV.labels, packS, SV.back]; done) | exact List.not_mem_nil)⟩) (by decide) (by decide) (by decide) rfl (fun _ => rfl) ?_)
            · first | assumption | omega | (simp; omega)
            · first | assumption | omega | (simp; omega)
            · first | assumption | omega | (simp; omega)
            rintro _ _ ⟨b, a2, s2, hb0, hb1, ha0, ha1, rfl, rfl⟩
            try have hp2 := p2_64 (k := b.toNat) (by omega)
            refine list_cons rfl (op_q (q_assign rfl (by decide)) ?_)
            refine list_nil ?_
            refine hK30 _ ?_; clear hK30 K30
            refine codeT.imp (σ' := [(0, _), (2, _), (5, _), (11, _)]) ?_ (imp_covers ⟨rfl, rfl, rfl, rfl, trivial⟩)
            refine code_ret ?_
            refine then_r ?_; clear hK28 K28
            refine ends_ret (cs := _) rfl rfl rfl rfl rfl ?_
            first
            | exact ⟨_, _, _, by omega, by omega, by omega, rfl, rfl⟩
            | (refine ⟨_, _, _, ?_, by omega, by omega, rfl, rfl⟩; have hx7 := @xor7c (digT.getD _ 0) ((p2 b.toNat : Nat) : Int) hdc ⟨by omega, by omega⟩; omega)
          · skip
            (try simp only [Decidable.not_not] at h11)
            refine code_skip ?_
            refine hK28 _ ?_; clear hK28 K28
            refine code_seq (fun K31 hK31 => ?_)
            refine code_region ?_
            refine list_cons rfl (op_q (q_move rfl (by decide)) ?_)
            refine list_cons rfl (op_callM (pick_c code ?_ _ _ ?_ ?_ _) (.tmp 22) 2000 [0, 22] [_] _ rfl rfl (by intro y hy; cases hy; exact ⟨rfl, (by intro t ht; simp only [List.mem_cons, List.not_mem_nil, or_false] at ht; rcases ht with rfl | rfl <;> rfl), (by intro s hs; simp only [List.mem_cons, List.not_mem_nil, or_false] at hs; subst hs; first | (simp [SV.labels]; done) | (simp [SV.labels, packS, SV.back]; done) | exact List.not_mem_nil)⟩) (by decide) (by decide) (by decide) rfl (fun _ => rfl) ?_)
            · first | assumption | omega | (simp; omega)
            · first | assumption | omega | (simp; omega)
            · first | assumption | omega | (simp; omega)
            rintro _ _ ⟨b, a2, s2, hb0, hb1, ha0, ha1, rfl, rfl⟩
            try have hp2 := p2_64 (k := b.toNat) (by omega)
            refine list_cons rfl (op_call _ (spec_l2Digit _ (by omega) (by omega)) rfl rfl (by decide) (by decide) (by decide) rfl ?_)
            rintro _ rfl; have hdc := digT_cell b.toNat
            refine list_cons rfl (op_q (q_assign rfl (by decide)) ?_)
            refine list_nil ?_
            refine hK31 _ ?_; clear hK31 K31
            refine codeT.imp (σ' := [(0, _), (2, _), (3, _), (5, _), (11, _)]) ?_ (imp_covers ⟨rfl, rfl, rfl, rfl, rfl, trivial⟩)
            refine code_seq (fun K32 hK32 => ?_)
            refine code_seq (fun K33 hK33 => ?_)
            refine code_region ?_
            refine list_cons rfl (op_q (q_move rfl (by decide)) ?_)
            refine list_cons rfl (op_callM (one_c code ?_ _ _ ?_ ?_ _) (.tmp 25) 2000 [0, 25] [_] _ rfl rfl (by intro y hy; cases hy; exact ⟨rfl, (by intro t ht; simp only [List.mem_cons, List.not_mem_nil, or_false] at ht; rcases ht with rfl | rfl <;> rfl), (by intro s hs; simp only [List.mem_cons, List.not_mem_nil, or_false] at hs; subst hs; first | (simp [SV.labels]; done) | (simp [SV.labels, packS, SV.back]; done) | exact List.not_mem_nil)⟩) (by decide) (by decide) (by decide) rfl (fun _ => rfl) ?_)
            · first | assumption | omega | (simp; omega)
            · first | assumption | omega | (simp; omega)
            · first | assumption | omega | (simp; omega)
            rintro _ _ ⟨o, a2, s2, ha0, ha1, rfl, rfl⟩
            refine list_nil ?_
            refine hK33 _ ?_; clear hK33 K33
            refine codeT.imp (σ' := [(0, _), (2, _), (3, _), (5, _), (11, _), (26, _)]) ?_ (imp_covers ⟨rfl, rfl, rfl, rfl, rfl, rfl, trivial⟩)
            refine code_cond_d rfl (fun h12 => ?_) (fun h12 => ?_)
            · skip
              (try simp only [Decidable.not_not] at h12)
              refine code_region ?_
              refine list_cons rfl (op_q (q_move rfl (by decide)) ?_)
              refine list_cons rfl (op_q (q_move rfl (by decide)) ?_)
              refine list_cons rfl (op_callM (pick_c code ?_ _ _ ?_ ?_ _) (.tmp 28) 2000 [0, 28] [_] _ rfl rfl (by intro y hy; cases hy; exact ⟨rfl, (by intro t ht; simp only [List.mem_cons, List.not_mem_nil, or_false] at ht; rcases ht with rfl | rfl <;> rfl), (by intro s hs; simp only [List.mem_cons, List.not_mem_nil, or_false] at hs; subst hs; first | (simp [SV.labels]; done) | (simp [SV.labels, packS, SV.back]; done) | exact List.not_mem_nil)⟩) (by decide) (by decide) (by decide) rfl (fun _ => rfl) ?_)
              · first | assumption | omega | (simp; omega)
              · first | assumption | omega | (simp; omega)
              · first | assumption | omega | (simp; omega)
              rintro _ _ ⟨b, a2, s2, hb0, hb1, ha0, ha1, rfl, rfl⟩
              try have hp2 := p2_64 (k := b.toNat) (by omega)
              refine list_cons rfl (op_q (by first | exact q_shl1 rfl rfl (by decide) (by omega) (by omega) | exact q_shlI rfl rfl (by decide) (by omega) (by omega) (by omega) | exact q_shl rfl rfl (by omega) (by decide)) ?_)
              refine list_cons rfl (op_q (by first | exact q_xorI rfl rfl (by decide) (by omega) (by omega) (by omega) (by omega) | exact q_ib rfl rfl rfl (by decide)) ?_)
              refine list_cons rfl (op_q (q_assign rfl (by decide)) ?_)
              refine list_nil ?_
              refine hK32 _ ?_; clear hK32 K32
              refine codeT.imp (σ' := [(0, _), (2, _), (3, _), (5, _), (11, _)]) ?_ (imp_covers ⟨rfl, rfl, rfl, rfl, rfl, trivial⟩)
              refine code_seq (fun K34 hK34 => ?_)
              refine code_region ?_
              refine list_cons rfl (op_q (q_move rfl (by decide)) ?_)
              refine list_cons rfl (op_q (q_assign rfl (by decide)) ?_)
              refine list_nil ?_
              refine hK34 _ ?_; clear hK34 K34
              refine code_ret ?_
              refine ends_ret (cs := _) rfl rfl rfl rfl rfl ?_
              first
              | exact ⟨_, _, _, by omega, by omega, by omega, rfl, rfl⟩
              | (refine ⟨_, _, _, ?_, by omega, by omega, rfl, rfl⟩; have hx7 := @xor7c (digT.getD _ 0) ((p2 b.toNat : Nat) : Int) hdc ⟨by omega, by omega⟩; omega)
            · skip
              (try simp only [Decidable.not_not] at h12)
              refine code_skip ?_
              refine hK32 _ ?_; clear hK32 K32
              refine code_seq (fun K35 hK35 => ?_)
              refine code_region ?_
              refine list_cons rfl (op_q (q_move rfl (by decide)) ?_)
              refine list_cons rfl (op_q (q_assign rfl (by decide)) ?_)
              refine list_nil ?_
              refine hK35 _ ?_; clear hK35 K35
              refine code_ret ?_
              refine ends_ret (cs := _) rfl rfl rfl rfl rfl ?_
              first
              | exact ⟨_, _, _, by omega, by omega, by omega, rfl, rfl⟩
              | (refine ⟨_, _, _, ?_, by omega, by omega, rfl, rfl⟩; have hx7 := @xor7c (digT.getD _ 0) ((p2 b.toNat : Nat) : Int) hdc ⟨by omega, by omega⟩; omega)

set_option maxRecDepth 4000 in
set_option maxHeartbeats 4000000 in
theorem row_c (code : List UInt8) (hcode : code.length ≤ 9223372036854775807) (a s : Int) (ha : 0 ≤ a) (ha2 : a ≤ 4611686018427300000) : MCalls Tryd.prog 120 false (some (.box 74 [.sl code.length (bytesP code), .int .i64 a, .int .u64 s])) [] fun rs cs => ∃ (l : List Int) (a2 s2 : Int), (l.length ≤ 7 ∧ ∀ x ∈ l, -1 ≤ x ∧ x ≤ 4611686018427387904) ∧ a ≤ a2 ∧ a2 ≤ a + 300 ∧ rs = [.own 0 3 1 l.length (l.map (.int .i64))] ∧ cs = [.sl code.length (bytesP code), .int .i64 a2, .int .u64 s2] := by
  refine mcalls_of_code (n := 22) az Tryd.func120 (by kernel_rfl) rfl rfl (Nat.le_of_ble_eq_true rfl) (by intro t u h; simp [Tryd.f120] at h) ?_
  refine code_seq (fun K1 hK1 => ?_)
  refine code_region ?_
  refine list_cons rfl (op_q (q_assign rfl (by decide)) ?_)
  refine list_nil ?_
  refine hK1 _ ?_; clear hK1 K1
  refine code_seq (fun K2 hK2 => ?_)
  refine code_region ?_
  refine list_cons rfl (op_buildSlice sl_24 (parts := []) rfl rfl rfl (by decide) (by decide) (by decide) rfl ?_)
  refine list_cons rfl (op_q (q_assign rfl (by decide)) ?_)
  refine list_nil ?_
  refine hK2 _ ?_; clear hK2 K2
  refine code_seq (fun K3 hK3 => ?_)
  refine code_seq (fun K4 hK4 => ?_)
  refine code_region ?_
  refine list_cons rfl (op_q (q_move rfl (by decide)) ?_)
  refine list_cons rfl (op_buildSlice sl_24 (parts := [(0, _), (1, _), (2, _), (3, _), (4, _), (5, _), (6, _), (7, _), (8, _)]) rfl rfl rfl (by decide) (by decide) (by decide) rfl ?_)
  refine list_cons rfl (op_callM (among_c code ?_ _ _ ?_ ?_ ([2, 3, 1, 4, 6, 0, 5, 2, 3]) (by decide) (by decide)) (.tmp 6) 2000 [0, 6] [.tmp 7] _ rfl rfl (by intro y hy; cases hy; exact ⟨rfl, (by intro t ht; simp only [List.mem_cons, List.not_mem_nil, or_false] at ht; rcases ht with rfl | rfl <;> rfl), (by intro s hs; simp only [List.mem_cons, List.not_mem_nil, or_false] at hs; subst hs; first | (simp [SV.labels]; done) | (simp [SV.labels, packS, SV.back]; done) | exact List.not_mem_nil)⟩) (by decide) (by decide) (by decide) rfl (fun _ => rfl) ?_)
  · first | assumption | omega | (simp; omega)
  · first | assumption | omega | (simp; omega)
  · first | assumption | omega | (simp; omega)
  rintro _ _ ⟨n0, a2, s2, hx, ha0, ha1, rfl, rfl⟩
  simp only [List.mem_cons, List.not_mem_nil, or_false] at hx
  refine list_cons rfl (op_q (q_assign rfl (by decide)) ?_)
  refine list_nil ?_
  refine hK4 _ ?_; clear hK4 K4
  refine codeT.imp (σ' := [(0, _), (2, _), (3, _), (4, _)]) ?_ (imp_covers ⟨rfl, rfl, rfl, rfl, trivial⟩)
  refine code_block ?_
  refine code_loop (X := List PV × PV × Nat × List PV × Int) (fun x => [(0, .box 2000 74 x.1), (2, .val x.2.1), (3, .own 5 3 1 x.2.2.1 x.2.2.2.1), (4, .val (.int .i64 x.2.2.2.2))]) (fun x => x.2.2.2.2 ≤ 6 ∧ ∃ (a1 s1 : Int) (l : List Int), x.1 = [.sl code.length (bytesP code), .int .i64 a1, .int .u64 s1] ∧ x.2.2.1 = l.length ∧ x.2.2.2.1 = l.map (.int .i64) ∧ a ≤ a1 ∧ a1 ≤ a + 10 + 20 * l.length ∧ (l.length : Int) + max x.2.2.2.2 0 ≤ 6 ∧ ∀ x ∈ l, -1 ≤ x ∧ x ≤ 4611686018427387904) (fun x => x.2.2.2.2.toNat) (_, _, _, _, _) (imp_covers ⟨rfl, rfl, rfl, rfl, trivial⟩) ?_ ?_
  · (try dsimp only)
    exact ⟨by omega, _, _, [], rfl, rfl, rfl, by omega, by simp only [List.length_nil]; omega, by simp only [List.length_nil]; omega, fun _ h => by simp at h⟩
  · intro x hI
    obtain ⟨c_c, t2_p, out_n, out_c, n⟩ := x
    replace hI : n ≤ 6 ∧ ∃ (a1 s1 : Int) (l : List Int), c_c = [.sl code.length (bytesP code), .int .i64 a1, .int .u64 s1] ∧ out_n = l.length ∧ out_c = l.map (.int .i64) ∧ a ≤ a1 ∧ a1 ≤ a + 10 + 20 * l.length ∧ (l.length : Int) + max n 0 ≤ 6 ∧ ∀ x ∈ l, -1 ≤ x ∧ x ≤ 4611686018427387904 := hI
    show codeT _ _ _ [(0, .box 2000 74 c_c), (2, .val t2_p), (3, .own 5 3 1 out_n out_c), (4, .val (.int .i64 n))] _
    obtain ⟨i0, a1, s1, l, rfl, rfl, rfl, i1, i2, i3, i4⟩ := hI
    refine code_seq (fun K5 hK5 => ?_)
    refine code_seq (fun K6 hK6 => ?_)
    refine code_region ?_
    refine list_cons rfl (op_q (q_move rfl (by decide)) ?_)
    refine list_cons rfl (op_q (q_gt rfl rfl (by decide)) ?_)
    refine list_nil ?_
    refine hK6 _ ?_; clear hK6 K6
    refine code_cond_d rfl (fun h1 => ?_) (fun h1 => ?_)
    · skip
      (try simp only [Decidable.not_not] at h1)
      refine code_skip ?_
      refine hK5 _ ?_; clear hK5 K5
      refine code_seq (fun K7 hK7 => ?_)
      refine code_block ?_
      refine code_region ?_
      refine list_cons rfl (op_q (q_move rfl (by decide)) ?_)
      refine list_cons rfl (op_q (q_move rfl (by decide)) ?_)
      refine list_cons rfl (op_callM (cell_c code ?_ _ _ ?_ ?_) (.tmp 14) 2000 [0, 14] [] _ rfl rfl (by intro y hy; cases hy; exact ⟨rfl, (by intro t ht; simp only [List.mem_cons, List.not_mem_nil, or_false] at ht; rcases ht with rfl | rfl <;> rfl), (by intro s hs; simp only [List.mem_cons, List.not_mem_nil, or_false] at hs; (try cases hs))⟩) (by decide) (by decide) (by decide) rfl (fun _ => rfl) ?_)
      · first | assumption | omega | (simp; omega)
      · first | assumption | omega | (simp; omega)
      · first | assumption | omega | (simp; omega)
      rintro _ _ ⟨x, a2, s2, hx, ha0, ha1, rfl, rfl⟩
      refine list_cons rfl (op_buildSlice sl_24 (parts := [(0, .tmp 15)]) rfl rfl rfl (by decide) (by decide) (by decide) rfl ?_)
      refine list_cons rfl (op_append_gen sl_24 (l := 5) (.inl rfl) rfl rfl (l2 := none) (.inl ⟨rfl, (by first | rfl | exact flat_map _ (fun _ => rfl) _)⟩) (by first | rfl | simp | omega) (by omega) (by decide) (by decide) (by decide) ?_)
      refine list_cons rfl (op_q (q_assign rfl (by decide)) ?_)
      refine list_nil ?_
      refine blk_n ?_
      refine hK7 _ ?_; clear hK7 K7
      refine codeT.imp (σ' := [(0, _), (2, _), (3, _), (4, _)]) ?_ (imp_covers ⟨rfl, rfl, rfl, rfl, trivial⟩)
      refine code_region ?_
      refine list_cons rfl (op_q (q_move rfl (by decide)) ?_)
      refine list_cons rfl (op_q (by first | exact q_subI rfl rfl (by decide) (by omega) (by omega) | exact q_ib rfl rfl rfl (by decide)) ?_)
      refine list_cons rfl (op_q (q_assign rfl (by decide)) ?_)
      refine list_nil ?_
      refine then_n ⟨(_, _, _, _, _), imp_covers ⟨rfl, rfl, rfl, rfl, trivial⟩, ?_, ?_⟩
      · (try dsimp only)
        refine ⟨by omega, _, _, l ++ [x], rfl, by simp, by simp; rfl, by omega, by simp only [List.length_append, List.length_cons, List.length_nil]; omega, by simp only [List.length_append, List.length_cons, List.length_nil]; omega, fun y hy => ?_⟩
        rcases List.mem_append.1 hy with hy | hy
        · exact i4 y hy
        · simp only [List.mem_singleton] at hy; subst hy; omega
      · (try dsimp only); omega
    · skip
      (try simp only [Decidable.not_not] at h1)
      refine code_exit ?_
      refine then_x ?_; clear hK5 K5
      refine then_x ?_
      refine blk_hit ?_
      refine hK3 _ ?_; clear hK3 K3
      refine code_seq (fun K8 hK8 => ?_)
      refine code_seq (fun K9 hK9 => ?_)
      refine code_region ?_
      refine list_cons rfl (op_q (q_move rfl (by decide)) ?_)
      refine list_cons rfl (op_callM (one_c code ?_ _ _ ?_ ?_ _) (.tmp 18) 2000 [0, 18] [_] _ rfl rfl (by intro y hy; cases hy; exact ⟨rfl, (by intro t ht; simp only [List.mem_cons, List.not_mem_nil, or_false] at ht; rcases ht with rfl | rfl <;> rfl), (by intro s hs; simp only [List.mem_cons, List.not_mem_nil, or_false] at hs; subst hs; first | (simp [SV.labels]; done) | (simp [SV.labels, packS, SV.back]; done) | exact List.not_mem_nil)⟩) (by decide) (by decide) (by decide) rfl (fun _ => rfl) ?_)
      · first | assumption | omega | (simp; omega)
      · first | assumption | omega | (simp; omega)
      · first | assumption | omega | (simp; omega)
      rintro _ _ ⟨o, a2, s2, ha0, ha1, rfl, rfl⟩
      refine list_nil ?_
      refine hK9 _ ?_; clear hK9 K9
      refine codeT.imp (σ' := [(0, _), (2, _), (3, _), (4, _), (19, _)]) ?_ (imp_covers ⟨rfl, rfl, rfl, rfl, rfl, trivial⟩)
      refine code_cond_d rfl (fun h2 => ?_) (fun h2 => ?_)
      · skip
        (try simp only [Decidable.not_not] at h2)
        refine code_seq (fun K10 hK10 => ?_)
        refine code_region ?_
        refine list_cons rfl (op_buildSlice sl_24 (parts := [(0, _), (1, _), (2, _), (3, _), (4, _), (5, _), (6, _)]) rfl rfl rfl (by decide) (by decide) (by decide) rfl ?_)
        refine list_cons rfl (op_q (q_assign rfl (by decide)) ?_)
        refine list_nil ?_
        refine hK10 _ ?_; clear hK10 K10
        refine code_ret ?_
        refine then_r ?_; clear hK8 K8
        refine ends_ret (cs := _) rfl rfl rfl rfl rfl ?_
        exact ⟨[6, 6, 6, 6, 6, 6, 6], _, _, ⟨by decide, by decide⟩, by omega, by omega, rfl, rfl⟩
      · skip
        (try simp only [Decidable.not_not] at h2)
        refine code_skip ?_
        refine hK8 _ ?_; clear hK8 K8
        refine code_seq (fun K11 hK11 => ?_)
        refine code_region ?_
        refine list_cons rfl (op_q (q_move rfl (by decide)) ?_)
        refine list_cons rfl (op_q (q_assign rfl (by decide)) ?_)
        refine list_nil ?_
        refine hK11 _ ?_; clear hK11 K11
        refine code_ret ?_
        refine ends_ret (cs := _) rfl rfl rfl rfl rfl ?_
        exact ⟨l, _, _, ⟨by omega, i4⟩, by omega, by omega, rfl, rfl⟩

set_option maxRecDepth 4000 in
set_option maxHeartbeats 4000000 in
theorem digits_c (code : List UInt8) (hcode : code.length ≤ 9223372036854775807) (a s : Int) (ha : 0 ≤ a) (ha2 : a ≤ 4611686018427200000) : MCalls Tryd.prog 77 false (some (.box 74 [.sl code.length (bytesP code), .int .i64 a, .int .u64 s])) [] fun rs cs => ∃ (l : List Int) (a2 s2 : Int), (l.length ≤ 7 ∧ ∀ x ∈ l, -1 ≤ x ∧ x ≤ 4611686018427387904) ∧ a ≤ a2 ∧ a2 ≤ a + 400 ∧ rs = [.own 0 3 1 l.length (l.map (.int .i64))] ∧ cs = [.sl code.length (bytesP code), .int .i64 a2, .int .u64 s2] := by
  refine mcalls_of_code (n := 25) az Tryd.func77 (by kernel_rfl) rfl rfl (Nat.le_of_ble_eq_true rfl) (by intro t u h; simp [Tryd.f77] at h) ?_
  refine code_seq (fun K1 hK1 => ?_)
  refine code_region ?_
  refine list_cons rfl (op_q (q_assign rfl (by decide)) ?_)
  refine list_nil ?_
  refine hK1 _ ?_; clear hK1 K1
  refine code_seq (fun K2 hK2 => ?_)
  refine code_seq (fun K3 hK3 => ?_)
  refine code_region ?_
  refine list_cons rfl (op_q (q_move rfl (by decide)) ?_)
  refine list_cons rfl (op_callM (one_c code ?_ _ _ ?_ ?_ _) (.tmp 5) 2000 [0, 5] [_] _ rfl rfl (by intro y hy; cases hy; exact ⟨rfl, (by intro t ht; simp only [List.mem_cons, List.not_mem_nil, or_false] at ht; rcases ht with rfl | rfl <;> rfl), (by intro s hs; simp only [List.mem_cons, List.not_mem_nil, or_false] at hs; subst hs; first | (simp [SV.labels]; done) | (simp [SV.labels, packS, SV.back]; done) | exact List.not_mem_nil)⟩) (by decide) (by decide) (by decide) rfl (fun _ => rfl) ?_)
  · first | assumption | omega | (simp; omega)
  · first | assumption | omega | (simp; omega)
  · first | assumption | omega | (simp; omega)
  rintro _ _ ⟨o, a2, s2, ha0, ha1, rfl, rfl⟩
  refine list_nil ?_
  refine hK3 _ ?_; clear hK3 K3
  refine codeT.imp (σ' := [(0, _), (2, _), (6, _)]) ?_ (imp_covers ⟨rfl, rfl, rfl, trivial⟩)
  refine code_cond_d rfl (fun h1 => ?_) (fun h1 => ?_)
  · skip
    (try simp only [Decidable.not_not] at h1)
    refine code_seq (fun K4 hK4 => ?_)
    refine code_region ?_
    refine list_cons rfl (op_q (q_move rfl (by decide)) ?_)
    refine list_cons rfl (op_callM (row_c code ?_ _ _ ?_ ?_) (.tmp 7) 2000 [0, 7] [] _ rfl rfl (by intro y hy; cases hy; exact ⟨rfl, (by intro t ht; simp only [List.mem_cons, List.not_mem_nil, or_false] at ht; rcases ht with rfl | rfl <;> rfl), (by intro s hs; simp only [List.mem_cons, List.not_mem_nil, or_false] at hs; (try cases hs))⟩) (by decide) (by decide) (by decide) rfl (fun _ => rfl) ?_)
    · first | assumption | omega | (simp; omega)
    · first | assumption | omega | (simp; omega)
    · first | assumption | omega | (simp; omega)
    rintro _ _ ⟨l, a2, s2, ⟨hl1, hl2⟩, ha0, ha1, rfl, rfl⟩
    refine list_cons rfl (op_q (q_assign rfl (by decide)) ?_)
    refine list_nil ?_
    refine hK4 _ ?_; clear hK4 K4
    refine codeT.imp (σ' := [(0, _), (2, _)]) ?_ (imp_covers ⟨rfl, rfl, trivial⟩)
    refine code_ret ?_
    refine then_r ?_; clear hK2 K2
    refine ends_ret (cs := _) rfl rfl rfl rfl rfl ?_
    exact ⟨l, _, _, ⟨by omega, hl2⟩, by omega, by omega, rfl, rfl⟩
  · skip
    (try simp only [Decidable.not_not] at h1)
    refine code_skip ?_
    refine hK2 _ ?_; clear hK2 K2
    refine code_seq (fun K5 hK5 => ?_)
    refine code_region ?_
    refine list_cons rfl (op_buildSlice sl_24 (parts := []) rfl rfl rfl (by decide) (by decide) (by decide) rfl ?_)
    refine list_cons rfl (op_q (q_assign rfl (by decide)) ?_)
    refine list_nil ?_
    refine hK5 _ ?_; clear hK5 K5
    refine code_seq (fun K6 hK6 => ?_)
    refine code_seq (fun K7 hK7 => ?_)
    refine code_region ?_
    refine list_cons rfl (op_q (q_move rfl (by decide)) ?_)
    refine list_cons rfl (op_buildSlice sl_24 (parts := [(0, _), (1, _), (2, _), (3, _), (4, _)]) rfl rfl rfl (by decide) (by decide) (by decide) rfl ?_)
    refine list_cons rfl (op_callM (among_c code ?_ _ _ ?_ ?_ ([2, 3, 1, 4, 6]) (by decide) (by decide)) (.tmp 10) 2000 [0, 10] [.tmp 11] _ rfl rfl (by intro y hy; cases hy; exact ⟨rfl, (by intro t ht; simp only [List.mem_cons, List.not_mem_nil, or_false] at ht; rcases ht with rfl | rfl <;> rfl), (by intro s hs; simp only [List.mem_cons, List.not_mem_nil, or_false] at hs; subst hs; first | (simp [SV.labels]; done) | (simp [SV.labels, packS, SV.back]; done) | exact List.not_mem_nil)⟩) (by decide) (by decide) (by decide) rfl (fun _ => rfl) ?_)
    · first | assumption | omega | (simp; omega)
    · first | assumption | omega | (simp; omega)
    · first | assumption | omega | (simp; omega)
    rintro _ _ ⟨n0, a2, s2, hx, ha0, ha1, rfl, rfl⟩
    simp only [List.mem_cons, List.not_mem_nil, or_false] at hx
    refine list_cons rfl (op_q (q_assign rfl (by decide)) ?_)
    refine list_nil ?_
    refine hK7 _ ?_; clear hK7 K7
    refine codeT.imp (σ' := [(0, _), (2, _), (3, _), (4, _)]) ?_ (imp_covers ⟨rfl, rfl, rfl, rfl, trivial⟩)
    refine code_block ?_
    refine code_loop (X := List PV × PV × Nat × List PV × Int) (fun x => [(0, .box 2000 74 x.1), (2, .val x.2.1), (3, .own 9 3 1 x.2.2.1 x.2.2.2.1), (4, .val (.int .i64 x.2.2.2.2))]) (fun x => x.2.2.2.2 ≤ 6 ∧ ∃ (a1 s1 : Int) (l : List Int), x.1 = [.sl code.length (bytesP code), .int .i64 a1, .int .u64 s1] ∧ x.2.2.1 = l.length ∧ x.2.2.2.1 = l.map (.int .i64) ∧ a ≤ a1 ∧ a1 ≤ a + 10 + 20 * l.length ∧ (l.length : Int) + max x.2.2.2.2 0 ≤ 6 ∧ ∀ x ∈ l, -1 ≤ x ∧ x ≤ 4611686018427387904) (fun x => x.2.2.2.2.toNat) (_, _, _, _, _) (imp_covers ⟨rfl, rfl, rfl, rfl, trivial⟩) ?_ ?_
    · (try dsimp only)
      exact ⟨by omega, _, _, [], rfl, rfl, rfl, by omega, by simp only [List.length_nil]; omega, by simp only [List.length_nil]; omega, fun _ h => by simp at h⟩
    · intro x hI
      obtain ⟨c_c, t2_p, out_n, out_c, n⟩ := x
      replace hI : n ≤ 6 ∧ ∃ (a1 s1 : Int) (l : List Int), c_c = [.sl code.length (bytesP code), .int .i64 a1, .int .u64 s1] ∧ out_n = l.length ∧ out_c = l.map (.int .i64) ∧ a ≤ a1 ∧ a1 ≤ a + 10 + 20 * l.length ∧ (l.length : Int) + max n 0 ≤ 6 ∧ ∀ x ∈ l, -1 ≤ x ∧ x ≤ 4611686018427387904 := hI
      show codeT _ _ _ [(0, .box 2000 74 c_c), (2, .val t2_p), (3, .own 9 3 1 out_n out_c), (4, .val (.int .i64 n))] _
      obtain ⟨i0, a1, s1, l, rfl, rfl, rfl, i1, i2, i3, i4⟩ := hI
      refine code_seq (fun K8 hK8 => ?_)
      refine code_seq (fun K9 hK9 => ?_)
      refine code_region ?_
      refine list_cons rfl (op_q (q_move rfl (by decide)) ?_)
      refine list_cons rfl (op_q (q_gt rfl rfl (by decide)) ?_)
      refine list_nil ?_
      refine hK9 _ ?_; clear hK9 K9
      refine code_cond_d rfl (fun h2 => ?_) (fun h2 => ?_)
      · skip
        (try simp only [Decidable.not_not] at h2)
        refine code_skip ?_
        refine hK8 _ ?_; clear hK8 K8
        refine code_seq (fun K10 hK10 => ?_)
        refine code_block ?_
        refine code_region ?_
        refine list_cons rfl (op_q (q_move rfl (by decide)) ?_)
        refine list_cons rfl (op_q (q_move rfl (by decide)) ?_)
        refine list_cons rfl (op_buildSlice sl_24 (parts := [(0, _), (1, _), (2, _), (3, _), (4, _), (5, _), (6, _), (7, _), (8, _), (9, _)]) rfl rfl rfl (by decide) (by decide) (by decide) rfl ?_)
        refine list_cons rfl (op_callM (among_c code ?_ _ _ ?_ ?_ ([0, 1, 2, 5, 6, 8, 9, 3, 4, 7]) (by decide) (by decide)) (.tmp 18) 2000 [0, 18] [.tmp 19] _ rfl rfl (by intro y hy; cases hy; exact ⟨rfl, (by intro t ht; simp only [List.mem_cons, List.not_mem_nil, or_false] at ht; rcases ht with rfl | rfl <;> rfl), (by intro s hs; simp only [List.mem_cons, List.not_mem_nil, or_false] at hs; subst hs; first | (simp [SV.labels]; done) | (simp [SV.labels, packS, SV.back]; done) | exact List.not_mem_nil)⟩) (by decide) (by decide) (by decide) rfl (fun _ => rfl) ?_)
        · first | assumption | omega | (simp; omega)
        · first | assumption | omega | (simp; omega)
        · first | assumption | omega | (simp; omega)
        rintro _ _ ⟨x, a2, s2, hx, ha0, ha1, rfl, rfl⟩
        simp only [List.mem_cons, List.not_mem_nil, or_false] at hx
        refine list_cons rfl (op_call _ (spec_l2Digit _ (by omega) (by omega)) rfl rfl (by decide) (by decide) (by decide) rfl ?_)
        rintro _ rfl; have hdc := digT_cell x.toNat
        refine list_cons rfl (op_buildSlice sl_24 (parts := [(0, .tmp 21)]) rfl rfl rfl (by decide) (by decide) (by decide) rfl ?_)
        refine list_cons rfl (op_append_gen sl_24 (l := 9) (.inl rfl) rfl rfl (l2 := none) (.inl ⟨rfl, (by first | rfl | exact flat_map _ (fun _ => rfl) _)⟩) (by first | rfl | simp | omega) (by omega) (by decide) (by decide) (by decide) ?_)
        refine list_cons rfl (op_q (q_assign rfl (by decide)) ?_)
        refine list_nil ?_
        refine blk_n ?_
        refine hK10 _ ?_; clear hK10 K10
        refine codeT.imp (σ' := [(0, _), (2, _), (3, _), (4, _)]) ?_ (imp_covers ⟨rfl, rfl, rfl, rfl, trivial⟩)
        refine code_region ?_
        refine list_cons rfl (op_q (q_move rfl (by decide)) ?_)
        refine list_cons rfl (op_q (by first | exact q_subI rfl rfl (by decide) (by omega) (by omega) | exact q_ib rfl rfl rfl (by decide)) ?_)
        refine list_cons rfl (op_q (q_assign rfl (by decide)) ?_)
        refine list_nil ?_
        refine then_n ⟨(_, _, _, _, _), imp_covers ⟨rfl, rfl, rfl, rfl, trivial⟩, ?_, ?_⟩
        · (try dsimp only)
          refine ⟨by omega, _, _, l ++ [digT.getD x.toNat 0], rfl, by simp, by simp; rfl, by omega, by simp only [List.length_append, List.length_cons, List.length_nil]; omega, by simp only [List.length_append, List.length_cons, List.length_nil]; omega, fun y hy => ?_⟩
          rcases List.mem_append.1 hy with hy | hy
          · exact i4 y hy
          · simp only [List.mem_singleton] at hy; subst hy; omega
        · (try dsimp only); omega
      · skip
        (try simp only [Decidable.not_not] at h2)
        refine code_exit ?_
        refine then_x ?_; clear hK8 K8
        refine then_x ?_
        refine blk_hit ?_
        refine hK6 _ ?_; clear hK6 K6
        refine code_seq (fun K11 hK11 => ?_)
        refine code_region ?_
        refine list_cons rfl (op_q (q_move rfl (by decide)) ?_)
        refine list_cons rfl (op_q (q_assign rfl (by decide)) ?_)
        refine list_nil ?_
        refine hK11 _ ?_; clear hK11 K11
        refine code_ret ?_
        refine ends_ret (cs := _) rfl rfl rfl rfl rfl ?_
        exact ⟨l, _, _, ⟨by omega, i4⟩, by omega, by omega, rfl, rfl⟩

end Go.Proofs.YtjbbijlbenkgcaaDoor
namespace Go.Proofs.YtjbbijlbenkgcaaDoor.Dr3Ty
open Go.RowKit

def az (u : TypeId) : Nat := match u with | 42 => 2 | _ => 0

theorem agg_42 : AggTy Tryd.prog 42 2 := aggTy_of Tryd.underlying42 rfl (by kernel_rfl)
theorem zt_42 : ZeroTy Tryd.prog 42 [.int .i64 0, .int .i64 0] := zeroTy_of (z := .agg #[.int .i64 0, .int .i64 0]) (by kernel_rfl) rfl
theorem bt_42 : BuildTy Tryd.prog 42 (fun i => match i with | 0 => some (0, 1) | 1 => some (1, 1) | _ => none) [.int .i64 0, .int .i64 0] := ⟨.agg #[.int .i64 0, .int .i64 0], rfl, fun parts => by
  have h : Tryd.prog.built 42 parts = Instr.fill (#[(0, 1), (1, 1)][·]?) ((.agg #[.int .i64 0, .int .i64 0] : Value)).cells parts := by kernel_rfl
  have hp : (fun i => (#[(0, 1), (1, 1)] : Array (Nat × Nat))[i]?) = (fun i => match i with | 0 => some (0, 1) | 1 => some (1, 1) | _ => none) := by
    funext i
    rcases i with _ | _ | _ <;> rfl
  rw [h, hp]⟩
theorem sl_24 : SlTy Tryd.prog 24 3 1 8 [.int .i64 0] := slTy_of Tryd.underlying24 (z := .int .i64 0) (by kernel_rfl) rfl (by decide) (by decide) rfl
theorem fi_42_0 : FiTy Tryd.prog 42 0 0 := fiTy_of (k := 1) Tryd.underlying42 rfl rfl (by kernel_rfl) (by decide)
theorem one_3 : OneTy Tryd.prog 3 := oneTy_of Tryd.underlying3 rfl (by kernel_rfl)
theorem fi_42_1 : FiTy Tryd.prog 42 1 1 := fiTy_of (k := 1) Tryd.underlying42 rfl rfl (by kernel_rfl) (by decide)
theorem sl_27 : SlTy Tryd.prog 27 42 2 16 [.int .i64 0, .int .i64 0] := slTy_of Tryd.underlying27 (z := .agg #[.int .i64 0, .int .i64 0]) (by kernel_rfl) rfl (by decide) (by decide) rfl

end Go.Proofs.YtjbbijlbenkgcaaDoor.Dr3Ty
namespace Go.Proofs.YtjbbijlbenkgcaaDoor
open Go.RowKit Dr3Ty
set_option linter.unusedVariables false
set_option linter.unusedSimpArgs false

def FB (x : Int) : Prop := -1 ≤ x ∧ x ≤ 128
/-- The laws' bounds on drawn faults. -/
def FBs (fs : List (Int × Int)) : Prop := fs.length ≤ 7 ∧ ∀ f ∈ fs, (-1 ≤ f.1 ∧ f.1 ≤ 128) ∧ (-1 ≤ f.2 ∧ f.2 ≤ 128)
theorem fl_snocD (o : List (Int × Int)) (a b : Int) : fl (o ++ [(a, b)]) = fl o ++ [PV.int .i64 a, PV.int .i64 b] := by simp [fl]
theorem fl_tail : ∀ fs : List (Int × Int), List.take ((fs.drop 1).length * 2) (List.drop (Int.toNat 1 * 2) (fl fs)) = fl (fs.drop 1)
  | [] => rfl
  | f :: r => by
    show List.take (r.length * 2) (fl r) = fl r
    rw [List.take_of_length_le (by rw [fl_len]; exact Nat.le_refl _)]
def CBs (l : List Int) : Prop := l.length ≤ 7 ∧ ∀ x ∈ l, -1 ≤ x ∧ x ≤ 4611686018427387904

set_option maxRecDepth 4000 in
set_option maxHeartbeats 4000000 in
theorem fault3_c (code : List UInt8) (hcode : code.length ≤ 9223372036854775807) (a s : Int) (ha : 0 ≤ a) (ha2 : a ≤ 4611686018427000000) : MCalls Tryd.prog 65 false (some (.box 74 [.sl code.length (bytesP code), .int .i64 a, .int .u64 s])) [] fun rs cs => ∃ (x y a2 s2 : Int), (-1 ≤ x ∧ x ≤ 128) ∧ (-1 ≤ y ∧ y ≤ 128) ∧ a ≤ a2 ∧ a2 ≤ a + 60 ∧ rs = [.val (.agg [.int .i64 x, .int .i64 y])] ∧ cs = [.sl code.length (bytesP code), .int .i64 a2, .int .u64 s2] := by
  refine mcalls_of_code (n := 54) az Tryd.func65 (by kernel_rfl) rfl rfl (Nat.le_of_ble_eq_true rfl) (by intro t u h; simp [Tryd.f65] at h; obtain ⟨_, rfl⟩ := h <;> first | exact resTy_agg agg_42 (by decide)) ?_
  refine code_seq (fun K1 hK1 => ?_)
  refine code_region ?_
  refine list_cons rfl (op_alloc zt_42 (by decide) (by decide) rfl ?_)
  refine list_nil ?_
  refine hK1 _ ?_; clear hK1 K1
  refine code_seq (fun K2 hK2 => ?_)
  refine code_region ?_
  refine list_cons rfl (op_q (q_build bt_42 (parts := []) rfl rfl (by decide)) ?_)
  refine list_cons rfl (op_alloc zt_42 (by decide) (by decide) rfl ?_)
  refine list_cons rfl (op_store (agg_42).2 3 [3] (by intro t ht; simp only [List.mem_cons, List.not_mem_nil, or_false] at ht; subst ht; rfl) (.inr ⟨rfl, _, rfl⟩) rfl rfl rfl rfl (by first | rfl | exact flat_part (flat_map _ (fun _ => rfl) _) _ _ | exact flat_map _ (fun _ => rfl) _) (by first | rfl | (simp [PV.cells]; done)) (by first | decide | omega | exact Nat.le_refl _ | (simp; done) | (simp; omega)) (by decide) rfl ?_)
  refine list_nil ?_
  refine hK2 _ ?_; clear hK2 K2
  refine codeT.imp (σ' := [(0, _), (2, _), (3, _)]) ?_ (imp_covers ⟨rfl, rfl, rfl, trivial⟩)
  refine code_seq (fun K3 hK3 => ?_)
  refine code_seq (fun K4 hK4 => ?_)
  refine code_region ?_
  refine list_cons rfl (op_q (q_move rfl (by decide)) ?_)
  refine list_cons rfl (op_buildSlice sl_24 (parts := [(0, _), (1, _), (2, _), (3, _), (4, _), (5, _)]) rfl rfl rfl (by decide) (by decide) (by decide) rfl ?_)
  refine list_cons rfl (op_callM (among_c code ?_ _ _ ?_ ?_ ([1, 2, 0, 3, 1, 5]) (by decide) (by decide)) (.tmp 7) 2000 [0, 7] [.tmp 8] _ rfl rfl (by intro y hy; cases hy; exact ⟨rfl, (by intro t ht; simp only [List.mem_cons, List.not_mem_nil, or_false] at ht; rcases ht with rfl | rfl <;> rfl), (by intro s hs; simp only [List.mem_cons, List.not_mem_nil, or_false] at hs; subst hs; first | (simp [SV.labels]; done) | (simp [SV.labels, packS, SV.back]; done) | exact List.not_mem_nil)⟩) (by decide) (by decide) (by decide) rfl (fun _ => rfl) ?_)
  · first | assumption | omega | (simp; omega)
  · first | assumption | omega | (simp; omega)
  · first | assumption | omega | (simp; omega)
  rintro _ _ ⟨n0, a2, s2, hx, ha0, ha1, rfl, rfl⟩
  simp only [List.mem_cons, List.not_mem_nil, or_false] at hx
  refine list_cons rfl (op_q (q_assign rfl (by decide)) ?_)
  refine list_nil ?_
  refine hK4 _ ?_; clear hK4 K4
  refine codeT.imp (σ' := [(0, _), (2, _), (3, _), (4, _)]) ?_ (imp_covers ⟨rfl, rfl, rfl, rfl, trivial⟩)
  refine code_block ?_
  refine code_loop (X := List PV × List PV × Int) (fun x => [(0, .box 2000 74 x.1), (2, .box 2 42 [.int .i64 0, .int .i64 0]), (3, .box 3 42 x.2.1), (4, .val (.int .i64 x.2.2))]) (fun x => x.2.2 ≤ 5 ∧ ∃ (a1 s1 p q : Int), x.1 = [.sl code.length (bytesP code), .int .i64 a1, .int .u64 s1] ∧ x.2.1 = [.int .i64 p, .int .i64 q] ∧ a ≤ a1 ∧ a1 + 4 * max x.2.2 0 ≤ a + 22 ∧ (0 ≤ p ∧ p ≤ 127) ∧ (0 ≤ q ∧ q ≤ 127)) (fun x => x.2.2.toNat) (_, _, _) (imp_covers ⟨rfl, rfl, rfl, rfl, trivial⟩) ?_ ?_
  · (try dsimp only)
    exact ⟨by omega, _, _, 0, 0, rfl, rfl, by omega, by omega, by omega, by omega⟩
  · intro x hI
    obtain ⟨c_c, f_c, n⟩ := x
    replace hI : n ≤ 5 ∧ ∃ (a1 s1 p q : Int), c_c = [.sl code.length (bytesP code), .int .i64 a1, .int .u64 s1] ∧ f_c = [.int .i64 p, .int .i64 q] ∧ a ≤ a1 ∧ a1 + 4 * max n 0 ≤ a + 22 ∧ (0 ≤ p ∧ p ≤ 127) ∧ (0 ≤ q ∧ q ≤ 127) := hI
    show codeT _ _ _ [(0, .box 2000 74 c_c), (2, .box 2 42 [.int .i64 0, .int .i64 0]), (3, .box 3 42 f_c), (4, .val (.int .i64 n))] _
    obtain ⟨i0, a1, s1, p, q, rfl, rfl, i1, i2, i3, i4⟩ := hI
    have hor := or7b i3 i4
    refine code_seq (fun K5 hK5 => ?_)
    refine code_seq (fun K6 hK6 => ?_)
    refine code_region ?_
    refine list_cons rfl (op_q (q_move rfl (by decide)) ?_)
    refine list_cons rfl (op_q (q_gt rfl rfl (by decide)) ?_)
    refine list_nil ?_
    refine hK6 _ ?_; clear hK6 K6
    refine code_cond_d rfl (fun h1 => ?_) (fun h1 => ?_)
    · skip
      (try simp only [Decidable.not_not] at h1)
      refine code_skip ?_
      refine hK5 _ ?_; clear hK5 K5
      refine code_seq (fun K7 hK7 => ?_)
      refine code_block ?_
      refine code_seq (fun K8 hK8 => ?_)
      refine code_region ?_
      refine list_cons rfl (op_q (q_move rfl (by decide)) ?_)
      refine list_cons rfl (op_callM (pick_c code ?_ _ _ ?_ ?_ _) (.tmp 14) 2000 [0, 14] [_] _ rfl rfl (by intro y hy; cases hy; exact ⟨rfl, (by intro t ht; simp only [List.mem_cons, List.not_mem_nil, or_false] at ht; rcases ht with rfl | rfl <;> rfl), (by intro s hs; simp only [List.mem_cons, List.not_mem_nil, or_false] at hs; subst hs; first | (simp [SV.labels]; done) | (simp [SV.labels, packS, SV.back]; done) | exact List.not_mem_nil)⟩) (by decide) (by decide) (by decide) rfl (fun _ => rfl) ?_)
      · first | assumption | omega | (simp; omega)
      · first | assumption | omega | (simp; omega)
      · first | assumption | omega | (simp; omega)
      rintro _ _ ⟨b, a2, s2, hb0, hb1, ha0, ha1, rfl, rfl⟩
      try have hp2 := p2_64 (k := b.toNat) (by omega)
      refine list_cons rfl (op_q (by first | exact q_shl1 rfl rfl (by decide) (by omega) (by omega) | exact q_shlI rfl rfl (by decide) (by omega) (by omega) (by omega) | exact q_shl rfl rfl (by omega) (by decide)) ?_)
      refine list_cons rfl (op_q (q_assign rfl (by decide)) ?_)
      refine list_nil ?_
      refine hK8 _ ?_; clear hK8 K8
      refine codeT.imp (σ' := [(0, _), (2, _), (3, _), (4, _), (5, _)]) ?_ (imp_covers ⟨rfl, rfl, rfl, rfl, rfl, trivial⟩)
      refine code_block ?_
      refine code_seq (fun K9 hK9 => ?_)
      refine code_region ?_
      refine list_cons rfl (op_q (q_fieldAddr fi_42_0 rfl rfl (by decide)) ?_)
      refine list_cons rfl (op_q (q_load one_3 3 rfl rfl rfl (by first | rfl | exact get_map1 _ 0 _ (by first | omega | (simp; omega))) (by decide)) ?_)
      refine list_cons rfl (op_q (q_fieldAddr fi_42_1 rfl rfl (by decide)) ?_)
      refine list_cons rfl (op_q (q_load one_3 3 rfl rfl rfl (by first | rfl | exact get_map1 _ 0 _ (by first | omega | (simp; omega))) (by decide)) ?_)
      refine list_cons rfl (op_q (by first | exact q_orI rfl rfl (by decide) (by omega) (by omega) (by omega) (by omega) | exact q_ib rfl rfl rfl (by decide)) ?_)
      refine list_cons rfl (op_q (q_move rfl (by decide)) ?_)
      refine list_cons rfl (op_q (by first | exact q_andI rfl rfl (by decide) (by omega) (by omega) (by omega) (by omega) | exact q_ib rfl rfl rfl (by decide)) ?_)
      refine list_cons rfl (op_q (q_ne rfl rfl (by decide)) ?_)
      refine list_cons rfl (op_q (q_assign rfl (by decide)) ?_)
      refine list_nil ?_
      refine hK9 _ ?_; clear hK9 K9
      refine codeT.imp (σ' := [(0, _), (2, _), (3, _), (4, _), (5, _), (22, _)]) ?_ (imp_covers ⟨rfl, rfl, rfl, rfl, rfl, rfl, trivial⟩)
      refine code_cond_d rfl (fun h2 => ?_) (fun h2 => ?_)
      · skip
        (try simp only [Decidable.not_not] at h2)
        refine code_skip ?_
        refine blk_n ?_
        refine blk_n ?_
        refine hK7 _ ?_; clear hK7 K7
        refine code_region ?_
        refine list_cons rfl (op_q (q_move rfl (by decide)) ?_)
        refine list_cons rfl (op_q (by first | exact q_subI rfl rfl (by decide) (by omega) (by omega) | exact q_ib rfl rfl rfl (by decide)) ?_)
        refine list_cons rfl (op_q (q_assign rfl (by decide)) ?_)
        refine list_nil ?_
        refine then_n ⟨(_, _, _), imp_covers ⟨rfl, rfl, rfl, rfl, trivial⟩, ?_, ?_⟩
        · (try dsimp only)
          exact ⟨by omega, _, _, p, q, rfl, rfl, by omega, by omega, i3, i4⟩
        · (try dsimp only); omega
      · skip
        (try simp only [Decidable.not_not] at h2)
        refine code_seq (fun K10 hK10 => ?_)
        refine code_region ?_
        refine list_cons rfl (op_q (q_move rfl (by decide)) ?_)
        refine list_cons rfl (op_callM (one_c code ?_ _ _ ?_ ?_ _) (.tmp 32) 2000 [0, 32] [_] _ rfl rfl (by intro y hy; cases hy; exact ⟨rfl, (by intro t ht; simp only [List.mem_cons, List.not_mem_nil, or_false] at ht; rcases ht with rfl | rfl <;> rfl), (by intro s hs; simp only [List.mem_cons, List.not_mem_nil, or_false] at hs; subst hs; first | (simp [SV.labels]; done) | (simp [SV.labels, packS, SV.back]; done) | exact List.not_mem_nil)⟩) (by decide) (by decide) (by decide) rfl (fun _ => rfl) ?_)
        · first | assumption | omega | (simp; omega)
        · first | assumption | omega | (simp; omega)
        · first | assumption | omega | (simp; omega)
        rintro _ _ ⟨o, a2, s2, ha0, ha1, rfl, rfl⟩
        refine list_cons rfl (op_q (q_assign rfl (by decide)) ?_)
        refine list_nil ?_
        refine hK10 _ ?_; clear hK10 K10
        refine codeT.imp (σ' := [(0, _), (2, _), (3, _), (4, _), (5, _), (31, _)]) ?_ (imp_covers ⟨rfl, rfl, rfl, rfl, rfl, rfl, trivial⟩)
        refine code_cond_d rfl (fun h3 => ?_) (fun h3 => ?_)
        · skip
          (try simp only [Decidable.not_not] at h3)
          refine code_region ?_
          refine list_cons rfl (op_q (q_fieldAddr fi_42_1 rfl rfl (by decide)) ?_)
          refine list_cons rfl (op_q (q_load one_3 3 rfl rfl rfl (by first | rfl | exact get_map1 _ 0 _ (by first | omega | (simp; omega))) (by decide)) ?_)
          refine list_cons rfl (op_q (q_move rfl (by decide)) ?_)
          refine list_cons rfl (op_q (by first | exact q_orI rfl rfl (by decide) (by omega) (by omega) (by omega) (by omega) | exact q_ib rfl rfl rfl (by decide)) ?_)
          refine list_cons rfl (op_q (q_fieldAddr fi_42_1 rfl rfl (by decide)) ?_)
          refine list_cons rfl (op_store (one_3).2 3 [3] (by intro t ht; simp only [List.mem_cons, List.not_mem_nil, or_false] at ht; subst ht; rfl) (.inl rfl) rfl rfl rfl rfl rfl rfl (by first | decide | omega | exact Nat.le_refl _ | (simp; done) | (simp; omega)) (by decide) rfl ?_)
          refine list_nil ?_
          refine blk_n ?_
          refine blk_n ?_
          refine hK7 _ ?_; clear hK7 K7
          refine codeT.imp (σ' := [(0, _), (2, _), (3, _), (4, _), (5, _)]) ?_ (imp_covers ⟨rfl, rfl, rfl, rfl, rfl, trivial⟩)
          refine code_region ?_
          refine list_cons rfl (op_q (q_move rfl (by decide)) ?_)
          refine list_cons rfl (op_q (by first | exact q_subI rfl rfl (by decide) (by omega) (by omega) | exact q_ib rfl rfl rfl (by decide)) ?_)
          refine list_cons rfl (op_q (q_assign rfl (by decide)) ?_)
          refine list_nil ?_
          refine then_n ⟨(_, _, _), imp_covers ⟨rfl, rfl, rfl, rfl, trivial⟩, ?_, ?_⟩
          · (try dsimp only)
            have hz := or7b i4 (show 0 ≤ ((p2 b.toNat : Nat) : Int) ∧ ((p2 b.toNat : Nat) : Int) ≤ 127 by omega)
            exact ⟨by omega, _, _, p, _, rfl, rfl, by omega, by omega, i3, hz⟩
          · (try dsimp only); omega
        · skip
          (try simp only [Decidable.not_not] at h3)
          refine code_region ?_
          refine list_cons rfl (op_q (q_fieldAddr fi_42_0 rfl rfl (by decide)) ?_)
          refine list_cons rfl (op_q (q_load one_3 3 rfl rfl rfl (by first | rfl | exact get_map1 _ 0 _ (by first | omega | (simp; omega))) (by decide)) ?_)
          refine list_cons rfl (op_q (q_move rfl (by decide)) ?_)
          refine list_cons rfl (op_q (by first | exact q_orI rfl rfl (by decide) (by omega) (by omega) (by omega) (by omega) | exact q_ib rfl rfl rfl (by decide)) ?_)
          refine list_cons rfl (op_q (q_fieldAddr fi_42_0 rfl rfl (by decide)) ?_)
          refine list_cons rfl (op_store (one_3).2 3 [3] (by intro t ht; simp only [List.mem_cons, List.not_mem_nil, or_false] at ht; subst ht; rfl) (.inl rfl) rfl rfl rfl rfl rfl rfl (by first | decide | omega | exact Nat.le_refl _ | (simp; done) | (simp; omega)) (by decide) rfl ?_)
          refine list_nil ?_
          refine blk_n ?_
          refine blk_n ?_
          refine hK7 _ ?_; clear hK7 K7
          refine codeT.imp (σ' := [(0, _), (2, _), (3, _), (4, _), (5, _)]) ?_ (imp_covers ⟨rfl, rfl, rfl, rfl, rfl, trivial⟩)
          refine code_region ?_
          refine list_cons rfl (op_q (q_move rfl (by decide)) ?_)
          refine list_cons rfl (op_q (by first | exact q_subI rfl rfl (by decide) (by omega) (by omega) | exact q_ib rfl rfl rfl (by decide)) ?_)
          refine list_cons rfl (op_q (q_assign rfl (by decide)) ?_)
          refine list_nil ?_
          refine then_n ⟨(_, _, _), imp_covers ⟨rfl, rfl, rfl, rfl, trivial⟩, ?_, ?_⟩
          · (try dsimp only)
            have hz := or7b i3 (show 0 ≤ ((p2 b.toNat : Nat) : Int) ∧ ((p2 b.toNat : Nat) : Int) ≤ 127 by omega)
            exact ⟨by omega, _, _, _, q, rfl, rfl, by omega, by omega, hz, i4⟩
          · (try dsimp only); omega
    · skip
      (try simp only [Decidable.not_not] at h1)
      refine code_exit ?_
      refine then_x ?_; clear hK5 K5
      refine then_x ?_
      refine blk_hit ?_
      refine hK3 _ ?_; clear hK3 K3
      refine code_seq (fun K11 hK11 => ?_)
      refine code_seq (fun K12 hK12 => ?_)
      refine code_region ?_
      refine list_cons rfl (op_q (q_move rfl (by decide)) ?_)
      refine list_cons rfl (op_callM (pick_c code ?_ _ _ ?_ ?_ _) (.tmp 39) 2000 [0, 39] [_] _ rfl rfl (by intro y hy; cases hy; exact ⟨rfl, (by intro t ht; simp only [List.mem_cons, List.not_mem_nil, or_false] at ht; rcases ht with rfl | rfl <;> rfl), (by intro s hs; simp only [List.mem_cons, List.not_mem_nil, or_false] at hs; subst hs; first | (simp [SV.labels]; done) | (simp [SV.labels, packS, SV.back]; done) | exact List.not_mem_nil)⟩) (by decide) (by decide) (by decide) rfl (fun _ => rfl) ?_)
      · first | assumption | omega | (simp; omega)
      · first | assumption | omega | (simp; omega)
      · first | assumption | omega | (simp; omega)
      rintro _ _ ⟨b, a2, s2, hb0, hb1, ha0, ha1, rfl, rfl⟩
      try have hp2 := p2_64 (k := b.toNat) (by omega)
      refine list_nil ?_
      refine hK12 _ ?_; clear hK12 K12
      refine codeT.imp (σ' := [(0, _), (2, _), (3, _), (4, _), (40, _)]) ?_ (imp_covers ⟨rfl, rfl, rfl, rfl, rfl, trivial⟩)
      refine code_block ?_
      refine code_seq (fun K13 hK13 => ?_)
      refine code_region ?_
      refine list_cons rfl (op_q (q_eq rfl rfl (by decide)) ?_)
      refine list_cons rfl (op_q (q_assign rfl (by decide)) ?_)
      refine list_nil ?_
      refine hK13 _ ?_; clear hK13 K13
      refine code_cond_d rfl (fun h4 => ?_) (fun h4 => ?_)
      · skip
        (try simp only [Decidable.not_not] at h4)
        refine code_region ?_
        refine list_cons rfl (op_q (q_move rfl (by decide)) ?_)
        refine list_cons rfl (op_buildSlice sl_24 (parts := [(0, _), (1, _), (2, _)]) rfl rfl rfl (by decide) (by decide) (by decide) rfl ?_)
        refine list_cons rfl (op_callM (among_c code ?_ _ _ ?_ ?_ ([-1, 128, 127]) (by decide) (by decide)) (.tmp 43) 2000 [0, 43] [.tmp 44] _ rfl rfl (by intro y hy; cases hy; exact ⟨rfl, (by intro t ht; simp only [List.mem_cons, List.not_mem_nil, or_false] at ht; rcases ht with rfl | rfl <;> rfl), (by intro s hs; simp only [List.mem_cons, List.not_mem_nil, or_false] at hs; subst hs; first | (simp [SV.labels]; done) | (simp [SV.labels, packS, SV.back]; done) | exact List.not_mem_nil)⟩) (by decide) (by decide) (by decide) rfl (fun _ => rfl) ?_)
        · first | assumption | omega | (simp; omega)
        · first | assumption | omega | (simp; omega)
        · first | assumption | omega | (simp; omega)
        rintro _ _ ⟨x, a2, s2, hx, ha0, ha1, rfl, rfl⟩
        simp only [List.mem_cons, List.not_mem_nil, or_false] at hx
        refine list_cons rfl (op_q (q_fieldAddr fi_42_0 rfl rfl (by decide)) ?_)
        refine list_cons rfl (op_store (one_3).2 3 [3] (by intro t ht; simp only [List.mem_cons, List.not_mem_nil, or_false] at ht; subst ht; rfl) (.inl rfl) rfl rfl rfl rfl rfl rfl (by first | decide | omega | exact Nat.le_refl _ | (simp; done) | (simp; omega)) (by decide) rfl ?_)
        refine list_nil ?_
        refine blk_n ?_
        refine hK11 _ ?_; clear hK11 K11
        refine codeT.imp (σ' := [(0, _), (2, _), (3, _), (4, _), (40, _)]) ?_ (imp_covers ⟨rfl, rfl, rfl, rfl, rfl, trivial⟩)
        refine code_seq (fun K14 hK14 => ?_)
        refine code_region ?_
        refine list_cons rfl (op_q (q_load_agg agg_42 3 (.inr ⟨rfl, _, rfl⟩) rfl rfl (by first | decide | omega | exact Nat.le_refl _ | (simp; done) | (simp; omega)) (by first | rfl | exact flat_part (flat_map _ (fun _ => rfl) _) _ _) (by decide)) ?_)
        refine list_cons rfl (op_store (agg_42).2 2 [2] (by intro t ht; simp only [List.mem_cons, List.not_mem_nil, or_false] at ht; subst ht; rfl) (.inr ⟨rfl, _, rfl⟩) rfl rfl rfl rfl (by first | rfl | exact flat_part (flat_map _ (fun _ => rfl) _) _ _ | exact flat_map _ (fun _ => rfl) _) (by first | rfl | (simp [PV.cells]; done)) (by first | decide | omega | exact Nat.le_refl _ | (simp; done) | (simp; omega)) (by decide) rfl ?_)
        refine list_nil ?_
        refine hK14 _ ?_; clear hK14 K14
        refine codeT.imp (σ' := [(0, _), (2, _), (3, _), (4, _), (40, _)]) ?_ (imp_covers ⟨rfl, rfl, rfl, rfl, rfl, trivial⟩)
        refine code_ret ?_
        refine ends_ret (cs := _) rfl rfl rfl rfl rfl ?_
        exact ⟨_, _, _, _, ⟨by omega, by omega⟩, ⟨by omega, by omega⟩, by omega, by omega, rfl, rfl⟩
      · skip
        (try simp only [Decidable.not_not] at h4)
        refine code_seq (fun K15 hK15 => ?_)
        refine code_region ?_
        refine list_cons rfl (op_q (q_eq rfl rfl (by decide)) ?_)
        refine list_cons rfl (op_q (q_assign rfl (by decide)) ?_)
        refine list_nil ?_
        refine hK15 _ ?_; clear hK15 K15
        refine code_cond_d rfl (fun h5 => ?_) (fun h5 => ?_)
        · skip
          (try simp only [Decidable.not_not] at h5)
          refine code_region ?_
          refine list_cons rfl (op_q (q_move rfl (by decide)) ?_)
          refine list_cons rfl (op_buildSlice sl_24 (parts := [(0, _), (1, _), (2, _)]) rfl rfl rfl (by decide) (by decide) (by decide) rfl ?_)
          refine list_cons rfl (op_callM (among_c code ?_ _ _ ?_ ?_ ([-1, 128, 127]) (by decide) (by decide)) (.tmp 49) 2000 [0, 49] [.tmp 50] _ rfl rfl (by intro y hy; cases hy; exact ⟨rfl, (by intro t ht; simp only [List.mem_cons, List.not_mem_nil, or_false] at ht; rcases ht with rfl | rfl <;> rfl), (by intro s hs; simp only [List.mem_cons, List.not_mem_nil, or_false] at hs; subst hs; first | (simp [SV.labels]; done) | (simp [SV.labels, packS, SV.back]; done) | exact List.not_mem_nil)⟩) (by decide) (by decide) (by decide) rfl (fun _ => rfl) ?_)
          · first | assumption | omega | (simp; omega)
          · first | assumption | omega | (simp; omega)
          · first | assumption | omega | (simp; omega)
          rintro _ _ ⟨x, a2, s2, hx, ha0, ha1, rfl, rfl⟩
          simp only [List.mem_cons, List.not_mem_nil, or_false] at hx
          refine list_cons rfl (op_q (q_fieldAddr fi_42_1 rfl rfl (by decide)) ?_)
          refine list_cons rfl (op_store (one_3).2 3 [3] (by intro t ht; simp only [List.mem_cons, List.not_mem_nil, or_false] at ht; subst ht; rfl) (.inl rfl) rfl rfl rfl rfl rfl rfl (by first | decide | omega | exact Nat.le_refl _ | (simp; done) | (simp; omega)) (by decide) rfl ?_)
          refine list_nil ?_
          refine blk_n ?_
          refine hK11 _ ?_; clear hK11 K11
          refine codeT.imp (σ' := [(0, _), (2, _), (3, _), (4, _), (40, _)]) ?_ (imp_covers ⟨rfl, rfl, rfl, rfl, rfl, trivial⟩)
          refine code_seq (fun K16 hK16 => ?_)
          refine code_region ?_
          refine list_cons rfl (op_q (q_load_agg agg_42 3 (.inr ⟨rfl, _, rfl⟩) rfl rfl (by first | decide | omega | exact Nat.le_refl _ | (simp; done) | (simp; omega)) (by first | rfl | exact flat_part (flat_map _ (fun _ => rfl) _) _ _) (by decide)) ?_)
          refine list_cons rfl (op_store (agg_42).2 2 [2] (by intro t ht; simp only [List.mem_cons, List.not_mem_nil, or_false] at ht; subst ht; rfl) (.inr ⟨rfl, _, rfl⟩) rfl rfl rfl rfl (by first | rfl | exact flat_part (flat_map _ (fun _ => rfl) _) _ _ | exact flat_map _ (fun _ => rfl) _) (by first | rfl | (simp [PV.cells]; done)) (by first | decide | omega | exact Nat.le_refl _ | (simp; done) | (simp; omega)) (by decide) rfl ?_)
          refine list_nil ?_
          refine hK16 _ ?_; clear hK16 K16
          refine codeT.imp (σ' := [(0, _), (2, _), (3, _), (4, _), (40, _)]) ?_ (imp_covers ⟨rfl, rfl, rfl, rfl, rfl, trivial⟩)
          refine code_ret ?_
          refine ends_ret (cs := _) rfl rfl rfl rfl rfl ?_
          exact ⟨_, _, _, _, ⟨by omega, by omega⟩, ⟨by omega, by omega⟩, by omega, by omega, rfl, rfl⟩
        · skip
          (try simp only [Decidable.not_not] at h5)
          refine code_skip ?_
          refine blk_n ?_
          refine hK11 _ ?_; clear hK11 K11
          refine code_seq (fun K17 hK17 => ?_)
          refine code_region ?_
          refine list_cons rfl (op_q (q_load_agg agg_42 3 (.inr ⟨rfl, _, rfl⟩) rfl rfl (by first | decide | omega | exact Nat.le_refl _ | (simp; done) | (simp; omega)) (by first | rfl | exact flat_part (flat_map _ (fun _ => rfl) _) _ _) (by decide)) ?_)
          refine list_cons rfl (op_store (agg_42).2 2 [2] (by intro t ht; simp only [List.mem_cons, List.not_mem_nil, or_false] at ht; subst ht; rfl) (.inr ⟨rfl, _, rfl⟩) rfl rfl rfl rfl (by first | rfl | exact flat_part (flat_map _ (fun _ => rfl) _) _ _ | exact flat_map _ (fun _ => rfl) _) (by first | rfl | (simp [PV.cells]; done)) (by first | decide | omega | exact Nat.le_refl _ | (simp; done) | (simp; omega)) (by decide) rfl ?_)
          refine list_nil ?_
          refine hK17 _ ?_; clear hK17 K17
          refine codeT.imp (σ' := [(0, _), (2, _), (3, _), (4, _), (40, _)]) ?_ (imp_covers ⟨rfl, rfl, rfl, rfl, rfl, trivial⟩)
          refine code_ret ?_
          refine ends_ret (cs := _) rfl rfl rfl rfl rfl ?_
          exact ⟨_, _, _, _, ⟨by omega, by omega⟩, ⟨by omega, by omega⟩, by omega, by omega, rfl, rfl⟩

set_option maxRecDepth 4000 in
set_option maxHeartbeats 4000000 in
theorem panel3_c (code : List UInt8) (hcode : code.length ≤ 9223372036854775807) (a s : Int) (ha : 0 ≤ a) (ha2 : a ≤ 4611686018426000000) (l : List Int) (hl : l.length ≤ 7) : MCalls Tryd.prog 78 false (some (.box 74 [.sl code.length (bytesP code), .int .i64 a, .int .u64 s])) [.sl l.length (l.map (.int .i64))] fun rs cs => ∃ (fs : List (Int × Int)) (a2 s2 : Int), (fs.length ≤ 7 ∧ ∀ f ∈ fs, (-1 ≤ f.1 ∧ f.1 ≤ 128) ∧ (-1 ≤ f.2 ∧ f.2 ≤ 128)) ∧ a ≤ a2 ∧ a2 ≤ a + 600 ∧ rs = [.frz 0 (.sl fs.length (fl fs))] ∧ cs = [.sl code.length (bytesP code), .int .i64 a2, .int .u64 s2] := by
  refine mcalls_of_code (n := 34) az Tryd.func78 (by kernel_rfl) rfl rfl (Nat.le_of_ble_eq_true rfl) (by intro t u h; simp [Tryd.f78] at h) ?_
  refine code_seq (fun K1 hK1 => ?_)
  refine code_region ?_
  refine list_cons rfl (op_q (q_assign rfl (by decide)) ?_)
  refine list_nil ?_
  refine hK1 _ ?_; clear hK1 K1
  refine code_seq (fun K2 hK2 => ?_)
  refine code_region ?_
  refine list_cons rfl (op_buildSlice sl_27 (parts := []) rfl rfl rfl (by decide) (by decide) (by decide) rfl ?_)
  refine list_cons rfl (op_q (q_assign rfl (by decide)) ?_)
  refine list_nil ?_
  refine hK2 _ ?_; clear hK2 K2
  refine code_seq (fun K3 hK3 => ?_)
  refine code_seq (fun K4 hK4 => ?_)
  refine code_region ?_
  refine list_cons rfl (op_q (q_assign rfl (by decide)) ?_)
  refine list_nil ?_
  refine hK4 _ ?_; clear hK4 K4
  refine code_block ?_
  refine code_loop (X := List PV × PV × Nat × List PV × Int) (fun x => [(0, .box 2000 74 x.1), (1, .par 1 (.sl l.length (l.map (.int .i64)))), (4, .val x.2.1), (5, .own 8 42 2 x.2.2.1 x.2.2.2.1), (6, .val (.int .i64 x.2.2.2.2))]) (fun x => 0 ≤ x.2.2.2.2 ∧ x.2.2.2.2 ≤ l.length ∧ ∃ (a1 s1 : Int) (fs : List (Int × Int)), x.1 = [.sl code.length (bytesP code), .int .i64 a1, .int .u64 s1] ∧ x.2.2.1 = fs.length ∧ x.2.2.2.1 = fl fs ∧ (fs.length : Int) = x.2.2.2.2 ∧ a ≤ a1 ∧ a1 ≤ a + 62 * x.2.2.2.2 ∧ ∀ f ∈ fs, (-1 ≤ f.1 ∧ f.1 ≤ 128) ∧ (-1 ≤ f.2 ∧ f.2 ≤ 128)) (fun x => l.length - x.2.2.2.2.toNat) (_, _, _, _, _) (imp_covers ⟨rfl, rfl, rfl, rfl, rfl, trivial⟩) ?_ ?_
  · (try dsimp only)
    exact ⟨by omega, by omega, _, _, [], rfl, rfl, rfl, rfl, by omega, by omega, fun _ h => by simp at h⟩
  · intro x hI
    obtain ⟨c_c, t4_p, out_n, out_c, i⟩ := x
    replace hI : 0 ≤ i ∧ i ≤ l.length ∧ ∃ (a1 s1 : Int) (fs : List (Int × Int)), c_c = [.sl code.length (bytesP code), .int .i64 a1, .int .u64 s1] ∧ out_n = fs.length ∧ out_c = fl fs ∧ (fs.length : Int) = i ∧ a ≤ a1 ∧ a1 ≤ a + 62 * i ∧ ∀ f ∈ fs, (-1 ≤ f.1 ∧ f.1 ≤ 128) ∧ (-1 ≤ f.2 ∧ f.2 ≤ 128) := hI
    show codeT _ _ _ [(0, .box 2000 74 c_c), (1, .par 1 (.sl l.length (l.map (.int .i64)))), (4, .val t4_p), (5, .own 8 42 2 out_n out_c), (6, .val (.int .i64 i))] _
    obtain ⟨i1, i2, a1, s1, fs, rfl, rfl, rfl, i3, i4, i5, i6⟩ := hI
    have hfl := fl_len fs
    refine code_seq (fun K5 hK5 => ?_)
    refine code_seq (fun K6 hK6 => ?_)
    refine code_region ?_
    refine list_cons rfl (op_q (q_move rfl (by decide)) ?_)
    refine list_cons rfl (op_q (q_move rfl (by decide)) ?_)
    refine list_cons rfl (op_q (q_len_sl Tryd.underlying24 rfl rfl (by decide)) ?_)
    refine list_cons rfl (op_q (q_lt rfl rfl (by decide)) ?_)
    refine list_nil ?_
    refine hK6 _ ?_; clear hK6 K6
    refine code_cond_d rfl (fun h1 => ?_) (fun h1 => ?_)
    · skip
      (try simp only [Decidable.not_not] at h1)
      refine code_skip ?_
      refine hK5 _ ?_; clear hK5 K5
      refine code_seq (fun K7 hK7 => ?_)
      refine code_block ?_
      refine code_seq (fun K8 hK8 => ?_)
      refine code_region ?_
      refine list_cons rfl (op_q (q_build bt_42 (parts := []) rfl rfl (by decide)) ?_)
      refine list_cons rfl (op_alloc zt_42 (by decide) (by decide) rfl ?_)
      refine list_cons rfl (op_store (agg_42).2 7 [7] (by intro t ht; simp only [List.mem_cons, List.not_mem_nil, or_false] at ht; subst ht; rfl) (.inr ⟨rfl, _, rfl⟩) rfl rfl rfl rfl (by first | rfl | exact flat_part (flat_map _ (fun _ => rfl) _) _ _ | exact flat_map _ (fun _ => rfl) _) (by first | rfl | (simp [PV.cells]; done)) (by first | decide | omega | exact Nat.le_refl _ | (simp; done) | (simp; omega)) (by decide) rfl ?_)
      refine list_nil ?_
      refine hK8 _ ?_; clear hK8 K8
      refine codeT.imp (σ' := [(0, _), (1, _), (4, _), (5, _), (6, _), (7, _)]) ?_ (imp_covers ⟨rfl, rfl, rfl, rfl, rfl, rfl, trivial⟩)
      refine code_seq (fun K9 hK9 => ?_)
      refine code_seq (fun K10 hK10 => ?_)
      refine code_region ?_
      refine list_cons rfl (op_q (q_move rfl (by decide)) ?_)
      refine list_cons rfl (op_callM (one_c code ?_ _ _ ?_ ?_ _) (.tmp 16) 2000 [0, 16] [_] _ rfl rfl (by intro y hy; cases hy; exact ⟨rfl, (by intro t ht; simp only [List.mem_cons, List.not_mem_nil, or_false] at ht; rcases ht with rfl | rfl <;> rfl), (by intro s hs; simp only [List.mem_cons, List.not_mem_nil, or_false] at hs; subst hs; first | (simp [SV.labels]; done) | (simp [SV.labels, packS, SV.back]; done) | exact List.not_mem_nil)⟩) (by decide) (by decide) (by decide) rfl (fun _ => rfl) ?_)
      · first | assumption | omega | (simp; omega)
      · first | assumption | omega | (simp; omega)
      · first | assumption | omega | (simp; omega)
      rintro _ _ ⟨o, a2, s2, ha0, ha1, rfl, rfl⟩
      refine list_nil ?_
      refine hK10 _ ?_; clear hK10 K10
      refine codeT.imp (σ' := [(0, _), (1, _), (4, _), (5, _), (6, _), (7, _), (17, _)]) ?_ (imp_covers ⟨rfl, rfl, rfl, rfl, rfl, rfl, rfl, trivial⟩)
      refine code_cond_d rfl (fun h2 => ?_) (fun h2 => ?_)
      · skip
        (try simp only [Decidable.not_not] at h2)
        refine code_region ?_
        refine list_cons rfl (op_q (q_move rfl (by decide)) ?_)
        refine list_cons rfl (op_callM (fault3_c code ?_ _ _ ?_ ?_) (.tmp 18) 2000 [0, 18] [] _ rfl rfl (by intro y hy; cases hy; exact ⟨rfl, (by intro t ht; simp only [List.mem_cons, List.not_mem_nil, or_false] at ht; rcases ht with rfl | rfl <;> rfl), (by intro s hs; simp only [List.mem_cons, List.not_mem_nil, or_false] at hs; (try cases hs))⟩) (by decide) (by decide) (by decide) rfl (fun _ => rfl) ?_)
        · first | assumption | omega | (simp; omega)
        · first | assumption | omega | (simp; omega)
        · first | assumption | omega | (simp; omega)
        rintro _ _ ⟨x, y, a2, s2, ⟨hx0, hx1⟩, ⟨hy0, hy1⟩, ha0, ha1, rfl, rfl⟩
        refine list_cons rfl (op_store (agg_42).2 7 [7] (by intro t ht; simp only [List.mem_cons, List.not_mem_nil, or_false] at ht; subst ht; rfl) (.inr ⟨rfl, _, rfl⟩) rfl rfl rfl rfl (by first | rfl | exact flat_part (flat_map _ (fun _ => rfl) _) _ _ | exact flat_map _ (fun _ => rfl) _) (by first | rfl | (simp [PV.cells]; done)) (by first | decide | omega | exact Nat.le_refl _ | (simp; done) | (simp; omega)) (by decide) rfl ?_)
        refine list_nil ?_
        refine hK9 _ ?_; clear hK9 K9
        refine codeT.imp (σ' := [(0, _), (1, _), (4, _), (5, _), (6, _), (7, _)]) ?_ (imp_covers ⟨rfl, rfl, rfl, rfl, rfl, rfl, trivial⟩)
        refine code_region ?_
        refine list_cons rfl (op_q (q_move rfl (by decide)) ?_)
        refine list_cons rfl (op_q (q_load_agg agg_42 7 (.inr ⟨rfl, _, rfl⟩) rfl rfl (by first | decide | omega | exact Nat.le_refl _ | (simp; done) | (simp; omega)) (by first | rfl | exact flat_part (flat_map _ (fun _ => rfl) _) _ _) (by decide)) ?_)
        refine list_cons rfl (op_buildSlice sl_27 (parts := [(0, .tmp 21)]) rfl rfl rfl (by decide) (by decide) (by decide) rfl ?_)
        refine list_cons rfl (op_append_gen sl_27 (l := 8) (.inl rfl) rfl rfl (l2 := none) (.inl ⟨rfl, (by first | rfl | exact flat_map _ (fun _ => rfl) _)⟩) (by first | rfl | simp | omega) (by omega) (by decide) (by decide) (by decide) ?_)
        refine list_cons rfl (op_q (q_assign rfl (by decide)) ?_)
        refine list_nil ?_
        refine blk_n ?_
        refine hK7 _ ?_; clear hK7 K7
        refine codeT.imp (σ' := [(0, _), (1, _), (4, _), (5, _), (6, _), (7, _)]) ?_ (imp_covers ⟨rfl, rfl, rfl, rfl, rfl, rfl, trivial⟩)
        refine code_region ?_
        refine list_cons rfl (op_q (q_move rfl (by decide)) ?_)
        refine list_cons rfl (op_q (by first | exact q_addI rfl rfl (by decide) (by omega) (by omega) | exact q_ib rfl rfl rfl (by decide)) ?_)
        refine list_cons rfl (op_q (q_assign rfl (by decide)) ?_)
        refine list_nil ?_
        refine then_n ⟨(_, _, _, _, _), imp_covers ⟨rfl, rfl, rfl, rfl, rfl, trivial⟩, ?_, ?_⟩
        · (try dsimp only)
          refine ⟨by omega, by omega, _, _, fs ++ [(x, y)], rfl, by simp, (fl_snocD fs x y).symm, by simp; omega, by omega, by omega, fun f hf => ?_⟩
          rcases List.mem_append.1 hf with hf | hf
          · exact i6 f hf
          · simp only [List.mem_singleton] at hf; subst hf; exact ⟨⟨hx0, hx1⟩, ⟨hy0, hy1⟩⟩
        · (try dsimp only); omega
      · skip
        (try simp only [Decidable.not_not] at h2)
        refine code_skip ?_
        refine hK9 _ ?_; clear hK9 K9
        refine code_region ?_
        refine list_cons rfl (op_q (q_move rfl (by decide)) ?_)
        refine list_cons rfl (op_q (q_load_agg agg_42 7 (.inr ⟨rfl, _, rfl⟩) rfl rfl (by first | decide | omega | exact Nat.le_refl _ | (simp; done) | (simp; omega)) (by first | rfl | exact flat_part (flat_map _ (fun _ => rfl) _) _ _) (by decide)) ?_)
        refine list_cons rfl (op_buildSlice sl_27 (parts := [(0, .tmp 21)]) rfl rfl rfl (by decide) (by decide) (by decide) rfl ?_)
        refine list_cons rfl (op_append_gen sl_27 (l := 8) (.inl rfl) rfl rfl (l2 := none) (.inl ⟨rfl, (by first | rfl | exact flat_map _ (fun _ => rfl) _)⟩) (by first | rfl | simp | omega) (by omega) (by decide) (by decide) (by decide) ?_)
        refine list_cons rfl (op_q (q_assign rfl (by decide)) ?_)
        refine list_nil ?_
        refine blk_n ?_
        refine hK7 _ ?_; clear hK7 K7
        refine codeT.imp (σ' := [(0, _), (1, _), (4, _), (5, _), (6, _), (7, _)]) ?_ (imp_covers ⟨rfl, rfl, rfl, rfl, rfl, rfl, trivial⟩)
        refine code_region ?_
        refine list_cons rfl (op_q (q_move rfl (by decide)) ?_)
        refine list_cons rfl (op_q (by first | exact q_addI rfl rfl (by decide) (by omega) (by omega) | exact q_ib rfl rfl rfl (by decide)) ?_)
        refine list_cons rfl (op_q (q_assign rfl (by decide)) ?_)
        refine list_nil ?_
        refine then_n ⟨(_, _, _, _, _), imp_covers ⟨rfl, rfl, rfl, rfl, rfl, trivial⟩, ?_, ?_⟩
        · (try dsimp only)
          refine ⟨by omega, by omega, _, _, fs ++ [(0, 0)], rfl, by simp, (fl_snocD fs 0 0).symm, by simp; omega, by omega, by omega, fun f hf => ?_⟩
          rcases List.mem_append.1 hf with hf | hf
          · exact i6 f hf
          · simp only [List.mem_singleton] at hf; subst hf; exact ⟨⟨by decide, by decide⟩, ⟨by decide, by decide⟩⟩
        · (try dsimp only); omega
    · skip
      (try simp only [Decidable.not_not] at h1)
      refine code_exit ?_
      refine then_x ?_; clear hK5 K5
      refine then_x ?_
      refine blk_hit ?_
      refine hK3 _ ?_; clear hK3 K3
      refine code_seq (fun K11 hK11 => ?_)
      refine code_seq (fun K12 hK12 => ?_)
      refine code_region ?_
      refine list_cons rfl (op_q (q_move rfl (by decide)) ?_)
      refine list_cons rfl (op_q (q_len_sl Tryd.underlying27 rfl rfl (by decide)) ?_)
      refine list_cons rfl (op_q (q_gt rfl rfl (by decide)) ?_)
      refine list_cons rfl (op_q (q_move rfl (by decide)) ?_)
      refine list_guard_d rfl rfl rfl rfl (by decide) rfl (by decide) (fun h3 => ?_) (fun h3 => ?_)
      · simp only [Bool.false_eq_true, if_true, if_false, Decidable.not_not] at h3
        refine id (op_q (q_move rfl (by decide)) ?_)
        refine list_guard_y rfl rfl rfl rfl (by decide) rfl ?_
        refine id (op_callM (one_c code ?_ _ _ ?_ ?_ _) (.tmp 28) 2000 [0, 28] [_] _ rfl rfl (by intro y hy; cases hy; exact ⟨rfl, (by intro t ht; simp only [List.mem_cons, List.not_mem_nil, or_false] at ht; rcases ht with rfl | rfl <;> rfl), (by intro s hs; simp only [List.mem_cons, List.not_mem_nil, or_false] at hs; subst hs; first | (simp [SV.labels]; done) | (simp [SV.labels, packS, SV.back]; done) | exact List.not_mem_nil)⟩) (by decide) (by decide) (by decide) rfl (fun _ => rfl) ?_)
        · first | assumption | omega | (simp; omega)
        · first | assumption | omega | (simp; omega)
        · first | assumption | omega | (simp; omega)
        rintro _ _ ⟨o, a2, s2, ha0, ha1, rfl, rfl⟩
        refine list_cons rfl (op_q (q_pick rfl rfl (by decide)) ?_)
        refine list_nil ?_
        refine hK12 _ ?_; clear hK12 K12
        refine codeT.imp (σ' := [(0, _), (1, _), (4, _), (5, _), (6, _), (30, _)]) ?_ (imp_covers ⟨rfl, rfl, rfl, rfl, rfl, rfl, trivial⟩)
        refine code_cond_d rfl (fun h4 => ?_) (fun h4 => ?_)
        · skip
          (try simp only [Decidable.not_not] at h4)
          refine code_seq (fun K13 hK13 => ?_)
          refine code_region ?_
          refine list_cons rfl (op_q (q_move rfl (by decide)) ?_)
          refine listT.imp ?_ (imp_frz (x := 31) rfl)
          refine list_cons rfl (op_q (q_slice_sl sl_27 rfl rfl ⟨_, rfl⟩ rfl (by omega) (by omega) (by omega) rfl (by decide)) ?_)
          refine list_cons rfl (op_q (q_assign rfl (by decide)) ?_)
          refine list_nil ?_
          refine hK13 _ ?_; clear hK13 K13
          refine code_ret ?_
          refine then_r ?_; clear hK11 K11
          refine ends_ret (cs := _) rfl rfl rfl rfl rfl ?_
          exact ⟨fs.drop 1, _, _, ⟨by rw [List.length_drop]; omega, fun f hf => i6 f (List.mem_of_mem_drop hf)⟩, by omega, by omega, by rw [show ((fs.length : Nat) : Int).toNat - Int.toNat 1 = (fs.drop 1).length by rw [List.length_drop]; omega, fl_tail fs], rfl⟩
        · skip
          (try simp only [Decidable.not_not] at h4)
          refine code_skip ?_
          refine hK11 _ ?_; clear hK11 K11
          refine code_seq (fun K14 hK14 => ?_)
          refine code_region ?_
          refine list_cons rfl (op_q (q_move rfl (by decide)) ?_)
          refine list_cons rfl (op_q (q_assign rfl (by decide)) ?_)
          refine list_nil ?_
          refine hK14 _ ?_; clear hK14 K14
          refine codeT.imp ?_ (imp_frz (x := 4) rfl)
          refine code_ret ?_
          refine ends_ret (cs := _) rfl rfl rfl rfl rfl ?_
          exact ⟨fs, _, _, ⟨by omega, i6⟩, by omega, by omega, rfl, rfl⟩
      · simp only [Bool.false_eq_true, if_true, if_false, Decidable.not_not] at h3
        refine list_guard_n rfl rfl rfl rfl (by decide) rfl ?_
        refine list_cons rfl (op_q (q_pick rfl rfl (by decide)) ?_)
        refine list_nil ?_
        refine hK12 _ ?_; clear hK12 K12
        refine codeT.imp (σ' := [(0, _), (1, _), (4, _), (5, _), (6, _), (30, _)]) ?_ (imp_covers ⟨rfl, rfl, rfl, rfl, rfl, rfl, trivial⟩)
        refine code_cond_f rfl ?_
        refine code_skip ?_
        refine hK11 _ ?_; clear hK11 K11
        refine code_seq (fun K15 hK15 => ?_)
        refine code_region ?_
        refine list_cons rfl (op_q (q_move rfl (by decide)) ?_)
        refine list_cons rfl (op_q (q_assign rfl (by decide)) ?_)
        refine list_nil ?_
        refine hK15 _ ?_; clear hK15 K15
        refine codeT.imp ?_ (imp_frz (x := 4) rfl)
        refine code_ret ?_
        refine ends_ret (cs := _) rfl rfl rfl rfl rfl ?_
        exact ⟨fs, _, _, ⟨by omega, i6⟩, by omega, by omega, rfl, rfl⟩

end Go.Proofs.YtjbbijlbenkgcaaDoor
namespace Go.Proofs.YtjbbijlbenkgcaaDoor.Dr3bTy
open Go.RowKit

def az (u : TypeId) : Nat := match u with | 42 => 2 | _ => 0

theorem fi_42_0 : FiTy Tryd.prog 42 0 0 := fiTy_of (k := 1) Tryd.underlying42 rfl rfl (by kernel_rfl) (by decide)
theorem one_3 : OneTy Tryd.prog 3 := oneTy_of Tryd.underlying3 rfl (by kernel_rfl)
theorem fi_42_1 : FiTy Tryd.prog 42 1 1 := fiTy_of (k := 1) Tryd.underlying42 rfl rfl (by kernel_rfl) (by decide)
theorem bt_74 : BuildTy Tryd.prog 74 (fun i => match i with | 0 => some (0, 1) | 1 => some (1, 1) | 2 => some (2, 1) | _ => none) [.sl 0 [], .int .i64 0, .int .u64 0] := ⟨.agg #[.slice none 0 0, .int .i64 0, .int .u64 0], rfl, fun parts => by
  have h : Tryd.prog.built 74 parts = Instr.fill (#[(0, 1), (1, 1), (2, 1)][·]?) ((.agg #[.slice none 0 0, .int .i64 0, .int .u64 0] : Value)).cells parts := by kernel_rfl
  have hp : (fun i => (#[(0, 1), (1, 1), (2, 1)] : Array (Nat × Nat))[i]?) = (fun i => match i with | 0 => some (0, 1) | 1 => some (1, 1) | 2 => some (2, 1) | _ => none) := by
    funext i
    rcases i with _ | _ | _ | _ <;> rfl
  rw [h, hp]⟩
theorem sl_24 : SlTy Tryd.prog 24 3 1 8 [.int .i64 0] := slTy_of Tryd.underlying24 (z := .int .i64 0) (by kernel_rfl) rfl (by decide) (by decide) rfl
theorem zt_42 : ZeroTy Tryd.prog 42 [.int .i64 0, .int .i64 0] := zeroTy_of (z := .agg #[.int .i64 0, .int .i64 0]) (by kernel_rfl) rfl
theorem agg_42 : AggTy Tryd.prog 42 2 := aggTy_of Tryd.underlying42 rfl (by kernel_rfl)

end Go.Proofs.YtjbbijlbenkgcaaDoor.Dr3bTy
namespace Go.Proofs.YtjbbijlbenkgcaaDoor
open Go.RowKit Dr3bTy
set_option linter.unusedVariables false
set_option linter.unusedSimpArgs false

def shW (fx fy c : Int) : Int := ior .i64 (c - iand .i64 c fx) fy
theorem iand64_le (c x : Int) (h : 0 ≤ c ∧ c ≤ 127) : 0 ≤ iand .i64 c x ∧ iand .i64 c x ≤ 127 := by
  have e : (BitVec.ofInt IntKind.i64.bits c).toNat = c.toNat := by
    rw [BitVec.toNat_ofInt]
    show (c % ((2 ^ 64 : Nat) : Int)).toNat = c.toNat
    rw [Int.emod_eq_of_lt (by omega) (by omega)]
  have h2 : (BitVec.ofInt IntKind.i64.bits c &&& BitVec.ofInt IntKind.i64.bits x).toNat ≤ c.toNat := by
    rw [BitVec.toNat_and, e]; exact Nat.and_le_left
  unfold iand
  rw [wrap_in (by omega) (by omega)]; omega
theorem mem_takeB3 {l : List Int} {k : Nat} {a b x : Int} (h : l.all (fun y => decide (a ≤ y ∧ y ≤ b)) = true) (hx : x ∈ l.take k) : a ≤ x ∧ x ≤ b := of_decide_eq_true (List.all_eq_true.1 h x (List.mem_of_mem_take hx))
theorem memb_snoc {l : List Int} {y : Int} (h : ∀ x ∈ l, -1 ≤ x ∧ x ≤ 4611686018427387904) (hy : -1 ≤ y ∧ y ≤ 4611686018427387904) : ∀ x ∈ l ++ [y], -1 ≤ x ∧ x ≤ 4611686018427387904 := fun x hx => by
  rcases List.mem_append.1 hx with hx | hx
  · exact h x hx
  · simp only [List.mem_singleton] at hx; subst hx; exact hy
theorem ints_snoc (l : List Int) (y : Int) : l.map (PV.int .i64) ++ [PV.int .i64 y] = (l ++ [y]).map (PV.int .i64) := by simp

theorem amongT_c (code : List UInt8) (hcode : code.length ≤ 9223372036854775807) (a s : Int) (ha : 0 ≤ a) (ha2 : a ≤ 4611686018427387900) (l : List Int) (k : Nat) (hk : 0 < k) (hk2 : k ≤ l.length) (hl2 : l.length ≤ 4611686018427387904) : MCalls Tryd.prog 66 false (some (.box 74 [.sl code.length (bytesP code), .int .i64 a, .int .u64 s])) [.sl (k - Int.toNat 0) (List.take ((k - Int.toNat 0) * 1) (List.drop (Int.toNat 0 * 1) (l.map (.int .i64))))] fun rs cs => ∃ (x : Int) (a2 s2 : Int), x ∈ l.take k ∧ a ≤ a2 ∧ a2 ≤ a + 2 ∧ rs = [.val (.int .i64 x)] ∧ cs = [.sl code.length (bytesP code), .int .i64 a2, .int .u64 s2] := by
  have h := among_c code hcode a s ha ha2 (l.take k) (by simp; omega) (by simp; omega)
  have e : (l.take k).length = k := by simp; omega
  rw [e, List.map_take] at h
  rw [show k - Int.toNat 0 = k from rfl, show Int.toNat 0 * 1 = 0 from rfl, List.drop_zero, Nat.mul_one]
  exact h

set_option maxRecDepth 4000 in
theorem l3ShownW_c (fx fy c : Int) (hc : 0 ≤ c ∧ c ≤ 127) : PCalls Tryd.prog 68 [.agg [.int .i64 fx, .int .i64 fy], .int .i64 c] (· = [.val (.int .i64 (shW fx fy c))]) := by
  refine pcalls_of_code (n := 14) az Tryd.func68 (by kernel_rfl) rfl rfl (Nat.le_of_ble_eq_true rfl) (by intro t u h; simp [Tryd.f68] at h) ?_
  have ha := iand64_le c fx hc
  refine code_seq (fun K1 hK1 => ?_)
  refine code_region ?_
  refine list_cons rfl (op_box rfl (.inl ⟨rfl, rfl⟩) (by decide) (by decide) rfl ?_)
  refine list_cons rfl (op_q (q_assign rfl (by decide)) ?_)
  refine list_nil ?_
  refine hK1 _ ?_; clear hK1 K1
  refine code_seq (fun K2 hK2 => ?_)
  refine code_region ?_
  refine list_cons rfl (op_q (q_move rfl (by decide)) ?_)
  refine list_cons rfl (op_q (q_move rfl (by decide)) ?_)
  refine list_cons rfl (op_q (q_fieldAddr fi_42_0 rfl rfl (by decide)) ?_)
  refine list_cons rfl (op_q (q_load one_3 2 rfl rfl rfl (by first | rfl | exact get_map1 _ 0 _ (by first | omega | (simp; omega))) (by decide)) ?_)
  refine list_cons rfl (op_q (by first | exact q_andI rfl rfl (by decide) (by omega) (by omega) (by omega) (by omega) | exact q_ib rfl rfl rfl (by decide)) ?_)
  refine list_cons rfl (op_q (by first | exact q_subI rfl rfl (by decide) (by omega) (by omega) | exact q_ib rfl rfl rfl (by decide)) ?_)
  refine list_cons rfl (op_q (q_fieldAddr fi_42_1 rfl rfl (by decide)) ?_)
  refine list_cons rfl (op_q (q_load one_3 2 rfl rfl rfl (by first | rfl | exact get_map1 _ 0 _ (by first | omega | (simp; omega))) (by decide)) ?_)
  refine list_cons rfl (op_q (by first | exact q_orI rfl rfl (by decide) (by omega) (by omega) (by omega) (by omega) | exact q_ib rfl rfl rfl (by decide)) ?_)
  refine list_cons rfl (op_q (q_assign rfl (by decide)) ?_)
  refine list_nil ?_
  refine hK2 _ ?_; clear hK2 K2
  refine codeT.imp (σ' := [(0, _), (1, _), (2, _), (4, _)]) ?_ (imp_covers ⟨rfl, rfl, rfl, rfl, trivial⟩)
  refine code_ret ?_
  refine ends_ret (cs := []) rfl rfl rfl rfl trivial ?_
  rfl

set_option maxRecDepth 4000 in
set_option maxHeartbeats 8000000 in
theorem DrawFaultsOf_c (code : List UInt8) (hcode : code.length ≤ 9223372036854775807) : MCalls Tryd.prog 7 true none [.sl code.length (bytesP code)] fun rs _ => ∃ (l m : List Int), l.length ≤ 12 ∧ m.length ≤ 12 ∧ rs = [.own 0 3 1 l.length (l.map (.int .i64)), .own 1 3 1 m.length (m.map (.int .i64))] := by
  refine mcalls_of_code (n := 65) az Tryd.func7 (by kernel_rfl) rfl rfl (Nat.le_of_ble_eq_true rfl) (by intro t u h; simp [Tryd.f7] at h) ?_
  refine code_seq (fun K1 hK1 => ?_)
  refine code_region ?_
  refine list_cons rfl (op_q (q_assign rfl (by decide)) ?_)
  refine list_cons rfl (op_q (q_assign rfl (by decide)) ?_)
  refine list_nil ?_
  refine hK1 _ ?_; clear hK1 K1
  refine code_seq (fun K2 hK2 => ?_)
  refine code_region ?_
  refine list_cons rfl (op_q (q_move rfl (by decide)) ?_)
  refine list_cons rfl (op_q (q_build_ext bt_74 (parts := [(0, .tmp 10)]) rfl rfl (by decide)) ?_)
  refine list_cons rfl (op_box rfl (.inr rfl) (by decide) (by decide) rfl ?_)
  refine list_cons rfl (op_q (q_assign rfl (by decide)) ?_)
  refine list_nil ?_
  refine hK2 _ ?_; clear hK2 K2
  refine code_seq (fun K3 hK3 => ?_)
  refine code_region ?_
  refine list_cons rfl (op_q (q_move rfl (by decide)) ?_)
  refine list_cons rfl (op_callM (fault3_c code ?_ _ _ ?_ ?_) (.tmp 13) 12 [12, 4, 13] [] _ rfl rfl (by intro y hy; cases hy; exact ⟨rfl, (by intro t ht; simp only [List.mem_cons, List.not_mem_nil, or_false] at ht; rcases ht with rfl | rfl | rfl <;> rfl), (by intro s hs; simp only [List.mem_cons, List.not_mem_nil, or_false] at hs; (try cases hs))⟩) (by decide) (by decide) (by decide) rfl (fun _ => rfl) ?_)
  · first | assumption | omega | (simp; omega)
  · first | assumption | omega | (simp; omega)
  · first | assumption | omega | (simp; omega)
  rintro _ _ ⟨fx, fy, a2, s2, -, -, ha0, ha1, rfl, rfl⟩
  refine list_cons rfl (op_buildSlice sl_24 (parts := []) rfl rfl rfl (by decide) (by decide) (by decide) rfl ?_)
  refine list_cons rfl (op_buildSlice sl_24 (parts := []) rfl rfl rfl (by decide) (by decide) (by decide) rfl ?_)
  refine list_cons rfl (op_alloc zt_42 (by decide) (by decide) rfl ?_)
  refine list_cons rfl (op_store (agg_42).2 5 [5] (by intro t ht; simp only [List.mem_cons, List.not_mem_nil, or_false] at ht; subst ht; rfl) (.inr ⟨rfl, _, rfl⟩) rfl rfl rfl rfl (by first | rfl | exact flat_part (flat_map _ (fun _ => rfl) _) _ _ | exact flat_map _ (fun _ => rfl) _) (by first | rfl | (simp [PV.cells]; done)) (by first | decide | omega | exact Nat.le_refl _ | (simp; done) | (simp; omega)) (by decide) rfl ?_)
  refine list_cons rfl (op_q (q_assign rfl (by decide)) ?_)
  refine list_cons rfl (op_q (q_assign rfl (by decide)) ?_)
  refine list_nil ?_
  refine hK3 _ ?_; clear hK3 K3
  refine codeT.imp (σ' := [(0, _), (2, _), (3, _), (4, _), (5, _), (6, _), (7, _)]) ?_ (imp_covers ⟨rfl, rfl, rfl, rfl, rfl, rfl, rfl, trivial⟩)
  refine code_seq (fun K4 hK4 => ?_)
  refine code_seq (fun K5 hK5 => ?_)
  refine code_region ?_
  refine list_cons rfl (op_q (q_move rfl (by decide)) ?_)
  refine list_cons rfl (op_buildSlice sl_24 (parts := [(0, _), (1, _), (2, _), (3, _), (4, _), (5, _), (6, _), (7, _)]) rfl rfl rfl (by decide) (by decide) (by decide) rfl ?_)
  refine list_cons rfl (op_q (q_move rfl (by decide)) ?_)
  refine list_cons rfl (op_callM (pick_c code ?_ _ _ ?_ ?_ _) (.tmp 19) 12 [4, 17, 19] [_] _ rfl rfl (by intro y hy; cases hy; exact ⟨rfl, (by intro t ht; simp only [List.mem_cons, List.not_mem_nil, or_false] at ht; rcases ht with rfl | rfl | rfl <;> rfl), (by intro s hs; simp only [List.mem_cons, List.not_mem_nil, or_false] at hs; subst hs; first | (simp [SV.labels]; done) | (simp [SV.labels, packS, SV.back]; done) | exact List.not_mem_nil)⟩) (by decide) (by decide) (by decide) rfl (fun _ => rfl) ?_)
  · first | assumption | omega | (simp; omega)
  · first | assumption | omega | (simp; omega)
  · first | assumption | omega | (simp; omega)
  rintro _ _ ⟨b, a2, s2, hb0, hb1, ha0, ha1, rfl, rfl⟩
  try have hp2 := p2_64 (k := b.toNat) (by omega)
  refine list_cons rfl (op_q (by first | exact q_quoI rfl rfl (by decide) (by omega) (by omega) (by omega) | exact q_quoT rfl rfl (by omega) (by decide) (by omega) (by omega) | exact q_quo rfl rfl (by omega) (by decide)) ?_)
  refine list_cons rfl (op_q (by first | exact q_addI rfl rfl (by decide) (by omega) (by omega) | exact q_ib rfl rfl rfl (by decide)) ?_)
  refine list_cons rfl (op_q (q_slice_sl sl_24 rfl rfl rfl ⟨_, rfl⟩ (by omega) (by omega) (by omega) rfl (by decide)) ?_)
  refine list_cons rfl (op_callM (amongT_c code ?_ _ _ ?_ ?_ [2, 3, 1, 4, 6, 0, 10, 11] (6 + b / 11).toNat (by omega) (by show _ ≤ 8; omega) (by decide)) (.tmp 17) 12 [4, 17, 19] [.tmp 23] _ rfl rfl (by intro y hy; cases hy; exact ⟨rfl, (by intro t ht; simp only [List.mem_cons, List.not_mem_nil, or_false] at ht; rcases ht with rfl | rfl | rfl <;> rfl), (by intro s hs; simp only [List.mem_cons, List.not_mem_nil, or_false] at hs; subst hs; first | (simp [SV.labels]; done) | (simp [SV.labels, packS, SV.back]; done) | exact List.not_mem_nil)⟩) (by decide) (by decide) (by decide) rfl (fun _ => rfl) ?_)
  · first | assumption | omega | (simp; omega)
  · first | assumption | omega | (simp; omega)
  · first | assumption | omega | (simp; omega)
  rintro _ _ ⟨n0, a2, s2, hx, ha0, ha1, rfl, rfl⟩
  have hxb := mem_takeB3 (a := 0) (b := 11) (by decide) hx
  refine list_cons rfl (op_q (q_assign rfl (by decide)) ?_)
  refine list_nil ?_
  refine hK5 _ ?_; clear hK5 K5
  refine codeT.imp (σ' := [(0, _), (2, _), (3, _), (4, _), (5, _), (6, _), (7, _), (8, _)]) ?_ (imp_covers ⟨rfl, rfl, rfl, rfl, rfl, rfl, rfl, rfl, trivial⟩)
  refine code_block ?_
  refine code_loop (X := PV × PV × List PV × Nat × List PV × Nat × List PV × Int) (fun x => [(0, .ext (.sl code.length (bytesP code))), (2, .val x.1), (3, .val x.2.1), (4, .box 12 74 x.2.2.1), (5, .box 5 42 [.int .i64 fx, .int .i64 fy]), (6, .own 15 3 1 x.2.2.2.1 x.2.2.2.2.1), (7, .own 16 3 1 x.2.2.2.2.2.1 x.2.2.2.2.2.2.1), (8, .val (.int .i64 x.2.2.2.2.2.2.2))]) (fun x => x.2.2.2.2.2.2.2 ≤ 11 ∧ ∃ (a1 s1 : Int) (l m : List Int), x.2.2.1 = [.sl code.length (bytesP code), .int .i64 a1, .int .u64 s1] ∧ x.2.2.2.1 = l.length ∧ x.2.2.2.2.1 = l.map (.int .i64) ∧ x.2.2.2.2.2.1 = m.length ∧ x.2.2.2.2.2.2.1 = m.map (.int .i64) ∧ 0 ≤ a1 ∧ a1 + 4 * max x.2.2.2.2.2.2.2 0 ≤ 200 ∧ (l.length : Int) + max x.2.2.2.2.2.2.2 0 ≤ 11 ∧ l.length = m.length) (fun x => x.2.2.2.2.2.2.2.toNat) (_, _, _, _, _, _, _, _) (imp_covers ⟨rfl, rfl, rfl, rfl, rfl, rfl, rfl, rfl, trivial⟩) ?_ ?_
  · (try dsimp only)
    exact ⟨by omega, _, _, [], [], rfl, rfl, rfl, rfl, rfl, by omega, by omega, by simp only [List.length_nil]; omega, rfl⟩
  · intro x hI
    obtain ⟨t2_p, t3_p, c_c, digits_n, digits_c, cells_n, cells_c, n⟩ := x
    replace hI : n ≤ 11 ∧ ∃ (a1 s1 : Int) (l m : List Int), c_c = [.sl code.length (bytesP code), .int .i64 a1, .int .u64 s1] ∧ digits_n = l.length ∧ digits_c = l.map (.int .i64) ∧ cells_n = m.length ∧ cells_c = m.map (.int .i64) ∧ 0 ≤ a1 ∧ a1 + 4 * max n 0 ≤ 200 ∧ (l.length : Int) + max n 0 ≤ 11 ∧ l.length = m.length := hI
    show codeT _ _ _ [(0, .ext (.sl code.length (bytesP code))), (2, .val t2_p), (3, .val t3_p), (4, .box 12 74 c_c), (5, .box 5 42 [.int .i64 fx, .int .i64 fy]), (6, .own 15 3 1 digits_n digits_c), (7, .own 16 3 1 cells_n cells_c), (8, .val (.int .i64 n))] _
    obtain ⟨i0, a1, s1, l, m, rfl, rfl, rfl, rfl, rfl, i1, i2, i3, i4⟩ := hI
    refine code_seq (fun K6 hK6 => ?_)
    refine code_seq (fun K7 hK7 => ?_)
    refine code_region ?_
    refine list_cons rfl (op_q (q_move rfl (by decide)) ?_)
    refine list_cons rfl (op_q (q_gt rfl rfl (by decide)) ?_)
    refine list_nil ?_
    refine hK7 _ ?_; clear hK7 K7
    refine code_cond_d rfl (fun h1 => ?_) (fun h1 => ?_)
    · skip
      (try simp only [Decidable.not_not] at h1)
      refine code_skip ?_
      refine hK6 _ ?_; clear hK6 K6
      refine code_seq (fun K8 hK8 => ?_)
      refine code_block ?_
      refine code_seq (fun K9 hK9 => ?_)
      refine code_region ?_
      refine list_cons rfl (op_q (q_move rfl (by decide)) ?_)
      refine list_cons rfl (op_callM (pick_c code ?_ _ _ ?_ ?_ _) (.tmp 29) 12 [4, 29] [_] _ rfl rfl (by intro y hy; cases hy; exact ⟨rfl, (by intro t ht; simp only [List.mem_cons, List.not_mem_nil, or_false] at ht; rcases ht with rfl | rfl <;> rfl), (by intro s hs; simp only [List.mem_cons, List.not_mem_nil, or_false] at hs; subst hs; first | (simp [SV.labels]; done) | (simp [SV.labels, packS, SV.back]; done) | exact List.not_mem_nil)⟩) (by decide) (by decide) (by decide) rfl (fun _ => rfl) ?_)
      · first | assumption | omega | (simp; omega)
      · first | assumption | omega | (simp; omega)
      · first | assumption | omega | (simp; omega)
      rintro _ _ ⟨b, a2, s2, hb0, hb1, ha0, ha1, rfl, rfl⟩
      try have hp2 := p2_64 (k := b.toNat) (by omega)
      refine list_cons rfl (op_q (q_assign rfl (by decide)) ?_)
      refine list_nil ?_
      refine hK9 _ ?_; clear hK9 K9
      refine codeT.imp (σ' := [(0, _), (2, _), (3, _), (4, _), (5, _), (6, _), (7, _), (8, _), (9, _)]) ?_ (imp_covers ⟨rfl, rfl, rfl, rfl, rfl, rfl, rfl, rfl, rfl, trivial⟩)
      refine code_seq (fun K10 hK10 => ?_)
      refine code_region ?_
      refine list_cons rfl (op_q (q_move rfl (by decide)) ?_)
      refine list_cons rfl (op_q (q_move rfl (by decide)) ?_)
      refine list_cons rfl (op_buildSlice sl_24 (parts := [(0, .tmp 32)]) rfl rfl rfl (by decide) (by decide) (by decide) rfl ?_)
      refine list_cons rfl (op_append_gen sl_24 (l := 15) (.inl rfl) rfl rfl (l2 := none) (.inl ⟨rfl, (by first | rfl | exact flat_map _ (fun _ => rfl) _)⟩) (by first | rfl | simp | omega) (by omega) (by decide) (by decide) (by decide) ?_)
      refine list_cons rfl (op_q (q_assign rfl (by decide)) ?_)
      refine list_nil ?_
      refine hK10 _ ?_; clear hK10 K10
      refine codeT.imp (σ' := [(0, _), (2, _), (3, _), (4, _), (5, _), (6, _), (7, _), (8, _), (9, _)]) ?_ (imp_covers ⟨rfl, rfl, rfl, rfl, rfl, rfl, rfl, rfl, rfl, trivial⟩)
      refine any_start fun ob1_0 => ?_
      refine any_op (rd := [7]) ob1_0 rfl rfl rfl (anyT_quiet [(7, _)] ⟨rfl, trivial⟩ rfl (q_move rfl (by decide))) (fun ob1_1 => ?_)
      refine any_op (rd := [5]) ob1_1 rfl rfl rfl (anyT_quiet [(5, _)] ⟨rfl, trivial⟩ rfl (q_load_agg agg_42 5 (.inr ⟨rfl, _, rfl⟩) rfl rfl (by first | decide | omega | exact Nat.le_refl _ | (simp; done) | (simp; omega)) (by first | rfl | exact flat_part (flat_map _ (fun _ => rfl) _) _ _) (by decide))) (fun ob1_2 => ?_)
      refine any_op (rd := [9]) ob1_2 rfl rfl rfl (anyT_quiet [(9, _)] ⟨rfl, trivial⟩ rfl (q_move rfl (by decide))) (fun ob1_3 => ?_)
      refine any_op (rd := [37]) ob1_3 rfl rfl rfl (fun σ hag hfr => by have e37 : σ.at 37 = some _ := (hag 37 (by decide)).trans rfl; exact op_call _ (spec_l2Digit _ (by omega) (by omega)) (evs_cons e37 evs_nil) rfl (by decide) (by decide) (by decide) hfr (fun rs hR => by subst hR; rfl)) (fun ob1_4 => ?_)
      refine any_op (rd := [36, 38]) ob1_4 rfl rfl rfl (fun σ hag hfr => by have e36 : σ.at 36 = some _ := (hag 36 (by decide)).trans rfl; have e38 : σ.at 38 = some _ := (hag 38 (by decide)).trans rfl; exact op_call _ (l3ShownW_c _ _ _ (digT_cell b.toNat)) (evs_cons e36 (evs_cons e38 evs_nil)) rfl (by decide) (by decide) (by decide) hfr (fun rs hR => by subst hR; rfl)) (fun ob1_5 => ?_)
      refine any_op (rd := [39]) ob1_5 rfl rfl rfl (fun σ hag hfr => by have e39 : σ.at 39 = some _ := (hag 39 (by decide)).trans rfl; exact op_buildSlice sl_24 (parts := [(0, .tmp 39)]) (evp_cons (by first | rfl | assumption) rfl rfl evp_nil) rfl rfl (by decide) (by decide) (by decide) (fr1000 hfr (by decide)) rfl) (fun ob1_6 => ?_)
      refine any_end [[], [], [], [2], [1, 2, 3], [1, 2, 3, 4], [0, 1, 2, 3, 4, 5], [0, 1, 2, 3, 4, 5, 6]] ob1_6 (by kernel_rfl) (Nat.le_of_ble_eq_true rfl) (by decide) (by decide) (by kernel_rfl) (by kernel_rfl) (by kernel_rfl) (by kernel_rfl) (by kernel_rfl) ?_
      clear ob1_0 ob1_1 ob1_2 ob1_3 ob1_4 ob1_5 ob1_6
      refine listT.imp (σ' := [(0, _), (2, _), (3, _), (4, _), (5, _), (6, _), (7, _), (8, _), (9, _), (35, _), (36, _), (37, _), (38, _), (39, _), (40, _)]) ?_ (imp_covers ⟨rfl, rfl, rfl, rfl, rfl, rfl, rfl, rfl, rfl, rfl, rfl, rfl, rfl, rfl, rfl, trivial⟩)
      refine list_cons rfl (op_append_gen sl_24 (l := 16) (.inl rfl) rfl rfl (l2 := none) (.inl ⟨rfl, (by first | rfl | exact flat_map _ (fun _ => rfl) _)⟩) (by first | rfl | simp | omega) (by omega) (by decide) (by decide) (by decide) ?_)
      refine list_cons rfl (op_q (q_assign rfl (by decide)) ?_)
      refine list_nil ?_
      refine blk_n ?_
      refine hK8 _ ?_; clear hK8 K8
      refine codeT.imp (σ' := [(0, _), (2, _), (3, _), (4, _), (5, _), (6, _), (7, _), (8, _), (9, _)]) ?_ (imp_covers ⟨rfl, rfl, rfl, rfl, rfl, rfl, rfl, rfl, rfl, trivial⟩)
      refine code_region ?_
      refine list_cons rfl (op_q (q_move rfl (by decide)) ?_)
      refine list_cons rfl (op_q (by first | exact q_subI rfl rfl (by decide) (by omega) (by omega) | exact q_ib rfl rfl rfl (by decide)) ?_)
      refine list_cons rfl (op_q (q_assign rfl (by decide)) ?_)
      refine list_nil ?_
      refine then_n ⟨(_, _, _, _, _, _, _, _), imp_covers ⟨rfl, rfl, rfl, rfl, rfl, rfl, rfl, rfl, trivial⟩, ?_, ?_⟩
      · (try dsimp only)
        exact ⟨by omega, _, _, l ++ [b], m ++ [shW fx fy (digT.getD b.toNat 0)], rfl, by simp, ints_snoc l b, by simp, ints_snoc m _, by omega, by omega, by simp only [List.length_append, List.length_cons, List.length_nil]; omega, by simp; omega⟩
      · (try dsimp only); omega
    · skip
      (try simp only [Decidable.not_not] at h1)
      refine code_exit ?_
      refine then_x ?_; clear hK6 K6
      refine then_x ?_
      refine blk_hit ?_
      refine hK4 _ ?_; clear hK4 K4
      refine code_seq (fun K11 hK11 => ?_)
      refine code_seq (fun K12 hK12 => ?_)
      refine code_region ?_
      refine list_cons rfl (op_q (q_move rfl (by decide)) ?_)
      refine list_cons rfl (op_callM (pick_c code ?_ _ _ ?_ ?_ _) (.tmp 42) 12 [4, 42] [_] _ rfl rfl (by intro y hy; cases hy; exact ⟨rfl, (by intro t ht; simp only [List.mem_cons, List.not_mem_nil, or_false] at ht; rcases ht with rfl | rfl <;> rfl), (by intro s hs; simp only [List.mem_cons, List.not_mem_nil, or_false] at hs; subst hs; first | (simp [SV.labels]; done) | (simp [SV.labels, packS, SV.back]; done) | exact List.not_mem_nil)⟩) (by decide) (by decide) (by decide) rfl (fun _ => rfl) ?_)
      · first | assumption | omega | (simp; omega)
      · first | assumption | omega | (simp; omega)
      · first | assumption | omega | (simp; omega)
      rintro _ _ ⟨b, a2, s2, hb0, hb1, ha0, ha1, rfl, rfl⟩
      try have hp2 := p2_64 (k := b.toNat) (by omega)
      refine list_nil ?_
      refine hK12 _ ?_; clear hK12 K12
      refine codeT.imp (σ' := [(0, _), (2, _), (3, _), (4, _), (5, _), (6, _), (7, _), (8, _), (43, _)]) ?_ (imp_covers ⟨rfl, rfl, rfl, rfl, rfl, rfl, rfl, rfl, rfl, trivial⟩)
      refine code_block ?_
      refine code_seq (fun K13 hK13 => ?_)
      refine code_region ?_
      refine list_cons rfl (op_q (q_eq rfl rfl (by decide)) ?_)
      refine list_cons rfl (op_q (q_assign rfl (by decide)) ?_)
      refine list_nil ?_
      refine hK13 _ ?_; clear hK13 K13
      refine code_cond_d rfl (fun h2 => ?_) (fun h2 => ?_)
      · skip
        (try simp only [Decidable.not_not] at h2)
        refine code_seq (fun K14 hK14 => ?_)
        refine code_region ?_
        refine list_cons rfl (op_q (q_move rfl (by decide)) ?_)
        refine list_cons rfl (op_q (q_move rfl (by decide)) ?_)
        refine list_cons rfl (op_buildSlice sl_24 (parts := [(0, _)]) rfl rfl rfl (by decide) (by decide) (by decide) rfl ?_)
        refine list_cons rfl (op_append_gen sl_24 (l := 16) (.inl rfl) rfl rfl (l2 := none) (.inl ⟨rfl, (by first | rfl | exact flat_map _ (fun _ => rfl) _)⟩) (by first | rfl | simp | omega) (by omega) (by decide) (by decide) (by decide) ?_)
        refine list_cons rfl (op_q (q_assign rfl (by decide)) ?_)
        refine list_cons rfl (op_q (q_assign rfl (by decide)) ?_)
        refine list_nil ?_
        refine hK14 _ ?_; clear hK14 K14
        refine codeT.imp (σ' := [(0, _), (2, _), (3, _), (4, _), (5, _), (6, _), (7, _), (8, _), (43, _)]) ?_ (imp_covers ⟨rfl, rfl, rfl, rfl, rfl, rfl, rfl, rfl, rfl, trivial⟩)
        refine code_ret ?_
        refine blk_r ?_
        refine then_r ?_; clear hK11 K11
        refine ends_ret (cs := []) rfl rfl rfl rfl trivial ?_
        first
          | exact ⟨l, m, by omega, by omega, rfl⟩
          | (refine ⟨l, m ++ [0], by omega, by simp; omega, ?_⟩
             rw [← ints_snoc]; simp; rfl)
          | (refine ⟨l ++ [w], m ++ [v], by simp; omega, by simp; omega, ?_⟩
             simp only [List.length_append, List.length_cons, List.length_nil, List.map_append, List.map_cons, List.map_nil]; rfl)
      · skip
        (try simp only [Decidable.not_not] at h2)
        refine code_seq (fun K15 hK15 => ?_)
        refine code_region ?_
        refine list_cons rfl (op_q (q_eq rfl rfl (by decide)) ?_)
        refine list_cons rfl (op_q (q_assign rfl (by decide)) ?_)
        refine list_nil ?_
        refine hK15 _ ?_; clear hK15 K15
        refine code_cond_d rfl (fun h3 => ?_) (fun h3 => ?_)
        · skip
          (try simp only [Decidable.not_not] at h3)
          refine code_seq (fun K16 hK16 => ?_)
          refine code_region ?_
          refine list_cons rfl (op_q (q_move rfl (by decide)) ?_)
          refine list_cons rfl (op_q (q_move rfl (by decide)) ?_)
          refine list_cons rfl (op_buildSlice sl_24 (parts := [(0, _), (1, _), (2, _)]) rfl rfl rfl (by decide) (by decide) (by decide) rfl ?_)
          refine list_cons rfl (op_callM (among_c code ?_ _ _ ?_ ?_ [10, -1, 3] (by decide) (by decide)) (.tmp 53) 12 [4, 53] [.tmp 54] _ rfl rfl (by intro y hy; cases hy; exact ⟨rfl, (by intro t ht; simp only [List.mem_cons, List.not_mem_nil, or_false] at ht; rcases ht with rfl | rfl <;> rfl), (by intro s hs; simp only [List.mem_cons, List.not_mem_nil, or_false] at hs; subst hs; first | (simp [SV.labels]; done) | (simp [SV.labels, packS, SV.back]; done) | exact List.not_mem_nil)⟩) (by decide) (by decide) (by decide) rfl (fun _ => rfl) ?_)
          · first | assumption | omega | (simp; omega)
          · first | assumption | omega | (simp; omega)
          · first | assumption | omega | (simp; omega)
          rintro _ _ ⟨w, a2, s2, -, ha0, ha1, rfl, rfl⟩
          refine list_cons rfl (op_buildSlice sl_24 (parts := [(0, .tmp 55)]) rfl rfl rfl (by decide) (by decide) (by decide) rfl ?_)
          refine list_cons rfl (op_append_gen sl_24 (l := 15) (.inl rfl) rfl rfl (l2 := none) (.inl ⟨rfl, (by first | rfl | exact flat_map _ (fun _ => rfl) _)⟩) (by first | rfl | simp | omega) (by omega) (by decide) (by decide) (by decide) ?_)
          refine list_cons rfl (op_q (q_move rfl (by decide)) ?_)
          refine list_cons rfl (op_q (q_move rfl (by decide)) ?_)
          refine list_cons rfl (op_callM (cell_c code ?_ _ _ ?_ ?_) (.tmp 59) 12 [4, 53, 59] [] _ rfl rfl (by intro y hy; cases hy; exact ⟨rfl, (by intro t ht; simp only [List.mem_cons, List.not_mem_nil, or_false] at ht; rcases ht with rfl | rfl | rfl <;> rfl), (by intro s hs; simp only [List.mem_cons, List.not_mem_nil, or_false] at hs; (try cases hs))⟩) (by decide) (by decide) (by decide) rfl (fun _ => rfl) ?_)
          · first | assumption | omega | (simp; omega)
          · first | assumption | omega | (simp; omega)
          · first | assumption | omega | (simp; omega)
          rintro _ _ ⟨v, a2, s2, -, ha0, ha1, rfl, rfl⟩
          refine list_cons rfl (op_buildSlice sl_24 (parts := [(0, .tmp 60)]) rfl rfl rfl (by decide) (by decide) (by decide) rfl ?_)
          refine list_cons rfl (op_append_gen sl_24 (l := 16) (.inl rfl) rfl rfl (l2 := none) (.inl ⟨rfl, (by first | rfl | exact flat_map _ (fun _ => rfl) _)⟩) (by first | rfl | simp | omega) (by omega) (by decide) (by decide) (by decide) ?_)
          refine list_cons rfl (op_q (q_assign rfl (by decide)) ?_)
          refine list_cons rfl (op_q (q_assign rfl (by decide)) ?_)
          refine list_nil ?_
          refine hK16 _ ?_; clear hK16 K16
          refine codeT.imp (σ' := [(0, _), (2, _), (3, _), (4, _), (5, _), (6, _), (7, _), (8, _), (43, _)]) ?_ (imp_covers ⟨rfl, rfl, rfl, rfl, rfl, rfl, rfl, rfl, rfl, trivial⟩)
          refine code_ret ?_
          refine blk_r ?_
          refine then_r ?_; clear hK11 K11
          refine ends_ret (cs := []) rfl rfl rfl rfl trivial ?_
          first
            | exact ⟨l, m, by omega, by omega, rfl⟩
            | (refine ⟨l, m ++ [0], by omega, by simp; omega, ?_⟩
               rw [← ints_snoc]; simp; rfl)
            | (refine ⟨l ++ [w], m ++ [v], by simp; omega, by simp; omega, ?_⟩
               simp only [List.length_append, List.length_cons, List.length_nil, List.map_append, List.map_cons, List.map_nil]; rfl)
        · skip
          (try simp only [Decidable.not_not] at h3)
          refine code_skip ?_
          refine blk_n ?_
          refine hK11 _ ?_; clear hK11 K11
          refine code_seq (fun K17 hK17 => ?_)
          refine code_region ?_
          refine list_cons rfl (op_q (q_move rfl (by decide)) ?_)
          refine list_cons rfl (op_q (q_move rfl (by decide)) ?_)
          refine list_cons rfl (op_q (q_assign rfl (by decide)) ?_)
          refine list_cons rfl (op_q (q_assign rfl (by decide)) ?_)
          refine list_nil ?_
          refine hK17 _ ?_; clear hK17 K17
          refine code_ret ?_
          refine ends_ret (cs := []) rfl rfl rfl rfl trivial ?_
          first
            | exact ⟨l, m, by omega, by omega, rfl⟩
            | (refine ⟨l, m ++ [0], by omega, by simp; omega, ?_⟩
               rw [← ints_snoc]; simp; rfl)
            | (refine ⟨l ++ [w], m ++ [v], by simp; omega, by simp; omega, ?_⟩
               simp only [List.length_append, List.length_cons, List.length_nil, List.map_append, List.map_cons, List.map_nil]; rfl)

set_option maxRecDepth 4000 in
set_option maxHeartbeats 8000000 in
theorem DrawCountNumbers_c (code : List UInt8) (hcode : code.length ≤ 9223372036854775807) : MCalls Tryd.prog 10 true none [.sl code.length (bytesP code)] fun rs _ => ∃ (fs : List (Int × Int)) (l : List Int), (fs.length ≤ 7 ∧ ∀ f ∈ fs, (-1 ≤ f.1 ∧ f.1 ≤ 128) ∧ (-1 ≤ f.2 ∧ f.2 ≤ 128)) ∧ l.length ≤ 7 ∧ rs = [.frz 0 (.sl fs.length (fl fs)), .own 1 3 1 l.length (l.map (.int .i64))] := by
  refine mcalls_of_code (n := 33) az Tryd.func10 (by kernel_rfl) rfl rfl (Nat.le_of_ble_eq_true rfl) (by intro t u h; simp [Tryd.f10] at h) ?_
  refine code_seq (fun K1 hK1 => ?_)
  refine code_region ?_
  refine list_cons rfl (op_q (q_assign rfl (by decide)) ?_)
  refine list_cons rfl (op_q (q_assign rfl (by decide)) ?_)
  refine list_nil ?_
  refine hK1 _ ?_; clear hK1 K1
  refine code_seq (fun K2 hK2 => ?_)
  refine code_region ?_
  refine list_cons rfl (op_q (q_move rfl (by decide)) ?_)
  refine list_cons rfl (op_q (q_build_ext bt_74 (parts := [(0, .tmp 9)]) rfl rfl (by decide)) ?_)
  refine list_cons rfl (op_box rfl (.inr rfl) (by decide) (by decide) rfl ?_)
  refine list_cons rfl (op_q (q_assign rfl (by decide)) ?_)
  refine list_nil ?_
  refine hK2 _ ?_; clear hK2 K2
  refine code_seq (fun K3 hK3 => ?_)
  refine code_region ?_
  refine list_cons rfl (op_q (q_move rfl (by decide)) ?_)
  refine list_cons rfl (op_callM (digits_c code ?_ _ _ ?_ ?_) (.tmp 12) 11 [11, 4, 12] [] _ rfl rfl (by intro y hy; cases hy; exact ⟨rfl, (by intro t ht; simp only [List.mem_cons, List.not_mem_nil, or_false] at ht; rcases ht with rfl | rfl | rfl <;> rfl), (by intro s hs; simp only [List.mem_cons, List.not_mem_nil, or_false] at hs; (try cases hs))⟩) (by decide) (by decide) (by decide) rfl (fun _ => rfl) ?_)
  · first | assumption | omega | (simp; omega)
  · first | assumption | omega | (simp; omega)
  · first | assumption | omega | (simp; omega)
  rintro _ _ ⟨l, a2, s2, ⟨hl1, hl2⟩, ha0, ha1, rfl, rfl⟩
  refine list_cons rfl (op_q (q_assign rfl (by decide)) ?_)
  refine list_nil ?_
  refine hK3 _ ?_; clear hK3 K3
  refine codeT.imp (σ' := [(0, _), (2, _), (3, _), (4, _), (5, _)]) ?_ (imp_covers ⟨rfl, rfl, rfl, rfl, rfl, trivial⟩)
  refine code_seq (fun K4 hK4 => ?_)
  refine code_region ?_
  refine list_cons rfl (op_q (q_move rfl (by decide)) ?_)
  refine list_cons rfl (op_q (q_move rfl (by decide)) ?_)
  refine list_cons rfl (op_callM (panel3_c code ?_ _ _ ?_ ?_ _ ?_) (.tmp 14) 11 [4, 14] [.tmp 15] _ rfl rfl (by intro y hy; cases hy; exact ⟨rfl, (by intro t ht; simp only [List.mem_cons, List.not_mem_nil, or_false] at ht; rcases ht with rfl | rfl <;> rfl), (by intro s hs; simp only [List.mem_cons, List.not_mem_nil, or_false] at hs; subst hs; first | (simp [SV.labels]; done) | (simp [SV.labels, packS, SV.back]; done) | exact List.not_mem_nil)⟩) (by decide) (by decide) (by decide) rfl (fun _ => rfl) ?_)
  · first | assumption | omega | (simp; omega)
  · first | assumption | omega | (simp; omega)
  · first | assumption | omega | (simp; omega)
  · first | assumption | omega | (simp; omega)
  rintro _ _ ⟨fs, a2, s2, ⟨hf1, hf2⟩, ha0, ha1, rfl, rfl⟩
  refine list_cons rfl (op_q (q_assign rfl (by decide)) ?_)
  refine list_nil ?_
  refine hK4 _ ?_; clear hK4 K4
  refine codeT.imp (σ' := [(0, _), (2, _), (3, _), (4, _), (5, _), (6, _)]) ?_ (imp_covers ⟨rfl, rfl, rfl, rfl, rfl, rfl, trivial⟩)
  refine code_seq (fun K5 hK5 => ?_)
  refine code_seq (fun K6 hK6 => ?_)
  refine code_region ?_
  refine list_cons rfl (op_q (q_move rfl (by decide)) ?_)
  refine list_cons rfl (op_q (q_move rfl (by decide)) ?_)
  refine list_cons rfl (op_call _ (spec_ShownRow _ _ (by omega) (by omega)) rfl rfl (by decide) (by decide) (by decide) rfl ?_)
  rintro _ rfl
  refine list_cons rfl (op_q (q_move rfl (by decide)) ?_)
  refine list_cons rfl (op_q (q_extract rfl rfl (by decide)) ?_)
  refine list_cons rfl (op_q (q_extract rfl rfl (by decide)) ?_)
  refine list_cons rfl (op_q (q_assign rfl (by decide)) ?_)
  refine list_cons rfl (op_q (q_assign rfl (by decide)) ?_)
  refine list_nil ?_
  refine hK6 _ ?_; clear hK6 K6
  refine codeT.imp (σ' := [(0, _), (2, _), (3, _), (4, _), (5, _), (6, _), (7, _), (8, _)]) ?_ (imp_covers ⟨rfl, rfl, rfl, rfl, rfl, rfl, rfl, rfl, trivial⟩)
  refine code_seq (fun K7 hK7 => ?_)
  refine code_region ?_
  refine list_cons rfl (op_q (q_move rfl (by decide)) ?_)
  refine list_cons rfl (op_q (q_move rfl (by decide)) ?_)
  refine list_guard_d rfl rfl rfl rfl (by decide) rfl (by decide) (fun h1 => ?_) (fun h1 => ?_)
  · simp only [Bool.false_eq_true, if_true, if_false, Decidable.not_not] at h1
    refine id (op_q (q_move rfl (by decide)) ?_)
    refine list_guard_y rfl rfl rfl rfl (by decide) rfl ?_
    refine id (op_callM (one_c code ?_ _ _ ?_ ?_ _) (.tmp 25) 11 [4, 25] [_] _ rfl rfl (by intro y hy; cases hy; exact ⟨rfl, (by intro t ht; simp only [List.mem_cons, List.not_mem_nil, or_false] at ht; rcases ht with rfl | rfl <;> rfl), (by intro s hs; simp only [List.mem_cons, List.not_mem_nil, or_false] at hs; subst hs; first | (simp [SV.labels]; done) | (simp [SV.labels, packS, SV.back]; done) | exact List.not_mem_nil)⟩) (by decide) (by decide) (by decide) rfl (fun _ => rfl) ?_)
    · first | assumption | omega | (simp; omega)
    · first | assumption | omega | (simp; omega)
    · first | assumption | omega | (simp; omega)
    rintro _ _ ⟨o, a2, s2, ha0, ha1, rfl, rfl⟩
    refine list_guard_y rfl rfl rfl rfl (by decide) rfl ?_
    refine id (op_q (by first | exact q_notd rfl (by decide) | exact q_not rfl (by decide)) ?_)
    refine list_cons rfl (op_q (q_pick rfl rfl (by decide)) ?_)
    refine list_nil ?_
    refine hK7 _ ?_; clear hK7 K7
    refine codeT.imp (σ' := [(0, _), (2, _), (3, _), (4, _), (5, _), (6, _), (7, _), (8, _), (28, _)]) ?_ (imp_covers ⟨rfl, rfl, rfl, rfl, rfl, rfl, rfl, rfl, rfl, trivial⟩)
    refine code_cond_d rfl (fun h2 => ?_) (fun h2 => ?_)
    · skip
      (try simp only [Decidable.not_not] at h2)
      refine code_seq (fun K8 hK8 => ?_)
      refine code_region ?_
      refine list_cons rfl (op_q (q_move rfl (by decide)) ?_)
      refine list_cons rfl (op_q (q_move rfl (by decide)) ?_)
      refine list_cons rfl (op_q (q_assign rfl (by decide)) ?_)
      refine list_cons rfl (op_q (q_assign rfl (by decide)) ?_)
      refine list_nil ?_
      refine hK8 _ ?_; clear hK8 K8
      refine code_ret ?_
      refine then_r ?_; clear hK5 K5
      refine ends_ret (cs := []) rfl rfl rfl rfl trivial ?_
      first
      | exact ⟨fs, l, ⟨hf1, hf2⟩, hl1, rfl⟩
      | exact ⟨fs, _, ⟨hf1, hf2⟩, by rw [if_pos h1, shRow_len]; exact h1.1 ▸ hf1, rfl⟩
    · skip
      (try simp only [Decidable.not_not] at h2)
      refine code_skip ?_
      refine hK5 _ ?_; clear hK5 K5
      refine code_seq (fun K9 hK9 => ?_)
      refine code_region ?_
      refine list_cons rfl (op_q (q_move rfl (by decide)) ?_)
      refine list_cons rfl (op_q (q_move rfl (by decide)) ?_)
      refine list_cons rfl (op_q (q_assign rfl (by decide)) ?_)
      refine list_cons rfl (op_q (q_assign rfl (by decide)) ?_)
      refine list_nil ?_
      refine hK9 _ ?_; clear hK9 K9
      refine code_ret ?_
      refine ends_ret (cs := []) rfl rfl rfl rfl trivial ?_
      first
      | exact ⟨fs, l, ⟨hf1, hf2⟩, hl1, rfl⟩
      | exact ⟨fs, _, ⟨hf1, hf2⟩, by rw [if_pos h1, shRow_len]; exact h1.1 ▸ hf1, rfl⟩
  · simp only [Bool.false_eq_true, if_true, if_false, Decidable.not_not] at h1
    refine list_guard_n rfl rfl rfl rfl (by decide) rfl ?_
    refine list_guard_n rfl rfl rfl rfl (by decide) rfl ?_
    refine list_cons rfl (op_q (q_pick rfl rfl (by decide)) ?_)
    refine list_nil ?_
    refine hK7 _ ?_; clear hK7 K7
    refine code_cond_f rfl ?_
    refine code_skip ?_
    refine hK5 _ ?_; clear hK5 K5
    refine code_seq (fun K10 hK10 => ?_)
    refine code_region ?_
    refine list_cons rfl (op_q (q_move rfl (by decide)) ?_)
    refine list_cons rfl (op_q (q_move rfl (by decide)) ?_)
    refine list_cons rfl (op_q (q_assign rfl (by decide)) ?_)
    refine list_cons rfl (op_q (q_assign rfl (by decide)) ?_)
    refine list_nil ?_
    refine hK10 _ ?_; clear hK10 K10
    refine code_ret ?_
    refine ends_ret (cs := []) rfl rfl rfl rfl trivial ?_
    first
    | exact ⟨fs, l, ⟨hf1, hf2⟩, hl1, rfl⟩
    | exact ⟨fs, _, ⟨hf1, hf2⟩, by rw [if_pos h1, shRow_len]; exact h1.1 ▸ hf1, rfl⟩

end Go.Proofs.YtjbbijlbenkgcaaDoor
namespace Go.Proofs.YtjbbijlbenkgcaaDoor.LvTy
open Go.RowKit

def az (u : TypeId) : Nat := match u with  | _ => 0

theorem sl_22 : SlTy Tryd.prog 22 5 1 1 [.int .u8 0] := slTy_of Tryd.underlying22 (z := .int .u8 0) (by kernel_rfl) rfl (by decide) (by decide) rfl
theorem sl_24 : SlTy Tryd.prog 24 3 1 8 [.int .i64 0] := slTy_of Tryd.underlying24 (z := .int .i64 0) (by kernel_rfl) rfl (by decide) (by decide) rfl
theorem one_3 : OneTy Tryd.prog 3 := oneTy_of Tryd.underlying3 rfl (by kernel_rfl)

end Go.Proofs.YtjbbijlbenkgcaaDoor.LvTy
namespace Go.Proofs.YtjbbijlbenkgcaaDoor
open Go.RowKit LvTy
set_option linter.unusedVariables false
set_option linter.unusedSimpArgs false

theorem flat_td (code : List UInt8) (a b : Nat) : PV.flatL (List.take a (List.drop b (bytesP code))) = true := by
  unfold bytesP
  rw [← List.map_drop, ← List.map_take]; exact flat_map _ (fun _ => rfl) _
theorem bytesP_cut (code : List UInt8) (n : Int) (k : Nat) (h0 : 0 ≤ n) (h1 : n ≤ 255) (hk : k = code.length - n.toNat) : (List.take (k * 1) (List.drop (n.toNat * 1) (bytesP code))) ++ [PV.int .u8 n] = bytesP (code.drop n.toNat ++ [UInt8.ofNat n.toNat]) := by
  subst hk
  rw [Nat.mul_one, Nat.mul_one]
  unfold bytesP
  rw [List.map_append, List.map_drop, List.take_of_length_le (by simp)]
  congr 1
  have h : (UInt8.ofNat n.toNat).toNat = n.toNat := by
    rw [UInt8.toNat_ofNat']; omega
  simp only [List.map_cons, List.map_nil, h]
  rw [show ((n.toNat : Nat) : Int) = n by omega]

set_option maxRecDepth 4000 in
theorem vBig_c (code : List UInt8) : PCalls Tryd.prog 6 [.sl code.length (bytesP code)] (· = [.val (.bool (decide (65536 < code.length)))]) := by
  refine pcalls_of_code (n := 6) az Tryd.func6 (by kernel_rfl) rfl rfl (Nat.le_of_ble_eq_true rfl) (by intro t u h; simp [Tryd.f6] at h) ?_
  refine code_seq (fun K1 hK1 => ?_)
  refine code_region ?_
  refine list_cons rfl (op_q (q_assign rfl (by decide)) ?_)
  refine list_nil ?_
  refine hK1 _ ?_; clear hK1 K1
  refine code_seq (fun K2 hK2 => ?_)
  refine code_region ?_
  refine list_cons rfl (op_q (q_move rfl (by decide)) ?_)
  refine list_cons rfl (op_q (q_len_sl Tryd.underlying22 rfl rfl (by decide)) ?_)
  refine list_cons rfl (op_q (q_gt rfl rfl (by decide)) ?_)
  refine list_cons rfl (op_q (q_assign rfl (by decide)) ?_)
  refine list_nil ?_
  refine hK2 _ ?_; clear hK2 K2
  refine code_ret ?_
  refine ends_ret (cs := []) rfl rfl rfl rfl trivial ?_
  first | rfl | (congr 3; exact decide_eq_decide.mpr (by omega))

set_option maxRecDepth 4000 in
theorem vCut_c (code : List UInt8) (hcode : code.length ≤ 65536) (k : Int) (h0 : 0 ≤ k) (h1 : k ≤ 255) : PCalls Tryd.prog 11 [.sl code.length (bytesP code), .int .i64 k] (fun rs => ∃ c2 : List UInt8, c2.length ≤ 65537 ∧ rs = [.own 0 5 1 c2.length (bytesP c2)]) := by
  refine pcalls_of_code (n := 20) az Tryd.func11 (by kernel_rfl) rfl rfl (Nat.le_of_ble_eq_true rfl) (by intro t u h; simp [Tryd.f11] at h) ?_
  have hbl : (bytesP code).length = code.length := by simp [bytesP]
  refine code_seq (fun K1 hK1 => ?_)
  refine code_region ?_
  refine list_cons rfl (op_q (q_assign rfl (by decide)) ?_)
  refine list_nil ?_
  refine hK1 _ ?_; clear hK1 K1
  refine code_seq (fun K2 hK2 => ?_)
  refine code_seq (fun K3 hK3 => ?_)
  refine code_region ?_
  refine list_cons rfl (op_q (q_move rfl (by decide)) ?_)
  refine list_cons rfl (op_q (q_move rfl (by decide)) ?_)
  refine list_cons rfl (op_q (q_len_sl Tryd.underlying22 rfl rfl (by decide)) ?_)
  refine list_cons rfl (op_q (q_gt rfl rfl (by decide)) ?_)
  refine list_nil ?_
  refine hK3 _ ?_; clear hK3 K3
  refine code_cond_d rfl (fun h1 => ?_) (fun h1 => ?_)
  · skip
    (try simp only [Decidable.not_not] at h1)
    refine code_region ?_
    refine list_cons rfl (op_q (q_move rfl (by decide)) ?_)
    refine list_cons rfl (op_q (q_len_sl Tryd.underlying22 rfl rfl (by decide)) ?_)
    refine list_cons rfl (op_q (q_assign rfl (by decide)) ?_)
    refine list_nil ?_
    refine hK2 _ ?_; clear hK2 K2
    refine code_seq (fun K4 hK4 => ?_)
    refine code_region ?_
    refine list_cons rfl (op_buildSlice sl_22 (parts := []) rfl rfl rfl (by decide) (by decide) (by decide) rfl ?_)
    refine list_cons rfl (op_q (q_move rfl (by decide)) ?_)
    refine list_cons rfl (op_q (q_move rfl (by decide)) ?_)
    refine list_cons rfl (op_q (q_slice_sl sl_22 rfl rfl ⟨_, rfl⟩ rfl (by omega) (by omega) (by omega) rfl (by decide)) ?_)
    refine list_cons rfl (op_append_gen sl_22 (l := 11) (.inl rfl) rfl rfl (l2 := none) (.inl ⟨rfl, (by first | rfl | exact flat_map _ (fun _ => rfl) _ | exact flat_td _ _ _)⟩) (by first | rfl | (simp [bytesP]; done) | (simp [bytesP]; omega) | omega) (by omega) (by decide) (by decide) (by decide) ?_)
    refine list_cons rfl (op_q (q_move rfl (by decide)) ?_)
    refine list_cons rfl (op_q (by first | exact q_conv8 (by rw [Tryd.underlying3]; rfl) Tryd.underlying5 rfl (by decide) (by omega) (by omega) | exact q_conv (by rw [Tryd.underlying3]; rfl) Tryd.underlying5 rfl (by decide)) ?_)
    refine list_cons rfl (op_buildSlice sl_22 (parts := [(0, .tmp 17)]) rfl rfl rfl (by decide) (by decide) (by decide) rfl ?_)
    refine list_cons rfl (op_append_gen sl_22 (l := 11) (.inl rfl) rfl rfl (l2 := none) (.inl ⟨rfl, (by first | rfl | exact flat_map _ (fun _ => rfl) _ | exact flat_td _ _ _)⟩) (by first | rfl | (simp [bytesP]; done) | (simp [bytesP]; omega) | omega) (by omega) (by decide) (by decide) (by decide) ?_)
    refine list_cons rfl (op_q (q_assign rfl (by decide)) ?_)
    refine list_nil ?_
    refine hK4 _ ?_; clear hK4 K4
    refine codeT.imp (σ' := [(0, _), (1, _), (4, _)]) ?_ (imp_covers ⟨rfl, rfl, rfl, trivial⟩)
    refine code_ret ?_
    refine ends_ret (cs := []) rfl rfl rfl rfl trivial ?_
    refine ⟨code.drop ((code.length : Nat) : Int).toNat ++ [UInt8.ofNat ((code.length : Nat) : Int).toNat], by simp, ?_⟩
    rw [← bytesP_cut code (code.length : Int) (((code.length : Nat) : Int).toNat - ((code.length : Nat) : Int).toNat) (by omega) (by omega) (by omega), show (code.drop ((code.length : Nat) : Int).toNat ++ [UInt8.ofNat ((code.length : Nat) : Int).toNat]).length = 0 + (((code.length : Nat) : Int).toNat - ((code.length : Nat) : Int).toNat) + 1 by simp]
    rfl
  · skip
    (try simp only [Decidable.not_not] at h1)
    refine code_skip ?_
    refine hK2 _ ?_; clear hK2 K2
    refine code_seq (fun K5 hK5 => ?_)
    refine code_region ?_
    refine list_cons rfl (op_buildSlice sl_22 (parts := []) rfl rfl rfl (by decide) (by decide) (by decide) rfl ?_)
    refine list_cons rfl (op_q (q_move rfl (by decide)) ?_)
    refine list_cons rfl (op_q (q_move rfl (by decide)) ?_)
    refine list_cons rfl (op_q (q_slice_sl sl_22 rfl rfl ⟨_, rfl⟩ rfl (by omega) (by omega) (by omega) rfl (by decide)) ?_)
    refine list_cons rfl (op_append_gen sl_22 (l := 11) (.inl rfl) rfl rfl (l2 := none) (.inl ⟨rfl, (by first | rfl | exact flat_map _ (fun _ => rfl) _ | exact flat_td _ _ _)⟩) (by first | rfl | (simp [bytesP]; done) | (simp [bytesP]; omega) | omega) (by omega) (by decide) (by decide) (by decide) ?_)
    refine list_cons rfl (op_q (q_move rfl (by decide)) ?_)
    refine list_cons rfl (op_q (by first | exact q_conv8 (by rw [Tryd.underlying3]; rfl) Tryd.underlying5 rfl (by decide) (by omega) (by omega) | exact q_conv (by rw [Tryd.underlying3]; rfl) Tryd.underlying5 rfl (by decide)) ?_)
    refine list_cons rfl (op_buildSlice sl_22 (parts := [(0, .tmp 17)]) rfl rfl rfl (by decide) (by decide) (by decide) rfl ?_)
    refine list_cons rfl (op_append_gen sl_22 (l := 11) (.inl rfl) rfl rfl (l2 := none) (.inl ⟨rfl, (by first | rfl | exact flat_map _ (fun _ => rfl) _ | exact flat_td _ _ _)⟩) (by first | rfl | (simp [bytesP]; done) | (simp [bytesP]; omega) | omega) (by omega) (by decide) (by decide) (by decide) ?_)
    refine list_cons rfl (op_q (q_assign rfl (by decide)) ?_)
    refine list_nil ?_
    refine hK5 _ ?_; clear hK5 K5
    refine codeT.imp (σ' := [(0, _), (1, _), (4, _)]) ?_ (imp_covers ⟨rfl, rfl, rfl, trivial⟩)
    refine code_ret ?_
    refine ends_ret (cs := []) rfl rfl rfl rfl trivial ?_
    refine ⟨code.drop k.toNat ++ [UInt8.ofNat k.toNat], by simp; omega, ?_⟩
    rw [← bytesP_cut code k (((code.length : Nat) : Int).toNat - k.toNat) (by omega) (by omega) (by omega), show (code.drop k.toNat ++ [UInt8.ofNat k.toNat]).length = 0 + (((code.length : Nat) : Int).toNat - k.toNat) + 1 by simp]
    rfl

set_option maxRecDepth 4000 in
theorem vInts_c (a b : List Int) (ha : a.length ≤ 4611686018427387904) : PCalls Tryd.prog 17 [.sl a.length (a.map (.int .i64)), .sl b.length (b.map (.int .i64))] (· = [.val (.bool (decide (a = b)))]) := by
  refine pcalls_of_code (n := 26) az Tryd.func17 (by kernel_rfl) rfl rfl (Nat.le_of_ble_eq_true rfl) (by intro t u h; simp [Tryd.f17] at h) ?_
  refine code_seq (fun K1 hK1 => ?_)
  refine code_region ?_
  refine list_cons rfl (op_q (q_assign rfl (by decide)) ?_)
  refine list_nil ?_
  refine hK1 _ ?_; clear hK1 K1
  refine code_seq (fun K2 hK2 => ?_)
  refine code_seq (fun K3 hK3 => ?_)
  refine code_region ?_
  refine list_cons rfl (op_q (q_move rfl (by decide)) ?_)
  refine list_cons rfl (op_q (q_len_sl Tryd.underlying24 rfl rfl (by decide)) ?_)
  refine list_cons rfl (op_q (q_move rfl (by decide)) ?_)
  refine list_cons rfl (op_q (q_len_sl Tryd.underlying24 rfl rfl (by decide)) ?_)
  refine list_cons rfl (op_q (q_ne rfl rfl (by decide)) ?_)
  refine list_nil ?_
  refine hK3 _ ?_; clear hK3 K3
  refine code_cond_d rfl (fun h1 => ?_) (fun h1 => ?_)
  · skip
    (try simp only [Decidable.not_not] at h1)
    refine code_seq (fun K4 hK4 => ?_)
    refine code_region ?_
    refine list_cons rfl (op_q (q_assign rfl (by decide)) ?_)
    refine list_nil ?_
    refine hK4 _ ?_; clear hK4 K4
    refine code_ret ?_
    refine then_r ?_; clear hK2 K2
    refine ends_ret (cs := []) rfl rfl rfl rfl trivial ?_
    rw [decide_eq_false (fun e => h1 (by rw [e]))]
  · skip
    (try simp only [Decidable.not_not] at h1)
    refine code_skip ?_
    refine hK2 _ ?_; clear hK2 K2
    refine code_seq (fun K5 hK5 => ?_)
    refine code_seq (fun K6 hK6 => ?_)
    refine code_region ?_
    refine list_cons rfl (op_q (q_assign rfl (by decide)) ?_)
    refine list_nil ?_
    refine hK6 _ ?_; clear hK6 K6
    refine code_block ?_
    refine code_loop (X := Bool × Int) (fun x => [(0, .par 0 (.sl a.length (a.map (.int .i64)))), (1, .par 1 (.sl b.length (b.map (.int .i64)))), (4, .val (.bool x.1)), (5, .val (.int .i64 x.2))]) (fun x => 0 ≤ x.2 ∧ x.2 ≤ a.length ∧ ∀ j, j < x.2.toNat → a.getD j 0 = b.getD j 0) (fun x => a.length - x.2.toNat) (_, _) (imp_covers ⟨rfl, rfl, rfl, rfl, trivial⟩) ?_ ?_
    · (try dsimp only)
      refine ⟨by omega, by omega, fun j hj => by simp at hj⟩
    · intro x hI
      obtain ⟨t4, i⟩ := x
      replace hI : 0 ≤ i ∧ i ≤ a.length ∧ ∀ j, j < i.toNat → a.getD j 0 = b.getD j 0 := hI
      show codeT _ _ _ [(0, .par 0 (.sl a.length (a.map (.int .i64)))), (1, .par 1 (.sl b.length (b.map (.int .i64)))), (4, .val (.bool t4)), (5, .val (.int .i64 i))] _
      obtain ⟨i1, i2, i3⟩ := hI
      refine code_seq (fun K7 hK7 => ?_)
      refine code_seq (fun K8 hK8 => ?_)
      refine code_region ?_
      refine list_cons rfl (op_q (q_move rfl (by decide)) ?_)
      refine list_cons rfl (op_q (q_move rfl (by decide)) ?_)
      refine list_cons rfl (op_q (q_len_sl Tryd.underlying24 rfl rfl (by decide)) ?_)
      refine list_cons rfl (op_q (q_lt rfl rfl (by decide)) ?_)
      refine list_nil ?_
      refine hK8 _ ?_; clear hK8 K8
      refine code_cond_d rfl (fun h2 => ?_) (fun h2 => ?_)
      · skip
        (try simp only [Decidable.not_not] at h2)
        refine code_skip ?_
        refine hK7 _ ?_; clear hK7 K7
        refine code_seq (fun K9 hK9 => ?_)
        refine code_block ?_
        refine code_seq (fun K10 hK10 => ?_)
        refine code_draw (by kernel_rfl) (by kernel_rfl) ?_
        refine draw_q rfl (q_move rfl (by decide)) ?_
        refine draw_q rfl (q_move rfl (by decide)) ?_
        refine draw_q rfl (q_indexAddr_rd sl_24 rfl (.inl ⟨_, rfl, rfl⟩) rfl (by omega) (by omega) (by decide)) ?_
        refine draw_q rfl (q_load_rd one_3 rfl (.inl ⟨_, (by first | rfl | exact congrArg (SV.rpar _) (drop_map1 _ 0 _ (by first | omega | (simp; omega)))), rfl⟩) (by decide)) ?_
        refine draw_q rfl (q_move rfl (by decide)) ?_
        refine draw_q rfl (q_move rfl (by decide)) ?_
        refine draw_q rfl (q_indexAddr_rd sl_24 rfl (.inl ⟨_, rfl, rfl⟩) rfl (by omega) (by omega) (by decide)) ?_
        refine draw_q rfl (q_load_rd one_3 rfl (.inl ⟨_, (by first | rfl | exact congrArg (SV.rpar _) (drop_map1 _ 0 _ (by first | omega | (simp; omega)))), rfl⟩) (by decide)) ?_
        refine draw_q rfl (q_ne rfl rfl (by decide)) ?_
        refine draw_nil ?_
        refine hK10 _ ?_; clear hK10 K10
        refine codeT.imp (σ' := [(0, _), (1, _), (4, _), (5, _), (25, _)]) ?_ (imp_covers ⟨rfl, rfl, rfl, rfl, rfl, trivial⟩)
        refine code_cond_d rfl (fun h3 => ?_) (fun h3 => ?_)
        · skip
          (try simp only [Decidable.not_not] at h3)
          refine code_seq (fun K11 hK11 => ?_)
          refine code_region ?_
          refine list_cons rfl (op_q (q_assign rfl (by decide)) ?_)
          refine list_nil ?_
          refine hK11 _ ?_; clear hK11 K11
          refine code_ret ?_
          refine blk_r ?_
          refine then_r ?_; clear hK9 K9
          refine then_r ?_
          refine blk_r ?_
          refine then_r ?_; clear hK5 K5
          refine ends_ret (cs := []) rfl rfl rfl rfl trivial ?_
          rw [decide_eq_false (list_ne_ofI 0 i.toNat h3)]
        · skip
          (try simp only [Decidable.not_not] at h3)
          refine code_skip ?_
          refine blk_n ?_
          refine hK9 _ ?_; clear hK9 K9
          refine code_region ?_
          refine list_cons rfl (op_q (q_move rfl (by decide)) ?_)
          refine list_cons rfl (op_q (by first | exact q_addI rfl rfl (by decide) (by omega) (by omega) | exact q_ib rfl rfl rfl (by decide)) ?_)
          refine list_cons rfl (op_q (q_assign rfl (by decide)) ?_)
          refine list_nil ?_
          refine then_n ⟨(_, _), imp_covers ⟨rfl, rfl, rfl, rfl, trivial⟩, ?_, ?_⟩
          · (try dsimp only)
            refine ⟨by omega, by omega, fun j hj => ?_⟩
            by_cases e : j = i.toNat
            · subst e; exact h3
            · exact i3 j (by omega)
          · (try dsimp only); omega
      · skip
        (try simp only [Decidable.not_not] at h2)
        refine code_exit ?_
        refine then_x ?_; clear hK7 K7
        refine then_x ?_
        refine blk_hit ?_
        refine hK5 _ ?_; clear hK5 K5
        refine code_seq (fun K12 hK12 => ?_)
        refine code_region ?_
        refine list_cons rfl (op_q (q_assign rfl (by decide)) ?_)
        refine list_nil ?_
        refine hK12 _ ?_; clear hK12 K12
        refine code_ret ?_
        refine ends_ret (cs := []) rfl rfl rfl rfl trivial ?_
        rw [decide_eq_true (list_eq_ofI 0 a b (by omega) fun j hj => i3 j (by omega))]

end Go.Proofs.YtjbbijlbenkgcaaDoor
namespace Go.Proofs.YtjbbijlbenkgcaaDoor.LFTy
open Go.RowKit

def az (u : TypeId) : Nat := match u with | 42 => 2 | _ => 0

theorem sl_27 : SlTy Tryd.prog 27 42 2 16 [.int .i64 0, .int .i64 0] := slTy_of Tryd.underlying27 (z := .agg #[.int .i64 0, .int .i64 0]) (by kernel_rfl) rfl (by decide) (by decide) rfl
theorem agg_42 : AggTy Tryd.prog 42 2 := aggTy_of Tryd.underlying42 rfl (by kernel_rfl)
theorem one_3 : OneTy Tryd.prog 3 := oneTy_of Tryd.underlying3 rfl (by kernel_rfl)
theorem eqty_3 : EqTy Tryd.prog 3 [.int .i64] 1 := eqTy_int one_3 Tryd.underlying3
theorem eqty_42 : EqTy Tryd.prog 42 [.int .i64, .int .i64] 2 := eqTy_struct (ks := [.int .i64, .int .i64]) agg_42 Tryd.underlying42 (by kernel_rfl) ⟨(by kernel_rfl), rfl, [.int .i64], [.int .i64], rfl, EqTy.mono eqty_3 (by decide), ⟨(by kernel_rfl), rfl, [.int .i64], [], rfl, EqTy.mono eqty_3 (by decide), rfl⟩⟩
theorem eqg_42 : Tryd.prog.eqGuardType Tryd.prog.depth 42 = false := by kernel_rfl

end Go.Proofs.YtjbbijlbenkgcaaDoor.LFTy
namespace Go.Proofs.YtjbbijlbenkgcaaDoor
open Go.RowKit LFTy
set_option linter.unusedVariables false
set_option linter.unusedSimpArgs false

theorem draw_guard_nT {P : Program} {n : Nat} {σ : St} {K : St → Prop} {d : Nat} {ops : Array Oper} {l : List Oper} {o : Oper} {j dj : Nat} {want : Bool} (hg : o.guard = some (j, want)) (hd : o.dst = some d) (hj : (ops[j]?).bind (·.dst) = some dj) (hdj : σ.at dj = some (.val (.bool (!want))))
    (hn : dj < n) (hdn : d < n) (h1 : drawT P n ops l ((d, .tup []) :: σ) K) : drawT P n ops (o :: l) σ K := by
  intro C a w hS Q hQ
  obtain ⟨G, hG, hE⟩ := hS.gh
  have hy : yielded ops a.tmps j = some (!want) := by
    have := hE dj _ hdj
    simp only [Ok, Rep] at this
    unfold yielded
    rw [hj]
    have hlt : dj < a.tmps.size := by rw [hS.size]; exact hn
    simp only [Array.getD_eq_getD_getElem?, Array.getElem?_eq_getElem hlt, Option.getD_some] at this
    simp [Array.getElem?_eq_getElem hlt, this]
  have hw : Region.wanted o (yielded ops a.tmps) = false := by
    simp only [Region.wanted, hg, hy]
    cases want <;> rfl
  unfold wpQuiet
  rw [hw, if_neg (by simp), hd]
  exact h1 C _ w (hS.put hG hE hdn ⟨[], rfl, rfl⟩) Q hQ
theorem draw_guard_u {P : Program} {n : Nat} {σ : St} {K : St → Prop} {d : Nat} {ops : Array Oper} {l : List Oper} {o : Oper} {j dj : Nat} {want : Bool} (hg : o.guard = some (j, want)) (hd : o.dst = some d) (hj : (ops[j]?).bind (·.dst) = some dj) (hdj : σ.at dj = some (.tup []))
    (hn : dj < n) (hdn : d < n) (h1 : drawT P n ops l ((d, .tup []) :: σ) K) : drawT P n ops (o :: l) σ K := by
  intro C a w hS Q hQ
  obtain ⟨G, hG, hE⟩ := hS.gh
  have hy : yielded ops a.tmps j = none := by
    have := hE dj _ hdj
    simp only [Ok] at this
    obtain ⟨vs, hv, h0⟩ := this
    simp only [OkL] at h0
    subst h0
    unfold yielded
    rw [hj]
    have hlt : dj < a.tmps.size := by rw [hS.size]; exact hn
    simp only [Array.getD_eq_getD_getElem?, Array.getElem?_eq_getElem hlt, Option.getD_some] at hv
    simp [Array.getElem?_eq_getElem hlt, hv]
  have hw : Region.wanted o (yielded ops a.tmps) = false := by
    simp only [Region.wanted, hg, hy]
    cases want <;> rfl
  unfold wpQuiet
  rw [hw, if_neg (by simp), hd]
  exact h1 C _ w (hS.put hG hE hdn ⟨[], rfl, rfl⟩) Q hQ

theorem list_eq_ofP (a b : List (Int × Int)) (hl : a.length = b.length) (h : ∀ j, j < a.length → a.getD j (0, 0) = b.getD j (0, 0)) : a = b := by
  apply List.ext_getElem hl
  intro j h1 h2
  have := h j h1
  rw [List.getD_eq_getElem?_getD, List.getElem?_eq_getElem h1, List.getD_eq_getElem?_getD, List.getElem?_eq_getElem h2] at this
  exact this
def fltN (ds cs : List Int) (k : Nat) : List Nat := (List.range k).filter fun j => fltP ds cs j
def prOf (j : Nat) : Int × Int := (((j / 128 : Nat) : Int), ((j % 128 : Nat) : Int))
theorem faultsOf_eq (ds cs : List Int) : faultsOf ds cs = (fltN ds cs 16384).map prOf := rfl
theorem faultsOf_len (ds cs : List Int) : (faultsOf ds cs).length = (fltN ds cs 16384).length := by rw [faultsOf_eq, List.length_map]
theorem faultsOf_le (ds cs : List Int) : (faultsOf ds cs).length ≤ 16384 := fltK_len ds cs 16384
theorem faultsOf_at {ds cs : List Int} {i : Nat} (h : i < (faultsOf ds cs).length) : (faultsOf ds cs).getD i (0, 0) = prOf ((fltN ds cs 16384).getD i 0) := by
  rw [faultsOf_len] at h
  rw [faultsOf_eq, List.getD_eq_getElem?_getD, List.getElem?_map, List.getD_eq_getElem?_getD, List.getElem?_eq_getElem h]; rfl
theorem fltN_mem {ds cs : List Int} {i : Nat} (h : i < (fltN ds cs 16384).length) : fltP ds cs ((fltN ds cs 16384).getD i 0) := by
  have h2 : (fltN ds cs 16384).getD i 0 ∈ fltN ds cs 16384 := by
    rw [List.getD_eq_getElem?_getD, List.getElem?_eq_getElem h]; exact List.getElem_mem h
  exact of_decide_eq_true (List.mem_filter.1 h2).2
theorem fltN_lt {ds cs : List Int} {i j : Nat} (hij : i < j) (h : j < (fltN ds cs 16384).length) : (fltN ds cs 16384).getD i 0 < (fltN ds cs 16384).getD j 0 := by
  have hp : List.Pairwise (· < ·) (fltN ds cs 16384) := List.Pairwise.filter _ List.pairwise_lt_range
  have := List.pairwise_iff_getElem.1 hp i j (by omega) h hij
  rw [List.getD_eq_getElem?_getD, List.getElem?_eq_getElem (by omega), List.getD_eq_getElem?_getD, List.getElem?_eq_getElem h]; exact this
theorem found_ok {ds cs : List Int} {i : Nat} (h : i < (faultsOf ds cs).length) : FaultP ((faultsOf ds cs).getD i (0, 0)).1 ((faultsOf ds cs).getD i (0, 0)).2 ∧ FitsP ((faultsOf ds cs).getD i (0, 0)).1 ((faultsOf ds cs).getD i (0, 0)).2 ds cs := by
  rw [faultsOf_at h]
  rw [faultsOf_len] at h
  exact fltN_mem h
theorem found_lt {ds cs : List Int} {i : Nat} (h0 : 0 < i) (h : i < (faultsOf ds cs).length) : ((faultsOf ds cs).getD (i - 1) (0, 0)).1 ≤ ((faultsOf ds cs).getD i (0, 0)).1 ∧ (((faultsOf ds cs).getD i (0, 0)).1 = ((faultsOf ds cs).getD (i - 1) (0, 0)).1 → ((faultsOf ds cs).getD (i - 1) (0, 0)).2 < ((faultsOf ds cs).getD i (0, 0)).2) := by
  have hl : (fltN ds cs 16384).getD (i - 1) 0 < (fltN ds cs 16384).getD i 0 := fltN_lt (by omega) (by rw [← faultsOf_len]; exact h)
  rw [faultsOf_at h, faultsOf_at (show i - 1 < _ by omega)]
  generalize (fltN ds cs 16384).getD (i - 1) 0 = m at hl ⊢
  generalize (fltN ds cs 16384).getD i 0 = n at hl ⊢
  show ((m / 128 : Nat) : Int) ≤ ((n / 128 : Nat) : Int) ∧ (((n / 128 : Nat) : Int) = ((m / 128 : Nat) : Int) → ((m % 128 : Nat) : Int) < ((n % 128 : Nat) : Int))
  omega
theorem cntN_pos (fs : List (Int × Int)) (l : List Int) : ∀ k, (0 < cntN fs l k ↔ ∀ j, j < k → chA fs l j ≠ [])
  | 0 => ⟨fun _ j hj => absurd hj (Nat.not_lt_zero j), fun _ => Nat.zero_lt_one⟩
  | k + 1 => by
    rw [cntN]
    have ih := cntN_pos fs l k
    constructor
    · intro h j hj
      have h1 : 0 < cntN fs l k := Nat.pos_of_ne_zero fun e => by rw [e, Nat.zero_mul] at h; omega
      have h2 : 0 < (chA fs l k).length := Nat.pos_of_ne_zero fun e => by rw [e, Nat.mul_zero] at h; omega
      by_cases e : j = k
      · subst e; intro k2; rw [k2] at h2; simp at h2
      · exact ih.1 h1 j (by omega)
    · intro h
      exact Nat.mul_pos (ih.2 fun j hj => h j (by omega)) (List.length_pos_iff.2 (h k (by omega)))
theorem first_iff (fs : List (Int × Int)) (l : List Int) : FirstP fs l ↔ (NumsP fs l ∧ 0 < (if NumsP fs l then (cntN fs l l.length : Int) else 0)) := by
  unfold FirstP
  rw [← cntN_pos]
  constructor
  · rintro ⟨h1, h2⟩; refine ⟨h1, ?_⟩; rw [if_pos h1]; omega
  · rintro ⟨h1, h2⟩; refine ⟨h1, ?_⟩; rw [if_pos h1] at h2; omega
theorem digsK_in {fx fy c x : Int} : ∀ k : Nat, k ≤ 10 → x ∈ digsK fx fy c k → (0 ≤ x ∧ x ≤ 9) ∧ shF fx fy (digT.getD x.toNat 0) = c
  | 0, _, h => by cases h
  | k + 1, hk, h => by
    rw [digsK_succ] at h
    rcases List.mem_append.1 h with h | h
    · exact digsK_in k (by omega) h
    · split at h
      · rename_i e
        simp only [List.mem_singleton] at h
        subst h
        exact ⟨by omega, by rw [Int.toNat_natCast]; exact e⟩
      · cases h
theorem first_at {fs : List (Int × Int)} {l : List Int} (h : FirstP fs l) {j : Nat} (hj : j < l.length) : (0 ≤ (firK fs l l.length).getD j 0 ∧ (firK fs l l.length).getD j 0 ≤ 9) ∧ shF (fs.getD j (0, 0)).1 (fs.getD j (0, 0)).2 (digT.getD ((firK fs l l.length).getD j 0).toNat 0) = l.getD j 0 := by
  have e : (firK fs l l.length).getD j 0 = (chA fs l j).getD 0 0 := by simp [firK, hj]
  have hne := h.2 j hj
  have hm : (chA fs l j).getD 0 0 ∈ chA fs l j := by
    have : 0 < (chA fs l j).length := List.length_pos_iff.2 hne
    rw [List.getD_eq_getElem?_getD, List.getElem?_eq_getElem this]; exact List.getElem_mem this
  rw [e]
  exact digsK_in 10 (by decide) hm
/-- The row of the cells of so many digits. -/
def cR (l : List Int) (k : Nat) : List Int := (l.take k).map fun d => digT.getD d.toNat 0
theorem cR_len (l : List Int) {k : Nat} (h : k ≤ l.length) : (cR l k).length = k := by simp [cR]; omega
theorem cR_succ (l : List Int) {k : Nat} (h : k < l.length) : cR l (k + 1) = cR l k ++ [digT.getD (l.getD k 0).toNat 0] := by
  unfold cR
  rw [List.take_succ_eq_append_getElem h, List.map_append]
  simp [h]
theorem cR_at (l : List Int) {k j : Nat} (h : j < k) (hk : k ≤ l.length) : (cR l k).getD j 0 = digT.getD (l.getD j 0).toNat 0 := by
  have : j < l.length := by omega
  simp [cR, List.getD_eq_getElem?_getD, h, this]
theorem shRow_atF (fs : List (Int × Int)) (l : List Int) {j : Nat} (h : j < l.length) : (shRow fs l).getD j 0 = shF (fs.getD j (0, 0)).1 (fs.getD j (0, 0)).2 (l.getD j 0) := by
  unfold shRow shRowK; simp [h]
theorem cR_ok {fs : List (Int × Int)} {l : List Int} (h : FirstP fs l) : FaultsP fs (cR (firK fs l l.length) l.length) := by
  have hl : (cR (firK fs l l.length) l.length).length = l.length := cR_len _ (by rw [firK_len]; exact Nat.le_refl _)
  refine ⟨by rw [hl]; exact h.1.1.1, ⟨by rw [hl]; exact h.1.1.2.1.1, fun x hx => ?_⟩, h.1.1.2.2⟩
  unfold cR at hx
  obtain ⟨d, _, rfl⟩ := List.mem_map.1 hx
  exact digT_cell _
theorem cR_shown {fs : List (Int × Int)} {l : List Int} (h : FirstP fs l) : shRow fs (cR (firK fs l l.length) l.length) = l := by
  have hl : (cR (firK fs l l.length) l.length).length = l.length := cR_len _ (by rw [firK_len]; exact Nat.le_refl _)
  refine list_eq_ofI 0 _ _ (by rw [shRow_len, hl]) fun j hj => ?_
  rw [shRow_len, hl] at hj
  rw [shRow_atF fs _ (by rw [hl]; exact hj), cR_at _ hj (by rw [firK_len]; exact Nat.le_refl _)]
  exact (first_at h hj).2
theorem faI_len (ds es : List Int) : (if PairsP ds es then faultsOf ds es else []).length ≤ 16384 := by
  split
  · exact faultsOf_le ds es
  · simp
theorem firI_len (fs : List (Int × Int)) (r : List Int) (h : r.length ≤ 7) : (if FirstP fs r then firK fs r r.length else []).length ≤ 7 := by
  split
  · rw [firK_len]; exact h
  · simp
theorem fl_getF : ∀ (gs : List (Int × Int)) (k : Nat), k < gs.length → (fl gs)[k * 2]? = some (PV.int .i64 (gs.getD k (0, 0)).1) ∧ (fl gs)[k * 2 + 1]? = some (PV.int .i64 (gs.getD k (0, 0)).2)
  | g :: gs, 0, _ => ⟨rfl, rfl⟩
  | g :: gs, k + 1, h => by
    have ih := fl_getF gs k (by simpa using h)
    show (PV.int .i64 g.1 :: PV.int .i64 g.2 :: fl gs)[(k + 1) * 2]? = _ ∧ (PV.int .i64 g.1 :: PV.int .i64 g.2 :: fl gs)[(k + 1) * 2 + 1]? = _
    rw [show (k + 1) * 2 = k * 2 + 1 + 1 by omega]
    exact ih
theorem fl_ld0 {gs : List (Int × Int)} {k : Nat} (h : k < gs.length) : (fl gs)[k * 2 + 0]? = some (PV.int .i64 (gs.getD k (0, 0)).1) := (fl_getF gs k h).1
theorem fl_ld1 {gs : List (Int × Int)} {k : Nat} (h : k < gs.length) : (fl gs)[k * 2 + 1]? = some (PV.int .i64 (gs.getD k (0, 0)).2) := (fl_getF gs k h).2
section
variable {ds es : List Int} (h : PairsP ds es)
include h
theorem sh1 {i k : Nat} (hi : i < (if PairsP ds es then faultsOf ds es else []).length) (hk : k < ds.length) : FaultP ((if PairsP ds es then faultsOf ds es else []).getD i (0, 0)).1 ((if PairsP ds es then faultsOf ds es else []).getD i (0, 0)).2 ∧ 0 ≤ (if 0 ≤ ds.getD k 0 ∧ ds.getD k 0 ≤ 9 then digT.getD (ds.getD k 0).toNat 0 else 0) ∧ (if 0 ≤ ds.getD k 0 ∧ ds.getD k 0 ≤ 9 then digT.getD (ds.getD k 0).toNat 0 else 0) ≤ 127 := by
  have g := (h.2.2 k hk).1
  rw [if_pos g]
  rw [if_pos h] at hi ⊢
  exact ⟨(found_ok hi).1, (digT_cell _).1, (digT_cell _).2⟩
theorem sh2 {i k : Nat} (hi : i < (if PairsP ds es then faultsOf ds es else []).length) (hk : k < ds.length) : (if FaultP ((if PairsP ds es then faultsOf ds es else []).getD i (0, 0)).1 ((if PairsP ds es then faultsOf ds es else []).getD i (0, 0)).2 ∧ 0 ≤ (if 0 ≤ ds.getD k 0 ∧ ds.getD k 0 ≤ 9 then digT.getD (ds.getD k 0).toNat 0 else 0) ∧ (if 0 ≤ ds.getD k 0 ∧ ds.getD k 0 ≤ 9 then digT.getD (ds.getD k 0).toNat 0 else 0) ≤ 127 then shF ((if PairsP ds es then faultsOf ds es else []).getD i (0, 0)).1 ((if PairsP ds es then faultsOf ds es else []).getD i (0, 0)).2 (if 0 ≤ ds.getD k 0 ∧ ds.getD k 0 ≤ 9 then digT.getD (ds.getD k 0).toNat 0 else 0) else 0) = es.getD k 0 := by
  rw [if_pos (sh1 h hi hk), if_pos (h.2.2 k hk).1]
  rw [if_pos h] at hi ⊢
  exact (found_ok hi).2 k hk
theorem foundI_lt {i : Int} (h0 : 0 < i) (hi : i.toNat < (if PairsP ds es then faultsOf ds es else []).length) : ((if PairsP ds es then faultsOf ds es else []).getD (i - 1).toNat (0, 0)).1 ≤ ((if PairsP ds es then faultsOf ds es else []).getD i.toNat (0, 0)).1 ∧ (((if PairsP ds es then faultsOf ds es else []).getD i.toNat (0, 0)).1 = ((if PairsP ds es then faultsOf ds es else []).getD (i - 1).toNat (0, 0)).1 → ((if PairsP ds es then faultsOf ds es else []).getD (i - 1).toNat (0, 0)).2 < ((if PairsP ds es then faultsOf ds es else []).getD i.toNat (0, 0)).2) := by
  rw [if_pos h] at hi ⊢
  rw [show (i - 1).toNat = i.toNat - 1 by omega]
  exact found_lt (by omega) hi
end
section
variable {fs : List (Int × Int)} {r : List Int} (h : FirstP fs r)
include h
theorem firI_n : (if FirstP fs r then firK fs r r.length else []).length = r.length := by rw [if_pos h, firK_len]
theorem fir1 {j : Nat} (hj : j < r.length) : 0 ≤ (if FirstP fs r then firK fs r r.length else []).getD j 0 ∧ (if FirstP fs r then firK fs r r.length else []).getD j 0 ≤ 9 := by
  rw [if_pos h]; exact (first_at h hj).1
theorem fir2 {j : Nat} (hj : j < r.length) : cR (firK fs r r.length) (j + 1) = cR (firK fs r r.length) j ++ [if 0 ≤ (if FirstP fs r then firK fs r r.length else []).getD j 0 ∧ (if FirstP fs r then firK fs r r.length else []).getD j 0 ≤ 9 then digT.getD ((if FirstP fs r then firK fs r r.length else []).getD j 0).toNat 0 else 0] := by
  rw [if_pos (fir1 h hj), if_pos h, cR_succ _ (by rw [firK_len]; exact hj)]
theorem fir3 : FaultsP fs (cR (firK fs r r.length) r.length) ∧ (if FaultsP fs (cR (firK fs r r.length) r.length) then shRow fs (cR (firK fs r r.length) r.length) else []) = r := by
  have := cR_ok h
  exact ⟨this, by rw [if_pos this]; exact cR_shown h⟩
end
theorem shI_len (fs : List (Int × Int)) (L : List Int) : (if FaultsP fs L then shRow fs L else []).length ≤ 4611686018427387904 := by
  split
  · rename_i h
    have := h.2.1.1
    rw [shRow_len]; omega
  · simp
theorem row_snoc (L : List Int) (x : Int) : L.map (PV.int .i64) ++ [PV.int .i64 x] = (L ++ [x]).map (PV.int .i64) := by simp

theorem shownE (gs : List (Int × Int)) {k : Nat} (c : Int) (h : k < gs.length) : PCalls Tryd.prog 19 [.agg (List.take 2 (List.drop (k * 2) (fl gs))), .int .i64 c] (· = [.val (.int .i64 (if FaultP (gs.getD k (0, 0)).1 (gs.getD k (0, 0)).2 ∧ 0 ≤ c ∧ c ≤ 127 then shF (gs.getD k (0, 0)).1 (gs.getD k (0, 0)).2 c else 0)), .val (.bool (decide (FaultP (gs.getD k (0, 0)).1 (gs.getD k (0, 0)).2 ∧ 0 ≤ c ∧ c ≤ 127)))]) := by
  rw [fl_at gs k h]; exact impl_ShownCell _ _ c

set_option maxRecDepth 4000 in
theorem vFaults_c (fs gs : List (Int × Int)) (hf : fs.length ≤ 4611686018427387904) : PCalls Tryd.prog 16 [.sl fs.length (fl fs), .sl gs.length (fl gs)] (· = [.val (.bool (decide (fs = gs)))]) := by
  refine pcalls_of_code (n := 26) az Tryd.func16 (by kernel_rfl) rfl rfl (Nat.le_of_ble_eq_true rfl) (by intro t u h; simp [Tryd.f16] at h) ?_
  have hfl := fl_len fs
  have hgl := fl_len gs
  have hff := fl_flat fs
  have hgf := fl_flat gs
  refine code_seq (fun K1 hK1 => ?_)
  refine code_region ?_
  refine list_cons rfl (op_q (q_assign rfl (by decide)) ?_)
  refine list_nil ?_
  refine hK1 _ ?_; clear hK1 K1
  refine code_seq (fun K2 hK2 => ?_)
  refine code_seq (fun K3 hK3 => ?_)
  refine code_region ?_
  refine list_cons rfl (op_q (q_move rfl (by decide)) ?_)
  refine list_cons rfl (op_q (q_len_sl Tryd.underlying27 rfl rfl (by decide)) ?_)
  refine list_cons rfl (op_q (q_move rfl (by decide)) ?_)
  refine list_cons rfl (op_q (q_len_sl Tryd.underlying27 rfl rfl (by decide)) ?_)
  refine list_cons rfl (op_q (q_ne rfl rfl (by decide)) ?_)
  refine list_nil ?_
  refine hK3 _ ?_; clear hK3 K3
  refine code_cond_d rfl (fun h1 => ?_) (fun h1 => ?_)
  · skip
    (try simp only [Decidable.not_not] at h1)
    refine code_seq (fun K4 hK4 => ?_)
    refine code_region ?_
    refine list_cons rfl (op_q (q_assign rfl (by decide)) ?_)
    refine list_nil ?_
    refine hK4 _ ?_; clear hK4 K4
    refine code_ret ?_
    refine then_r ?_; clear hK2 K2
    refine ends_ret (cs := []) rfl rfl rfl rfl trivial ?_
    first
      | rw [decide_eq_true (list_eq_ofP fs gs (by omega) fun j hj => i3 j (by omega))]
      | (rw [decide_eq_false (fun e => h1 (by subst e; exact ⟨rfl, rfl, trivial⟩))]; done)
      | rw [decide_eq_false (fun e => h1 (by rw [e]))]
  · skip
    (try simp only [Decidable.not_not] at h1)
    refine code_skip ?_
    refine hK2 _ ?_; clear hK2 K2
    refine code_seq (fun K5 hK5 => ?_)
    refine code_seq (fun K6 hK6 => ?_)
    refine code_region ?_
    refine list_cons rfl (op_q (q_assign rfl (by decide)) ?_)
    refine list_nil ?_
    refine hK6 _ ?_; clear hK6 K6
    refine code_block ?_
    refine code_loop (X := Bool × Int) (fun x => [(0, .par 0 (.sl fs.length (fl fs))), (1, .par 1 (.sl gs.length (fl gs))), (4, .val (.bool x.1)), (5, .val (.int .i64 x.2))]) (fun x => 0 ≤ x.2 ∧ x.2 ≤ fs.length ∧ ∀ j, j < x.2.toNat → fs.getD j (0, 0) = gs.getD j (0, 0)) (fun x => fs.length - x.2.toNat) (_, _) (imp_covers ⟨rfl, rfl, rfl, rfl, trivial⟩) ?_ ?_
    · (try dsimp only)
      refine ⟨by omega, by omega, fun j hj => by simp at hj⟩
    · intro x hI
      obtain ⟨t4, i⟩ := x
      replace hI : 0 ≤ i ∧ i ≤ fs.length ∧ ∀ j, j < i.toNat → fs.getD j (0, 0) = gs.getD j (0, 0) := hI
      show codeT _ _ _ [(0, .par 0 (.sl fs.length (fl fs))), (1, .par 1 (.sl gs.length (fl gs))), (4, .val (.bool t4)), (5, .val (.int .i64 i))] _
      obtain ⟨i1, i2, i3⟩ := hI
      refine code_seq (fun K7 hK7 => ?_)
      refine code_seq (fun K8 hK8 => ?_)
      refine code_region ?_
      refine list_cons rfl (op_q (q_move rfl (by decide)) ?_)
      refine list_cons rfl (op_q (q_move rfl (by decide)) ?_)
      refine list_cons rfl (op_q (q_len_sl Tryd.underlying27 rfl rfl (by decide)) ?_)
      refine list_cons rfl (op_q (q_lt rfl rfl (by decide)) ?_)
      refine list_nil ?_
      refine hK8 _ ?_; clear hK8 K8
      refine code_cond_d rfl (fun h2 => ?_) (fun h2 => ?_)
      · skip
        (try simp only [Decidable.not_not] at h2)
        refine code_skip ?_
        refine hK7 _ ?_; clear hK7 K7
        refine code_seq (fun K9 hK9 => ?_)
        refine code_block ?_
        refine code_seq (fun K10 hK10 => ?_)
        refine code_draw (by kernel_rfl) (by kernel_rfl) ?_
        refine draw_q rfl (q_move rfl (by decide)) ?_
        refine draw_q rfl (q_move rfl (by decide)) ?_
        refine draw_q rfl (q_indexAddr_rd sl_27 rfl (.inl ⟨_, rfl, rfl⟩) rfl (by omega) (by omega) (by decide)) ?_
        refine draw_q rfl (q_load_rd_aggE agg_42 rfl (.inl ⟨_, rfl⟩) (by first | decide | omega | exact Nat.le_refl _ | (simp; done) | (simp; omega)) (by first | exact fl_at fs i.toNat (by omega) | exact fl_at gs i.toNat (by omega)) rfl (by decide)) ?_
        refine draw_q rfl (q_move rfl (by decide)) ?_
        refine draw_q rfl (q_move rfl (by decide)) ?_
        refine draw_q rfl (q_indexAddr_rd sl_27 rfl (.inl ⟨_, rfl, rfl⟩) rfl (by omega) (by omega) (by decide)) ?_
        refine draw_q rfl (q_load_rd_aggE agg_42 rfl (.inl ⟨_, rfl⟩) (by first | decide | omega | exact Nat.le_refl _ | (simp; done) | (simp; omega)) (by first | exact fl_at fs i.toNat (by omega) | exact fl_at gs i.toNat (by omega)) rfl (by decide)) ?_
        refine draw_q rfl (q_aggne (by decide) agg_42 eqty_42 eqg_42 rfl rfl (by first | exact ⟨_, _, rfl, ⟨_, rfl⟩, ⟨_, _, rfl, ⟨_, rfl⟩, trivial⟩⟩) (by first | exact ⟨_, _, rfl, ⟨_, rfl⟩, ⟨_, _, rfl, ⟨_, rfl⟩, trivial⟩⟩) rfl rfl (by decide)) ?_
        refine draw_nil ?_
        refine hK10 _ ?_; clear hK10 K10
        refine codeT.imp (σ' := [(0, _), (1, _), (4, _), (5, _), (25, _)]) ?_ (imp_covers ⟨rfl, rfl, rfl, rfl, rfl, trivial⟩)
        refine code_cond_d rfl (fun h3 => ?_) (fun h3 => ?_)
        · skip
          (try simp only [Decidable.not_not] at h3)
          refine code_seq (fun K11 hK11 => ?_)
          refine code_region ?_
          refine list_cons rfl (op_q (q_assign rfl (by decide)) ?_)
          refine list_nil ?_
          refine hK11 _ ?_; clear hK11 K11
          refine code_ret ?_
          refine blk_r ?_
          refine then_r ?_; clear hK9 K9
          refine then_r ?_
          refine blk_r ?_
          refine then_r ?_; clear hK5 K5
          refine ends_ret (cs := []) rfl rfl rfl rfl trivial ?_
          first
            | rw [decide_eq_true (list_eq_ofP fs gs (by omega) fun j hj => i3 j (by omega))]
            | (rw [decide_eq_false (fun e => h3 (by subst e; exact ⟨rfl, rfl, trivial⟩))]; done)
            | rw [decide_eq_false (fun e => h3 (by rw [e]))]
        · skip
          (try simp only [Decidable.not_not] at h3)
          refine code_skip ?_
          refine blk_n ?_
          refine hK9 _ ?_; clear hK9 K9
          refine code_region ?_
          refine list_cons rfl (op_q (q_move rfl (by decide)) ?_)
          refine list_cons rfl (op_q (by first | exact q_addI rfl rfl (by decide) (by omega) (by omega) | exact q_ib rfl rfl rfl (by decide)) ?_)
          refine list_cons rfl (op_q (q_assign rfl (by decide)) ?_)
          refine list_nil ?_
          refine then_n ⟨(_, _), imp_covers ⟨rfl, rfl, rfl, rfl, trivial⟩, ?_, ?_⟩
          · (try dsimp only)
            refine ⟨by omega, by omega, fun j hj => ?_⟩
            by_cases e : j = i.toNat
            · subst e
              have hq := h3
              simp only [EqP, Eq1] at hq
              exact Prod.ext hq.1 hq.2.1
            · exact i3 j (by omega)
          · (try dsimp only); omega
      · skip
        (try simp only [Decidable.not_not] at h2)
        refine code_exit ?_
        refine then_x ?_; clear hK7 K7
        refine then_x ?_
        refine blk_hit ?_
        refine hK5 _ ?_; clear hK5 K5
        refine code_seq (fun K12 hK12 => ?_)
        refine code_region ?_
        refine list_cons rfl (op_q (q_assign rfl (by decide)) ?_)
        refine list_nil ?_
        refine hK12 _ ?_; clear hK12 K12
        refine code_ret ?_
        refine ends_ret (cs := []) rfl rfl rfl rfl trivial ?_
        first
          | rw [decide_eq_true (list_eq_ofP fs gs (by omega) fun j hj => i3 j (by omega))]
          | (rw [decide_eq_false (fun e => h2 (by subst e; exact ⟨rfl, rfl, trivial⟩))]; done)
          | rw [decide_eq_false (fun e => h2 (by rw [e]))]

end Go.Proofs.YtjbbijlbenkgcaaDoor
