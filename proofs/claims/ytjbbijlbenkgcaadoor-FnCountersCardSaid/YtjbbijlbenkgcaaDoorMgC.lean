/- Contracts of functions, walked over the pure layer; each says for which arguments. -/
import Derived.Test.YtjbbijlbenkgcaaDoorRows
import Derived.Test.YtjbbijlbenkgcaaDoorPwR
import Derived.Test.YtjbbijlbenkgcaaDoorTf
import Derived.Test.YtjbbijlbenkgcaaDoorSp
import Derived.Test.YtjbbijlbenkgcaaDoorS4
import Derived.Test.YtjbbijlbenkgcaaDoorShelf
import Derived.Test.YtjbbijlbenkgcaaDoorIm
import Derived.Test.YtjbbijlbenkgcaaDoorI4
import Derived.Test.YtjbbijlbenkgcaaDoorW4s
import Derived.Test.YtjbbijlbenkgcaaDoorI4r
import Derived.Test.YtjbbijlbenkgcaaDoorI4w
import Derived.Test.YtjbbijlbenkgcaaDoorMc
namespace Go.Proofs.YtjbbijlbenkgcaaDoor.DrTy
open Go.RowKit

def az (u : TypeId) : Nat := match u with  | _ => 0

theorem fi_74_1 : FiTy Tryd.prog 74 1 1 := fiTy_of (k := 1) Tryd.underlying74 rfl rfl (by kernel_rfl) (by decide)
theorem one_3 : OneTy Tryd.prog 3 := oneTy_of Tryd.underlying3 rfl (by kernel_rfl)
theorem fi_74_0 : FiTy Tryd.prog 74 0 0 := fiTy_of (k := 1) Tryd.underlying74 rfl rfl (by kernel_rfl) (by decide)
theorem one_22 : OneTy Tryd.prog 22 := oneTy_of Tryd.underlying22 rfl (by kernel_rfl)
theorem sl_22 : SlTy Tryd.prog 22 5 1 1 [.int .u8 0] := slTy_of Tryd.underlying22 (z := .int .u8 0) (by kernel_rfl) rfl (by decide) (by decide) rfl
theorem one_5 : OneTy Tryd.prog 5 := oneTy_of Tryd.underlying5 rfl (by kernel_rfl)
theorem fi_74_2 : FiTy Tryd.prog 74 2 2 := fiTy_of (k := 1) Tryd.underlying74 rfl rfl (by kernel_rfl) (by decide)
theorem one_72 : OneTy Tryd.prog 72 := oneTy_of Tryd.underlying72 rfl (by kernel_rfl)
theorem sl_24 : SlTy Tryd.prog 24 3 1 8 [.int .i64 0] := slTy_of Tryd.underlying24 (z := .int .i64 0) (by kernel_rfl) rfl (by decide) (by decide) rfl

end Go.Proofs.YtjbbijlbenkgcaaDoor.DrTy
namespace Go.Proofs.YtjbbijlbenkgcaaDoor
open Go.RowKit DrTy
set_option linter.unusedVariables false
set_option linter.unusedSimpArgs false

theorem iand_255 (x : Int) : 0 ≤ iand .u64 x 255 ∧ iand .u64 x 255 ≤ 255 := by
  unfold iand
  rw [BitVec.toNat_and, show (BitVec.ofInt IntKind.u64.bits 255).toNat = 255 from rfl]
  have h : (BitVec.ofInt IntKind.u64.bits x).toNat &&& 255 ≤ 255 := Nat.and_le_right
  rw [IntWalk.u64_in _ ⟨by omega, by omega⟩]
  omega
theorem getD_mem {l : List Int} {k : Nat} (h : k < l.length) : l.getD k 0 ∈ l := by
  rw [List.getD_eq_getElem?_getD, List.getElem?_eq_getElem h]; exact List.getElem_mem h
theorem p2_64 {k : Nat} (h : k ≤ 6) : p2 k ≤ 64 := by
  have : p2 k ≤ p2 6 := Nat.pow_le_pow_right (by omega) h
  exact this
theorem xor7c {x y : Int} (hx : 0 ≤ x ∧ x ≤ 127) (hy : 0 ≤ y ∧ y ≤ 127) : 0 ≤ ((x.toNat ^^^ y.toNat : Nat) : Int) ∧ ((x.toNat ^^^ y.toNat : Nat) : Int) ≤ 127 := by
  have h := @Nat.xor_lt_two_pow x.toNat y.toNat 7 (by omega) (by omega)
  omega
theorem iandw_255 (x : Int) : 0 ≤ IntKind.i64.wrap (iand .u64 x 255) ∧ IntKind.i64.wrap (iand .u64 x 255) ≤ 255 := by
  have h := iand_255 x
  rw [wrap_in (by omega) (by omega)]; exact h

set_option maxRecDepth 4000 in
theorem next_c (code : List UInt8) (hcode : code.length ≤ 9223372036854775807) (a s : Int) (ha : 0 ≤ a) (ha2 : a ≤ 4611686018427387904) : MCalls Tryd.prog 117 false (some (.box 74 [.sl code.length (bytesP code), .int .i64 a, .int .u64 s])) [] fun rs cs => ∃ b s2 : Int, 0 ≤ b ∧ b ≤ 255 ∧ rs = [.val (.int .i64 b)] ∧ cs = [.sl code.length (bytesP code), .int .i64 (a + 1), .int .u64 s2] := by
  refine mcalls_of_code (n := 62) az Tryd.func117 (by kernel_rfl) rfl rfl (Nat.le_of_ble_eq_true rfl) (by intro t u h; simp [Tryd.f117] at h) ?_
  refine code_seq (fun K1 hK1 => ?_)
  refine code_region ?_
  refine list_cons rfl (op_q (q_assign rfl (by decide)) ?_)
  refine list_nil ?_
  refine hK1 _ ?_; clear hK1 K1
  refine code_seq (fun K2 hK2 => ?_)
  refine code_region ?_
  refine list_cons rfl (op_q (q_assign rfl (by decide)) ?_)
  refine list_nil ?_
  refine hK2 _ ?_; clear hK2 K2
  refine code_seq (fun K3 hK3 => ?_)
  refine code_seq (fun K4 hK4 => ?_)
  refine code_draw (by kernel_rfl) (by kernel_rfl) ?_
  refine draw_q rfl (q_move rfl (by decide)) ?_
  refine draw_q rfl (q_nilCheck rfl rfl (by decide)) ?_
  refine draw_q rfl (q_fieldAddr fi_74_1 rfl rfl (by decide)) ?_
  refine draw_q rfl (q_load one_3 0 rfl rfl rfl (by first | rfl | exact get_map1 _ 0 _ (by first | omega | (simp; omega))) (by decide)) ?_
  refine draw_q rfl (q_move rfl (by decide)) ?_
  refine draw_q rfl (q_nilCheck rfl rfl (by decide)) ?_
  refine draw_q rfl (q_fieldAddr fi_74_0 rfl rfl (by decide)) ?_
  refine draw_q rfl (q_load one_22 0 rfl rfl rfl (by first | rfl | exact get_map1 _ [] _ (by first | omega | (simp; omega))) (by decide)) ?_
  refine draw_q rfl (q_len_sl Tryd.underlying22 rfl rfl (by decide)) ?_
  refine draw_q rfl (q_lt rfl rfl (by decide)) ?_
  refine draw_nil ?_
  refine hK4 _ ?_; clear hK4 K4
  refine codeT.imp (σ' := [(0, _), (2, _), (3, _), (13, _)]) ?_ (imp_covers ⟨rfl, rfl, rfl, rfl, trivial⟩)
  refine code_cond_d rfl (fun h1 => ?_) (fun h1 => ?_)
  · skip
    (try simp only [Decidable.not_not] at h1)
    refine code_draw (by kernel_rfl) (by kernel_rfl) ?_
    refine draw_q rfl (q_move rfl (by decide)) ?_
    refine draw_q rfl (q_nilCheck rfl rfl (by decide)) ?_
    refine draw_q rfl (q_fieldAddr fi_74_0 rfl rfl (by decide)) ?_
    refine draw_q rfl (q_load one_22 0 rfl rfl rfl (by first | rfl | exact get_map1 _ [] _ (by first | omega | (simp; omega))) (by decide)) ?_
    refine draw_q rfl (q_move rfl (by decide)) ?_
    refine draw_q rfl (q_nilCheck rfl rfl (by decide)) ?_
    refine draw_q rfl (q_fieldAddr fi_74_1 rfl rfl (by decide)) ?_
    refine draw_q rfl (q_load one_3 0 rfl rfl rfl (by first | rfl | exact get_map1 _ 0 _ (by first | omega | (simp; omega))) (by decide)) ?_
    refine draw_q rfl (q_indexAddr_rd sl_22 rfl (.inr ⟨_, rfl, rfl⟩) rfl (by omega) (by omega) (by decide)) ?_
    refine draw_q rfl (q_load_rd one_5 rfl (.inr ⟨_, (by first | rfl | exact congrArg (SV.rbor _) (drop_map1 _ 0 _ (by first | omega | (simp; omega)))), rfl⟩) (by decide)) ?_
    refine draw_q rfl (by first | exact q_convB (by rw [Tryd.underlying5]; rfl) Tryd.underlying3 rfl (by decide) | exact q_convI (by rw [Tryd.underlying5]; rfl) Tryd.underlying3 rfl (by decide) (by omega) (by omega) | exact q_conv (by rw [Tryd.underlying5]; rfl) Tryd.underlying3 rfl (by decide)) ?_
    refine draw_q rfl (q_assign rfl (by decide)) ?_
    refine draw_nil ?_
    refine hK3 _ ?_; clear hK3 K3
    refine codeT.imp (σ' := [(0, _), (2, _), (3, _)]) ?_ (imp_covers ⟨rfl, rfl, rfl, trivial⟩)
    refine code_seq (fun K5 hK5 => ?_)
    refine code_region ?_
    refine list_cons rfl (op_q (q_move rfl (by decide)) ?_)
    refine list_cons rfl (op_q (q_nilCheck rfl rfl (by decide)) ?_)
    refine list_cons rfl (op_q (q_fieldAddr fi_74_1 rfl rfl (by decide)) ?_)
    refine list_cons rfl (op_q (q_load one_3 0 rfl rfl rfl (by first | rfl | exact get_map1 _ 0 _ (by first | omega | (simp; omega))) (by decide)) ?_)
    refine list_cons rfl (op_q (by first | exact q_addI rfl rfl (by decide) (by omega) (by omega) | exact q_ib rfl rfl rfl (by decide)) ?_)
    refine list_cons rfl (op_q (q_nilCheck rfl rfl (by decide)) ?_)
    refine list_cons rfl (op_q (q_fieldAddr fi_74_1 rfl rfl (by decide)) ?_)
    refine list_cons rfl (op_store (one_3).2 0 [0, 25, 26, 30] (by intro t ht; simp only [List.mem_cons, List.not_mem_nil, or_false] at ht; rcases ht with rfl | rfl | rfl | rfl <;> rfl) (.inl rfl) rfl rfl rfl rfl rfl rfl (by first | decide | omega | exact Nat.le_refl _ | (simp; done) | (simp; omega)) (by decide) rfl ?_)
    refine list_nil ?_
    refine hK5 _ ?_; clear hK5 K5
    refine codeT.imp (σ' := [(0, _), (2, _), (3, _)]) ?_ (imp_covers ⟨rfl, rfl, rfl, trivial⟩)
    refine code_seq (fun K6 hK6 => ?_)
    refine code_region ?_
    refine list_cons rfl (op_q (q_move rfl (by decide)) ?_)
    refine list_cons rfl (op_q (q_move rfl (by decide)) ?_)
    refine list_cons rfl (op_q (q_nilCheck rfl rfl (by decide)) ?_)
    refine list_cons rfl (op_q (q_fieldAddr fi_74_2 rfl rfl (by decide)) ?_)
    refine list_cons rfl (op_q (q_load one_72 0 rfl rfl rfl (by first | rfl | exact get_map1 _ 0 _ (by first | omega | (simp; omega))) (by decide)) ?_)
    refine list_cons rfl (op_q (q_ib rfl rfl rfl (by decide)) ?_)
    refine list_cons rfl (op_q (q_move rfl (by decide)) ?_)
    refine list_cons rfl (op_q (by first | exact q_convU (by rw [Tryd.underlying3]; rfl) Tryd.underlying72 rfl (by decide) (by omega) (by omega) | exact q_conv (by rw [Tryd.underlying3]; rfl) Tryd.underlying72 rfl (by decide)) ?_)
    refine list_cons rfl (op_q (q_ib rfl rfl rfl (by decide)) ?_)
    refine list_cons rfl (op_q (q_ib rfl rfl rfl (by decide)) ?_)
    refine list_cons rfl (op_q (q_nilCheck rfl rfl (by decide)) ?_)
    refine list_cons rfl (op_q (q_fieldAddr fi_74_2 rfl rfl (by decide)) ?_)
    refine list_cons rfl (op_store (one_72).2 0 [0, 32, 33, 34, 42] (by intro t ht; simp only [List.mem_cons, List.not_mem_nil, or_false] at ht; rcases ht with rfl | rfl | rfl | rfl | rfl <;> rfl) (.inl rfl) rfl rfl rfl rfl rfl rfl (by first | decide | omega | exact Nat.le_refl _ | (simp; done) | (simp; omega)) (by decide) rfl ?_)
    refine list_nil ?_
    refine hK6 _ ?_; clear hK6 K6
    refine codeT.imp (σ' := [(0, _), (2, _), (3, _)]) ?_ (imp_covers ⟨rfl, rfl, rfl, trivial⟩)
    refine code_seq (fun K7 hK7 => ?_)
    refine code_seq (fun K8 hK8 => ?_)
    refine code_draw (by kernel_rfl) (by kernel_rfl) ?_
    refine draw_q rfl (q_move rfl (by decide)) ?_
    refine draw_q rfl (q_nilCheck rfl rfl (by decide)) ?_
    refine draw_q rfl (q_fieldAddr fi_74_1 rfl rfl (by decide)) ?_
    refine draw_q rfl (q_load one_3 0 rfl rfl rfl (by first | rfl | exact get_map1 _ 0 _ (by first | omega | (simp; omega))) (by decide)) ?_
    refine draw_q rfl (q_move rfl (by decide)) ?_
    refine draw_q rfl (q_nilCheck rfl rfl (by decide)) ?_
    refine draw_q rfl (q_fieldAddr fi_74_0 rfl rfl (by decide)) ?_
    refine draw_q rfl (q_load one_22 0 rfl rfl rfl (by first | rfl | exact get_map1 _ [] _ (by first | omega | (simp; omega))) (by decide)) ?_
    refine draw_q rfl (q_len_sl Tryd.underlying22 rfl rfl (by decide)) ?_
    refine draw_q rfl (q_le rfl rfl (by decide)) ?_
    refine draw_nil ?_
    refine hK8 _ ?_; clear hK8 K8
    refine codeT.imp (σ' := [(0, _), (2, _), (3, _), (53, _)]) ?_ (imp_covers ⟨rfl, rfl, rfl, rfl, trivial⟩)
    refine code_cond_d rfl (fun h2 => ?_) (fun h2 => ?_)
    · skip
      (try simp only [Decidable.not_not] at h2)
      refine code_seq (fun K9 hK9 => ?_)
      refine code_region ?_
      refine list_cons rfl (op_q (q_move rfl (by decide)) ?_)
      refine list_cons rfl (op_q (q_assign rfl (by decide)) ?_)
      refine list_nil ?_
      refine hK9 _ ?_; clear hK9 K9
      refine code_ret ?_
      refine then_r ?_; clear hK7 K7
      refine ends_ret (cs := _) rfl rfl rfl rfl rfl ?_
      first | exact ⟨_, _, (iand_255 _).1, (iand_255 _).2, rfl, rfl⟩ | exact ⟨_, _, (iandw_255 _).1, (iandw_255 _).2, rfl, rfl⟩ | exact ⟨_, _, by have := UInt8.toNat_lt (code.getD a.toNat 0); omega, by have := UInt8.toNat_lt (code.getD a.toNat 0); omega, rfl, rfl⟩ | exact ⟨_, _, by omega, by omega, rfl, rfl⟩
    · skip
      (try simp only [Decidable.not_not] at h2)
      refine code_skip ?_
      refine hK7 _ ?_; clear hK7 K7
      refine code_seq (fun K10 hK10 => ?_)
      refine code_region ?_
      refine list_cons rfl (op_q (q_move rfl (by decide)) ?_)
      refine list_cons rfl (op_q (q_nilCheck rfl rfl (by decide)) ?_)
      refine list_cons rfl (op_q (q_fieldAddr fi_74_2 rfl rfl (by decide)) ?_)
      refine list_cons rfl (op_q (q_load one_72 0 rfl rfl rfl (by first | rfl | exact get_map1 _ 0 _ (by first | omega | (simp; omega))) (by decide)) ?_)
      refine list_cons rfl (op_q (q_shr rfl rfl (by omega) (by decide)) ?_)
      refine list_cons rfl (op_q (q_ib rfl rfl rfl (by decide)) ?_)
      refine list_cons rfl (op_q (by first | exact q_convB (by rw [Tryd.underlying72]; rfl) Tryd.underlying3 rfl (by decide) | exact q_convI (by rw [Tryd.underlying72]; rfl) Tryd.underlying3 rfl (by decide) (by omega) (by omega) | exact q_conv (by rw [Tryd.underlying72]; rfl) Tryd.underlying3 rfl (by decide)) ?_)
      refine list_cons rfl (op_q (q_assign rfl (by decide)) ?_)
      refine list_nil ?_
      refine hK10 _ ?_; clear hK10 K10
      refine codeT.imp (σ' := [(0, _), (2, _), (3, _)]) ?_ (imp_covers ⟨rfl, rfl, rfl, trivial⟩)
      refine code_ret ?_
      refine ends_ret (cs := _) rfl rfl rfl rfl rfl ?_
      first | exact ⟨_, _, (iand_255 _).1, (iand_255 _).2, rfl, rfl⟩ | exact ⟨_, _, (iandw_255 _).1, (iandw_255 _).2, rfl, rfl⟩ | exact ⟨_, _, by have := UInt8.toNat_lt (code.getD a.toNat 0); omega, by have := UInt8.toNat_lt (code.getD a.toNat 0); omega, rfl, rfl⟩ | exact ⟨_, _, by omega, by omega, rfl, rfl⟩
  · skip
    (try simp only [Decidable.not_not] at h1)
    refine code_skip ?_
    refine hK3 _ ?_; clear hK3 K3
    refine code_seq (fun K11 hK11 => ?_)
    refine code_region ?_
    refine list_cons rfl (op_q (q_move rfl (by decide)) ?_)
    refine list_cons rfl (op_q (q_nilCheck rfl rfl (by decide)) ?_)
    refine list_cons rfl (op_q (q_fieldAddr fi_74_1 rfl rfl (by decide)) ?_)
    refine list_cons rfl (op_q (q_load one_3 0 rfl rfl rfl (by first | rfl | exact get_map1 _ 0 _ (by first | omega | (simp; omega))) (by decide)) ?_)
    refine list_cons rfl (op_q (by first | exact q_addI rfl rfl (by decide) (by omega) (by omega) | exact q_ib rfl rfl rfl (by decide)) ?_)
    refine list_cons rfl (op_q (q_nilCheck rfl rfl (by decide)) ?_)
    refine list_cons rfl (op_q (q_fieldAddr fi_74_1 rfl rfl (by decide)) ?_)
    refine list_cons rfl (op_store (one_3).2 0 [0, 25, 26, 30] (by intro t ht; simp only [List.mem_cons, List.not_mem_nil, or_false] at ht; rcases ht with rfl | rfl | rfl | rfl <;> rfl) (.inl rfl) rfl rfl rfl rfl rfl rfl (by first | decide | omega | exact Nat.le_refl _ | (simp; done) | (simp; omega)) (by decide) rfl ?_)
    refine list_nil ?_
    refine hK11 _ ?_; clear hK11 K11
    refine codeT.imp (σ' := [(0, _), (2, _), (3, _)]) ?_ (imp_covers ⟨rfl, rfl, rfl, trivial⟩)
    refine code_seq (fun K12 hK12 => ?_)
    refine code_region ?_
    refine list_cons rfl (op_q (q_move rfl (by decide)) ?_)
    refine list_cons rfl (op_q (q_move rfl (by decide)) ?_)
    refine list_cons rfl (op_q (q_nilCheck rfl rfl (by decide)) ?_)
    refine list_cons rfl (op_q (q_fieldAddr fi_74_2 rfl rfl (by decide)) ?_)
    refine list_cons rfl (op_q (q_load one_72 0 rfl rfl rfl (by first | rfl | exact get_map1 _ 0 _ (by first | omega | (simp; omega))) (by decide)) ?_)
    refine list_cons rfl (op_q (q_ib rfl rfl rfl (by decide)) ?_)
    refine list_cons rfl (op_q (q_move rfl (by decide)) ?_)
    refine list_cons rfl (op_q (by first | exact q_convU (by rw [Tryd.underlying3]; rfl) Tryd.underlying72 rfl (by decide) (by omega) (by omega) | exact q_conv (by rw [Tryd.underlying3]; rfl) Tryd.underlying72 rfl (by decide)) ?_)
    refine list_cons rfl (op_q (q_ib rfl rfl rfl (by decide)) ?_)
    refine list_cons rfl (op_q (q_ib rfl rfl rfl (by decide)) ?_)
    refine list_cons rfl (op_q (q_nilCheck rfl rfl (by decide)) ?_)
    refine list_cons rfl (op_q (q_fieldAddr fi_74_2 rfl rfl (by decide)) ?_)
    refine list_cons rfl (op_store (one_72).2 0 [0, 32, 33, 34, 42] (by intro t ht; simp only [List.mem_cons, List.not_mem_nil, or_false] at ht; rcases ht with rfl | rfl | rfl | rfl | rfl <;> rfl) (.inl rfl) rfl rfl rfl rfl rfl rfl (by first | decide | omega | exact Nat.le_refl _ | (simp; done) | (simp; omega)) (by decide) rfl ?_)
    refine list_nil ?_
    refine hK12 _ ?_; clear hK12 K12
    refine codeT.imp (σ' := [(0, _), (2, _), (3, _)]) ?_ (imp_covers ⟨rfl, rfl, rfl, trivial⟩)
    refine code_seq (fun K13 hK13 => ?_)
    refine code_seq (fun K14 hK14 => ?_)
    refine code_draw (by kernel_rfl) (by kernel_rfl) ?_
    refine draw_q rfl (q_move rfl (by decide)) ?_
    refine draw_q rfl (q_nilCheck rfl rfl (by decide)) ?_
    refine draw_q rfl (q_fieldAddr fi_74_1 rfl rfl (by decide)) ?_
    refine draw_q rfl (q_load one_3 0 rfl rfl rfl (by first | rfl | exact get_map1 _ 0 _ (by first | omega | (simp; omega))) (by decide)) ?_
    refine draw_q rfl (q_move rfl (by decide)) ?_
    refine draw_q rfl (q_nilCheck rfl rfl (by decide)) ?_
    refine draw_q rfl (q_fieldAddr fi_74_0 rfl rfl (by decide)) ?_
    refine draw_q rfl (q_load one_22 0 rfl rfl rfl (by first | rfl | exact get_map1 _ [] _ (by first | omega | (simp; omega))) (by decide)) ?_
    refine draw_q rfl (q_len_sl Tryd.underlying22 rfl rfl (by decide)) ?_
    refine draw_q rfl (q_le rfl rfl (by decide)) ?_
    refine draw_nil ?_
    refine hK14 _ ?_; clear hK14 K14
    refine codeT.imp (σ' := [(0, _), (2, _), (3, _), (53, _)]) ?_ (imp_covers ⟨rfl, rfl, rfl, rfl, trivial⟩)
    refine code_cond_d rfl (fun h3 => ?_) (fun h3 => ?_)
    · skip
      (try simp only [Decidable.not_not] at h3)
      refine code_seq (fun K15 hK15 => ?_)
      refine code_region ?_
      refine list_cons rfl (op_q (q_move rfl (by decide)) ?_)
      refine list_cons rfl (op_q (q_assign rfl (by decide)) ?_)
      refine list_nil ?_
      refine hK15 _ ?_; clear hK15 K15
      refine code_ret ?_
      refine then_r ?_; clear hK13 K13
      refine ends_ret (cs := _) rfl rfl rfl rfl rfl ?_
      first | exact ⟨_, _, (iand_255 _).1, (iand_255 _).2, rfl, rfl⟩ | exact ⟨_, _, (iandw_255 _).1, (iandw_255 _).2, rfl, rfl⟩ | exact ⟨_, _, by have := UInt8.toNat_lt (code.getD a.toNat 0); omega, by have := UInt8.toNat_lt (code.getD a.toNat 0); omega, rfl, rfl⟩ | exact ⟨_, _, by omega, by omega, rfl, rfl⟩
    · skip
      (try simp only [Decidable.not_not] at h3)
      refine code_skip ?_
      refine hK13 _ ?_; clear hK13 K13
      refine code_seq (fun K16 hK16 => ?_)
      refine code_region ?_
      refine list_cons rfl (op_q (q_move rfl (by decide)) ?_)
      refine list_cons rfl (op_q (q_nilCheck rfl rfl (by decide)) ?_)
      refine list_cons rfl (op_q (q_fieldAddr fi_74_2 rfl rfl (by decide)) ?_)
      refine list_cons rfl (op_q (q_load one_72 0 rfl rfl rfl (by first | rfl | exact get_map1 _ 0 _ (by first | omega | (simp; omega))) (by decide)) ?_)
      refine list_cons rfl (op_q (q_shr rfl rfl (by omega) (by decide)) ?_)
      refine list_cons rfl (op_q (q_ib rfl rfl rfl (by decide)) ?_)
      refine list_cons rfl (op_q (by first | exact q_convB (by rw [Tryd.underlying72]; rfl) Tryd.underlying3 rfl (by decide) | exact q_convI (by rw [Tryd.underlying72]; rfl) Tryd.underlying3 rfl (by decide) (by omega) (by omega) | exact q_conv (by rw [Tryd.underlying72]; rfl) Tryd.underlying3 rfl (by decide)) ?_)
      refine list_cons rfl (op_q (q_assign rfl (by decide)) ?_)
      refine list_nil ?_
      refine hK16 _ ?_; clear hK16 K16
      refine codeT.imp (σ' := [(0, _), (2, _), (3, _)]) ?_ (imp_covers ⟨rfl, rfl, rfl, trivial⟩)
      refine code_ret ?_
      refine ends_ret (cs := _) rfl rfl rfl rfl rfl ?_
      first | exact ⟨_, _, (iand_255 _).1, (iand_255 _).2, rfl, rfl⟩ | exact ⟨_, _, (iandw_255 _).1, (iandw_255 _).2, rfl, rfl⟩ | exact ⟨_, _, by have := UInt8.toNat_lt (code.getD a.toNat 0); omega, by have := UInt8.toNat_lt (code.getD a.toNat 0); omega, rfl, rfl⟩ | exact ⟨_, _, by omega, by omega, rfl, rfl⟩

set_option maxRecDepth 4000 in
theorem pick_c (code : List UInt8) (hcode : code.length ≤ 9223372036854775807) (a s : Int) (ha : 0 ≤ a) (ha2 : a ≤ 4611686018427387900) (k : Int) : MCalls Tryd.prog 67 false (some (.box 74 [.sl code.length (bytesP code), .int .i64 a, .int .u64 s])) [.int .i64 k] fun rs cs => ∃ b a2 s2 : Int, 0 ≤ b ∧ b < max k 1 ∧ a ≤ a2 ∧ a2 ≤ a + 2 ∧ rs = [.val (.int .i64 b)] ∧ cs = [.sl code.length (bytesP code), .int .i64 a2, .int .u64 s2] := by
  refine mcalls_of_code (n := 20) az Tryd.func67 (by kernel_rfl) rfl rfl (Nat.le_of_ble_eq_true rfl) (by intro t u h; simp [Tryd.f67] at h) ?_
  refine code_seq (fun K1 hK1 => ?_)
  refine code_region ?_
  refine list_cons rfl (op_q (q_assign rfl (by decide)) ?_)
  refine list_nil ?_
  refine hK1 _ ?_; clear hK1 K1
  refine code_seq (fun K2 hK2 => ?_)
  refine code_seq (fun K3 hK3 => ?_)
  refine code_region ?_
  refine list_cons rfl (op_q (q_move rfl (by decide)) ?_)
  refine list_cons rfl (op_q (q_le rfl rfl (by decide)) ?_)
  refine list_nil ?_
  refine hK3 _ ?_; clear hK3 K3
  refine code_cond_d rfl (fun h1 => ?_) (fun h1 => ?_)
  · skip
    (try simp only [Decidable.not_not] at h1)
    refine code_seq (fun K4 hK4 => ?_)
    refine code_region ?_
    refine list_cons rfl (op_q (q_assign rfl (by decide)) ?_)
    refine list_nil ?_
    refine hK4 _ ?_; clear hK4 K4
    refine code_ret ?_
    refine then_r ?_; clear hK2 K2
    refine ends_ret (cs := _) rfl rfl rfl rfl rfl ?_
    exact ⟨0, a, s, by omega, by omega, by omega, by omega, rfl, rfl⟩
  · skip
    (try simp only [Decidable.not_not] at h1)
    refine code_skip ?_
    refine hK2 _ ?_; clear hK2 K2
    refine code_seq (fun K5 hK5 => ?_)
    refine code_region ?_
    refine list_cons rfl (op_q (q_move rfl (by decide)) ?_)
    refine list_cons rfl (op_callM (next_c code ?_ _ _ ?_ ?_) (.tmp 8) 2000 [0, 8] [] _ rfl rfl (by intro y hy; cases hy; exact ⟨rfl, (by intro t ht; simp only [List.mem_cons, List.not_mem_nil, or_false] at ht; rcases ht with rfl | rfl <;> rfl), (by intro s hs; simp only [List.mem_cons, List.not_mem_nil, or_false] at hs; (try cases hs))⟩) (by decide) (by decide) (by decide) rfl (fun _ => rfl) ?_)
    · first | assumption | omega | (simp; omega)
    · first | assumption | omega | (simp; omega)
    · first | assumption | omega | (simp; omega)
    rintro _ _ ⟨b, s2, hb0, hb1, rfl, rfl⟩
    refine list_cons rfl (op_q (q_assign rfl (by decide)) ?_)
    refine list_nil ?_
    refine hK5 _ ?_; clear hK5 K5
    refine codeT.imp (σ' := [(0, _), (1, _), (4, _), (5, _)]) ?_ (imp_covers ⟨rfl, rfl, rfl, rfl, trivial⟩)
    refine code_seq (fun K6 hK6 => ?_)
    refine code_seq (fun K7 hK7 => ?_)
    refine code_region ?_
    refine list_cons rfl (op_q (q_move rfl (by decide)) ?_)
    refine list_cons rfl (op_q (q_gt rfl rfl (by decide)) ?_)
    refine list_nil ?_
    refine hK7 _ ?_; clear hK7 K7
    refine code_cond_d rfl (fun h2 => ?_) (fun h2 => ?_)
    · skip
      (try simp only [Decidable.not_not] at h2)
      refine code_region ?_
      refine list_cons rfl (op_q (q_move rfl (by decide)) ?_)
      refine list_cons rfl (op_q (by first | exact q_mulI rfl rfl (by decide) (by omega) (by omega) | exact q_ib rfl rfl rfl (by decide)) ?_)
      refine list_cons rfl (op_q (q_move rfl (by decide)) ?_)
      refine list_cons rfl (op_callM (next_c code ?_ _ _ ?_ ?_) (.tmp 14) 2000 [0, 14] [] _ rfl rfl (by intro y hy; cases hy; exact ⟨rfl, (by intro t ht; simp only [List.mem_cons, List.not_mem_nil, or_false] at ht; rcases ht with rfl | rfl <;> rfl), (by intro s hs; simp only [List.mem_cons, List.not_mem_nil, or_false] at hs; (try cases hs))⟩) (by decide) (by decide) (by decide) rfl (fun _ => rfl) ?_)
      · first | assumption | omega | (simp; omega)
      · first | assumption | omega | (simp; omega)
      · first | assumption | omega | (simp; omega)
      rintro _ _ ⟨b2, s3, hc0, hc1, rfl, rfl⟩
      refine list_cons rfl (op_q (by first | exact q_addI rfl rfl (by decide) (by omega) (by omega) | exact q_ib rfl rfl rfl (by decide)) ?_)
      refine list_cons rfl (op_q (q_assign rfl (by decide)) ?_)
      refine list_nil ?_
      refine hK6 _ ?_; clear hK6 K6
      refine codeT.imp (σ' := [(0, _), (1, _), (4, _), (5, _)]) ?_ (imp_covers ⟨rfl, rfl, rfl, rfl, trivial⟩)
      refine code_seq (fun K8 hK8 => ?_)
      refine code_region ?_
      refine list_cons rfl (op_q (q_move rfl (by decide)) ?_)
      refine list_cons rfl (op_q (q_move rfl (by decide)) ?_)
      refine list_cons rfl (op_q (by first | exact q_remI rfl rfl (by decide) (by omega) (by omega) | exact q_rem rfl rfl (by omega) (by decide)) ?_)
      refine list_cons rfl (op_q (q_assign rfl (by decide)) ?_)
      refine list_nil ?_
      refine hK8 _ ?_; clear hK8 K8
      refine code_ret ?_
      refine ends_ret (cs := _) rfl rfl rfl rfl rfl ?_
      exact ⟨_, _, _, Int.emod_nonneg _ (by omega), by have := Int.emod_lt_of_pos (b * 256 + b2) (show 0 < k by omega); omega, by omega, by omega, rfl, rfl⟩
    · skip
      (try simp only [Decidable.not_not] at h2)
      refine code_skip ?_
      refine hK6 _ ?_; clear hK6 K6
      refine code_seq (fun K9 hK9 => ?_)
      refine code_region ?_
      refine list_cons rfl (op_q (q_move rfl (by decide)) ?_)
      refine list_cons rfl (op_q (q_move rfl (by decide)) ?_)
      refine list_cons rfl (op_q (by first | exact q_remI rfl rfl (by decide) (by omega) (by omega) | exact q_rem rfl rfl (by omega) (by decide)) ?_)
      refine list_cons rfl (op_q (q_assign rfl (by decide)) ?_)
      refine list_nil ?_
      refine hK9 _ ?_; clear hK9 K9
      refine code_ret ?_
      refine ends_ret (cs := _) rfl rfl rfl rfl rfl ?_
      exact ⟨_, _, _, Int.emod_nonneg _ (by omega), by have := Int.emod_lt_of_pos b (show 0 < k by omega); omega, by omega, by omega, rfl, rfl⟩

set_option maxRecDepth 4000 in
theorem one_c (code : List UInt8) (hcode : code.length ≤ 9223372036854775807) (a s : Int) (ha : 0 ≤ a) (ha2 : a ≤ 4611686018427387900) (k : Int) : MCalls Tryd.prog 80 false (some (.box 74 [.sl code.length (bytesP code), .int .i64 a, .int .u64 s])) [.int .i64 k] fun rs cs => ∃ (o a2 s2 : Int), a ≤ a2 ∧ a2 ≤ a + 2 ∧ rs = [.val (.bool (decide (o = 0)))] ∧ cs = [.sl code.length (bytesP code), .int .i64 a2, .int .u64 s2] := by
  refine mcalls_of_code (n := 9) az Tryd.func80 (by kernel_rfl) rfl rfl (Nat.le_of_ble_eq_true rfl) (by intro t u h; simp [Tryd.f80] at h) ?_
  refine code_seq (fun K1 hK1 => ?_)
  refine code_region ?_
  refine list_cons rfl (op_q (q_assign rfl (by decide)) ?_)
  refine list_nil ?_
  refine hK1 _ ?_; clear hK1 K1
  refine code_seq (fun K2 hK2 => ?_)
  refine code_region ?_
  refine list_cons rfl (op_q (q_move rfl (by decide)) ?_)
  refine list_cons rfl (op_q (q_move rfl (by decide)) ?_)
  refine list_cons rfl (op_callM (pick_c code ?_ _ _ ?_ ?_ _) (.tmp 5) 2000 [0, 5] [.tmp 6] _ rfl rfl (by intro y hy; cases hy; exact ⟨rfl, (by intro t ht; simp only [List.mem_cons, List.not_mem_nil, or_false] at ht; rcases ht with rfl | rfl <;> rfl), (by intro s hs; simp only [List.mem_cons, List.not_mem_nil, or_false] at hs; subst hs; first | (simp [SV.labels]; done) | (simp [SV.labels, packS, SV.back]; done) | exact List.not_mem_nil)⟩) (by decide) (by decide) (by decide) rfl (fun _ => rfl) ?_)
  · first | assumption | omega | (simp; omega)
  · first | assumption | omega | (simp; omega)
  · first | assumption | omega | (simp; omega)
  rintro _ _ ⟨b, a2, s2, hb0, hb1, ha0, ha1, rfl, rfl⟩
  try have hp2 := p2_64 (k := b.toNat) (by omega)
  refine list_cons rfl (op_q (q_eq rfl rfl (by decide)) ?_)
  refine list_cons rfl (op_q (q_assign rfl (by decide)) ?_)
  refine list_nil ?_
  refine hK2 _ ?_; clear hK2 K2
  refine codeT.imp (σ' := [(0, _), (1, _), (4, _)]) ?_ (imp_covers ⟨rfl, rfl, rfl, trivial⟩)
  refine code_ret ?_
  refine ends_ret (cs := _) rfl rfl rfl rfl rfl ?_
  exact ⟨_, _, _, by omega, by omega, rfl, rfl⟩

set_option maxRecDepth 4000 in
theorem among_c (code : List UInt8) (hcode : code.length ≤ 9223372036854775807) (a s : Int) (ha : 0 ≤ a) (ha2 : a ≤ 4611686018427387900) (l : List Int) (hl : 0 < l.length) (hl2 : l.length ≤ 4611686018427387904) : MCalls Tryd.prog 66 false (some (.box 74 [.sl code.length (bytesP code), .int .i64 a, .int .u64 s])) [.sl l.length (l.map (.int .i64))] fun rs cs => ∃ (x : Int) (a2 s2 : Int), x ∈ l ∧ a ≤ a2 ∧ a2 ≤ a + 2 ∧ rs = [.val (.int .i64 x)] ∧ cs = [.sl code.length (bytesP code), .int .i64 a2, .int .u64 s2] := by
  refine mcalls_of_code (n := 12) az Tryd.func66 (by kernel_rfl) rfl rfl (Nat.le_of_ble_eq_true rfl) (by intro t u h; simp [Tryd.f66] at h) ?_
  refine code_seq (fun K1 hK1 => ?_)
  refine code_region ?_
  refine list_cons rfl (op_q (q_assign rfl (by decide)) ?_)
  refine list_nil ?_
  refine hK1 _ ?_; clear hK1 K1
  refine code_seq (fun K2 hK2 => ?_)
  refine code_region ?_
  refine list_cons rfl (op_q (q_move rfl (by decide)) ?_)
  refine list_cons rfl (op_q (q_move rfl (by decide)) ?_)
  refine list_cons rfl (op_q (q_move rfl (by decide)) ?_)
  refine list_cons rfl (op_q (q_len_sl Tryd.underlying24 rfl rfl (by decide)) ?_)
  refine list_cons rfl (op_callM (pick_c code ?_ _ _ ?_ ?_ _) (.tmp 6) 2000 [0, 6] [.tmp 8] _ rfl rfl (by intro y hy; cases hy; exact ⟨rfl, (by intro t ht; simp only [List.mem_cons, List.not_mem_nil, or_false] at ht; rcases ht with rfl | rfl <;> rfl), (by intro s hs; simp only [List.mem_cons, List.not_mem_nil, or_false] at hs; subst hs; first | (simp [SV.labels]; done) | (simp [SV.labels, packS, SV.back]; done) | exact List.not_mem_nil)⟩) (by decide) (by decide) (by decide) rfl (fun _ => rfl) ?_)
  · first | assumption | omega | (simp; omega)
  · first | assumption | omega | (simp; omega)
  · first | assumption | omega | (simp; omega)
  rintro _ _ ⟨b, a2, s2, hb0, hb1, ha0, ha1, rfl, rfl⟩
  try have hp2 := p2_64 (k := b.toNat) (by omega)
  refine list_cons rfl (op_q (q_indexAddr_rd sl_24 rfl (.inl ⟨_, rfl, rfl⟩) rfl (by omega) (by omega) (by decide)) ?_)
  refine list_cons rfl (op_q (q_load_rd one_3 rfl (.inl ⟨_, (by first | rfl | exact congrArg (SV.rpar _) (drop_map1 _ 0 _ (by first | omega | (simp; omega)))), rfl⟩) (by decide)) ?_)
  refine list_cons rfl (op_q (q_assign rfl (by decide)) ?_)
  refine list_nil ?_
  refine hK2 _ ?_; clear hK2 K2
  refine codeT.imp (σ' := [(0, _), (1, _), (4, _)]) ?_ (imp_covers ⟨rfl, rfl, rfl, trivial⟩)
  refine code_ret ?_
  refine ends_ret (cs := _) rfl rfl rfl rfl rfl ?_
  exact ⟨_, _, _, getD_mem (show b.toNat < l.length by omega), by omega, by omega, rfl, rfl⟩

end Go.Proofs.YtjbbijlbenkgcaaDoor
namespace Go.Proofs.YtjbbijlbenkgcaaDoor.Dr6Ty
open Go.RowKit

def az (u : TypeId) : Nat := match u with  | _ => 0

theorem sl_24 : SlTy Tryd.prog 24 3 1 8 [.int .i64 0] := slTy_of Tryd.underlying24 (z := .int .i64 0) (by kernel_rfl) rfl (by decide) (by decide) rfl
theorem bt_74 : BuildTy Tryd.prog 74 (fun i => match i with | 0 => some (0, 1) | 1 => some (1, 1) | 2 => some (2, 1) | _ => none) [.sl 0 [], .int .i64 0, .int .u64 0] := ⟨.agg #[.slice none 0 0, .int .i64 0, .int .u64 0], rfl, fun parts => by
  have h : Tryd.prog.built 74 parts = Instr.fill (#[(0, 1), (1, 1), (2, 1)][·]?) ((.agg #[.slice none 0 0, .int .i64 0, .int .u64 0] : Value)).cells parts := by kernel_rfl
  have hp : (fun i => (#[(0, 1), (1, 1), (2, 1)] : Array (Nat × Nat))[i]?) = (fun i => match i with | 0 => some (0, 1) | 1 => some (1, 1) | 2 => some (2, 1) | _ => none) := by
    funext i
    rcases i with _ | _ | _ | _ <;> rfl
  rw [h, hp]⟩

end Go.Proofs.YtjbbijlbenkgcaaDoor.Dr6Ty
namespace Go.Proofs.YtjbbijlbenkgcaaDoor
open Go.RowKit Dr6Ty
set_option linter.unusedVariables false
set_option linter.unusedSimpArgs false

set_option maxRecDepth 4000 in
theorem spec_l1LeastD (a b : Int) : PCalls Tryd.prog 127 [.int .i64 a, .int .i64 b] (· = [.val (.int .i64 (if a < b then a else b))]) := by
  refine pcalls_of_code (n := 10) az Tryd.func127 (by kernel_rfl) rfl rfl (Nat.le_of_ble_eq_true rfl) (by intro t u h; simp [Tryd.f127] at h) ?_
  refine code_seq (fun K1 hK1 => ?_)
  refine code_region ?_
  refine list_cons rfl (op_q (q_assign rfl (by decide)) ?_)
  refine list_nil ?_
  refine hK1 _ ?_; clear hK1 K1
  refine code_seq (fun K2 hK2 => ?_)
  refine code_seq (fun K3 hK3 => ?_)
  refine code_region ?_
  refine list_cons rfl (op_q (q_move rfl (by decide)) ?_)
  refine list_cons rfl (op_q (q_move rfl (by decide)) ?_)
  refine list_cons rfl (op_q (q_lt rfl rfl (by decide)) ?_)
  refine list_nil ?_
  refine hK3 _ ?_; clear hK3 K3
  refine code_cond_d rfl (fun h1 => ?_) (fun h1 => ?_)
  · skip
    (try simp only [Decidable.not_not] at h1)
    refine code_seq (fun K4 hK4 => ?_)
    refine code_region ?_
    refine list_cons rfl (op_q (q_move rfl (by decide)) ?_)
    refine list_cons rfl (op_q (q_assign rfl (by decide)) ?_)
    refine list_nil ?_
    refine hK4 _ ?_; clear hK4 K4
    refine code_ret ?_
    refine then_r ?_; clear hK2 K2
    refine ends_ret (cs := []) rfl rfl rfl rfl trivial ?_
    rw [if_pos h1]
  · skip
    (try simp only [Decidable.not_not] at h1)
    refine code_skip ?_
    refine hK2 _ ?_; clear hK2 K2
    refine code_seq (fun K5 hK5 => ?_)
    refine code_region ?_
    refine list_cons rfl (op_q (q_move rfl (by decide)) ?_)
    refine list_cons rfl (op_q (q_assign rfl (by decide)) ?_)
    refine list_nil ?_
    refine hK5 _ ?_; clear hK5 K5
    refine code_ret ?_
    refine ends_ret (cs := []) rfl rfl rfl rfl trivial ?_
    rw [if_neg h1]

theorem topW (k : Int) (h0 : 0 ≤ k) (h1 : k ≤ 6) : PCalls Tryd.prog 108 [.int .i64 k] (fun rs => ∃ t : Int, rs = [.val (.int .i64 t)] ∧ 1 ≤ t ∧ t ≤ 1000000) := PCalls.mono (spec_l4Top k h0 h1) fun rs h => ⟨_, h, top4_le h0 h1⟩
theorem leastW (a b : Int) : PCalls Tryd.prog 127 [.int .i64 a, .int .i64 b] (fun rs => ∃ t : Int, rs = [.val (.int .i64 t)] ∧ (t = a ∨ t = b)) := PCalls.mono (spec_l1LeastD a b) fun rs h => ⟨_, h, by split <;> simp⟩
theorem mostW (a b : Int) : PCalls Tryd.prog 128 [.int .i64 a, .int .i64 b] (fun rs => ∃ t : Int, rs = [.val (.int .i64 t)] ∧ (t = a ∨ t = b)) := PCalls.mono (spec_l1Most a b) fun rs h => ⟨_, h, by split <;> simp⟩

set_option maxRecDepth 4000 in
set_option maxHeartbeats 4000000 in
theorem counter_c (code : List UInt8) (hcode : code.length ≤ 9223372036854775807) (a s : Int) (ha : 0 ≤ a) (ha2 : a ≤ 4611686018427387000) : MCalls Tryd.prog 101 false (some (.box 74 [.sl code.length (bytesP code), .int .i64 a, .int .u64 s])) [] fun rs cs => ∃ (n k a2 s2 : Int), a ≤ a2 ∧ a2 ≤ a + 60 ∧ rs = [.val (.int .i64 n), .val (.int .i64 k)] ∧ cs = [.sl code.length (bytesP code), .int .i64 a2, .int .u64 s2] := by
  refine mcalls_of_code (n := 53) az Tryd.func101 (by kernel_rfl) rfl rfl (Nat.le_of_ble_eq_true rfl) (by intro t u h; simp [Tryd.f101] at h) ?_
  refine code_seq (fun K1 hK1 => ?_)
  refine code_region ?_
  refine list_cons rfl (op_q (q_assign rfl (by decide)) ?_)
  refine list_cons rfl (op_q (q_assign rfl (by decide)) ?_)
  refine list_nil ?_
  refine hK1 _ ?_; clear hK1 K1
  refine code_seq (fun K2 hK2 => ?_)
  refine code_region ?_
  refine list_cons rfl (op_q (q_move rfl (by decide)) ?_)
  refine list_cons rfl (op_buildSlice sl_24 (parts := [(0, _), (1, _), (2, _), (3, _), (4, _), (5, _), (6, _), (7, _), (8, _), (9, _), (10, _), (11, _)]) rfl rfl rfl (by decide) (by decide) (by decide) rfl ?_)
  refine list_cons rfl (op_callM (among_c code ?_ _ _ ?_ ?_ ([2, 1, 3, 4, 6, 2, 3, 0, 7, 5, 2, 1]) (by decide) (by decide)) (.tmp 6) 2000 [0, 6] [.tmp 7] _ rfl rfl (by intro y hy; cases hy; exact ⟨rfl, (by intro t ht; simp only [List.mem_cons, List.not_mem_nil, or_false] at ht; rcases ht with rfl | rfl <;> rfl), (by intro s hs; simp only [List.mem_cons, List.not_mem_nil, or_false] at hs; subst hs; first | (simp [SV.labels]; done) | (simp [SV.labels, packS, SV.back]; done) | exact List.not_mem_nil)⟩) (by decide) (by decide) (by decide) rfl (fun _ => rfl) ?_)
  · first | assumption | omega | (simp; omega)
  · first | assumption | omega | (simp; omega)
  · first | assumption | omega | (simp; omega)
  rintro _ _ ⟨k, a2, s2, -, ha0, ha1, rfl, rfl⟩
  refine list_cons rfl (op_q (q_assign rfl (by decide)) ?_)
  refine list_nil ?_
  refine hK2 _ ?_; clear hK2 K2
  refine codeT.imp (σ' := [(0, .box 2000 74 [.sl code.length (bytesP code), .int .i64 a2, .int .u64 s2]), (2, .val (.int .i64 0)), (3, .val (.int .i64 0)), (4, .val (.int .i64 k))]) ?_ (imp_covers ⟨rfl, rfl, rfl, rfl, trivial⟩)
  refine code_seq (fun K3 hK3 => ?_)
  refine code_seq (fun K4 hK4 => ?_)
  refine code_region ?_
  refine list_cons rfl (op_q (q_move rfl (by decide)) ?_)
  refine list_cons rfl (op_call _ (spec_l1In _ _ _) rfl rfl (by decide) (by decide) (by decide) rfl ?_)
  rintro _ rfl
  refine list_cons rfl (op_q (by first | exact q_notd rfl (by decide) | exact q_not rfl (by decide)) ?_)
  refine list_nil ?_
  refine hK4 _ ?_; clear hK4 K4
  refine codeT.imp (σ' := [(0, _), (2, _), (3, _), (4, _), (11, _)]) ?_ (imp_covers ⟨rfl, rfl, rfl, rfl, rfl, trivial⟩)
  refine code_cond_d rfl (fun h1 => ?_) (fun h1 => ?_)
  · skip
    (try simp only [Decidable.not_not] at h1)
    refine code_seq (fun K5 hK5 => ?_)
    refine code_region ?_
    refine list_cons rfl (op_q (q_move rfl (by decide)) ?_)
    refine list_cons rfl (op_callM (pick_c code ?_ _ _ ?_ ?_ _) (.tmp 12) 2000 [0, 12] [_] _ rfl rfl (by intro y hy; cases hy; exact ⟨rfl, (by intro t ht; simp only [List.mem_cons, List.not_mem_nil, or_false] at ht; rcases ht with rfl | rfl <;> rfl), (by intro s hs; simp only [List.mem_cons, List.not_mem_nil, or_false] at hs; subst hs; first | (simp [SV.labels]; done) | (simp [SV.labels, packS, SV.back]; done) | exact List.not_mem_nil)⟩) (by decide) (by decide) (by decide) rfl (fun _ => rfl) ?_)
    · first | assumption | omega | (simp; omega)
    · first | assumption | omega | (simp; omega)
    · first | assumption | omega | (simp; omega)
    rintro _ _ ⟨b3, a2, s2, hb0, hb1, ha0, ha1, rfl, rfl⟩
    refine list_cons rfl (op_q (q_move rfl (by decide)) ?_)
    refine list_cons rfl (op_q (q_assign rfl (by decide)) ?_)
    refine list_cons rfl (op_q (q_assign rfl (by decide)) ?_)
    refine list_nil ?_
    refine hK5 _ ?_; clear hK5 K5
    refine codeT.imp (σ' := [(0, _), (2, _), (3, _), (4, _)]) ?_ (imp_covers ⟨rfl, rfl, rfl, rfl, trivial⟩)
    refine code_ret ?_
    refine then_r ?_; clear hK3 K3
    refine ends_ret (cs := _) rfl rfl rfl rfl rfl ?_
    exact ⟨_, _, _, _, by omega, by omega, rfl, rfl⟩
  · skip
    (try simp only [Decidable.not_not] at h1)
    refine code_skip ?_
    refine hK3 _ ?_; clear hK3 K3
    refine code_seq (fun K6 hK6 => ?_)
    refine code_region ?_
    refine list_cons rfl (op_q (q_move rfl (by decide)) ?_)
    refine list_cons rfl (op_callM (pick_c code ?_ _ _ ?_ ?_ _) (.tmp 15) 2000 [0, 15] [_] _ rfl rfl (by intro y hy; cases hy; exact ⟨rfl, (by intro t ht; simp only [List.mem_cons, List.not_mem_nil, or_false] at ht; rcases ht with rfl | rfl <;> rfl), (by intro s hs; simp only [List.mem_cons, List.not_mem_nil, or_false] at hs; subst hs; first | (simp [SV.labels]; done) | (simp [SV.labels, packS, SV.back]; done) | exact List.not_mem_nil)⟩) (by decide) (by decide) (by decide) rfl (fun _ => rfl) ?_)
    · first | assumption | omega | (simp; omega)
    · first | assumption | omega | (simp; omega)
    · first | assumption | omega | (simp; omega)
    rintro _ _ ⟨n1, a2, s2, hb0, hb1, ha0, ha1, rfl, rfl⟩
    refine list_cons rfl (op_q (q_assign rfl (by decide)) ?_)
    refine list_nil ?_
    refine hK6 _ ?_; clear hK6 K6
    refine codeT.imp (σ' := [(0, .box 2000 74 [.sl code.length (bytesP code), .int .i64 a2, .int .u64 s2]), (2, .val (.int .i64 0)), (3, .val (.int .i64 0)), (4, .val (.int .i64 k)), (5, .val (.int .i64 n1))]) ?_ (imp_covers ⟨rfl, rfl, rfl, rfl, rfl, trivial⟩)
    refine code_seq (fun K7 hK7 => ?_)
    refine code_seq (fun K8 hK8 => ?_)
    refine code_region ?_
    refine list_cons rfl (op_q (q_move rfl (by decide)) ?_)
    refine list_cons rfl (op_callM (pick_c code ?_ _ _ ?_ ?_ _) (.tmp 17) 2000 [0, 17] [_] _ rfl rfl (by intro y hy; cases hy; exact ⟨rfl, (by intro t ht; simp only [List.mem_cons, List.not_mem_nil, or_false] at ht; rcases ht with rfl | rfl <;> rfl), (by intro s hs; simp only [List.mem_cons, List.not_mem_nil, or_false] at hs; subst hs; first | (simp [SV.labels]; done) | (simp [SV.labels, packS, SV.back]; done) | exact List.not_mem_nil)⟩) (by decide) (by decide) (by decide) rfl (fun _ => rfl) ?_)
    · first | assumption | omega | (simp; omega)
    · first | assumption | omega | (simp; omega)
    · first | assumption | omega | (simp; omega)
    rintro _ _ ⟨sw, a2, s2, hb0, hb1, ha0, ha1, rfl, rfl⟩
    refine list_nil ?_
    refine hK8 _ ?_; clear hK8 K8
    refine codeT.imp (σ' := [(0, .box 2000 74 [.sl code.length (bytesP code), .int .i64 a2, .int .u64 s2]), (2, .val (.int .i64 0)), (3, .val (.int .i64 0)), (4, .val (.int .i64 k)), (5, .val (.int .i64 n1)), (18, .val (.int .i64 sw))]) ?_ (imp_covers ⟨rfl, rfl, rfl, rfl, rfl, rfl, trivial⟩)
    refine code_block ?_
    refine code_seq (fun K9 hK9 => ?_)
    refine code_region ?_
    refine list_cons rfl (op_q (q_eq rfl rfl (by decide)) ?_)
    refine list_cons rfl (op_q (q_assign rfl (by decide)) ?_)
    refine list_nil ?_
    refine hK9 _ ?_; clear hK9 K9
    refine code_cond_d rfl (fun h2 => ?_) (fun h2 => ?_)
    · skip
      (try simp only [Decidable.not_not] at h2)
      refine code_region ?_
      refine list_cons rfl (op_q (q_move rfl (by decide)) ?_)
      refine list_cons rfl (op_call _ (topW _ (by omega) (by omega)) rfl rfl (by decide) (by decide) (by decide) rfl ?_)
      rintro _ ⟨t, rfl, ht1, ht2⟩
      refine list_cons rfl (op_q (by first | exact q_subI rfl rfl (by decide) (by omega) (by omega) | exact q_ib rfl rfl rfl (by decide)) ?_)
      refine list_cons rfl (op_q (q_move rfl (by decide)) ?_)
      refine list_cons rfl (op_callM (pick_c code ?_ _ _ ?_ ?_ _) (.tmp 24) 2000 [0, 24] [_] _ rfl rfl (by intro y hy; cases hy; exact ⟨rfl, (by intro t ht; simp only [List.mem_cons, List.not_mem_nil, or_false] at ht; rcases ht with rfl | rfl <;> rfl), (by intro s hs; simp only [List.mem_cons, List.not_mem_nil, or_false] at hs; subst hs; first | (simp [SV.labels]; done) | (simp [SV.labels, packS, SV.back]; done) | exact List.not_mem_nil)⟩) (by decide) (by decide) (by decide) rfl (fun _ => rfl) ?_)
      · first | assumption | omega | (simp; omega)
      · first | assumption | omega | (simp; omega)
      · first | assumption | omega | (simp; omega)
      rintro _ _ ⟨b7, a2, s2, hb0, hb1, ha0, ha1, rfl, rfl⟩
      refine list_cons rfl (op_q (by first | exact q_subI rfl rfl (by decide) (by omega) (by omega) | exact q_ib rfl rfl rfl (by decide)) ?_)
      refine list_cons rfl (op_q (q_assign rfl (by decide)) ?_)
      refine list_nil ?_
      refine blk_n ?_
      refine hK7 _ ?_; clear hK7 K7
      refine codeT.imp (σ' := [(0, .box 2000 74 [.sl code.length (bytesP code), .int .i64 a2, .int .u64 s2]), (2, .val (.int .i64 0)), (3, .val (.int .i64 0)), (4, .val (.int .i64 k)), (5, .val (.int .i64 (t - 1 - b7))), (18, _)]) ?_ (imp_covers ⟨rfl, rfl, rfl, rfl, rfl, rfl, trivial⟩)
      refine code_seq (fun K10 hK10 => ?_)
      refine code_seq (fun K11 hK11 => ?_)
      refine code_region ?_
      refine list_cons rfl (op_q (q_move rfl (by decide)) ?_)
      refine list_cons rfl (op_callM (one_c code ?_ _ _ ?_ ?_ _) (.tmp 44) 2000 [0, 44] [_] _ rfl rfl (by intro y hy; cases hy; exact ⟨rfl, (by intro t ht; simp only [List.mem_cons, List.not_mem_nil, or_false] at ht; rcases ht with rfl | rfl <;> rfl), (by intro s hs; simp only [List.mem_cons, List.not_mem_nil, or_false] at hs; subst hs; first | (simp [SV.labels]; done) | (simp [SV.labels, packS, SV.back]; done) | exact List.not_mem_nil)⟩) (by decide) (by decide) (by decide) rfl (fun _ => rfl) ?_)
      · first | assumption | omega | (simp; omega)
      · first | assumption | omega | (simp; omega)
      · first | assumption | omega | (simp; omega)
      rintro _ _ ⟨o, a2, s2, ha0, ha1, rfl, rfl⟩
      refine list_nil ?_
      refine hK11 _ ?_; clear hK11 K11
      refine codeT.imp (σ' := [(0, _), (2, _), (3, _), (4, _), (5, _), (18, _), (45, _)]) ?_ (imp_covers ⟨rfl, rfl, rfl, rfl, rfl, rfl, rfl, trivial⟩)
      refine code_cond_d rfl (fun h3 => ?_) (fun h3 => ?_)
      · skip
        (try simp only [Decidable.not_not] at h3)
        refine code_region ?_
        refine list_cons rfl (op_q (q_move rfl (by decide)) ?_)
        refine list_cons rfl (op_q (q_move rfl (by decide)) ?_)
        refine list_cons rfl (op_call _ (topW _ (by omega) (by omega)) rfl rfl (by decide) (by decide) (by decide) rfl ?_)
        rintro _ ⟨t, rfl, ht1, ht2⟩
        refine list_cons rfl (op_buildSlice sl_24 (parts := [(0, _), (1, .tmp 48)]) rfl rfl rfl (by decide) (by decide) (by decide) rfl ?_)
        refine list_cons rfl (op_callM (among_c code ?_ _ _ ?_ ?_ ([-1, t]) (by simp) (by simp)) (.tmp 46) 2000 [0, 46] [.tmp 49] _ rfl rfl (by intro y hy; cases hy; exact ⟨rfl, (by intro t ht; simp only [List.mem_cons, List.not_mem_nil, or_false] at ht; rcases ht with rfl | rfl <;> rfl), (by intro s hs; simp only [List.mem_cons, List.not_mem_nil, or_false] at hs; subst hs; first | (simp [SV.labels]; done) | (simp [SV.labels, packS, SV.back]; done) | exact List.not_mem_nil)⟩) (by decide) (by decide) (by decide) rfl (fun _ => rfl) ?_)
        · first | assumption | omega | (simp; omega)
        · first | assumption | omega | (simp; omega)
        · first | assumption | omega | (simp; omega)
        rintro _ _ ⟨x, a2, s2, -, ha0, ha1, rfl, rfl⟩
        refine list_cons rfl (op_q (q_assign rfl (by decide)) ?_)
        refine list_nil ?_
        refine hK10 _ ?_; clear hK10 K10
        refine codeT.imp (σ' := [(0, _), (2, _), (3, _), (4, _), (5, _), (18, _)]) ?_ (imp_covers ⟨rfl, rfl, rfl, rfl, rfl, rfl, trivial⟩)
        refine code_seq (fun K12 hK12 => ?_)
        refine code_region ?_
        refine list_cons rfl (op_q (q_move rfl (by decide)) ?_)
        refine list_cons rfl (op_q (q_move rfl (by decide)) ?_)
        refine list_cons rfl (op_q (q_assign rfl (by decide)) ?_)
        refine list_cons rfl (op_q (q_assign rfl (by decide)) ?_)
        refine list_nil ?_
        refine hK12 _ ?_; clear hK12 K12
        refine code_ret ?_
        refine ends_ret (cs := _) rfl rfl rfl rfl rfl ?_
        exact ⟨_, _, _, _, by omega, by omega, rfl, rfl⟩
      · skip
        (try simp only [Decidable.not_not] at h3)
        refine code_skip ?_
        refine hK10 _ ?_; clear hK10 K10
        refine code_seq (fun K13 hK13 => ?_)
        refine code_region ?_
        refine list_cons rfl (op_q (q_move rfl (by decide)) ?_)
        refine list_cons rfl (op_q (q_move rfl (by decide)) ?_)
        refine list_cons rfl (op_q (q_assign rfl (by decide)) ?_)
        refine list_cons rfl (op_q (q_assign rfl (by decide)) ?_)
        refine list_nil ?_
        refine hK13 _ ?_; clear hK13 K13
        refine code_ret ?_
        refine ends_ret (cs := _) rfl rfl rfl rfl rfl ?_
        exact ⟨_, _, _, _, by omega, by omega, rfl, rfl⟩
    · skip
      (try simp only [Decidable.not_not] at h2)
      refine code_seq (fun K14 hK14 => ?_)
      refine code_region ?_
      refine list_cons rfl (op_q (q_eq rfl rfl (by decide)) ?_)
      refine list_cons rfl (op_q (q_assign rfl (by decide)) ?_)
      refine list_nil ?_
      refine hK14 _ ?_; clear hK14 K14
      refine code_cond_d rfl (fun h4 => ?_) (fun h4 => ?_)
      · skip
        (try simp only [Decidable.not_not] at h4)
        refine code_region ?_
        refine list_cons rfl (op_q (q_move rfl (by decide)) ?_)
        refine list_cons rfl (op_q (q_move rfl (by decide)) ?_)
        refine list_cons rfl (op_call _ (topW _ (by omega) (by omega)) rfl rfl (by decide) (by decide) (by decide) rfl ?_)
        rintro _ ⟨t, rfl, ht1, ht2⟩
        refine list_cons rfl (op_call _ (leastW _ _) rfl rfl (by decide) (by decide) (by decide) rfl ?_)
        rintro _ ⟨w, rfl, hw⟩
        refine list_cons rfl (op_callM (pick_c code ?_ _ _ ?_ ?_ _) (.tmp 29) 2000 [0, 29] [.tmp 32] _ rfl rfl (by intro y hy; cases hy; exact ⟨rfl, (by intro t ht; simp only [List.mem_cons, List.not_mem_nil, or_false] at ht; rcases ht with rfl | rfl <;> rfl), (by intro s hs; simp only [List.mem_cons, List.not_mem_nil, or_false] at hs; subst hs; first | (simp [SV.labels]; done) | (simp [SV.labels, packS, SV.back]; done) | exact List.not_mem_nil)⟩) (by decide) (by decide) (by decide) rfl (fun _ => rfl) ?_)
        · first | assumption | omega | (simp; omega)
        · first | assumption | omega | (simp; omega)
        · first | assumption | omega | (simp; omega)
        rintro _ _ ⟨b9, a2, s2, hb0, hb1, ha0, ha1, rfl, rfl⟩
        refine list_cons rfl (op_q (q_assign rfl (by decide)) ?_)
        refine list_nil ?_
        refine blk_n ?_
        refine hK7 _ ?_; clear hK7 K7
        refine codeT.imp (σ' := [(0, .box 2000 74 [.sl code.length (bytesP code), .int .i64 a2, .int .u64 s2]), (2, .val (.int .i64 0)), (3, .val (.int .i64 0)), (4, .val (.int .i64 k)), (5, .val (.int .i64 b9)), (18, _)]) ?_ (imp_covers ⟨rfl, rfl, rfl, rfl, rfl, rfl, trivial⟩)
        refine code_seq (fun K15 hK15 => ?_)
        refine code_seq (fun K16 hK16 => ?_)
        refine code_region ?_
        refine list_cons rfl (op_q (q_move rfl (by decide)) ?_)
        refine list_cons rfl (op_callM (one_c code ?_ _ _ ?_ ?_ _) (.tmp 44) 2000 [0, 44] [_] _ rfl rfl (by intro y hy; cases hy; exact ⟨rfl, (by intro t ht; simp only [List.mem_cons, List.not_mem_nil, or_false] at ht; rcases ht with rfl | rfl <;> rfl), (by intro s hs; simp only [List.mem_cons, List.not_mem_nil, or_false] at hs; subst hs; first | (simp [SV.labels]; done) | (simp [SV.labels, packS, SV.back]; done) | exact List.not_mem_nil)⟩) (by decide) (by decide) (by decide) rfl (fun _ => rfl) ?_)
        · first | assumption | omega | (simp; omega)
        · first | assumption | omega | (simp; omega)
        · first | assumption | omega | (simp; omega)
        rintro _ _ ⟨o, a2, s2, ha0, ha1, rfl, rfl⟩
        refine list_nil ?_
        refine hK16 _ ?_; clear hK16 K16
        refine codeT.imp (σ' := [(0, _), (2, _), (3, _), (4, _), (5, _), (18, _), (45, _)]) ?_ (imp_covers ⟨rfl, rfl, rfl, rfl, rfl, rfl, rfl, trivial⟩)
        refine code_cond_d rfl (fun h5 => ?_) (fun h5 => ?_)
        · skip
          (try simp only [Decidable.not_not] at h5)
          refine code_region ?_
          refine list_cons rfl (op_q (q_move rfl (by decide)) ?_)
          refine list_cons rfl (op_q (q_move rfl (by decide)) ?_)
          refine list_cons rfl (op_call _ (topW _ (by omega) (by omega)) rfl rfl (by decide) (by decide) (by decide) rfl ?_)
          rintro _ ⟨t, rfl, ht1, ht2⟩
          refine list_cons rfl (op_buildSlice sl_24 (parts := [(0, _), (1, .tmp 48)]) rfl rfl rfl (by decide) (by decide) (by decide) rfl ?_)
          refine list_cons rfl (op_callM (among_c code ?_ _ _ ?_ ?_ ([-1, t]) (by simp) (by simp)) (.tmp 46) 2000 [0, 46] [.tmp 49] _ rfl rfl (by intro y hy; cases hy; exact ⟨rfl, (by intro t ht; simp only [List.mem_cons, List.not_mem_nil, or_false] at ht; rcases ht with rfl | rfl <;> rfl), (by intro s hs; simp only [List.mem_cons, List.not_mem_nil, or_false] at hs; subst hs; first | (simp [SV.labels]; done) | (simp [SV.labels, packS, SV.back]; done) | exact List.not_mem_nil)⟩) (by decide) (by decide) (by decide) rfl (fun _ => rfl) ?_)
          · first | assumption | omega | (simp; omega)
          · first | assumption | omega | (simp; omega)
          · first | assumption | omega | (simp; omega)
          rintro _ _ ⟨x, a2, s2, -, ha0, ha1, rfl, rfl⟩
          refine list_cons rfl (op_q (q_assign rfl (by decide)) ?_)
          refine list_nil ?_
          refine hK15 _ ?_; clear hK15 K15
          refine codeT.imp (σ' := [(0, _), (2, _), (3, _), (4, _), (5, _), (18, _)]) ?_ (imp_covers ⟨rfl, rfl, rfl, rfl, rfl, rfl, trivial⟩)
          refine code_seq (fun K17 hK17 => ?_)
          refine code_region ?_
          refine list_cons rfl (op_q (q_move rfl (by decide)) ?_)
          refine list_cons rfl (op_q (q_move rfl (by decide)) ?_)
          refine list_cons rfl (op_q (q_assign rfl (by decide)) ?_)
          refine list_cons rfl (op_q (q_assign rfl (by decide)) ?_)
          refine list_nil ?_
          refine hK17 _ ?_; clear hK17 K17
          refine code_ret ?_
          refine ends_ret (cs := _) rfl rfl rfl rfl rfl ?_
          exact ⟨_, _, _, _, by omega, by omega, rfl, rfl⟩
        · skip
          (try simp only [Decidable.not_not] at h5)
          refine code_skip ?_
          refine hK15 _ ?_; clear hK15 K15
          refine code_seq (fun K18 hK18 => ?_)
          refine code_region ?_
          refine list_cons rfl (op_q (q_move rfl (by decide)) ?_)
          refine list_cons rfl (op_q (q_move rfl (by decide)) ?_)
          refine list_cons rfl (op_q (q_assign rfl (by decide)) ?_)
          refine list_cons rfl (op_q (q_assign rfl (by decide)) ?_)
          refine list_nil ?_
          refine hK18 _ ?_; clear hK18 K18
          refine code_ret ?_
          refine ends_ret (cs := _) rfl rfl rfl rfl rfl ?_
          exact ⟨_, _, _, _, by omega, by omega, rfl, rfl⟩
      · skip
        (try simp only [Decidable.not_not] at h4)
        refine code_seq (fun K19 hK19 => ?_)
        refine code_region ?_
        refine list_cons rfl (op_q (q_eq rfl rfl (by decide)) ?_)
        refine list_cons rfl (op_q (q_assign rfl (by decide)) ?_)
        refine list_nil ?_
        refine hK19 _ ?_; clear hK19 K19
        refine code_cond_d rfl (fun h6 => ?_) (fun h6 => ?_)
        · skip
          (try simp only [Decidable.not_not] at h6)
          refine code_region ?_
          refine list_cons rfl (op_q (q_move rfl (by decide)) ?_)
          refine list_cons rfl (op_call _ (topW _ (by omega) (by omega)) rfl rfl (by decide) (by decide) (by decide) rfl ?_)
          rintro _ ⟨t, rfl, ht1, ht2⟩
          refine list_cons rfl (op_q (by first | exact q_subI rfl rfl (by decide) (by omega) (by omega) | exact q_ib rfl rfl rfl (by decide)) ?_)
          refine list_cons rfl (op_q (q_move rfl (by decide)) ?_)
          refine list_cons rfl (op_callM (pick_c code ?_ _ _ ?_ ?_ _) (.tmp 39) 2000 [0, 39] [_] _ rfl rfl (by intro y hy; cases hy; exact ⟨rfl, (by intro t ht; simp only [List.mem_cons, List.not_mem_nil, or_false] at ht; rcases ht with rfl | rfl <;> rfl), (by intro s hs; simp only [List.mem_cons, List.not_mem_nil, or_false] at hs; subst hs; first | (simp [SV.labels]; done) | (simp [SV.labels, packS, SV.back]; done) | exact List.not_mem_nil)⟩) (by decide) (by decide) (by decide) rfl (fun _ => rfl) ?_)
          · first | assumption | omega | (simp; omega)
          · first | assumption | omega | (simp; omega)
          · first | assumption | omega | (simp; omega)
          rintro _ _ ⟨b11, a2, s2, hb0, hb1, ha0, ha1, rfl, rfl⟩
          refine list_cons rfl (op_q (by first | exact q_subI rfl rfl (by decide) (by omega) (by omega) | exact q_ib rfl rfl rfl (by decide)) ?_)
          refine list_cons rfl (op_call _ (leastW _ _) rfl rfl (by decide) (by decide) (by decide) rfl ?_)
          rintro _ ⟨w, rfl, hw⟩
          refine list_cons rfl (op_call _ (mostW _ _) rfl rfl (by decide) (by decide) (by decide) rfl ?_)
          rintro _ ⟨z, rfl, hz⟩
          refine list_cons rfl (op_q (q_assign rfl (by decide)) ?_)
          refine list_nil ?_
          refine blk_n ?_
          refine hK7 _ ?_; clear hK7 K7
          refine codeT.imp (σ' := [(0, .box 2000 74 [.sl code.length (bytesP code), .int .i64 a2, .int .u64 s2]), (2, .val (.int .i64 0)), (3, .val (.int .i64 0)), (4, .val (.int .i64 k)), (5, .val (.int .i64 z)), (18, _)]) ?_ (imp_covers ⟨rfl, rfl, rfl, rfl, rfl, rfl, trivial⟩)
          refine code_seq (fun K20 hK20 => ?_)
          refine code_seq (fun K21 hK21 => ?_)
          refine code_region ?_
          refine list_cons rfl (op_q (q_move rfl (by decide)) ?_)
          refine list_cons rfl (op_callM (one_c code ?_ _ _ ?_ ?_ _) (.tmp 44) 2000 [0, 44] [_] _ rfl rfl (by intro y hy; cases hy; exact ⟨rfl, (by intro t ht; simp only [List.mem_cons, List.not_mem_nil, or_false] at ht; rcases ht with rfl | rfl <;> rfl), (by intro s hs; simp only [List.mem_cons, List.not_mem_nil, or_false] at hs; subst hs; first | (simp [SV.labels]; done) | (simp [SV.labels, packS, SV.back]; done) | exact List.not_mem_nil)⟩) (by decide) (by decide) (by decide) rfl (fun _ => rfl) ?_)
          · first | assumption | omega | (simp; omega)
          · first | assumption | omega | (simp; omega)
          · first | assumption | omega | (simp; omega)
          rintro _ _ ⟨o, a2, s2, ha0, ha1, rfl, rfl⟩
          refine list_nil ?_
          refine hK21 _ ?_; clear hK21 K21
          refine codeT.imp (σ' := [(0, _), (2, _), (3, _), (4, _), (5, _), (18, _), (45, _)]) ?_ (imp_covers ⟨rfl, rfl, rfl, rfl, rfl, rfl, rfl, trivial⟩)
          refine code_cond_d rfl (fun h7 => ?_) (fun h7 => ?_)
          · skip
            (try simp only [Decidable.not_not] at h7)
            refine code_region ?_
            refine list_cons rfl (op_q (q_move rfl (by decide)) ?_)
            refine list_cons rfl (op_q (q_move rfl (by decide)) ?_)
            refine list_cons rfl (op_call _ (topW _ (by omega) (by omega)) rfl rfl (by decide) (by decide) (by decide) rfl ?_)
            rintro _ ⟨t, rfl, ht1, ht2⟩
            refine list_cons rfl (op_buildSlice sl_24 (parts := [(0, _), (1, .tmp 48)]) rfl rfl rfl (by decide) (by decide) (by decide) rfl ?_)
            refine list_cons rfl (op_callM (among_c code ?_ _ _ ?_ ?_ ([-1, t]) (by simp) (by simp)) (.tmp 46) 2000 [0, 46] [.tmp 49] _ rfl rfl (by intro y hy; cases hy; exact ⟨rfl, (by intro t ht; simp only [List.mem_cons, List.not_mem_nil, or_false] at ht; rcases ht with rfl | rfl <;> rfl), (by intro s hs; simp only [List.mem_cons, List.not_mem_nil, or_false] at hs; subst hs; first | (simp [SV.labels]; done) | (simp [SV.labels, packS, SV.back]; done) | exact List.not_mem_nil)⟩) (by decide) (by decide) (by decide) rfl (fun _ => rfl) ?_)
            · first | assumption | omega | (simp; omega)
            · first | assumption | omega | (simp; omega)
            · first | assumption | omega | (simp; omega)
            rintro _ _ ⟨x, a2, s2, -, ha0, ha1, rfl, rfl⟩
            refine list_cons rfl (op_q (q_assign rfl (by decide)) ?_)
            refine list_nil ?_
            refine hK20 _ ?_; clear hK20 K20
            refine codeT.imp (σ' := [(0, _), (2, _), (3, _), (4, _), (5, _), (18, _)]) ?_ (imp_covers ⟨rfl, rfl, rfl, rfl, rfl, rfl, trivial⟩)
            refine code_seq (fun K22 hK22 => ?_)
            refine code_region ?_
            refine list_cons rfl (op_q (q_move rfl (by decide)) ?_)
            refine list_cons rfl (op_q (q_move rfl (by decide)) ?_)
            refine list_cons rfl (op_q (q_assign rfl (by decide)) ?_)
            refine list_cons rfl (op_q (q_assign rfl (by decide)) ?_)
            refine list_nil ?_
            refine hK22 _ ?_; clear hK22 K22
            refine code_ret ?_
            refine ends_ret (cs := _) rfl rfl rfl rfl rfl ?_
            exact ⟨_, _, _, _, by omega, by omega, rfl, rfl⟩
          · skip
            (try simp only [Decidable.not_not] at h7)
            refine code_skip ?_
            refine hK20 _ ?_; clear hK20 K20
            refine code_seq (fun K23 hK23 => ?_)
            refine code_region ?_
            refine list_cons rfl (op_q (q_move rfl (by decide)) ?_)
            refine list_cons rfl (op_q (q_move rfl (by decide)) ?_)
            refine list_cons rfl (op_q (q_assign rfl (by decide)) ?_)
            refine list_cons rfl (op_q (q_assign rfl (by decide)) ?_)
            refine list_nil ?_
            refine hK23 _ ?_; clear hK23 K23
            refine code_ret ?_
            refine ends_ret (cs := _) rfl rfl rfl rfl rfl ?_
            exact ⟨_, _, _, _, by omega, by omega, rfl, rfl⟩
        · skip
          (try simp only [Decidable.not_not] at h6)
          refine code_skip ?_
          refine blk_n ?_
          refine hK7 _ ?_; clear hK7 K7
          refine code_seq (fun K24 hK24 => ?_)
          refine code_seq (fun K25 hK25 => ?_)
          refine code_region ?_
          refine list_cons rfl (op_q (q_move rfl (by decide)) ?_)
          refine list_cons rfl (op_callM (one_c code ?_ _ _ ?_ ?_ _) (.tmp 44) 2000 [0, 44] [_] _ rfl rfl (by intro y hy; cases hy; exact ⟨rfl, (by intro t ht; simp only [List.mem_cons, List.not_mem_nil, or_false] at ht; rcases ht with rfl | rfl <;> rfl), (by intro s hs; simp only [List.mem_cons, List.not_mem_nil, or_false] at hs; subst hs; first | (simp [SV.labels]; done) | (simp [SV.labels, packS, SV.back]; done) | exact List.not_mem_nil)⟩) (by decide) (by decide) (by decide) rfl (fun _ => rfl) ?_)
          · first | assumption | omega | (simp; omega)
          · first | assumption | omega | (simp; omega)
          · first | assumption | omega | (simp; omega)
          rintro _ _ ⟨o, a2, s2, ha0, ha1, rfl, rfl⟩
          refine list_nil ?_
          refine hK25 _ ?_; clear hK25 K25
          refine codeT.imp (σ' := [(0, _), (2, _), (3, _), (4, _), (5, _), (18, _), (45, _)]) ?_ (imp_covers ⟨rfl, rfl, rfl, rfl, rfl, rfl, rfl, trivial⟩)
          refine code_cond_d rfl (fun h8 => ?_) (fun h8 => ?_)
          · skip
            (try simp only [Decidable.not_not] at h8)
            refine code_region ?_
            refine list_cons rfl (op_q (q_move rfl (by decide)) ?_)
            refine list_cons rfl (op_q (q_move rfl (by decide)) ?_)
            refine list_cons rfl (op_call _ (topW _ (by omega) (by omega)) rfl rfl (by decide) (by decide) (by decide) rfl ?_)
            rintro _ ⟨t, rfl, ht1, ht2⟩
            refine list_cons rfl (op_buildSlice sl_24 (parts := [(0, _), (1, .tmp 48)]) rfl rfl rfl (by decide) (by decide) (by decide) rfl ?_)
            refine list_cons rfl (op_callM (among_c code ?_ _ _ ?_ ?_ ([-1, t]) (by simp) (by simp)) (.tmp 46) 2000 [0, 46] [.tmp 49] _ rfl rfl (by intro y hy; cases hy; exact ⟨rfl, (by intro t ht; simp only [List.mem_cons, List.not_mem_nil, or_false] at ht; rcases ht with rfl | rfl <;> rfl), (by intro s hs; simp only [List.mem_cons, List.not_mem_nil, or_false] at hs; subst hs; first | (simp [SV.labels]; done) | (simp [SV.labels, packS, SV.back]; done) | exact List.not_mem_nil)⟩) (by decide) (by decide) (by decide) rfl (fun _ => rfl) ?_)
            · first | assumption | omega | (simp; omega)
            · first | assumption | omega | (simp; omega)
            · first | assumption | omega | (simp; omega)
            rintro _ _ ⟨x, a2, s2, -, ha0, ha1, rfl, rfl⟩
            refine list_cons rfl (op_q (q_assign rfl (by decide)) ?_)
            refine list_nil ?_
            refine hK24 _ ?_; clear hK24 K24
            refine codeT.imp (σ' := [(0, _), (2, _), (3, _), (4, _), (5, _), (18, _)]) ?_ (imp_covers ⟨rfl, rfl, rfl, rfl, rfl, rfl, trivial⟩)
            refine code_seq (fun K26 hK26 => ?_)
            refine code_region ?_
            refine list_cons rfl (op_q (q_move rfl (by decide)) ?_)
            refine list_cons rfl (op_q (q_move rfl (by decide)) ?_)
            refine list_cons rfl (op_q (q_assign rfl (by decide)) ?_)
            refine list_cons rfl (op_q (q_assign rfl (by decide)) ?_)
            refine list_nil ?_
            refine hK26 _ ?_; clear hK26 K26
            refine code_ret ?_
            refine ends_ret (cs := _) rfl rfl rfl rfl rfl ?_
            exact ⟨_, _, _, _, by omega, by omega, rfl, rfl⟩
          · skip
            (try simp only [Decidable.not_not] at h8)
            refine code_skip ?_
            refine hK24 _ ?_; clear hK24 K24
            refine code_seq (fun K27 hK27 => ?_)
            refine code_region ?_
            refine list_cons rfl (op_q (q_move rfl (by decide)) ?_)
            refine list_cons rfl (op_q (q_move rfl (by decide)) ?_)
            refine list_cons rfl (op_q (q_assign rfl (by decide)) ?_)
            refine list_cons rfl (op_q (q_assign rfl (by decide)) ?_)
            refine list_nil ?_
            refine hK27 _ ?_; clear hK27 K27
            refine code_ret ?_
            refine ends_ret (cs := _) rfl rfl rfl rfl rfl ?_
            exact ⟨_, _, _, _, by omega, by omega, rfl, rfl⟩

set_option maxRecDepth 4000 in
set_option maxHeartbeats 4000000 in
theorem DrawCounterRow_c (code : List UInt8) (hcode : code.length ≤ 9223372036854775807) : MCalls Tryd.prog 112 true none [.sl code.length (bytesP code)] fun rs _ => ∃ n k : Int, rs = [.val (.int .i64 n), .val (.int .i64 k)] := by
  refine mcalls_of_code (n := 12) az Tryd.func112 (by kernel_rfl) rfl rfl (Nat.le_of_ble_eq_true rfl) (by intro t u h; simp [Tryd.f112] at h) ?_
  refine code_seq (fun K1 hK1 => ?_)
  refine code_region ?_
  refine list_cons rfl (op_q (q_assign rfl (by decide)) ?_)
  refine list_cons rfl (op_q (q_assign rfl (by decide)) ?_)
  refine list_nil ?_
  refine hK1 _ ?_; clear hK1 K1
  refine code_seq (fun K2 hK2 => ?_)
  refine code_region ?_
  refine list_cons rfl (op_q (q_move rfl (by decide)) ?_)
  refine list_cons rfl (op_q (q_build_ext bt_74 (parts := [(0, .tmp 5)]) rfl rfl (by decide)) ?_)
  refine list_cons rfl (op_box rfl (.inr rfl) (by decide) (by decide) rfl ?_)
  refine list_cons rfl (op_q (q_assign rfl (by decide)) ?_)
  refine list_nil ?_
  refine hK2 _ ?_; clear hK2 K2
  refine code_seq (fun K3 hK3 => ?_)
  refine code_region ?_
  refine list_cons rfl (op_q (q_move rfl (by decide)) ?_)
  refine list_cons rfl (op_callM (counter_c code ?_ _ _ ?_ ?_) (.tmp 8) 7 [7, 4, 8] [] _ rfl rfl (by intro y hy; cases hy; exact ⟨rfl, (by intro t ht; simp only [List.mem_cons, List.not_mem_nil, or_false] at ht; rcases ht with rfl | rfl | rfl <;> rfl), (by intro s hs; simp only [List.mem_cons, List.not_mem_nil, or_false] at hs; (try cases hs))⟩) (by decide) (by decide) (by decide) rfl (fun _ => rfl) ?_)
  · first | assumption | omega | (simp; omega)
  · first | assumption | omega | (simp; omega)
  · first | assumption | omega | (simp; omega)
  rintro _ _ ⟨n, k, a2, s2, ha0, ha1, rfl, rfl⟩
  refine list_cons rfl (op_q (q_extract rfl rfl (by decide)) ?_)
  refine list_cons rfl (op_q (q_extract rfl rfl (by decide)) ?_)
  refine list_cons rfl (op_q (q_assign rfl (by decide)) ?_)
  refine list_cons rfl (op_q (q_assign rfl (by decide)) ?_)
  refine list_nil ?_
  refine hK3 _ ?_; clear hK3 K3
  refine codeT.imp (σ' := [(0, _), (2, _), (3, _), (4, _)]) ?_ (imp_covers ⟨rfl, rfl, rfl, rfl, trivial⟩)
  refine code_ret ?_
  refine ends_ret (cs := []) rfl rfl rfl rfl trivial ?_
  exact ⟨_, _, rfl⟩

set_option maxRecDepth 4000 in
set_option maxHeartbeats 4000000 in
theorem DrawStepChanges_c (code : List UInt8) (hcode : code.length ≤ 9223372036854775807) : MCalls Tryd.prog 52 true none [.sl code.length (bytesP code)] fun rs _ => ∃ n k : Int, rs = [.val (.int .i64 n), .val (.int .i64 k)] := by
  refine mcalls_of_code (n := 8) az Tryd.func52 (by kernel_rfl) rfl rfl (Nat.le_of_ble_eq_true rfl) (by intro t u h; simp [Tryd.f52] at h) ?_
  refine code_seq (fun K1 hK1 => ?_)
  refine code_region ?_
  refine list_cons rfl (op_q (q_assign rfl (by decide)) ?_)
  refine list_cons rfl (op_q (q_assign rfl (by decide)) ?_)
  refine list_nil ?_
  refine hK1 _ ?_; clear hK1 K1
  refine code_seq (fun K2 hK2 => ?_)
  refine code_region ?_
  refine list_cons rfl (op_q (q_move rfl (by decide)) ?_)
  refine list_cons rfl (op_callM (DrawCounterRow_c _ ?_) (.tmp 0) 0 [] [.tmp 4] _ rfl rfl (by intro y hy; cases hy) (by decide) (by decide) (by decide) rfl (by intro h; cases h) ?_)
  · first | assumption | omega | (simp; omega)
  rintro _ _ ⟨n, cells, rfl⟩
  refine list_cons rfl (op_q (q_extract rfl rfl (by decide)) ?_)
  refine list_cons rfl (op_q (q_extract rfl rfl (by decide)) ?_)
  refine list_cons rfl (op_q (q_assign rfl (by decide)) ?_)
  refine list_cons rfl (op_q (q_assign rfl (by decide)) ?_)
  refine list_nil ?_
  refine hK2 _ ?_; clear hK2 K2
  refine codeT.imp (σ' := [(0, _), (2, _), (3, _)]) ?_ (imp_covers ⟨rfl, rfl, rfl, trivial⟩)
  refine code_ret ?_
  refine ends_ret (cs := []) rfl rfl rfl rfl trivial ?_
  exact ⟨_, _, rfl⟩

set_option maxRecDepth 4000 in
set_option maxHeartbeats 4000000 in
theorem DrawRunChanges_c (code : List UInt8) (hcode : code.length ≤ 9223372036854775807) : MCalls Tryd.prog 44 true none [.sl code.length (bytesP code)] fun rs _ => ∃ n s k : Int, (-1 ≤ s ∧ s ≤ 1001) ∧ rs = [.val (.int .i64 n), .val (.int .i64 s), .val (.int .i64 k)] := by
  refine mcalls_of_code (n := 23) az Tryd.func44 (by kernel_rfl) rfl rfl (Nat.le_of_ble_eq_true rfl) (by intro t u h; simp [Tryd.f44] at h) ?_
  refine code_seq (fun K1 hK1 => ?_)
  refine code_region ?_
  refine list_cons rfl (op_q (q_assign rfl (by decide)) ?_)
  refine list_cons rfl (op_q (q_assign rfl (by decide)) ?_)
  refine list_cons rfl (op_q (q_assign rfl (by decide)) ?_)
  refine list_nil ?_
  refine hK1 _ ?_; clear hK1 K1
  refine code_seq (fun K2 hK2 => ?_)
  refine code_region ?_
  refine list_cons rfl (op_q (q_move rfl (by decide)) ?_)
  refine list_cons rfl (op_q (q_build_ext bt_74 (parts := [(0, .tmp 9)]) rfl rfl (by decide)) ?_)
  refine list_cons rfl (op_box rfl (.inr rfl) (by decide) (by decide) rfl ?_)
  refine list_cons rfl (op_q (q_assign rfl (by decide)) ?_)
  refine list_nil ?_
  refine hK2 _ ?_; clear hK2 K2
  refine code_seq (fun K3 hK3 => ?_)
  refine code_region ?_
  refine list_cons rfl (op_q (q_move rfl (by decide)) ?_)
  refine list_cons rfl (op_buildSlice sl_24 (parts := [(0, _), (1, _), (2, _), (3, _), (4, _), (5, _), (6, _), (7, _), (8, _), (9, _)]) rfl rfl rfl (by decide) (by decide) (by decide) rfl ?_)
  refine list_cons rfl (op_callM (among_c code ?_ _ _ ?_ ?_ ([1, 5, 10, 0, 100, 3, -1, 1000, 1001, 20]) (by decide) (by decide)) (.tmp 12) 11 [11, 5, 12] [.tmp 13] _ rfl rfl (by intro y hy; cases hy; exact ⟨rfl, (by intro t ht; simp only [List.mem_cons, List.not_mem_nil, or_false] at ht; rcases ht with rfl | rfl | rfl <;> rfl), (by intro s hs; simp only [List.mem_cons, List.not_mem_nil, or_false] at hs; subst hs; first | (simp [SV.labels]; done) | (simp [SV.labels, packS, SV.back]; done) | exact List.not_mem_nil)⟩) (by decide) (by decide) (by decide) rfl (fun _ => rfl) ?_)
  · first | assumption | omega | (simp; omega)
  · first | assumption | omega | (simp; omega)
  · first | assumption | omega | (simp; omega)
  rintro _ _ ⟨steps, a2, s2, hx, ha0, ha1, rfl, rfl⟩
  simp only [List.mem_cons, List.not_mem_nil, or_false] at hx
  refine list_cons rfl (op_q (q_assign rfl (by decide)) ?_)
  refine list_nil ?_
  refine hK3 _ ?_; clear hK3 K3
  refine codeT.imp (σ' := [(0, _), (2, _), (3, _), (4, _), (5, _), (6, _)]) ?_ (imp_covers ⟨rfl, rfl, rfl, rfl, rfl, rfl, trivial⟩)
  refine code_seq (fun K4 hK4 => ?_)
  refine code_region ?_
  refine list_cons rfl (op_q (q_move rfl (by decide)) ?_)
  refine list_cons rfl (op_callM (counter_c code ?_ _ _ ?_ ?_) (.tmp 16) 11 [5, 16] [] _ rfl rfl (by intro y hy; cases hy; exact ⟨rfl, (by intro t ht; simp only [List.mem_cons, List.not_mem_nil, or_false] at ht; rcases ht with rfl | rfl <;> rfl), (by intro s hs; simp only [List.mem_cons, List.not_mem_nil, or_false] at hs; (try cases hs))⟩) (by decide) (by decide) (by decide) rfl (fun _ => rfl) ?_)
  · first | assumption | omega | (simp; omega)
  · first | assumption | omega | (simp; omega)
  · first | assumption | omega | (simp; omega)
  rintro _ _ ⟨n, k, a2, s2, ha0, ha1, rfl, rfl⟩
  refine list_cons rfl (op_q (q_move rfl (by decide)) ?_)
  refine list_cons rfl (op_q (q_extract rfl rfl (by decide)) ?_)
  refine list_cons rfl (op_q (q_extract rfl rfl (by decide)) ?_)
  refine list_cons rfl (op_q (q_assign rfl (by decide)) ?_)
  refine list_cons rfl (op_q (q_assign rfl (by decide)) ?_)
  refine list_nil ?_
  refine hK4 _ ?_; clear hK4 K4
  refine codeT.imp (σ' := [(0, _), (2, _), (3, _), (4, _), (5, _), (6, _), (7, _), (8, _)]) ?_ (imp_covers ⟨rfl, rfl, rfl, rfl, rfl, rfl, rfl, rfl, trivial⟩)
  refine code_seq (fun K5 hK5 => ?_)
  refine code_region ?_
  refine list_cons rfl (op_q (q_move rfl (by decide)) ?_)
  refine list_cons rfl (op_q (q_move rfl (by decide)) ?_)
  refine list_cons rfl (op_q (q_move rfl (by decide)) ?_)
  refine list_cons rfl (op_q (q_assign rfl (by decide)) ?_)
  refine list_cons rfl (op_q (q_assign rfl (by decide)) ?_)
  refine list_cons rfl (op_q (q_assign rfl (by decide)) ?_)
  refine list_nil ?_
  refine hK5 _ ?_; clear hK5 K5
  refine code_ret ?_
  refine ends_ret (cs := []) rfl rfl rfl rfl trivial ?_
  exact ⟨_, _, _, by omega, rfl⟩

set_option maxRecDepth 4000 in
set_option maxHeartbeats 4000000 in
theorem DrawMostChanges_c (code : List UInt8) (hcode : code.length ≤ 9223372036854775807) : MCalls Tryd.prog 58 true none [.sl code.length (bytesP code)] fun rs _ => ∃ x : Int, (0 ≤ x ∧ x ≤ 7) ∧ rs = [.val (.int .i64 x)] := by
  refine mcalls_of_code (n := 9) az Tryd.func58 (by kernel_rfl) rfl rfl (Nat.le_of_ble_eq_true rfl) (by intro t u h; simp [Tryd.f58] at h) ?_
  refine code_seq (fun K1 hK1 => ?_)
  refine code_region ?_
  refine list_cons rfl (op_q (q_assign rfl (by decide)) ?_)
  refine list_nil ?_
  refine hK1 _ ?_; clear hK1 K1
  refine code_seq (fun K2 hK2 => ?_)
  refine code_region ?_
  refine list_cons rfl (op_q (q_move rfl (by decide)) ?_)
  refine list_cons rfl (op_q (q_build_ext bt_74 (parts := [(0, .tmp 4)]) rfl rfl (by decide)) ?_)
  refine list_cons rfl (op_box rfl (.inr rfl) (by decide) (by decide) rfl ?_)
  refine list_cons rfl (op_q (q_assign rfl (by decide)) ?_)
  refine list_nil ?_
  refine hK2 _ ?_; clear hK2 K2
  refine code_seq (fun K3 hK3 => ?_)
  refine code_region ?_
  refine list_cons rfl (op_q (q_move rfl (by decide)) ?_)
  refine list_cons rfl (op_callM (pick_c code ?_ _ _ ?_ ?_ _) (.tmp 7) 6 [6, 3, 7] [_] _ rfl rfl (by intro y hy; cases hy; exact ⟨rfl, (by intro t ht; simp only [List.mem_cons, List.not_mem_nil, or_false] at ht; rcases ht with rfl | rfl | rfl <;> rfl), (by intro s hs; simp only [List.mem_cons, List.not_mem_nil, or_false] at hs; subst hs; first | (simp [SV.labels]; done) | (simp [SV.labels, packS, SV.back]; done) | exact List.not_mem_nil)⟩) (by decide) (by decide) (by decide) rfl (fun _ => rfl) ?_)
  · first | assumption | omega | (simp; omega)
  · first | assumption | omega | (simp; omega)
  · first | assumption | omega | (simp; omega)
  rintro _ _ ⟨b, a2, s2, hb0, hb1, ha0, ha1, rfl, rfl⟩
  try have hp2 := p2_64 (k := b.toNat) (by omega)
  refine list_cons rfl (op_q (q_assign rfl (by decide)) ?_)
  refine list_nil ?_
  refine hK3 _ ?_; clear hK3 K3
  refine codeT.imp (σ' := [(0, _), (2, _), (3, _)]) ?_ (imp_covers ⟨rfl, rfl, rfl, trivial⟩)
  refine code_ret ?_
  refine ends_ret (cs := []) rfl rfl rfl rfl trivial ?_
  exact ⟨_, by omega, rfl⟩

set_option maxRecDepth 4000 in
set_option maxHeartbeats 4000000 in
theorem DrawFirstOver_c (code : List UInt8) (hcode : code.length ≤ 9223372036854775807) : MCalls Tryd.prog 61 true none [.sl code.length (bytesP code)] fun rs _ => ∃ n k ch : Int, rs = [.val (.int .i64 n), .val (.int .i64 k), .val (.int .i64 ch)] := by
  refine mcalls_of_code (n := 23) az Tryd.func61 (by kernel_rfl) rfl rfl (Nat.le_of_ble_eq_true rfl) (by intro t u h; simp [Tryd.f61] at h) ?_
  refine code_seq (fun K1 hK1 => ?_)
  refine code_region ?_
  refine list_cons rfl (op_q (q_assign rfl (by decide)) ?_)
  refine list_cons rfl (op_q (q_assign rfl (by decide)) ?_)
  refine list_cons rfl (op_q (q_assign rfl (by decide)) ?_)
  refine list_nil ?_
  refine hK1 _ ?_; clear hK1 K1
  refine code_seq (fun K2 hK2 => ?_)
  refine code_region ?_
  refine list_cons rfl (op_q (q_move rfl (by decide)) ?_)
  refine list_cons rfl (op_q (q_build_ext bt_74 (parts := [(0, .tmp 9)]) rfl rfl (by decide)) ?_)
  refine list_cons rfl (op_box rfl (.inr rfl) (by decide) (by decide) rfl ?_)
  refine list_cons rfl (op_q (q_assign rfl (by decide)) ?_)
  refine list_nil ?_
  refine hK2 _ ?_; clear hK2 K2
  refine code_seq (fun K3 hK3 => ?_)
  refine code_region ?_
  refine list_cons rfl (op_q (q_move rfl (by decide)) ?_)
  refine list_cons rfl (op_buildSlice sl_24 (parts := [(0, _), (1, _), (2, _), (3, _), (4, _), (5, _), (6, _), (7, _), (8, _), (9, _)]) rfl rfl rfl (by decide) (by decide) (by decide) rfl ?_)
  refine list_cons rfl (op_callM (among_c code ?_ _ _ ?_ ?_ ([1, 10, 0, 50, 500, -1, 3, 5000, 4611686018427387904, 100]) (by decide) (by decide)) (.tmp 12) 11 [11, 5, 12] [.tmp 13] _ rfl rfl (by intro y hy; cases hy; exact ⟨rfl, (by intro t ht; simp only [List.mem_cons, List.not_mem_nil, or_false] at ht; rcases ht with rfl | rfl | rfl <;> rfl), (by intro s hs; simp only [List.mem_cons, List.not_mem_nil, or_false] at hs; subst hs; first | (simp [SV.labels]; done) | (simp [SV.labels, packS, SV.back]; done) | exact List.not_mem_nil)⟩) (by decide) (by decide) (by decide) rfl (fun _ => rfl) ?_)
  · first | assumption | omega | (simp; omega)
  · first | assumption | omega | (simp; omega)
  · first | assumption | omega | (simp; omega)
  rintro _ _ ⟨ch0, a2, s2, -, ha0, ha1, rfl, rfl⟩
  refine list_cons rfl (op_q (q_assign rfl (by decide)) ?_)
  refine list_nil ?_
  refine hK3 _ ?_; clear hK3 K3
  refine codeT.imp (σ' := [(0, _), (2, _), (3, _), (4, _), (5, _), (6, _)]) ?_ (imp_covers ⟨rfl, rfl, rfl, rfl, rfl, rfl, trivial⟩)
  refine code_seq (fun K4 hK4 => ?_)
  refine code_region ?_
  refine list_cons rfl (op_q (q_move rfl (by decide)) ?_)
  refine list_cons rfl (op_callM (counter_c code ?_ _ _ ?_ ?_) (.tmp 16) 11 [5, 16] [] _ rfl rfl (by intro y hy; cases hy; exact ⟨rfl, (by intro t ht; simp only [List.mem_cons, List.not_mem_nil, or_false] at ht; rcases ht with rfl | rfl <;> rfl), (by intro s hs; simp only [List.mem_cons, List.not_mem_nil, or_false] at hs; (try cases hs))⟩) (by decide) (by decide) (by decide) rfl (fun _ => rfl) ?_)
  · first | assumption | omega | (simp; omega)
  · first | assumption | omega | (simp; omega)
  · first | assumption | omega | (simp; omega)
  rintro _ _ ⟨n, k, a2, s2, ha0, ha1, rfl, rfl⟩
  refine list_cons rfl (op_q (q_move rfl (by decide)) ?_)
  refine list_cons rfl (op_q (q_extract rfl rfl (by decide)) ?_)
  refine list_cons rfl (op_q (q_extract rfl rfl (by decide)) ?_)
  refine list_cons rfl (op_q (q_assign rfl (by decide)) ?_)
  refine list_cons rfl (op_q (q_assign rfl (by decide)) ?_)
  refine list_nil ?_
  refine hK4 _ ?_; clear hK4 K4
  refine codeT.imp (σ' := [(0, _), (2, _), (3, _), (4, _), (5, _), (6, _), (7, _), (8, _)]) ?_ (imp_covers ⟨rfl, rfl, rfl, rfl, rfl, rfl, rfl, rfl, trivial⟩)
  refine code_seq (fun K5 hK5 => ?_)
  refine code_region ?_
  refine list_cons rfl (op_q (q_move rfl (by decide)) ?_)
  refine list_cons rfl (op_q (q_move rfl (by decide)) ?_)
  refine list_cons rfl (op_q (q_move rfl (by decide)) ?_)
  refine list_cons rfl (op_q (q_assign rfl (by decide)) ?_)
  refine list_cons rfl (op_q (q_assign rfl (by decide)) ?_)
  refine list_cons rfl (op_q (q_assign rfl (by decide)) ?_)
  refine list_nil ?_
  refine hK5 _ ?_; clear hK5 K5
  refine code_ret ?_
  refine ends_ret (cs := []) rfl rfl rfl rfl trivial ?_
  exact ⟨_, _, _, rfl⟩

end Go.Proofs.YtjbbijlbenkgcaaDoor
namespace Go.Proofs.YtjbbijlbenkgcaaDoor.LvTy
open Go.RowKit

def az (u : TypeId) : Nat := match u with  | _ => 0

theorem sl_22 : SlTy Tryd.prog 22 5 1 1 [.int .u8 0] := slTy_of Tryd.underlying22 (z := .int .u8 0) (by kernel_rfl) rfl (by decide) (by decide) rfl
theorem sl_24 : SlTy Tryd.prog 24 3 1 8 [.int .i64 0] := slTy_of Tryd.underlying24 (z := .int .i64 0) (by kernel_rfl) rfl (by decide) (by decide) rfl
theorem one_3 : OneTy Tryd.prog 3 := oneTy_of Tryd.underlying3 rfl (by kernel_rfl)

end Go.Proofs.YtjbbijlbenkgcaaDoor.LvTy
namespace Go.Proofs.YtjbbijlbenkgcaaDoor
open Go.RowKit LvTy
set_option linter.unusedVariables false
set_option linter.unusedSimpArgs false

theorem flat_td (code : List UInt8) (a b : Nat) : PV.flatL (List.take a (List.drop b (bytesP code))) = true := by
  unfold bytesP
  rw [← List.map_drop, ← List.map_take]; exact flat_map _ (fun _ => rfl) _
theorem bytesP_cut (code : List UInt8) (n : Int) (k : Nat) (h0 : 0 ≤ n) (h1 : n ≤ 255) (hk : k = code.length - n.toNat) : (List.take (k * 1) (List.drop (n.toNat * 1) (bytesP code))) ++ [PV.int .u8 n] = bytesP (code.drop n.toNat ++ [UInt8.ofNat n.toNat]) := by
  subst hk
  rw [Nat.mul_one, Nat.mul_one]
  unfold bytesP
  rw [List.map_append, List.map_drop, List.take_of_length_le (by simp)]
  congr 1
  have h : (UInt8.ofNat n.toNat).toNat = n.toNat := by
    rw [UInt8.toNat_ofNat']; omega
  simp only [List.map_cons, List.map_nil, h]
  rw [show ((n.toNat : Nat) : Int) = n by omega]

set_option maxRecDepth 4000 in
theorem vBig_c (code : List UInt8) : PCalls Tryd.prog 6 [.sl code.length (bytesP code)] (· = [.val (.bool (decide (65536 < code.length)))]) := by
  refine pcalls_of_code (n := 6) az Tryd.func6 (by kernel_rfl) rfl rfl (Nat.le_of_ble_eq_true rfl) (by intro t u h; simp [Tryd.f6] at h) ?_
  refine code_seq (fun K1 hK1 => ?_)
  refine code_region ?_
  refine list_cons rfl (op_q (q_assign rfl (by decide)) ?_)
  refine list_nil ?_
  refine hK1 _ ?_; clear hK1 K1
  refine code_seq (fun K2 hK2 => ?_)
  refine code_region ?_
  refine list_cons rfl (op_q (q_move rfl (by decide)) ?_)
  refine list_cons rfl (op_q (q_len_sl Tryd.underlying22 rfl rfl (by decide)) ?_)
  refine list_cons rfl (op_q (q_gt rfl rfl (by decide)) ?_)
  refine list_cons rfl (op_q (q_assign rfl (by decide)) ?_)
  refine list_nil ?_
  refine hK2 _ ?_; clear hK2 K2
  refine code_ret ?_
  refine ends_ret (cs := []) rfl rfl rfl rfl trivial ?_
  first | rfl | (congr 3; exact decide_eq_decide.mpr (by omega))

set_option maxRecDepth 4000 in
theorem vCut_c (code : List UInt8) (hcode : code.length ≤ 65536) (k : Int) (h0 : 0 ≤ k) (h1 : k ≤ 255) : PCalls Tryd.prog 11 [.sl code.length (bytesP code), .int .i64 k] (fun rs => ∃ c2 : List UInt8, c2.length ≤ 65537 ∧ rs = [.own 0 5 1 c2.length (bytesP c2)]) := by
  refine pcalls_of_code (n := 20) az Tryd.func11 (by kernel_rfl) rfl rfl (Nat.le_of_ble_eq_true rfl) (by intro t u h; simp [Tryd.f11] at h) ?_
  have hbl : (bytesP code).length = code.length := by simp [bytesP]
  refine code_seq (fun K1 hK1 => ?_)
  refine code_region ?_
  refine list_cons rfl (op_q (q_assign rfl (by decide)) ?_)
  refine list_nil ?_
  refine hK1 _ ?_; clear hK1 K1
  refine code_seq (fun K2 hK2 => ?_)
  refine code_seq (fun K3 hK3 => ?_)
  refine code_region ?_
  refine list_cons rfl (op_q (q_move rfl (by decide)) ?_)
  refine list_cons rfl (op_q (q_move rfl (by decide)) ?_)
  refine list_cons rfl (op_q (q_len_sl Tryd.underlying22 rfl rfl (by decide)) ?_)
  refine list_cons rfl (op_q (q_gt rfl rfl (by decide)) ?_)
  refine list_nil ?_
  refine hK3 _ ?_; clear hK3 K3
  refine code_cond_d rfl (fun h1 => ?_) (fun h1 => ?_)
  · skip
    (try simp only [Decidable.not_not] at h1)
    refine code_region ?_
    refine list_cons rfl (op_q (q_move rfl (by decide)) ?_)
    refine list_cons rfl (op_q (q_len_sl Tryd.underlying22 rfl rfl (by decide)) ?_)
    refine list_cons rfl (op_q (q_assign rfl (by decide)) ?_)
    refine list_nil ?_
    refine hK2 _ ?_; clear hK2 K2
    refine code_seq (fun K4 hK4 => ?_)
    refine code_region ?_
    refine list_cons rfl (op_buildSlice sl_22 (parts := []) rfl rfl rfl (by decide) (by decide) (by decide) rfl ?_)
    refine list_cons rfl (op_q (q_move rfl (by decide)) ?_)
    refine list_cons rfl (op_q (q_move rfl (by decide)) ?_)
    refine list_cons rfl (op_q (q_slice_sl sl_22 rfl rfl ⟨_, rfl⟩ rfl (by omega) (by omega) (by omega) rfl (by decide)) ?_)
    refine list_cons rfl (op_append_gen sl_22 (l := 11) (.inl rfl) rfl rfl (l2 := none) (.inl ⟨rfl, (by first | rfl | exact flat_map _ (fun _ => rfl) _ | exact flat_td _ _ _)⟩) (by first | rfl | (simp [bytesP]; done) | (simp [bytesP]; omega) | omega) (by omega) (by decide) (by decide) (by decide) ?_)
    refine list_cons rfl (op_q (q_move rfl (by decide)) ?_)
    refine list_cons rfl (op_q (by first | exact q_conv8 (by rw [Tryd.underlying3]; rfl) Tryd.underlying5 rfl (by decide) (by omega) (by omega) | exact q_conv (by rw [Tryd.underlying3]; rfl) Tryd.underlying5 rfl (by decide)) ?_)
    refine list_cons rfl (op_buildSlice sl_22 (parts := [(0, .tmp 17)]) rfl rfl rfl (by decide) (by decide) (by decide) rfl ?_)
    refine list_cons rfl (op_append_gen sl_22 (l := 11) (.inl rfl) rfl rfl (l2 := none) (.inl ⟨rfl, (by first | rfl | exact flat_map _ (fun _ => rfl) _ | exact flat_td _ _ _)⟩) (by first | rfl | (simp [bytesP]; done) | (simp [bytesP]; omega) | omega) (by omega) (by decide) (by decide) (by decide) ?_)
    refine list_cons rfl (op_q (q_assign rfl (by decide)) ?_)
    refine list_nil ?_
    refine hK4 _ ?_; clear hK4 K4
    refine codeT.imp (σ' := [(0, _), (1, _), (4, _)]) ?_ (imp_covers ⟨rfl, rfl, rfl, trivial⟩)
    refine code_ret ?_
    refine ends_ret (cs := []) rfl rfl rfl rfl trivial ?_
    refine ⟨code.drop ((code.length : Nat) : Int).toNat ++ [UInt8.ofNat ((code.length : Nat) : Int).toNat], by simp, ?_⟩
    rw [← bytesP_cut code (code.length : Int) (((code.length : Nat) : Int).toNat - ((code.length : Nat) : Int).toNat) (by omega) (by omega) (by omega), show (code.drop ((code.length : Nat) : Int).toNat ++ [UInt8.ofNat ((code.length : Nat) : Int).toNat]).length = 0 + (((code.length : Nat) : Int).toNat - ((code.length : Nat) : Int).toNat) + 1 by simp]
    rfl
  · skip
    (try simp only [Decidable.not_not] at h1)
    refine code_skip ?_
    refine hK2 _ ?_; clear hK2 K2
    refine code_seq (fun K5 hK5 => ?_)
    refine code_region ?_
    refine list_cons rfl (op_buildSlice sl_22 (parts := []) rfl rfl rfl (by decide) (by decide) (by decide) rfl ?_)
    refine list_cons rfl (op_q (q_move rfl (by decide)) ?_)
    refine list_cons rfl (op_q (q_move rfl (by decide)) ?_)
    refine list_cons rfl (op_q (q_slice_sl sl_22 rfl rfl ⟨_, rfl⟩ rfl (by omega) (by omega) (by omega) rfl (by decide)) ?_)
    refine list_cons rfl (op_append_gen sl_22 (l := 11) (.inl rfl) rfl rfl (l2 := none) (.inl ⟨rfl, (by first | rfl | exact flat_map _ (fun _ => rfl) _ | exact flat_td _ _ _)⟩) (by first | rfl | (simp [bytesP]; done) | (simp [bytesP]; omega) | omega) (by omega) (by decide) (by decide) (by decide) ?_)
    refine list_cons rfl (op_q (q_move rfl (by decide)) ?_)
    refine list_cons rfl (op_q (by first | exact q_conv8 (by rw [Tryd.underlying3]; rfl) Tryd.underlying5 rfl (by decide) (by omega) (by omega) | exact q_conv (by rw [Tryd.underlying3]; rfl) Tryd.underlying5 rfl (by decide)) ?_)
    refine list_cons rfl (op_buildSlice sl_22 (parts := [(0, .tmp 17)]) rfl rfl rfl (by decide) (by decide) (by decide) rfl ?_)
    refine list_cons rfl (op_append_gen sl_22 (l := 11) (.inl rfl) rfl rfl (l2 := none) (.inl ⟨rfl, (by first | rfl | exact flat_map _ (fun _ => rfl) _ | exact flat_td _ _ _)⟩) (by first | rfl | (simp [bytesP]; done) | (simp [bytesP]; omega) | omega) (by omega) (by decide) (by decide) (by decide) ?_)
    refine list_cons rfl (op_q (q_assign rfl (by decide)) ?_)
    refine list_nil ?_
    refine hK5 _ ?_; clear hK5 K5
    refine codeT.imp (σ' := [(0, _), (1, _), (4, _)]) ?_ (imp_covers ⟨rfl, rfl, rfl, trivial⟩)
    refine code_ret ?_
    refine ends_ret (cs := []) rfl rfl rfl rfl trivial ?_
    refine ⟨code.drop k.toNat ++ [UInt8.ofNat k.toNat], by simp; omega, ?_⟩
    rw [← bytesP_cut code k (((code.length : Nat) : Int).toNat - k.toNat) (by omega) (by omega) (by omega), show (code.drop k.toNat ++ [UInt8.ofNat k.toNat]).length = 0 + (((code.length : Nat) : Int).toNat - k.toNat) + 1 by simp]
    rfl

set_option maxRecDepth 4000 in
theorem vInts_c (a b : List Int) (ha : a.length ≤ 4611686018427387904) : PCalls Tryd.prog 17 [.sl a.length (a.map (.int .i64)), .sl b.length (b.map (.int .i64))] (· = [.val (.bool (decide (a = b)))]) := by
  refine pcalls_of_code (n := 26) az Tryd.func17 (by kernel_rfl) rfl rfl (Nat.le_of_ble_eq_true rfl) (by intro t u h; simp [Tryd.f17] at h) ?_
  refine code_seq (fun K1 hK1 => ?_)
  refine code_region ?_
  refine list_cons rfl (op_q (q_assign rfl (by decide)) ?_)
  refine list_nil ?_
  refine hK1 _ ?_; clear hK1 K1
  refine code_seq (fun K2 hK2 => ?_)
  refine code_seq (fun K3 hK3 => ?_)
  refine code_region ?_
  refine list_cons rfl (op_q (q_move rfl (by decide)) ?_)
  refine list_cons rfl (op_q (q_len_sl Tryd.underlying24 rfl rfl (by decide)) ?_)
  refine list_cons rfl (op_q (q_move rfl (by decide)) ?_)
  refine list_cons rfl (op_q (q_len_sl Tryd.underlying24 rfl rfl (by decide)) ?_)
  refine list_cons rfl (op_q (q_ne rfl rfl (by decide)) ?_)
  refine list_nil ?_
  refine hK3 _ ?_; clear hK3 K3
  refine code_cond_d rfl (fun h1 => ?_) (fun h1 => ?_)
  · skip
    (try simp only [Decidable.not_not] at h1)
    refine code_seq (fun K4 hK4 => ?_)
    refine code_region ?_
    refine list_cons rfl (op_q (q_assign rfl (by decide)) ?_)
    refine list_nil ?_
    refine hK4 _ ?_; clear hK4 K4
    refine code_ret ?_
    refine then_r ?_; clear hK2 K2
    refine ends_ret (cs := []) rfl rfl rfl rfl trivial ?_
    rw [decide_eq_false (fun e => h1 (by rw [e]))]
  · skip
    (try simp only [Decidable.not_not] at h1)
    refine code_skip ?_
    refine hK2 _ ?_; clear hK2 K2
    refine code_seq (fun K5 hK5 => ?_)
    refine code_seq (fun K6 hK6 => ?_)
    refine code_region ?_
    refine list_cons rfl (op_q (q_assign rfl (by decide)) ?_)
    refine list_nil ?_
    refine hK6 _ ?_; clear hK6 K6
    refine code_block ?_
    refine code_loop (X := Bool × Int) (fun x => [(0, .par 0 (.sl a.length (a.map (.int .i64)))), (1, .par 1 (.sl b.length (b.map (.int .i64)))), (4, .val (.bool x.1)), (5, .val (.int .i64 x.2))]) (fun x => 0 ≤ x.2 ∧ x.2 ≤ a.length ∧ ∀ j, j < x.2.toNat → a.getD j 0 = b.getD j 0) (fun x => a.length - x.2.toNat) (_, _) (imp_covers ⟨rfl, rfl, rfl, rfl, trivial⟩) ?_ ?_
    · (try dsimp only)
      refine ⟨by omega, by omega, fun j hj => by simp at hj⟩
    · intro x hI
      obtain ⟨t4, i⟩ := x
      replace hI : 0 ≤ i ∧ i ≤ a.length ∧ ∀ j, j < i.toNat → a.getD j 0 = b.getD j 0 := hI
      show codeT _ _ _ [(0, .par 0 (.sl a.length (a.map (.int .i64)))), (1, .par 1 (.sl b.length (b.map (.int .i64)))), (4, .val (.bool t4)), (5, .val (.int .i64 i))] _
      obtain ⟨i1, i2, i3⟩ := hI
      refine code_seq (fun K7 hK7 => ?_)
      refine code_seq (fun K8 hK8 => ?_)
      refine code_region ?_
      refine list_cons rfl (op_q (q_move rfl (by decide)) ?_)
      refine list_cons rfl (op_q (q_move rfl (by decide)) ?_)
      refine list_cons rfl (op_q (q_len_sl Tryd.underlying24 rfl rfl (by decide)) ?_)
      refine list_cons rfl (op_q (q_lt rfl rfl (by decide)) ?_)
      refine list_nil ?_
      refine hK8 _ ?_; clear hK8 K8
      refine code_cond_d rfl (fun h2 => ?_) (fun h2 => ?_)
      · skip
        (try simp only [Decidable.not_not] at h2)
        refine code_skip ?_
        refine hK7 _ ?_; clear hK7 K7
        refine code_seq (fun K9 hK9 => ?_)
        refine code_block ?_
        refine code_seq (fun K10 hK10 => ?_)
        refine code_draw (by kernel_rfl) (by kernel_rfl) ?_
        refine draw_q rfl (q_move rfl (by decide)) ?_
        refine draw_q rfl (q_move rfl (by decide)) ?_
        refine draw_q rfl (q_indexAddr_rd sl_24 rfl (.inl ⟨_, rfl, rfl⟩) rfl (by omega) (by omega) (by decide)) ?_
        refine draw_q rfl (q_load_rd one_3 rfl (.inl ⟨_, (by first | rfl | exact congrArg (SV.rpar _) (drop_map1 _ 0 _ (by first | omega | (simp; omega)))), rfl⟩) (by decide)) ?_
        refine draw_q rfl (q_move rfl (by decide)) ?_
        refine draw_q rfl (q_move rfl (by decide)) ?_
        refine draw_q rfl (q_indexAddr_rd sl_24 rfl (.inl ⟨_, rfl, rfl⟩) rfl (by omega) (by omega) (by decide)) ?_
        refine draw_q rfl (q_load_rd one_3 rfl (.inl ⟨_, (by first | rfl | exact congrArg (SV.rpar _) (drop_map1 _ 0 _ (by first | omega | (simp; omega)))), rfl⟩) (by decide)) ?_
        refine draw_q rfl (q_ne rfl rfl (by decide)) ?_
        refine draw_nil ?_
        refine hK10 _ ?_; clear hK10 K10
        refine codeT.imp (σ' := [(0, _), (1, _), (4, _), (5, _), (25, _)]) ?_ (imp_covers ⟨rfl, rfl, rfl, rfl, rfl, trivial⟩)
        refine code_cond_d rfl (fun h3 => ?_) (fun h3 => ?_)
        · skip
          (try simp only [Decidable.not_not] at h3)
          refine code_seq (fun K11 hK11 => ?_)
          refine code_region ?_
          refine list_cons rfl (op_q (q_assign rfl (by decide)) ?_)
          refine list_nil ?_
          refine hK11 _ ?_; clear hK11 K11
          refine code_ret ?_
          refine blk_r ?_
          refine then_r ?_; clear hK9 K9
          refine then_r ?_
          refine blk_r ?_
          refine then_r ?_; clear hK5 K5
          refine ends_ret (cs := []) rfl rfl rfl rfl trivial ?_
          rw [decide_eq_false (list_ne_ofI 0 i.toNat h3)]
        · skip
          (try simp only [Decidable.not_not] at h3)
          refine code_skip ?_
          refine blk_n ?_
          refine hK9 _ ?_; clear hK9 K9
          refine code_region ?_
          refine list_cons rfl (op_q (q_move rfl (by decide)) ?_)
          refine list_cons rfl (op_q (by first | exact q_addI rfl rfl (by decide) (by omega) (by omega) | exact q_ib rfl rfl rfl (by decide)) ?_)
          refine list_cons rfl (op_q (q_assign rfl (by decide)) ?_)
          refine list_nil ?_
          refine then_n ⟨(_, _), imp_covers ⟨rfl, rfl, rfl, rfl, trivial⟩, ?_, ?_⟩
          · (try dsimp only)
            refine ⟨by omega, by omega, fun j hj => ?_⟩
            by_cases e : j = i.toNat
            · subst e; exact h3
            · exact i3 j (by omega)
          · (try dsimp only); omega
      · skip
        (try simp only [Decidable.not_not] at h2)
        refine code_exit ?_
        refine then_x ?_; clear hK7 K7
        refine then_x ?_
        refine blk_hit ?_
        refine hK5 _ ?_; clear hK5 K5
        refine code_seq (fun K12 hK12 => ?_)
        refine code_region ?_
        refine list_cons rfl (op_q (q_assign rfl (by decide)) ?_)
        refine list_nil ?_
        refine hK12 _ ?_; clear hK12 K12
        refine code_ret ?_
        refine ends_ret (cs := []) rfl rfl rfl rfl trivial ?_
        rw [decide_eq_true (list_eq_ofI 0 a b (by omega) fun j hj => i3 j (by omega))]

end Go.Proofs.YtjbbijlbenkgcaaDoor
namespace Go.Proofs.YtjbbijlbenkgcaaDoor.LCTy
open Go.RowKit

def az (u : TypeId) : Nat := match u with | 70 => 7 | _ => 0

theorem sl_24 : SlTy Tryd.prog 24 3 1 8 [.int .i64 0] := slTy_of Tryd.underlying24 (z := .int .i64 0) (by kernel_rfl) rfl (by decide) (by decide) rfl
theorem one_3 : OneTy Tryd.prog 3 := oneTy_of Tryd.underlying3 rfl (by kernel_rfl)
theorem sl_60 : SlTy Tryd.prog 60 70 7 56 [.int .i64 0, .int .i64 0, .int .i64 0, .int .i64 0, .int .i64 0, .int .i64 0, .int .i64 0] := slTy_of Tryd.underlying60 (z := .agg #[.int .i64 0, .int .i64 0, .int .i64 0, .int .i64 0, .int .i64 0, .int .i64 0, .int .i64 0]) (by kernel_rfl) rfl (by decide) (by decide) rfl
theorem agg_70 : AggTy Tryd.prog 70 7 := aggTy_of Tryd.underlying70 rfl (by kernel_rfl)
theorem eqty_3 : EqTy Tryd.prog 3 [.int .i64] 1 := eqTy_int one_3 Tryd.underlying3
theorem eqty_70 : EqTy Tryd.prog 70 (List.replicate 7 [.int .i64]).flatten 2 := eqTy_array agg_70 Tryd.underlying70 (by kernel_rfl) (by kernel_rfl) eqty_3
theorem eqg_70 : Tryd.prog.eqGuardType Tryd.prog.depth 70 = false := by kernel_rfl

end Go.Proofs.YtjbbijlbenkgcaaDoor.LCTy
namespace Go.Proofs.YtjbbijlbenkgcaaDoor
open Go.RowKit LCTy
set_option linter.unusedVariables false
set_option linter.unusedSimpArgs false

theorem chgK_app (a b : List Int) (x y : Int) : ∀ i, i ≤ a.length → i ≤ b.length → chgK (a ++ [x]) (b ++ [y]) i = chgK a b i
  | 0, _, _ => rfl
  | i + 1, h1, h2 => by
    have ea : (a ++ [x]).getD i 0 = a.getD i 0 := by rw [List.getD_eq_getElem?_getD, List.getElem?_append_left (by omega), ← List.getD_eq_getElem?_getD]
    have eb : (b ++ [y]).getD i 0 = b.getD i 0 := by rw [List.getD_eq_getElem?_getD, List.getElem?_append_left (by omega), ← List.getD_eq_getElem?_getD]
    rw [chgK, chgK, ea, eb, chgK_app a b x y i (by omega) (by omega)]
theorem chgK_snoc {a b : List Int} {k : Nat} (x y : Int) (ha : a.length = k) (hb : b.length = k) : chgK (a ++ [x]) (b ++ [y]) (k + 1) = chgK a b k + ((cnt7 (x.toNat ^^^ y.toNat) : Nat) : Int) := by
  have ea : (a ++ [x]).getD k 0 = x := by rw [List.getD_eq_getElem?_getD, List.getElem?_append_right (by omega), ha, Nat.sub_self]; rfl
  have eb : (b ++ [y]).getD k 0 = y := by rw [List.getD_eq_getElem?_getD, List.getElem?_append_right (by omega), hb, Nat.sub_self]; rfl
  rw [chgK, ea, eb, chgK_app a b x y k (by omega) (by omega)]
theorem chgK_self (a : List Int) : ∀ k, chgK a a k = 0
  | 0 => rfl
  | k + 1 => by rw [chgK, chgK_self a k, Nat.xor_self]; rfl
def stN (k n : Nat) : Int := chgK (rowK k n) (rowK k (n + 1)) k
theorem dig9 : ((cnt7 ((digT.getD 9 0).toNat ^^^ (digT.getD 0 0).toNat) : Nat) : Int) = 2 := by decide
theorem dig5 (d : Nat) (h : d < 9) : ((cnt7 ((digT.getD d 0).toNat ^^^ (digT.getD (d + 1) 0).toNat) : Nat) : Int) ≤ 5 := by
  have : d = 0 ∨ d = 1 ∨ d = 2 ∨ d = 3 ∨ d = 4 ∨ d = 5 ∨ d = 6 ∨ d = 7 ∨ d = 8 := by omega
  rcases this with rfl | rfl | rfl | rfl | rfl | rfl | rfl | rfl | rfl <;> decide
theorem stN_succ (k n : Nat) : stN (k + 1) n = chgK (rowK k (n / 10)) (rowK k ((n + 1) / 10)) k + ((cnt7 ((digT.getD (n % 10) 0).toNat ^^^ (digT.getD ((n + 1) % 10) 0).toNat) : Nat) : Int) := by
  unfold stN
  rw [rowK, rowK, chgK_snoc _ _ (rowK_len _ _) (rowK_len _ _)]
theorem stN_le : ∀ k n : Nat, 1 ≤ k → stN k n ≤ 2 * k + 3
  | 0, _, h => by omega
  | k + 1, n, _ => by
    rw [stN_succ]
    by_cases e : n % 10 = 9
    · rw [e, show (n + 1) % 10 = 0 by omega, show (n + 1) / 10 = n / 10 + 1 by omega, dig9]
      by_cases hk : 1 ≤ k
      · have := stN_le k (n / 10) hk
        unfold stN at this
        omega
      · rw [show k = 0 by omega, chgK]; omega
    · rw [show (n + 1) / 10 = n / 10 by omega, show (n + 1) % 10 = n % 10 + 1 by omega, chgK_self]
      have := dig5 (n % 10) (by omega)
      omega
theorem rowK_top : ∀ k, rowK k (10 ^ k) = rowK k 0
  | 0 => rfl
  | k + 1 => by rw [rowK, rowK, Nat.pow_succ, Nat.mul_div_cancel _ (by decide), Nat.mul_mod_left, rowK_top k]
theorem rowC_next {n k : Int} (h : Cn n k) : rowC (nextC n k) k = rowK k.toNat (n.toNat + 1) := by
  have h2 := h.2
  by_cases e : n + 1 < top4 k
  · rw [nextC_in h e, rowC, show (n + 1).toNat = n.toNat + 1 by omega]
  · rw [nextC_top h e, rowC, show n.toNat + 1 = 10 ^ k.toNat by unfold top4 at e h2; omega, rowK_top]; rfl
theorem stepC_st {n k : Int} (h : Cn n k) : stepC n k = stN k.toNat n.toNat := by
  rw [stepC, rowC_next h]; rfl
theorem stepC_most {n k : Int} (h : Cn n k) : stepC n k ≤ ((2 * k.toNat + 3 : Nat) : Int) := by
  have h1 := h.1
  have := stN_le k.toNat n.toNat (by omega)
  rw [stepC_st h]; omega
theorem most_ok {k : Int} (h : 1 ≤ k ∧ k ≤ 6) : Cn (mostN k.toNat) k ∧ stepC (mostN k.toNat) k = ((2 * k.toNat + 3 : Nat) : Int) := by
  have : k = 1 ∨ k = 2 ∨ k = 3 ∨ k = 4 ∨ k = 5 ∨ k = 6 := by omega
  rcases this with rfl | rfl | rfl | rfl | rfl | rfl <;> refine ⟨by decide, by decide⟩
/-- Sums. -/
def psum (l : List Int) : Nat → Int
  | 0 => 0
  | c + 1 => psum l c + l.getD c 0
theorem psum_le {l : List Int} {m : Int} (h : ∀ s, 0 ≤ l.getD s 0 ∧ l.getD s 0 ≤ m) : ∀ c : Nat, 0 ≤ psum l c ∧ psum l c ≤ m * c
  | 0 => by simp [psum]
  | c + 1 => by
    have ih := psum_le h c
    have hc := h c
    rw [psum, show m * ((c + 1 : Nat) : Int) = m * c + m by rw [show ((c + 1 : Nat) : Int) = (c : Int) + 1 by omega, Int.mul_add, Int.mul_one]]
    omega
def sB (f : Nat → Int) : Nat → Int
  | 0 => 0
  | c + 1 => sB f c + f c
theorem psum_fW (n k : Int) (t : Nat) : ∀ c, c ≤ k.toNat * 7 → psum (fW n k t 0) c = sB (vW n k t) c
  | 0, _ => rfl
  | c + 1, h => by
    rw [psum, sB, psum_fW n k t c (by omega), fW_at n k t 0 (by omega), if_neg (Nat.not_lt_zero c)]
theorem sB_add (f g : Nat → Int) : ∀ c, sB (fun s => f s + g s) c = sB f c + sB g c
  | 0 => rfl
  | c + 1 => by rw [sB, sB, sB, sB_add f g c]; omega
theorem sB_zero : ∀ c, sB (fun _ => 0) c = 0
  | 0 => rfl
  | c + 1 => by rw [sB, sB_zero c]; rfl
theorem cnt_bt (x : Nat) (h : x < 128) : ((cnt7 x : Nat) : Int) = bt1 x 0 + bt1 x 1 + bt1 x 2 + bt1 x 3 + bt1 x 4 + bt1 x 5 + bt1 x 6 := by
  have k : below 128 (fun x => decide (((cnt7 x : Nat) : Int) = bt1 x 0 + bt1 x 1 + bt1 x 2 + bt1 x 3 + bt1 x 4 + bt1 x 5 + bt1 x 6)) = true := by kernel_rfl
  exact of_decide_eq_true (below_ok k x h)
theorem sB_wbt (n k : Int) (t : Nat) : ∀ j : Nat, j ≤ k.toNat → sB (wbt n k t) (j * 7) = chgK (rowC (atC n k t) k) (rowC (nextC (atC n k t) k) k) j
  | 0, _ => rfl
  | j + 1, h => by
    have ih := sB_wbt n k t j (by omega)
    have e : ∀ b, b < 7 → wbt n k t (j * 7 + b) = bt1 (xrC n k t j) b := fun b hb => wbt_at n k t hb
    have hx : ((cnt7 (((rowC (atC n k t) k).getD j 0).toNat ^^^ ((rowC (nextC (atC n k t) k) k).getD j 0).toNat) : Nat) : Int) = _ := cnt_bt (xrC n k t j) (xrC_lt n k t (by omega))
    rw [chgK, hx, ← ih, show (j + 1) * 7 = j * 7 + 7 by omega]
    show sB (wbt n k t) (j * 7) + wbt n k t (j * 7 + 0) + wbt n k t (j * 7 + 1) + wbt n k t (j * 7 + 2) + wbt n k t (j * 7 + 3) + wbt n k t (j * 7 + 4) + wbt n k t (j * 7 + 5) + wbt n k t (j * 7 + 6) = _
    rw [e 0 (by decide), e 1 (by decide), e 2 (by decide), e 3 (by decide), e 4 (by decide), e 5 (by decide), e 6 (by decide)]
    omega
theorem sB_run (n k : Int) : ∀ t : Nat, sB (vW n k t) (k.toNat * 7) = runC n k t
  | 0 => sB_zero _
  | t + 1 => by
    have e : vW n k (t + 1) = fun s => vW n k t s + wbt n k t s := rfl
    rw [e, sB_add, sB_run n k t, sB_wbt n k t k.toNat (Nat.le_refl _), runC]; rfl
theorem wear_sum (n k : Int) (t : Nat) : psum (fW n k t 0) (k.toNat * 7) = runC n k t := by
  rw [psum_fW n k t _ (Nat.le_refl _), sB_run]
theorem runC_1 {n k : Int} (h : Cn n k) : runC n k 1 = stepC n k := by
  rw [runC, atC_0 h]; show (0 : Int) + _ = _; omega
theorem rowI_len (n k : Int) : (if Cn n k then rowC n k else []).length ≤ 6 := by
  split
  · rename_i h
    have := h.1
    unfold rowC; rw [rowK_len]; omega
  · simp
theorem wear_norm (a b : Nat) {n k s : Int} (h : Cn n k ∧ 0 ≤ s ∧ s ≤ 1000) : some (SV.own a b 7 (if Cn n k ∧ 0 ≤ s ∧ s ≤ 1000 then k.toNat else 0) ((if Cn n k ∧ 0 ≤ s ∧ s ≤ 1000 then fW n k s.toNat 0 else []).map (PV.int .i64))) = some (SV.own a b 7 k.toNat ((fW n k s.toNat 0).map (PV.int .i64))) := by
  rw [if_pos h, if_pos h]
theorem digOf_T (d : Nat) (h : d < 10) : digOf (digT.getD d 0) = (d : Int) := by
  have := digOf_at (d := (d : Int)) (by omega) (by omega) (c := digT.getD d 0) (by rw [Int.toNat_natCast])
  exact this
theorem numF_snoc (l : List Int) (x : Int) : numF (l ++ [x]) = 10 * numF l + digOf x := by simp [numF]
theorem rowK_num : ∀ k n : Nat, n < 10 ^ k → numF (rowK k n) = (n : Int)
  | 0, n, h => by
    have : n = 0 := by simpa using h
    subst this; rfl
  | k + 1, n, h => by
    rw [rowK, numF_snoc, rowK_num k (n / 10) (by rw [Nat.pow_succ] at h; omega), digOf_T _ (by omega)]; omega
theorem rowK_digs : ∀ k n : Nat, DigsP (rowK k n)
  | 0, _, x, h => by cases h
  | k + 1, n, x, h => by
    simp only [rowK, List.mem_append, List.mem_singleton] at h
    rcases h with h | rfl
    · exact rowK_digs k _ x h
    · rw [digOf_T _ (by omega)]; omega
section
variable {n k ch : Int}
theorem overC_get {i : Nat} (h : overC n k ch = some i) : i ≤ 1000 ∧ ch ≤ runC n k i ∧ ∀ j, j < i → ¬ ch ≤ runC n k j := by
  unfold overC at h
  rw [List.find?_eq_some_iff_getElem] at h
  obtain ⟨h1, m, hm, h2, h3⟩ := h
  have hm' : m < 1001 := by simpa using hm
  have e : m = i := by simpa using h2
  subst e
  refine ⟨by omega, by simpa using h1, fun j hj => ?_⟩
  have := h3 j hj
  simpa using this
theorem over_some (h : Cn n k ∧ 0 ≤ ch ∧ (overC n k ch).isSome = true) : ∃ i : Nat, i ≤ 1000 ∧ (if Cn n k ∧ 0 ≤ ch then overV (overC n k ch) else 0) = (i : Int) ∧ ch ≤ runC n k i ∧ ∀ j, j < i → ¬ ch ≤ runC n k j := by
  obtain ⟨i, hi⟩ := Option.isSome_iff_exists.1 h.2.2
  have g := overC_get hi
  exact ⟨i, g.1, by rw [if_pos ⟨h.1, h.2.1⟩, hi]; rfl, g.2.1, g.2.2⟩
theorem over1 (h : Cn n k ∧ 0 ≤ ch ∧ (overC n k ch).isSome = true) : Cn n k ∧ (0 ≤ if Cn n k ∧ 0 ≤ ch then overV (overC n k ch) else 0) ∧ (if Cn n k ∧ 0 ≤ ch then overV (overC n k ch) else 0) ≤ 1000 := by
  obtain ⟨i, h1, h2, h3, h4⟩ := over_some h
  rw [h2]; exact ⟨h.1, by omega, by omega⟩
theorem over2 (h : Cn n k ∧ 0 ≤ ch ∧ (overC n k ch).isSome = true) : ¬ (if Cn n k ∧ (0 ≤ if Cn n k ∧ 0 ≤ ch then overV (overC n k ch) else 0) ∧ (if Cn n k ∧ 0 ≤ ch then overV (overC n k ch) else 0) ≤ 1000 then runC n k (if Cn n k ∧ 0 ≤ ch then overV (overC n k ch) else 0).toNat else 0) < ch := by
  obtain ⟨i, h1, h2, h3, h4⟩ := over_some h
  rw [h2, if_pos ⟨h.1, by omega, by omega⟩, Int.toNat_natCast]; omega
theorem over3 (h : Cn n k ∧ 0 ≤ ch ∧ (overC n k ch).isSome = true) (h0 : 0 < if Cn n k ∧ 0 ≤ ch then overV (overC n k ch) else 0) : Cn n k ∧ 0 ≤ (if Cn n k ∧ 0 ≤ ch then overV (overC n k ch) else 0) - 1 ∧ (if Cn n k ∧ 0 ≤ ch then overV (overC n k ch) else 0) - 1 ≤ 1000 := by
  obtain ⟨i, h1, h2, h3, h4⟩ := over_some h
  rw [h2] at h0 ⊢; exact ⟨h.1, by omega, by omega⟩
theorem over4 (h : Cn n k ∧ 0 ≤ ch ∧ (overC n k ch).isSome = true) (h0 : 0 < if Cn n k ∧ 0 ≤ ch then overV (overC n k ch) else 0) : ¬ ch ≤ if Cn n k ∧ 0 ≤ (if Cn n k ∧ 0 ≤ ch then overV (overC n k ch) else 0) - 1 ∧ (if Cn n k ∧ 0 ≤ ch then overV (overC n k ch) else 0) - 1 ≤ 1000 then runC n k ((if Cn n k ∧ 0 ≤ ch then overV (overC n k ch) else 0) - 1).toNat else 0 := by
  obtain ⟨i, h1, h2, h3, h4⟩ := over_some h
  rw [h2] at h0 ⊢
  rw [if_pos ⟨h.1, by omega, by omega⟩]
  exact h4 _ (by omega)
variable {x0 : Int}
theorem most1 (h : 1 ≤ x0 ∧ x0 ≤ 6) : Cn (if 1 ≤ x0 ∧ x0 ≤ 6 then mostN x0.toNat else 0) x0 := by rw [if_pos h]; exact (most_ok h).1
theorem most2 (h : 1 ≤ x0 ∧ x0 ≤ 6) : (if Cn (if 1 ≤ x0 ∧ x0 ≤ 6 then mostN x0.toNat else 0) x0 then stepC (if 1 ≤ x0 ∧ x0 ≤ 6 then mostN x0.toNat else 0) x0 else 0) = if 1 ≤ x0 ∧ x0 ≤ 6 then ((2 * x0.toNat + 3 : Nat) : Int) else 0 := by
  rw [if_pos (most1 h), if_pos h, if_pos h]; exact (most_ok h).2
theorem most3 (h : 1 ≤ x0 ∧ x0 ≤ 6) (hn : Cn n k) (e : k = x0) : ¬ (if 1 ≤ x0 ∧ x0 ≤ 6 then ((2 * x0.toNat + 3 : Nat) : Int) else 0) < if Cn n k then stepC n k else 0 := by
  subst e
  rw [if_pos h, if_pos hn]
  have := stepC_most hn
  omega
theorem row1 (h : Cn n k) : RowP (if Cn n k then rowC n k else []) ∧ DigsP (if Cn n k then rowC n k else []) ∧ 0 < (if Cn n k then rowC n k else []).length := by
  have := h.1
  rw [if_pos h]
  exact ⟨rowC_row (by omega), rowK_digs _ _, by unfold rowC; rw [rowK_len]; omega⟩
theorem row2 (h : Cn n k) : (if RowP (if Cn n k then rowC n k else []) ∧ DigsP (if Cn n k then rowC n k else []) then numF (if Cn n k then rowC n k else []) else 0) = n := by
  have g := row1 h
  rw [if_pos ⟨g.1, g.2.1⟩, if_pos h]
  have h2 := h.2
  unfold rowC
  rw [rowK_num _ _ (by unfold top4 at h2; omega)]; omega
theorem row3 (h : Cn n k) : (((if Cn n k then rowC n k else []).length : Nat) : Int) = k := by
  have := h.1
  rw [if_pos h]; exact rowC_len n (by omega)
end
theorem wearI_len (n s k : Int) : (if Cn n k ∧ 0 ≤ s ∧ s ≤ 1000 then fW n k s.toNat 0 else []).length = (if Cn n k ∧ 0 ≤ s ∧ s ≤ 1000 then k.toNat else 0) * 7 := by
  split
  · rw [fW_len]
  · rfl
theorem wearI_le (n s k : Int) : (if Cn n k ∧ 0 ≤ s ∧ s ≤ 1000 then k.toNat else 0) ≤ 1048576 := by
  split
  · rename_i h; have := h.1.1; omega
  · omega
theorem psum_bd (n k : Int) (t c : Nat) (ht : t ≤ 1000) (hc : c ≤ 42) : 0 ≤ psum (fW n k t 0) c ∧ psum (fW n k t 0) c ≤ 42042 := by
  have h := psum_le (fW_le n k t 0) c
  have h2 : ((t : Int) + 1) * (c : Int) ≤ 1001 * 42 := Int.mul_le_mul (by omega) (by omega) (by omega) (by omega)
  omega

set_option maxRecDepth 4000 in
theorem rInts_c (a b : List Int) (ha : a.length ≤ 4611686018427387904) : PCalls Tryd.prog 57 [.sl a.length (a.map (.int .i64)), .sl b.length (b.map (.int .i64))] (· = [.val (.bool (decide (a = b)))]) := by
  refine pcalls_of_code (n := 26) az Tryd.func57 (by kernel_rfl) rfl rfl (Nat.le_of_ble_eq_true rfl) (by intro t u h; simp [Tryd.f57] at h) ?_
  refine code_seq (fun K1 hK1 => ?_)
  refine code_region ?_
  refine list_cons rfl (op_q (q_assign rfl (by decide)) ?_)
  refine list_nil ?_
  refine hK1 _ ?_; clear hK1 K1
  refine code_seq (fun K2 hK2 => ?_)
  refine code_seq (fun K3 hK3 => ?_)
  refine code_region ?_
  refine list_cons rfl (op_q (q_move rfl (by decide)) ?_)
  refine list_cons rfl (op_q (q_len_sl Tryd.underlying24 rfl rfl (by decide)) ?_)
  refine list_cons rfl (op_q (q_move rfl (by decide)) ?_)
  refine list_cons rfl (op_q (q_len_sl Tryd.underlying24 rfl rfl (by decide)) ?_)
  refine list_cons rfl (op_q (q_ne rfl rfl (by decide)) ?_)
  refine list_nil ?_
  refine hK3 _ ?_; clear hK3 K3
  refine code_cond_d rfl (fun h1 => ?_) (fun h1 => ?_)
  · skip
    (try simp only [Decidable.not_not] at h1)
    refine code_seq (fun K4 hK4 => ?_)
    refine code_region ?_
    refine list_cons rfl (op_q (q_assign rfl (by decide)) ?_)
    refine list_nil ?_
    refine hK4 _ ?_; clear hK4 K4
    refine code_ret ?_
    refine then_r ?_; clear hK2 K2
    refine ends_ret (cs := []) rfl rfl rfl rfl trivial ?_
    rw [decide_eq_false (fun e => h1 (by rw [e]))]
  · skip
    (try simp only [Decidable.not_not] at h1)
    refine code_skip ?_
    refine hK2 _ ?_; clear hK2 K2
    refine code_seq (fun K5 hK5 => ?_)
    refine code_seq (fun K6 hK6 => ?_)
    refine code_region ?_
    refine list_cons rfl (op_q (q_assign rfl (by decide)) ?_)
    refine list_nil ?_
    refine hK6 _ ?_; clear hK6 K6
    refine code_block ?_
    refine code_loop (X := Bool × Int) (fun x => [(0, .par 0 (.sl a.length (a.map (.int .i64)))), (1, .par 1 (.sl b.length (b.map (.int .i64)))), (4, .val (.bool x.1)), (5, .val (.int .i64 x.2))]) (fun x => 0 ≤ x.2 ∧ x.2 ≤ a.length ∧ ∀ j, j < x.2.toNat → a.getD j 0 = b.getD j 0) (fun x => a.length - x.2.toNat) (_, _) (imp_covers ⟨rfl, rfl, rfl, rfl, trivial⟩) ?_ ?_
    · (try dsimp only)
      refine ⟨by omega, by omega, fun j hj => by simp at hj⟩
    · intro x hI
      obtain ⟨t4, i⟩ := x
      replace hI : 0 ≤ i ∧ i ≤ a.length ∧ ∀ j, j < i.toNat → a.getD j 0 = b.getD j 0 := hI
      show codeT _ _ _ [(0, .par 0 (.sl a.length (a.map (.int .i64)))), (1, .par 1 (.sl b.length (b.map (.int .i64)))), (4, .val (.bool t4)), (5, .val (.int .i64 i))] _
      obtain ⟨i1, i2, i3⟩ := hI
      refine code_seq (fun K7 hK7 => ?_)
      refine code_seq (fun K8 hK8 => ?_)
      refine code_region ?_
      refine list_cons rfl (op_q (q_move rfl (by decide)) ?_)
      refine list_cons rfl (op_q (q_move rfl (by decide)) ?_)
      refine list_cons rfl (op_q (q_len_sl Tryd.underlying24 rfl rfl (by decide)) ?_)
      refine list_cons rfl (op_q (q_lt rfl rfl (by decide)) ?_)
      refine list_nil ?_
      refine hK8 _ ?_; clear hK8 K8
      refine code_cond_d rfl (fun h2 => ?_) (fun h2 => ?_)
      · skip
        (try simp only [Decidable.not_not] at h2)
        refine code_skip ?_
        refine hK7 _ ?_; clear hK7 K7
        refine code_seq (fun K9 hK9 => ?_)
        refine code_block ?_
        refine code_seq (fun K10 hK10 => ?_)
        refine code_draw (by kernel_rfl) (by kernel_rfl) ?_
        refine draw_q rfl (q_move rfl (by decide)) ?_
        refine draw_q rfl (q_move rfl (by decide)) ?_
        refine draw_q rfl (q_indexAddr_rd sl_24 rfl (.inl ⟨_, rfl, rfl⟩) rfl (by omega) (by omega) (by decide)) ?_
        refine draw_q rfl (q_load_rd one_3 rfl (.inl ⟨_, (by first | rfl | exact congrArg (SV.rpar _) (drop_map1 _ 0 _ (by first | omega | (simp; omega)))), rfl⟩) (by decide)) ?_
        refine draw_q rfl (q_move rfl (by decide)) ?_
        refine draw_q rfl (q_move rfl (by decide)) ?_
        refine draw_q rfl (q_indexAddr_rd sl_24 rfl (.inl ⟨_, rfl, rfl⟩) rfl (by omega) (by omega) (by decide)) ?_
        refine draw_q rfl (q_load_rd one_3 rfl (.inl ⟨_, (by first | rfl | exact congrArg (SV.rpar _) (drop_map1 _ 0 _ (by first | omega | (simp; omega)))), rfl⟩) (by decide)) ?_
        refine draw_q rfl (q_ne rfl rfl (by decide)) ?_
        refine draw_nil ?_
        refine hK10 _ ?_; clear hK10 K10
        refine codeT.imp (σ' := [(0, _), (1, _), (4, _), (5, _), (25, _)]) ?_ (imp_covers ⟨rfl, rfl, rfl, rfl, rfl, trivial⟩)
        refine code_cond_d rfl (fun h3 => ?_) (fun h3 => ?_)
        · skip
          (try simp only [Decidable.not_not] at h3)
          refine code_seq (fun K11 hK11 => ?_)
          refine code_region ?_
          refine list_cons rfl (op_q (q_assign rfl (by decide)) ?_)
          refine list_nil ?_
          refine hK11 _ ?_; clear hK11 K11
          refine code_ret ?_
          refine blk_r ?_
          refine then_r ?_; clear hK9 K9
          refine then_r ?_
          refine blk_r ?_
          refine then_r ?_; clear hK5 K5
          refine ends_ret (cs := []) rfl rfl rfl rfl trivial ?_
          rw [decide_eq_false (list_ne_ofI 0 i.toNat h3)]
        · skip
          (try simp only [Decidable.not_not] at h3)
          refine code_skip ?_
          refine blk_n ?_
          refine hK9 _ ?_; clear hK9 K9
          refine code_region ?_
          refine list_cons rfl (op_q (q_move rfl (by decide)) ?_)
          refine list_cons rfl (op_q (by first | exact q_addI rfl rfl (by decide) (by omega) (by omega) | exact q_ib rfl rfl rfl (by decide)) ?_)
          refine list_cons rfl (op_q (q_assign rfl (by decide)) ?_)
          refine list_nil ?_
          refine then_n ⟨(_, _), imp_covers ⟨rfl, rfl, rfl, rfl, trivial⟩, ?_, ?_⟩
          · (try dsimp only)
            refine ⟨by omega, by omega, fun j hj => ?_⟩
            by_cases e : j = i.toNat
            · subst e; exact h3
            · exact i3 j (by omega)
          · (try dsimp only); omega
      · skip
        (try simp only [Decidable.not_not] at h2)
        refine code_exit ?_
        refine then_x ?_; clear hK7 K7
        refine then_x ?_
        refine blk_hit ?_
        refine hK5 _ ?_; clear hK5 K5
        refine code_seq (fun K12 hK12 => ?_)
        refine code_region ?_
        refine list_cons rfl (op_q (q_assign rfl (by decide)) ?_)
        refine list_nil ?_
        refine hK12 _ ?_; clear hK12 K12
        refine code_ret ?_
        refine ends_ret (cs := []) rfl rfl rfl rfl trivial ?_
        rw [decide_eq_true (list_eq_ofI 0 a b (by omega) fun j hj => i3 j (by omega))]

set_option maxRecDepth 4000 in
theorem rBig_c (code : List UInt8) : PCalls Tryd.prog 43 [.sl code.length (bytesP code)] (· = [.val (.bool (decide (65536 < code.length)))]) := by
  refine pcalls_of_code (n := 6) az Tryd.func43 (by kernel_rfl) rfl rfl (Nat.le_of_ble_eq_true rfl) (by intro t u h; simp [Tryd.f43] at h) ?_
  refine code_seq (fun K1 hK1 => ?_)
  refine code_region ?_
  refine list_cons rfl (op_q (q_assign rfl (by decide)) ?_)
  refine list_nil ?_
  refine hK1 _ ?_; clear hK1 K1
  refine code_seq (fun K2 hK2 => ?_)
  refine code_region ?_
  refine list_cons rfl (op_q (q_move rfl (by decide)) ?_)
  refine list_cons rfl (op_q (q_len_sl Tryd.underlying22 rfl rfl (by decide)) ?_)
  refine list_cons rfl (op_q (q_gt rfl rfl (by decide)) ?_)
  refine list_cons rfl (op_q (q_assign rfl (by decide)) ?_)
  refine list_nil ?_
  refine hK2 _ ?_; clear hK2 K2
  refine code_ret ?_
  refine ends_ret (cs := []) rfl rfl rfl rfl trivial ?_
  first | rfl | (congr 3; exact decide_eq_decide.mpr (by omega))

theorem row7_at (l : List Int) {j : Nat} (h : j * 7 + 7 ≤ l.length) : List.take 7 (List.drop (j * 7) (l.map (PV.int .i64))) = [.int .i64 (l.getD (j * 7 + 0) 0), .int .i64 (l.getD (j * 7 + 1) 0), .int .i64 (l.getD (j * 7 + 2) 0), .int .i64 (l.getD (j * 7 + 3) 0), .int .i64 (l.getD (j * 7 + 4) 0), .int .i64 (l.getD (j * 7 + 5) 0), .int .i64 (l.getD (j * 7 + 6) 0)] := by
  rw [← List.map_drop, ← List.map_take]
  have e : (l.drop (j * 7)).take 7 = [l.getD (j * 7 + 0) 0, l.getD (j * 7 + 1) 0, l.getD (j * 7 + 2) 0, l.getD (j * 7 + 3) 0, l.getD (j * 7 + 4) 0, l.getD (j * 7 + 5) 0, l.getD (j * 7 + 6) 0] := by
    refine list_eq_ofI 0 _ _ (by simp; omega) fun k hk => ?_
    have hk7 : k < 7 := by simp at hk; omega
    have : (List.take 7 (List.drop (j * 7) l)).getD k 0 = l.getD (j * 7 + k) 0 := by
      rw [List.getD_eq_getElem?_getD, List.getElem?_take, if_pos hk7, List.getElem?_drop, ← List.getD_eq_getElem?_getD]
    rw [this]
    have : k = 0 ∨ k = 1 ∨ k = 2 ∨ k = 3 ∨ k = 4 ∨ k = 5 ∨ k = 6 := by omega
    rcases this with rfl | rfl | rfl | rfl | rfl | rfl | rfl <;> rfl
  rw [e]; rfl

set_option maxRecDepth 4000 in
theorem rSevens_c (l : List Int) (m : Nat) (hl : l.length = m * 7) (hm : m ≤ 1048576) : PCalls Tryd.prog 49 [.sl m (l.map (.int .i64)), .sl m (l.map (.int .i64))] (· = [.val (.bool true)]) := by
  refine pcalls_of_code (n := 26) az Tryd.func49 (by kernel_rfl) rfl rfl (Nat.le_of_ble_eq_true rfl) (by intro t u h; simp [Tryd.f49] at h) ?_
  refine code_seq (fun K1 hK1 => ?_)
  refine code_region ?_
  refine list_cons rfl (op_q (q_assign rfl (by decide)) ?_)
  refine list_nil ?_
  refine hK1 _ ?_; clear hK1 K1
  refine code_seq (fun K2 hK2 => ?_)
  refine code_seq (fun K3 hK3 => ?_)
  refine code_region ?_
  refine list_cons rfl (op_q (q_move rfl (by decide)) ?_)
  refine list_cons rfl (op_q (q_len_sl Tryd.underlying60 rfl rfl (by decide)) ?_)
  refine list_cons rfl (op_q (q_move rfl (by decide)) ?_)
  refine list_cons rfl (op_q (q_len_sl Tryd.underlying60 rfl rfl (by decide)) ?_)
  refine list_cons rfl (op_q (q_ne rfl rfl (by decide)) ?_)
  refine list_nil ?_
  refine hK3 _ ?_; clear hK3 K3
  refine code_cond_d rfl (fun h1 => ?_) (fun h1 => ?_)
  · skip
    (try simp only [Decidable.not_not] at h1)
    refine code_seq (fun K4 hK4 => ?_)
    refine code_region ?_
    refine list_cons rfl (op_q (q_assign rfl (by decide)) ?_)
    refine list_nil ?_
    refine hK4 _ ?_; clear hK4 K4
    refine code_ret ?_
    refine then_r ?_; clear hK2 K2
    refine ends_ret (cs := []) rfl rfl rfl rfl trivial ?_
    first | rfl | exact absurd rfl h1 | exact absurd ⟨rfl, rfl, rfl, rfl, rfl, rfl, rfl, trivial⟩ h1 | exact absurd trivial h1
  · skip
    (try simp only [Decidable.not_not] at h1)
    refine code_skip ?_
    refine hK2 _ ?_; clear hK2 K2
    refine code_seq (fun K5 hK5 => ?_)
    refine code_seq (fun K6 hK6 => ?_)
    refine code_region ?_
    refine list_cons rfl (op_q (q_assign rfl (by decide)) ?_)
    refine list_nil ?_
    refine hK6 _ ?_; clear hK6 K6
    refine code_block ?_
    refine code_loop (X := Bool × Int) (fun x => [(0, .par 0 (.sl m (l.map (.int .i64)))), (1, .par 1 (.sl m (l.map (.int .i64)))), (4, .val (.bool x.1)), (5, .val (.int .i64 x.2))]) (fun x => 0 ≤ x.2 ∧ x.2 ≤ m) (fun x => m - x.2.toNat) (_, _) (imp_covers ⟨rfl, rfl, rfl, rfl, trivial⟩) ?_ ?_
    · (try dsimp only)
      exact ⟨by omega, by omega⟩
    · intro x hI
      obtain ⟨t4, i⟩ := x
      replace hI : 0 ≤ i ∧ i ≤ m := hI
      show codeT _ _ _ [(0, .par 0 (.sl m (l.map (.int .i64)))), (1, .par 1 (.sl m (l.map (.int .i64)))), (4, .val (.bool t4)), (5, .val (.int .i64 i))] _
      obtain ⟨i1, i2⟩ := hI
      refine code_seq (fun K7 hK7 => ?_)
      refine code_seq (fun K8 hK8 => ?_)
      refine code_region ?_
      refine list_cons rfl (op_q (q_move rfl (by decide)) ?_)
      refine list_cons rfl (op_q (q_move rfl (by decide)) ?_)
      refine list_cons rfl (op_q (q_len_sl Tryd.underlying60 rfl rfl (by decide)) ?_)
      refine list_cons rfl (op_q (q_lt rfl rfl (by decide)) ?_)
      refine list_nil ?_
      refine hK8 _ ?_; clear hK8 K8
      refine code_cond_d rfl (fun h2 => ?_) (fun h2 => ?_)
      · skip
        (try simp only [Decidable.not_not] at h2)
        refine code_skip ?_
        refine hK7 _ ?_; clear hK7 K7
        refine code_seq (fun K9 hK9 => ?_)
        refine code_block ?_
        refine code_seq (fun K10 hK10 => ?_)
        refine code_draw (by kernel_rfl) (by kernel_rfl) ?_
        refine draw_q rfl (q_move rfl (by decide)) ?_
        refine draw_q rfl (q_move rfl (by decide)) ?_
        refine draw_q rfl (q_indexAddr_rd sl_60 rfl (.inl ⟨_, rfl, rfl⟩) rfl (by omega) (by omega) (by decide)) ?_
        refine draw_q rfl (q_load_rd_aggE agg_70 rfl (.inl ⟨_, rfl⟩) (by first | decide | omega | exact Nat.le_refl _ | (simp; done) | (simp; omega)) (row7_at l (by omega)) rfl (by decide)) ?_
        refine draw_q rfl (q_move rfl (by decide)) ?_
        refine draw_q rfl (q_move rfl (by decide)) ?_
        refine draw_q rfl (q_indexAddr_rd sl_60 rfl (.inl ⟨_, rfl, rfl⟩) rfl (by omega) (by omega) (by decide)) ?_
        refine draw_q rfl (q_load_rd_aggE agg_70 rfl (.inl ⟨_, rfl⟩) (by first | decide | omega | exact Nat.le_refl _ | (simp; done) | (simp; omega)) (row7_at l (by omega)) rfl (by decide)) ?_
        refine draw_q rfl (q_aggne (by decide) agg_70 eqty_70 eqg_70 rfl rfl (by first | exact ⟨_, _, rfl, ⟨_, rfl⟩, ⟨_, _, rfl, ⟨_, rfl⟩, ⟨_, _, rfl, ⟨_, rfl⟩, ⟨_, _, rfl, ⟨_, rfl⟩, ⟨_, _, rfl, ⟨_, rfl⟩, ⟨_, _, rfl, ⟨_, rfl⟩, ⟨_, _, rfl, ⟨_, rfl⟩, trivial⟩⟩⟩⟩⟩⟩⟩) (by first | exact ⟨_, _, rfl, ⟨_, rfl⟩, ⟨_, _, rfl, ⟨_, rfl⟩, ⟨_, _, rfl, ⟨_, rfl⟩, ⟨_, _, rfl, ⟨_, rfl⟩, ⟨_, _, rfl, ⟨_, rfl⟩, ⟨_, _, rfl, ⟨_, rfl⟩, ⟨_, _, rfl, ⟨_, rfl⟩, trivial⟩⟩⟩⟩⟩⟩⟩) rfl rfl (by decide)) ?_
        refine draw_nil ?_
        refine hK10 _ ?_; clear hK10 K10
        refine codeT.imp (σ' := [(0, _), (1, _), (4, _), (5, _), (25, _)]) ?_ (imp_covers ⟨rfl, rfl, rfl, rfl, rfl, trivial⟩)
        refine code_cond_d rfl (fun h3 => ?_) (fun h3 => ?_)
        · skip
          (try simp only [Decidable.not_not] at h3)
          refine code_seq (fun K11 hK11 => ?_)
          refine code_region ?_
          refine list_cons rfl (op_q (q_assign rfl (by decide)) ?_)
          refine list_nil ?_
          refine hK11 _ ?_; clear hK11 K11
          refine code_ret ?_
          refine blk_r ?_
          refine then_r ?_; clear hK9 K9
          refine then_r ?_
          refine blk_r ?_
          refine then_r ?_; clear hK5 K5
          refine ends_ret (cs := []) rfl rfl rfl rfl trivial ?_
          first | rfl | exact absurd rfl h3 | exact absurd ⟨rfl, rfl, rfl, rfl, rfl, rfl, rfl, trivial⟩ h3 | exact absurd trivial h3
        · skip
          (try simp only [Decidable.not_not] at h3)
          refine code_skip ?_
          refine blk_n ?_
          refine hK9 _ ?_; clear hK9 K9
          refine code_region ?_
          refine list_cons rfl (op_q (q_move rfl (by decide)) ?_)
          refine list_cons rfl (op_q (by first | exact q_addI rfl rfl (by decide) (by omega) (by omega) | exact q_ib rfl rfl rfl (by decide)) ?_)
          refine list_cons rfl (op_q (q_assign rfl (by decide)) ?_)
          refine list_nil ?_
          refine then_n ⟨(_, _), imp_covers ⟨rfl, rfl, rfl, rfl, trivial⟩, ?_, ?_⟩
          · (try dsimp only)
            exact ⟨by omega, by omega⟩
          · (try dsimp only); omega
      · skip
        (try simp only [Decidable.not_not] at h2)
        refine code_exit ?_
        refine then_x ?_; clear hK7 K7
        refine then_x ?_
        refine blk_hit ?_
        refine hK5 _ ?_; clear hK5 K5
        refine code_seq (fun K12 hK12 => ?_)
        refine code_region ?_
        refine list_cons rfl (op_q (q_assign rfl (by decide)) ?_)
        refine list_nil ?_
        refine hK12 _ ?_; clear hK12 K12
        refine code_ret ?_
        refine ends_ret (cs := []) rfl rfl rfl rfl trivial ?_
        first | rfl | exact absurd rfl h2 | exact absurd ⟨rfl, rfl, rfl, rfl, rfl, rfl, rfl, trivial⟩ h2 | exact absurd trivial h2

end Go.Proofs.YtjbbijlbenkgcaaDoor
