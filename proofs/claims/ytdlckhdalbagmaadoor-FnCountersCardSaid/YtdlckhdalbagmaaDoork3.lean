/- Contracts of functions, walked over the pure layer; each says for which arguments. -/
import Derived.Test.YtdlckhdalbagmaaDoork3Ty
import Derived.Test.YtdlckhdalbagmaaDoorTf
import Derived.Test.YtdlckhdalbagmaaDoork1
namespace Go.Proofs.YtdlckhdalbagmaaDoor
open Go.RowKit k3Ty
set_option linter.unusedVariables false
set_option linter.unusedSimpArgs false

theorem iand_255 (x : Int) : 0 ≤ iand .u64 x 255 ∧ iand .u64 x 255 ≤ 255 := by
  unfold iand
  rw [BitVec.toNat_and, show (BitVec.ofInt IntKind.u64.bits 255).toNat = 255 from rfl]
  have h : (BitVec.ofInt IntKind.u64.bits x).toNat &&& 255 ≤ 255 := Nat.and_le_right
  rw [IntWalk.u64_in _ ⟨by omega, by omega⟩]
  omega
theorem getD_mem {l : List Int} {k : Nat} (h : k < l.length) : l.getD k 0 ∈ l := by
  rw [List.getD_eq_getElem?_getD, List.getElem?_eq_getElem h]; exact List.getElem_mem h
theorem p2_64 {k : Nat} (h : k ≤ 6) : p2 k ≤ 64 := by
  have : p2 k ≤ p2 6 := Nat.pow_le_pow_right (by omega) h
  exact this
theorem xor7c {x y : Int} (hx : 0 ≤ x ∧ x ≤ 127) (hy : 0 ≤ y ∧ y ≤ 127) : 0 ≤ ((x.toNat ^^^ y.toNat : Nat) : Int) ∧ ((x.toNat ^^^ y.toNat : Nat) : Int) ≤ 127 := by
  have h := @Nat.xor_lt_two_pow x.toNat y.toNat 7 (by omega) (by omega)
  omega
theorem iandw_255 (x : Int) : 0 ≤ IntKind.i64.wrap (iand .u64 x 255) ∧ IntKind.i64.wrap (iand .u64 x 255) ≤ 255 := by
  have h := iand_255 x
  rw [wrap_in (by omega) (by omega)]; exact h

set_option maxRecDepth 4000 in
theorem next_c (code : List UInt8) (hcode : code.length ≤ 9223372036854775807) (a s : Int) (ha : 0 ≤ a) (ha2 : a ≤ 4611686018427387904) : MCalls Tryd.prog 151 false (some (.box 66 [.sl code.length (bytesP code), .int .i64 a, .int .u64 s])) [] fun rs cs => ∃ b s2 : Int, 0 ≤ b ∧ b ≤ 255 ∧ rs = [.val (.int .i64 b)] ∧ cs = [.sl code.length (bytesP code), .int .i64 (a + 1), .int .u64 s2] := by
  refine mcalls_of_code (n := 62) az Tryd.func151 (by kernel_rfl) rfl rfl (Nat.le_of_ble_eq_true rfl) (by intro t u h; simp [Tryd.f151] at h) ?_
  refine code_seq (fun K1 hK1 => ?_)
  refine code_region ?_
  refine list_cons rfl (op_q (q_assign rfl (by decide)) ?_)
  refine list_nil ?_
  refine hK1 _ ?_; clear hK1 K1
  refine code_seq (fun K2 hK2 => ?_)
  refine code_region ?_
  refine list_cons rfl (op_q (q_assign rfl (by decide)) ?_)
  refine list_nil ?_
  refine hK2 _ ?_; clear hK2 K2
  refine code_seq (fun K3 hK3 => ?_)
  refine code_seq (fun K4 hK4 => ?_)
  refine code_draw (by kernel_rfl) (by kernel_rfl) ?_
  refine draw_q rfl (q_move rfl (by decide)) ?_
  refine draw_q rfl (q_nilCheck rfl rfl (by decide)) ?_
  refine draw_q rfl (q_fieldAddr fi_66_1 rfl rfl (by decide)) ?_
  refine draw_q rfl (q_load one_3 0 rfl rfl rfl (by first | rfl | exact get_map1 _ 0 _ (by first | omega | (simp; omega))) (by decide)) ?_
  refine draw_q rfl (q_move rfl (by decide)) ?_
  refine draw_q rfl (q_nilCheck rfl rfl (by decide)) ?_
  refine draw_q rfl (q_fieldAddr fi_66_0 rfl rfl (by decide)) ?_
  refine draw_q rfl (q_load one_22 0 rfl rfl rfl (by first | rfl | exact get_map1 _ [] _ (by first | omega | (simp; omega))) (by decide)) ?_
  refine draw_q rfl (q_len_sl Tryd.underlying22 rfl rfl (by decide)) ?_
  refine draw_q rfl (q_lt rfl rfl (by decide)) ?_
  refine draw_nil ?_
  refine hK4 _ ?_; clear hK4 K4
  refine codeT.imp (σ' := [(0, _), (2, _), (3, _), (13, _)]) ?_ (imp_covers ⟨rfl, rfl, rfl, rfl, trivial⟩)
  refine code_cond_d rfl (fun h1 => ?_) (fun h1 => ?_)
  · skip
    (try simp only [Decidable.not_not] at h1)
    refine code_draw (by kernel_rfl) (by kernel_rfl) ?_
    refine draw_q rfl (q_move rfl (by decide)) ?_
    refine draw_q rfl (q_nilCheck rfl rfl (by decide)) ?_
    refine draw_q rfl (q_fieldAddr fi_66_0 rfl rfl (by decide)) ?_
    refine draw_q rfl (q_load one_22 0 rfl rfl rfl (by first | rfl | exact get_map1 _ [] _ (by first | omega | (simp; omega))) (by decide)) ?_
    refine draw_q rfl (q_move rfl (by decide)) ?_
    refine draw_q rfl (q_nilCheck rfl rfl (by decide)) ?_
    refine draw_q rfl (q_fieldAddr fi_66_1 rfl rfl (by decide)) ?_
    refine draw_q rfl (q_load one_3 0 rfl rfl rfl (by first | rfl | exact get_map1 _ 0 _ (by first | omega | (simp; omega))) (by decide)) ?_
    refine draw_q rfl (q_indexAddr_rd sl_22 rfl (.inr ⟨_, rfl, rfl⟩) rfl (by omega) (by omega) (by decide)) ?_
    refine draw_q rfl (q_load_rd one_5 rfl (.inr ⟨_, (by first | rfl | exact congrArg (SV.rbor _) (drop_map1 _ 0 _ (by first | omega | (simp; omega)))), rfl⟩) (by decide)) ?_
    refine draw_q rfl (by first | exact q_convB (by rw [Tryd.underlying5]; rfl) Tryd.underlying3 rfl (by decide) | exact q_convI (by rw [Tryd.underlying5]; rfl) Tryd.underlying3 rfl (by decide) (by omega) (by omega) | exact q_conv (by rw [Tryd.underlying5]; rfl) Tryd.underlying3 rfl (by decide)) ?_
    refine draw_q rfl (q_assign rfl (by decide)) ?_
    refine draw_nil ?_
    refine hK3 _ ?_; clear hK3 K3
    refine codeT.imp (σ' := [(0, _), (2, _), (3, _)]) ?_ (imp_covers ⟨rfl, rfl, rfl, trivial⟩)
    refine code_seq (fun K5 hK5 => ?_)
    refine code_region ?_
    refine list_cons rfl (op_q (q_move rfl (by decide)) ?_)
    refine list_cons rfl (op_q (q_nilCheck rfl rfl (by decide)) ?_)
    refine list_cons rfl (op_q (q_fieldAddr fi_66_1 rfl rfl (by decide)) ?_)
    refine list_cons rfl (op_q (q_load one_3 0 rfl rfl rfl (by first | rfl | exact get_map1 _ 0 _ (by first | omega | (simp; omega))) (by decide)) ?_)
    refine list_cons rfl (op_q (by first | exact q_addI rfl rfl (by decide) (by omega) (by omega) | exact q_ib rfl rfl rfl (by decide)) ?_)
    refine list_cons rfl (op_q (q_nilCheck rfl rfl (by decide)) ?_)
    refine list_cons rfl (op_q (q_fieldAddr fi_66_1 rfl rfl (by decide)) ?_)
    refine list_cons rfl (op_store (one_3).2 0 [0, 25, 26, 30] (by intro t ht; simp only [List.mem_cons, List.not_mem_nil, or_false] at ht; rcases ht with rfl | rfl | rfl | rfl <;> rfl) (.inl rfl) rfl rfl rfl rfl rfl rfl (by first | decide | omega | exact Nat.le_refl _ | (simp; done) | (simp; omega)) (by decide) rfl ?_)
    refine list_nil ?_
    refine hK5 _ ?_; clear hK5 K5
    refine codeT.imp (σ' := [(0, _), (2, _), (3, _)]) ?_ (imp_covers ⟨rfl, rfl, rfl, trivial⟩)
    refine code_seq (fun K6 hK6 => ?_)
    refine code_region ?_
    refine list_cons rfl (op_q (q_move rfl (by decide)) ?_)
    refine list_cons rfl (op_q (q_move rfl (by decide)) ?_)
    refine list_cons rfl (op_q (q_nilCheck rfl rfl (by decide)) ?_)
    refine list_cons rfl (op_q (q_fieldAddr fi_66_2 rfl rfl (by decide)) ?_)
    refine list_cons rfl (op_q (q_load one_64 0 rfl rfl rfl (by first | rfl | exact get_map1 _ 0 _ (by first | omega | (simp; omega))) (by decide)) ?_)
    refine list_cons rfl (op_q (q_ib rfl rfl rfl (by decide)) ?_)
    refine list_cons rfl (op_q (q_move rfl (by decide)) ?_)
    refine list_cons rfl (op_q (by first | exact q_convU (by rw [Tryd.underlying3]; rfl) Tryd.underlying64 rfl (by decide) (by omega) (by omega) | exact q_conv (by rw [Tryd.underlying3]; rfl) Tryd.underlying64 rfl (by decide)) ?_)
    refine list_cons rfl (op_q (q_ib rfl rfl rfl (by decide)) ?_)
    refine list_cons rfl (op_q (q_ib rfl rfl rfl (by decide)) ?_)
    refine list_cons rfl (op_q (q_nilCheck rfl rfl (by decide)) ?_)
    refine list_cons rfl (op_q (q_fieldAddr fi_66_2 rfl rfl (by decide)) ?_)
    refine list_cons rfl (op_store (one_64).2 0 [0, 32, 33, 34, 42] (by intro t ht; simp only [List.mem_cons, List.not_mem_nil, or_false] at ht; rcases ht with rfl | rfl | rfl | rfl | rfl <;> rfl) (.inl rfl) rfl rfl rfl rfl rfl rfl (by first | decide | omega | exact Nat.le_refl _ | (simp; done) | (simp; omega)) (by decide) rfl ?_)
    refine list_nil ?_
    refine hK6 _ ?_; clear hK6 K6
    refine codeT.imp (σ' := [(0, _), (2, _), (3, _)]) ?_ (imp_covers ⟨rfl, rfl, rfl, trivial⟩)
    refine code_seq (fun K7 hK7 => ?_)
    refine code_seq (fun K8 hK8 => ?_)
    refine code_draw (by kernel_rfl) (by kernel_rfl) ?_
    refine draw_q rfl (q_move rfl (by decide)) ?_
    refine draw_q rfl (q_nilCheck rfl rfl (by decide)) ?_
    refine draw_q rfl (q_fieldAddr fi_66_1 rfl rfl (by decide)) ?_
    refine draw_q rfl (q_load one_3 0 rfl rfl rfl (by first | rfl | exact get_map1 _ 0 _ (by first | omega | (simp; omega))) (by decide)) ?_
    refine draw_q rfl (q_move rfl (by decide)) ?_
    refine draw_q rfl (q_nilCheck rfl rfl (by decide)) ?_
    refine draw_q rfl (q_fieldAddr fi_66_0 rfl rfl (by decide)) ?_
    refine draw_q rfl (q_load one_22 0 rfl rfl rfl (by first | rfl | exact get_map1 _ [] _ (by first | omega | (simp; omega))) (by decide)) ?_
    refine draw_q rfl (q_len_sl Tryd.underlying22 rfl rfl (by decide)) ?_
    refine draw_q rfl (q_le rfl rfl (by decide)) ?_
    refine draw_nil ?_
    refine hK8 _ ?_; clear hK8 K8
    refine codeT.imp (σ' := [(0, _), (2, _), (3, _), (53, _)]) ?_ (imp_covers ⟨rfl, rfl, rfl, rfl, trivial⟩)
    refine code_cond_d rfl (fun h2 => ?_) (fun h2 => ?_)
    · skip
      (try simp only [Decidable.not_not] at h2)
      refine code_seq (fun K9 hK9 => ?_)
      refine code_region ?_
      refine list_cons rfl (op_q (q_move rfl (by decide)) ?_)
      refine list_cons rfl (op_q (q_assign rfl (by decide)) ?_)
      refine list_nil ?_
      refine hK9 _ ?_; clear hK9 K9
      refine code_ret ?_
      refine then_r ?_; clear hK7 K7
      refine ends_ret (cs := _) rfl rfl rfl rfl rfl ?_
      first | exact ⟨_, _, (iand_255 _).1, (iand_255 _).2, rfl, rfl⟩ | exact ⟨_, _, (iandw_255 _).1, (iandw_255 _).2, rfl, rfl⟩ | exact ⟨_, _, by have := UInt8.toNat_lt (code.getD a.toNat 0); omega, by have := UInt8.toNat_lt (code.getD a.toNat 0); omega, rfl, rfl⟩ | exact ⟨_, _, by omega, by omega, rfl, rfl⟩
    (try simp only [Decidable.not_not] at h2)
    refine code_skip ?_
    refine hK7 _ ?_; clear hK7 K7
    refine code_seq (fun K10 hK10 => ?_)
    refine code_region ?_
    refine list_cons rfl (op_q (q_move rfl (by decide)) ?_)
    refine list_cons rfl (op_q (q_nilCheck rfl rfl (by decide)) ?_)
    refine list_cons rfl (op_q (q_fieldAddr fi_66_2 rfl rfl (by decide)) ?_)
    refine list_cons rfl (op_q (q_load one_64 0 rfl rfl rfl (by first | rfl | exact get_map1 _ 0 _ (by first | omega | (simp; omega))) (by decide)) ?_)
    refine list_cons rfl (op_q (q_shr rfl rfl (by omega) (by decide)) ?_)
    refine list_cons rfl (op_q (q_ib rfl rfl rfl (by decide)) ?_)
    refine list_cons rfl (op_q (by first | exact q_convB (by rw [Tryd.underlying64]; rfl) Tryd.underlying3 rfl (by decide) | exact q_convI (by rw [Tryd.underlying64]; rfl) Tryd.underlying3 rfl (by decide) (by omega) (by omega) | exact q_conv (by rw [Tryd.underlying64]; rfl) Tryd.underlying3 rfl (by decide)) ?_)
    refine list_cons rfl (op_q (q_assign rfl (by decide)) ?_)
    refine list_nil ?_
    refine hK10 _ ?_; clear hK10 K10
    refine codeT.imp (σ' := [(0, _), (2, _), (3, _)]) ?_ (imp_covers ⟨rfl, rfl, rfl, trivial⟩)
    refine code_ret ?_
    refine ends_ret (cs := _) rfl rfl rfl rfl rfl ?_
    first | exact ⟨_, _, (iand_255 _).1, (iand_255 _).2, rfl, rfl⟩ | exact ⟨_, _, (iandw_255 _).1, (iandw_255 _).2, rfl, rfl⟩ | exact ⟨_, _, by have := UInt8.toNat_lt (code.getD a.toNat 0); omega, by have := UInt8.toNat_lt (code.getD a.toNat 0); omega, rfl, rfl⟩ | exact ⟨_, _, by omega, by omega, rfl, rfl⟩
  (try simp only [Decidable.not_not] at h1)
  refine code_skip ?_
  refine hK3 _ ?_; clear hK3 K3
  refine code_seq (fun K11 hK11 => ?_)
  refine code_region ?_
  refine list_cons rfl (op_q (q_move rfl (by decide)) ?_)
  refine list_cons rfl (op_q (q_nilCheck rfl rfl (by decide)) ?_)
  refine list_cons rfl (op_q (q_fieldAddr fi_66_1 rfl rfl (by decide)) ?_)
  refine list_cons rfl (op_q (q_load one_3 0 rfl rfl rfl (by first | rfl | exact get_map1 _ 0 _ (by first | omega | (simp; omega))) (by decide)) ?_)
  refine list_cons rfl (op_q (by first | exact q_addI rfl rfl (by decide) (by omega) (by omega) | exact q_ib rfl rfl rfl (by decide)) ?_)
  refine list_cons rfl (op_q (q_nilCheck rfl rfl (by decide)) ?_)
  refine list_cons rfl (op_q (q_fieldAddr fi_66_1 rfl rfl (by decide)) ?_)
  refine list_cons rfl (op_store (one_3).2 0 [0, 25, 26, 30] (by intro t ht; simp only [List.mem_cons, List.not_mem_nil, or_false] at ht; rcases ht with rfl | rfl | rfl | rfl <;> rfl) (.inl rfl) rfl rfl rfl rfl rfl rfl (by first | decide | omega | exact Nat.le_refl _ | (simp; done) | (simp; omega)) (by decide) rfl ?_)
  refine list_nil ?_
  refine hK11 _ ?_; clear hK11 K11
  refine codeT.imp (σ' := [(0, _), (2, _), (3, _)]) ?_ (imp_covers ⟨rfl, rfl, rfl, trivial⟩)
  refine code_seq (fun K12 hK12 => ?_)
  refine code_region ?_
  refine list_cons rfl (op_q (q_move rfl (by decide)) ?_)
  refine list_cons rfl (op_q (q_move rfl (by decide)) ?_)
  refine list_cons rfl (op_q (q_nilCheck rfl rfl (by decide)) ?_)
  refine list_cons rfl (op_q (q_fieldAddr fi_66_2 rfl rfl (by decide)) ?_)
  refine list_cons rfl (op_q (q_load one_64 0 rfl rfl rfl (by first | rfl | exact get_map1 _ 0 _ (by first | omega | (simp; omega))) (by decide)) ?_)
  refine list_cons rfl (op_q (q_ib rfl rfl rfl (by decide)) ?_)
  refine list_cons rfl (op_q (q_move rfl (by decide)) ?_)
  refine list_cons rfl (op_q (by first | exact q_convU (by rw [Tryd.underlying3]; rfl) Tryd.underlying64 rfl (by decide) (by omega) (by omega) | exact q_conv (by rw [Tryd.underlying3]; rfl) Tryd.underlying64 rfl (by decide)) ?_)
  refine list_cons rfl (op_q (q_ib rfl rfl rfl (by decide)) ?_)
  refine list_cons rfl (op_q (q_ib rfl rfl rfl (by decide)) ?_)
  refine list_cons rfl (op_q (q_nilCheck rfl rfl (by decide)) ?_)
  refine list_cons rfl (op_q (q_fieldAddr fi_66_2 rfl rfl (by decide)) ?_)
  refine list_cons rfl (op_store (one_64).2 0 [0, 32, 33, 34, 42] (by intro t ht; simp only [List.mem_cons, List.not_mem_nil, or_false] at ht; rcases ht with rfl | rfl | rfl | rfl | rfl <;> rfl) (.inl rfl) rfl rfl rfl rfl rfl rfl (by first | decide | omega | exact Nat.le_refl _ | (simp; done) | (simp; omega)) (by decide) rfl ?_)
  refine list_nil ?_
  refine hK12 _ ?_; clear hK12 K12
  refine codeT.imp (σ' := [(0, _), (2, _), (3, _)]) ?_ (imp_covers ⟨rfl, rfl, rfl, trivial⟩)
  refine code_seq (fun K13 hK13 => ?_)
  refine code_seq (fun K14 hK14 => ?_)
  refine code_draw (by kernel_rfl) (by kernel_rfl) ?_
  refine draw_q rfl (q_move rfl (by decide)) ?_
  refine draw_q rfl (q_nilCheck rfl rfl (by decide)) ?_
  refine draw_q rfl (q_fieldAddr fi_66_1 rfl rfl (by decide)) ?_
  refine draw_q rfl (q_load one_3 0 rfl rfl rfl (by first | rfl | exact get_map1 _ 0 _ (by first | omega | (simp; omega))) (by decide)) ?_
  refine draw_q rfl (q_move rfl (by decide)) ?_
  refine draw_q rfl (q_nilCheck rfl rfl (by decide)) ?_
  refine draw_q rfl (q_fieldAddr fi_66_0 rfl rfl (by decide)) ?_
  refine draw_q rfl (q_load one_22 0 rfl rfl rfl (by first | rfl | exact get_map1 _ [] _ (by first | omega | (simp; omega))) (by decide)) ?_
  refine draw_q rfl (q_len_sl Tryd.underlying22 rfl rfl (by decide)) ?_
  refine draw_q rfl (q_le rfl rfl (by decide)) ?_
  refine draw_nil ?_
  refine hK14 _ ?_; clear hK14 K14
  refine codeT.imp (σ' := [(0, _), (2, _), (3, _), (53, _)]) ?_ (imp_covers ⟨rfl, rfl, rfl, rfl, trivial⟩)
  refine code_cond_d rfl (fun h3 => ?_) (fun h3 => ?_)
  · skip
    (try simp only [Decidable.not_not] at h3)
    refine code_seq (fun K15 hK15 => ?_)
    refine code_region ?_
    refine list_cons rfl (op_q (q_move rfl (by decide)) ?_)
    refine list_cons rfl (op_q (q_assign rfl (by decide)) ?_)
    refine list_nil ?_
    refine hK15 _ ?_; clear hK15 K15
    refine code_ret ?_
    refine then_r ?_; clear hK13 K13
    refine ends_ret (cs := _) rfl rfl rfl rfl rfl ?_
    first | exact ⟨_, _, (iand_255 _).1, (iand_255 _).2, rfl, rfl⟩ | exact ⟨_, _, (iandw_255 _).1, (iandw_255 _).2, rfl, rfl⟩ | exact ⟨_, _, by have := UInt8.toNat_lt (code.getD a.toNat 0); omega, by have := UInt8.toNat_lt (code.getD a.toNat 0); omega, rfl, rfl⟩ | exact ⟨_, _, by omega, by omega, rfl, rfl⟩
  (try simp only [Decidable.not_not] at h3)
  refine code_skip ?_
  refine hK13 _ ?_; clear hK13 K13
  refine code_seq (fun K16 hK16 => ?_)
  refine code_region ?_
  refine list_cons rfl (op_q (q_move rfl (by decide)) ?_)
  refine list_cons rfl (op_q (q_nilCheck rfl rfl (by decide)) ?_)
  refine list_cons rfl (op_q (q_fieldAddr fi_66_2 rfl rfl (by decide)) ?_)
  refine list_cons rfl (op_q (q_load one_64 0 rfl rfl rfl (by first | rfl | exact get_map1 _ 0 _ (by first | omega | (simp; omega))) (by decide)) ?_)
  refine list_cons rfl (op_q (q_shr rfl rfl (by omega) (by decide)) ?_)
  refine list_cons rfl (op_q (q_ib rfl rfl rfl (by decide)) ?_)
  refine list_cons rfl (op_q (by first | exact q_convB (by rw [Tryd.underlying64]; rfl) Tryd.underlying3 rfl (by decide) | exact q_convI (by rw [Tryd.underlying64]; rfl) Tryd.underlying3 rfl (by decide) (by omega) (by omega) | exact q_conv (by rw [Tryd.underlying64]; rfl) Tryd.underlying3 rfl (by decide)) ?_)
  refine list_cons rfl (op_q (q_assign rfl (by decide)) ?_)
  refine list_nil ?_
  refine hK16 _ ?_; clear hK16 K16
  refine codeT.imp (σ' := [(0, _), (2, _), (3, _)]) ?_ (imp_covers ⟨rfl, rfl, rfl, trivial⟩)
  refine code_ret ?_
  refine ends_ret (cs := _) rfl rfl rfl rfl rfl ?_
  first | exact ⟨_, _, (iand_255 _).1, (iand_255 _).2, rfl, rfl⟩ | exact ⟨_, _, (iandw_255 _).1, (iandw_255 _).2, rfl, rfl⟩ | exact ⟨_, _, by have := UInt8.toNat_lt (code.getD a.toNat 0); omega, by have := UInt8.toNat_lt (code.getD a.toNat 0); omega, rfl, rfl⟩ | exact ⟨_, _, by omega, by omega, rfl, rfl⟩

set_option maxRecDepth 4000 in
theorem pick_c (code : List UInt8) (hcode : code.length ≤ 9223372036854775807) (a s : Int) (ha : 0 ≤ a) (ha2 : a ≤ 4611686018427387900) (k : Int) : MCalls Tryd.prog 99 false (some (.box 66 [.sl code.length (bytesP code), .int .i64 a, .int .u64 s])) [.int .i64 k] fun rs cs => ∃ b a2 s2 : Int, 0 ≤ b ∧ b < max k 1 ∧ a ≤ a2 ∧ a2 ≤ a + 2 ∧ rs = [.val (.int .i64 b)] ∧ cs = [.sl code.length (bytesP code), .int .i64 a2, .int .u64 s2] := by
  refine mcalls_of_code (n := 20) az Tryd.func99 (by kernel_rfl) rfl rfl (Nat.le_of_ble_eq_true rfl) (by intro t u h; simp [Tryd.f99] at h) ?_
  refine code_seq (fun K1 hK1 => ?_)
  refine code_region ?_
  refine list_cons rfl (op_q (q_assign rfl (by decide)) ?_)
  refine list_nil ?_
  refine hK1 _ ?_; clear hK1 K1
  refine code_seq (fun K2 hK2 => ?_)
  refine code_seq (fun K3 hK3 => ?_)
  refine code_region ?_
  refine list_cons rfl (op_q (q_move rfl (by decide)) ?_)
  refine list_cons rfl (op_q (q_le rfl rfl (by decide)) ?_)
  refine list_nil ?_
  refine hK3 _ ?_; clear hK3 K3
  refine code_cond_d rfl (fun h1 => ?_) (fun h1 => ?_)
  · skip
    (try simp only [Decidable.not_not] at h1)
    refine code_seq (fun K4 hK4 => ?_)
    refine code_region ?_
    refine list_cons rfl (op_q (q_assign rfl (by decide)) ?_)
    refine list_nil ?_
    refine hK4 _ ?_; clear hK4 K4
    refine code_ret ?_
    refine then_r ?_; clear hK2 K2
    refine ends_ret (cs := _) rfl rfl rfl rfl rfl ?_
    exact ⟨0, a, s, by omega, by omega, by omega, by omega, rfl, rfl⟩
  (try simp only [Decidable.not_not] at h1)
  refine code_skip ?_
  refine hK2 _ ?_; clear hK2 K2
  refine code_seq (fun K5 hK5 => ?_)
  refine code_region ?_
  refine list_cons rfl (op_q (q_move rfl (by decide)) ?_)
  refine list_cons rfl (op_callM (next_c code ?_ _ _ ?_ ?_) (.tmp 8) 2000 [0, 8] [] _ rfl rfl (by intro y hy; cases hy; exact ⟨rfl, (by intro t ht; simp only [List.mem_cons, List.not_mem_nil, or_false] at ht; rcases ht with rfl | rfl <;> rfl), (by intro s hs; simp only [List.mem_cons, List.not_mem_nil, or_false] at hs; (try cases hs))⟩) (by decide) (by decide) (by decide) rfl (fun _ => rfl) ?_)
  · first | assumption | omega | (simp; omega)
  · first | assumption | omega | (simp; omega)
  · first | assumption | omega | (simp; omega)
  rintro _ _ ⟨b, s2, hb0, hb1, rfl, rfl⟩
  refine list_cons rfl (op_q (q_assign rfl (by decide)) ?_)
  refine list_nil ?_
  refine hK5 _ ?_; clear hK5 K5
  refine codeT.imp (σ' := [(0, _), (1, _), (4, _), (5, _)]) ?_ (imp_covers ⟨rfl, rfl, rfl, rfl, trivial⟩)
  refine code_seq (fun K6 hK6 => ?_)
  refine code_seq (fun K7 hK7 => ?_)
  refine code_region ?_
  refine list_cons rfl (op_q (q_move rfl (by decide)) ?_)
  refine list_cons rfl (op_q (q_gt rfl rfl (by decide)) ?_)
  refine list_nil ?_
  refine hK7 _ ?_; clear hK7 K7
  refine code_cond_d rfl (fun h2 => ?_) (fun h2 => ?_)
  · skip
    (try simp only [Decidable.not_not] at h2)
    refine code_region ?_
    refine list_cons rfl (op_q (q_move rfl (by decide)) ?_)
    refine list_cons rfl (op_q (by first | exact q_mulI rfl rfl (by decide) (by omega) (by omega) | exact q_ib rfl rfl rfl (by decide)) ?_)
    refine list_cons rfl (op_q (q_move rfl (by decide)) ?_)
    refine list_cons rfl (op_callM (next_c code ?_ _ _ ?_ ?_) (.tmp 14) 2000 [0, 14] [] _ rfl rfl (by intro y hy; cases hy; exact ⟨rfl, (by intro t ht; simp only [List.mem_cons, List.not_mem_nil, or_false] at ht; rcases ht with rfl | rfl <;> rfl), (by intro s hs; simp only [List.mem_cons, List.not_mem_nil, or_false] at hs; (try cases hs))⟩) (by decide) (by decide) (by decide) rfl (fun _ => rfl) ?_)
    · first | assumption | omega | (simp; omega)
    · first | assumption | omega | (simp; omega)
    · first | assumption | omega | (simp; omega)
    rintro _ _ ⟨b2, s3, hc0, hc1, rfl, rfl⟩
    refine list_cons rfl (op_q (by first | exact q_addI rfl rfl (by decide) (by omega) (by omega) | exact q_ib rfl rfl rfl (by decide)) ?_)
    refine list_cons rfl (op_q (q_assign rfl (by decide)) ?_)
    refine list_nil ?_
    refine hK6 _ ?_; clear hK6 K6
    refine codeT.imp (σ' := [(0, _), (1, _), (4, _), (5, _)]) ?_ (imp_covers ⟨rfl, rfl, rfl, rfl, trivial⟩)
    refine code_seq (fun K8 hK8 => ?_)
    refine code_region ?_
    refine list_cons rfl (op_q (q_move rfl (by decide)) ?_)
    refine list_cons rfl (op_q (q_move rfl (by decide)) ?_)
    refine list_cons rfl (op_q (by first | exact q_remI rfl rfl (by decide) (by omega) (by omega) | exact q_rem rfl rfl (by omega) (by decide)) ?_)
    refine list_cons rfl (op_q (q_assign rfl (by decide)) ?_)
    refine list_nil ?_
    refine hK8 _ ?_; clear hK8 K8
    refine code_ret ?_
    refine ends_ret (cs := _) rfl rfl rfl rfl rfl ?_
    exact ⟨_, _, _, Int.emod_nonneg _ (by omega), by have := Int.emod_lt_of_pos (b * 256 + b2) (show 0 < k by omega); omega, by omega, by omega, rfl, rfl⟩
  (try simp only [Decidable.not_not] at h2)
  refine code_skip ?_
  refine hK6 _ ?_; clear hK6 K6
  refine code_seq (fun K9 hK9 => ?_)
  refine code_region ?_
  refine list_cons rfl (op_q (q_move rfl (by decide)) ?_)
  refine list_cons rfl (op_q (q_move rfl (by decide)) ?_)
  refine list_cons rfl (op_q (by first | exact q_remI rfl rfl (by decide) (by omega) (by omega) | exact q_rem rfl rfl (by omega) (by decide)) ?_)
  refine list_cons rfl (op_q (q_assign rfl (by decide)) ?_)
  refine list_nil ?_
  refine hK9 _ ?_; clear hK9 K9
  refine code_ret ?_
  refine ends_ret (cs := _) rfl rfl rfl rfl rfl ?_
  exact ⟨_, _, _, Int.emod_nonneg _ (by omega), by have := Int.emod_lt_of_pos b (show 0 < k by omega); omega, by omega, by omega, rfl, rfl⟩

set_option maxRecDepth 4000 in
theorem one_c (code : List UInt8) (hcode : code.length ≤ 9223372036854775807) (a s : Int) (ha : 0 ≤ a) (ha2 : a ≤ 4611686018427387900) (k : Int) : MCalls Tryd.prog 115 false (some (.box 66 [.sl code.length (bytesP code), .int .i64 a, .int .u64 s])) [.int .i64 k] fun rs cs => ∃ (o a2 s2 : Int), a ≤ a2 ∧ a2 ≤ a + 2 ∧ rs = [.val (.bool (decide (o = 0)))] ∧ cs = [.sl code.length (bytesP code), .int .i64 a2, .int .u64 s2] := by
  refine mcalls_of_code (n := 9) az Tryd.func115 (by kernel_rfl) rfl rfl (Nat.le_of_ble_eq_true rfl) (by intro t u h; simp [Tryd.f115] at h) ?_
  refine code_seq (fun K1 hK1 => ?_)
  refine code_region ?_
  refine list_cons rfl (op_q (q_assign rfl (by decide)) ?_)
  refine list_nil ?_
  refine hK1 _ ?_; clear hK1 K1
  refine code_seq (fun K2 hK2 => ?_)
  refine code_region ?_
  refine list_cons rfl (op_q (q_move rfl (by decide)) ?_)
  refine list_cons rfl (op_q (q_move rfl (by decide)) ?_)
  refine list_cons rfl (op_callM (pick_c code ?_ _ _ ?_ ?_ _) (.tmp 5) 2000 [0, 5] [.tmp 6] _ rfl rfl (by intro y hy; cases hy; exact ⟨rfl, (by intro t ht; simp only [List.mem_cons, List.not_mem_nil, or_false] at ht; rcases ht with rfl | rfl <;> rfl), (by intro s hs; simp only [List.mem_cons, List.not_mem_nil, or_false] at hs; subst hs; first | (simp [SV.labels]; done) | (simp [SV.labels, packS, SV.back]; done) | exact List.not_mem_nil)⟩) (by decide) (by decide) (by decide) rfl (fun _ => rfl) ?_)
  · first | assumption | omega | (simp; omega)
  · first | assumption | omega | (simp; omega)
  · first | assumption | omega | (simp; omega)
  rintro _ _ ⟨b, a2, s2, hb0, hb1, ha0, ha1, rfl, rfl⟩
  try have hp2 := p2_64 (k := b.toNat) (by omega)
  refine list_cons rfl (op_q (q_eq rfl rfl (by decide)) ?_)
  refine list_cons rfl (op_q (q_assign rfl (by decide)) ?_)
  refine list_nil ?_
  refine hK2 _ ?_; clear hK2 K2
  refine codeT.imp (σ' := [(0, _), (1, _), (4, _)]) ?_ (imp_covers ⟨rfl, rfl, rfl, trivial⟩)
  refine code_ret ?_
  refine ends_ret (cs := _) rfl rfl rfl rfl rfl ?_
  exact ⟨_, _, _, by omega, by omega, rfl, rfl⟩

set_option maxRecDepth 4000 in
theorem among_c (code : List UInt8) (hcode : code.length ≤ 9223372036854775807) (a s : Int) (ha : 0 ≤ a) (ha2 : a ≤ 4611686018427387900) (l : List Int) (hl : 0 < l.length) (hl2 : l.length ≤ 4611686018427387904) : MCalls Tryd.prog 83 false (some (.box 66 [.sl code.length (bytesP code), .int .i64 a, .int .u64 s])) [.sl l.length (l.map (.int .i64))] fun rs cs => ∃ (x : Int) (a2 s2 : Int), x ∈ l ∧ a ≤ a2 ∧ a2 ≤ a + 2 ∧ rs = [.val (.int .i64 x)] ∧ cs = [.sl code.length (bytesP code), .int .i64 a2, .int .u64 s2] := by
  refine mcalls_of_code (n := 12) az Tryd.func83 (by kernel_rfl) rfl rfl (Nat.le_of_ble_eq_true rfl) (by intro t u h; simp [Tryd.f83] at h) ?_
  refine code_seq (fun K1 hK1 => ?_)
  refine code_region ?_
  refine list_cons rfl (op_q (q_assign rfl (by decide)) ?_)
  refine list_nil ?_
  refine hK1 _ ?_; clear hK1 K1
  refine code_seq (fun K2 hK2 => ?_)
  refine code_region ?_
  refine list_cons rfl (op_q (q_move rfl (by decide)) ?_)
  refine list_cons rfl (op_q (q_move rfl (by decide)) ?_)
  refine list_cons rfl (op_q (q_move rfl (by decide)) ?_)
  refine list_cons rfl (op_q (q_len_sl Tryd.underlying35 rfl rfl (by decide)) ?_)
  refine list_cons rfl (op_callM (pick_c code ?_ _ _ ?_ ?_ _) (.tmp 6) 2000 [0, 6] [.tmp 8] _ rfl rfl (by intro y hy; cases hy; exact ⟨rfl, (by intro t ht; simp only [List.mem_cons, List.not_mem_nil, or_false] at ht; rcases ht with rfl | rfl <;> rfl), (by intro s hs; simp only [List.mem_cons, List.not_mem_nil, or_false] at hs; subst hs; first | (simp [SV.labels]; done) | (simp [SV.labels, packS, SV.back]; done) | exact List.not_mem_nil)⟩) (by decide) (by decide) (by decide) rfl (fun _ => rfl) ?_)
  · first | assumption | omega | (simp; omega)
  · first | assumption | omega | (simp; omega)
  · first | assumption | omega | (simp; omega)
  rintro _ _ ⟨b, a2, s2, hb0, hb1, ha0, ha1, rfl, rfl⟩
  try have hp2 := p2_64 (k := b.toNat) (by omega)
  refine list_cons rfl (op_q (q_indexAddr_rd sl_35 rfl (.inl ⟨_, rfl, rfl⟩) rfl (by omega) (by omega) (by decide)) ?_)
  refine list_cons rfl (op_q (q_load_rd one_3 rfl (.inl ⟨_, (by first | rfl | exact congrArg (SV.rpar _) (drop_map1 _ 0 _ (by first | omega | (simp; omega)))), rfl⟩) (by decide)) ?_)
  refine list_cons rfl (op_q (q_assign rfl (by decide)) ?_)
  refine list_nil ?_
  refine hK2 _ ?_; clear hK2 K2
  refine codeT.imp (σ' := [(0, _), (1, _), (4, _)]) ?_ (imp_covers ⟨rfl, rfl, rfl, trivial⟩)
  refine code_ret ?_
  refine ends_ret (cs := _) rfl rfl rfl rfl rfl ?_
  exact ⟨_, _, _, getD_mem (show b.toNat < l.length by omega), by omega, by omega, rfl, rfl⟩

set_option maxRecDepth 4000 in
theorem spec_l1LeastD (a b : Int) : PCalls Tryd.prog 142 [.int .i64 a, .int .i64 b] (· = [.val (.int .i64 (if a < b then a else b))]) := by
  refine pcalls_of_code (n := 10) az Tryd.func142 (by kernel_rfl) rfl rfl (Nat.le_of_ble_eq_true rfl) (by intro t u h; simp [Tryd.f142] at h) ?_
  refine code_seq (fun K1 hK1 => ?_)
  refine code_region ?_
  refine list_cons rfl (op_q (q_assign rfl (by decide)) ?_)
  refine list_nil ?_
  refine hK1 _ ?_; clear hK1 K1
  refine code_seq (fun K2 hK2 => ?_)
  refine code_seq (fun K3 hK3 => ?_)
  refine code_region ?_
  refine list_cons rfl (op_q (q_move rfl (by decide)) ?_)
  refine list_cons rfl (op_q (q_move rfl (by decide)) ?_)
  refine list_cons rfl (op_q (q_lt rfl rfl (by decide)) ?_)
  refine list_nil ?_
  refine hK3 _ ?_; clear hK3 K3
  refine code_cond_d rfl (fun h1 => ?_) (fun h1 => ?_)
  · skip
    (try simp only [Decidable.not_not] at h1)
    refine code_seq (fun K4 hK4 => ?_)
    refine code_region ?_
    refine list_cons rfl (op_q (q_move rfl (by decide)) ?_)
    refine list_cons rfl (op_q (q_assign rfl (by decide)) ?_)
    refine list_nil ?_
    refine hK4 _ ?_; clear hK4 K4
    refine code_ret ?_
    refine then_r ?_; clear hK2 K2
    refine ends_ret (cs := []) rfl rfl rfl rfl trivial ?_
    rw [if_pos h1]
  (try simp only [Decidable.not_not] at h1)
  refine code_skip ?_
  refine hK2 _ ?_; clear hK2 K2
  refine code_seq (fun K5 hK5 => ?_)
  refine code_region ?_
  refine list_cons rfl (op_q (q_move rfl (by decide)) ?_)
  refine list_cons rfl (op_q (q_assign rfl (by decide)) ?_)
  refine list_nil ?_
  refine hK5 _ ?_; clear hK5 K5
  refine code_ret ?_
  refine ends_ret (cs := []) rfl rfl rfl rfl trivial ?_
  rw [if_neg h1]

theorem topW (k : Int) (h0 : 0 ≤ k) (h1 : k ≤ 6) : PCalls Tryd.prog 91 [.int .i64 k] (fun rs => ∃ t : Int, rs = [.val (.int .i64 t)] ∧ 1 ≤ t ∧ t ≤ 1000000) := PCalls.mono (spec_l4Top k h0 h1) fun rs h => ⟨_, h, top4_le h0 h1⟩
theorem leastW (a b : Int) : PCalls Tryd.prog 142 [.int .i64 a, .int .i64 b] (fun rs => ∃ t : Int, rs = [.val (.int .i64 t)] ∧ (t = a ∨ t = b)) := PCalls.mono (spec_l1LeastD a b) fun rs h => ⟨_, h, by split <;> simp⟩
theorem mostW (a b : Int) : PCalls Tryd.prog 143 [.int .i64 a, .int .i64 b] (fun rs => ∃ t : Int, rs = [.val (.int .i64 t)] ∧ (t = a ∨ t = b)) := PCalls.mono (spec_l1Most a b) fun rs h => ⟨_, h, by split <;> simp⟩

set_option maxRecDepth 4000 in
set_option maxHeartbeats 4000000 in
theorem counter_c (code : List UInt8) (hcode : code.length ≤ 9223372036854775807) (a s : Int) (ha : 0 ≤ a) (ha2 : a ≤ 4611686018427387000) : MCalls Tryd.prog 84 false (some (.box 66 [.sl code.length (bytesP code), .int .i64 a, .int .u64 s])) [] fun rs cs => ∃ (n k a2 s2 : Int), a ≤ a2 ∧ a2 ≤ a + 60 ∧ rs = [.val (.int .i64 n), .val (.int .i64 k)] ∧ cs = [.sl code.length (bytesP code), .int .i64 a2, .int .u64 s2] := by
  refine mcalls_of_code (n := 53) az Tryd.func84 (by kernel_rfl) rfl rfl (Nat.le_of_ble_eq_true rfl) (by intro t u h; simp [Tryd.f84] at h) ?_
  refine code_seq (fun K1 hK1 => ?_)
  refine code_region ?_
  refine list_cons rfl (op_q (q_assign rfl (by decide)) ?_)
  refine list_cons rfl (op_q (q_assign rfl (by decide)) ?_)
  refine list_nil ?_
  refine hK1 _ ?_; clear hK1 K1
  refine code_seq (fun K2 hK2 => ?_)
  refine code_region ?_
  refine list_cons rfl (op_q (q_move rfl (by decide)) ?_)
  refine list_cons rfl (op_buildSlice sl_35 (parts := [(0, _), (1, _), (2, _), (3, _), (4, _), (5, _), (6, _), (7, _), (8, _), (9, _), (10, _), (11, _)]) rfl rfl rfl (by decide) (by decide) (by decide) rfl ?_)
  refine list_cons rfl (op_callM (among_c code ?_ _ _ ?_ ?_ ([2, 1, 3, 4, 6, 2, 3, 0, 7, 5, 2, 1]) (by decide) (by decide)) (.tmp 6) 2000 [0, 6] [.tmp 7] _ rfl rfl (by intro y hy; cases hy; exact ⟨rfl, (by intro t ht; simp only [List.mem_cons, List.not_mem_nil, or_false] at ht; rcases ht with rfl | rfl <;> rfl), (by intro s hs; simp only [List.mem_cons, List.not_mem_nil, or_false] at hs; subst hs; first | (simp [SV.labels]; done) | (simp [SV.labels, packS, SV.back]; done) | exact List.not_mem_nil)⟩) (by decide) (by decide) (by decide) rfl (fun _ => rfl) ?_)
  · first | assumption | omega | (simp; omega)
  · first | assumption | omega | (simp; omega)
  · first | assumption | omega | (simp; omega)
  rintro _ _ ⟨k, a2, s2, -, ha0, ha1, rfl, rfl⟩
  refine list_cons rfl (op_q (q_assign rfl (by decide)) ?_)
  refine list_nil ?_
  refine hK2 _ ?_; clear hK2 K2
  refine codeT.imp (σ' := [(0, .box 2000 66 [.sl code.length (bytesP code), .int .i64 a2, .int .u64 s2]), (2, .val (.int .i64 0)), (3, .val (.int .i64 0)), (4, .val (.int .i64 k))]) ?_ (imp_covers ⟨rfl, rfl, rfl, rfl, trivial⟩)
  refine code_seq (fun K3 hK3 => ?_)
  refine code_seq (fun K4 hK4 => ?_)
  refine code_region ?_
  refine list_cons rfl (op_q (q_move rfl (by decide)) ?_)
  refine list_cons rfl (op_call _ (spec_l1In _ _ _) rfl rfl (by decide) (by decide) (by decide) rfl ?_)
  rintro _ rfl
  refine list_cons rfl (op_q (by first | exact q_notd rfl (by decide) | exact q_not rfl (by decide)) ?_)
  refine list_nil ?_
  refine hK4 _ ?_; clear hK4 K4
  refine codeT.imp (σ' := [(0, _), (2, _), (3, _), (4, _), (11, _)]) ?_ (imp_covers ⟨rfl, rfl, rfl, rfl, rfl, trivial⟩)
  refine code_cond_d rfl (fun h1 => ?_) (fun h1 => ?_)
  · skip
    (try simp only [Decidable.not_not] at h1)
    refine code_seq (fun K5 hK5 => ?_)
    refine code_region ?_
    refine list_cons rfl (op_q (q_move rfl (by decide)) ?_)
    refine list_cons rfl (op_callM (pick_c code ?_ _ _ ?_ ?_ _) (.tmp 12) 2000 [0, 12] [_] _ rfl rfl (by intro y hy; cases hy; exact ⟨rfl, (by intro t ht; simp only [List.mem_cons, List.not_mem_nil, or_false] at ht; rcases ht with rfl | rfl <;> rfl), (by intro s hs; simp only [List.mem_cons, List.not_mem_nil, or_false] at hs; subst hs; first | (simp [SV.labels]; done) | (simp [SV.labels, packS, SV.back]; done) | exact List.not_mem_nil)⟩) (by decide) (by decide) (by decide) rfl (fun _ => rfl) ?_)
    · first | assumption | omega | (simp; omega)
    · first | assumption | omega | (simp; omega)
    · first | assumption | omega | (simp; omega)
    rintro _ _ ⟨b3, a2, s2, hb0, hb1, ha0, ha1, rfl, rfl⟩
    refine list_cons rfl (op_q (q_move rfl (by decide)) ?_)
    refine list_cons rfl (op_q (q_assign rfl (by decide)) ?_)
    refine list_cons rfl (op_q (q_assign rfl (by decide)) ?_)
    refine list_nil ?_
    refine hK5 _ ?_; clear hK5 K5
    refine codeT.imp (σ' := [(0, _), (2, _), (3, _), (4, _)]) ?_ (imp_covers ⟨rfl, rfl, rfl, rfl, trivial⟩)
    refine code_ret ?_
    refine then_r ?_; clear hK3 K3
    refine ends_ret (cs := _) rfl rfl rfl rfl rfl ?_
    exact ⟨_, _, _, _, by omega, by omega, rfl, rfl⟩
  (try simp only [Decidable.not_not] at h1)
  refine code_skip ?_
  refine hK3 _ ?_; clear hK3 K3
  refine code_seq (fun K6 hK6 => ?_)
  refine code_region ?_
  refine list_cons rfl (op_q (q_move rfl (by decide)) ?_)
  refine list_cons rfl (op_callM (pick_c code ?_ _ _ ?_ ?_ _) (.tmp 15) 2000 [0, 15] [_] _ rfl rfl (by intro y hy; cases hy; exact ⟨rfl, (by intro t ht; simp only [List.mem_cons, List.not_mem_nil, or_false] at ht; rcases ht with rfl | rfl <;> rfl), (by intro s hs; simp only [List.mem_cons, List.not_mem_nil, or_false] at hs; subst hs; first | (simp [SV.labels]; done) | (simp [SV.labels, packS, SV.back]; done) | exact List.not_mem_nil)⟩) (by decide) (by decide) (by decide) rfl (fun _ => rfl) ?_)
  · first | assumption | omega | (simp; omega)
  · first | assumption | omega | (simp; omega)
  · first | assumption | omega | (simp; omega)
  rintro _ _ ⟨n1, a2, s2, hb0, hb1, ha0, ha1, rfl, rfl⟩
  refine list_cons rfl (op_q (q_assign rfl (by decide)) ?_)
  refine list_nil ?_
  refine hK6 _ ?_; clear hK6 K6
  refine codeT.imp (σ' := [(0, .box 2000 66 [.sl code.length (bytesP code), .int .i64 a2, .int .u64 s2]), (2, .val (.int .i64 0)), (3, .val (.int .i64 0)), (4, .val (.int .i64 k)), (5, .val (.int .i64 n1))]) ?_ (imp_covers ⟨rfl, rfl, rfl, rfl, rfl, trivial⟩)
  refine code_seq (fun K7 hK7 => ?_)
  refine code_seq (fun K8 hK8 => ?_)
  refine code_region ?_
  refine list_cons rfl (op_q (q_move rfl (by decide)) ?_)
  refine list_cons rfl (op_callM (pick_c code ?_ _ _ ?_ ?_ _) (.tmp 17) 2000 [0, 17] [_] _ rfl rfl (by intro y hy; cases hy; exact ⟨rfl, (by intro t ht; simp only [List.mem_cons, List.not_mem_nil, or_false] at ht; rcases ht with rfl | rfl <;> rfl), (by intro s hs; simp only [List.mem_cons, List.not_mem_nil, or_false] at hs; subst hs; first | (simp [SV.labels]; done) | (simp [SV.labels, packS, SV.back]; done) | exact List.not_mem_nil)⟩) (by decide) (by decide) (by decide) rfl (fun _ => rfl) ?_)
  · first | assumption | omega | (simp; omega)
  · first | assumption | omega | (simp; omega)
  · first | assumption | omega | (simp; omega)
  rintro _ _ ⟨sw, a2, s2, hb0, hb1, ha0, ha1, rfl, rfl⟩
  refine list_nil ?_
  refine hK8 _ ?_; clear hK8 K8
  refine codeT.imp (σ' := [(0, .box 2000 66 [.sl code.length (bytesP code), .int .i64 a2, .int .u64 s2]), (2, .val (.int .i64 0)), (3, .val (.int .i64 0)), (4, .val (.int .i64 k)), (5, .val (.int .i64 n1)), (18, .val (.int .i64 sw))]) ?_ (imp_covers ⟨rfl, rfl, rfl, rfl, rfl, rfl, trivial⟩)
  refine code_block ?_
  refine code_seq (fun K9 hK9 => ?_)
  refine code_region ?_
  refine list_cons rfl (op_q (q_eq rfl rfl (by decide)) ?_)
  refine list_cons rfl (op_q (q_assign rfl (by decide)) ?_)
  refine list_nil ?_
  refine hK9 _ ?_; clear hK9 K9
  refine code_cond_d rfl (fun h2 => ?_) (fun h2 => ?_)
  · skip
    (try simp only [Decidable.not_not] at h2)
    refine code_region ?_
    refine list_cons rfl (op_q (q_move rfl (by decide)) ?_)
    refine list_cons rfl (op_call _ (topW _ (by omega) (by omega)) rfl rfl (by decide) (by decide) (by decide) rfl ?_)
    rintro _ ⟨t, rfl, ht1, ht2⟩
    refine list_cons rfl (op_q (by first | exact q_subI rfl rfl (by decide) (by omega) (by omega) | exact q_ib rfl rfl rfl (by decide)) ?_)
    refine list_cons rfl (op_q (q_move rfl (by decide)) ?_)
    refine list_cons rfl (op_callM (pick_c code ?_ _ _ ?_ ?_ _) (.tmp 24) 2000 [0, 24] [_] _ rfl rfl (by intro y hy; cases hy; exact ⟨rfl, (by intro t ht; simp only [List.mem_cons, List.not_mem_nil, or_false] at ht; rcases ht with rfl | rfl <;> rfl), (by intro s hs; simp only [List.mem_cons, List.not_mem_nil, or_false] at hs; subst hs; first | (simp [SV.labels]; done) | (simp [SV.labels, packS, SV.back]; done) | exact List.not_mem_nil)⟩) (by decide) (by decide) (by decide) rfl (fun _ => rfl) ?_)
    · first | assumption | omega | (simp; omega)
    · first | assumption | omega | (simp; omega)
    · first | assumption | omega | (simp; omega)
    rintro _ _ ⟨b7, a2, s2, hb0, hb1, ha0, ha1, rfl, rfl⟩
    refine list_cons rfl (op_q (by first | exact q_subI rfl rfl (by decide) (by omega) (by omega) | exact q_ib rfl rfl rfl (by decide)) ?_)
    refine list_cons rfl (op_q (q_assign rfl (by decide)) ?_)
    refine list_nil ?_
    refine blk_n ?_
    refine hK7 _ ?_; clear hK7 K7
    refine codeT.imp (σ' := [(0, .box 2000 66 [.sl code.length (bytesP code), .int .i64 a2, .int .u64 s2]), (2, .val (.int .i64 0)), (3, .val (.int .i64 0)), (4, .val (.int .i64 k)), (5, .val (.int .i64 (t - 1 - b7))), (18, _)]) ?_ (imp_covers ⟨rfl, rfl, rfl, rfl, rfl, rfl, trivial⟩)
    refine code_seq (fun K10 hK10 => ?_)
    refine code_seq (fun K11 hK11 => ?_)
    refine code_region ?_
    refine list_cons rfl (op_q (q_move rfl (by decide)) ?_)
    refine list_cons rfl (op_callM (one_c code ?_ _ _ ?_ ?_ _) (.tmp 44) 2000 [0, 44] [_] _ rfl rfl (by intro y hy; cases hy; exact ⟨rfl, (by intro t ht; simp only [List.mem_cons, List.not_mem_nil, or_false] at ht; rcases ht with rfl | rfl <;> rfl), (by intro s hs; simp only [List.mem_cons, List.not_mem_nil, or_false] at hs; subst hs; first | (simp [SV.labels]; done) | (simp [SV.labels, packS, SV.back]; done) | exact List.not_mem_nil)⟩) (by decide) (by decide) (by decide) rfl (fun _ => rfl) ?_)
    · first | assumption | omega | (simp; omega)
    · first | assumption | omega | (simp; omega)
    · first | assumption | omega | (simp; omega)
    rintro _ _ ⟨o, a2, s2, ha0, ha1, rfl, rfl⟩
    refine list_nil ?_
    refine hK11 _ ?_; clear hK11 K11
    refine codeT.imp (σ' := [(0, _), (2, _), (3, _), (4, _), (5, _), (18, _), (45, _)]) ?_ (imp_covers ⟨rfl, rfl, rfl, rfl, rfl, rfl, rfl, trivial⟩)
    refine code_cond_d rfl (fun h3 => ?_) (fun h3 => ?_)
    · skip
      (try simp only [Decidable.not_not] at h3)
      refine code_region ?_
      refine list_cons rfl (op_q (q_move rfl (by decide)) ?_)
      refine list_cons rfl (op_q (q_move rfl (by decide)) ?_)
      refine list_cons rfl (op_call _ (topW _ (by omega) (by omega)) rfl rfl (by decide) (by decide) (by decide) rfl ?_)
      rintro _ ⟨t, rfl, ht1, ht2⟩
      refine list_cons rfl (op_buildSlice sl_35 (parts := [(0, _), (1, .tmp 48)]) rfl rfl rfl (by decide) (by decide) (by decide) rfl ?_)
      refine list_cons rfl (op_callM (among_c code ?_ _ _ ?_ ?_ ([-1, t]) (by simp) (by simp)) (.tmp 46) 2000 [0, 46] [.tmp 49] _ rfl rfl (by intro y hy; cases hy; exact ⟨rfl, (by intro t ht; simp only [List.mem_cons, List.not_mem_nil, or_false] at ht; rcases ht with rfl | rfl <;> rfl), (by intro s hs; simp only [List.mem_cons, List.not_mem_nil, or_false] at hs; subst hs; first | (simp [SV.labels]; done) | (simp [SV.labels, packS, SV.back]; done) | exact List.not_mem_nil)⟩) (by decide) (by decide) (by decide) rfl (fun _ => rfl) ?_)
      · first | assumption | omega | (simp; omega)
      · first | assumption | omega | (simp; omega)
      · first | assumption | omega | (simp; omega)
      rintro _ _ ⟨x, a2, s2, -, ha0, ha1, rfl, rfl⟩
      refine list_cons rfl (op_q (q_assign rfl (by decide)) ?_)
      refine list_nil ?_
      refine hK10 _ ?_; clear hK10 K10
      refine codeT.imp (σ' := [(0, _), (2, _), (3, _), (4, _), (5, _), (18, _)]) ?_ (imp_covers ⟨rfl, rfl, rfl, rfl, rfl, rfl, trivial⟩)
      refine code_seq (fun K12 hK12 => ?_)
      refine code_region ?_
      refine list_cons rfl (op_q (q_move rfl (by decide)) ?_)
      refine list_cons rfl (op_q (q_move rfl (by decide)) ?_)
      refine list_cons rfl (op_q (q_assign rfl (by decide)) ?_)
      refine list_cons rfl (op_q (q_assign rfl (by decide)) ?_)
      refine list_nil ?_
      refine hK12 _ ?_; clear hK12 K12
      refine code_ret ?_
      refine ends_ret (cs := _) rfl rfl rfl rfl rfl ?_
      exact ⟨_, _, _, _, by omega, by omega, rfl, rfl⟩
    (try simp only [Decidable.not_not] at h3)
    refine code_skip ?_
    refine hK10 _ ?_; clear hK10 K10
    refine code_seq (fun K13 hK13 => ?_)
    refine code_region ?_
    refine list_cons rfl (op_q (q_move rfl (by decide)) ?_)
    refine list_cons rfl (op_q (q_move rfl (by decide)) ?_)
    refine list_cons rfl (op_q (q_assign rfl (by decide)) ?_)
    refine list_cons rfl (op_q (q_assign rfl (by decide)) ?_)
    refine list_nil ?_
    refine hK13 _ ?_; clear hK13 K13
    refine code_ret ?_
    refine ends_ret (cs := _) rfl rfl rfl rfl rfl ?_
    exact ⟨_, _, _, _, by omega, by omega, rfl, rfl⟩
  (try simp only [Decidable.not_not] at h2)
  refine code_seq (fun K14 hK14 => ?_)
  refine code_region ?_
  refine list_cons rfl (op_q (q_eq rfl rfl (by decide)) ?_)
  refine list_cons rfl (op_q (q_assign rfl (by decide)) ?_)
  refine list_nil ?_
  refine hK14 _ ?_; clear hK14 K14
  refine code_cond_d rfl (fun h4 => ?_) (fun h4 => ?_)
  · skip
    (try simp only [Decidable.not_not] at h4)
    refine code_region ?_
    refine list_cons rfl (op_q (q_move rfl (by decide)) ?_)
    refine list_cons rfl (op_q (q_move rfl (by decide)) ?_)
    refine list_cons rfl (op_call _ (topW _ (by omega) (by omega)) rfl rfl (by decide) (by decide) (by decide) rfl ?_)
    rintro _ ⟨t, rfl, ht1, ht2⟩
    refine list_cons rfl (op_call _ (leastW _ _) rfl rfl (by decide) (by decide) (by decide) rfl ?_)
    rintro _ ⟨w, rfl, hw⟩
    refine list_cons rfl (op_callM (pick_c code ?_ _ _ ?_ ?_ _) (.tmp 29) 2000 [0, 29] [.tmp 32] _ rfl rfl (by intro y hy; cases hy; exact ⟨rfl, (by intro t ht; simp only [List.mem_cons, List.not_mem_nil, or_false] at ht; rcases ht with rfl | rfl <;> rfl), (by intro s hs; simp only [List.mem_cons, List.not_mem_nil, or_false] at hs; subst hs; first | (simp [SV.labels]; done) | (simp [SV.labels, packS, SV.back]; done) | exact List.not_mem_nil)⟩) (by decide) (by decide) (by decide) rfl (fun _ => rfl) ?_)
    · first | assumption | omega | (simp; omega)
    · first | assumption | omega | (simp; omega)
    · first | assumption | omega | (simp; omega)
    rintro _ _ ⟨b9, a2, s2, hb0, hb1, ha0, ha1, rfl, rfl⟩
    refine list_cons rfl (op_q (q_assign rfl (by decide)) ?_)
    refine list_nil ?_
    refine blk_n ?_
    refine hK7 _ ?_; clear hK7 K7
    refine codeT.imp (σ' := [(0, .box 2000 66 [.sl code.length (bytesP code), .int .i64 a2, .int .u64 s2]), (2, .val (.int .i64 0)), (3, .val (.int .i64 0)), (4, .val (.int .i64 k)), (5, .val (.int .i64 b9)), (18, _)]) ?_ (imp_covers ⟨rfl, rfl, rfl, rfl, rfl, rfl, trivial⟩)
    refine code_seq (fun K15 hK15 => ?_)
    refine code_seq (fun K16 hK16 => ?_)
    refine code_region ?_
    refine list_cons rfl (op_q (q_move rfl (by decide)) ?_)
    refine list_cons rfl (op_callM (one_c code ?_ _ _ ?_ ?_ _) (.tmp 44) 2000 [0, 44] [_] _ rfl rfl (by intro y hy; cases hy; exact ⟨rfl, (by intro t ht; simp only [List.mem_cons, List.not_mem_nil, or_false] at ht; rcases ht with rfl | rfl <;> rfl), (by intro s hs; simp only [List.mem_cons, List.not_mem_nil, or_false] at hs; subst hs; first | (simp [SV.labels]; done) | (simp [SV.labels, packS, SV.back]; done) | exact List.not_mem_nil)⟩) (by decide) (by decide) (by decide) rfl (fun _ => rfl) ?_)
    · first | assumption | omega | (simp; omega)
    · first | assumption | omega | (simp; omega)
    · first | assumption | omega | (simp; omega)
    rintro _ _ ⟨o, a2, s2, ha0, ha1, rfl, rfl⟩
    refine list_nil ?_
    refine hK16 _ ?_; clear hK16 K16
    refine codeT.imp (σ' := [(0, _), (2, _), (3, _), (4, _), (5, _), (18, _), (45, _)]) ?_ (imp_covers ⟨rfl, rfl, rfl, rfl, rfl, rfl, rfl, trivial⟩)
    refine code_cond_d rfl (fun h5 => ?_) (fun h5 => ?_)
    · skip
      (try simp only [Decidable.not_not] at h5)
      refine code_region ?_
      refine list_cons rfl (op_q (q_move rfl (by decide)) ?_)
      refine list_cons rfl (op_q (q_move rfl (by decide)) ?_)
      refine list_cons rfl (op_call _ (topW _ (by omega) (by omega)) rfl rfl (by decide) (by decide) (by decide) rfl ?_)
      rintro _ ⟨t, rfl, ht1, ht2⟩
      refine list_cons rfl (op_buildSlice sl_35 (parts := [(0, _), (1, .tmp 48)]) rfl rfl rfl (by decide) (by decide) (by decide) rfl ?_)
      refine list_cons rfl (op_callM (among_c code ?_ _ _ ?_ ?_ ([-1, t]) (by simp) (by simp)) (.tmp 46) 2000 [0, 46] [.tmp 49] _ rfl rfl (by intro y hy; cases hy; exact ⟨rfl, (by intro t ht; simp only [List.mem_cons, List.not_mem_nil, or_false] at ht; rcases ht with rfl | rfl <;> rfl), (by intro s hs; simp only [List.mem_cons, List.not_mem_nil, or_false] at hs; subst hs; first | (simp [SV.labels]; done) | (simp [SV.labels, packS, SV.back]; done) | exact List.not_mem_nil)⟩) (by decide) (by decide) (by decide) rfl (fun _ => rfl) ?_)
      · first | assumption | omega | (simp; omega)
      · first | assumption | omega | (simp; omega)
      · first | assumption | omega | (simp; omega)
      rintro _ _ ⟨x, a2, s2, -, ha0, ha1, rfl, rfl⟩
      refine list_cons rfl (op_q (q_assign rfl (by decide)) ?_)
      refine list_nil ?_
      refine hK15 _ ?_; clear hK15 K15
      refine codeT.imp (σ' := [(0, _), (2, _), (3, _), (4, _), (5, _), (18, _)]) ?_ (imp_covers ⟨rfl, rfl, rfl, rfl, rfl, rfl, trivial⟩)
      refine code_seq (fun K17 hK17 => ?_)
      refine code_region ?_
      refine list_cons rfl (op_q (q_move rfl (by decide)) ?_)
      refine list_cons rfl (op_q (q_move rfl (by decide)) ?_)
      refine list_cons rfl (op_q (q_assign rfl (by decide)) ?_)
      refine list_cons rfl (op_q (q_assign rfl (by decide)) ?_)
      refine list_nil ?_
      refine hK17 _ ?_; clear hK17 K17
      refine code_ret ?_
      refine ends_ret (cs := _) rfl rfl rfl rfl rfl ?_
      exact ⟨_, _, _, _, by omega, by omega, rfl, rfl⟩
    (try simp only [Decidable.not_not] at h5)
    refine code_skip ?_
    refine hK15 _ ?_; clear hK15 K15
    refine code_seq (fun K18 hK18 => ?_)
    refine code_region ?_
    refine list_cons rfl (op_q (q_move rfl (by decide)) ?_)
    refine list_cons rfl (op_q (q_move rfl (by decide)) ?_)
    refine list_cons rfl (op_q (q_assign rfl (by decide)) ?_)
    refine list_cons rfl (op_q (q_assign rfl (by decide)) ?_)
    refine list_nil ?_
    refine hK18 _ ?_; clear hK18 K18
    refine code_ret ?_
    refine ends_ret (cs := _) rfl rfl rfl rfl rfl ?_
    exact ⟨_, _, _, _, by omega, by omega, rfl, rfl⟩
  (try simp only [Decidable.not_not] at h4)
  refine code_seq (fun K19 hK19 => ?_)
  refine code_region ?_
  refine list_cons rfl (op_q (q_eq rfl rfl (by decide)) ?_)
  refine list_cons rfl (op_q (q_assign rfl (by decide)) ?_)
  refine list_nil ?_
  refine hK19 _ ?_; clear hK19 K19
  refine code_cond_d rfl (fun h6 => ?_) (fun h6 => ?_)
  · skip
    (try simp only [Decidable.not_not] at h6)
    refine code_region ?_
    refine list_cons rfl (op_q (q_move rfl (by decide)) ?_)
    refine list_cons rfl (op_call _ (topW _ (by omega) (by omega)) rfl rfl (by decide) (by decide) (by decide) rfl ?_)
    rintro _ ⟨t, rfl, ht1, ht2⟩
    refine list_cons rfl (op_q (by first | exact q_subI rfl rfl (by decide) (by omega) (by omega) | exact q_ib rfl rfl rfl (by decide)) ?_)
    refine list_cons rfl (op_q (q_move rfl (by decide)) ?_)
    refine list_cons rfl (op_callM (pick_c code ?_ _ _ ?_ ?_ _) (.tmp 39) 2000 [0, 39] [_] _ rfl rfl (by intro y hy; cases hy; exact ⟨rfl, (by intro t ht; simp only [List.mem_cons, List.not_mem_nil, or_false] at ht; rcases ht with rfl | rfl <;> rfl), (by intro s hs; simp only [List.mem_cons, List.not_mem_nil, or_false] at hs; subst hs; first | (simp [SV.labels]; done) | (simp [SV.labels, packS, SV.back]; done) | exact List.not_mem_nil)⟩) (by decide) (by decide) (by decide) rfl (fun _ => rfl) ?_)
    · first | assumption | omega | (simp; omega)
    · first | assumption | omega | (simp; omega)
    · first | assumption | omega | (simp; omega)
    rintro _ _ ⟨b11, a2, s2, hb0, hb1, ha0, ha1, rfl, rfl⟩
    refine list_cons rfl (op_q (by first | exact q_subI rfl rfl (by decide) (by omega) (by omega) | exact q_ib rfl rfl rfl (by decide)) ?_)
    refine list_cons rfl (op_call _ (leastW _ _) rfl rfl (by decide) (by decide) (by decide) rfl ?_)
    rintro _ ⟨w, rfl, hw⟩
    refine list_cons rfl (op_call _ (mostW _ _) rfl rfl (by decide) (by decide) (by decide) rfl ?_)
    rintro _ ⟨z, rfl, hz⟩
    refine list_cons rfl (op_q (q_assign rfl (by decide)) ?_)
    refine list_nil ?_
    refine blk_n ?_
    refine hK7 _ ?_; clear hK7 K7
    refine codeT.imp (σ' := [(0, .box 2000 66 [.sl code.length (bytesP code), .int .i64 a2, .int .u64 s2]), (2, .val (.int .i64 0)), (3, .val (.int .i64 0)), (4, .val (.int .i64 k)), (5, .val (.int .i64 z)), (18, _)]) ?_ (imp_covers ⟨rfl, rfl, rfl, rfl, rfl, rfl, trivial⟩)
    refine code_seq (fun K20 hK20 => ?_)
    refine code_seq (fun K21 hK21 => ?_)
    refine code_region ?_
    refine list_cons rfl (op_q (q_move rfl (by decide)) ?_)
    refine list_cons rfl (op_callM (one_c code ?_ _ _ ?_ ?_ _) (.tmp 44) 2000 [0, 44] [_] _ rfl rfl (by intro y hy; cases hy; exact ⟨rfl, (by intro t ht; simp only [List.mem_cons, List.not_mem_nil, or_false] at ht; rcases ht with rfl | rfl <;> rfl), (by intro s hs; simp only [List.mem_cons, List.not_mem_nil, or_false] at hs; subst hs; first | (simp [SV.labels]; done) | (simp [SV.labels, packS, SV.back]; done) | exact List.not_mem_nil)⟩) (by decide) (by decide) (by decide) rfl (fun _ => rfl) ?_)
    · first | assumption | omega | (simp; omega)
    · first | assumption | omega | (simp; omega)
    · first | assumption | omega | (simp; omega)
    rintro _ _ ⟨o, a2, s2, ha0, ha1, rfl, rfl⟩
    refine list_nil ?_
    refine hK21 _ ?_; clear hK21 K21
    refine codeT.imp (σ' := [(0, _), (2, _), (3, _), (4, _), (5, _), (18, _), (45, _)]) ?_ (imp_covers ⟨rfl, rfl, rfl, rfl, rfl, rfl, rfl, trivial⟩)
    refine code_cond_d rfl (fun h7 => ?_) (fun h7 => ?_)
    · skip
      (try simp only [Decidable.not_not] at h7)
      refine code_region ?_
      refine list_cons rfl (op_q (q_move rfl (by decide)) ?_)
      refine list_cons rfl (op_q (q_move rfl (by decide)) ?_)
      refine list_cons rfl (op_call _ (topW _ (by omega) (by omega)) rfl rfl (by decide) (by decide) (by decide) rfl ?_)
      rintro _ ⟨t, rfl, ht1, ht2⟩
      refine list_cons rfl (op_buildSlice sl_35 (parts := [(0, _), (1, .tmp 48)]) rfl rfl rfl (by decide) (by decide) (by decide) rfl ?_)
      refine list_cons rfl (op_callM (among_c code ?_ _ _ ?_ ?_ ([-1, t]) (by simp) (by simp)) (.tmp 46) 2000 [0, 46] [.tmp 49] _ rfl rfl (by intro y hy; cases hy; exact ⟨rfl, (by intro t ht; simp only [List.mem_cons, List.not_mem_nil, or_false] at ht; rcases ht with rfl | rfl <;> rfl), (by intro s hs; simp only [List.mem_cons, List.not_mem_nil, or_false] at hs; subst hs; first | (simp [SV.labels]; done) | (simp [SV.labels, packS, SV.back]; done) | exact List.not_mem_nil)⟩) (by decide) (by decide) (by decide) rfl (fun _ => rfl) ?_)
      · first | assumption | omega | (simp; omega)
      · first | assumption | omega | (simp; omega)
      · first | assumption | omega | (simp; omega)
      rintro _ _ ⟨x, a2, s2, -, ha0, ha1, rfl, rfl⟩
      refine list_cons rfl (op_q (q_assign rfl (by decide)) ?_)
      refine list_nil ?_
      refine hK20 _ ?_; clear hK20 K20
      refine codeT.imp (σ' := [(0, _), (2, _), (3, _), (4, _), (5, _), (18, _)]) ?_ (imp_covers ⟨rfl, rfl, rfl, rfl, rfl, rfl, trivial⟩)
      refine code_seq (fun K22 hK22 => ?_)
      refine code_region ?_
      refine list_cons rfl (op_q (q_move rfl (by decide)) ?_)
      refine list_cons rfl (op_q (q_move rfl (by decide)) ?_)
      refine list_cons rfl (op_q (q_assign rfl (by decide)) ?_)
      refine list_cons rfl (op_q (q_assign rfl (by decide)) ?_)
      refine list_nil ?_
      refine hK22 _ ?_; clear hK22 K22
      refine code_ret ?_
      refine ends_ret (cs := _) rfl rfl rfl rfl rfl ?_
      exact ⟨_, _, _, _, by omega, by omega, rfl, rfl⟩
    (try simp only [Decidable.not_not] at h7)
    refine code_skip ?_
    refine hK20 _ ?_; clear hK20 K20
    refine code_seq (fun K23 hK23 => ?_)
    refine code_region ?_
    refine list_cons rfl (op_q (q_move rfl (by decide)) ?_)
    refine list_cons rfl (op_q (q_move rfl (by decide)) ?_)
    refine list_cons rfl (op_q (q_assign rfl (by decide)) ?_)
    refine list_cons rfl (op_q (q_assign rfl (by decide)) ?_)
    refine list_nil ?_
    refine hK23 _ ?_; clear hK23 K23
    refine code_ret ?_
    refine ends_ret (cs := _) rfl rfl rfl rfl rfl ?_
    exact ⟨_, _, _, _, by omega, by omega, rfl, rfl⟩
  (try simp only [Decidable.not_not] at h6)
  refine code_skip ?_
  refine blk_n ?_
  refine hK7 _ ?_; clear hK7 K7
  refine code_seq (fun K24 hK24 => ?_)
  refine code_seq (fun K25 hK25 => ?_)
  refine code_region ?_
  refine list_cons rfl (op_q (q_move rfl (by decide)) ?_)
  refine list_cons rfl (op_callM (one_c code ?_ _ _ ?_ ?_ _) (.tmp 44) 2000 [0, 44] [_] _ rfl rfl (by intro y hy; cases hy; exact ⟨rfl, (by intro t ht; simp only [List.mem_cons, List.not_mem_nil, or_false] at ht; rcases ht with rfl | rfl <;> rfl), (by intro s hs; simp only [List.mem_cons, List.not_mem_nil, or_false] at hs; subst hs; first | (simp [SV.labels]; done) | (simp [SV.labels, packS, SV.back]; done) | exact List.not_mem_nil)⟩) (by decide) (by decide) (by decide) rfl (fun _ => rfl) ?_)
  · first | assumption | omega | (simp; omega)
  · first | assumption | omega | (simp; omega)
  · first | assumption | omega | (simp; omega)
  rintro _ _ ⟨o, a2, s2, ha0, ha1, rfl, rfl⟩
  refine list_nil ?_
  refine hK25 _ ?_; clear hK25 K25
  refine codeT.imp (σ' := [(0, _), (2, _), (3, _), (4, _), (5, _), (18, _), (45, _)]) ?_ (imp_covers ⟨rfl, rfl, rfl, rfl, rfl, rfl, rfl, trivial⟩)
  refine code_cond_d rfl (fun h8 => ?_) (fun h8 => ?_)
  · skip
    (try simp only [Decidable.not_not] at h8)
    refine code_region ?_
    refine list_cons rfl (op_q (q_move rfl (by decide)) ?_)
    refine list_cons rfl (op_q (q_move rfl (by decide)) ?_)
    refine list_cons rfl (op_call _ (topW _ (by omega) (by omega)) rfl rfl (by decide) (by decide) (by decide) rfl ?_)
    rintro _ ⟨t, rfl, ht1, ht2⟩
    refine list_cons rfl (op_buildSlice sl_35 (parts := [(0, _), (1, .tmp 48)]) rfl rfl rfl (by decide) (by decide) (by decide) rfl ?_)
    refine list_cons rfl (op_callM (among_c code ?_ _ _ ?_ ?_ ([-1, t]) (by simp) (by simp)) (.tmp 46) 2000 [0, 46] [.tmp 49] _ rfl rfl (by intro y hy; cases hy; exact ⟨rfl, (by intro t ht; simp only [List.mem_cons, List.not_mem_nil, or_false] at ht; rcases ht with rfl | rfl <;> rfl), (by intro s hs; simp only [List.mem_cons, List.not_mem_nil, or_false] at hs; subst hs; first | (simp [SV.labels]; done) | (simp [SV.labels, packS, SV.back]; done) | exact List.not_mem_nil)⟩) (by decide) (by decide) (by decide) rfl (fun _ => rfl) ?_)
    · first | assumption | omega | (simp; omega)
    · first | assumption | omega | (simp; omega)
    · first | assumption | omega | (simp; omega)
    rintro _ _ ⟨x, a2, s2, -, ha0, ha1, rfl, rfl⟩
    refine list_cons rfl (op_q (q_assign rfl (by decide)) ?_)
    refine list_nil ?_
    refine hK24 _ ?_; clear hK24 K24
    refine codeT.imp (σ' := [(0, _), (2, _), (3, _), (4, _), (5, _), (18, _)]) ?_ (imp_covers ⟨rfl, rfl, rfl, rfl, rfl, rfl, trivial⟩)
    refine code_seq (fun K26 hK26 => ?_)
    refine code_region ?_
    refine list_cons rfl (op_q (q_move rfl (by decide)) ?_)
    refine list_cons rfl (op_q (q_move rfl (by decide)) ?_)
    refine list_cons rfl (op_q (q_assign rfl (by decide)) ?_)
    refine list_cons rfl (op_q (q_assign rfl (by decide)) ?_)
    refine list_nil ?_
    refine hK26 _ ?_; clear hK26 K26
    refine code_ret ?_
    refine ends_ret (cs := _) rfl rfl rfl rfl rfl ?_
    exact ⟨_, _, _, _, by omega, by omega, rfl, rfl⟩
  (try simp only [Decidable.not_not] at h8)
  refine code_skip ?_
  refine hK24 _ ?_; clear hK24 K24
  refine code_seq (fun K27 hK27 => ?_)
  refine code_region ?_
  refine list_cons rfl (op_q (q_move rfl (by decide)) ?_)
  refine list_cons rfl (op_q (q_move rfl (by decide)) ?_)
  refine list_cons rfl (op_q (q_assign rfl (by decide)) ?_)
  refine list_cons rfl (op_q (q_assign rfl (by decide)) ?_)
  refine list_nil ?_
  refine hK27 _ ?_; clear hK27 K27
  refine code_ret ?_
  refine ends_ret (cs := _) rfl rfl rfl rfl rfl ?_
  exact ⟨_, _, _, _, by omega, by omega, rfl, rfl⟩

set_option maxRecDepth 4000 in
set_option maxHeartbeats 4000000 in
theorem DrawCounterRow_c (code : List UInt8) (hcode : code.length ≤ 9223372036854775807) : MCalls Tryd.prog 94 true none [.sl code.length (bytesP code)] fun rs _ => ∃ n k : Int, rs = [.val (.int .i64 n), .val (.int .i64 k)] := by
  refine mcalls_of_code (n := 12) az Tryd.func94 (by kernel_rfl) rfl rfl (Nat.le_of_ble_eq_true rfl) (by intro t u h; simp [Tryd.f94] at h) ?_
  refine code_seq (fun K1 hK1 => ?_)
  refine code_region ?_
  refine list_cons rfl (op_q (q_assign rfl (by decide)) ?_)
  refine list_cons rfl (op_q (q_assign rfl (by decide)) ?_)
  refine list_nil ?_
  refine hK1 _ ?_; clear hK1 K1
  refine code_seq (fun K2 hK2 => ?_)
  refine code_region ?_
  refine list_cons rfl (op_q (q_move rfl (by decide)) ?_)
  refine list_cons rfl (op_q (q_build_ext bt_66 (parts := [(0, .tmp 5)]) rfl rfl (by decide)) ?_)
  refine list_cons rfl (op_box rfl (.inr rfl) (by decide) (by decide) rfl ?_)
  refine list_cons rfl (op_q (q_assign rfl (by decide)) ?_)
  refine list_nil ?_
  refine hK2 _ ?_; clear hK2 K2
  refine code_seq (fun K3 hK3 => ?_)
  refine code_region ?_
  refine list_cons rfl (op_q (q_move rfl (by decide)) ?_)
  refine list_cons rfl (op_callM (counter_c code ?_ _ _ ?_ ?_) (.tmp 8) 7 [7, 4, 8] [] _ rfl rfl (by intro y hy; cases hy; exact ⟨rfl, (by intro t ht; simp only [List.mem_cons, List.not_mem_nil, or_false] at ht; rcases ht with rfl | rfl | rfl <;> rfl), (by intro s hs; simp only [List.mem_cons, List.not_mem_nil, or_false] at hs; (try cases hs))⟩) (by decide) (by decide) (by decide) rfl (fun _ => rfl) ?_)
  · first | assumption | omega | (simp; omega)
  · first | assumption | omega | (simp; omega)
  · first | assumption | omega | (simp; omega)
  rintro _ _ ⟨n, k, a2, s2, ha0, ha1, rfl, rfl⟩
  refine list_cons rfl (op_q (q_extract rfl rfl (by decide)) ?_)
  refine list_cons rfl (op_q (q_extract rfl rfl (by decide)) ?_)
  refine list_cons rfl (op_q (q_assign rfl (by decide)) ?_)
  refine list_cons rfl (op_q (q_assign rfl (by decide)) ?_)
  refine list_nil ?_
  refine hK3 _ ?_; clear hK3 K3
  refine codeT.imp (σ' := [(0, _), (2, _), (3, _), (4, _)]) ?_ (imp_covers ⟨rfl, rfl, rfl, rfl, trivial⟩)
  refine code_ret ?_
  refine ends_ret (cs := []) rfl rfl rfl rfl trivial ?_
  exact ⟨_, _, rfl⟩

set_option maxRecDepth 4000 in
set_option maxHeartbeats 4000000 in
theorem DrawStepChanges_c (code : List UInt8) (hcode : code.length ≤ 9223372036854775807) : MCalls Tryd.prog 24 true none [.sl code.length (bytesP code)] fun rs _ => ∃ n k : Int, rs = [.val (.int .i64 n), .val (.int .i64 k)] := by
  refine mcalls_of_code (n := 8) az Tryd.func24 (by kernel_rfl) rfl rfl (Nat.le_of_ble_eq_true rfl) (by intro t u h; simp [Tryd.f24] at h) ?_
  refine code_seq (fun K1 hK1 => ?_)
  refine code_region ?_
  refine list_cons rfl (op_q (q_assign rfl (by decide)) ?_)
  refine list_cons rfl (op_q (q_assign rfl (by decide)) ?_)
  refine list_nil ?_
  refine hK1 _ ?_; clear hK1 K1
  refine code_seq (fun K2 hK2 => ?_)
  refine code_region ?_
  refine list_cons rfl (op_q (q_move rfl (by decide)) ?_)
  refine list_cons rfl (op_callM (DrawCounterRow_c _ ?_) (.tmp 0) 0 [] [.tmp 4] _ rfl rfl (by intro y hy; cases hy) (by decide) (by decide) (by decide) rfl (by intro h; cases h) ?_)
  · first | assumption | omega | (simp; omega)
  rintro _ _ ⟨n, cells, rfl⟩
  refine list_cons rfl (op_q (q_extract rfl rfl (by decide)) ?_)
  refine list_cons rfl (op_q (q_extract rfl rfl (by decide)) ?_)
  refine list_cons rfl (op_q (q_assign rfl (by decide)) ?_)
  refine list_cons rfl (op_q (q_assign rfl (by decide)) ?_)
  refine list_nil ?_
  refine hK2 _ ?_; clear hK2 K2
  refine codeT.imp (σ' := [(0, _), (2, _), (3, _)]) ?_ (imp_covers ⟨rfl, rfl, rfl, trivial⟩)
  refine code_ret ?_
  refine ends_ret (cs := []) rfl rfl rfl rfl trivial ?_
  exact ⟨_, _, rfl⟩

set_option maxRecDepth 4000 in
set_option maxHeartbeats 4000000 in
theorem DrawRunChanges_c (code : List UInt8) (hcode : code.length ≤ 9223372036854775807) : MCalls Tryd.prog 16 true none [.sl code.length (bytesP code)] fun rs _ => ∃ n s k : Int, (-1 ≤ s ∧ s ≤ 1001) ∧ rs = [.val (.int .i64 n), .val (.int .i64 s), .val (.int .i64 k)] := by
  refine mcalls_of_code (n := 23) az Tryd.func16 (by kernel_rfl) rfl rfl (Nat.le_of_ble_eq_true rfl) (by intro t u h; simp [Tryd.f16] at h) ?_
  refine code_seq (fun K1 hK1 => ?_)
  refine code_region ?_
  refine list_cons rfl (op_q (q_assign rfl (by decide)) ?_)
  refine list_cons rfl (op_q (q_assign rfl (by decide)) ?_)
  refine list_cons rfl (op_q (q_assign rfl (by decide)) ?_)
  refine list_nil ?_
  refine hK1 _ ?_; clear hK1 K1
  refine code_seq (fun K2 hK2 => ?_)
  refine code_region ?_
  refine list_cons rfl (op_q (q_move rfl (by decide)) ?_)
  refine list_cons rfl (op_q (q_build_ext bt_66 (parts := [(0, .tmp 9)]) rfl rfl (by decide)) ?_)
  refine list_cons rfl (op_box rfl (.inr rfl) (by decide) (by decide) rfl ?_)
  refine list_cons rfl (op_q (q_assign rfl (by decide)) ?_)
  refine list_nil ?_
  refine hK2 _ ?_; clear hK2 K2
  refine code_seq (fun K3 hK3 => ?_)
  refine code_region ?_
  refine list_cons rfl (op_q (q_move rfl (by decide)) ?_)
  refine list_cons rfl (op_buildSlice sl_35 (parts := [(0, _), (1, _), (2, _), (3, _), (4, _), (5, _), (6, _), (7, _), (8, _), (9, _)]) rfl rfl rfl (by decide) (by decide) (by decide) rfl ?_)
  refine list_cons rfl (op_callM (among_c code ?_ _ _ ?_ ?_ ([1, 5, 10, 0, 100, 3, -1, 1000, 1001, 20]) (by decide) (by decide)) (.tmp 12) 11 [11, 5, 12] [.tmp 13] _ rfl rfl (by intro y hy; cases hy; exact ⟨rfl, (by intro t ht; simp only [List.mem_cons, List.not_mem_nil, or_false] at ht; rcases ht with rfl | rfl | rfl <;> rfl), (by intro s hs; simp only [List.mem_cons, List.not_mem_nil, or_false] at hs; subst hs; first | (simp [SV.labels]; done) | (simp [SV.labels, packS, SV.back]; done) | exact List.not_mem_nil)⟩) (by decide) (by decide) (by decide) rfl (fun _ => rfl) ?_)
  · first | assumption | omega | (simp; omega)
  · first | assumption | omega | (simp; omega)
  · first | assumption | omega | (simp; omega)
  rintro _ _ ⟨steps, a2, s2, hx, ha0, ha1, rfl, rfl⟩
  simp only [List.mem_cons, List.not_mem_nil, or_false] at hx
  refine list_cons rfl (op_q (q_assign rfl (by decide)) ?_)
  refine list_nil ?_
  refine hK3 _ ?_; clear hK3 K3
  refine codeT.imp (σ' := [(0, _), (2, _), (3, _), (4, _), (5, _), (6, _)]) ?_ (imp_covers ⟨rfl, rfl, rfl, rfl, rfl, rfl, trivial⟩)
  refine code_seq (fun K4 hK4 => ?_)
  refine code_region ?_
  refine list_cons rfl (op_q (q_move rfl (by decide)) ?_)
  refine list_cons rfl (op_callM (counter_c code ?_ _ _ ?_ ?_) (.tmp 16) 11 [5, 16] [] _ rfl rfl (by intro y hy; cases hy; exact ⟨rfl, (by intro t ht; simp only [List.mem_cons, List.not_mem_nil, or_false] at ht; rcases ht with rfl | rfl <;> rfl), (by intro s hs; simp only [List.mem_cons, List.not_mem_nil, or_false] at hs; (try cases hs))⟩) (by decide) (by decide) (by decide) rfl (fun _ => rfl) ?_)
  · first | assumption | omega | (simp; omega)
  · first | assumption | omega | (simp; omega)
  · first | assumption | omega | (simp; omega)
  rintro _ _ ⟨n, k, a2, s2, ha0, ha1, rfl, rfl⟩
  refine list_cons rfl (op_q (q_move rfl (by decide)) ?_)
  refine list_cons rfl (op_q (q_extract rfl rfl (by decide)) ?_)
  refine list_cons rfl (op_q (q_extract rfl rfl (by decide)) ?_)
  refine list_cons rfl (op_q (q_assign rfl (by decide)) ?_)
  refine list_cons rfl (op_q (q_assign rfl (by decide)) ?_)
  refine list_nil ?_
  refine hK4 _ ?_; clear hK4 K4
  refine codeT.imp (σ' := [(0, _), (2, _), (3, _), (4, _), (5, _), (6, _), (7, _), (8, _)]) ?_ (imp_covers ⟨rfl, rfl, rfl, rfl, rfl, rfl, rfl, rfl, trivial⟩)
  refine code_seq (fun K5 hK5 => ?_)
  refine code_region ?_
  refine list_cons rfl (op_q (q_move rfl (by decide)) ?_)
  refine list_cons rfl (op_q (q_move rfl (by decide)) ?_)
  refine list_cons rfl (op_q (q_move rfl (by decide)) ?_)
  refine list_cons rfl (op_q (q_assign rfl (by decide)) ?_)
  refine list_cons rfl (op_q (q_assign rfl (by decide)) ?_)
  refine list_cons rfl (op_q (q_assign rfl (by decide)) ?_)
  refine list_nil ?_
  refine hK5 _ ?_; clear hK5 K5
  refine code_ret ?_
  refine ends_ret (cs := []) rfl rfl rfl rfl trivial ?_
  exact ⟨_, _, _, by omega, rfl⟩

set_option maxRecDepth 4000 in
set_option maxHeartbeats 4000000 in
theorem DrawMostChanges_c (code : List UInt8) (hcode : code.length ≤ 9223372036854775807) : MCalls Tryd.prog 30 true none [.sl code.length (bytesP code)] fun rs _ => ∃ x : Int, (0 ≤ x ∧ x ≤ 7) ∧ rs = [.val (.int .i64 x)] := by
  refine mcalls_of_code (n := 9) az Tryd.func30 (by kernel_rfl) rfl rfl (Nat.le_of_ble_eq_true rfl) (by intro t u h; simp [Tryd.f30] at h) ?_
  refine code_seq (fun K1 hK1 => ?_)
  refine code_region ?_
  refine list_cons rfl (op_q (q_assign rfl (by decide)) ?_)
  refine list_nil ?_
  refine hK1 _ ?_; clear hK1 K1
  refine code_seq (fun K2 hK2 => ?_)
  refine code_region ?_
  refine list_cons rfl (op_q (q_move rfl (by decide)) ?_)
  refine list_cons rfl (op_q (q_build_ext bt_66 (parts := [(0, .tmp 4)]) rfl rfl (by decide)) ?_)
  refine list_cons rfl (op_box rfl (.inr rfl) (by decide) (by decide) rfl ?_)
  refine list_cons rfl (op_q (q_assign rfl (by decide)) ?_)
  refine list_nil ?_
  refine hK2 _ ?_; clear hK2 K2
  refine code_seq (fun K3 hK3 => ?_)
  refine code_region ?_
  refine list_cons rfl (op_q (q_move rfl (by decide)) ?_)
  refine list_cons rfl (op_callM (pick_c code ?_ _ _ ?_ ?_ _) (.tmp 7) 6 [6, 3, 7] [_] _ rfl rfl (by intro y hy; cases hy; exact ⟨rfl, (by intro t ht; simp only [List.mem_cons, List.not_mem_nil, or_false] at ht; rcases ht with rfl | rfl | rfl <;> rfl), (by intro s hs; simp only [List.mem_cons, List.not_mem_nil, or_false] at hs; subst hs; first | (simp [SV.labels]; done) | (simp [SV.labels, packS, SV.back]; done) | exact List.not_mem_nil)⟩) (by decide) (by decide) (by decide) rfl (fun _ => rfl) ?_)
  · first | assumption | omega | (simp; omega)
  · first | assumption | omega | (simp; omega)
  · first | assumption | omega | (simp; omega)
  rintro _ _ ⟨b, a2, s2, hb0, hb1, ha0, ha1, rfl, rfl⟩
  try have hp2 := p2_64 (k := b.toNat) (by omega)
  refine list_cons rfl (op_q (q_assign rfl (by decide)) ?_)
  refine list_nil ?_
  refine hK3 _ ?_; clear hK3 K3
  refine codeT.imp (σ' := [(0, _), (2, _), (3, _)]) ?_ (imp_covers ⟨rfl, rfl, rfl, trivial⟩)
  refine code_ret ?_
  refine ends_ret (cs := []) rfl rfl rfl rfl trivial ?_
  exact ⟨_, by omega, rfl⟩

set_option maxRecDepth 4000 in
set_option maxHeartbeats 4000000 in
theorem DrawFirstOver_c (code : List UInt8) (hcode : code.length ≤ 9223372036854775807) : MCalls Tryd.prog 33 true none [.sl code.length (bytesP code)] fun rs _ => ∃ n k ch : Int, rs = [.val (.int .i64 n), .val (.int .i64 k), .val (.int .i64 ch)] := by
  refine mcalls_of_code (n := 23) az Tryd.func33 (by kernel_rfl) rfl rfl (Nat.le_of_ble_eq_true rfl) (by intro t u h; simp [Tryd.f33] at h) ?_
  refine code_seq (fun K1 hK1 => ?_)
  refine code_region ?_
  refine list_cons rfl (op_q (q_assign rfl (by decide)) ?_)
  refine list_cons rfl (op_q (q_assign rfl (by decide)) ?_)
  refine list_cons rfl (op_q (q_assign rfl (by decide)) ?_)
  refine list_nil ?_
  refine hK1 _ ?_; clear hK1 K1
  refine code_seq (fun K2 hK2 => ?_)
  refine code_region ?_
  refine list_cons rfl (op_q (q_move rfl (by decide)) ?_)
  refine list_cons rfl (op_q (q_build_ext bt_66 (parts := [(0, .tmp 9)]) rfl rfl (by decide)) ?_)
  refine list_cons rfl (op_box rfl (.inr rfl) (by decide) (by decide) rfl ?_)
  refine list_cons rfl (op_q (q_assign rfl (by decide)) ?_)
  refine list_nil ?_
  refine hK2 _ ?_; clear hK2 K2
  refine code_seq (fun K3 hK3 => ?_)
  refine code_region ?_
  refine list_cons rfl (op_q (q_move rfl (by decide)) ?_)
  refine list_cons rfl (op_buildSlice sl_35 (parts := [(0, _), (1, _), (2, _), (3, _), (4, _), (5, _), (6, _), (7, _), (8, _), (9, _)]) rfl rfl rfl (by decide) (by decide) (by decide) rfl ?_)
  refine list_cons rfl (op_callM (among_c code ?_ _ _ ?_ ?_ ([1, 10, 0, 50, 500, -1, 3, 5000, 4611686018427387904, 100]) (by decide) (by decide)) (.tmp 12) 11 [11, 5, 12] [.tmp 13] _ rfl rfl (by intro y hy; cases hy; exact ⟨rfl, (by intro t ht; simp only [List.mem_cons, List.not_mem_nil, or_false] at ht; rcases ht with rfl | rfl | rfl <;> rfl), (by intro s hs; simp only [List.mem_cons, List.not_mem_nil, or_false] at hs; subst hs; first | (simp [SV.labels]; done) | (simp [SV.labels, packS, SV.back]; done) | exact List.not_mem_nil)⟩) (by decide) (by decide) (by decide) rfl (fun _ => rfl) ?_)
  · first | assumption | omega | (simp; omega)
  · first | assumption | omega | (simp; omega)
  · first | assumption | omega | (simp; omega)
  rintro _ _ ⟨ch0, a2, s2, -, ha0, ha1, rfl, rfl⟩
  refine list_cons rfl (op_q (q_assign rfl (by decide)) ?_)
  refine list_nil ?_
  refine hK3 _ ?_; clear hK3 K3
  refine codeT.imp (σ' := [(0, _), (2, _), (3, _), (4, _), (5, _), (6, _)]) ?_ (imp_covers ⟨rfl, rfl, rfl, rfl, rfl, rfl, trivial⟩)
  refine code_seq (fun K4 hK4 => ?_)
  refine code_region ?_
  refine list_cons rfl (op_q (q_move rfl (by decide)) ?_)
  refine list_cons rfl (op_callM (counter_c code ?_ _ _ ?_ ?_) (.tmp 16) 11 [5, 16] [] _ rfl rfl (by intro y hy; cases hy; exact ⟨rfl, (by intro t ht; simp only [List.mem_cons, List.not_mem_nil, or_false] at ht; rcases ht with rfl | rfl <;> rfl), (by intro s hs; simp only [List.mem_cons, List.not_mem_nil, or_false] at hs; (try cases hs))⟩) (by decide) (by decide) (by decide) rfl (fun _ => rfl) ?_)
  · first | assumption | omega | (simp; omega)
  · first | assumption | omega | (simp; omega)
  · first | assumption | omega | (simp; omega)
  rintro _ _ ⟨n, k, a2, s2, ha0, ha1, rfl, rfl⟩
  refine list_cons rfl (op_q (q_move rfl (by decide)) ?_)
  refine list_cons rfl (op_q (q_extract rfl rfl (by decide)) ?_)
  refine list_cons rfl (op_q (q_extract rfl rfl (by decide)) ?_)
  refine list_cons rfl (op_q (q_assign rfl (by decide)) ?_)
  refine list_cons rfl (op_q (q_assign rfl (by decide)) ?_)
  refine list_nil ?_
  refine hK4 _ ?_; clear hK4 K4
  refine codeT.imp (σ' := [(0, _), (2, _), (3, _), (4, _), (5, _), (6, _), (7, _), (8, _)]) ?_ (imp_covers ⟨rfl, rfl, rfl, rfl, rfl, rfl, rfl, rfl, trivial⟩)
  refine code_seq (fun K5 hK5 => ?_)
  refine code_region ?_
  refine list_cons rfl (op_q (q_move rfl (by decide)) ?_)
  refine list_cons rfl (op_q (q_move rfl (by decide)) ?_)
  refine list_cons rfl (op_q (q_move rfl (by decide)) ?_)
  refine list_cons rfl (op_q (q_assign rfl (by decide)) ?_)
  refine list_cons rfl (op_q (q_assign rfl (by decide)) ?_)
  refine list_cons rfl (op_q (q_assign rfl (by decide)) ?_)
  refine list_nil ?_
  refine hK5 _ ?_; clear hK5 K5
  refine code_ret ?_
  refine ends_ret (cs := []) rfl rfl rfl rfl trivial ?_
  exact ⟨_, _, _, rfl⟩

theorem flat_td (code : List UInt8) (a b : Nat) : PV.flatL (List.take a (List.drop b (bytesP code))) = true := by
  unfold bytesP
  rw [← List.map_drop, ← List.map_take]; exact flat_map _ (fun _ => rfl) _
theorem bytesP_cut (code : List UInt8) (n : Int) (k : Nat) (h0 : 0 ≤ n) (h1 : n ≤ 255) (hk : k = code.length - n.toNat) : (List.take (k * 1) (List.drop (n.toNat * 1) (bytesP code))) ++ [PV.int .u8 n] = bytesP (code.drop n.toNat ++ [UInt8.ofNat n.toNat]) := by
  subst hk
  rw [Nat.mul_one, Nat.mul_one]
  unfold bytesP
  rw [List.map_append, List.map_drop, List.take_of_length_le (by simp)]
  congr 1
  have h : (UInt8.ofNat n.toNat).toNat = n.toNat := by
    rw [UInt8.toNat_ofNat']; omega
  simp only [List.map_cons, List.map_nil, h]
  rw [show ((n.toNat : Nat) : Int) = n by omega]

end Go.Proofs.YtdlckhdalbagmaaDoor
