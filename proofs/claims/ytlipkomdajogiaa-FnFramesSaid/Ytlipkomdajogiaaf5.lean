/- Contracts of functions, walked over the pure layer; each says for which arguments. -/
import Derived.Test.Ytlipkomdajogiaaf5Ty
import Derived.Test.YtlipkomdajogiaaTf
import Derived.Test.Ytlipkomdajogiaaf1
import Derived.Test.YtlipkomdajogiaaPwTk
namespace Go.Proofs.Ytlipkomdajogiaa
open Go.RowKit f5Ty
set_option linter.unusedVariables false
set_option linter.unusedSimpArgs false
theorem iand_255 (x : Int) : 0 ≤ iand .u64 x 255 ∧ iand .u64 x 255 ≤ 255 := by
  unfold iand
  rw [BitVec.toNat_and, show (BitVec.ofInt IntKind.u64.bits 255).toNat = 255 from rfl]
  have h : (BitVec.ofInt IntKind.u64.bits x).toNat &&& 255 ≤ 255 := Nat.and_le_right
  rw [IntWalk.u64_in _ ⟨by omega, by omega⟩]
  omega
theorem getD_mem {l : List Int} {k : Nat} (h : k < l.length) : l.getD k 0 ∈ l := by
  rw [List.getD_eq_getElem?_getD, List.getElem?_eq_getElem h]; exact List.getElem_mem h
theorem p2_64 {k : Nat} (h : k ≤ 6) : p2 k ≤ 64 := by
  have : p2 k ≤ p2 6 := Nat.pow_le_pow_right (by omega) h
  exact this
theorem xor7c {x y : Int} (hx : 0 ≤ x ∧ x ≤ 127) (hy : 0 ≤ y ∧ y ≤ 127) : 0 ≤ ((x.toNat ^^^ y.toNat : Nat) : Int) ∧ ((x.toNat ^^^ y.toNat : Nat) : Int) ≤ 127 := by
  have h := @Nat.xor_lt_two_pow x.toNat y.toNat 7 (by omega) (by omega)
  omega
theorem iandw_255 (x : Int) : 0 ≤ IntKind.i64.wrap (iand .u64 x 255) ∧ IntKind.i64.wrap (iand .u64 x 255) ≤ 255 := by
  have h := iand_255 x
  rw [wrap_in (by omega) (by omega)]; exact h
set_option maxRecDepth 4000 in
theorem next_c (code : List UInt8) (hcode : code.length ≤ 9223372036854775807) (a s : Int) (ha : 0 ≤ a) (ha2 : a ≤ 4611686018427387904) : MCalls Try.prog 90 false (some (.box 77 [.sl code.length (bytesP code), .int .i64 a, .int .u64 s])) [] fun rs cs => ∃ b s2 : Int, 0 ≤ b ∧ b ≤ 255 ∧ rs = [.val (.int .i64 b)] ∧ cs = [.sl code.length (bytesP code), .int .i64 (a + 1), .int .u64 s2] := by
  refine mcalls_of_code (n := 62) az Try.func90 (by kernel_rfl) rfl rfl (Nat.le_of_ble_eq_true rfl) (by intro t u h; simp [Try.f90] at h) ?_
  refine code_seq (fun K1 hK1 => ?_)
  refine code_region ?_
  refine list_cons rfl (op_q (q_assign rfl (by decide)) ?_)
  refine list_nil ?_
  refine hK1 _ ?_; clear hK1 K1
  refine code_seq (fun K2 hK2 => ?_)
  refine code_region ?_
  refine list_cons rfl (op_q (q_assign rfl (by decide)) ?_)
  refine list_nil ?_
  refine hK2 _ ?_; clear hK2 K2
  refine code_seq (fun K3 hK3 => ?_)
  refine code_seq (fun K4 hK4 => ?_)
  refine code_draw (by kernel_rfl) (by kernel_rfl) ?_
  refine draw_q rfl (q_move rfl (by decide)) ?_
  refine draw_q rfl (q_nilCheck rfl rfl (by decide)) ?_
  refine draw_q rfl (q_fieldAddr fi_77_1 rfl rfl (by decide)) ?_
  refine draw_q rfl (q_load one_3 0 rfl rfl rfl (by first | rfl | exact get_map1 _ 0 _ (by first | omega | (simp; omega))) (by decide)) ?_
  refine draw_q rfl (q_move rfl (by decide)) ?_
  refine draw_q rfl (q_nilCheck rfl rfl (by decide)) ?_
  refine draw_q rfl (q_fieldAddr fi_77_0 rfl rfl (by decide)) ?_
  refine draw_q rfl (q_load one_22 0 rfl rfl rfl (by first | rfl | exact get_map1 _ [] _ (by first | omega | (simp; omega))) (by decide)) ?_
  refine draw_q rfl (q_len_sl Try.underlying22 rfl rfl (by decide)) ?_
  refine draw_q rfl (q_lt rfl rfl (by decide)) ?_
  refine draw_nil ?_
  refine hK4 _ ?_; clear hK4 K4
  refine codeT.imp (σ' := [(0, _), (2, _), (3, _), (13, _)]) ?_ (imp_covers ⟨rfl, rfl, rfl, rfl, trivial⟩)
  refine code_cond_d rfl (fun h1 => ?_) (fun h1 => ?_)
  · skip
    (try simp only [Decidable.not_not] at h1)
    refine code_draw (by kernel_rfl) (by kernel_rfl) ?_
    refine draw_q rfl (q_move rfl (by decide)) ?_
    refine draw_q rfl (q_nilCheck rfl rfl (by decide)) ?_
    refine draw_q rfl (q_fieldAddr fi_77_0 rfl rfl (by decide)) ?_
    refine draw_q rfl (q_load one_22 0 rfl rfl rfl (by first | rfl | exact get_map1 _ [] _ (by first | omega | (simp; omega))) (by decide)) ?_
    refine draw_q rfl (q_move rfl (by decide)) ?_
    refine draw_q rfl (q_nilCheck rfl rfl (by decide)) ?_
    refine draw_q rfl (q_fieldAddr fi_77_1 rfl rfl (by decide)) ?_
    refine draw_q rfl (q_load one_3 0 rfl rfl rfl (by first | rfl | exact get_map1 _ 0 _ (by first | omega | (simp; omega))) (by decide)) ?_
    refine draw_q rfl (q_indexAddr_rd sl_22 rfl (.inr ⟨_, rfl, rfl⟩) rfl (by omega) (by omega) (by decide)) ?_
    refine draw_q rfl (q_load_rd one_5 rfl (.inr ⟨_, (by first | rfl | exact congrArg (SV.rbor _) (drop_map1 _ 0 _ (by first | omega | (simp; omega)))), rfl⟩) (by decide)) ?_
    refine draw_q rfl (by first | exact q_convB (by rw [Try.underlying5]; rfl) Try.underlying3 rfl (by decide) | exact q_convI (by rw [Try.underlying5]; rfl) Try.underlying3 rfl (by decide) (by omega) (by omega) | exact q_conv (by rw [Try.underlying5]; rfl) Try.underlying3 rfl (by decide)) ?_
    refine draw_q rfl (q_assign rfl (by decide)) ?_
    refine draw_nil ?_
    refine hK3 _ ?_; clear hK3 K3
    refine codeT.imp (σ' := [(0, _), (2, _), (3, _)]) ?_ (imp_covers ⟨rfl, rfl, rfl, trivial⟩)
    refine code_seq (fun K5 hK5 => ?_)
    refine code_region ?_
    refine list_cons rfl (op_q (q_move rfl (by decide)) ?_)
    refine list_cons rfl (op_q (q_nilCheck rfl rfl (by decide)) ?_)
    refine list_cons rfl (op_q (q_fieldAddr fi_77_1 rfl rfl (by decide)) ?_)
    refine list_cons rfl (op_q (q_load one_3 0 rfl rfl rfl (by first | rfl | exact get_map1 _ 0 _ (by first | omega | (simp; omega))) (by decide)) ?_)
    refine list_cons rfl (op_q (by first | exact q_addI rfl rfl (by decide) (by omega) (by omega) | exact q_ib rfl rfl rfl (by decide)) ?_)
    refine list_cons rfl (op_q (q_nilCheck rfl rfl (by decide)) ?_)
    refine list_cons rfl (op_q (q_fieldAddr fi_77_1 rfl rfl (by decide)) ?_)
    refine list_cons rfl (op_store (one_3).2 0 [0, 25, 26, 30] (by intro t ht; simp only [List.mem_cons, List.not_mem_nil, or_false] at ht; rcases ht with rfl | rfl | rfl | rfl <;> rfl) (.inl rfl) rfl rfl rfl rfl rfl rfl (by first | decide | omega | exact Nat.le_refl _ | (simp; done) | (simp; omega)) (by decide) rfl ?_)
    refine list_nil ?_
    refine hK5 _ ?_; clear hK5 K5
    refine codeT.imp (σ' := [(0, _), (2, _), (3, _)]) ?_ (imp_covers ⟨rfl, rfl, rfl, trivial⟩)
    refine code_seq (fun K6 hK6 => ?_)
    refine code_region ?_
    refine list_cons rfl (op_q (q_move rfl (by decide)) ?_)
    refine list_cons rfl (op_q (q_move rfl (by decide)) ?_)
    refine list_cons rfl (op_q (q_nilCheck rfl rfl (by decide)) ?_)
    refine list_cons rfl (op_q (q_fieldAddr fi_77_2 rfl rfl (by decide)) ?_)
    refine list_cons rfl (op_q (q_load one_75 0 rfl rfl rfl (by first | rfl | exact get_map1 _ 0 _ (by first | omega | (simp; omega))) (by decide)) ?_)
    refine list_cons rfl (op_q (q_ib rfl rfl rfl (by decide)) ?_)
    refine list_cons rfl (op_q (q_move rfl (by decide)) ?_)
    refine list_cons rfl (op_q (by first | exact q_convU (by rw [Try.underlying3]; rfl) Try.underlying75 rfl (by decide) (by omega) (by omega) | exact q_conv (by rw [Try.underlying3]; rfl) Try.underlying75 rfl (by decide)) ?_)
    refine list_cons rfl (op_q (q_ib rfl rfl rfl (by decide)) ?_)
    refine list_cons rfl (op_q (q_ib rfl rfl rfl (by decide)) ?_)
    refine list_cons rfl (op_q (q_nilCheck rfl rfl (by decide)) ?_)
    refine list_cons rfl (op_q (q_fieldAddr fi_77_2 rfl rfl (by decide)) ?_)
    refine list_cons rfl (op_store (one_75).2 0 [0, 32, 33, 34, 42] (by intro t ht; simp only [List.mem_cons, List.not_mem_nil, or_false] at ht; rcases ht with rfl | rfl | rfl | rfl | rfl <;> rfl) (.inl rfl) rfl rfl rfl rfl rfl rfl (by first | decide | omega | exact Nat.le_refl _ | (simp; done) | (simp; omega)) (by decide) rfl ?_)
    refine list_nil ?_
    refine hK6 _ ?_; clear hK6 K6
    refine codeT.imp (σ' := [(0, _), (2, _), (3, _)]) ?_ (imp_covers ⟨rfl, rfl, rfl, trivial⟩)
    refine code_seq (fun K7 hK7 => ?_)
    refine code_seq (fun K8 hK8 => ?_)
    refine code_draw (by kernel_rfl) (by kernel_rfl) ?_
    refine draw_q rfl (q_move rfl (by decide)) ?_
    refine draw_q rfl (q_nilCheck rfl rfl (by decide)) ?_
    refine draw_q rfl (q_fieldAddr fi_77_1 rfl rfl (by decide)) ?_
    refine draw_q rfl (q_load one_3 0 rfl rfl rfl (by first | rfl | exact get_map1 _ 0 _ (by first | omega | (simp; omega))) (by decide)) ?_
    refine draw_q rfl (q_move rfl (by decide)) ?_
    refine draw_q rfl (q_nilCheck rfl rfl (by decide)) ?_
    refine draw_q rfl (q_fieldAddr fi_77_0 rfl rfl (by decide)) ?_
    refine draw_q rfl (q_load one_22 0 rfl rfl rfl (by first | rfl | exact get_map1 _ [] _ (by first | omega | (simp; omega))) (by decide)) ?_
    refine draw_q rfl (q_len_sl Try.underlying22 rfl rfl (by decide)) ?_
    refine draw_q rfl (q_le rfl rfl (by decide)) ?_
    refine draw_nil ?_
    refine hK8 _ ?_; clear hK8 K8
    refine codeT.imp (σ' := [(0, _), (2, _), (3, _), (53, _)]) ?_ (imp_covers ⟨rfl, rfl, rfl, rfl, trivial⟩)
    refine code_cond_d rfl (fun h2 => ?_) (fun h2 => ?_)
    · skip
      (try simp only [Decidable.not_not] at h2)
      refine code_seq (fun K9 hK9 => ?_)
      refine code_region ?_
      refine list_cons rfl (op_q (q_move rfl (by decide)) ?_)
      refine list_cons rfl (op_q (q_assign rfl (by decide)) ?_)
      refine list_nil ?_
      refine hK9 _ ?_; clear hK9 K9
      refine code_ret ?_
      refine then_r ?_; clear hK7 K7
      refine ends_ret (cs := _) rfl rfl rfl rfl rfl ?_
      first | exact ⟨_, _, (iand_255 _).1, (iand_255 _).2, rfl, rfl⟩ | exact ⟨_, _, (iandw_255 _).1, (iandw_255 _).2, rfl, rfl⟩ | exact ⟨_, _, by have := UInt8.toNat_lt (code.getD a.toNat 0); omega, by have := UInt8.toNat_lt (code.getD a.toNat 0); omega, rfl, rfl⟩ | exact ⟨_, _, by omega, by omega, rfl, rfl⟩
    (try simp only [Decidable.not_not] at h2)
    refine code_skip ?_
    refine hK7 _ ?_; clear hK7 K7
    refine code_seq (fun K10 hK10 => ?_)
    refine code_region ?_
    refine list_cons rfl (op_q (q_move rfl (by decide)) ?_)
    refine list_cons rfl (op_q (q_nilCheck rfl rfl (by decide)) ?_)
    refine list_cons rfl (op_q (q_fieldAddr fi_77_2 rfl rfl (by decide)) ?_)
    refine list_cons rfl (op_q (q_load one_75 0 rfl rfl rfl (by first | rfl | exact get_map1 _ 0 _ (by first | omega | (simp; omega))) (by decide)) ?_)
    refine list_cons rfl (op_q (q_shr rfl rfl (by omega) (by decide)) ?_)
    refine list_cons rfl (op_q (q_ib rfl rfl rfl (by decide)) ?_)
    refine list_cons rfl (op_q (by first | exact q_convB (by rw [Try.underlying75]; rfl) Try.underlying3 rfl (by decide) | exact q_convI (by rw [Try.underlying75]; rfl) Try.underlying3 rfl (by decide) (by omega) (by omega) | exact q_conv (by rw [Try.underlying75]; rfl) Try.underlying3 rfl (by decide)) ?_)
    refine list_cons rfl (op_q (q_assign rfl (by decide)) ?_)
    refine list_nil ?_
    refine hK10 _ ?_; clear hK10 K10
    refine codeT.imp (σ' := [(0, _), (2, _), (3, _)]) ?_ (imp_covers ⟨rfl, rfl, rfl, trivial⟩)
    refine code_ret ?_
    refine ends_ret (cs := _) rfl rfl rfl rfl rfl ?_
    first | exact ⟨_, _, (iand_255 _).1, (iand_255 _).2, rfl, rfl⟩ | exact ⟨_, _, (iandw_255 _).1, (iandw_255 _).2, rfl, rfl⟩ | exact ⟨_, _, by have := UInt8.toNat_lt (code.getD a.toNat 0); omega, by have := UInt8.toNat_lt (code.getD a.toNat 0); omega, rfl, rfl⟩ | exact ⟨_, _, by omega, by omega, rfl, rfl⟩
  (try simp only [Decidable.not_not] at h1)
  refine code_skip ?_
  refine hK3 _ ?_; clear hK3 K3
  refine code_seq (fun K11 hK11 => ?_)
  refine code_region ?_
  refine list_cons rfl (op_q (q_move rfl (by decide)) ?_)
  refine list_cons rfl (op_q (q_nilCheck rfl rfl (by decide)) ?_)
  refine list_cons rfl (op_q (q_fieldAddr fi_77_1 rfl rfl (by decide)) ?_)
  refine list_cons rfl (op_q (q_load one_3 0 rfl rfl rfl (by first | rfl | exact get_map1 _ 0 _ (by first | omega | (simp; omega))) (by decide)) ?_)
  refine list_cons rfl (op_q (by first | exact q_addI rfl rfl (by decide) (by omega) (by omega) | exact q_ib rfl rfl rfl (by decide)) ?_)
  refine list_cons rfl (op_q (q_nilCheck rfl rfl (by decide)) ?_)
  refine list_cons rfl (op_q (q_fieldAddr fi_77_1 rfl rfl (by decide)) ?_)
  refine list_cons rfl (op_store (one_3).2 0 [0, 25, 26, 30] (by intro t ht; simp only [List.mem_cons, List.not_mem_nil, or_false] at ht; rcases ht with rfl | rfl | rfl | rfl <;> rfl) (.inl rfl) rfl rfl rfl rfl rfl rfl (by first | decide | omega | exact Nat.le_refl _ | (simp; done) | (simp; omega)) (by decide) rfl ?_)
  refine list_nil ?_
  refine hK11 _ ?_; clear hK11 K11
  refine codeT.imp (σ' := [(0, _), (2, _), (3, _)]) ?_ (imp_covers ⟨rfl, rfl, rfl, trivial⟩)
  refine code_seq (fun K12 hK12 => ?_)
  refine code_region ?_
  refine list_cons rfl (op_q (q_move rfl (by decide)) ?_)
  refine list_cons rfl (op_q (q_move rfl (by decide)) ?_)
  refine list_cons rfl (op_q (q_nilCheck rfl rfl (by decide)) ?_)
  refine list_cons rfl (op_q (q_fieldAddr fi_77_2 rfl rfl (by decide)) ?_)
  refine list_cons rfl (op_q (q_load one_75 0 rfl rfl rfl (by first | rfl | exact get_map1 _ 0 _ (by first | omega | (simp; omega))) (by decide)) ?_)
  refine list_cons rfl (op_q (q_ib rfl rfl rfl (by decide)) ?_)
  refine list_cons rfl (op_q (q_move rfl (by decide)) ?_)
  refine list_cons rfl (op_q (by first | exact q_convU (by rw [Try.underlying3]; rfl) Try.underlying75 rfl (by decide) (by omega) (by omega) | exact q_conv (by rw [Try.underlying3]; rfl) Try.underlying75 rfl (by decide)) ?_)
  refine list_cons rfl (op_q (q_ib rfl rfl rfl (by decide)) ?_)
  refine list_cons rfl (op_q (q_ib rfl rfl rfl (by decide)) ?_)
  refine list_cons rfl (op_q (q_nilCheck rfl rfl (by decide)) ?_)
  refine list_cons rfl (op_q (q_fieldAddr fi_77_2 rfl rfl (by decide)) ?_)
  refine list_cons rfl (op_store (one_75).2 0 [0, 32, 33, 34, 42] (by intro t ht; simp only [List.mem_cons, List.not_mem_nil, or_false] at ht; rcases ht with rfl | rfl | rfl | rfl | rfl <;> rfl) (.inl rfl) rfl rfl rfl rfl rfl rfl (by first | decide | omega | exact Nat.le_refl _ | (simp; done) | (simp; omega)) (by decide) rfl ?_)
  refine list_nil ?_
  refine hK12 _ ?_; clear hK12 K12
  refine codeT.imp (σ' := [(0, _), (2, _), (3, _)]) ?_ (imp_covers ⟨rfl, rfl, rfl, trivial⟩)
  refine code_seq (fun K13 hK13 => ?_)
  refine code_seq (fun K14 hK14 => ?_)
  refine code_draw (by kernel_rfl) (by kernel_rfl) ?_
  refine draw_q rfl (q_move rfl (by decide)) ?_
  refine draw_q rfl (q_nilCheck rfl rfl (by decide)) ?_
  refine draw_q rfl (q_fieldAddr fi_77_1 rfl rfl (by decide)) ?_
  refine draw_q rfl (q_load one_3 0 rfl rfl rfl (by first | rfl | exact get_map1 _ 0 _ (by first | omega | (simp; omega))) (by decide)) ?_
  refine draw_q rfl (q_move rfl (by decide)) ?_
  refine draw_q rfl (q_nilCheck rfl rfl (by decide)) ?_
  refine draw_q rfl (q_fieldAddr fi_77_0 rfl rfl (by decide)) ?_
  refine draw_q rfl (q_load one_22 0 rfl rfl rfl (by first | rfl | exact get_map1 _ [] _ (by first | omega | (simp; omega))) (by decide)) ?_
  refine draw_q rfl (q_len_sl Try.underlying22 rfl rfl (by decide)) ?_
  refine draw_q rfl (q_le rfl rfl (by decide)) ?_
  refine draw_nil ?_
  refine hK14 _ ?_; clear hK14 K14
  refine codeT.imp (σ' := [(0, _), (2, _), (3, _), (53, _)]) ?_ (imp_covers ⟨rfl, rfl, rfl, rfl, trivial⟩)
  refine code_cond_d rfl (fun h3 => ?_) (fun h3 => ?_)
  · skip
    (try simp only [Decidable.not_not] at h3)
    refine code_seq (fun K15 hK15 => ?_)
    refine code_region ?_
    refine list_cons rfl (op_q (q_move rfl (by decide)) ?_)
    refine list_cons rfl (op_q (q_assign rfl (by decide)) ?_)
    refine list_nil ?_
    refine hK15 _ ?_; clear hK15 K15
    refine code_ret ?_
    refine then_r ?_; clear hK13 K13
    refine ends_ret (cs := _) rfl rfl rfl rfl rfl ?_
    first | exact ⟨_, _, (iand_255 _).1, (iand_255 _).2, rfl, rfl⟩ | exact ⟨_, _, (iandw_255 _).1, (iandw_255 _).2, rfl, rfl⟩ | exact ⟨_, _, by have := UInt8.toNat_lt (code.getD a.toNat 0); omega, by have := UInt8.toNat_lt (code.getD a.toNat 0); omega, rfl, rfl⟩ | exact ⟨_, _, by omega, by omega, rfl, rfl⟩
  (try simp only [Decidable.not_not] at h3)
  refine code_skip ?_
  refine hK13 _ ?_; clear hK13 K13
  refine code_seq (fun K16 hK16 => ?_)
  refine code_region ?_
  refine list_cons rfl (op_q (q_move rfl (by decide)) ?_)
  refine list_cons rfl (op_q (q_nilCheck rfl rfl (by decide)) ?_)
  refine list_cons rfl (op_q (q_fieldAddr fi_77_2 rfl rfl (by decide)) ?_)
  refine list_cons rfl (op_q (q_load one_75 0 rfl rfl rfl (by first | rfl | exact get_map1 _ 0 _ (by first | omega | (simp; omega))) (by decide)) ?_)
  refine list_cons rfl (op_q (q_shr rfl rfl (by omega) (by decide)) ?_)
  refine list_cons rfl (op_q (q_ib rfl rfl rfl (by decide)) ?_)
  refine list_cons rfl (op_q (by first | exact q_convB (by rw [Try.underlying75]; rfl) Try.underlying3 rfl (by decide) | exact q_convI (by rw [Try.underlying75]; rfl) Try.underlying3 rfl (by decide) (by omega) (by omega) | exact q_conv (by rw [Try.underlying75]; rfl) Try.underlying3 rfl (by decide)) ?_)
  refine list_cons rfl (op_q (q_assign rfl (by decide)) ?_)
  refine list_nil ?_
  refine hK16 _ ?_; clear hK16 K16
  refine codeT.imp (σ' := [(0, _), (2, _), (3, _)]) ?_ (imp_covers ⟨rfl, rfl, rfl, trivial⟩)
  refine code_ret ?_
  refine ends_ret (cs := _) rfl rfl rfl rfl rfl ?_
  first | exact ⟨_, _, (iand_255 _).1, (iand_255 _).2, rfl, rfl⟩ | exact ⟨_, _, (iandw_255 _).1, (iandw_255 _).2, rfl, rfl⟩ | exact ⟨_, _, by have := UInt8.toNat_lt (code.getD a.toNat 0); omega, by have := UInt8.toNat_lt (code.getD a.toNat 0); omega, rfl, rfl⟩ | exact ⟨_, _, by omega, by omega, rfl, rfl⟩
set_option maxRecDepth 4000 in
theorem pick_c (code : List UInt8) (hcode : code.length ≤ 9223372036854775807) (a s : Int) (ha : 0 ≤ a) (ha2 : a ≤ 4611686018427387900) (k : Int) : MCalls Try.prog 61 false (some (.box 77 [.sl code.length (bytesP code), .int .i64 a, .int .u64 s])) [.int .i64 k] fun rs cs => ∃ b a2 s2 : Int, 0 ≤ b ∧ b < max k 1 ∧ a ≤ a2 ∧ a2 ≤ a + 2 ∧ rs = [.val (.int .i64 b)] ∧ cs = [.sl code.length (bytesP code), .int .i64 a2, .int .u64 s2] := by
  refine mcalls_of_code (n := 20) az Try.func61 (by kernel_rfl) rfl rfl (Nat.le_of_ble_eq_true rfl) (by intro t u h; simp [Try.f61] at h) ?_
  refine code_seq (fun K1 hK1 => ?_)
  refine code_region ?_
  refine list_cons rfl (op_q (q_assign rfl (by decide)) ?_)
  refine list_nil ?_
  refine hK1 _ ?_; clear hK1 K1
  refine code_seq (fun K2 hK2 => ?_)
  refine code_seq (fun K3 hK3 => ?_)
  refine code_region ?_
  refine list_cons rfl (op_q (q_move rfl (by decide)) ?_)
  refine list_cons rfl (op_q (q_le rfl rfl (by decide)) ?_)
  refine list_nil ?_
  refine hK3 _ ?_; clear hK3 K3
  refine code_cond_d rfl (fun h1 => ?_) (fun h1 => ?_)
  · skip
    (try simp only [Decidable.not_not] at h1)
    refine code_seq (fun K4 hK4 => ?_)
    refine code_region ?_
    refine list_cons rfl (op_q (q_assign rfl (by decide)) ?_)
    refine list_nil ?_
    refine hK4 _ ?_; clear hK4 K4
    refine code_ret ?_
    refine then_r ?_; clear hK2 K2
    refine ends_ret (cs := _) rfl rfl rfl rfl rfl ?_
    exact ⟨0, a, s, by omega, by omega, by omega, by omega, rfl, rfl⟩
  (try simp only [Decidable.not_not] at h1)
  refine code_skip ?_
  refine hK2 _ ?_; clear hK2 K2
  refine code_seq (fun K5 hK5 => ?_)
  refine code_region ?_
  refine list_cons rfl (op_q (q_move rfl (by decide)) ?_)
  refine list_cons rfl (op_callM (next_c code ?_ _ _ ?_ ?_) (.tmp 8) 2000 [0, 8] [] _ rfl rfl (by intro y hy; cases hy; exact ⟨rfl, (by intro t ht; simp only [List.mem_cons, List.not_mem_nil, or_false] at ht; rcases ht with rfl | rfl <;> rfl), (by intro s hs; simp only [List.mem_cons, List.not_mem_nil, or_false] at hs; (try cases hs))⟩) (by decide) (by decide) (by decide) rfl (fun _ => rfl) ?_)
  · first | assumption | omega | (simp; omega)
  · first | assumption | omega | (simp; omega)
  · first | assumption | omega | (simp; omega)
  rintro _ _ ⟨b, s2, hb0, hb1, rfl, rfl⟩
  refine list_cons rfl (op_q (q_assign rfl (by decide)) ?_)
  refine list_nil ?_
  refine hK5 _ ?_; clear hK5 K5
  refine codeT.imp (σ' := [(0, _), (1, _), (4, _), (5, _)]) ?_ (imp_covers ⟨rfl, rfl, rfl, rfl, trivial⟩)
  refine code_seq (fun K6 hK6 => ?_)
  refine code_seq (fun K7 hK7 => ?_)
  refine code_region ?_
  refine list_cons rfl (op_q (q_move rfl (by decide)) ?_)
  refine list_cons rfl (op_q (q_gt rfl rfl (by decide)) ?_)
  refine list_nil ?_
  refine hK7 _ ?_; clear hK7 K7
  refine code_cond_d rfl (fun h2 => ?_) (fun h2 => ?_)
  · skip
    (try simp only [Decidable.not_not] at h2)
    refine code_region ?_
    refine list_cons rfl (op_q (q_move rfl (by decide)) ?_)
    refine list_cons rfl (op_q (by first | exact q_mulI rfl rfl (by decide) (by omega) (by omega) | exact q_ib rfl rfl rfl (by decide)) ?_)
    refine list_cons rfl (op_q (q_move rfl (by decide)) ?_)
    refine list_cons rfl (op_callM (next_c code ?_ _ _ ?_ ?_) (.tmp 14) 2000 [0, 14] [] _ rfl rfl (by intro y hy; cases hy; exact ⟨rfl, (by intro t ht; simp only [List.mem_cons, List.not_mem_nil, or_false] at ht; rcases ht with rfl | rfl <;> rfl), (by intro s hs; simp only [List.mem_cons, List.not_mem_nil, or_false] at hs; (try cases hs))⟩) (by decide) (by decide) (by decide) rfl (fun _ => rfl) ?_)
    · first | assumption | omega | (simp; omega)
    · first | assumption | omega | (simp; omega)
    · first | assumption | omega | (simp; omega)
    rintro _ _ ⟨b2, s3, hc0, hc1, rfl, rfl⟩
    refine list_cons rfl (op_q (by first | exact q_addI rfl rfl (by decide) (by omega) (by omega) | exact q_ib rfl rfl rfl (by decide)) ?_)
    refine list_cons rfl (op_q (q_assign rfl (by decide)) ?_)
    refine list_nil ?_
    refine hK6 _ ?_; clear hK6 K6
    refine codeT.imp (σ' := [(0, _), (1, _), (4, _), (5, _)]) ?_ (imp_covers ⟨rfl, rfl, rfl, rfl, trivial⟩)
    refine code_seq (fun K8 hK8 => ?_)
    refine code_region ?_
    refine list_cons rfl (op_q (q_move rfl (by decide)) ?_)
    refine list_cons rfl (op_q (q_move rfl (by decide)) ?_)
    refine list_cons rfl (op_q (by first | exact q_remI rfl rfl (by decide) (by omega) (by omega) | exact q_rem rfl rfl (by omega) (by decide)) ?_)
    refine list_cons rfl (op_q (q_assign rfl (by decide)) ?_)
    refine list_nil ?_
    refine hK8 _ ?_; clear hK8 K8
    refine code_ret ?_
    refine ends_ret (cs := _) rfl rfl rfl rfl rfl ?_
    exact ⟨_, _, _, Int.emod_nonneg _ (by omega), by have := Int.emod_lt_of_pos (b * 256 + b2) (show 0 < k by omega); omega, by omega, by omega, rfl, rfl⟩
  (try simp only [Decidable.not_not] at h2)
  refine code_skip ?_
  refine hK6 _ ?_; clear hK6 K6
  refine code_seq (fun K9 hK9 => ?_)
  refine code_region ?_
  refine list_cons rfl (op_q (q_move rfl (by decide)) ?_)
  refine list_cons rfl (op_q (q_move rfl (by decide)) ?_)
  refine list_cons rfl (op_q (by first | exact q_remI rfl rfl (by decide) (by omega) (by omega) | exact q_rem rfl rfl (by omega) (by decide)) ?_)
  refine list_cons rfl (op_q (q_assign rfl (by decide)) ?_)
  refine list_nil ?_
  refine hK9 _ ?_; clear hK9 K9
  refine code_ret ?_
  refine ends_ret (cs := _) rfl rfl rfl rfl rfl ?_
  exact ⟨_, _, _, Int.emod_nonneg _ (by omega), by have := Int.emod_lt_of_pos b (show 0 < k by omega); omega, by omega, by omega, rfl, rfl⟩
set_option maxRecDepth 4000 in
theorem one_c (code : List UInt8) (hcode : code.length ≤ 9223372036854775807) (a s : Int) (ha : 0 ≤ a) (ha2 : a ≤ 4611686018427387900) (k : Int) : MCalls Try.prog 60 false (some (.box 77 [.sl code.length (bytesP code), .int .i64 a, .int .u64 s])) [.int .i64 k] fun rs cs => ∃ (o a2 s2 : Int), a ≤ a2 ∧ a2 ≤ a + 2 ∧ rs = [.val (.bool (decide (o = 0)))] ∧ cs = [.sl code.length (bytesP code), .int .i64 a2, .int .u64 s2] := by
  refine mcalls_of_code (n := 9) az Try.func60 (by kernel_rfl) rfl rfl (Nat.le_of_ble_eq_true rfl) (by intro t u h; simp [Try.f60] at h) ?_
  refine code_seq (fun K1 hK1 => ?_)
  refine code_region ?_
  refine list_cons rfl (op_q (q_assign rfl (by decide)) ?_)
  refine list_nil ?_
  refine hK1 _ ?_; clear hK1 K1
  refine code_seq (fun K2 hK2 => ?_)
  refine code_region ?_
  refine list_cons rfl (op_q (q_move rfl (by decide)) ?_)
  refine list_cons rfl (op_q (q_move rfl (by decide)) ?_)
  refine list_cons rfl (op_callM (pick_c code ?_ _ _ ?_ ?_ _) (.tmp 5) 2000 [0, 5] [.tmp 6] _ rfl rfl (by intro y hy; cases hy; exact ⟨rfl, (by intro t ht; simp only [List.mem_cons, List.not_mem_nil, or_false] at ht; rcases ht with rfl | rfl <;> rfl), (by intro s hs; simp only [List.mem_cons, List.not_mem_nil, or_false] at hs; subst hs; first | (simp [SV.labels]; done) | (simp [SV.labels, packS, SV.back]; done) | exact List.not_mem_nil)⟩) (by decide) (by decide) (by decide) rfl (fun _ => rfl) ?_)
  · first | assumption | omega | (simp; omega)
  · first | assumption | omega | (simp; omega)
  · first | assumption | omega | (simp; omega)
  rintro _ _ ⟨b, a2, s2, hb0, hb1, ha0, ha1, rfl, rfl⟩
  try have hp2 := p2_64 (k := b.toNat) (by omega)
  refine list_cons rfl (op_q (q_eq rfl rfl (by decide)) ?_)
  refine list_cons rfl (op_q (q_assign rfl (by decide)) ?_)
  refine list_nil ?_
  refine hK2 _ ?_; clear hK2 K2
  refine codeT.imp (σ' := [(0, _), (1, _), (4, _)]) ?_ (imp_covers ⟨rfl, rfl, rfl, trivial⟩)
  refine code_ret ?_
  refine ends_ret (cs := _) rfl rfl rfl rfl rfl ?_
  exact ⟨_, _, _, by omega, by omega, rfl, rfl⟩
set_option maxRecDepth 4000 in
theorem among_c (code : List UInt8) (hcode : code.length ≤ 9223372036854775807) (a s : Int) (ha : 0 ≤ a) (ha2 : a ≤ 4611686018427387900) (l : List Int) (hl : 0 < l.length) (hl2 : l.length ≤ 4611686018427387904) : MCalls Try.prog 62 false (some (.box 77 [.sl code.length (bytesP code), .int .i64 a, .int .u64 s])) [.sl l.length (l.map (.int .i64))] fun rs cs => ∃ (x : Int) (a2 s2 : Int), x ∈ l ∧ a ≤ a2 ∧ a2 ≤ a + 2 ∧ rs = [.val (.int .i64 x)] ∧ cs = [.sl code.length (bytesP code), .int .i64 a2, .int .u64 s2] := by
  refine mcalls_of_code (n := 12) az Try.func62 (by kernel_rfl) rfl rfl (Nat.le_of_ble_eq_true rfl) (by intro t u h; simp [Try.f62] at h) ?_
  refine code_seq (fun K1 hK1 => ?_)
  refine code_region ?_
  refine list_cons rfl (op_q (q_assign rfl (by decide)) ?_)
  refine list_nil ?_
  refine hK1 _ ?_; clear hK1 K1
  refine code_seq (fun K2 hK2 => ?_)
  refine code_region ?_
  refine list_cons rfl (op_q (q_move rfl (by decide)) ?_)
  refine list_cons rfl (op_q (q_move rfl (by decide)) ?_)
  refine list_cons rfl (op_q (q_move rfl (by decide)) ?_)
  refine list_cons rfl (op_q (q_len_sl Try.underlying27 rfl rfl (by decide)) ?_)
  refine list_cons rfl (op_callM (pick_c code ?_ _ _ ?_ ?_ _) (.tmp 6) 2000 [0, 6] [.tmp 8] _ rfl rfl (by intro y hy; cases hy; exact ⟨rfl, (by intro t ht; simp only [List.mem_cons, List.not_mem_nil, or_false] at ht; rcases ht with rfl | rfl <;> rfl), (by intro s hs; simp only [List.mem_cons, List.not_mem_nil, or_false] at hs; subst hs; first | (simp [SV.labels]; done) | (simp [SV.labels, packS, SV.back]; done) | exact List.not_mem_nil)⟩) (by decide) (by decide) (by decide) rfl (fun _ => rfl) ?_)
  · first | assumption | omega | (simp; omega)
  · first | assumption | omega | (simp; omega)
  · first | assumption | omega | (simp; omega)
  rintro _ _ ⟨b, a2, s2, hb0, hb1, ha0, ha1, rfl, rfl⟩
  try have hp2 := p2_64 (k := b.toNat) (by omega)
  refine list_cons rfl (op_q (q_indexAddr_rd sl_27 rfl (.inl ⟨_, rfl, rfl⟩) rfl (by omega) (by omega) (by decide)) ?_)
  refine list_cons rfl (op_q (q_load_rd one_3 rfl (.inl ⟨_, (by first | rfl | exact congrArg (SV.rpar _) (drop_map1 _ 0 _ (by first | omega | (simp; omega)))), rfl⟩) (by decide)) ?_)
  refine list_cons rfl (op_q (q_assign rfl (by decide)) ?_)
  refine list_nil ?_
  refine hK2 _ ?_; clear hK2 K2
  refine codeT.imp (σ' := [(0, _), (1, _), (4, _)]) ?_ (imp_covers ⟨rfl, rfl, rfl, trivial⟩)
  refine code_ret ?_
  refine ends_ret (cs := _) rfl rfl rfl rfl rfl ?_
  exact ⟨_, _, _, getD_mem (show b.toNat < l.length by omega), by omega, by omega, rfl, rfl⟩
set_option maxRecDepth 4000 in
set_option maxHeartbeats 4000000 in
theorem cell_c (code : List UInt8) (hcode : code.length ≤ 9223372036854775807) (a s : Int) (ha : 0 ≤ a) (ha2 : a ≤ 4611686018427387000) : MCalls Try.prog 106 false (some (.box 77 [.sl code.length (bytesP code), .int .i64 a, .int .u64 s])) [] fun rs cs => ∃ (x : Int) (a2 s2 : Int), (-1 ≤ x ∧ x ≤ 4611686018427387904) ∧ a ≤ a2 ∧ a2 ≤ a + 20 ∧ rs = [.val (.int .i64 x)] ∧ cs = [.sl code.length (bytesP code), .int .i64 a2, .int .u64 s2] := by
  refine mcalls_of_code (n := 33) az Try.func106 (by kernel_rfl) rfl rfl (Nat.le_of_ble_eq_true rfl) (by intro t u h; simp [Try.f106] at h) ?_
  refine code_seq (fun K1 hK1 => ?_)
  refine code_region ?_
  refine list_cons rfl (op_q (q_assign rfl (by decide)) ?_)
  refine list_nil ?_
  refine hK1 _ ?_; clear hK1 K1
  refine code_seq (fun K2 hK2 => ?_)
  refine code_seq (fun K3 hK3 => ?_)
  refine code_region ?_
  refine list_cons rfl (op_q (q_move rfl (by decide)) ?_)
  refine list_cons rfl (op_callM (pick_c code ?_ _ _ ?_ ?_ _) (.tmp 4) 2000 [0, 4] [_] _ rfl rfl (by intro y hy; cases hy; exact ⟨rfl, (by intro t ht; simp only [List.mem_cons, List.not_mem_nil, or_false] at ht; rcases ht with rfl | rfl <;> rfl), (by intro s hs; simp only [List.mem_cons, List.not_mem_nil, or_false] at hs; subst hs; first | (simp [SV.labels]; done) | (simp [SV.labels, packS, SV.back]; done) | exact List.not_mem_nil)⟩) (by decide) (by decide) (by decide) rfl (fun _ => rfl) ?_)
  · first | assumption | omega | (simp; omega)
  · first | assumption | omega | (simp; omega)
  · first | assumption | omega | (simp; omega)
  rintro _ _ ⟨b, a2, s2, hb0, hb1, ha0, ha1, rfl, rfl⟩
  try have hp2 := p2_64 (k := b.toNat) (by omega)
  refine list_nil ?_
  refine hK3 _ ?_; clear hK3 K3
  refine codeT.imp (σ' := [(0, _), (2, _), (5, _)]) ?_ (imp_covers ⟨rfl, rfl, rfl, trivial⟩)
  refine code_block ?_
  refine code_seq (fun K4 hK4 => ?_)
  refine code_region ?_
  refine list_cons rfl (op_q (q_eq rfl rfl (by decide)) ?_)
  refine list_cons rfl (op_q (q_assign rfl (by decide)) ?_)
  refine list_nil ?_
  refine hK4 _ ?_; clear hK4 K4
  refine code_cond_d rfl (fun h1 => ?_) (fun h1 => ?_)
  · skip
    (try simp only [Decidable.not_not] at h1)
    refine code_seq (fun K5 hK5 => ?_)
    refine code_region ?_
    refine list_cons rfl (op_q (q_move rfl (by decide)) ?_)
    refine list_cons rfl (op_buildSlice sl_27 (parts := [(0, _), (1, _), (2, _)]) rfl rfl rfl (by decide) (by decide) (by decide) rfl ?_)
    refine list_cons rfl (op_callM (among_c code ?_ _ _ ?_ ?_ ([-1, 128, 4611686018427387904]) (by decide) (by decide)) (.tmp 8) 2000 [0, 8] [.tmp 9] _ rfl rfl (by intro y hy; cases hy; exact ⟨rfl, (by intro t ht; simp only [List.mem_cons, List.not_mem_nil, or_false] at ht; rcases ht with rfl | rfl <;> rfl), (by intro s hs; simp only [List.mem_cons, List.not_mem_nil, or_false] at hs; subst hs; first | (simp [SV.labels]; done) | (simp [SV.labels, packS, SV.back]; done) | exact List.not_mem_nil)⟩) (by decide) (by decide) (by decide) rfl (fun _ => rfl) ?_)
    · first | assumption | omega | (simp; omega)
    · first | assumption | omega | (simp; omega)
    · first | assumption | omega | (simp; omega)
    rintro _ _ ⟨x, a2, s2, hx, ha0, ha1, rfl, rfl⟩
    simp only [List.mem_cons, List.not_mem_nil, or_false] at hx
    refine list_cons rfl (op_q (q_assign rfl (by decide)) ?_)
    refine list_nil ?_
    refine hK5 _ ?_; clear hK5 K5
    refine codeT.imp (σ' := [(0, _), (2, _), (5, _)]) ?_ (imp_covers ⟨rfl, rfl, rfl, trivial⟩)
    refine code_ret ?_
    refine blk_r ?_
    refine then_r ?_; clear hK2 K2
    refine ends_ret (cs := _) rfl rfl rfl rfl rfl ?_
    first
    | exact ⟨_, _, _, by omega, by omega, by omega, rfl, rfl⟩
    | (refine ⟨_, _, _, ?_, by omega, by omega, rfl, rfl⟩; have hx7 := @xor7c (digT.getD _ 0) ((p2 b.toNat : Nat) : Int) hdc ⟨by omega, by omega⟩; omega)
  (try simp only [Decidable.not_not] at h1)
  refine code_seq (fun K6 hK6 => ?_)
  refine code_seq (fun K7 hK7 => ?_)
  refine code_region ?_
  refine list_cons rfl (op_q (q_eq rfl rfl (by decide)) ?_)
  refine list_cons rfl (op_q (q_assign rfl (by decide)) ?_)
  refine list_nil ?_
  refine hK7 _ ?_; clear hK7 K7
  refine code_cond_d rfl (fun h2 => ?_) (fun h2 => ?_)
  · skip
    (try simp only [Decidable.not_not] at h2)
    refine code_skip ?_
    refine hK6 _ ?_; clear hK6 K6
    refine code_cond_d rfl (fun h3 => ?_) (fun h3 => ?_)
    · skip
      (try simp only [Decidable.not_not] at h3)
      refine code_seq (fun K8 hK8 => ?_)
      refine code_region ?_
      refine list_cons rfl (op_q (q_move rfl (by decide)) ?_)
      refine list_cons rfl (op_buildSlice sl_27 (parts := [(0, _), (1, _), (2, _)]) rfl rfl rfl (by decide) (by decide) (by decide) rfl ?_)
      refine list_cons rfl (op_callM (among_c code ?_ _ _ ?_ ?_ ([0, 127, 64]) (by decide) (by decide)) (.tmp 15) 2000 [0, 15] [.tmp 16] _ rfl rfl (by intro y hy; cases hy; exact ⟨rfl, (by intro t ht; simp only [List.mem_cons, List.not_mem_nil, or_false] at ht; rcases ht with rfl | rfl <;> rfl), (by intro s hs; simp only [List.mem_cons, List.not_mem_nil, or_false] at hs; subst hs; first | (simp [SV.labels]; done) | (simp [SV.labels, packS, SV.back]; done) | exact List.not_mem_nil)⟩) (by decide) (by decide) (by decide) rfl (fun _ => rfl) ?_)
      · first | assumption | omega | (simp; omega)
      · first | assumption | omega | (simp; omega)
      · first | assumption | omega | (simp; omega)
      rintro _ _ ⟨x, a2, s2, hx, ha0, ha1, rfl, rfl⟩
      simp only [List.mem_cons, List.not_mem_nil, or_false] at hx
      refine list_cons rfl (op_q (q_assign rfl (by decide)) ?_)
      refine list_nil ?_
      refine hK8 _ ?_; clear hK8 K8
      refine codeT.imp (σ' := [(0, _), (2, _), (5, _), (11, _)]) ?_ (imp_covers ⟨rfl, rfl, rfl, rfl, trivial⟩)
      refine code_ret ?_
      refine blk_r ?_
      refine then_r ?_; clear hK2 K2
      refine ends_ret (cs := _) rfl rfl rfl rfl rfl ?_
      first
      | exact ⟨_, _, _, by omega, by omega, by omega, rfl, rfl⟩
      | (refine ⟨_, _, _, ?_, by omega, by omega, rfl, rfl⟩; have hx7 := @xor7c (digT.getD _ 0) ((p2 b.toNat : Nat) : Int) hdc ⟨by omega, by omega⟩; omega)
    (try simp only [Decidable.not_not] at h3)
    refine code_skip ?_
    refine blk_n ?_
    refine hK2 _ ?_; clear hK2 K2
    refine code_seq (fun K9 hK9 => ?_)
    refine code_seq (fun K10 hK10 => ?_)
    refine code_region ?_
    refine list_cons rfl (op_q (q_move rfl (by decide)) ?_)
    refine list_cons rfl (op_callM (one_c code ?_ _ _ ?_ ?_ _) (.tmp 18) 2000 [0, 18] [_] _ rfl rfl (by intro y hy; cases hy; exact ⟨rfl, (by intro t ht; simp only [List.mem_cons, List.not_mem_nil, or_false] at ht; rcases ht with rfl | rfl <;> rfl), (by intro s hs; simp only [List.mem_cons, List.not_mem_nil, or_false] at hs; subst hs; first | (simp [SV.labels]; done) | (simp [SV.labels, packS, SV.back]; done) | exact List.not_mem_nil)⟩) (by decide) (by decide) (by decide) rfl (fun _ => rfl) ?_)
    · first | assumption | omega | (simp; omega)
    · first | assumption | omega | (simp; omega)
    · first | assumption | omega | (simp; omega)
    rintro _ _ ⟨o, a2, s2, ha0, ha1, rfl, rfl⟩
    refine list_nil ?_
    refine hK10 _ ?_; clear hK10 K10
    refine codeT.imp (σ' := [(0, _), (2, _), (5, _), (11, _), (19, _)]) ?_ (imp_covers ⟨rfl, rfl, rfl, rfl, rfl, trivial⟩)
    refine code_cond_d rfl (fun h4 => ?_) (fun h4 => ?_)
    · skip
      (try simp only [Decidable.not_not] at h4)
      refine code_seq (fun K11 hK11 => ?_)
      refine code_region ?_
      refine list_cons rfl (op_q (q_move rfl (by decide)) ?_)
      refine list_cons rfl (op_callM (pick_c code ?_ _ _ ?_ ?_ _) (.tmp 20) 2000 [0, 20] [_] _ rfl rfl (by intro y hy; cases hy; exact ⟨rfl, (by intro t ht; simp only [List.mem_cons, List.not_mem_nil, or_false] at ht; rcases ht with rfl | rfl <;> rfl), (by intro s hs; simp only [List.mem_cons, List.not_mem_nil, or_false] at hs; subst hs; first | (simp [SV.labels]; done) | (simp [SV.labels, packS, SV.back]; done) | exact List.not_mem_nil)⟩) (by decide) (by decide) (by decide) rfl (fun _ => rfl) ?_)
      · first | assumption | omega | (simp; omega)
      · first | assumption | omega | (simp; omega)
      · first | assumption | omega | (simp; omega)
      rintro _ _ ⟨b, a2, s2, hb0, hb1, ha0, ha1, rfl, rfl⟩
      try have hp2 := p2_64 (k := b.toNat) (by omega)
      refine list_cons rfl (op_q (q_assign rfl (by decide)) ?_)
      refine list_nil ?_
      refine hK11 _ ?_; clear hK11 K11
      refine codeT.imp (σ' := [(0, _), (2, _), (5, _), (11, _)]) ?_ (imp_covers ⟨rfl, rfl, rfl, rfl, trivial⟩)
      refine code_ret ?_
      refine then_r ?_; clear hK9 K9
      refine ends_ret (cs := _) rfl rfl rfl rfl rfl ?_
      first
      | exact ⟨_, _, _, by omega, by omega, by omega, rfl, rfl⟩
      | (refine ⟨_, _, _, ?_, by omega, by omega, rfl, rfl⟩; have hx7 := @xor7c (digT.getD _ 0) ((p2 b.toNat : Nat) : Int) hdc ⟨by omega, by omega⟩; omega)
    (try simp only [Decidable.not_not] at h4)
    refine code_skip ?_
    refine hK9 _ ?_; clear hK9 K9
    refine code_seq (fun K12 hK12 => ?_)
    refine code_region ?_
    refine list_cons rfl (op_q (q_move rfl (by decide)) ?_)
    refine list_cons rfl (op_callM (pick_c code ?_ _ _ ?_ ?_ _) (.tmp 22) 2000 [0, 22] [_] _ rfl rfl (by intro y hy; cases hy; exact ⟨rfl, (by intro t ht; simp only [List.mem_cons, List.not_mem_nil, or_false] at ht; rcases ht with rfl | rfl <;> rfl), (by intro s hs; simp only [List.mem_cons, List.not_mem_nil, or_false] at hs; subst hs; first | (simp [SV.labels]; done) | (simp [SV.labels, packS, SV.back]; done) | exact List.not_mem_nil)⟩) (by decide) (by decide) (by decide) rfl (fun _ => rfl) ?_)
    · first | assumption | omega | (simp; omega)
    · first | assumption | omega | (simp; omega)
    · first | assumption | omega | (simp; omega)
    rintro _ _ ⟨b, a2, s2, hb0, hb1, ha0, ha1, rfl, rfl⟩
    try have hp2 := p2_64 (k := b.toNat) (by omega)
    refine list_cons rfl (op_call _ (spec_l2Digit _ (by omega) (by omega)) rfl rfl (by decide) (by decide) (by decide) rfl ?_)
    rintro _ rfl; have hdc := digT_cell b.toNat
    refine list_cons rfl (op_q (q_assign rfl (by decide)) ?_)
    refine list_nil ?_
    refine hK12 _ ?_; clear hK12 K12
    refine codeT.imp (σ' := [(0, _), (2, _), (3, _), (5, _), (11, _)]) ?_ (imp_covers ⟨rfl, rfl, rfl, rfl, rfl, trivial⟩)
    refine code_seq (fun K13 hK13 => ?_)
    refine code_seq (fun K14 hK14 => ?_)
    refine code_region ?_
    refine list_cons rfl (op_q (q_move rfl (by decide)) ?_)
    refine list_cons rfl (op_callM (one_c code ?_ _ _ ?_ ?_ _) (.tmp 25) 2000 [0, 25] [_] _ rfl rfl (by intro y hy; cases hy; exact ⟨rfl, (by intro t ht; simp only [List.mem_cons, List.not_mem_nil, or_false] at ht; rcases ht with rfl | rfl <;> rfl), (by intro s hs; simp only [List.mem_cons, List.not_mem_nil, or_false] at hs; subst hs; first | (simp [SV.labels]; done) | (simp [SV.labels, packS, SV.back]; done) | exact List.not_mem_nil)⟩) (by decide) (by decide) (by decide) rfl (fun _ => rfl) ?_)
    · first | assumption | omega | (simp; omega)
    · first | assumption | omega | (simp; omega)
    · first | assumption | omega | (simp; omega)
    rintro _ _ ⟨o, a2, s2, ha0, ha1, rfl, rfl⟩
    refine list_nil ?_
    refine hK14 _ ?_; clear hK14 K14
    refine codeT.imp (σ' := [(0, _), (2, _), (3, _), (5, _), (11, _), (26, _)]) ?_ (imp_covers ⟨rfl, rfl, rfl, rfl, rfl, rfl, trivial⟩)
    refine code_cond_d rfl (fun h5 => ?_) (fun h5 => ?_)
    · skip
      (try simp only [Decidable.not_not] at h5)
      refine code_region ?_
      refine list_cons rfl (op_q (q_move rfl (by decide)) ?_)
      refine list_cons rfl (op_q (q_move rfl (by decide)) ?_)
      refine list_cons rfl (op_callM (pick_c code ?_ _ _ ?_ ?_ _) (.tmp 28) 2000 [0, 28] [_] _ rfl rfl (by intro y hy; cases hy; exact ⟨rfl, (by intro t ht; simp only [List.mem_cons, List.not_mem_nil, or_false] at ht; rcases ht with rfl | rfl <;> rfl), (by intro s hs; simp only [List.mem_cons, List.not_mem_nil, or_false] at hs; subst hs; first | (simp [SV.labels]; done) | (simp [SV.labels, packS, SV.back]; done) | exact List.not_mem_nil)⟩) (by decide) (by decide) (by decide) rfl (fun _ => rfl) ?_)
      · first | assumption | omega | (simp; omega)
      · first | assumption | omega | (simp; omega)
      · first | assumption | omega | (simp; omega)
      rintro _ _ ⟨b, a2, s2, hb0, hb1, ha0, ha1, rfl, rfl⟩
      try have hp2 := p2_64 (k := b.toNat) (by omega)
      refine list_cons rfl (op_q (by first | exact q_shl1 rfl rfl (by decide) (by omega) (by omega) | exact q_shlI rfl rfl (by decide) (by omega) (by omega) (by omega) | exact q_shl rfl rfl (by omega) (by decide)) ?_)
      refine list_cons rfl (op_q (by first | exact q_xorI rfl rfl (by decide) (by omega) (by omega) (by omega) (by omega) | exact q_ib rfl rfl rfl (by decide)) ?_)
      refine list_cons rfl (op_q (q_assign rfl (by decide)) ?_)
      refine list_nil ?_
      refine hK13 _ ?_; clear hK13 K13
      refine codeT.imp (σ' := [(0, _), (2, _), (3, _), (5, _), (11, _)]) ?_ (imp_covers ⟨rfl, rfl, rfl, rfl, rfl, trivial⟩)
      refine code_seq (fun K15 hK15 => ?_)
      refine code_region ?_
      refine list_cons rfl (op_q (q_move rfl (by decide)) ?_)
      refine list_cons rfl (op_q (q_assign rfl (by decide)) ?_)
      refine list_nil ?_
      refine hK15 _ ?_; clear hK15 K15
      refine code_ret ?_
      refine ends_ret (cs := _) rfl rfl rfl rfl rfl ?_
      first
      | exact ⟨_, _, _, by omega, by omega, by omega, rfl, rfl⟩
      | (refine ⟨_, _, _, ?_, by omega, by omega, rfl, rfl⟩; have hx7 := @xor7c (digT.getD _ 0) ((p2 b.toNat : Nat) : Int) hdc ⟨by omega, by omega⟩; omega)
    (try simp only [Decidable.not_not] at h5)
    refine code_skip ?_
    refine hK13 _ ?_; clear hK13 K13
    refine code_seq (fun K16 hK16 => ?_)
    refine code_region ?_
    refine list_cons rfl (op_q (q_move rfl (by decide)) ?_)
    refine list_cons rfl (op_q (q_assign rfl (by decide)) ?_)
    refine list_nil ?_
    refine hK16 _ ?_; clear hK16 K16
    refine code_ret ?_
    refine ends_ret (cs := _) rfl rfl rfl rfl rfl ?_
    first
    | exact ⟨_, _, _, by omega, by omega, by omega, rfl, rfl⟩
    | (refine ⟨_, _, _, ?_, by omega, by omega, rfl, rfl⟩; have hx7 := @xor7c (digT.getD _ 0) ((p2 b.toNat : Nat) : Int) hdc ⟨by omega, by omega⟩; omega)
  (try simp only [Decidable.not_not] at h2)
  refine code_seq (fun K17 hK17 => ?_)
  refine code_region ?_
  refine list_cons rfl (op_q (q_eq rfl rfl (by decide)) ?_)
  refine list_cons rfl (op_q (q_assign rfl (by decide)) ?_)
  refine list_nil ?_
  refine hK17 _ ?_; clear hK17 K17
  refine code_cond_d rfl (fun h6 => ?_) (fun h6 => ?_)
  · skip
    (try simp only [Decidable.not_not] at h6)
    refine code_skip ?_
    refine hK6 _ ?_; clear hK6 K6
    refine code_cond_d rfl (fun h7 => ?_) (fun h7 => ?_)
    · skip
      (try simp only [Decidable.not_not] at h7)
      refine code_seq (fun K18 hK18 => ?_)
      refine code_region ?_
      refine list_cons rfl (op_q (q_move rfl (by decide)) ?_)
      refine list_cons rfl (op_buildSlice sl_27 (parts := [(0, _), (1, _), (2, _)]) rfl rfl rfl (by decide) (by decide) (by decide) rfl ?_)
      refine list_cons rfl (op_callM (among_c code ?_ _ _ ?_ ?_ ([0, 127, 64]) (by decide) (by decide)) (.tmp 15) 2000 [0, 15] [.tmp 16] _ rfl rfl (by intro y hy; cases hy; exact ⟨rfl, (by intro t ht; simp only [List.mem_cons, List.not_mem_nil, or_false] at ht; rcases ht with rfl | rfl <;> rfl), (by intro s hs; simp only [List.mem_cons, List.not_mem_nil, or_false] at hs; subst hs; first | (simp [SV.labels]; done) | (simp [SV.labels, packS, SV.back]; done) | exact List.not_mem_nil)⟩) (by decide) (by decide) (by decide) rfl (fun _ => rfl) ?_)
      · first | assumption | omega | (simp; omega)
      · first | assumption | omega | (simp; omega)
      · first | assumption | omega | (simp; omega)
      rintro _ _ ⟨x, a2, s2, hx, ha0, ha1, rfl, rfl⟩
      simp only [List.mem_cons, List.not_mem_nil, or_false] at hx
      refine list_cons rfl (op_q (q_assign rfl (by decide)) ?_)
      refine list_nil ?_
      refine hK18 _ ?_; clear hK18 K18
      refine codeT.imp (σ' := [(0, _), (2, _), (5, _), (11, _)]) ?_ (imp_covers ⟨rfl, rfl, rfl, rfl, trivial⟩)
      refine code_ret ?_
      refine blk_r ?_
      refine then_r ?_; clear hK2 K2
      refine ends_ret (cs := _) rfl rfl rfl rfl rfl ?_
      first
      | exact ⟨_, _, _, by omega, by omega, by omega, rfl, rfl⟩
      | (refine ⟨_, _, _, ?_, by omega, by omega, rfl, rfl⟩; have hx7 := @xor7c (digT.getD _ 0) ((p2 b.toNat : Nat) : Int) hdc ⟨by omega, by omega⟩; omega)
    (try simp only [Decidable.not_not] at h7)
    refine code_skip ?_
    refine blk_n ?_
    refine hK2 _ ?_; clear hK2 K2
    refine code_seq (fun K19 hK19 => ?_)
    refine code_seq (fun K20 hK20 => ?_)
    refine code_region ?_
    refine list_cons rfl (op_q (q_move rfl (by decide)) ?_)
    refine list_cons rfl (op_callM (one_c code ?_ _ _ ?_ ?_ _) (.tmp 18) 2000 [0, 18] [_] _ rfl rfl (by intro y hy; cases hy; exact ⟨rfl, (by intro t ht; simp only [List.mem_cons, List.not_mem_nil, or_false] at ht; rcases ht with rfl | rfl <;> rfl), (by intro s hs; simp only [List.mem_cons, List.not_mem_nil, or_false] at hs; subst hs; first | (simp [SV.labels]; done) | (simp [SV.labels, packS, SV.back]; done) | exact List.not_mem_nil)⟩) (by decide) (by decide) (by decide) rfl (fun _ => rfl) ?_)
    · first | assumption | omega | (simp; omega)
    · first | assumption | omega | (simp; omega)
    · first | assumption | omega | (simp; omega)
    rintro _ _ ⟨o, a2, s2, ha0, ha1, rfl, rfl⟩
    refine list_nil ?_
    refine hK20 _ ?_; clear hK20 K20
    refine codeT.imp (σ' := [(0, _), (2, _), (5, _), (11, _), (19, _)]) ?_ (imp_covers ⟨rfl, rfl, rfl, rfl, rfl, trivial⟩)
    refine code_cond_d rfl (fun h8 => ?_) (fun h8 => ?_)
    · skip
      (try simp only [Decidable.not_not] at h8)
      refine code_seq (fun K21 hK21 => ?_)
      refine code_region ?_
      refine list_cons rfl (op_q (q_move rfl (by decide)) ?_)
      refine list_cons rfl (op_callM (pick_c code ?_ _ _ ?_ ?_ _) (.tmp 20) 2000 [0, 20] [_] _ rfl rfl (by intro y hy; cases hy; exact ⟨rfl, (by intro t ht; simp only [List.mem_cons, List.not_mem_nil, or_false] at ht; rcases ht with rfl | rfl <;> rfl), (by intro s hs; simp only [List.mem_cons, List.not_mem_nil, or_false] at hs; subst hs; first | (simp [SV.labels]; done) | (simp [SV.labels, packS, SV.back]; done) | exact List.not_mem_nil)⟩) (by decide) (by decide) (by decide) rfl (fun _ => rfl) ?_)
      · first | assumption | omega | (simp; omega)
      · first | assumption | omega | (simp; omega)
      · first | assumption | omega | (simp; omega)
      rintro _ _ ⟨b, a2, s2, hb0, hb1, ha0, ha1, rfl, rfl⟩
      try have hp2 := p2_64 (k := b.toNat) (by omega)
      refine list_cons rfl (op_q (q_assign rfl (by decide)) ?_)
      refine list_nil ?_
      refine hK21 _ ?_; clear hK21 K21
      refine codeT.imp (σ' := [(0, _), (2, _), (5, _), (11, _)]) ?_ (imp_covers ⟨rfl, rfl, rfl, rfl, trivial⟩)
      refine code_ret ?_
      refine then_r ?_; clear hK19 K19
      refine ends_ret (cs := _) rfl rfl rfl rfl rfl ?_
      first
      | exact ⟨_, _, _, by omega, by omega, by omega, rfl, rfl⟩
      | (refine ⟨_, _, _, ?_, by omega, by omega, rfl, rfl⟩; have hx7 := @xor7c (digT.getD _ 0) ((p2 b.toNat : Nat) : Int) hdc ⟨by omega, by omega⟩; omega)
    (try simp only [Decidable.not_not] at h8)
    refine code_skip ?_
    refine hK19 _ ?_; clear hK19 K19
    refine code_seq (fun K22 hK22 => ?_)
    refine code_region ?_
    refine list_cons rfl (op_q (q_move rfl (by decide)) ?_)
    refine list_cons rfl (op_callM (pick_c code ?_ _ _ ?_ ?_ _) (.tmp 22) 2000 [0, 22] [_] _ rfl rfl (by intro y hy; cases hy; exact ⟨rfl, (by intro t ht; simp only [List.mem_cons, List.not_mem_nil, or_false] at ht; rcases ht with rfl | rfl <;> rfl), (by intro s hs; simp only [List.mem_cons, List.not_mem_nil, or_false] at hs; subst hs; first | (simp [SV.labels]; done) | (simp [SV.labels, packS, SV.back]; done) | exact List.not_mem_nil)⟩) (by decide) (by decide) (by decide) rfl (fun _ => rfl) ?_)
    · first | assumption | omega | (simp; omega)
    · first | assumption | omega | (simp; omega)
    · first | assumption | omega | (simp; omega)
    rintro _ _ ⟨b, a2, s2, hb0, hb1, ha0, ha1, rfl, rfl⟩
    try have hp2 := p2_64 (k := b.toNat) (by omega)
    refine list_cons rfl (op_call _ (spec_l2Digit _ (by omega) (by omega)) rfl rfl (by decide) (by decide) (by decide) rfl ?_)
    rintro _ rfl; have hdc := digT_cell b.toNat
    refine list_cons rfl (op_q (q_assign rfl (by decide)) ?_)
    refine list_nil ?_
    refine hK22 _ ?_; clear hK22 K22
    refine codeT.imp (σ' := [(0, _), (2, _), (3, _), (5, _), (11, _)]) ?_ (imp_covers ⟨rfl, rfl, rfl, rfl, rfl, trivial⟩)
    refine code_seq (fun K23 hK23 => ?_)
    refine code_seq (fun K24 hK24 => ?_)
    refine code_region ?_
    refine list_cons rfl (op_q (q_move rfl (by decide)) ?_)
    refine list_cons rfl (op_callM (one_c code ?_ _ _ ?_ ?_ _) (.tmp 25) 2000 [0, 25] [_] _ rfl rfl (by intro y hy; cases hy; exact ⟨rfl, (by intro t ht; simp only [List.mem_cons, List.not_mem_nil, or_false] at ht; rcases ht with rfl | rfl <;> rfl), (by intro s hs; simp only [List.mem_cons, List.not_mem_nil, or_false] at hs; subst hs; first | (simp [SV.labels]; done) | (simp [SV.labels, packS, SV.back]; done) | exact List.not_mem_nil)⟩) (by decide) (by decide) (by decide) rfl (fun _ => rfl) ?_)
    · first | assumption | omega | (simp; omega)
    · first | assumption | omega | (simp; omega)
    · first | assumption | omega | (simp; omega)
    rintro _ _ ⟨o, a2, s2, ha0, ha1, rfl, rfl⟩
    refine list_nil ?_
    refine hK24 _ ?_; clear hK24 K24
    refine codeT.imp (σ' := [(0, _), (2, _), (3, _), (5, _), (11, _), (26, _)]) ?_ (imp_covers ⟨rfl, rfl, rfl, rfl, rfl, rfl, trivial⟩)
    refine code_cond_d rfl (fun h9 => ?_) (fun h9 => ?_)
    · skip
      (try simp only [Decidable.not_not] at h9)
      refine code_region ?_
      refine list_cons rfl (op_q (q_move rfl (by decide)) ?_)
      refine list_cons rfl (op_q (q_move rfl (by decide)) ?_)
      refine list_cons rfl (op_callM (pick_c code ?_ _ _ ?_ ?_ _) (.tmp 28) 2000 [0, 28] [_] _ rfl rfl (by intro y hy; cases hy; exact ⟨rfl, (by intro t ht; simp only [List.mem_cons, List.not_mem_nil, or_false] at ht; rcases ht with rfl | rfl <;> rfl), (by intro s hs; simp only [List.mem_cons, List.not_mem_nil, or_false] at hs; subst hs; first | (simp [SV.labels]; done) | (simp [SV.labels, packS, SV.back]; done) | exact List.not_mem_nil)⟩) (by decide) (by decide) (by decide) rfl (fun _ => rfl) ?_)
      · first | assumption | omega | (simp; omega)
      · first | assumption | omega | (simp; omega)
      · first | assumption | omega | (simp; omega)
      rintro _ _ ⟨b, a2, s2, hb0, hb1, ha0, ha1, rfl, rfl⟩
      try have hp2 := p2_64 (k := b.toNat) (by omega)
      refine list_cons rfl (op_q (by first | exact q_shl1 rfl rfl (by decide) (by omega) (by omega) | exact q_shlI rfl rfl (by decide) (by omega) (by omega) (by omega) | exact q_shl rfl rfl (by omega) (by decide)) ?_)
      refine list_cons rfl (op_q (by first | exact q_xorI rfl rfl (by decide) (by omega) (by omega) (by omega) (by omega) | exact q_ib rfl rfl rfl (by decide)) ?_)
      refine list_cons rfl (op_q (q_assign rfl (by decide)) ?_)
      refine list_nil ?_
      refine hK23 _ ?_; clear hK23 K23
      refine codeT.imp (σ' := [(0, _), (2, _), (3, _), (5, _), (11, _)]) ?_ (imp_covers ⟨rfl, rfl, rfl, rfl, rfl, trivial⟩)
      refine code_seq (fun K25 hK25 => ?_)
      refine code_region ?_
      refine list_cons rfl (op_q (q_move rfl (by decide)) ?_)
      refine list_cons rfl (op_q (q_assign rfl (by decide)) ?_)
      refine list_nil ?_
      refine hK25 _ ?_; clear hK25 K25
      refine code_ret ?_
      refine ends_ret (cs := _) rfl rfl rfl rfl rfl ?_
      first
      | exact ⟨_, _, _, by omega, by omega, by omega, rfl, rfl⟩
      | (refine ⟨_, _, _, ?_, by omega, by omega, rfl, rfl⟩; have hx7 := @xor7c (digT.getD _ 0) ((p2 b.toNat : Nat) : Int) hdc ⟨by omega, by omega⟩; omega)
    (try simp only [Decidable.not_not] at h9)
    refine code_skip ?_
    refine hK23 _ ?_; clear hK23 K23
    refine code_seq (fun K26 hK26 => ?_)
    refine code_region ?_
    refine list_cons rfl (op_q (q_move rfl (by decide)) ?_)
    refine list_cons rfl (op_q (q_assign rfl (by decide)) ?_)
    refine list_nil ?_
    refine hK26 _ ?_; clear hK26 K26
    refine code_ret ?_
    refine ends_ret (cs := _) rfl rfl rfl rfl rfl ?_
    first
    | exact ⟨_, _, _, by omega, by omega, by omega, rfl, rfl⟩
    | (refine ⟨_, _, _, ?_, by omega, by omega, rfl, rfl⟩; have hx7 := @xor7c (digT.getD _ 0) ((p2 b.toNat : Nat) : Int) hdc ⟨by omega, by omega⟩; omega)
  (try simp only [Decidable.not_not] at h6)
  refine code_region ?_
  refine list_cons rfl (op_q (q_eq rfl rfl (by decide)) ?_)
  refine list_cons rfl (op_q (q_assign rfl (by decide)) ?_)
  refine list_nil ?_
  refine hK6 _ ?_; clear hK6 K6
  refine code_cond_d rfl (fun h10 => ?_) (fun h10 => ?_)
  · skip
    (try simp only [Decidable.not_not] at h10)
    refine code_seq (fun K27 hK27 => ?_)
    refine code_region ?_
    refine list_cons rfl (op_q (q_move rfl (by decide)) ?_)
    refine list_cons rfl (op_buildSlice sl_27 (parts := [(0, _), (1, _), (2, _)]) rfl rfl rfl (by decide) (by decide) (by decide) rfl ?_)
    refine list_cons rfl (op_callM (among_c code ?_ _ _ ?_ ?_ ([0, 127, 64]) (by decide) (by decide)) (.tmp 15) 2000 [0, 15] [.tmp 16] _ rfl rfl (by intro y hy; cases hy; exact ⟨rfl, (by intro t ht; simp only [List.mem_cons, List.not_mem_nil, or_false] at ht; rcases ht with rfl | rfl <;> rfl), (by intro s hs; simp only [List.mem_cons, List.not_mem_nil, or_false] at hs; subst hs; first | (simp [SV.labels]; done) | (simp [SV.labels, packS, SV.back]; done) | exact List.not_mem_nil)⟩) (by decide) (by decide) (by decide) rfl (fun _ => rfl) ?_)
    · first | assumption | omega | (simp; omega)
    · first | assumption | omega | (simp; omega)
    · first | assumption | omega | (simp; omega)
    rintro _ _ ⟨x, a2, s2, hx, ha0, ha1, rfl, rfl⟩
    simp only [List.mem_cons, List.not_mem_nil, or_false] at hx
    refine list_cons rfl (op_q (q_assign rfl (by decide)) ?_)
    refine list_nil ?_
    refine hK27 _ ?_; clear hK27 K27
    refine codeT.imp (σ' := [(0, _), (2, _), (5, _), (11, _)]) ?_ (imp_covers ⟨rfl, rfl, rfl, rfl, trivial⟩)
    refine code_ret ?_
    refine blk_r ?_
    refine then_r ?_; clear hK2 K2
    refine ends_ret (cs := _) rfl rfl rfl rfl rfl ?_
    first
    | exact ⟨_, _, _, by omega, by omega, by omega, rfl, rfl⟩
    | (refine ⟨_, _, _, ?_, by omega, by omega, rfl, rfl⟩; have hx7 := @xor7c (digT.getD _ 0) ((p2 b.toNat : Nat) : Int) hdc ⟨by omega, by omega⟩; omega)
  (try simp only [Decidable.not_not] at h10)
  refine code_skip ?_
  refine blk_n ?_
  refine hK2 _ ?_; clear hK2 K2
  refine code_seq (fun K28 hK28 => ?_)
  refine code_seq (fun K29 hK29 => ?_)
  refine code_region ?_
  refine list_cons rfl (op_q (q_move rfl (by decide)) ?_)
  refine list_cons rfl (op_callM (one_c code ?_ _ _ ?_ ?_ _) (.tmp 18) 2000 [0, 18] [_] _ rfl rfl (by intro y hy; cases hy; exact ⟨rfl, (by intro t ht; simp only [List.mem_cons, List.not_mem_nil, or_false] at ht; rcases ht with rfl | rfl <;> rfl), (by intro s hs; simp only [List.mem_cons, List.not_mem_nil, or_false] at hs; subst hs; first | (simp [SV.labels]; done) | (simp [SV.labels, packS, SV.back]; done) | exact List.not_mem_nil)⟩) (by decide) (by decide) (by decide) rfl (fun _ => rfl) ?_)
  · first | assumption | omega | (simp; omega)
  · first | assumption | omega | (simp; omega)
  · first | assumption | omega | (simp; omega)
  rintro _ _ ⟨o, a2, s2, ha0, ha1, rfl, rfl⟩
  refine list_nil ?_
  refine hK29 _ ?_; clear hK29 K29
  refine codeT.imp (σ' := [(0, _), (2, _), (5, _), (11, _), (19, _)]) ?_ (imp_covers ⟨rfl, rfl, rfl, rfl, rfl, trivial⟩)
  refine code_cond_d rfl (fun h11 => ?_) (fun h11 => ?_)
  · skip
    (try simp only [Decidable.not_not] at h11)
    refine code_seq (fun K30 hK30 => ?_)
    refine code_region ?_
    refine list_cons rfl (op_q (q_move rfl (by decide)) ?_)
    refine list_cons rfl (op_callM (pick_c code ?_ _ _ ?_ ?_ _) (.tmp 20) 2000 [0, 20] [_] _ rfl rfl (by intro y hy; cases hy; exact ⟨rfl, (by intro t ht; simp only [List.mem_cons, List.not_mem_nil, or_false] at ht; rcases ht with rfl | rfl <;> rfl), (by intro s hs; simp only [List.mem_cons, List.not_mem_nil, or_false] at hs; subst hs; first | (simp [SV.labels]; done) | (simp [SV.labels, packS, SV.back]; done) | exact List.not_mem_nil)⟩) (by decide) (by decide) (by decide) rfl (fun _ => rfl) ?_)
    · first | assumption | omega | (simp; omega)
    · first | assumption | omega | (simp; omega)
    · first | assumption | omega | (simp; omega)
    rintro _ _ ⟨b, a2, s2, hb0, hb1, ha0, ha1, rfl, rfl⟩
    try have hp2 := p2_64 (k := b.toNat) (by omega)
    refine list_cons rfl (op_q (q_assign rfl (by decide)) ?_)
    refine list_nil ?_
    refine hK30 _ ?_; clear hK30 K30
    refine codeT.imp (σ' := [(0, _), (2, _), (5, _), (11, _)]) ?_ (imp_covers ⟨rfl, rfl, rfl, rfl, trivial⟩)
    refine code_ret ?_
    refine then_r ?_; clear hK28 K28
    refine ends_ret (cs := _) rfl rfl rfl rfl rfl ?_
    first
    | exact ⟨_, _, _, by omega, by omega, by omega, rfl, rfl⟩
    | (refine ⟨_, _, _, ?_, by omega, by omega, rfl, rfl⟩; have hx7 := @xor7c (digT.getD _ 0) ((p2 b.toNat : Nat) : Int) hdc ⟨by omega, by omega⟩; omega)
  (try simp only [Decidable.not_not] at h11)
  refine code_skip ?_
  refine hK28 _ ?_; clear hK28 K28
  refine code_seq (fun K31 hK31 => ?_)
  refine code_region ?_
  refine list_cons rfl (op_q (q_move rfl (by decide)) ?_)
  refine list_cons rfl (op_callM (pick_c code ?_ _ _ ?_ ?_ _) (.tmp 22) 2000 [0, 22] [_] _ rfl rfl (by intro y hy; cases hy; exact ⟨rfl, (by intro t ht; simp only [List.mem_cons, List.not_mem_nil, or_false] at ht; rcases ht with rfl | rfl <;> rfl), (by intro s hs; simp only [List.mem_cons, List.not_mem_nil, or_false] at hs; subst hs; first | (simp [SV.labels]; done) | (simp [SV.labels, packS, SV.back]; done) | exact List.not_mem_nil)⟩) (by decide) (by decide) (by decide) rfl (fun _ => rfl) ?_)
  · first | assumption | omega | (simp; omega)
  · first | assumption | omega | (simp; omega)
  · first | assumption | omega | (simp; omega)
  rintro _ _ ⟨b, a2, s2, hb0, hb1, ha0, ha1, rfl, rfl⟩
  try have hp2 := p2_64 (k := b.toNat) (by omega)
  refine list_cons rfl (op_call _ (spec_l2Digit _ (by omega) (by omega)) rfl rfl (by decide) (by decide) (by decide) rfl ?_)
  rintro _ rfl; have hdc := digT_cell b.toNat
  refine list_cons rfl (op_q (q_assign rfl (by decide)) ?_)
  refine list_nil ?_
  refine hK31 _ ?_; clear hK31 K31
  refine codeT.imp (σ' := [(0, _), (2, _), (3, _), (5, _), (11, _)]) ?_ (imp_covers ⟨rfl, rfl, rfl, rfl, rfl, trivial⟩)
  refine code_seq (fun K32 hK32 => ?_)
  refine code_seq (fun K33 hK33 => ?_)
  refine code_region ?_
  refine list_cons rfl (op_q (q_move rfl (by decide)) ?_)
  refine list_cons rfl (op_callM (one_c code ?_ _ _ ?_ ?_ _) (.tmp 25) 2000 [0, 25] [_] _ rfl rfl (by intro y hy; cases hy; exact ⟨rfl, (by intro t ht; simp only [List.mem_cons, List.not_mem_nil, or_false] at ht; rcases ht with rfl | rfl <;> rfl), (by intro s hs; simp only [List.mem_cons, List.not_mem_nil, or_false] at hs; subst hs; first | (simp [SV.labels]; done) | (simp [SV.labels, packS, SV.back]; done) | exact List.not_mem_nil)⟩) (by decide) (by decide) (by decide) rfl (fun _ => rfl) ?_)
  · first | assumption | omega | (simp; omega)
  · first | assumption | omega | (simp; omega)
  · first | assumption | omega | (simp; omega)
  rintro _ _ ⟨o, a2, s2, ha0, ha1, rfl, rfl⟩
  refine list_nil ?_
  refine hK33 _ ?_; clear hK33 K33
  refine codeT.imp (σ' := [(0, _), (2, _), (3, _), (5, _), (11, _), (26, _)]) ?_ (imp_covers ⟨rfl, rfl, rfl, rfl, rfl, rfl, trivial⟩)
  refine code_cond_d rfl (fun h12 => ?_) (fun h12 => ?_)
  · skip
    (try simp only [Decidable.not_not] at h12)
    refine code_region ?_
    refine list_cons rfl (op_q (q_move rfl (by decide)) ?_)
    refine list_cons rfl (op_q (q_move rfl (by decide)) ?_)
    refine list_cons rfl (op_callM (pick_c code ?_ _ _ ?_ ?_ _) (.tmp 28) 2000 [0, 28] [_] _ rfl rfl (by intro y hy; cases hy; exact ⟨rfl, (by intro t ht; simp only [List.mem_cons, List.not_mem_nil, or_false] at ht; rcases ht with rfl | rfl <;> rfl), (by intro s hs; simp only [List.mem_cons, List.not_mem_nil, or_false] at hs; subst hs; first | (simp [SV.labels]; done) | (simp [SV.labels, packS, SV.back]; done) | exact List.not_mem_nil)⟩) (by decide) (by decide) (by decide) rfl (fun _ => rfl) ?_)
    · first | assumption | omega | (simp; omega)
    · first | assumption | omega | (simp; omega)
    · first | assumption | omega | (simp; omega)
    rintro _ _ ⟨b, a2, s2, hb0, hb1, ha0, ha1, rfl, rfl⟩
    try have hp2 := p2_64 (k := b.toNat) (by omega)
    refine list_cons rfl (op_q (by first | exact q_shl1 rfl rfl (by decide) (by omega) (by omega) | exact q_shlI rfl rfl (by decide) (by omega) (by omega) (by omega) | exact q_shl rfl rfl (by omega) (by decide)) ?_)
    refine list_cons rfl (op_q (by first | exact q_xorI rfl rfl (by decide) (by omega) (by omega) (by omega) (by omega) | exact q_ib rfl rfl rfl (by decide)) ?_)
    refine list_cons rfl (op_q (q_assign rfl (by decide)) ?_)
    refine list_nil ?_
    refine hK32 _ ?_; clear hK32 K32
    refine codeT.imp (σ' := [(0, _), (2, _), (3, _), (5, _), (11, _)]) ?_ (imp_covers ⟨rfl, rfl, rfl, rfl, rfl, trivial⟩)
    refine code_seq (fun K34 hK34 => ?_)
    refine code_region ?_
    refine list_cons rfl (op_q (q_move rfl (by decide)) ?_)
    refine list_cons rfl (op_q (q_assign rfl (by decide)) ?_)
    refine list_nil ?_
    refine hK34 _ ?_; clear hK34 K34
    refine code_ret ?_
    refine ends_ret (cs := _) rfl rfl rfl rfl rfl ?_
    first
    | exact ⟨_, _, _, by omega, by omega, by omega, rfl, rfl⟩
    | (refine ⟨_, _, _, ?_, by omega, by omega, rfl, rfl⟩; have hx7 := @xor7c (digT.getD _ 0) ((p2 b.toNat : Nat) : Int) hdc ⟨by omega, by omega⟩; omega)
  (try simp only [Decidable.not_not] at h12)
  refine code_skip ?_
  refine hK32 _ ?_; clear hK32 K32
  refine code_seq (fun K35 hK35 => ?_)
  refine code_region ?_
  refine list_cons rfl (op_q (q_move rfl (by decide)) ?_)
  refine list_cons rfl (op_q (q_assign rfl (by decide)) ?_)
  refine list_nil ?_
  refine hK35 _ ?_; clear hK35 K35
  refine code_ret ?_
  refine ends_ret (cs := _) rfl rfl rfl rfl rfl ?_
  first
  | exact ⟨_, _, _, by omega, by omega, by omega, rfl, rfl⟩
  | (refine ⟨_, _, _, ?_, by omega, by omega, rfl, rfl⟩; have hx7 := @xor7c (digT.getD _ 0) ((p2 b.toNat : Nat) : Int) hdc ⟨by omega, by omega⟩; omega)
set_option maxRecDepth 4000 in
set_option maxHeartbeats 4000000 in
theorem row_c (code : List UInt8) (hcode : code.length ≤ 9223372036854775807) (a s : Int) (ha : 0 ≤ a) (ha2 : a ≤ 4611686018427300000) : MCalls Try.prog 91 false (some (.box 77 [.sl code.length (bytesP code), .int .i64 a, .int .u64 s])) [] fun rs cs => ∃ (l : List Int) (a2 s2 : Int), (l.length ≤ 7 ∧ ∀ x ∈ l, -1 ≤ x ∧ x ≤ 4611686018427387904) ∧ a ≤ a2 ∧ a2 ≤ a + 300 ∧ rs = [.own 0 3 1 l.length (l.map (.int .i64))] ∧ cs = [.sl code.length (bytesP code), .int .i64 a2, .int .u64 s2] := by
  refine mcalls_of_code (n := 22) az Try.func91 (by kernel_rfl) rfl rfl (Nat.le_of_ble_eq_true rfl) (by intro t u h; simp [Try.f91] at h) ?_
  refine code_seq (fun K1 hK1 => ?_)
  refine code_region ?_
  refine list_cons rfl (op_q (q_assign rfl (by decide)) ?_)
  refine list_nil ?_
  refine hK1 _ ?_; clear hK1 K1
  refine code_seq (fun K2 hK2 => ?_)
  refine code_region ?_
  refine list_cons rfl (op_buildSlice sl_27 (parts := []) rfl rfl rfl (by decide) (by decide) (by decide) rfl ?_)
  refine list_cons rfl (op_q (q_assign rfl (by decide)) ?_)
  refine list_nil ?_
  refine hK2 _ ?_; clear hK2 K2
  refine code_seq (fun K3 hK3 => ?_)
  refine code_seq (fun K4 hK4 => ?_)
  refine code_region ?_
  refine list_cons rfl (op_q (q_move rfl (by decide)) ?_)
  refine list_cons rfl (op_buildSlice sl_27 (parts := [(0, _), (1, _), (2, _), (3, _), (4, _), (5, _), (6, _), (7, _), (8, _)]) rfl rfl rfl (by decide) (by decide) (by decide) rfl ?_)
  refine list_cons rfl (op_callM (among_c code ?_ _ _ ?_ ?_ ([2, 3, 1, 4, 6, 0, 5, 2, 3]) (by decide) (by decide)) (.tmp 6) 2000 [0, 6] [.tmp 7] _ rfl rfl (by intro y hy; cases hy; exact ⟨rfl, (by intro t ht; simp only [List.mem_cons, List.not_mem_nil, or_false] at ht; rcases ht with rfl | rfl <;> rfl), (by intro s hs; simp only [List.mem_cons, List.not_mem_nil, or_false] at hs; subst hs; first | (simp [SV.labels]; done) | (simp [SV.labels, packS, SV.back]; done) | exact List.not_mem_nil)⟩) (by decide) (by decide) (by decide) rfl (fun _ => rfl) ?_)
  · first | assumption | omega | (simp; omega)
  · first | assumption | omega | (simp; omega)
  · first | assumption | omega | (simp; omega)
  rintro _ _ ⟨n0, a2, s2, hx, ha0, ha1, rfl, rfl⟩
  simp only [List.mem_cons, List.not_mem_nil, or_false] at hx
  refine list_cons rfl (op_q (q_assign rfl (by decide)) ?_)
  refine list_nil ?_
  refine hK4 _ ?_; clear hK4 K4
  refine codeT.imp (σ' := [(0, _), (2, _), (3, _), (4, _)]) ?_ (imp_covers ⟨rfl, rfl, rfl, rfl, trivial⟩)
  refine code_block ?_
  refine code_loop (X := List PV × PV × Nat × List PV × Int) (fun x => [(0, .box 2000 77 x.1), (2, .val x.2.1), (3, .own 5 3 1 x.2.2.1 x.2.2.2.1), (4, .val (.int .i64 x.2.2.2.2))]) (fun x => x.2.2.2.2 ≤ 6 ∧ ∃ (a1 s1 : Int) (l : List Int), x.1 = [.sl code.length (bytesP code), .int .i64 a1, .int .u64 s1] ∧ x.2.2.1 = l.length ∧ x.2.2.2.1 = l.map (.int .i64) ∧ a ≤ a1 ∧ a1 ≤ a + 10 + 20 * l.length ∧ (l.length : Int) + max x.2.2.2.2 0 ≤ 6 ∧ ∀ x ∈ l, -1 ≤ x ∧ x ≤ 4611686018427387904) (fun x => x.2.2.2.2.toNat) (_, _, _, _, _) (imp_covers ⟨rfl, rfl, rfl, rfl, trivial⟩) ?_ ?_
  · (try dsimp only)
    exact ⟨by omega, _, _, [], rfl, rfl, rfl, by omega, by simp only [List.length_nil]; omega, by simp only [List.length_nil]; omega, fun _ h => by simp at h⟩
  · intro x hI
    obtain ⟨c_c, t2_p, out_n, out_c, n⟩ := x
    replace hI : n ≤ 6 ∧ ∃ (a1 s1 : Int) (l : List Int), c_c = [.sl code.length (bytesP code), .int .i64 a1, .int .u64 s1] ∧ out_n = l.length ∧ out_c = l.map (.int .i64) ∧ a ≤ a1 ∧ a1 ≤ a + 10 + 20 * l.length ∧ (l.length : Int) + max n 0 ≤ 6 ∧ ∀ x ∈ l, -1 ≤ x ∧ x ≤ 4611686018427387904 := hI
    show codeT _ _ _ [(0, .box 2000 77 c_c), (2, .val t2_p), (3, .own 5 3 1 out_n out_c), (4, .val (.int .i64 n))] _
    obtain ⟨i0, a1, s1, l, rfl, rfl, rfl, i1, i2, i3, i4⟩ := hI
    refine code_seq (fun K5 hK5 => ?_)
    refine code_seq (fun K6 hK6 => ?_)
    refine code_region ?_
    refine list_cons rfl (op_q (q_move rfl (by decide)) ?_)
    refine list_cons rfl (op_q (q_gt rfl rfl (by decide)) ?_)
    refine list_nil ?_
    refine hK6 _ ?_; clear hK6 K6
    refine code_cond_d rfl (fun h1 => ?_) (fun h1 => ?_)
    · skip
      (try simp only [Decidable.not_not] at h1)
      refine code_skip ?_
      refine hK5 _ ?_; clear hK5 K5
      refine code_seq (fun K7 hK7 => ?_)
      refine code_block ?_
      refine code_region ?_
      refine list_cons rfl (op_q (q_move rfl (by decide)) ?_)
      refine list_cons rfl (op_q (q_move rfl (by decide)) ?_)
      refine list_cons rfl (op_callM (cell_c code ?_ _ _ ?_ ?_) (.tmp 14) 2000 [0, 14] [] _ rfl rfl (by intro y hy; cases hy; exact ⟨rfl, (by intro t ht; simp only [List.mem_cons, List.not_mem_nil, or_false] at ht; rcases ht with rfl | rfl <;> rfl), (by intro s hs; simp only [List.mem_cons, List.not_mem_nil, or_false] at hs; (try cases hs))⟩) (by decide) (by decide) (by decide) rfl (fun _ => rfl) ?_)
      · first | assumption | omega | (simp; omega)
      · first | assumption | omega | (simp; omega)
      · first | assumption | omega | (simp; omega)
      rintro _ _ ⟨x, a2, s2, hx, ha0, ha1, rfl, rfl⟩
      refine list_cons rfl (op_buildSlice sl_27 (parts := [(0, .tmp 15)]) rfl rfl rfl (by decide) (by decide) (by decide) rfl ?_)
      refine list_cons rfl (op_append_gen sl_27 (l := 5) (.inl rfl) rfl rfl (l2 := none) (.inl ⟨rfl, (by first | rfl | exact flat_map _ (fun _ => rfl) _)⟩) (by first | rfl | simp | omega) (by omega) (by decide) (by decide) (by decide) ?_)
      refine list_cons rfl (op_q (q_assign rfl (by decide)) ?_)
      refine list_nil ?_
      refine blk_n ?_
      refine hK7 _ ?_; clear hK7 K7
      refine codeT.imp (σ' := [(0, _), (2, _), (3, _), (4, _)]) ?_ (imp_covers ⟨rfl, rfl, rfl, rfl, trivial⟩)
      refine code_region ?_
      refine list_cons rfl (op_q (q_move rfl (by decide)) ?_)
      refine list_cons rfl (op_q (by first | exact q_subI rfl rfl (by decide) (by omega) (by omega) | exact q_ib rfl rfl rfl (by decide)) ?_)
      refine list_cons rfl (op_q (q_assign rfl (by decide)) ?_)
      refine list_nil ?_
      refine then_n ⟨(_, _, _, _, _), imp_covers ⟨rfl, rfl, rfl, rfl, trivial⟩, ?_, ?_⟩
      · (try dsimp only)
        refine ⟨by omega, _, _, l ++ [x], rfl, by simp, by simp; rfl, by omega, by simp only [List.length_append, List.length_cons, List.length_nil]; omega, by simp only [List.length_append, List.length_cons, List.length_nil]; omega, fun y hy => ?_⟩
        rcases List.mem_append.1 hy with hy | hy
        · exact i4 y hy
        · simp only [List.mem_singleton] at hy; subst hy; omega
      · (try dsimp only); omega
    (try simp only [Decidable.not_not] at h1)
    refine code_exit ?_
    refine then_x ?_; clear hK5 K5
    refine then_x ?_
    refine blk_hit ?_
    refine hK3 _ ?_; clear hK3 K3
    refine code_seq (fun K8 hK8 => ?_)
    refine code_seq (fun K9 hK9 => ?_)
    refine code_region ?_
    refine list_cons rfl (op_q (q_move rfl (by decide)) ?_)
    refine list_cons rfl (op_callM (one_c code ?_ _ _ ?_ ?_ _) (.tmp 18) 2000 [0, 18] [_] _ rfl rfl (by intro y hy; cases hy; exact ⟨rfl, (by intro t ht; simp only [List.mem_cons, List.not_mem_nil, or_false] at ht; rcases ht with rfl | rfl <;> rfl), (by intro s hs; simp only [List.mem_cons, List.not_mem_nil, or_false] at hs; subst hs; first | (simp [SV.labels]; done) | (simp [SV.labels, packS, SV.back]; done) | exact List.not_mem_nil)⟩) (by decide) (by decide) (by decide) rfl (fun _ => rfl) ?_)
    · first | assumption | omega | (simp; omega)
    · first | assumption | omega | (simp; omega)
    · first | assumption | omega | (simp; omega)
    rintro _ _ ⟨o, a2, s2, ha0, ha1, rfl, rfl⟩
    refine list_nil ?_
    refine hK9 _ ?_; clear hK9 K9
    refine codeT.imp (σ' := [(0, _), (2, _), (3, _), (4, _), (19, _)]) ?_ (imp_covers ⟨rfl, rfl, rfl, rfl, rfl, trivial⟩)
    refine code_cond_d rfl (fun h2 => ?_) (fun h2 => ?_)
    · skip
      (try simp only [Decidable.not_not] at h2)
      refine code_seq (fun K10 hK10 => ?_)
      refine code_region ?_
      refine list_cons rfl (op_buildSlice sl_27 (parts := [(0, _), (1, _), (2, _), (3, _), (4, _), (5, _), (6, _)]) rfl rfl rfl (by decide) (by decide) (by decide) rfl ?_)
      refine list_cons rfl (op_q (q_assign rfl (by decide)) ?_)
      refine list_nil ?_
      refine hK10 _ ?_; clear hK10 K10
      refine code_ret ?_
      refine then_r ?_; clear hK8 K8
      refine ends_ret (cs := _) rfl rfl rfl rfl rfl ?_
      exact ⟨[6, 6, 6, 6, 6, 6, 6], _, _, ⟨by decide, by decide⟩, by omega, by omega, rfl, rfl⟩
    (try simp only [Decidable.not_not] at h2)
    refine code_skip ?_
    refine hK8 _ ?_; clear hK8 K8
    refine code_seq (fun K11 hK11 => ?_)
    refine code_region ?_
    refine list_cons rfl (op_q (q_move rfl (by decide)) ?_)
    refine list_cons rfl (op_q (q_assign rfl (by decide)) ?_)
    refine list_nil ?_
    refine hK11 _ ?_; clear hK11 K11
    refine code_ret ?_
    refine ends_ret (cs := _) rfl rfl rfl rfl rfl ?_
    exact ⟨l, _, _, ⟨by omega, i4⟩, by omega, by omega, rfl, rfl⟩
set_option maxRecDepth 4000 in
set_option maxHeartbeats 4000000 in
theorem digits_c (code : List UInt8) (hcode : code.length ≤ 9223372036854775807) (a s : Int) (ha : 0 ≤ a) (ha2 : a ≤ 4611686018427200000) : MCalls Try.prog 63 false (some (.box 77 [.sl code.length (bytesP code), .int .i64 a, .int .u64 s])) [] fun rs cs => ∃ (l : List Int) (a2 s2 : Int), (l.length ≤ 7 ∧ ∀ x ∈ l, -1 ≤ x ∧ x ≤ 4611686018427387904) ∧ a ≤ a2 ∧ a2 ≤ a + 400 ∧ rs = [.own 0 3 1 l.length (l.map (.int .i64))] ∧ cs = [.sl code.length (bytesP code), .int .i64 a2, .int .u64 s2] := by
  refine mcalls_of_code (n := 25) az Try.func63 (by kernel_rfl) rfl rfl (Nat.le_of_ble_eq_true rfl) (by intro t u h; simp [Try.f63] at h) ?_
  refine code_seq (fun K1 hK1 => ?_)
  refine code_region ?_
  refine list_cons rfl (op_q (q_assign rfl (by decide)) ?_)
  refine list_nil ?_
  refine hK1 _ ?_; clear hK1 K1
  refine code_seq (fun K2 hK2 => ?_)
  refine code_seq (fun K3 hK3 => ?_)
  refine code_region ?_
  refine list_cons rfl (op_q (q_move rfl (by decide)) ?_)
  refine list_cons rfl (op_callM (one_c code ?_ _ _ ?_ ?_ _) (.tmp 5) 2000 [0, 5] [_] _ rfl rfl (by intro y hy; cases hy; exact ⟨rfl, (by intro t ht; simp only [List.mem_cons, List.not_mem_nil, or_false] at ht; rcases ht with rfl | rfl <;> rfl), (by intro s hs; simp only [List.mem_cons, List.not_mem_nil, or_false] at hs; subst hs; first | (simp [SV.labels]; done) | (simp [SV.labels, packS, SV.back]; done) | exact List.not_mem_nil)⟩) (by decide) (by decide) (by decide) rfl (fun _ => rfl) ?_)
  · first | assumption | omega | (simp; omega)
  · first | assumption | omega | (simp; omega)
  · first | assumption | omega | (simp; omega)
  rintro _ _ ⟨o, a2, s2, ha0, ha1, rfl, rfl⟩
  refine list_nil ?_
  refine hK3 _ ?_; clear hK3 K3
  refine codeT.imp (σ' := [(0, _), (2, _), (6, _)]) ?_ (imp_covers ⟨rfl, rfl, rfl, trivial⟩)
  refine code_cond_d rfl (fun h1 => ?_) (fun h1 => ?_)
  · skip
    (try simp only [Decidable.not_not] at h1)
    refine code_seq (fun K4 hK4 => ?_)
    refine code_region ?_
    refine list_cons rfl (op_q (q_move rfl (by decide)) ?_)
    refine list_cons rfl (op_callM (row_c code ?_ _ _ ?_ ?_) (.tmp 7) 2000 [0, 7] [] _ rfl rfl (by intro y hy; cases hy; exact ⟨rfl, (by intro t ht; simp only [List.mem_cons, List.not_mem_nil, or_false] at ht; rcases ht with rfl | rfl <;> rfl), (by intro s hs; simp only [List.mem_cons, List.not_mem_nil, or_false] at hs; (try cases hs))⟩) (by decide) (by decide) (by decide) rfl (fun _ => rfl) ?_)
    · first | assumption | omega | (simp; omega)
    · first | assumption | omega | (simp; omega)
    · first | assumption | omega | (simp; omega)
    rintro _ _ ⟨l, a2, s2, ⟨hl1, hl2⟩, ha0, ha1, rfl, rfl⟩
    refine list_cons rfl (op_q (q_assign rfl (by decide)) ?_)
    refine list_nil ?_
    refine hK4 _ ?_; clear hK4 K4
    refine codeT.imp (σ' := [(0, _), (2, _)]) ?_ (imp_covers ⟨rfl, rfl, trivial⟩)
    refine code_ret ?_
    refine then_r ?_; clear hK2 K2
    refine ends_ret (cs := _) rfl rfl rfl rfl rfl ?_
    exact ⟨l, _, _, ⟨by omega, hl2⟩, by omega, by omega, rfl, rfl⟩
  (try simp only [Decidable.not_not] at h1)
  refine code_skip ?_
  refine hK2 _ ?_; clear hK2 K2
  refine code_seq (fun K5 hK5 => ?_)
  refine code_region ?_
  refine list_cons rfl (op_buildSlice sl_27 (parts := []) rfl rfl rfl (by decide) (by decide) (by decide) rfl ?_)
  refine list_cons rfl (op_q (q_assign rfl (by decide)) ?_)
  refine list_nil ?_
  refine hK5 _ ?_; clear hK5 K5
  refine code_seq (fun K6 hK6 => ?_)
  refine code_seq (fun K7 hK7 => ?_)
  refine code_region ?_
  refine list_cons rfl (op_q (q_move rfl (by decide)) ?_)
  refine list_cons rfl (op_buildSlice sl_27 (parts := [(0, _), (1, _), (2, _), (3, _), (4, _)]) rfl rfl rfl (by decide) (by decide) (by decide) rfl ?_)
  refine list_cons rfl (op_callM (among_c code ?_ _ _ ?_ ?_ ([2, 3, 1, 4, 6]) (by decide) (by decide)) (.tmp 10) 2000 [0, 10] [.tmp 11] _ rfl rfl (by intro y hy; cases hy; exact ⟨rfl, (by intro t ht; simp only [List.mem_cons, List.not_mem_nil, or_false] at ht; rcases ht with rfl | rfl <;> rfl), (by intro s hs; simp only [List.mem_cons, List.not_mem_nil, or_false] at hs; subst hs; first | (simp [SV.labels]; done) | (simp [SV.labels, packS, SV.back]; done) | exact List.not_mem_nil)⟩) (by decide) (by decide) (by decide) rfl (fun _ => rfl) ?_)
  · first | assumption | omega | (simp; omega)
  · first | assumption | omega | (simp; omega)
  · first | assumption | omega | (simp; omega)
  rintro _ _ ⟨n0, a2, s2, hx, ha0, ha1, rfl, rfl⟩
  simp only [List.mem_cons, List.not_mem_nil, or_false] at hx
  refine list_cons rfl (op_q (q_assign rfl (by decide)) ?_)
  refine list_nil ?_
  refine hK7 _ ?_; clear hK7 K7
  refine codeT.imp (σ' := [(0, _), (2, _), (3, _), (4, _)]) ?_ (imp_covers ⟨rfl, rfl, rfl, rfl, trivial⟩)
  refine code_block ?_
  refine code_loop (X := List PV × PV × Nat × List PV × Int) (fun x => [(0, .box 2000 77 x.1), (2, .val x.2.1), (3, .own 9 3 1 x.2.2.1 x.2.2.2.1), (4, .val (.int .i64 x.2.2.2.2))]) (fun x => x.2.2.2.2 ≤ 6 ∧ ∃ (a1 s1 : Int) (l : List Int), x.1 = [.sl code.length (bytesP code), .int .i64 a1, .int .u64 s1] ∧ x.2.2.1 = l.length ∧ x.2.2.2.1 = l.map (.int .i64) ∧ a ≤ a1 ∧ a1 ≤ a + 10 + 20 * l.length ∧ (l.length : Int) + max x.2.2.2.2 0 ≤ 6 ∧ ∀ x ∈ l, -1 ≤ x ∧ x ≤ 4611686018427387904) (fun x => x.2.2.2.2.toNat) (_, _, _, _, _) (imp_covers ⟨rfl, rfl, rfl, rfl, trivial⟩) ?_ ?_
  · (try dsimp only)
    exact ⟨by omega, _, _, [], rfl, rfl, rfl, by omega, by simp only [List.length_nil]; omega, by simp only [List.length_nil]; omega, fun _ h => by simp at h⟩
  · intro x hI
    obtain ⟨c_c, t2_p, out_n, out_c, n⟩ := x
    replace hI : n ≤ 6 ∧ ∃ (a1 s1 : Int) (l : List Int), c_c = [.sl code.length (bytesP code), .int .i64 a1, .int .u64 s1] ∧ out_n = l.length ∧ out_c = l.map (.int .i64) ∧ a ≤ a1 ∧ a1 ≤ a + 10 + 20 * l.length ∧ (l.length : Int) + max n 0 ≤ 6 ∧ ∀ x ∈ l, -1 ≤ x ∧ x ≤ 4611686018427387904 := hI
    show codeT _ _ _ [(0, .box 2000 77 c_c), (2, .val t2_p), (3, .own 9 3 1 out_n out_c), (4, .val (.int .i64 n))] _
    obtain ⟨i0, a1, s1, l, rfl, rfl, rfl, i1, i2, i3, i4⟩ := hI
    refine code_seq (fun K8 hK8 => ?_)
    refine code_seq (fun K9 hK9 => ?_)
    refine code_region ?_
    refine list_cons rfl (op_q (q_move rfl (by decide)) ?_)
    refine list_cons rfl (op_q (q_gt rfl rfl (by decide)) ?_)
    refine list_nil ?_
    refine hK9 _ ?_; clear hK9 K9
    refine code_cond_d rfl (fun h2 => ?_) (fun h2 => ?_)
    · skip
      (try simp only [Decidable.not_not] at h2)
      refine code_skip ?_
      refine hK8 _ ?_; clear hK8 K8
      refine code_seq (fun K10 hK10 => ?_)
      refine code_block ?_
      refine code_region ?_
      refine list_cons rfl (op_q (q_move rfl (by decide)) ?_)
      refine list_cons rfl (op_q (q_move rfl (by decide)) ?_)
      refine list_cons rfl (op_buildSlice sl_27 (parts := [(0, _), (1, _), (2, _), (3, _), (4, _), (5, _), (6, _), (7, _), (8, _), (9, _)]) rfl rfl rfl (by decide) (by decide) (by decide) rfl ?_)
      refine list_cons rfl (op_callM (among_c code ?_ _ _ ?_ ?_ ([0, 1, 2, 5, 6, 8, 9, 3, 4, 7]) (by decide) (by decide)) (.tmp 18) 2000 [0, 18] [.tmp 19] _ rfl rfl (by intro y hy; cases hy; exact ⟨rfl, (by intro t ht; simp only [List.mem_cons, List.not_mem_nil, or_false] at ht; rcases ht with rfl | rfl <;> rfl), (by intro s hs; simp only [List.mem_cons, List.not_mem_nil, or_false] at hs; subst hs; first | (simp [SV.labels]; done) | (simp [SV.labels, packS, SV.back]; done) | exact List.not_mem_nil)⟩) (by decide) (by decide) (by decide) rfl (fun _ => rfl) ?_)
      · first | assumption | omega | (simp; omega)
      · first | assumption | omega | (simp; omega)
      · first | assumption | omega | (simp; omega)
      rintro _ _ ⟨x, a2, s2, hx, ha0, ha1, rfl, rfl⟩
      simp only [List.mem_cons, List.not_mem_nil, or_false] at hx
      refine list_cons rfl (op_call _ (spec_l2Digit _ (by omega) (by omega)) rfl rfl (by decide) (by decide) (by decide) rfl ?_)
      rintro _ rfl; have hdc := digT_cell x.toNat
      refine list_cons rfl (op_buildSlice sl_27 (parts := [(0, .tmp 21)]) rfl rfl rfl (by decide) (by decide) (by decide) rfl ?_)
      refine list_cons rfl (op_append_gen sl_27 (l := 9) (.inl rfl) rfl rfl (l2 := none) (.inl ⟨rfl, (by first | rfl | exact flat_map _ (fun _ => rfl) _)⟩) (by first | rfl | simp | omega) (by omega) (by decide) (by decide) (by decide) ?_)
      refine list_cons rfl (op_q (q_assign rfl (by decide)) ?_)
      refine list_nil ?_
      refine blk_n ?_
      refine hK10 _ ?_; clear hK10 K10
      refine codeT.imp (σ' := [(0, _), (2, _), (3, _), (4, _)]) ?_ (imp_covers ⟨rfl, rfl, rfl, rfl, trivial⟩)
      refine code_region ?_
      refine list_cons rfl (op_q (q_move rfl (by decide)) ?_)
      refine list_cons rfl (op_q (by first | exact q_subI rfl rfl (by decide) (by omega) (by omega) | exact q_ib rfl rfl rfl (by decide)) ?_)
      refine list_cons rfl (op_q (q_assign rfl (by decide)) ?_)
      refine list_nil ?_
      refine then_n ⟨(_, _, _, _, _), imp_covers ⟨rfl, rfl, rfl, rfl, trivial⟩, ?_, ?_⟩
      · (try dsimp only)
        refine ⟨by omega, _, _, l ++ [digT.getD x.toNat 0], rfl, by simp, by simp; rfl, by omega, by simp only [List.length_append, List.length_cons, List.length_nil]; omega, by simp only [List.length_append, List.length_cons, List.length_nil]; omega, fun y hy => ?_⟩
        rcases List.mem_append.1 hy with hy | hy
        · exact i4 y hy
        · simp only [List.mem_singleton] at hy; subst hy; omega
      · (try dsimp only); omega
    (try simp only [Decidable.not_not] at h2)
    refine code_exit ?_
    refine then_x ?_; clear hK8 K8
    refine then_x ?_
    refine blk_hit ?_
    refine hK6 _ ?_; clear hK6 K6
    refine code_seq (fun K11 hK11 => ?_)
    refine code_region ?_
    refine list_cons rfl (op_q (q_move rfl (by decide)) ?_)
    refine list_cons rfl (op_q (q_assign rfl (by decide)) ?_)
    refine list_nil ?_
    refine hK11 _ ?_; clear hK11 K11
    refine code_ret ?_
    refine ends_ret (cs := _) rfl rfl rfl rfl rfl ?_
    exact ⟨l, _, _, ⟨by omega, i4⟩, by omega, by omega, rfl, rfl⟩
set_option maxRecDepth 4000 in
set_option maxHeartbeats 8000000 in
theorem DrawNumberOf_c (code : List UInt8) (hcode : code.length ≤ 9223372036854775807) : MCalls Try.prog 57 true none [.sl code.length (bytesP code)] fun rs _ => ∃ l : List Int, l.length ≤ 7 ∧ rs = [.own 0 3 1 l.length (l.map (.int .i64))] := by
  refine mcalls_of_code (n := 9) az Try.func57 (by kernel_rfl) rfl rfl (Nat.le_of_ble_eq_true rfl) (by intro t u h; simp [Try.f57] at h) ?_
  refine code_seq (fun K1 hK1 => ?_)
  refine code_region ?_
  refine list_cons rfl (op_q (q_assign rfl (by decide)) ?_)
  refine list_nil ?_
  refine hK1 _ ?_; clear hK1 K1
  refine code_seq (fun K2 hK2 => ?_)
  refine code_region ?_
  refine list_cons rfl (op_q (q_move rfl (by decide)) ?_)
  refine list_cons rfl (op_q (q_build_ext bt_77 (parts := [(0, .tmp 4)]) rfl rfl (by decide)) ?_)
  refine list_cons rfl (op_box rfl (.inr rfl) (by decide) (by decide) rfl ?_)
  refine list_cons rfl (op_q (q_assign rfl (by decide)) ?_)
  refine list_nil ?_
  refine hK2 _ ?_; clear hK2 K2
  refine code_seq (fun K3 hK3 => ?_)
  refine code_region ?_
  refine list_cons rfl (op_q (q_move rfl (by decide)) ?_)
  refine list_cons rfl (op_callM (digits_c code ?_ _ _ ?_ ?_) (.tmp 7) 6 [6, 3, 7] [] _ rfl rfl (by intro y hy; cases hy; exact ⟨rfl, (by intro t ht; simp only [List.mem_cons, List.not_mem_nil, or_false] at ht; rcases ht with rfl | rfl | rfl <;> rfl), (by intro s hs; simp only [List.mem_cons, List.not_mem_nil, or_false] at hs; (try cases hs))⟩) (by decide) (by decide) (by decide) rfl (fun _ => rfl) ?_)
  · first | assumption | omega | (simp; omega)
  · first | assumption | omega | (simp; omega)
  · first | assumption | omega | (simp; omega)
  rintro _ _ ⟨l, a2, s2, ⟨hl1, hl2⟩, ha0, ha1, rfl, rfl⟩
  refine list_cons rfl (op_q (q_assign rfl (by decide)) ?_)
  refine list_nil ?_
  refine hK3 _ ?_; clear hK3 K3
  refine codeT.imp (σ' := [(0, _), (2, _), (3, _)]) ?_ (imp_covers ⟨rfl, rfl, rfl, trivial⟩)
  refine code_ret ?_
  refine ends_ret (cs := []) rfl rfl rfl rfl trivial ?_
  first | exact ⟨_, hl1, rfl⟩ | exact ⟨_, hr1, rfl⟩ | exact ⟨_, hx1, rfl⟩ | exact ⟨_, by omega, rfl⟩
theorem fl_snocB (o : List (Int × Int)) (a b : Int) : fl o ++ [PV.int .i64 a, PV.int .i64 b] = fl (o ++ [(a, b)]) := by simp [fl]
set_option maxRecDepth 4000 in
theorem spec_l1LeastD (a b : Int) : PCalls Try.prog 104 [.int .i64 a, .int .i64 b] (· = [.val (.int .i64 (if a < b then a else b))]) := by
  refine pcalls_of_code (n := 10) az Try.func104 (by kernel_rfl) rfl rfl (Nat.le_of_ble_eq_true rfl) (by intro t u h; simp [Try.f104] at h) ?_
  refine code_seq (fun K1 hK1 => ?_)
  refine code_region ?_
  refine list_cons rfl (op_q (q_assign rfl (by decide)) ?_)
  refine list_nil ?_
  refine hK1 _ ?_; clear hK1 K1
  refine code_seq (fun K2 hK2 => ?_)
  refine code_seq (fun K3 hK3 => ?_)
  refine code_region ?_
  refine list_cons rfl (op_q (q_move rfl (by decide)) ?_)
  refine list_cons rfl (op_q (q_move rfl (by decide)) ?_)
  refine list_cons rfl (op_q (q_lt rfl rfl (by decide)) ?_)
  refine list_nil ?_
  refine hK3 _ ?_; clear hK3 K3
  refine code_cond_d rfl (fun h1 => ?_) (fun h1 => ?_)
  · skip
    (try simp only [Decidable.not_not] at h1)
    refine code_seq (fun K4 hK4 => ?_)
    refine code_region ?_
    refine list_cons rfl (op_q (q_move rfl (by decide)) ?_)
    refine list_cons rfl (op_q (q_assign rfl (by decide)) ?_)
    refine list_nil ?_
    refine hK4 _ ?_; clear hK4 K4
    refine code_ret ?_
    refine then_r ?_; clear hK2 K2
    refine ends_ret (cs := []) rfl rfl rfl rfl trivial ?_
    rw [if_pos h1]
  (try simp only [Decidable.not_not] at h1)
  refine code_skip ?_
  refine hK2 _ ?_; clear hK2 K2
  refine code_seq (fun K5 hK5 => ?_)
  refine code_region ?_
  refine list_cons rfl (op_q (q_move rfl (by decide)) ?_)
  refine list_cons rfl (op_q (q_assign rfl (by decide)) ?_)
  refine list_nil ?_
  refine hK5 _ ?_; clear hK5 K5
  refine code_ret ?_
  refine ends_ret (cs := []) rfl rfl rfl rfl trivial ?_
  rw [if_neg h1]
set_option maxRecDepth 4000 in
set_option maxHeartbeats 1500000 in
theorem frame_c (code : List UInt8) (hcode : code.length ≤ 9223372036854775807) (a s : Int) (ha : 0 ≤ a) (ha2 : a ≤ 4611686018427100000) : MCalls Try.prog 82 false (some (.box 77 [.sl code.length (bytesP code), .int .i64 a, .int .u64 s])) [] fun rs cs => ∃ (k : Int) (fr : List (Int × Int)) (a2 s2 : Int), fr.length ≤ 13 ∧ a ≤ a2 ∧ a2 ≤ a + 200 ∧ rs = [.val (.int .i64 k), .own 1 62 2 (fr).length (fl (fr))] ∧ cs = [.sl code.length (bytesP code), .int .i64 a2, .int .u64 s2] := by
  refine mcalls_of_code (n := 83) az Try.func82 (by kernel_rfl) rfl rfl (Nat.le_of_ble_eq_true rfl) (by intro t u h; simp [Try.f82] at h) ?_
  refine code_seq (fun K1 hK1 => ?_)
  refine code_region ?_
  refine list_cons rfl (op_q (q_assign rfl (by decide)) ?_)
  refine list_cons rfl (op_q (q_assign rfl (by decide)) ?_)
  refine list_nil ?_
  refine hK1 _ ?_; clear hK1 K1
  refine code_seq (fun K2 hK2 => ?_)
  refine code_region ?_
  refine list_cons rfl (op_q (q_move rfl (by decide)) ?_)
  refine list_cons rfl (op_buildSlice sl_27 (parts := [(0, _), (1, _), (2, _), (3, _), (4, _), (5, _), (6, _), (7, _), (8, _), (9, _), (10, _), (11, _)]) rfl rfl rfl (by decide) (by decide) (by decide) (by kernel_rfl) ?_)
  refine list_cons rfl (op_callM (among_c code ?_ _ _ ?_ ?_ ([2, 3, 4, 1, 6, 2, 3, 4, 0, 7, 5, 2]) (by decide) (by decide)) (.tmp 9) 2000 [0, 9] [.tmp 10] _ rfl rfl (by intro y hy; cases hy; exact ⟨rfl, (by intro t ht; simp only [List.mem_cons, List.not_mem_nil, or_false] at ht; rcases ht with rfl | rfl <;> rfl), (by intro s hs; simp only [List.mem_cons, List.not_mem_nil, or_false] at hs; subst hs; first | (simp [SV.labels]; done) | (simp [SV.labels, packS, SV.back]; done) | exact List.not_mem_nil)⟩) (by decide) (by decide) (by decide) (by kernel_rfl) (fun _ => rfl) ?_)
  · first | assumption | omega | (simp; omega)
  · first | assumption | omega | (simp; omega)
  · first | assumption | omega | (simp; omega)
  rintro _ _ ⟨k, a2, s2, hx, ha0, ha1, rfl, rfl⟩
  have hk : 0 ≤ k ∧ k ≤ 7 := of_decide_eq_true (List.all_eq_true.1 (show List.all ([2, 3, 4, 1, 6, 2, 3, 4, 0, 7, 5, 2]) (fun (y : Int) => decide (0 ≤ y ∧ y ≤ 7)) = true by decide) _ hx)
  clear hx
  refine list_cons rfl (op_q (q_assign rfl (by decide)) ?_)
  refine list_nil ?_
  refine hK2 _ ?_; clear hK2 K2
  refine codeT.imp (σ' := [(0, _), (2, _), (3, _), (4, _)]) ?_ (imp_covers ⟨rfl, rfl, rfl, rfl, trivial⟩)
  refine code_seq (fun K3 hK3 => ?_)
  refine code_region ?_
  refine list_cons rfl (op_buildSlice sl_24 (parts := []) rfl rfl rfl (by decide) (by decide) (by decide) (by kernel_rfl) ?_)
  refine list_cons rfl (op_q (q_assign rfl (by decide)) ?_)
  refine list_nil ?_
  refine hK3 _ ?_; clear hK3 K3
  refine code_seq (fun K4 hK4 => ?_)
  refine code_region ?_
  refine list_cons rfl (op_q (q_move rfl (by decide)) ?_)
  refine list_cons rfl (op_call _ ((PCalls.mono (spec_l1LeastD k 6) fun rs h => (⟨_, h, by split <;> omega⟩ : ∃ t : Int, rs = [.val (.int .i64 t)] ∧ 0 ≤ t ∧ t ≤ 6))) rfl rfl (by decide) (by decide) (by decide) (by kernel_rfl) ?_)
  rintro _ ⟨lo, rfl, hlo0, hlo1⟩
  refine list_cons rfl (op_call _ ((PCalls.mono (spec_l1Most 1 lo) fun rs h => (⟨_, h, by split <;> omega⟩ : ∃ t : Int, rs = [.val (.int .i64 t)] ∧ 1 ≤ t ∧ t ≤ 6))) rfl rfl (by decide) (by decide) (by decide) (by kernel_rfl) ?_)
  rintro _ ⟨top, rfl, htp0, htp1⟩
  refine list_cons rfl (op_q (q_assign rfl (by decide)) ?_)
  refine list_nil ?_
  refine hK4 _ ?_; clear hK4 K4
  refine codeT.imp (σ' := [(0, _), (2, _), (3, _), (4, _), (5, _), (6, _)]) ?_ (imp_covers ⟨rfl, rfl, rfl, rfl, rfl, rfl, trivial⟩)
  refine code_seq (fun K5 hK5 => ?_)
  refine code_seq (fun K6 hK6 => ?_)
  refine code_region ?_
  refine list_cons rfl (op_q (q_move rfl (by decide)) ?_)
  refine list_cons rfl (op_buildSlice sl_27 (parts := [(0, _), (1, _), (2, _), (3, _), (4, _), (5, _), (6, _), (7, _)]) rfl rfl rfl (by decide) (by decide) (by decide) (by kernel_rfl) ?_)
  refine list_cons rfl (op_callM (among_c code ?_ _ _ ?_ ?_ ([2, 3, 4, 1, 5, 6, 0, 3]) (by decide) (by decide)) (.tmp 16) 2000 [0, 16] [.tmp 17] _ rfl rfl (by intro y hy; cases hy; exact ⟨rfl, (by intro t ht; simp only [List.mem_cons, List.not_mem_nil, or_false] at ht; rcases ht with rfl | rfl <;> rfl), (by intro s hs; simp only [List.mem_cons, List.not_mem_nil, or_false] at hs; subst hs; first | (simp [SV.labels]; done) | (simp [SV.labels, packS, SV.back]; done) | exact List.not_mem_nil)⟩) (by decide) (by decide) (by decide) (by kernel_rfl) (fun _ => rfl) ?_)
  · first | assumption | omega | (simp; omega)
  · first | assumption | omega | (simp; omega)
  · first | assumption | omega | (simp; omega)
  rintro _ _ ⟨n0, a2, s2, hx, ha0, ha1, rfl, rfl⟩
  have hn0 : 0 ≤ n0 ∧ n0 ≤ 6 := of_decide_eq_true (List.all_eq_true.1 (show List.all ([2, 3, 4, 1, 5, 6, 0, 3]) (fun (y : Int) => decide (0 ≤ y ∧ y ≤ 6)) = true by decide) _ hx)
  clear hx
  refine list_cons rfl (op_q (q_assign rfl (by decide)) ?_)
  refine list_nil ?_
  refine hK6 _ ?_; clear hK6 K6
  refine codeT.imp (σ' := [(0, _), (2, _), (3, _), (4, _), (5, _), (6, _), (7, _)]) ?_ (imp_covers ⟨rfl, rfl, rfl, rfl, rfl, rfl, rfl, trivial⟩)
  refine code_block ?_
  refine code_loop (X := List PV × Nat × List PV × Int) (fun x => [(0, .box 2000 77 x.1), (4, .val (.int .i64 k)), (5, .own 12 62 2 x.2.1 x.2.2.1), (6, .val (.int .i64 top)), (7, .val (.int .i64 x.2.2.2))]) (fun x => x.2.2.2 ≤ 6 ∧ ∃ (a1 s1 : Int) (fr : List (Int × Int)), x.1 = [.sl code.length (bytesP code), .int .i64 a1, .int .u64 s1] ∧ x.2.1 = fr.length ∧ x.2.2.1 = fl fr ∧ a ≤ a1 ∧ a1 ≤ a + 10 + 12 * fr.length ∧ (fr.length : Int) + max x.2.2.2 0 ≤ 6) (fun x => x.2.2.2.toNat) (_, _, _, _) (imp_covers ⟨rfl, rfl, rfl, rfl, rfl, trivial⟩) ?_ ?_
  · (try dsimp only)
    exact ⟨by omega, _, _, [], rfl, rfl, rfl, by omega, by simp only [List.length_nil]; omega, by simp only [List.length_nil]; omega⟩
  · intro x hI
    obtain ⟨c_c, out_n, out_c, n⟩ := x
    replace hI : n ≤ 6 ∧ ∃ (a1 s1 : Int) (fr : List (Int × Int)), c_c = [.sl code.length (bytesP code), .int .i64 a1, .int .u64 s1] ∧ out_n = fr.length ∧ out_c = fl fr ∧ a ≤ a1 ∧ a1 ≤ a + 10 + 12 * fr.length ∧ (fr.length : Int) + max n 0 ≤ 6 := hI
    show codeT _ _ _ [(0, .box 2000 77 c_c), (4, .val (.int .i64 k)), (5, .own 12 62 2 out_n out_c), (6, .val (.int .i64 top)), (7, .val (.int .i64 n))] _
    obtain ⟨i0, a1, s1, fr, rfl, rfl, rfl, i1, i2, i3⟩ := hI
    refine code_seq (fun K7 hK7 => ?_)
    refine code_seq (fun K8 hK8 => ?_)
    refine code_region ?_
    refine list_cons rfl (op_q (q_move rfl (by decide)) ?_)
    refine list_cons rfl (op_q (q_gt rfl rfl (by decide)) ?_)
    refine list_nil ?_
    refine hK8 _ ?_; clear hK8 K8
    refine code_cond_d rfl (fun h1 => ?_) (fun h1 => ?_)
    · skip
      (try simp only [Decidable.not_not] at h1)
      refine code_skip ?_
      refine hK7 _ ?_; clear hK7 K7
      refine code_seq (fun K9 hK9 => ?_)
      refine code_block ?_
      refine code_seq (fun K10 hK10 => ?_)
      refine code_region ?_
      refine list_cons rfl (op_q (q_move rfl (by decide)) ?_)
      refine list_cons rfl (op_q (q_move rfl (by decide)) ?_)
      refine list_cons rfl (op_q (by first | exact q_shl1 rfl rfl (by decide) (by omega) (by omega) | exact q_shlI rfl rfl (by decide) (by omega) (by omega) (by omega) | exact q_shl rfl rfl (by omega) (by decide)) ?_)
      refine list_cons rfl (op_callM (pick_c code ?_ _ _ ?_ ?_ _) (.tmp 23) 2000 [0, 23] [.tmp 25] _ rfl rfl (by intro y hy; cases hy; exact ⟨rfl, (by intro t ht; simp only [List.mem_cons, List.not_mem_nil, or_false] at ht; rcases ht with rfl | rfl <;> rfl), (by intro s hs; simp only [List.mem_cons, List.not_mem_nil, or_false] at hs; subst hs; first | (simp [SV.labels]; done) | (simp [SV.labels, packS, SV.back]; done) | exact List.not_mem_nil)⟩) (by decide) (by decide) (by decide) (by kernel_rfl) (fun _ => rfl) ?_)
      · first | assumption | omega | (simp; omega)
      · first | assumption | omega | (simp; omega)
      · first | assumption | omega | (simp; omega)
      rintro _ _ ⟨b1, a2, s2, hb0, hb1, ha0, ha1, rfl, rfl⟩
      refine listT.imp (σ' := [(0, .box 2000 77 [.sl code.length (bytesP code), .int .i64 a2, .int .u64 s2]), (4, .val (.int .i64 k)), (5, .own 12 62 2 fr.length (fl fr)), (6, .val (.int .i64 top)), (7, .val (.int .i64 n)), (26, .val (.int .i64 b1))]) ?_ (imp_covers ⟨rfl, rfl, rfl, rfl, rfl, rfl, trivial⟩)
      refine list_cons rfl (op_q (q_move rfl (by decide)) ?_)
      refine list_cons rfl (op_callM (pick_c code ?_ _ _ ?_ ?_ _) (.tmp 27) 2000 [0, 27] [_] _ rfl rfl (by intro y hy; cases hy; exact ⟨rfl, (by intro t ht; simp only [List.mem_cons, List.not_mem_nil, or_false] at ht; rcases ht with rfl | rfl <;> rfl), (by intro s hs; simp only [List.mem_cons, List.not_mem_nil, or_false] at hs; subst hs; first | (simp [SV.labels]; done) | (simp [SV.labels, packS, SV.back]; done) | exact List.not_mem_nil)⟩) (by decide) (by decide) (by decide) (by kernel_rfl) (fun _ => rfl) ?_)
      · first | assumption | omega | (simp; omega)
      · first | assumption | omega | (simp; omega)
      · first | assumption | omega | (simp; omega)
      rintro _ _ ⟨b2, a2, s2, hb0, hb1, ha0, ha1, rfl, rfl⟩
      refine listT.imp (σ' := [(0, .box 2000 77 [.sl code.length (bytesP code), .int .i64 a2, .int .u64 s2]), (4, .val (.int .i64 k)), (5, .own 12 62 2 fr.length (fl fr)), (6, .val (.int .i64 top)), (7, .val (.int .i64 n)), (26, .val (.int .i64 b1)), (28, .val (.int .i64 b2))]) ?_ (imp_covers ⟨rfl, rfl, rfl, rfl, rfl, rfl, rfl, trivial⟩)
      refine list_cons rfl (op_q (q_build bt_62 (parts := [(0, .tmp 26), (1, .tmp 28)]) rfl rfl (by decide)) ?_)
      refine list_cons rfl (op_alloc zt_62 (by decide) (by decide) rfl ?_)
      refine list_cons rfl (op_store (agg_62).2 8 [8] (by intro t ht; simp only [List.mem_cons, List.not_mem_nil, or_false] at ht; subst ht; rfl) (.inr ⟨rfl, _, rfl⟩) rfl rfl rfl rfl (by first | rfl | exact flat_part (flat_map _ (fun _ => rfl) _) _ _ | exact flat_map _ (fun _ => rfl) _) (by first | rfl | (simp [PV.cells]; done)) (by first | decide | omega | exact Nat.le_refl _ | (simp; done) | (simp; omega)) (by decide) rfl ?_)
      refine list_nil ?_
      refine hK10 _ ?_; clear hK10 K10
      refine codeT.imp (σ' := [(0, _), (4, _), (5, _), (6, _), (7, _), (8, _)]) ?_ (imp_covers ⟨rfl, rfl, rfl, rfl, rfl, rfl, trivial⟩)
      refine code_seq (fun K11 hK11 => ?_)
      refine code_seq (fun K12 hK12 => ?_)
      refine code_region ?_
      refine list_cons rfl (op_q (q_move rfl (by decide)) ?_)
      refine list_cons rfl (op_callM (one_c code ?_ _ _ ?_ ?_ _) (.tmp 30) 2000 [0, 30] [_] _ rfl rfl (by intro y hy; cases hy; exact ⟨rfl, (by intro t ht; simp only [List.mem_cons, List.not_mem_nil, or_false] at ht; rcases ht with rfl | rfl <;> rfl), (by intro s hs; simp only [List.mem_cons, List.not_mem_nil, or_false] at hs; subst hs; first | (simp [SV.labels]; done) | (simp [SV.labels, packS, SV.back]; done) | exact List.not_mem_nil)⟩) (by decide) (by decide) (by decide) (by kernel_rfl) (fun _ => rfl) ?_)
      · first | assumption | omega | (simp; omega)
      · first | assumption | omega | (simp; omega)
      · first | assumption | omega | (simp; omega)
      rintro _ _ ⟨o, a2, s2, ha0, ha1, rfl, rfl⟩
      refine listT.imp (σ' := [(0, .box 2000 77 [.sl code.length (bytesP code), .int .i64 a2, .int .u64 s2]), (4, .val (.int .i64 k)), (5, .own 12 62 2 fr.length (fl fr)), (6, .val (.int .i64 top)), (7, .val (.int .i64 n)), (8, .box 8 62 [.int .i64 b1, .int .i64 b2]), (31, .val (.bool (decide (o = 0))))]) ?_ (imp_covers ⟨rfl, rfl, rfl, rfl, rfl, rfl, rfl, trivial⟩)
      refine list_nil ?_
      refine hK12 _ ?_; clear hK12 K12
      refine codeT.imp (σ' := [(0, _), (4, _), (5, _), (6, _), (7, _), (8, _), (31, _)]) ?_ (imp_covers ⟨rfl, rfl, rfl, rfl, rfl, rfl, rfl, trivial⟩)
      refine code_cond_d rfl (fun h2 => ?_) (fun h2 => ?_)
      · skip
        (try simp only [Decidable.not_not] at h2)
        refine rest_start 9 (by kernel_rfl) rfl ?_
        refine rest_take 0 rfl (by kernel_rfl) (by kernel_rfl) (by kernel_rfl) rfl (p_move rfl (by decide)) ?_
        refine rest_take 1 rfl (by kernel_rfl) (by kernel_rfl) (by kernel_rfl) rfl (p_move rfl (by decide)) ?_
        refine rest_take 4 rfl (by kernel_rfl) (by kernel_rfl) (by kernel_rfl) rfl (p_move rfl (by decide)) ?_
        refine rest_one 2 (by kernel_rfl) rfl rfl (op_callM (pick_c code ?_ _ _ ?_ ?_ _) (.tmp 32) 2000 [0, 32, 36] [.tmp 33] _ rfl rfl (by intro y hy; cases hy; exact ⟨rfl, (by intro t ht; simp only [List.mem_cons, List.not_mem_nil, or_false] at ht; rcases ht with rfl | rfl | rfl <;> rfl), (by intro s hs; simp only [List.mem_cons, List.not_mem_nil, or_false] at hs; subst hs; first | (simp [SV.labels]; done) | (simp [SV.labels, packS, SV.back]; done) | exact List.not_mem_nil)⟩) (by decide) (by decide) (by decide) (by kernel_rfl) (fun _ => rfl) ?_)
        · first | assumption | omega | (simp; omega)
        · first | assumption | omega | (simp; omega)
        · first | assumption | omega | (simp; omega)
        rintro _ _ ⟨b3, a2, s2, hb0, hb1, ha0, ha1, rfl, rfl⟩
        refine rest_norm #[true, true, true, false, true, false, false, false, false] (σ' := [(0, .box 2000 77 [.sl code.length (bytesP code), .int .i64 a2, .int .u64 s2]), (4, .val (.int .i64 k)), (5, .own 12 62 2 fr.length (fl fr)), (6, .val (.int .i64 top)), (7, .val (.int .i64 n)), (8, .box 8 62 [.int .i64 b1, .int .i64 b2]), (34, .val (.int .i64 b3)), (36, .box 2000 77 [.sl code.length (bytesP code), .int .i64 a2, .int .u64 s2])]) (by kernel_rfl) ?_ (imp_covers ⟨rfl, rfl, rfl, rfl, rfl, rfl, rfl, rfl, trivial⟩)
        refine rest_take 3 rfl (by kernel_rfl) (by kernel_rfl) (by kernel_rfl) rfl (p_shl1 rfl rfl (by decide) (by omega) (by omega)) ?_
        refine rest_one 5 (by kernel_rfl) rfl rfl (op_callM (pick_c code ?_ _ _ ?_ ?_ _) (.tmp 36) 2000 [0, 36] [_] _ rfl rfl (by intro y hy; cases hy; exact ⟨rfl, (by intro t ht; simp only [List.mem_cons, List.not_mem_nil, or_false] at ht; rcases ht with rfl | rfl <;> rfl), (by intro s hs; simp only [List.mem_cons, List.not_mem_nil, or_false] at hs; subst hs; first | (simp [SV.labels]; done) | (simp [SV.labels, packS, SV.back]; done) | exact List.not_mem_nil)⟩) (by decide) (by decide) (by decide) (by kernel_rfl) (fun _ => rfl) ?_)
        · first | assumption | omega | (simp; omega)
        · first | assumption | omega | (simp; omega)
        · first | assumption | omega | (simp; omega)
        rintro _ _ ⟨b4, a2, s2, hb0, hb1, ha0, ha1, rfl, rfl⟩
        refine rest_norm #[true, true, true, true, true, true, false, false, false] (σ' := [(0, .box 2000 77 [.sl code.length (bytesP code), .int .i64 a2, .int .u64 s2]), (4, .val (.int .i64 k)), (5, .own 12 62 2 fr.length (fl fr)), (6, .val (.int .i64 top)), (7, .val (.int .i64 n)), (8, .box 8 62 [.int .i64 b1, .int .i64 b2]), (35, .val (.int .i64 ((p2 b3.toNat : Nat) : Int))), (37, .val (.int .i64 b4))]) (by kernel_rfl) ?_ (imp_covers ⟨rfl, rfl, rfl, rfl, rfl, rfl, rfl, rfl, trivial⟩)
        refine rest_one 6 (by kernel_rfl) rfl rfl (op_call _ (spec_l2Digit _ (by omega) (by omega)) rfl rfl (by decide) (by decide) (by decide) (by kernel_rfl) ?_)
        rintro _ rfl; have hdc := digT_cell 0
        refine rest_norm #[true, true, true, true, true, true, true, false, false] (σ' := [(0, .box 2000 77 [.sl code.length (bytesP code), .int .i64 a2, .int .u64 s2]), (4, .val (.int .i64 k)), (5, .own 12 62 2 fr.length (fl fr)), (6, .val (.int .i64 top)), (7, .val (.int .i64 n)), (8, .box 8 62 [.int .i64 b1, .int .i64 b2]), (35, .val (.int .i64 ((p2 b3.toNat : Nat) : Int))), (38, .val (.int .i64 (digT.getD b4.toNat 0)))]) (by kernel_rfl) ?_ (imp_covers ⟨rfl, rfl, rfl, rfl, rfl, rfl, rfl, rfl, trivial⟩)
        refine rest_one 7 (by kernel_rfl) rfl rfl (op_q (q_build bt_62 (parts := [(0, .tmp 35), (1, .tmp 38)]) rfl rfl (by decide)) ?_)
        refine rest_one 8 (by kernel_rfl) rfl rfl (op_store (agg_62).2 8 [8] (by intro t ht; simp only [List.mem_cons, List.not_mem_nil, or_false] at ht; subst ht; rfl) (.inr ⟨rfl, _, rfl⟩) rfl rfl rfl rfl (by first | rfl | exact flat_part (flat_map _ (fun _ => rfl) _) _ _ | exact flat_map _ (fun _ => rfl) _) (by first | rfl | (simp [PV.cells]; done)) (by first | decide | omega | exact Nat.le_refl _ | (simp; done) | (simp; omega)) (by decide) rfl ?_)
        refine rest_norm #[true, true, true, true, true, true, true, true, true] (σ' := [(0, .box 2000 77 [.sl code.length (bytesP code), .int .i64 a2, .int .u64 s2]), (4, .val (.int .i64 k)), (5, .own 12 62 2 fr.length (fl fr)), (6, .val (.int .i64 top)), (7, .val (.int .i64 n)), (8, .box 8 62 [.int .i64 ((p2 b3.toNat : Nat) : Int), .int .i64 (digT.getD b4.toNat 0)])]) (by kernel_rfl) ?_ (imp_covers ⟨rfl, rfl, rfl, rfl, rfl, rfl, trivial⟩)
        refine rest_done (by kernel_rfl) ?_
        refine hK11 _ ?_; clear hK11 K11
        refine codeT.imp (σ' := [(0, _), (4, _), (5, _), (6, _), (7, _), (8, _)]) ?_ (imp_covers ⟨rfl, rfl, rfl, rfl, rfl, rfl, trivial⟩)
        refine code_region ?_
        refine list_cons rfl (op_q (q_move rfl (by decide)) ?_)
        refine list_cons rfl (op_q (q_load_agg agg_62 8 (.inr ⟨rfl, _, rfl⟩) rfl rfl (by first | decide | omega | exact Nat.le_refl _ | (simp; done) | (simp; omega)) (by first | rfl | exact flat_part (flat_map _ (fun _ => rfl) _) _ _) (by decide)) ?_)
        refine list_cons rfl (op_buildSlice sl_24 (parts := [(0, .tmp 41)]) rfl rfl rfl (by decide) (by decide) (by decide) (by kernel_rfl) ?_)
        refine list_cons rfl (op_append_gen sl_24 (l := 12) (.inl rfl) rfl rfl (l2 := none) (.inl ⟨rfl, (by first | rfl | exact flat_map _ (fun _ => rfl) _)⟩) (by first | rfl | simp | omega) (by omega) (by decide) (by decide) (by decide) ?_)
        refine list_cons rfl (op_q (q_assign rfl (by decide)) ?_)
        refine list_nil ?_
        refine blk_n ?_
        refine hK9 _ ?_; clear hK9 K9
        refine codeT.imp (σ' := [(0, _), (4, _), (5, _), (6, _), (7, _), (8, _)]) ?_ (imp_covers ⟨rfl, rfl, rfl, rfl, rfl, rfl, trivial⟩)
        refine code_region ?_
        refine list_cons rfl (op_q (q_move rfl (by decide)) ?_)
        refine list_cons rfl (op_q (by first | exact q_subI rfl rfl (by decide) (by omega) (by omega) | exact q_ib rfl rfl rfl (by decide)) ?_)
        refine list_cons rfl (op_q (q_assign rfl (by decide)) ?_)
        refine list_nil ?_
        refine then_n ⟨(_, _, _, _), imp_covers ⟨rfl, rfl, rfl, rfl, rfl, trivial⟩, ?_, ?_⟩
        · (try dsimp only)
          first | (refine ⟨by omega, _, _, fr ++ [(_, _)], rfl, by simp, fl_snocB fr _ _, by omega, ?_, ?_⟩ <;> simp only [List.length_append, List.length_cons, List.length_nil] <;> omega)
        · (try dsimp only); omega
      (try simp only [Decidable.not_not] at h2)
      refine code_skip ?_
      refine hK11 _ ?_; clear hK11 K11
      refine code_region ?_
      refine list_cons rfl (op_q (q_move rfl (by decide)) ?_)
      refine list_cons rfl (op_q (q_load_agg agg_62 8 (.inr ⟨rfl, _, rfl⟩) rfl rfl (by first | decide | omega | exact Nat.le_refl _ | (simp; done) | (simp; omega)) (by first | rfl | exact flat_part (flat_map _ (fun _ => rfl) _) _ _) (by decide)) ?_)
      refine list_cons rfl (op_buildSlice sl_24 (parts := [(0, .tmp 41)]) rfl rfl rfl (by decide) (by decide) (by decide) (by kernel_rfl) ?_)
      refine list_cons rfl (op_append_gen sl_24 (l := 12) (.inl rfl) rfl rfl (l2 := none) (.inl ⟨rfl, (by first | rfl | exact flat_map _ (fun _ => rfl) _)⟩) (by first | rfl | simp | omega) (by omega) (by decide) (by decide) (by decide) ?_)
      refine list_cons rfl (op_q (q_assign rfl (by decide)) ?_)
      refine list_nil ?_
      refine blk_n ?_
      refine hK9 _ ?_; clear hK9 K9
      refine codeT.imp (σ' := [(0, _), (4, _), (5, _), (6, _), (7, _), (8, _)]) ?_ (imp_covers ⟨rfl, rfl, rfl, rfl, rfl, rfl, trivial⟩)
      refine code_region ?_
      refine list_cons rfl (op_q (q_move rfl (by decide)) ?_)
      refine list_cons rfl (op_q (by first | exact q_subI rfl rfl (by decide) (by omega) (by omega) | exact q_ib rfl rfl rfl (by decide)) ?_)
      refine list_cons rfl (op_q (q_assign rfl (by decide)) ?_)
      refine list_nil ?_
      refine then_n ⟨(_, _, _, _), imp_covers ⟨rfl, rfl, rfl, rfl, rfl, trivial⟩, ?_, ?_⟩
      · (try dsimp only)
        first | (refine ⟨by omega, _, _, fr ++ [(_, _)], rfl, by simp, fl_snocB fr _ _, by omega, ?_, ?_⟩ <;> simp only [List.length_append, List.length_cons, List.length_nil] <;> omega)
      · (try dsimp only); omega
    (try simp only [Decidable.not_not] at h1)
    refine code_exit ?_
    refine then_x ?_; clear hK7 K7
    refine then_x ?_
    refine blk_hit ?_
    refine hK5 _ ?_; clear hK5 K5
    refine code_seq (fun K13 hK13 => ?_)
    refine code_seq (fun K14 hK14 => ?_)
    refine code_region ?_
    refine list_cons rfl (op_q (q_move rfl (by decide)) ?_)
    refine list_cons rfl (op_callM (pick_c code ?_ _ _ ?_ ?_ _) (.tmp 44) 2000 [0, 44] [_] _ rfl rfl (by intro y hy; cases hy; exact ⟨rfl, (by intro t ht; simp only [List.mem_cons, List.not_mem_nil, or_false] at ht; rcases ht with rfl | rfl <;> rfl), (by intro s hs; simp only [List.mem_cons, List.not_mem_nil, or_false] at hs; subst hs; first | (simp [SV.labels]; done) | (simp [SV.labels, packS, SV.back]; done) | exact List.not_mem_nil)⟩) (by decide) (by decide) (by decide) (by kernel_rfl) (fun _ => rfl) ?_)
    · first | assumption | omega | (simp; omega)
    · first | assumption | omega | (simp; omega)
    · first | assumption | omega | (simp; omega)
    rintro _ _ ⟨b5, a2, s2, hb0, hb1, ha0, ha1, rfl, rfl⟩
    refine list_nil ?_
    refine hK14 _ ?_; clear hK14 K14
    refine codeT.imp (σ' := [(0, _), (4, _), (5, _), (6, _), (7, _), (45, _)]) ?_ (imp_covers ⟨rfl, rfl, rfl, rfl, rfl, rfl, trivial⟩)
    refine code_block ?_
    refine code_seq (fun K15 hK15 => ?_)
    refine code_region ?_
    refine list_cons rfl (op_q (q_eq rfl rfl (by decide)) ?_)
    refine list_cons rfl (op_q (q_assign rfl (by decide)) ?_)
    refine list_nil ?_
    refine hK15 _ ?_; clear hK15 K15
    refine code_cond_d rfl (fun h3 => ?_) (fun h3 => ?_)
    · skip
      (try simp only [Decidable.not_not] at h3)
      refine code_region ?_
      refine list_cons rfl (op_q (q_move rfl (by decide)) ?_)
      refine list_cons rfl (op_q (q_move rfl (by decide)) ?_)
      refine list_cons rfl (op_q (by first | exact q_shl1 rfl rfl (by decide) (by omega) (by omega) | exact q_shlI rfl rfl (by decide) (by omega) (by omega) (by omega) | exact q_shl rfl rfl (by omega) (by decide)) ?_)
      refine list_cons rfl (op_q (q_build bt_62 (parts := [(0, .tmp 50)]) rfl rfl (by decide)) ?_)
      refine list_cons rfl (op_buildSlice sl_24 (parts := [(0, .tmp 51)]) rfl rfl rfl (by decide) (by decide) (by decide) (by kernel_rfl) ?_)
      refine list_cons rfl (op_append_gen sl_24 (l := 12) (.inl rfl) rfl rfl (l2 := none) (.inl ⟨rfl, (by first | rfl | exact flat_map _ (fun _ => rfl) _)⟩) (by first | rfl | simp | omega) (by omega) (by decide) (by decide) (by decide) ?_)
      refine list_cons rfl (op_q (q_assign rfl (by decide)) ?_)
      refine list_nil ?_
      refine blk_n ?_
      refine hK13 _ ?_; clear hK13 K13
      refine codeT.imp (σ' := [(0, _), (4, _), (5, _), (6, _), (7, _), (45, _)]) ?_ (imp_covers ⟨rfl, rfl, rfl, rfl, rfl, rfl, trivial⟩)
      refine code_seq (fun K16 hK16 => ?_)
      refine code_region ?_
      refine list_cons rfl (op_q (q_move rfl (by decide)) ?_)
      refine list_cons rfl (op_q (q_move rfl (by decide)) ?_)
      refine list_cons rfl (op_q (q_assign rfl (by decide)) ?_)
      refine list_cons rfl (op_q (q_assign rfl (by decide)) ?_)
      refine list_nil ?_
      refine hK16 _ ?_; clear hK16 K16
      refine code_ret ?_
      refine ends_ret (cs := _) rfl rfl rfl rfl rfl ?_
      first
        | exact ⟨k, fr, _, _, by omega, by omega, by omega, rfl, rfl⟩
        | (refine ⟨k, fr ++ [(((p2 top.toNat : Nat) : Int), 0)], _, _, by simp only [List.length_append, List.length_cons, List.length_nil]; omega, by omega, by omega, ?_, rfl⟩
           rw [← fl_snocB, List.length_append]; rfl)
        | (refine ⟨k, fr ++ [(0, ww)], _, _, by simp only [List.length_append, List.length_cons, List.length_nil]; omega, by omega, by omega, ?_, rfl⟩
           rw [← fl_snocB, List.length_append]; rfl)
    (try simp only [Decidable.not_not] at h3)
    refine code_seq (fun K17 hK17 => ?_)
    refine code_region ?_
    refine list_cons rfl (op_q (q_eq rfl rfl (by decide)) ?_)
    refine list_cons rfl (op_q (q_assign rfl (by decide)) ?_)
    refine list_nil ?_
    refine hK17 _ ?_; clear hK17 K17
    refine code_cond_d rfl (fun h4 => ?_) (fun h4 => ?_)
    · skip
      (try simp only [Decidable.not_not] at h4)
      refine code_region ?_
      refine list_cons rfl (op_q (q_move rfl (by decide)) ?_)
      refine list_cons rfl (op_q (q_move rfl (by decide)) ?_)
      refine list_cons rfl (op_buildSlice sl_27 (parts := [(0, _), (1, _)]) rfl rfl rfl (by decide) (by decide) (by decide) (by kernel_rfl) ?_)
      refine list_cons rfl (op_callM (among_c code ?_ _ _ ?_ ?_ ([128, -1]) (by decide) (by decide)) (.tmp 57) 2000 [0, 57] [.tmp 58] _ rfl rfl (by intro y hy; cases hy; exact ⟨rfl, (by intro t ht; simp only [List.mem_cons, List.not_mem_nil, or_false] at ht; rcases ht with rfl | rfl <;> rfl), (by intro s hs; simp only [List.mem_cons, List.not_mem_nil, or_false] at hs; subst hs; first | (simp [SV.labels]; done) | (simp [SV.labels, packS, SV.back]; done) | exact List.not_mem_nil)⟩) (by decide) (by decide) (by decide) (by kernel_rfl) (fun _ => rfl) ?_)
      · first | assumption | omega | (simp; omega)
      · first | assumption | omega | (simp; omega)
      · first | assumption | omega | (simp; omega)
      rintro _ _ ⟨ww, a2, s2, hx, ha0, ha1, rfl, rfl⟩
      have hww : -1 ≤ ww ∧ ww ≤ 128 := of_decide_eq_true (List.all_eq_true.1 (show List.all ([128, -1]) (fun (y : Int) => decide (-1 ≤ y ∧ y ≤ 128)) = true by decide) _ hx)
      clear hx
      refine list_cons rfl (op_q (q_build bt_62 (parts := [(1, .tmp 59)]) rfl rfl (by decide)) ?_)
      refine list_cons rfl (op_buildSlice sl_24 (parts := [(0, .tmp 60)]) rfl rfl rfl (by decide) (by decide) (by decide) (by kernel_rfl) ?_)
      refine list_cons rfl (op_append_gen sl_24 (l := 12) (.inl rfl) rfl rfl (l2 := none) (.inl ⟨rfl, (by first | rfl | exact flat_map _ (fun _ => rfl) _)⟩) (by first | rfl | simp | omega) (by omega) (by decide) (by decide) (by decide) ?_)
      refine list_cons rfl (op_q (q_assign rfl (by decide)) ?_)
      refine list_nil ?_
      refine blk_n ?_
      refine hK13 _ ?_; clear hK13 K13
      refine codeT.imp (σ' := [(0, _), (4, _), (5, _), (6, _), (7, _), (45, _)]) ?_ (imp_covers ⟨rfl, rfl, rfl, rfl, rfl, rfl, trivial⟩)
      refine code_seq (fun K18 hK18 => ?_)
      refine code_region ?_
      refine list_cons rfl (op_q (q_move rfl (by decide)) ?_)
      refine list_cons rfl (op_q (q_move rfl (by decide)) ?_)
      refine list_cons rfl (op_q (q_assign rfl (by decide)) ?_)
      refine list_cons rfl (op_q (q_assign rfl (by decide)) ?_)
      refine list_nil ?_
      refine hK18 _ ?_; clear hK18 K18
      refine code_ret ?_
      refine ends_ret (cs := _) rfl rfl rfl rfl rfl ?_
      first
        | exact ⟨k, fr, _, _, by omega, by omega, by omega, rfl, rfl⟩
        | (refine ⟨k, fr ++ [(((p2 top.toNat : Nat) : Int), 0)], _, _, by simp only [List.length_append, List.length_cons, List.length_nil]; omega, by omega, by omega, ?_, rfl⟩
           rw [← fl_snocB, List.length_append]; rfl)
        | (refine ⟨k, fr ++ [(0, ww)], _, _, by simp only [List.length_append, List.length_cons, List.length_nil]; omega, by omega, by omega, ?_, rfl⟩
           rw [← fl_snocB, List.length_append]; rfl)
    (try simp only [Decidable.not_not] at h4)
    refine code_seq (fun K19 hK19 => ?_)
    refine code_region ?_
    refine list_cons rfl (op_q (q_eq rfl rfl (by decide)) ?_)
    refine list_cons rfl (op_q (q_assign rfl (by decide)) ?_)
    refine list_nil ?_
    refine hK19 _ ?_; clear hK19 K19
    refine code_cond_d rfl (fun h5 => ?_) (fun h5 => ?_)
    · skip
      (try simp only [Decidable.not_not] at h5)
      refine code_block ?_
      refine code_loop (X := List PV × Nat × List PV × Int × Int × Int) (fun x => [(0, .box 2000 77 x.1), (4, .val (.int .i64 k)), (5, .own 12 62 2 x.2.1 x.2.2.1), (6, .val (.int .i64 x.2.2.2.1)), (7, .val (.int .i64 x.2.2.2.2.1)), (45, .val (.int .i64 x.2.2.2.2.2))]) (fun x => ∃ (a1 s1 : Int) (fr : List (Int × Int)), x.1 = [.sl code.length (bytesP code), .int .i64 a1, .int .u64 s1] ∧ x.2.1 = fr.length ∧ x.2.2.1 = fl fr ∧ a ≤ a1 ∧ a1 ≤ a + 120 ∧ fr.length ≤ 13) (fun x => 13 - x.2.1) (_, _, _, _, _, _) (imp_covers ⟨rfl, rfl, rfl, rfl, rfl, rfl, trivial⟩) ?_ ?_
      · (try dsimp only)
        exact ⟨_, _, fr, rfl, rfl, rfl, by omega, by omega, by omega⟩
      · intro x hI
        obtain ⟨c_c, out_n, out_c, top, n, t45⟩ := x
        replace hI : ∃ (a1 s1 : Int) (fr : List (Int × Int)), c_c = [.sl code.length (bytesP code), .int .i64 a1, .int .u64 s1] ∧ out_n = fr.length ∧ out_c = fl fr ∧ a ≤ a1 ∧ a1 ≤ a + 120 ∧ fr.length ≤ 13 := hI
        show codeT _ _ _ [(0, .box 2000 77 c_c), (4, .val (.int .i64 k)), (5, .own 12 62 2 out_n out_c), (6, .val (.int .i64 top)), (7, .val (.int .i64 n)), (45, .val (.int .i64 t45))] _
        obtain ⟨a1, s1, fr, rfl, rfl, rfl, i1, i2, i3⟩ := hI
        refine code_seq (fun K20 hK20 => ?_)
        refine code_seq (fun K21 hK21 => ?_)
        refine code_region ?_
        refine list_cons rfl (op_q (q_move rfl (by decide)) ?_)
        refine list_cons rfl (op_q (q_len_sl Try.underlying24 rfl rfl (by decide)) ?_)
        refine list_cons rfl (op_q (q_lt rfl rfl (by decide)) ?_)
        refine list_nil ?_
        refine hK21 _ ?_; clear hK21 K21
        refine code_cond_d rfl (fun h6 => ?_) (fun h6 => ?_)
        · skip
          (try simp only [Decidable.not_not] at h6)
          refine code_skip ?_
          refine hK20 _ ?_; clear hK20 K20
          refine code_block ?_
          refine code_region ?_
          refine list_cons rfl (op_q (q_move rfl (by decide)) ?_)
          refine list_cons rfl (op_q (q_build bt_62 (parts := [(0, _), (1, _)]) rfl rfl (by decide)) ?_)
          refine list_cons rfl (op_buildSlice sl_24 (parts := [(0, .tmp 69)]) rfl rfl rfl (by decide) (by decide) (by decide) (by kernel_rfl) ?_)
          refine list_cons rfl (op_append_gen sl_24 (l := 12) (.inl rfl) rfl rfl (l2 := none) (.inl ⟨rfl, (by first | rfl | exact flat_map _ (fun _ => rfl) _)⟩) (by first | rfl | simp | omega) (by omega) (by decide) (by decide) (by decide) ?_)
          refine list_cons rfl (op_q (q_assign rfl (by decide)) ?_)
          refine list_nil ?_
          refine blk_n ?_
          refine then_n ⟨(_, _, _, _, _, _), imp_covers ⟨rfl, rfl, rfl, rfl, rfl, rfl, trivial⟩, ?_, ?_⟩
          · (try dsimp only)
            first | (refine ⟨_, _, fr ++ [(_, _)], rfl, by simp, fl_snocB fr _ _, by omega, by omega, ?_⟩ <;> simp only [List.length_append, List.length_cons, List.length_nil] <;> omega)
          · (try dsimp only); omega
        (try simp only [Decidable.not_not] at h6)
        refine code_exit ?_
        refine then_x ?_; clear hK20 K20
        refine then_x ?_
        refine blk_hit ?_
        refine blk_n ?_
        refine hK13 _ ?_; clear hK13 K13
        refine codeT.imp (σ' := [(0, _), (4, _), (5, _), (6, _), (7, _), (45, _)]) ?_ (imp_covers ⟨rfl, rfl, rfl, rfl, rfl, rfl, trivial⟩)
        refine code_seq (fun K22 hK22 => ?_)
        refine code_region ?_
        refine list_cons rfl (op_q (q_move rfl (by decide)) ?_)
        refine list_cons rfl (op_q (q_move rfl (by decide)) ?_)
        refine list_cons rfl (op_q (q_assign rfl (by decide)) ?_)
        refine list_cons rfl (op_q (q_assign rfl (by decide)) ?_)
        refine list_nil ?_
        refine hK22 _ ?_; clear hK22 K22
        refine code_ret ?_
        refine ends_ret (cs := _) rfl rfl rfl rfl rfl ?_
        first
          | exact ⟨k, fr, _, _, by omega, by omega, by omega, rfl, rfl⟩
          | (refine ⟨k, fr ++ [(((p2 top.toNat : Nat) : Int), 0)], _, _, by simp only [List.length_append, List.length_cons, List.length_nil]; omega, by omega, by omega, ?_, rfl⟩
             rw [← fl_snocB, List.length_append]; rfl)
          | (refine ⟨k, fr ++ [(0, ww)], _, _, by simp only [List.length_append, List.length_cons, List.length_nil]; omega, by omega, by omega, ?_, rfl⟩
             rw [← fl_snocB, List.length_append]; rfl)
    (try simp only [Decidable.not_not] at h5)
    refine code_seq (fun K23 hK23 => ?_)
    refine code_region ?_
    refine list_cons rfl (op_q (q_eq rfl rfl (by decide)) ?_)
    refine list_cons rfl (op_q (q_assign rfl (by decide)) ?_)
    refine list_nil ?_
    refine hK23 _ ?_; clear hK23 K23
    refine codeT.imp (σ' := [(0, _), (4, _), (5, _), (6, _), (7, _), (45, _), (72, _)]) ?_ (imp_covers ⟨rfl, rfl, rfl, rfl, rfl, rfl, rfl, trivial⟩)
    refine code_cond_d rfl (fun h7 => ?_) (fun h7 => ?_)
    · skip
      (try simp only [Decidable.not_not] at h7)
      refine code_block ?_
      refine code_loop (X := List PV × Nat × List PV × Int × Int × Int) (fun x => [(0, .box 2000 77 x.1), (4, .val (.int .i64 k)), (5, .own 12 62 2 x.2.1 x.2.2.1), (6, .val (.int .i64 x.2.2.2.1)), (7, .val (.int .i64 x.2.2.2.2.1)), (45, .val (.int .i64 x.2.2.2.2.2))]) (fun x => ∃ (a1 s1 : Int) (fr : List (Int × Int)), x.1 = [.sl code.length (bytesP code), .int .i64 a1, .int .u64 s1] ∧ x.2.1 = fr.length ∧ x.2.2.1 = fl fr ∧ a ≤ a1 ∧ a1 ≤ a + 120 ∧ fr.length ≤ 13) (fun x => 8 - x.2.1) (_, _, _, _, _, _) (imp_covers ⟨rfl, rfl, rfl, rfl, rfl, rfl, trivial⟩) ?_ ?_
      · (try dsimp only)
        exact ⟨_, _, fr, rfl, rfl, rfl, by omega, by omega, by omega⟩
      · intro x hI
        obtain ⟨c_c, out_n, out_c, top, n, t45⟩ := x
        replace hI : ∃ (a1 s1 : Int) (fr : List (Int × Int)), c_c = [.sl code.length (bytesP code), .int .i64 a1, .int .u64 s1] ∧ out_n = fr.length ∧ out_c = fl fr ∧ a ≤ a1 ∧ a1 ≤ a + 120 ∧ fr.length ≤ 13 := hI
        show codeT _ _ _ [(0, .box 2000 77 c_c), (4, .val (.int .i64 k)), (5, .own 12 62 2 out_n out_c), (6, .val (.int .i64 top)), (7, .val (.int .i64 n)), (45, .val (.int .i64 t45))] _
        obtain ⟨a1, s1, fr, rfl, rfl, rfl, i1, i2, i3⟩ := hI
        refine code_seq (fun K24 hK24 => ?_)
        refine code_seq (fun K25 hK25 => ?_)
        refine code_region ?_
        refine list_cons rfl (op_q (q_move rfl (by decide)) ?_)
        refine list_cons rfl (op_q (q_len_sl Try.underlying24 rfl rfl (by decide)) ?_)
        refine list_cons rfl (op_q (q_lt rfl rfl (by decide)) ?_)
        refine list_nil ?_
        refine hK25 _ ?_; clear hK25 K25
        refine code_cond_d rfl (fun h8 => ?_) (fun h8 => ?_)
        · skip
          (try simp only [Decidable.not_not] at h8)
          refine code_skip ?_
          refine hK24 _ ?_; clear hK24 K24
          refine code_block ?_
          refine code_region ?_
          refine list_cons rfl (op_q (q_move rfl (by decide)) ?_)
          refine list_cons rfl (op_q (q_build bt_62 (parts := [(0, _), (1, _)]) rfl rfl (by decide)) ?_)
          refine list_cons rfl (op_buildSlice sl_24 (parts := [(0, .tmp 78)]) rfl rfl rfl (by decide) (by decide) (by decide) (by kernel_rfl) ?_)
          refine list_cons rfl (op_append_gen sl_24 (l := 12) (.inl rfl) rfl rfl (l2 := none) (.inl ⟨rfl, (by first | rfl | exact flat_map _ (fun _ => rfl) _)⟩) (by first | rfl | simp | omega) (by omega) (by decide) (by decide) (by decide) ?_)
          refine list_cons rfl (op_q (q_assign rfl (by decide)) ?_)
          refine list_nil ?_
          refine blk_n ?_
          refine then_n ⟨(_, _, _, _, _, _), imp_covers ⟨rfl, rfl, rfl, rfl, rfl, rfl, trivial⟩, ?_, ?_⟩
          · (try dsimp only)
            first | (refine ⟨_, _, fr ++ [(_, _)], rfl, by simp, fl_snocB fr _ _, by omega, by omega, ?_⟩ <;> simp only [List.length_append, List.length_cons, List.length_nil] <;> omega)
          · (try dsimp only); omega
        (try simp only [Decidable.not_not] at h8)
        refine code_exit ?_
        refine then_x ?_; clear hK24 K24
        refine then_x ?_
        refine blk_hit ?_
        refine blk_n ?_
        refine hK13 _ ?_; clear hK13 K13
        refine codeT.imp (σ' := [(0, _), (4, _), (5, _), (6, _), (7, _), (45, _)]) ?_ (imp_covers ⟨rfl, rfl, rfl, rfl, rfl, rfl, trivial⟩)
        refine code_seq (fun K26 hK26 => ?_)
        refine code_region ?_
        refine list_cons rfl (op_q (q_move rfl (by decide)) ?_)
        refine list_cons rfl (op_q (q_move rfl (by decide)) ?_)
        refine list_cons rfl (op_q (q_assign rfl (by decide)) ?_)
        refine list_cons rfl (op_q (q_assign rfl (by decide)) ?_)
        refine list_nil ?_
        refine hK26 _ ?_; clear hK26 K26
        refine code_ret ?_
        refine ends_ret (cs := _) rfl rfl rfl rfl rfl ?_
        first
          | exact ⟨k, fr, _, _, by omega, by omega, by omega, rfl, rfl⟩
          | (refine ⟨k, fr ++ [(((p2 top.toNat : Nat) : Int), 0)], _, _, by simp only [List.length_append, List.length_cons, List.length_nil]; omega, by omega, by omega, ?_, rfl⟩
             rw [← fl_snocB, List.length_append]; rfl)
          | (refine ⟨k, fr ++ [(0, ww)], _, _, by simp only [List.length_append, List.length_cons, List.length_nil]; omega, by omega, by omega, ?_, rfl⟩
             rw [← fl_snocB, List.length_append]; rfl)
    (try simp only [Decidable.not_not] at h7)
    refine code_skip ?_
    refine blk_n ?_
    refine hK13 _ ?_; clear hK13 K13
    refine code_seq (fun K27 hK27 => ?_)
    refine code_region ?_
    refine list_cons rfl (op_q (q_move rfl (by decide)) ?_)
    refine list_cons rfl (op_q (q_move rfl (by decide)) ?_)
    refine list_cons rfl (op_q (q_assign rfl (by decide)) ?_)
    refine list_cons rfl (op_q (q_assign rfl (by decide)) ?_)
    refine list_nil ?_
    refine hK27 _ ?_; clear hK27 K27
    refine code_ret ?_
    refine ends_ret (cs := _) rfl rfl rfl rfl rfl ?_
    first
      | exact ⟨k, fr, _, _, by omega, by omega, by omega, rfl, rfl⟩
      | (refine ⟨k, fr ++ [(((p2 top.toNat : Nat) : Int), 0)], _, _, by simp only [List.length_append, List.length_cons, List.length_nil]; omega, by omega, by omega, ?_, rfl⟩
         rw [← fl_snocB, List.length_append]; rfl)
      | (refine ⟨k, fr ++ [(0, ww)], _, _, by simp only [List.length_append, List.length_cons, List.length_nil]; omega, by omega, by omega, ?_, rfl⟩
         rw [← fl_snocB, List.length_append]; rfl)
set_option maxRecDepth 4000 in
set_option maxHeartbeats 1500000 in
theorem DrawIsFrame_c (code : List UInt8) (hcode : code.length ≤ 9223372036854775807) : MCalls Try.prog 41 true none [.sl code.length (bytesP code)] fun rs _ => ∃ (k : Int) (fr : List (Int × Int)), fr.length ≤ 13 ∧ rs = [.val (.int .i64 k), .own 1 62 2 (fr).length (fl (fr))] := by
  refine mcalls_of_code (n := 12) az Try.func41 (by kernel_rfl) rfl rfl (Nat.le_of_ble_eq_true rfl) (by intro t u h; simp [Try.f41] at h) ?_
  refine code_seq (fun K1 hK1 => ?_)
  refine code_region ?_
  refine list_cons rfl (op_q (q_assign rfl (by decide)) ?_)
  refine list_cons rfl (op_q (q_assign rfl (by decide)) ?_)
  refine list_nil ?_
  refine hK1 _ ?_; clear hK1 K1
  refine code_seq (fun K2 hK2 => ?_)
  refine code_region ?_
  refine list_cons rfl (op_q (q_move rfl (by decide)) ?_)
  refine list_cons rfl (op_q (q_build_ext bt_77 (parts := [(0, .tmp 5)]) rfl rfl (by decide)) ?_)
  refine list_cons rfl (op_box rfl (.inr rfl) (by decide) (by decide) rfl ?_)
  refine list_cons rfl (op_q (q_assign rfl (by decide)) ?_)
  refine list_nil ?_
  refine hK2 _ ?_; clear hK2 K2
  refine code_seq (fun K3 hK3 => ?_)
  refine code_region ?_
  refine list_cons rfl (op_q (q_move rfl (by decide)) ?_)
  refine list_cons rfl (op_callM (frame_c code ?_ _ _ ?_ ?_) (.tmp 8) 7 [7, 4, 8] [] _ rfl rfl (by intro y hy; cases hy; exact ⟨rfl, (by intro t ht; simp only [List.mem_cons, List.not_mem_nil, or_false] at ht; rcases ht with rfl | rfl | rfl <;> rfl), (by intro s hs; simp only [List.mem_cons, List.not_mem_nil, or_false] at hs; (try cases hs))⟩) (by decide) (by decide) (by decide) rfl (fun _ => rfl) ?_)
  · first | assumption | omega | (simp; omega)
  · first | assumption | omega | (simp; omega)
  · first | assumption | omega | (simp; omega)
  rintro _ _ ⟨k, fr, a2, s2, hf13, ha0, ha1, rfl, rfl⟩
  have hfl := fl_len fr
  refine list_cons rfl (op_q (q_extract rfl rfl (by decide)) ?_)
  refine list_cons rfl (op_q (q_extract rfl rfl (by decide)) ?_)
  refine list_cons rfl (op_q (q_assign rfl (by decide)) ?_)
  refine list_cons rfl (op_q (q_assign rfl (by decide)) ?_)
  refine list_nil ?_
  refine hK3 _ ?_; clear hK3 K3
  refine codeT.imp (σ' := [(0, _), (2, _), (3, _), (4, _)]) ?_ (imp_covers ⟨rfl, rfl, rfl, rfl, trivial⟩)
  refine code_ret ?_
  refine ends_ret (cs := []) rfl rfl rfl rfl trivial ?_
  first | exact ⟨k, fr, by omega, rfl⟩
set_option maxRecDepth 4000 in
set_option maxHeartbeats 1500000 in
theorem DrawSeenOf_c (code : List UInt8) (hcode : code.length ≤ 9223372036854775807) : MCalls Try.prog 6 true none [.sl code.length (bytesP code)] fun rs _ => ∃ (k : Int) (fr : List (Int × Int)), fr.length ≤ 13 ∧ rs = [.val (.int .i64 k), .own 1 62 2 (fr).length (fl (fr))] := by
  refine mcalls_of_code (n := 8) az Try.func6 (by kernel_rfl) rfl rfl (Nat.le_of_ble_eq_true rfl) (by intro t u h; simp [Try.f6] at h) ?_
  refine code_seq (fun K1 hK1 => ?_)
  refine code_region ?_
  refine list_cons rfl (op_q (q_assign rfl (by decide)) ?_)
  refine list_cons rfl (op_q (q_assign rfl (by decide)) ?_)
  refine list_nil ?_
  refine hK1 _ ?_; clear hK1 K1
  refine code_seq (fun K2 hK2 => ?_)
  refine code_region ?_
  refine list_cons rfl (op_q (q_move rfl (by decide)) ?_)
  refine list_cons rfl (op_callM (DrawIsFrame_c _ ?_) (.tmp 0) 0 [] [.tmp 4] _ rfl rfl (by intro y hy; cases hy) (by decide) (by decide) (by decide) rfl (by intro h; cases h) ?_)
  · first | assumption | omega | (simp; omega)
  rintro _ _ ⟨k, fr, hf13, rfl⟩
  refine list_cons rfl (op_q (q_extract rfl rfl (by decide)) ?_)
  refine list_cons rfl (op_q (q_extract rfl rfl (by decide)) ?_)
  refine list_cons rfl (op_q (q_assign rfl (by decide)) ?_)
  refine list_cons rfl (op_q (q_assign rfl (by decide)) ?_)
  refine list_nil ?_
  refine hK2 _ ?_; clear hK2 K2
  refine codeT.imp (σ' := [(0, _), (2, _), (3, _)]) ?_ (imp_covers ⟨rfl, rfl, rfl, trivial⟩)
  refine code_ret ?_
  refine ends_ret (cs := []) rfl rfl rfl rfl trivial ?_
  first | exact ⟨k, fr, by omega, rfl⟩
set_option maxRecDepth 4000 in
set_option maxHeartbeats 1500000 in
theorem DrawPlainFrame_c (code : List UInt8) (hcode : code.length ≤ 9223372036854775807) : MCalls Try.prog 20 true none [.sl code.length (bytesP code)] fun rs _ => ∃ l : List Int, l.length ≤ 7 ∧ rs = [.own 0 3 1 l.length (l.map (.int .i64))] := by
  refine mcalls_of_code (n := 5) az Try.func20 (by kernel_rfl) rfl rfl (Nat.le_of_ble_eq_true rfl) (by intro t u h; simp [Try.f20] at h) ?_
  refine code_seq (fun K1 hK1 => ?_)
  refine code_region ?_
  refine list_cons rfl (op_q (q_assign rfl (by decide)) ?_)
  refine list_nil ?_
  refine hK1 _ ?_; clear hK1 K1
  refine code_seq (fun K2 hK2 => ?_)
  refine code_region ?_
  refine list_cons rfl (op_q (q_move rfl (by decide)) ?_)
  refine list_cons rfl (op_callM (DrawNumberOf_c _ ?_) (.tmp 0) 0 [] [.tmp 3] _ rfl rfl (by intro y hy; cases hy) (by decide) (by decide) (by decide) rfl (by intro h; cases h) ?_)
  · first | assumption | omega | (simp; omega)
  rintro _ _ ⟨r, hr1, rfl⟩
  refine list_cons rfl (op_q (q_assign rfl (by decide)) ?_)
  refine list_nil ?_
  refine hK2 _ ?_; clear hK2 K2
  refine codeT.imp (σ' := [(0, _), (2, _)]) ?_ (imp_covers ⟨rfl, rfl, trivial⟩)
  refine code_ret ?_
  refine ends_ret (cs := []) rfl rfl rfl rfl trivial ?_
  first | exact ⟨_, hl1, rfl⟩ | exact ⟨_, hr1, rfl⟩ | exact ⟨_, by omega, rfl⟩
set_option maxRecDepth 4000 in
set_option maxHeartbeats 1500000 in
theorem DrawLeastSlots_c (code : List UInt8) (hcode : code.length ≤ 9223372036854775807) : MCalls Try.prog 23 true none [.sl code.length (bytesP code)] fun rs _ => ∃ l : List Int, l.length ≤ 7 ∧ rs = [.own 0 3 1 l.length (l.map (.int .i64))] := by
  refine mcalls_of_code (n := 28) az Try.func23 (by kernel_rfl) rfl rfl (Nat.le_of_ble_eq_true rfl) (by intro t u h; simp [Try.f23] at h) ?_
  refine code_seq (fun K1 hK1 => ?_)
  refine code_region ?_
  refine list_cons rfl (op_q (q_assign rfl (by decide)) ?_)
  refine list_nil ?_
  refine hK1 _ ?_; clear hK1 K1
  refine code_seq (fun K2 hK2 => ?_)
  refine code_region ?_
  refine list_cons rfl (op_q (q_move rfl (by decide)) ?_)
  refine list_cons rfl (op_q (q_build_ext bt_77 (parts := [(0, .tmp 6)]) rfl rfl (by decide)) ?_)
  refine list_cons rfl (op_box rfl (.inr rfl) (by decide) (by decide) rfl ?_)
  refine list_cons rfl (op_q (q_assign rfl (by decide)) ?_)
  refine list_nil ?_
  refine hK2 _ ?_; clear hK2 K2
  refine code_seq (fun K3 hK3 => ?_)
  refine code_seq (fun K4 hK4 => ?_)
  refine code_region ?_
  refine list_cons rfl (op_q (q_move rfl (by decide)) ?_)
  refine list_cons rfl (op_callM (one_c code ?_ _ _ ?_ ?_ _) (.tmp 9) 8 [8, 3, 9] [_] _ rfl rfl (by intro y hy; cases hy; exact ⟨rfl, (by intro t ht; simp only [List.mem_cons, List.not_mem_nil, or_false] at ht; rcases ht with rfl | rfl | rfl <;> rfl), (by intro s hs; simp only [List.mem_cons, List.not_mem_nil, or_false] at hs; subst hs; first | (simp [SV.labels]; done) | (simp [SV.labels, packS, SV.back]; done) | exact List.not_mem_nil)⟩) (by decide) (by decide) (by decide) rfl (fun _ => rfl) ?_)
  · first | assumption | omega | (simp; omega)
  · first | assumption | omega | (simp; omega)
  · first | assumption | omega | (simp; omega)
  rintro _ _ ⟨o, a2, s2, ha0, ha1, rfl, rfl⟩
  refine list_nil ?_
  refine hK4 _ ?_; clear hK4 K4
  refine codeT.imp (σ' := [(0, _), (2, _), (3, _), (10, _)]) ?_ (imp_covers ⟨rfl, rfl, rfl, rfl, trivial⟩)
  refine code_cond_d rfl (fun h1 => ?_) (fun h1 => ?_)
  · skip
    (try simp only [Decidable.not_not] at h1)
    refine code_seq (fun K5 hK5 => ?_)
    refine code_region ?_
    refine list_cons rfl (op_buildSlice sl_27 (parts := []) rfl rfl rfl (by decide) (by decide) (by decide) rfl ?_)
    refine list_cons rfl (op_q (q_assign rfl (by decide)) ?_)
    refine list_nil ?_
    refine hK5 _ ?_; clear hK5 K5
    refine code_seq (fun K6 hK6 => ?_)
    refine code_seq (fun K7 hK7 => ?_)
    refine code_region ?_
    refine list_cons rfl (op_q (q_move rfl (by decide)) ?_)
    refine list_cons rfl (op_callM (pick_c code ?_ _ _ ?_ ?_ _) (.tmp 12) 8 [3, 12] [_] _ rfl rfl (by intro y hy; cases hy; exact ⟨rfl, (by intro t ht; simp only [List.mem_cons, List.not_mem_nil, or_false] at ht; rcases ht with rfl | rfl <;> rfl), (by intro s hs; simp only [List.mem_cons, List.not_mem_nil, or_false] at hs; subst hs; first | (simp [SV.labels]; done) | (simp [SV.labels, packS, SV.back]; done) | exact List.not_mem_nil)⟩) (by decide) (by decide) (by decide) rfl (fun _ => rfl) ?_)
    · first | assumption | omega | (simp; omega)
    · first | assumption | omega | (simp; omega)
    · first | assumption | omega | (simp; omega)
    rintro _ _ ⟨n0, a2, s2, hb0, hb1, ha0, ha1, rfl, rfl⟩
    refine list_cons rfl (op_q (by first | exact q_addI rfl rfl (by decide) (by omega) (by omega) | exact q_ib rfl rfl rfl (by decide)) ?_)
    refine list_cons rfl (op_q (q_assign rfl (by decide)) ?_)
    refine list_nil ?_
    refine hK7 _ ?_; clear hK7 K7
    refine codeT.imp (σ' := [(0, _), (2, _), (3, _), (4, _), (5, _)]) ?_ (imp_covers ⟨rfl, rfl, rfl, rfl, rfl, trivial⟩)
    refine code_block ?_
    refine code_loop (X := PV × List PV × Nat × List PV × Int) (fun x => [(0, .ext (.sl code.length (bytesP code))), (2, .val x.1), (3, .box 8 77 x.2.1), (4, .own 11 3 1 x.2.2.1 x.2.2.2.1), (5, .val (.int .i64 x.2.2.2.2))]) (fun x => x.2.2.2.2 ≤ 6 ∧ ∃ (a1 s1 : Int) (l : List Int), x.2.1 = [.sl code.length (bytesP code), .int .i64 a1, .int .u64 s1] ∧ x.2.2.1 = l.length ∧ x.2.2.2.1 = l.map (.int .i64) ∧ 0 ≤ a1 ∧ a1 ≤ 10 + 4 * l.length ∧ (l.length : Int) + max x.2.2.2.2 0 ≤ 6) (fun x => x.2.2.2.2.toNat) (_, _, _, _, _) (imp_covers ⟨rfl, rfl, rfl, rfl, rfl, trivial⟩) ?_ ?_
    · (try dsimp only)
      exact ⟨by omega, _, _, [], rfl, rfl, rfl, by omega, by simp only [List.length_nil]; omega, by simp only [List.length_nil]; omega⟩
    · intro x hI
      obtain ⟨t2_p, c_c, out_n, out_c, n⟩ := x
      replace hI : n ≤ 6 ∧ ∃ (a1 s1 : Int) (l : List Int), c_c = [.sl code.length (bytesP code), .int .i64 a1, .int .u64 s1] ∧ out_n = l.length ∧ out_c = l.map (.int .i64) ∧ 0 ≤ a1 ∧ a1 ≤ 10 + 4 * l.length ∧ (l.length : Int) + max n 0 ≤ 6 := hI
      show codeT _ _ _ [(0, .ext (.sl code.length (bytesP code))), (2, .val t2_p), (3, .box 8 77 c_c), (4, .own 11 3 1 out_n out_c), (5, .val (.int .i64 n))] _
      obtain ⟨i0, a1, s1, l, rfl, rfl, rfl, i1, i2, i3⟩ := hI
      refine code_seq (fun K8 hK8 => ?_)
      refine code_seq (fun K9 hK9 => ?_)
      refine code_region ?_
      refine list_cons rfl (op_q (q_move rfl (by decide)) ?_)
      refine list_cons rfl (op_q (q_gt rfl rfl (by decide)) ?_)
      refine list_nil ?_
      refine hK9 _ ?_; clear hK9 K9
      refine code_cond_d rfl (fun h2 => ?_) (fun h2 => ?_)
      · skip
        (try simp only [Decidable.not_not] at h2)
        refine code_skip ?_
        refine hK8 _ ?_; clear hK8 K8
        refine code_seq (fun K10 hK10 => ?_)
        refine code_block ?_
        refine code_region ?_
        refine list_cons rfl (op_q (q_move rfl (by decide)) ?_)
        refine list_cons rfl (op_q (q_move rfl (by decide)) ?_)
        refine list_cons rfl (op_buildSlice sl_27 (parts := [(0, _), (1, _), (2, _), (3, _), (4, _), (5, _), (6, _), (7, _), (8, _)]) rfl rfl rfl (by decide) (by decide) (by decide) rfl ?_)
        refine list_cons rfl (op_callM (among_c code ?_ _ _ ?_ ?_ ([1, 2, 3, 4, 5, 6, 7, 9, 0]) (by decide) (by decide)) (.tmp 20) 8 [3, 20] [.tmp 21] _ rfl rfl (by intro y hy; cases hy; exact ⟨rfl, (by intro t ht; simp only [List.mem_cons, List.not_mem_nil, or_false] at ht; rcases ht with rfl | rfl <;> rfl), (by intro s hs; simp only [List.mem_cons, List.not_mem_nil, or_false] at hs; subst hs; first | (simp [SV.labels]; done) | (simp [SV.labels, packS, SV.back]; done) | exact List.not_mem_nil)⟩) (by decide) (by decide) (by decide) rfl (fun _ => rfl) ?_)
        · first | assumption | omega | (simp; omega)
        · first | assumption | omega | (simp; omega)
        · first | assumption | omega | (simp; omega)
        rintro _ _ ⟨w, a2, s2, hx, ha0, ha1, rfl, rfl⟩
        have hw : 0 ≤ w ∧ w ≤ 9 := of_decide_eq_true (List.all_eq_true.1 (show List.all ([1, 2, 3, 4, 5, 6, 7, 9, 0]) (fun (y : Int) => decide (0 ≤ y ∧ y ≤ 9)) = true by decide) _ hx)
        clear hx
        refine list_cons rfl (op_buildSlice sl_27 (parts := [(0, .tmp 22)]) rfl rfl rfl (by decide) (by decide) (by decide) rfl ?_)
        refine list_cons rfl (op_append_gen sl_27 (l := 11) (.inl rfl) rfl rfl (l2 := none) (.inl ⟨rfl, (by first | rfl | exact flat_map _ (fun _ => rfl) _)⟩) (by first | rfl | simp | omega) (by omega) (by decide) (by decide) (by decide) ?_)
        refine list_cons rfl (op_q (q_assign rfl (by decide)) ?_)
        refine list_nil ?_
        refine blk_n ?_
        refine hK10 _ ?_; clear hK10 K10
        refine codeT.imp (σ' := [(0, _), (2, _), (3, _), (4, _), (5, _)]) ?_ (imp_covers ⟨rfl, rfl, rfl, rfl, rfl, trivial⟩)
        refine code_region ?_
        refine list_cons rfl (op_q (q_move rfl (by decide)) ?_)
        refine list_cons rfl (op_q (by first | exact q_subI rfl rfl (by decide) (by omega) (by omega) | exact q_ib rfl rfl rfl (by decide)) ?_)
        refine list_cons rfl (op_q (q_assign rfl (by decide)) ?_)
        refine list_nil ?_
        refine then_n ⟨(_, _, _, _, _), imp_covers ⟨rfl, rfl, rfl, rfl, rfl, trivial⟩, ?_, ?_⟩
        · (try dsimp only)
          first | (refine ⟨by omega, _, _, l ++ [w], rfl, by simp, by simp; rfl, by omega, ?_, ?_⟩ <;> simp only [List.length_append, List.length_cons, List.length_nil] <;> omega)
        · (try dsimp only); omega
      (try simp only [Decidable.not_not] at h2)
      refine code_exit ?_
      refine then_x ?_; clear hK8 K8
      refine then_x ?_
      refine blk_hit ?_
      refine hK6 _ ?_; clear hK6 K6
      refine code_seq (fun K11 hK11 => ?_)
      refine code_region ?_
      refine list_cons rfl (op_q (q_move rfl (by decide)) ?_)
      refine list_cons rfl (op_q (q_assign rfl (by decide)) ?_)
      refine list_nil ?_
      refine hK11 _ ?_; clear hK11 K11
      refine code_ret ?_
      refine then_r ?_; clear hK3 K3
      refine ends_ret (cs := []) rfl rfl rfl rfl trivial ?_
      first | exact ⟨l, by omega, rfl⟩ | exact ⟨_, hl1, rfl⟩
  (try simp only [Decidable.not_not] at h1)
  refine code_skip ?_
  refine hK3 _ ?_; clear hK3 K3
  refine code_seq (fun K12 hK12 => ?_)
  refine code_region ?_
  refine list_cons rfl (op_q (q_move rfl (by decide)) ?_)
  refine list_cons rfl (op_callM (digits_c code ?_ _ _ ?_ ?_) (.tmp 26) 8 [3, 26] [] _ rfl rfl (by intro y hy; cases hy; exact ⟨rfl, (by intro t ht; simp only [List.mem_cons, List.not_mem_nil, or_false] at ht; rcases ht with rfl | rfl <;> rfl), (by intro s hs; simp only [List.mem_cons, List.not_mem_nil, or_false] at hs; (try cases hs))⟩) (by decide) (by decide) (by decide) rfl (fun _ => rfl) ?_)
  · first | assumption | omega | (simp; omega)
  · first | assumption | omega | (simp; omega)
  · first | assumption | omega | (simp; omega)
  rintro _ _ ⟨l, a2, s2, ⟨hl1, hl2⟩, ha0, ha1, rfl, rfl⟩
  refine list_cons rfl (op_q (q_assign rfl (by decide)) ?_)
  refine list_nil ?_
  refine hK12 _ ?_; clear hK12 K12
  refine codeT.imp (σ' := [(0, _), (2, _), (3, _)]) ?_ (imp_covers ⟨rfl, rfl, rfl, trivial⟩)
  refine code_ret ?_
  refine ends_ret (cs := []) rfl rfl rfl rfl trivial ?_
  first | exact ⟨l, by omega, rfl⟩ | exact ⟨_, hl1, rfl⟩
set_option maxRecDepth 4000 in
set_option maxHeartbeats 1500000 in
theorem DrawFullBars_c (code : List UInt8) (hcode : code.length ≤ 9223372036854775807) : MCalls Try.prog 26 true none [.sl code.length (bytesP code)] fun rs _ => ∃ (l : List Int) (z : Int), l.length ≤ 7 ∧ rs = [.own 0 3 1 l.length (l.map (.int .i64)), .val (.int .i64 z)] := by
  refine mcalls_of_code (n := 21) az Try.func26 (by kernel_rfl) rfl rfl (Nat.le_of_ble_eq_true rfl) (by intro t u h; simp [Try.f26] at h) ?_
  refine code_seq (fun K1 hK1 => ?_)
  refine code_region ?_
  refine list_cons rfl (op_q (q_assign rfl (by decide)) ?_)
  refine list_cons rfl (op_q (q_assign rfl (by decide)) ?_)
  refine list_nil ?_
  refine hK1 _ ?_; clear hK1 K1
  refine code_seq (fun K2 hK2 => ?_)
  refine code_region ?_
  refine list_cons rfl (op_q (q_move rfl (by decide)) ?_)
  refine list_cons rfl (op_q (q_build_ext bt_77 (parts := [(0, .tmp 6)]) rfl rfl (by decide)) ?_)
  refine list_cons rfl (op_box rfl (.inr rfl) (by decide) (by decide) rfl ?_)
  refine list_cons rfl (op_q (q_assign rfl (by decide)) ?_)
  refine list_nil ?_
  refine hK2 _ ?_; clear hK2 K2
  refine code_seq (fun K3 hK3 => ?_)
  refine code_region ?_
  refine list_cons rfl (op_q (q_move rfl (by decide)) ?_)
  refine list_cons rfl (op_callM (digits_c code ?_ _ _ ?_ ?_) (.tmp 9) 8 [8, 4, 9] [] _ rfl rfl (by intro y hy; cases hy; exact ⟨rfl, (by intro t ht; simp only [List.mem_cons, List.not_mem_nil, or_false] at ht; rcases ht with rfl | rfl | rfl <;> rfl), (by intro s hs; simp only [List.mem_cons, List.not_mem_nil, or_false] at hs; (try cases hs))⟩) (by decide) (by decide) (by decide) rfl (fun _ => rfl) ?_)
  · first | assumption | omega | (simp; omega)
  · first | assumption | omega | (simp; omega)
  · first | assumption | omega | (simp; omega)
  rintro _ _ ⟨l, a2, s2, ⟨hl1, hl2⟩, ha0, ha1, rfl, rfl⟩
  refine list_cons rfl (op_q (q_assign rfl (by decide)) ?_)
  refine list_nil ?_
  refine hK3 _ ?_; clear hK3 K3
  refine codeT.imp (σ' := [(0, _), (2, _), (3, _), (4, _), (5, _)]) ?_ (imp_covers ⟨rfl, rfl, rfl, rfl, rfl, trivial⟩)
  refine code_seq (fun K4 hK4 => ?_)
  refine code_region ?_
  refine list_cons rfl (op_q (q_move rfl (by decide)) ?_)
  refine list_cons rfl (op_q (q_move rfl (by decide)) ?_)
  refine list_cons rfl (op_q (q_move rfl (by decide)) ?_)
  refine list_cons rfl (op_q (q_len_sl Try.underlying27 rfl rfl (by decide)) ?_)
  refine list_cons rfl (op_q (by first | exact q_shl1 rfl rfl (by decide) (by omega) (by omega) | exact q_shlI rfl rfl (by decide) (by omega) (by omega) (by omega) | exact q_shl rfl rfl (by omega) (by decide)) ?_)
  refine list_cons rfl (op_callM (pick_c code ?_ _ _ ?_ ?_ _) (.tmp 12) 8 [4, 12] [.tmp 15] _ rfl rfl (by intro y hy; cases hy; exact ⟨rfl, (by intro t ht; simp only [List.mem_cons, List.not_mem_nil, or_false] at ht; rcases ht with rfl | rfl <;> rfl), (by intro s hs; simp only [List.mem_cons, List.not_mem_nil, or_false] at hs; subst hs; first | (simp [SV.labels]; done) | (simp [SV.labels, packS, SV.back]; done) | exact List.not_mem_nil)⟩) (by decide) (by decide) (by decide) rfl (fun _ => rfl) ?_)
  · first | assumption | omega | (simp; omega)
  · first | assumption | omega | (simp; omega)
  · first | assumption | omega | (simp; omega)
  rintro _ _ ⟨b, a2, s2, hb0, hb1, ha0, ha1, rfl, rfl⟩
  refine list_cons rfl (op_q (q_move rfl (by decide)) ?_)
  refine list_cons rfl (op_callM (pick_c code ?_ _ _ ?_ ?_ _) (.tmp 17) 8 [4, 12, 17] [_] _ rfl rfl (by intro y hy; cases hy; exact ⟨rfl, (by intro t ht; simp only [List.mem_cons, List.not_mem_nil, or_false] at ht; rcases ht with rfl | rfl | rfl <;> rfl), (by intro s hs; simp only [List.mem_cons, List.not_mem_nil, or_false] at hs; subst hs; first | (simp [SV.labels]; done) | (simp [SV.labels, packS, SV.back]; done) | exact List.not_mem_nil)⟩) (by decide) (by decide) (by decide) rfl (fun _ => rfl) ?_)
  · first | assumption | omega | (simp; omega)
  · first | assumption | omega | (simp; omega)
  · first | assumption | omega | (simp; omega)
  rintro _ _ ⟨b2, a2, s2, hb0, hb1, ha0, ha1, rfl, rfl⟩
  refine list_cons rfl (op_q (by first | exact q_quoI rfl rfl (by decide) (by omega) (by omega) (by omega) | exact q_quoT rfl rfl (by omega) (by decide) (by omega) (by omega) | exact q_quo rfl rfl (by omega) (by decide)) ?_)
  refine list_cons rfl (op_q (by first | exact q_addI rfl rfl (by decide) (by omega) (by omega) | exact q_ib rfl rfl rfl (by decide)) ?_)
  refine list_cons rfl (op_q (q_assign rfl (by decide)) ?_)
  refine list_cons rfl (op_q (q_assign rfl (by decide)) ?_)
  refine list_nil ?_
  refine hK4 _ ?_; clear hK4 K4
  refine codeT.imp (σ' := [(0, _), (2, _), (3, _), (4, _), (5, _)]) ?_ (imp_covers ⟨rfl, rfl, rfl, rfl, rfl, trivial⟩)
  refine code_ret ?_
  refine ends_ret (cs := []) rfl rfl rfl rfl trivial ?_
  first | exact ⟨l, _, by omega, rfl⟩
end Go.Proofs.Ytlipkomdajogiaa
