/- Contracts of functions, walked over the pure layer; each says for which arguments. -/
import Derived.Test.YtmjgkhfjhedpkaaDoorf2Ty
import Derived.Test.YtmjgkhfjhedpkaaDoorTf
import Derived.Test.YtmjgkhfjhedpkaaDoorf1
import Derived.Test.YtmjgkhfjhedpkaaDoorShelf
namespace Go.Proofs.YtmjgkhfjhedpkaaDoor
open Go.RowKit f2Ty
set_option linter.unusedVariables false
set_option linter.unusedSimpArgs false

def abcG : List UInt8 := [97, 98, 99, 100, 101, 102, 103]
def ixR (r : Int) : Int := if 97 ≤ r ∧ r ≤ 103 then r - 97 else -1
set_option maxRecDepth 100000 in
theorem ix_ascii (r : Int) (h0 : 0 ≤ r) (h1 : r < 128) : Lib.indexByte abcG r.toNat.toUInt8 = ixR r := by
  have k : below 128 (fun n => intEq (Lib.indexByte abcG n.toUInt8) (ixR (n : Int))) = true := by kernel_rfl
  have := below_ok k r.toNat (by omega)
  rw [intEq_eq, beq_iff_eq] at this
  rwa [Int.toNat_of_nonneg h0] at this
theorem ix_none (c : UInt8) (h : 128 ≤ c.toNat) (l : List UInt8) (hl : ∀ b ∈ l, b.toNat < 128) : Lib.indexByte l c = -1 := by
  induction l with
  | nil => rfl
  | cons b l ih =>
    have hb := hl b (by simp)
    have hne : (b == c) = false := by
      rw [beq_eq_false_iff_ne]; intro e; subst e; omega
    unfold Lib.indexByte
    rw [ih (fun x hx => hl x (by simp [hx])), hne]; rfl
theorem abcG_lt : ∀ b ∈ abcG, b.toNat < 128 := by decide


theorem indexByte_c (s : List UInt8) (b : UInt8) : PCalls Tryd.prog 59 [.str s, .int .u8 b.toNat] (· = [.val (.int .i64 (Lib.indexByte s b))]) := by
  refine pcalls_flat (enters_of Tryd.func59 (by kernel_rfl) rfl) fun w vs ha => ?_
  obtain ⟨v0, r0, rfl, ha0, ha⟩ := repArgs_cons ha
  obtain ⟨v1, r1, rfl, ha1, ha⟩ := repArgs_cons ha
  obtain rfl := repArgs_nil ha
  simp only [Rep] at ha0 ha1
  subst ha0; subst ha1
  refine (Tryd.strings_IndexByte (.mk s.toArray) b.toNat w).mono fun e w' ⟨he, hw⟩ => ⟨[.int .i64 (Lib.indexByte s b)], [.int .i64 (Lib.indexByte s b)], ?_, hw ▸ Below.refl _ _, ⟨_, _, rfl, by simp [Rep], rfl⟩, rfl⟩
  rw [he]; simp [packV]
theorem indexRune_ascii (r : Int) (h0 : 0 ≤ r) (h1 : r < 128) : PCalls Tryd.prog 56 [.str abcG, .int .i32 r] (· = [.val (.int .i64 (ixR r))]) := by
  refine pcalls_flat (enters_of Tryd.func56 (by kernel_rfl) rfl) fun w vs ha => ?_
  obtain ⟨v0, r0, rfl, ha0, ha⟩ := repArgs_cons ha
  obtain ⟨v1, r1, rfl, ha1, ha⟩ := repArgs_cons ha
  obtain rfl := repArgs_nil ha
  simp only [Rep] at ha0 ha1
  subst ha0; subst ha1
  refine (Tryd.strings_IndexRune_ascii (.mk abcG.toArray) r w h0 h1).mono fun e w' ⟨he, hw⟩ => ⟨[.int .i64 (ixR r)], [.int .i64 (ixR r)], ?_, hw ▸ Below.refl _ _, ⟨_, _, rfl, by simp [Rep], rfl⟩, rfl⟩
  rw [he, ix_ascii r h0 h1]; rfl

theorem validRune_c (r : Int) : PCalls Tryd.prog 60 [.int .i32 r] (· = [.val (.bool (decide ((0 ≤ r ∧ r < 0xD800) ∨ (0xDFFF < r ∧ r ≤ 0x10FFFF))))]) := by
  refine pcalls_flat (enters_of Tryd.func60 (by kernel_rfl) rfl) fun w vs ha => ?_
  obtain ⟨v0, r0, rfl, ha0, ha⟩ := repArgs_cons ha
  obtain rfl := repArgs_nil ha
  simp only [Rep] at ha0
  subst ha0
  exact (Tryd.utf8_ValidRune r w).mono fun e w' ⟨he, hw⟩ => ⟨[.bool (Lib.validRune r)], [.bool (Lib.validRune r)], he, hw ▸ Below.refl _ _, ⟨_, _, rfl, by simp [Rep], rfl⟩, rfl⟩

set_option maxRecDepth 4000 in
theorem indexRune_hi (r : Int) (h0 : 128 ≤ r) (h1 : r ≤ 1114111) : PCalls Tryd.prog 56 [.str abcG, .int .i32 r] (· = [.val (.int .i64 (-1))]) := by
  refine pcalls_of_code (n := 187) az Tryd.func56 (by kernel_rfl) rfl rfl (Nat.le_of_ble_eq_true rfl) (by intro t u h; simp [Tryd.f56] at h) ?_
  have hal : abcG.length = 7 := rfl
  have hab : ∀ j, j < abcG.length → (abcG.getD j 0).toNat < 128 := by decide
  have he := encode_hi h0
  have hel := he.1
  have hel2 := he.2.1
  refine code_seq (fun K1 hK1 => ?_)
  refine code_region ?_
  refine list_cons rfl (op_q (q_assign rfl (by decide)) ?_)
  refine list_nil ?_
  refine hK1 _ ?_; clear hK1 K1
  refine code_block ?_
  refine code_seq (fun K2 hK2 => ?_)
  refine code_region ?_
  refine list_cons rfl (op_q (q_move rfl (by decide)) ?_)
  refine list_cons rfl (op_q (q_le rfl rfl (by decide)) ?_)
  refine list_cons rfl (op_q (q_move rfl (by decide)) ?_)
  refine list_guard_d rfl rfl rfl rfl (by decide) rfl (by decide) (fun h1 => ?_) (fun h1 => ?_)
  · simp only [Bool.false_eq_true, if_true, if_false, Decidable.not_not] at h1
    refine id (op_q (q_move rfl (by decide)) ?_)
    refine list_guard_y rfl rfl rfl rfl (by decide) rfl ?_
    refine id (op_q (q_lt rfl rfl (by decide)) ?_)
    refine list_cons rfl (op_q (q_pick rfl rfl (by decide)) ?_)
    refine list_cons rfl (op_q (q_assign rfl (by decide)) ?_)
    refine list_nil ?_
    refine hK2 _ ?_; clear hK2 K2
    refine code_cond_d rfl (fun h2 => ?_) (fun h2 => ?_)
    · skip
      (try simp only [Decidable.not_not] at h2)
      exfalso
      omega
    (try simp only [Decidable.not_not] at h2)
    refine code_seq (fun K3 hK3 => ?_)
    refine code_region ?_
    refine list_cons rfl (op_q (q_move rfl (by decide)) ?_)
    refine list_cons rfl (op_q (q_eq rfl rfl (by decide)) ?_)
    refine list_cons rfl (op_q (q_assign rfl (by decide)) ?_)
    refine list_nil ?_
    refine hK3 _ ?_; clear hK3 K3
    refine codeT.imp (σ' := [(0, _), (1, _), (4, _), (171, _)]) ?_ (imp_covers ⟨rfl, rfl, rfl, rfl, trivial⟩)
    refine code_cond_d rfl (fun h3 => ?_) (fun h3 => ?_)
    · skip
      (try simp only [Decidable.not_not] at h3)
      refine code_seq (fun K4 hK4 => ?_)
      refine code_seq (fun K5 hK5 => ?_)
      refine code_region ?_
      refine list_cons rfl (op_q (q_move rfl (by decide)) ?_)
      refine list_cons rfl (op_range_str Tryd.underlying9 rfl (by decide) (by decide) rfl ?_)
      refine list_nil ?_
      refine hK5 _ ?_; clear hK5 K5
      refine code_block ?_
      refine code_loop (X := Int × Nat) (fun x => [(0, .val (.str abcG)), (1, .val (.int .i32 r)), (4, .val (.int .i64 x.1)), (175, .sit 175 (abcG) x.2)]) (fun x => x.2 ≤ 7) (fun x => 7 - x.2) (_, _) (imp_covers ⟨rfl, rfl, rfl, rfl, trivial⟩) ?_ ?_
      · (try dsimp only)
        omega
      · intro x hI
        obtain ⟨t4, t175_i⟩ := x
        replace hI : t175_i ≤ 7 := hI
        show codeT _ _ _ [(0, .val (.str abcG)), (1, .val (.int .i32 r)), (4, .val (.int .i64 t4)), (175, .sit 175 (abcG) t175_i)] _
        refine code_seq (fun K6 hK6 => ?_)
        refine code_region ?_
        refine list_cons rfl (op_nextA (h := 175) hab rfl rfl (by decide) (fun h4 => ?_) (fun h4 => ?_))
        · skip
          refine list_cons rfl (op_q (q_extract rfl rfl (by decide)) ?_)
          refine list_nil ?_
          refine hK6 _ ?_; clear hK6 K6
          refine code_seq (fun K7 hK7 => ?_)
          refine code_cond_f rfl ?_
          refine code_exit ?_
          refine then_x ?_; clear hK7 K7
          refine then_x ?_
          refine blk_hit ?_
          refine hK4 _ ?_; clear hK4 K4
          refine code_seq (fun K8 hK8 => ?_)
          refine code_region ?_
          refine list_cons rfl (op_q (q_assign rfl (by decide)) ?_)
          refine list_nil ?_
          refine hK8 _ ?_; clear hK8 K8
          refine code_ret ?_
          refine blk_r ?_
          refine ends_ret (cs := []) rfl rfl rfl rfl trivial ?_
          rfl
        · skip
          refine list_cons rfl (op_q (q_extract rfl rfl (by decide)) ?_)
          refine list_nil ?_
          refine hK6 _ ?_; clear hK6 K6
          refine code_seq (fun K9 hK9 => ?_)
          refine code_cond_t rfl ?_
          refine code_skip ?_
          refine hK9 _ ?_; clear hK9 K9
          refine code_block ?_
          refine code_seq (fun K10 hK10 => ?_)
          refine code_region ?_
          refine list_cons rfl (op_q (q_extract rfl rfl (by decide)) ?_)
          refine list_cons rfl (op_q (q_extract rfl rfl (by decide)) ?_)
          refine list_cons rfl (op_q (q_assign rfl (by decide)) ?_)
          refine list_cons rfl (op_q (q_assign rfl (by decide)) ?_)
          refine list_nil ?_
          refine hK10 _ ?_; clear hK10 K10
          refine code_seq (fun K11 hK11 => ?_)
          refine code_region ?_
          refine list_cons rfl (op_q (q_move rfl (by decide)) ?_)
          refine list_cons rfl (op_q (q_eq rfl rfl (by decide)) ?_)
          refine list_nil ?_
          refine hK11 _ ?_; clear hK11 K11
          refine code_cond_d rfl (fun h5 => ?_) (fun h5 => ?_)
          · skip
            (try simp only [Decidable.not_not] at h5)
            exfalso
            have := hab t175_i (by omega); omega
          (try simp only [Decidable.not_not] at h5)
          refine code_skip ?_
          refine blk_n ?_
          refine then_n ⟨(_, _), imp_covers ⟨rfl, rfl, rfl, rfl, trivial⟩, ?_, ?_⟩
          · (try dsimp only)
            omega
          · omega
    (try simp only [Decidable.not_not] at h3)
    refine code_seq (fun K12 hK12 => ?_)
    refine code_region ?_
    refine list_cons rfl (op_q (q_move rfl (by decide)) ?_)
    refine list_cons rfl (op_call _ (validRune_c _) rfl rfl (by decide) (by decide) (by decide) rfl ?_)
    rintro _ rfl
    refine list_cons rfl (op_q (by first | exact q_notd rfl (by decide) | exact q_not rfl (by decide)) ?_)
    refine list_cons rfl (op_q (q_assign rfl (by decide)) ?_)
    refine list_nil ?_
    refine hK12 _ ?_; clear hK12 K12
    refine codeT.imp (σ' := [(0, _), (1, _), (4, _), (183, _)]) ?_ (imp_covers ⟨rfl, rfl, rfl, rfl, trivial⟩)
    refine code_cond_d rfl (fun h6 => ?_) (fun h6 => ?_)
    · skip
      (try simp only [Decidable.not_not] at h6)
      refine code_seq (fun K13 hK13 => ?_)
      refine code_region ?_
      refine list_cons rfl (op_q (q_assign rfl (by decide)) ?_)
      refine list_nil ?_
      refine hK13 _ ?_; clear hK13 K13
      refine code_ret ?_
      refine blk_r ?_
      refine ends_ret (cs := []) rfl rfl rfl rfl trivial ?_
      rfl
    (try simp only [Decidable.not_not] at h6)
    refine code_scope ?_
    refine code_seq (fun K14 hK14 => ?_)
    refine code_region ?_
    refine list_cons rfl (op_q (q_move rfl (by decide)) ?_)
    refine list_cons rfl (op_q (q_runestr Tryd.underlying21 Tryd.underlying9 rfl (by decide)) ?_)
    refine list_cons rfl (op_q (q_assign rfl (by decide)) ?_)
    refine list_nil ?_
    refine hK14 _ ?_; clear hK14 K14
    refine code_seq (fun K15 hK15 => ?_)
    refine code_region ?_
    refine list_cons rfl (op_q (q_move rfl (by decide)) ?_)
    refine list_cons rfl (op_q (q_len_str Tryd.underlying9 rfl (by decide)) ?_)
    refine list_cons rfl (op_q (by first | exact q_subI rfl rfl (by decide) (by omega) (by omega) | exact q_ib rfl rfl rfl (by decide)) ?_)
    refine list_cons rfl (op_q (q_assign rfl (by decide)) ?_)
    refine list_nil ?_
    refine hK15 _ ?_; clear hK15 K15
    refine code_seq (fun K16 hK16 => ?_)
    refine code_region ?_
    refine list_cons rfl (op_q (q_move rfl (by decide)) ?_)
    refine list_cons rfl (op_q (q_assign rfl (by decide)) ?_)
    refine list_nil ?_
    refine hK16 _ ?_; clear hK16 K16
    refine codeT.imp (σ' := [(0, _), (1, _), (4, _), (7, _), (8, _), (9, _)]) ?_ (imp_covers ⟨rfl, rfl, rfl, rfl, rfl, rfl, trivial⟩)
    refine code_seq (fun K17 hK17 => ?_)
    refine code_region ?_
    refine list_cons rfl (op_q (q_assign rfl (by decide)) ?_)
    refine list_nil ?_
    refine hK17 _ ?_; clear hK17 K17
    refine code_seq (fun K18 hK18 => ?_)
    refine code_block ?_
    refine code_loop (X := Int × List UInt8 × Int × Int × Int) (fun x => [(0, .val (.str abcG)), (1, .val (.int .i32 r)), (4, .val (.int .i64 x.1)), (7, .val (.str x.2.1)), (8, .val (.int .i64 x.2.2.1)), (9, .val (.int .i64 x.2.2.2.1)), (10, .val (.int .i64 x.2.2.2.2))]) (fun x => x.2.1 = encL r ∧ x.2.2.1 = x.2.1.length - 1 ∧ x.2.2.2.1 = x.2.2.1) (fun x => 0) (_, _, _, _, _) (imp_covers ⟨rfl, rfl, rfl, rfl, rfl, rfl, rfl, trivial⟩) ?_ ?_
    · (try dsimp only)
      exact ⟨rfl, rfl, rfl⟩
    · intro x hI
      obtain ⟨t4, rs, last, i, fails⟩ := x
      replace hI : rs = encL r ∧ last = rs.length - 1 ∧ i = last := hI
      show codeT _ _ _ [(0, .val (.str abcG)), (1, .val (.int .i32 r)), (4, .val (.int .i64 t4)), (7, .val (.str rs)), (8, .val (.int .i64 last)), (9, .val (.int .i64 i)), (10, .val (.int .i64 fails))] _
      obtain ⟨rfl, i2, i3⟩ := hI
      have hlast : 128 ≤ ((encL r).getD last.toNat 0).toNat := by
            have hl : last.toNat < (encL r).length := by omega
            have : (encL r).getD last.toNat 0 = (encL r)[last.toNat] := by simp [hl]
            rw [this]; exact he.2.2 _ (List.getElem_mem hl)
      refine code_seq (fun K19 hK19 => ?_)
      refine code_seq (fun K20 hK20 => ?_)
      refine code_region ?_
      refine list_cons rfl (op_q (q_move rfl (by decide)) ?_)
      refine list_cons rfl (op_q (q_move rfl (by decide)) ?_)
      refine list_cons rfl (op_q (q_len_str Tryd.underlying9 rfl (by decide)) ?_)
      refine list_cons rfl (op_q (q_lt rfl rfl (by decide)) ?_)
      refine list_nil ?_
      refine hK20 _ ?_; clear hK20 K20
      refine code_cond_d rfl (fun h7 => ?_) (fun h7 => ?_)
      · skip
        (try simp only [Decidable.not_not] at h7)
        refine code_skip ?_
        refine hK19 _ ?_; clear hK19 K19
        refine code_block ?_
        refine code_scope ?_
        refine code_seq (fun K21 hK21 => ?_)
        refine code_seq (fun K22 hK22 => ?_)
        refine code_draw (by kernel_rfl) (by kernel_rfl) ?_
        refine draw_q rfl (q_move rfl (by decide)) ?_
        refine draw_q rfl (q_move rfl (by decide)) ?_
        refine draw_q rfl (q_index_str Tryd.underlying9 rfl rfl (by omega) (by omega) (by decide)) ?_
        refine draw_q rfl (q_move rfl (by decide)) ?_
        refine draw_q rfl (q_move rfl (by decide)) ?_
        refine draw_q rfl (q_index_str Tryd.underlying9 rfl rfl (by omega) (by omega) (by decide)) ?_
        refine draw_q rfl (q_ne rfl rfl (by decide)) ?_
        refine draw_nil ?_
        refine hK22 _ ?_; clear hK22 K22
        refine codeT.imp (σ' := [(0, _), (1, _), (4, _), (7, _), (8, _), (9, _), (10, _), (33, _)]) ?_ (imp_covers ⟨rfl, rfl, rfl, rfl, rfl, rfl, rfl, rfl, trivial⟩)
        refine code_cond_d rfl (fun h8 => ?_) (fun h8 => ?_)
        · skip
          (try simp only [Decidable.not_not] at h8)
          refine code_seq (fun K23 hK23 => ?_)
          refine code_draw (by kernel_rfl) (by kernel_rfl) ?_
          refine draw_q rfl (q_move rfl (by decide)) ?_
          refine draw_q rfl (q_move rfl (by decide)) ?_
          refine draw_q rfl (by first | exact q_addI rfl rfl (by decide) (by omega) (by omega) | exact q_ib rfl rfl rfl (by decide)) ?_
          refine draw_q rfl (q_slice_str Tryd.underlying9 rfl ⟨_, rfl⟩ rfl (by omega) (by omega) (by omega) (by decide)) ?_
          refine draw_q rfl (q_move rfl (by decide)) ?_
          refine draw_q rfl (q_move rfl (by decide)) ?_
          refine draw_q rfl (q_index_str Tryd.underlying9 rfl rfl (by omega) (by omega) (by decide)) ?_
          refine draw_call _ (indexByte_c _ _) rfl rfl rfl (by decide) ?_
          refine draw_q rfl (q_assign rfl (by decide)) ?_
          refine draw_nil ?_
          refine hK23 _ ?_; clear hK23 K23
          refine codeT.imp (σ' := [(0, _), (1, _), (4, _), (7, _), (8, _), (9, _), (10, _), (11, _)]) ?_ (imp_covers ⟨rfl, rfl, rfl, rfl, rfl, rfl, rfl, rfl, trivial⟩)
          refine code_seq (fun K24 hK24 => ?_)
          refine code_seq (fun K25 hK25 => ?_)
          refine code_region ?_
          refine list_cons rfl (op_q (q_move rfl (by decide)) ?_)
          refine list_cons rfl (op_q (q_lt rfl rfl (by decide)) ?_)
          refine list_nil ?_
          refine hK25 _ ?_; clear hK25 K25
          refine code_cond_d rfl (fun h9 => ?_) (fun h9 => ?_)
          · skip
            (try simp only [Decidable.not_not] at h9)
            refine code_seq (fun K26 hK26 => ?_)
            refine code_region ?_
            refine list_cons rfl (op_q (q_assign rfl (by decide)) ?_)
            refine list_nil ?_
            refine hK26 _ ?_; clear hK26 K26
            refine code_ret ?_
            refine then_r ?_; clear hK24 K24
            refine then_r ?_; clear hK21 K21
            refine sc_r ?_
            refine blk_r ?_
            refine then_r ?_
            refine blk_r ?_
            refine then_r ?_; clear hK18 K18
            refine sc_r ?_
            refine blk_r ?_
            refine ends_ret (cs := []) rfl rfl rfl rfl trivial ?_
            rfl
          (try simp only [Decidable.not_not] at h9)
          exfalso
          have g3 := ix_none ((encL r).getD last.toNat 0) hlast (((abcG.drop (i + 1).toNat).take (((abcG.length : Nat) : Int).toNat - (i + 1).toNat))) (fun b hb => abcG_lt b (List.mem_of_mem_drop (List.mem_of_mem_take hb)))
          rw [g3] at h9; omega
        (try simp only [Decidable.not_not] at h8)
        exfalso
        have g1 := hab i.toNat (by omega); have g2 := hlast; omega
      (try simp only [Decidable.not_not] at h7)
      refine code_exit ?_
      refine then_x ?_; clear hK19 K19
      refine then_x ?_
      refine blk_hit ?_
      refine hK18 _ ?_; clear hK18 K18
      refine code_seq (fun K27 hK27 => ?_)
      refine code_seq (fun K28 hK28 => ?_)
      refine code_region ?_
      refine list_cons rfl (op_q (q_assign rfl (by decide)) ?_)
      refine list_nil ?_
      refine hK28 _ ?_; clear hK28 K28
      refine code_ret ?_
      refine then_r ?_; clear hK27 K27
      refine sc_r ?_
      refine blk_r ?_
      refine ends_ret (cs := []) rfl rfl rfl rfl trivial ?_
      rfl
  simp only [Bool.false_eq_true, if_true, if_false, Decidable.not_not] at h1
  exfalso
  omega

theorem indexRune_c (r : Int) (h0 : 0 ≤ r) (h1 : r ≤ 1114111) : PCalls Tryd.prog 56 [.str abcG, .int .i32 r] (· = [.val (.int .i64 (ixR r))]) := by
  by_cases h : r < 128
  · exact indexRune_ascii r h0 h
  · rw [show ixR r = -1 by unfold ixR; rw [if_neg (by omega)]]
    exact indexRune_hi r (by omega) h1
theorem ixR_le (r : Int) : -1 ≤ ixR r ∧ ixR r ≤ 6 := by unfold ixR; split <;> omega
def OrdU (s : List UInt8) (i : Nat) : Prop := ∀ j, j < i → 97 ≤ (s.getD j 0).toNat ∧ (s.getD j 0).toNat ≤ 103 ∧ (0 < j → (s.getD (j - 1) 0).toNat < (s.getD j 0).toNat)
theorem p2_mono {a b : Nat} (h : a ≤ b) : p2 a ≤ p2 b := Nat.pow_le_pow_right (by omega) h
theorem orF_top (s : List UInt8) : ∀ i, i < s.length → OrdU s (i + 1) → p2 ((s.getD i 0).toNat - 97) ≤ orF (s.take (i + 1)) ∧ orF (s.take (i + 1)) < p2 ((s.getD i 0).toNat - 97 + 1)
  | 0, h, hu => by
    rw [orF_snoc s h, List.take_zero]
    have e : orF [] ||| 2 ^ ((s.getD 0 0).toNat - 97) = 2 ^ ((s.getD 0 0).toNat - 97) := by show 0 ||| _ = _; simp
    rw [e]
    exact ⟨Nat.le_refl _, Nat.pow_lt_pow_right (by omega) (by omega)⟩
  | i + 1, h, hu => by
    have ih := orF_top s i (by omega) (fun j hj => hu j (by omega))
    have h2 := (hu (i + 1) (by omega)).2.2 (by omega)
    rw [Nat.add_sub_cancel] at h2
    have h3 := (hu i (by omega)).1
    rw [orF_snoc s h]
    refine ⟨Nat.right_le_or, @Nat.or_lt_two_pow _ _ _ ?_ (Nat.pow_lt_pow_right (by omega) (by omega))⟩
    refine Nat.lt_of_lt_of_le ih.2 (Nat.pow_le_pow_right (by omega) (by omega))
theorem sh_zero {a k : Nat} : shN a k = 0 ↔ a < p2 k := by
  unfold shN
  rw [Nat.div_eq_zero_iff]
  have : 0 < p2 k := Nat.pow_pos (by omega)
  omega
theorem pb_at {s : List UInt8} {i : Nat} (h : i < s.length) (hr : 0 ≤ ixR ((runeAt s i).1 : Int)) : (runeAt s i).1 = (s.getD i 0).toNat ∧ (runeAt s i).2 = 1 ∧ 97 ≤ (s.getD i 0).toNat ∧ (s.getD i 0).toNat ≤ 103 ∧ ixR ((runeAt s i).1 : Int) = (((s.getD i 0).toNat - 97 : Nat) : Int) := by
  by_cases ha : (s.getD i 0).toNat < 128
  · have e := runeAt_ascii h ha
    rw [e] at hr ⊢
    simp only [] at hr ⊢
    unfold ixR at hr ⊢
    split at hr
    · rename_i h2; rw [if_pos h2]; exact ⟨by trivial, by trivial, by omega, by omega, by omega⟩
    · omega
  · have := runeAt_hi h (by omega)
    unfold ixR at hr
    rw [if_neg (by omega)] at hr
    omega
theorem pb_ord {s : List UInt8} {i : Nat} (h : i < s.length) (ho : OrdP s) : 0 ≤ ixR ((runeAt s i).1 : Int) := by
  have := ho i h
  rw [runeAt_ascii h (by omega)]
  simp only []
  unfold ixR; rw [if_pos (by omega)]; omega
theorem pb_step {s : List UInt8} {i : Nat} (h : i < s.length) (hu : OrdU s i) (hr : 0 ≤ ixR ((runeAt s i).1 : Int)) (hz : shN (orF (s.take i)) (ixR ((runeAt s i).1 : Int)).toNat = 0) : OrdU s (i + 1) := by
  obtain ⟨_, _, g3, g4, g5⟩ := pb_at h hr
  rw [g5, Int.toNat_natCast, sh_zero] at hz
  intro j hj
  by_cases e : j = i
  · subst e
    refine ⟨g3, g4, fun h0 => ?_⟩
    have h1 := orF_top s (j - 1) (by omega) (fun k hk => hu k (by omega))
    rw [show j - 1 + 1 = j by omega] at h1
    have h2 := (hu (j - 1) (by omega)).1
    have h3 : p2 ((s.getD (j - 1) 0).toNat - 97) < p2 ((s.getD j 0).toNat - 97) := by omega
    have h4 : (s.getD (j - 1) 0).toNat - 97 < (s.getD j 0).toNat - 97 := Nat.lt_of_not_le fun hle => by have := p2_mono hle; omega
    omega
  · exact hu j (by omega)
theorem pb_bad {s : List UInt8} {i : Nat} (h : i < s.length) (hu : OrdU s i) (hr : 0 ≤ ixR ((runeAt s i).1 : Int)) (hz : ¬ shN (orF (s.take i)) (ixR ((runeAt s i).1 : Int)).toNat = 0) : ¬ OrdP s := by
  intro ho
  obtain ⟨_, _, g3, g4, g5⟩ := pb_at h hr
  apply hz
  rw [g5, Int.toNat_natCast, sh_zero]
  by_cases h0 : 0 < i
  · have h1 := orF_top s (i - 1) (by omega) (fun k hk => hu k (by omega))
    rw [show i - 1 + 1 = i by omega] at h1
    have h2 := (ho i h).2.2 h0
    have h3 := (hu (i - 1) (by omega)).1
    exact Nat.lt_of_lt_of_le h1.2 (p2_mono (by omega))
  · rw [show i = 0 by omega, List.take_zero]
    show 0 < _
    exact Nat.pow_pos (by omega)


set_option maxRecDepth 100000 in
theorem onesCount_c (c : Int) (h0 : 0 ≤ c) (h1 : c ≤ 127) : PCalls Tryd.prog 54 [.int .u64 c] (· = [.val (.int .i64 (((cnt7 c.toNat : Nat) : Int)))]) := by
  have h := below_int (p := fun i => oneInt (crun Tf.tf noExt 200 6 54 [.int .u64 (Int.ofNat i)]) (((cnt7 i : Nat) : Int))) (k := 128) (by kernel_rfl) h0 (by omega)
  have e : Int.ofNat c.toNat = c := Int.toNat_of_nonneg h0
  rw [e] at h
  exact pcalls_run Tf.tf (oneInt_ok h)

set_option maxRecDepth 4000 in
theorem impl_IsCell (c : Int) : PCalls Tryd.prog 47 [.int .i64 c] (· = [.val (.bool (decide (0 ≤ c ∧ c ≤ 127)))]) := by
  refine pcalls_of_code (n := 9) az Tryd.func47 (by kernel_rfl) rfl rfl (Nat.le_of_ble_eq_true rfl) (by intro t u h; simp [Tryd.f47] at h) ?_
  refine code_seq (fun K1 hK1 => ?_)
  refine code_region ?_
  refine list_cons rfl (op_q (q_assign rfl (by decide)) ?_)
  refine list_nil ?_
  refine hK1 _ ?_; clear hK1 K1
  refine code_seq (fun K2 hK2 => ?_)
  refine code_region ?_
  refine list_cons rfl (op_q (q_move rfl (by decide)) ?_)
  refine list_cons rfl (op_q (q_ge rfl rfl (by decide)) ?_)
  refine list_cons rfl (op_q (q_move rfl (by decide)) ?_)
  refine list_guard_d rfl rfl rfl rfl (by decide) rfl (by decide) (fun h1 => ?_) (fun h1 => ?_)
  · simp only [Bool.false_eq_true, if_true, if_false, Decidable.not_not] at h1
    refine id (op_q (q_move rfl (by decide)) ?_)
    refine list_guard_y rfl rfl rfl rfl (by decide) rfl ?_
    refine id (op_q (q_lt rfl rfl (by decide)) ?_)
    refine list_cons rfl (op_q (q_pick rfl rfl (by decide)) ?_)
    refine list_cons rfl (op_q (q_assign rfl (by decide)) ?_)
    refine list_nil ?_
    refine hK2 _ ?_; clear hK2 K2
    refine code_ret ?_
    refine ends_ret (cs := []) rfl rfl rfl rfl trivial ?_
    first | (congr 3; exact decide_eq_decide.mpr ⟨fun k => by omega, fun k => by omega⟩) | (rw [decide_eq_false (by omega)])
  simp only [Bool.false_eq_true, if_true, if_false, Decidable.not_not] at h1
  refine list_guard_n rfl rfl rfl rfl (by decide) rfl ?_
  refine list_cons rfl (op_q (q_pick rfl rfl (by decide)) ?_)
  refine list_cons rfl (op_q (q_assign rfl (by decide)) ?_)
  refine list_nil ?_
  refine hK2 _ ?_; clear hK2 K2
  refine code_ret ?_
  refine ends_ret (cs := []) rfl rfl rfl rfl trivial ?_
  first | (congr 3; exact decide_eq_decide.mpr ⟨fun k => by omega, fun k => by omega⟩) | (rw [decide_eq_false (by omega)])

set_option maxRecDepth 4000 in
theorem impl_CountBars (c : Int) : PCalls Tryd.prog 48 [.int .i64 c] (· = [.val (.int .i64 (if 0 ≤ c ∧ c ≤ 127 then ((cnt7 c.toNat : Nat) : Int) else 0)), .val (.bool (decide (0 ≤ c ∧ c ≤ 127)))]) := by
  refine pcalls_of_code (n := 10) az Tryd.func48 (by kernel_rfl) rfl rfl (Nat.le_of_ble_eq_true rfl) (by intro t u h; simp [Tryd.f48] at h) ?_
  refine code_seq (fun K1 hK1 => ?_)
  refine code_region ?_
  refine list_cons rfl (op_q (q_assign rfl (by decide)) ?_)
  refine list_cons rfl (op_q (q_assign rfl (by decide)) ?_)
  refine list_nil ?_
  refine hK1 _ ?_; clear hK1 K1
  refine code_seq (fun K2 hK2 => ?_)
  refine code_seq (fun K3 hK3 => ?_)
  refine code_region ?_
  refine list_cons rfl (op_q (q_move rfl (by decide)) ?_)
  refine list_cons rfl (op_call _ (impl_IsCell _) rfl rfl (by decide) (by decide) (by decide) rfl ?_)
  rintro _ rfl
  refine list_cons rfl (op_q (by first | exact q_notd rfl (by decide) | exact q_not rfl (by decide)) ?_)
  refine list_nil ?_
  refine hK3 _ ?_; clear hK3 K3
  refine codeT.imp (σ' := [(0, _), (2, _), (3, _), (6, _)]) ?_ (imp_covers ⟨rfl, rfl, rfl, rfl, trivial⟩)
  refine code_cond_d rfl (fun h1 => ?_) (fun h1 => ?_)
  · skip
    (try simp only [Decidable.not_not] at h1)
    refine code_seq (fun K4 hK4 => ?_)
    refine code_region ?_
    refine list_cons rfl (op_q (q_assign rfl (by decide)) ?_)
    refine list_cons rfl (op_q (q_assign rfl (by decide)) ?_)
    refine list_nil ?_
    refine hK4 _ ?_; clear hK4 K4
    refine code_ret ?_
    refine then_r ?_; clear hK2 K2
    refine ends_ret (cs := []) rfl rfl rfl rfl trivial ?_
    simp only [if_neg h1, decide_eq_false h1]
  (try simp only [Decidable.not_not] at h1)
  refine code_skip ?_
  refine hK2 _ ?_; clear hK2 K2
  refine code_seq (fun K5 hK5 => ?_)
  refine code_region ?_
  refine list_cons rfl (op_q (q_move rfl (by decide)) ?_)
  refine list_cons rfl (op_q (by first | exact q_convU (by rw [Tryd.underlying3]; rfl) Tryd.underlying69 rfl (by decide) (by omega) (by omega) | exact q_conv (by rw [Tryd.underlying3]; rfl) Tryd.underlying69 rfl (by decide)) ?_)
  refine list_cons rfl (op_call _ (onesCount_c _ (by omega) (by omega)) rfl rfl (by decide) (by decide) (by decide) rfl ?_)
  rintro _ rfl
  refine list_cons rfl (op_q (q_assign rfl (by decide)) ?_)
  refine list_cons rfl (op_q (q_assign rfl (by decide)) ?_)
  refine list_nil ?_
  refine hK5 _ ?_; clear hK5 K5
  refine codeT.imp (σ' := [(0, _), (2, _), (3, _)]) ?_ (imp_covers ⟨rfl, rfl, rfl, trivial⟩)
  refine code_ret ?_
  refine ends_ret (cs := []) rfl rfl rfl rfl trivial ?_
  simp only [if_pos h1, decide_eq_true h1]

set_option maxRecDepth 4000 in
theorem impl_FarCells (a b : Int) : PCalls Tryd.prog 28 [.int .i64 a, .int .i64 b] (· = [.val (.int .i64 (if (0 ≤ a ∧ a ≤ 127) ∧ (0 ≤ b ∧ b ≤ 127) then ((cnt7 (a.toNat ^^^ b.toNat) : Nat) : Int) else 0)), .val (.bool (decide ((0 ≤ a ∧ a ≤ 127) ∧ (0 ≤ b ∧ b ≤ 127))))]) := by
  refine pcalls_of_code (n := 20) az Tryd.func28 (by kernel_rfl) rfl rfl (Nat.le_of_ble_eq_true rfl) (by intro t u h; simp [Tryd.f28] at h) ?_
  refine code_seq (fun K1 hK1 => ?_)
  refine code_region ?_
  refine list_cons rfl (op_q (q_assign rfl (by decide)) ?_)
  refine list_cons rfl (op_q (q_assign rfl (by decide)) ?_)
  refine list_nil ?_
  refine hK1 _ ?_; clear hK1 K1
  refine code_seq (fun K2 hK2 => ?_)
  refine code_seq (fun K3 hK3 => ?_)
  refine code_region ?_
  refine list_cons rfl (op_q (q_move rfl (by decide)) ?_)
  refine list_cons rfl (op_call _ (impl_IsCell _) rfl rfl (by decide) (by decide) (by decide) rfl ?_)
  rintro _ rfl
  refine list_cons rfl (op_q (by first | exact q_notd rfl (by decide) | exact q_not rfl (by decide)) ?_)
  refine list_cons rfl (op_q (q_move rfl (by decide)) ?_)
  refine list_guard_d rfl rfl rfl rfl (by decide) rfl (by decide) (fun h1 => ?_) (fun h1 => ?_)
  · simp only [Bool.false_eq_true, if_true, if_false, Decidable.not_not] at h1
    refine id (op_q (q_move rfl (by decide)) ?_)
    refine list_guard_y rfl rfl rfl rfl (by decide) rfl ?_
    refine id (op_call _ (impl_IsCell _) rfl rfl (by decide) (by decide) (by decide) rfl ?_)
    rintro _ rfl
    refine list_guard_y rfl rfl rfl rfl (by decide) rfl ?_
    refine id (op_q (by first | exact q_notd rfl (by decide) | exact q_not rfl (by decide)) ?_)
    refine list_cons rfl (op_q (q_pick rfl rfl (by decide)) ?_)
    refine list_nil ?_
    refine hK3 _ ?_; clear hK3 K3
    refine codeT.imp (σ' := [(0, _), (1, _), (4, _), (5, _), (13, _)]) ?_ (imp_covers ⟨rfl, rfl, rfl, rfl, rfl, trivial⟩)
    refine code_cond_d rfl (fun h2 => ?_) (fun h2 => ?_)
    · skip
      (try simp only [Decidable.not_not] at h2)
      refine code_seq (fun K4 hK4 => ?_)
      refine code_region ?_
      refine list_cons rfl (op_q (q_assign rfl (by decide)) ?_)
      refine list_cons rfl (op_q (q_assign rfl (by decide)) ?_)
      refine list_nil ?_
      refine hK4 _ ?_; clear hK4 K4
      refine code_ret ?_
      refine then_r ?_; clear hK2 K2
      refine ends_ret (cs := []) rfl rfl rfl rfl trivial ?_
      first
        | (have e : ¬ ((0 ≤ a ∧ a ≤ 127) ∧ (0 ≤ b ∧ b ≤ 127)) := by omega
           simp only [if_neg e, decide_eq_false e])
        | (have e : ((0 ≤ a ∧ a ≤ 127) ∧ (0 ≤ b ∧ b ≤ 127)) := by omega
           have e2 := xor7 e.1 e.2
           have e3 : 0 ≤ ((a.toNat ^^^ b.toNat : Nat) : Int) ∧ ((a.toNat ^^^ b.toNat : Nat) : Int) ≤ 127 := ⟨by omega, e2⟩
           simp only [if_pos e, decide_eq_true e, if_pos e3, decide_eq_true e3, Int.toNat_natCast])
    (try simp only [Decidable.not_not] at h2)
    refine code_skip ?_
    refine hK2 _ ?_; clear hK2 K2
    refine code_seq (fun K5 hK5 => ?_)
    refine code_region ?_
    refine list_cons rfl (op_q (q_move rfl (by decide)) ?_)
    refine list_cons rfl (op_q (q_move rfl (by decide)) ?_)
    refine list_cons rfl (op_q (by first | exact q_xorI rfl rfl (by decide) (by omega) (by omega) (by omega) (by omega) | exact q_ib rfl rfl rfl (by decide)) ?_)
    refine list_cons rfl (op_call _ (impl_CountBars _) rfl rfl (by decide) (by decide) (by decide) rfl ?_)
    rintro _ rfl
    refine list_cons rfl (op_q (q_extract rfl rfl (by decide)) ?_)
    refine list_cons rfl (op_q (q_extract rfl rfl (by decide)) ?_)
    refine list_cons rfl (op_q (q_assign rfl (by decide)) ?_)
    refine list_cons rfl (op_q (q_assign rfl (by decide)) ?_)
    refine list_nil ?_
    refine hK5 _ ?_; clear hK5 K5
    refine codeT.imp (σ' := [(0, _), (1, _), (4, _), (5, _)]) ?_ (imp_covers ⟨rfl, rfl, rfl, rfl, trivial⟩)
    refine code_ret ?_
    refine ends_ret (cs := []) rfl rfl rfl rfl trivial ?_
    first
      | (have e : ¬ ((0 ≤ a ∧ a ≤ 127) ∧ (0 ≤ b ∧ b ≤ 127)) := by omega
         simp only [if_neg e, decide_eq_false e])
      | (have e : ((0 ≤ a ∧ a ≤ 127) ∧ (0 ≤ b ∧ b ≤ 127)) := by omega
         have e2 := xor7 e.1 e.2
         have e3 : 0 ≤ ((a.toNat ^^^ b.toNat : Nat) : Int) ∧ ((a.toNat ^^^ b.toNat : Nat) : Int) ≤ 127 := ⟨by omega, e2⟩
         simp only [if_pos e, decide_eq_true e, if_pos e3, decide_eq_true e3, Int.toNat_natCast])
  simp only [Bool.false_eq_true, if_true, if_false, Decidable.not_not] at h1
  refine list_guard_n rfl rfl rfl rfl (by decide) rfl ?_
  refine list_guard_n rfl rfl rfl rfl (by decide) rfl ?_
  refine list_cons rfl (op_q (q_pick rfl rfl (by decide)) ?_)
  refine list_nil ?_
  refine hK3 _ ?_; clear hK3 K3
  refine code_cond_t rfl ?_
  refine code_seq (fun K6 hK6 => ?_)
  refine code_region ?_
  refine list_cons rfl (op_q (q_assign rfl (by decide)) ?_)
  refine list_cons rfl (op_q (q_assign rfl (by decide)) ?_)
  refine list_nil ?_
  refine hK6 _ ?_; clear hK6 K6
  refine code_ret ?_
  refine then_r ?_; clear hK2 K2
  refine ends_ret (cs := []) rfl rfl rfl rfl trivial ?_
  first
    | (have e : ¬ ((0 ≤ a ∧ a ≤ 127) ∧ (0 ≤ b ∧ b ≤ 127)) := by omega
       simp only [if_neg e, decide_eq_false e])
    | (have e : ((0 ≤ a ∧ a ≤ 127) ∧ (0 ≤ b ∧ b ≤ 127)) := by omega
       have e2 := xor7 e.1 e.2
       have e3 : 0 ≤ ((a.toNat ^^^ b.toNat : Nat) : Int) ∧ ((a.toNat ^^^ b.toNat : Nat) : Int) ≤ 127 := ⟨by omega, e2⟩
       simp only [if_pos e, decide_eq_true e, if_pos e3, decide_eq_true e3, Int.toNat_natCast])

set_option maxRecDepth 4000 in
theorem impl_ParseBars (s : List UInt8) (hs : s.length ≤ 4611686018427387904) : PCalls Tryd.prog 51 [.str s] (· = [.val (.int .i64 (if OrdP s then ((orF s : Nat) : Int) else 0)), .val (.bool (decide (OrdP s)))]) := by
  refine pcalls_of_code (n := 28) az Tryd.func51 (by kernel_rfl) rfl rfl (Nat.le_of_ble_eq_true rfl) (by intro t u h; simp [Tryd.f51] at h) ?_
  refine code_seq (fun K1 hK1 => ?_)
  refine code_region ?_
  refine list_cons rfl (op_q (q_assign rfl (by decide)) ?_)
  refine list_cons rfl (op_q (q_assign rfl (by decide)) ?_)
  refine list_nil ?_
  refine hK1 _ ?_; clear hK1 K1
  refine code_seq (fun K2 hK2 => ?_)
  refine code_region ?_
  refine list_cons rfl (op_q (q_assign rfl (by decide)) ?_)
  refine list_nil ?_
  refine hK2 _ ?_; clear hK2 K2
  refine code_seq (fun K3 hK3 => ?_)
  refine code_seq (fun K4 hK4 => ?_)
  refine code_region ?_
  refine list_cons rfl (op_q (q_move rfl (by decide)) ?_)
  refine list_cons rfl (op_range_str Tryd.underlying9 rfl (by decide) (by decide) rfl ?_)
  refine list_nil ?_
  refine hK4 _ ?_; clear hK4 K4
  refine code_block ?_
  refine code_loop (X := Int × Bool × Int × Nat) (fun x => [(0, .val (.str s)), (2, .val (.int .i64 x.1)), (3, .val (.bool x.2.1)), (4, .val (.int .i64 x.2.2.1)), (9, .sit 9 (s) x.2.2.2)]) (fun x => x.2.2.2 ≤ s.length ∧ x.2.2.1 = ((orF (s.take x.2.2.2) : Nat) : Int) ∧ orF (s.take x.2.2.2) < 128 ∧ OrdU s x.2.2.2) (fun x => s.length - x.2.2.2) (_, _, _, _) (imp_covers ⟨rfl, rfl, rfl, rfl, rfl, trivial⟩) ?_ ?_
  · (try dsimp only)
    exact ⟨by omega, by rw [List.take_zero]; rfl, by rw [List.take_zero]; decide, fun j hj => by omega⟩
  · intro x hI
    obtain ⟨t2, t3, cell, t9_i⟩ := x
    replace hI : t9_i ≤ s.length ∧ cell = ((orF (s.take t9_i) : Nat) : Int) ∧ orF (s.take t9_i) < 128 ∧ OrdU s t9_i := hI
    show codeT _ _ _ [(0, .val (.str s)), (2, .val (.int .i64 t2)), (3, .val (.bool t3)), (4, .val (.int .i64 cell)), (9, .sit 9 (s) t9_i)] _
    obtain ⟨i1, i2, i3, i4⟩ := hI
    have hix := ixR_le ((runeAt s t9_i).1 : Int)
    have hp2 := p2_le (k := (ixR ((runeAt s t9_i).1 : Int)).toNat) (by omega)
    refine code_seq (fun K5 hK5 => ?_)
    refine code_region ?_
    refine list_cons rfl (op_next (h := 9) rfl rfl (by decide) (fun h1 => ?_) (fun h1 => ?_))
    · skip
      refine list_cons rfl (op_q (q_extract rfl rfl (by decide)) ?_)
      refine list_nil ?_
      refine hK5 _ ?_; clear hK5 K5
      refine code_seq (fun K6 hK6 => ?_)
      refine code_cond_f rfl ?_
      refine code_exit ?_
      refine then_x ?_; clear hK6 K6
      refine then_x ?_
      refine blk_hit ?_
      refine hK3 _ ?_; clear hK3 K3
      refine code_seq (fun K7 hK7 => ?_)
      refine code_region ?_
      refine list_cons rfl (op_q (q_move rfl (by decide)) ?_)
      refine list_cons rfl (op_q (q_assign rfl (by decide)) ?_)
      refine list_cons rfl (op_q (q_assign rfl (by decide)) ?_)
      refine list_nil ?_
      refine hK7 _ ?_; clear hK7 K7
      refine code_ret ?_
      refine ends_ret (cs := []) rfl rfl rfl rfl trivial ?_
      have e0 : t9_i = s.length := by omega
      rw [e0] at i4
      have e : OrdP s := i4
      rw [if_pos e, decide_eq_true e, i2, e0, List.take_length]
    · skip
      refine list_cons rfl (op_q (q_extract rfl rfl (by decide)) ?_)
      refine list_nil ?_
      refine hK5 _ ?_; clear hK5 K5
      refine code_seq (fun K8 hK8 => ?_)
      refine code_cond_t rfl ?_
      refine code_skip ?_
      refine hK8 _ ?_; clear hK8 K8
      refine code_block ?_
      refine code_seq (fun K9 hK9 => ?_)
      refine code_region ?_
      refine list_cons rfl (op_q (q_extract rfl rfl (by decide)) ?_)
      refine list_cons rfl (op_q (q_assign rfl (by decide)) ?_)
      refine list_nil ?_
      refine hK9 _ ?_; clear hK9 K9
      refine code_seq (fun K10 hK10 => ?_)
      refine code_region ?_
      refine list_cons rfl (op_q (q_move rfl (by decide)) ?_)
      refine list_cons rfl (op_call _ (indexRune_c _ (by omega) (by have := runeAt_le (s := s) (i := t9_i) (by omega); omega)) rfl rfl (by decide) (by decide) (by decide) rfl ?_)
      rintro _ rfl
      refine list_cons rfl (op_q (q_assign rfl (by decide)) ?_)
      refine list_nil ?_
      refine hK10 _ ?_; clear hK10 K10
      refine codeT.imp (σ' := [(0, _), (2, _), (3, _), (4, _), (6, _), (7, _), (9, _), (10, _)]) ?_ (imp_covers ⟨rfl, rfl, rfl, rfl, rfl, rfl, rfl, rfl, trivial⟩)
      refine code_seq (fun K11 hK11 => ?_)
      refine code_seq (fun K12 hK12 => ?_)
      refine code_region ?_
      refine list_cons rfl (op_q (q_move rfl (by decide)) ?_)
      refine list_cons rfl (op_q (q_lt rfl rfl (by decide)) ?_)
      refine list_cons rfl (op_q (q_move rfl (by decide)) ?_)
      refine list_guard_d rfl rfl rfl rfl (by decide) rfl (by decide) (fun h2 => ?_) (fun h2 => ?_)
      · simp only [Bool.false_eq_true, if_true, if_false, Decidable.not_not] at h2
        refine id (op_q (q_move rfl (by decide)) ?_)
        refine list_guard_y rfl rfl rfl rfl (by decide) rfl ?_
        refine id (op_q (q_move rfl (by decide)) ?_)
        refine list_guard_y rfl rfl rfl rfl (by decide) rfl ?_
        refine id (op_q (by first | exact q_shrN rfl rfl (by decide) (by omega) (by omega) (by omega) | exact q_shrI rfl rfl (by decide) (by omega) (by omega) (by omega) | exact q_shr rfl rfl (by omega) (by decide)) ?_)
        refine list_guard_y rfl rfl rfl rfl (by decide) rfl ?_
        refine id (op_q (q_ne rfl rfl (by decide)) ?_)
        refine list_cons rfl (op_q (q_pick rfl rfl (by decide)) ?_)
        refine list_nil ?_
        refine hK12 _ ?_; clear hK12 K12
        refine codeT.imp (σ' := [(0, _), (2, _), (3, _), (4, _), (6, _), (7, _), (9, _), (10, _), (22, _)]) ?_ (imp_covers ⟨rfl, rfl, rfl, rfl, rfl, rfl, rfl, rfl, rfl, trivial⟩)
        refine code_cond_d rfl (fun h3 => ?_) (fun h3 => ?_)
        · skip
          (try simp only [Decidable.not_not] at h3)
          refine code_seq (fun K13 hK13 => ?_)
          refine code_region ?_
          refine list_cons rfl (op_q (q_assign rfl (by decide)) ?_)
          refine list_cons rfl (op_q (q_assign rfl (by decide)) ?_)
          refine list_nil ?_
          refine hK13 _ ?_; clear hK13 K13
          refine code_ret ?_
          refine then_r ?_; clear hK11 K11
          refine blk_r ?_
          refine then_r ?_
          refine blk_r ?_
          refine then_r ?_; clear hK3 K3
          refine ends_ret (cs := []) rfl rfl rfl rfl trivial ?_
          have e : ¬ OrdP s := pb_bad (i := t9_i) (by omega) i4 (by omega) (fun k => h3 (by rw [i2, Int.toNat_natCast, k]; rfl))
          rw [if_neg e, decide_eq_false e]
        (try simp only [Decidable.not_not] at h3)
        refine code_skip ?_
        refine hK11 _ ?_; clear hK11 K11
        refine code_region ?_
        refine list_cons rfl (op_q (q_move rfl (by decide)) ?_)
        refine list_cons rfl (op_q (q_move rfl (by decide)) ?_)
        refine list_cons rfl (op_q (by first | exact q_shl1 rfl rfl (by decide) (by omega) (by omega) | exact q_shlI rfl rfl (by decide) (by omega) (by omega) (by omega) | exact q_shl rfl rfl (by omega) (by decide)) ?_)
        refine list_cons rfl (op_q (by first | exact q_orI rfl rfl (by decide) (by omega) (by omega) (by omega) (by omega) | exact q_ib rfl rfl rfl (by decide)) ?_)
        refine list_cons rfl (op_q (q_assign rfl (by decide)) ?_)
        refine list_nil ?_
        refine blk_n ?_
        refine then_n ⟨(_, _, _, _), imp_covers ⟨rfl, rfl, rfl, rfl, rfl, trivial⟩, ?_, ?_⟩
        · (try dsimp only)
          have hr : 0 ≤ ixR ((runeAt s t9_i).1 : Int) := by omega
          have hz : shN (orF (s.take t9_i)) (ixR ((runeAt s t9_i).1 : Int)).toNat = 0 := by have := h3; rw [i2, Int.toNat_natCast] at this; omega
          obtain ⟨g1, g2, g3, g4, g5⟩ := pb_at (by omega) hr
          have e9 : orF (s.take (t9_i + 1)) = orF (s.take t9_i) ||| p2 (ixR ((runeAt s t9_i).1 : Int)).toNat := by
            rw [orF_snoc s (by omega), g5, Int.toNat_natCast]; rfl
          rw [g2]
          refine ⟨by omega, ?_, ?_, pb_step (by omega) i4 hr hz⟩
          · rw [e9, i2, Int.toNat_natCast, Int.toNat_natCast]
          · rw [e9]; exact or7 i3 (by omega)
        · (have hr : 0 ≤ ixR ((runeAt s t9_i).1 : Int) := by omega); (have := (pb_at (by omega) hr).2.1); (try dsimp only); omega
      simp only [Bool.false_eq_true, if_true, if_false, Decidable.not_not] at h2
      refine list_guard_n rfl rfl rfl rfl (by decide) rfl ?_
      refine list_guard_n rfl rfl rfl rfl (by decide) rfl ?_
      refine list_guard_n rfl rfl rfl rfl (by decide) rfl ?_
      refine list_cons rfl (op_q (q_pick rfl rfl (by decide)) ?_)
      refine list_nil ?_
      refine hK12 _ ?_; clear hK12 K12
      refine code_cond_t rfl ?_
      refine code_seq (fun K14 hK14 => ?_)
      refine code_region ?_
      refine list_cons rfl (op_q (q_assign rfl (by decide)) ?_)
      refine list_cons rfl (op_q (q_assign rfl (by decide)) ?_)
      refine list_nil ?_
      refine hK14 _ ?_; clear hK14 K14
      refine code_ret ?_
      refine then_r ?_; clear hK11 K11
      refine blk_r ?_
      refine then_r ?_
      refine blk_r ?_
      refine then_r ?_; clear hK3 K3
      refine ends_ret (cs := []) rfl rfl rfl rfl trivial ?_
      have e : ¬ OrdP s := fun k => by have := pb_ord (i := t9_i) (by omega) k; omega
      rw [if_neg e, decide_eq_false e]

theorem bars_dig : ∀ j, j < 10 → OrdP (([[97, 98, 99, 100, 101, 102], [98, 99], [97, 98, 100, 101, 103], [97, 98, 99, 100, 103], [98, 99, 102, 103], [97, 99, 100, 102, 103], [97, 99, 100, 101, 102, 103], [97, 98, 99], [97, 98, 99, 100, 101, 102, 103], [97, 98, 99, 100, 102, 103]] : List (List UInt8)).getD j []) ∧ ((orF (([[97, 98, 99, 100, 101, 102], [98, 99], [97, 98, 100, 101, 103], [97, 98, 99, 100, 103], [98, 99, 102, 103], [97, 99, 100, 102, 103], [97, 99, 100, 101, 102, 103], [97, 98, 99], [97, 98, 99, 100, 101, 102, 103], [97, 98, 99, 100, 102, 103]] : List (List UInt8)).getD j []) : Nat) : Int) = digT.getD j 0 := by
  intro j hj
  have : j = 0 ∨ j = 1 ∨ j = 2 ∨ j = 3 ∨ j = 4 ∨ j = 5 ∨ j = 6 ∨ j = 7 ∨ j = 8 ∨ j = 9 := by omega
  rcases this with rfl | rfl | rfl | rfl | rfl | rfl | rfl | rfl | rfl | rfl <;> exact ⟨by decide, by decide⟩
theorem tbl_len (j : Nat) : (([[97, 98, 99, 100, 101, 102], [98, 99], [97, 98, 100, 101, 103], [97, 98, 99, 100, 103], [98, 99, 102, 103], [97, 99, 100, 102, 103], [97, 99, 100, 101, 102, 103], [97, 98, 99], [97, 98, 99, 100, 101, 102, 103], [97, 98, 99, 100, 102, 103]] : List (List UInt8)).getD j []).length ≤ 7 := by
  by_cases hj : j < 10
  · have : j = 0 ∨ j = 1 ∨ j = 2 ∨ j = 3 ∨ j = 4 ∨ j = 5 ∨ j = 6 ∨ j = 7 ∨ j = 8 ∨ j = 9 := by omega
    rcases this with rfl | rfl | rfl | rfl | rfl | rfl | rfl | rfl | rfl | rfl <;> decide
  · unfold List.getD; rw [List.getElem?_eq_none (by simp; omega)]; simp
def digE (k : Nat) : List (PV × PV) := (List.range k).map fun j => (.int .i64 (digT.getD j 0), .int .i64 j)
theorem digE_new : ∀ k : Nat, k < 10 → findE (.int .i64) (.int .i64 (digT.getD k 0)) (digE k) 0 = some none := by
  intro j hj
  have : j = 0 ∨ j = 1 ∨ j = 2 ∨ j = 3 ∨ j = 4 ∨ j = 5 ∨ j = 6 ∨ j = 7 ∨ j = 8 ∨ j = 9 := by omega
  rcases this with rfl | rfl | rfl | rfl | rfl | rfl | rfl | rfl | rfl | rfl <;> rfl
theorem digE_succ (k : Nat) : digE (k + 1) = digE k ++ [(.int .i64 (digT.getD k 0), .int .i64 k)] := by
  unfold digE; rw [List.range_succ, List.map_append]; rfl
theorem findE_int (c : Int) : ∀ (l : List Int) (i : Nat) (f : Nat → PV), (∀ d ∈ l, d ≠ c) → ∀ m, findE (.int .i64) (.int .i64 c) ((List.range' m l.length).zipWith (fun j d => (PV.int .i64 d, f j)) l) i = some none
  | [], i, f, h, m => by simp [findE]
  | d :: l, i, f, h, m => by
    have hne : intEq c d = false := by rw [intEq_eq, beq_eq_false_iff_ne]; exact fun e => h d (by simp) e.symm
    rw [List.length_cons, List.range'_succ, List.zipWith_cons_cons, findE]
    simp only [keyEq, kEq, hne]
    exact findE_int c l (i + 1) f (fun x hx => h x (by simp [hx])) (m + 1)
theorem digE_hit (c : Int) (h : 0 ≤ digOf c) : findE (.int .i64) (.int .i64 c) (digE 10) 0 = some (some ((digOf c).toNat, .int .i64 (digOf c))) := by
  unfold digOf at h ⊢
  repeat' split
  all_goals first
    | (subst_vars; rfl)
    | (exfalso; simp_all)
theorem digE_miss (c : Int) (h : ¬ 0 ≤ digOf c) : findE (.int .i64) (.int .i64 c) (digE 10) 0 = some none := by
  have e : digE 10 = (List.range' 0 digT.length).zipWith (fun (j : Nat) (d : Int) => (PV.int .i64 d, PV.int .i64 j)) digT := by rfl
  rw [e]
  refine findE_int c digT 0 (fun (j : Nat) => PV.int .i64 j) (fun d hd hc => ?_) 0
  subst hc
  simp only [digT, List.mem_cons, List.not_mem_nil, or_false] at hd
  rcases hd with rfl | rfl | rfl | rfl | rfl | rfl | rfl | rfl | rfl | rfl <;> exact h (by decide)
theorem digT_of (d : Nat) (h : d < 10) : digOf (digT.getD d 0) = d := digOf_at (d := d) (by omega) (by omega) (by rw [Int.toNat_natCast])


set_option maxRecDepth 4000 in
theorem impl_CellOf (d : Int) : PCalls Tryd.prog 38 [.int .i64 d] (· = [.val (.int .i64 (if 0 ≤ d ∧ d ≤ 9 then digT.getD d.toNat 0 else 0)), .val (.bool (decide (0 ≤ d ∧ d ≤ 9)))]) := by
  refine pcalls_of_code (n := 16) az Tryd.func38 (by kernel_rfl) rfl rfl (Nat.le_of_ble_eq_true rfl) (by intro t u h; simp [Tryd.f38] at h) ?_
  refine code_seq (fun K1 hK1 => ?_)
  refine code_region ?_
  refine list_cons rfl (op_q (q_assign rfl (by decide)) ?_)
  refine list_cons rfl (op_q (q_assign rfl (by decide)) ?_)
  refine list_nil ?_
  refine hK1 _ ?_; clear hK1 K1
  refine code_seq (fun K2 hK2 => ?_)
  refine code_seq (fun K3 hK3 => ?_)
  refine code_region ?_
  refine list_cons rfl (op_q (q_move rfl (by decide)) ?_)
  refine list_cons rfl (op_q (q_lt rfl rfl (by decide)) ?_)
  refine list_cons rfl (op_q (q_move rfl (by decide)) ?_)
  refine list_guard_d rfl rfl rfl rfl (by decide) rfl (by decide) (fun h1 => ?_) (fun h1 => ?_)
  · simp only [Bool.false_eq_true, if_true, if_false, Decidable.not_not] at h1
    refine id (op_q (q_move rfl (by decide)) ?_)
    refine list_guard_y rfl rfl rfl rfl (by decide) rfl ?_
    refine id (op_q (q_ge rfl rfl (by decide)) ?_)
    refine list_cons rfl (op_q (q_pick rfl rfl (by decide)) ?_)
    refine list_nil ?_
    refine hK3 _ ?_; clear hK3 K3
    refine code_cond_d rfl (fun h2 => ?_) (fun h2 => ?_)
    · skip
      (try simp only [Decidable.not_not] at h2)
      refine code_seq (fun K4 hK4 => ?_)
      refine code_region ?_
      refine list_cons rfl (op_q (q_assign rfl (by decide)) ?_)
      refine list_cons rfl (op_q (q_assign rfl (by decide)) ?_)
      refine list_nil ?_
      refine hK4 _ ?_; clear hK4 K4
      refine code_ret ?_
      refine then_r ?_; clear hK2 K2
      refine ends_ret (cs := []) rfl rfl rfl rfl trivial ?_
      first
        | (have e : ¬ (0 ≤ d ∧ d ≤ 9) := by omega
           simp only [if_neg e, decide_eq_false e])
        | (have e : 0 ≤ d ∧ d ≤ 9 := by omega
           have e2 := bars_dig d.toNat (by omega)
           simp only [if_pos e, decide_eq_true e, if_pos e2.1, decide_eq_true e2.1, e2.2])
    (try simp only [Decidable.not_not] at h2)
    refine code_skip ?_
    refine hK2 _ ?_; clear hK2 K2
    refine code_seq (fun K5 hK5 => ?_)
    refine code_region ?_
    refine list_cons rfl (op_q (q_move rfl (by decide)) ?_)
    refine list_cons rfl (op_q (q_indexAddr_g arr_67 rfl rfl (by omega) (by omega) (by decide)) ?_)
    refine list_cons rfl (op_q (q_load_rd one_9 rfl (.inr ⟨_, (by first | rfl | exact congrArg (SV.rbor _) (drop_map1 _ [] _ (by first | omega | (simp; omega)))), rfl⟩) (by decide)) ?_)
    refine list_cons rfl (op_call _ (impl_ParseBars _ (by have := tbl_len d.toNat; omega)) rfl rfl (by decide) (by decide) (by decide) rfl ?_)
    rintro _ rfl
    refine list_cons rfl (op_q (q_extract rfl rfl (by decide)) ?_)
    refine list_cons rfl (op_q (q_extract rfl rfl (by decide)) ?_)
    refine list_cons rfl (op_q (q_assign rfl (by decide)) ?_)
    refine list_cons rfl (op_q (q_assign rfl (by decide)) ?_)
    refine list_nil ?_
    refine hK5 _ ?_; clear hK5 K5
    refine codeT.imp (σ' := [(0, _), (2, _), (3, _)]) ?_ (imp_covers ⟨rfl, rfl, rfl, trivial⟩)
    refine code_ret ?_
    refine ends_ret (cs := []) rfl rfl rfl rfl trivial ?_
    first
      | (have e : ¬ (0 ≤ d ∧ d ≤ 9) := by omega
         simp only [if_neg e, decide_eq_false e])
      | (have e : 0 ≤ d ∧ d ≤ 9 := by omega
         have e2 := bars_dig d.toNat (by omega)
         simp only [if_pos e, decide_eq_true e, if_pos e2.1, decide_eq_true e2.1, e2.2])
  simp only [Bool.false_eq_true, if_true, if_false, Decidable.not_not] at h1
  refine list_guard_n rfl rfl rfl rfl (by decide) rfl ?_
  refine list_cons rfl (op_q (q_pick rfl rfl (by decide)) ?_)
  refine list_nil ?_
  refine hK3 _ ?_; clear hK3 K3
  refine code_cond_t rfl ?_
  refine code_seq (fun K6 hK6 => ?_)
  refine code_region ?_
  refine list_cons rfl (op_q (q_assign rfl (by decide)) ?_)
  refine list_cons rfl (op_q (q_assign rfl (by decide)) ?_)
  refine list_nil ?_
  refine hK6 _ ?_; clear hK6 K6
  refine code_ret ?_
  refine then_r ?_; clear hK2 K2
  refine ends_ret (cs := []) rfl rfl rfl rfl trivial ?_
  first
    | (have e : ¬ (0 ≤ d ∧ d ≤ 9) := by omega
       simp only [if_neg e, decide_eq_false e])
    | (have e : 0 ≤ d ∧ d ≤ 9 := by omega
       have e2 := bars_dig d.toNat (by omega)
       simp only [if_pos e, decide_eq_true e, if_pos e2.1, decide_eq_true e2.1, e2.2])

def celS (k : Nat) : List Int := filN 10 (fun d => digT.getD d 0) k
theorem celS_get {s : Nat} (h : s < 10) : ((celS 10).map (PV.int .i64))[s]? = some (.int .i64 (digT.getD s 0)) := by
  have h2 := get_map1 (PV.int .i64) 0 (celS 10) (k := s) (by unfold celS; rw [filN_len]; exact h)
  rw [Nat.mul_one] at h2
  rw [h2]
  have h1 := filN_at 10 (fun d => digT.getD d 0) 10 s h
  rw [if_pos h] at h1
  unfold celS
  rw [h1]
theorem row_get {a b : Nat} (ha : a < 10) (hb : b < 10) : ((((tabS 100).map (PV.int .i64)).drop (a * 10)).take 10)[b]? = some (.int .i64 (dgt a b)) := by
  rw [List.getElem?_take, if_pos hb, List.getElem?_drop]
  have h2 := get_map1 (PV.int .i64) 0 (tabS 100) (k := a * 10 + b) (by simp [tabS, filN_len]; omega)
  rw [Nat.mul_one] at h2
  rw [h2, tab_at ha hb]
theorem put_new {a b : List PV} {n : Nat} (ha : a.length = n) (hb : b.length = n) : putAt a 0 (PV.agg b).cells = b := by
  unfold putAt PV.cells
  simp only [List.take_zero, List.nil_append, Nat.zero_add]
  rw [List.drop_of_length_le (by omega), List.append_nil]
theorem celS_all : ((((celS 10).map (PV.int .i64)).drop 0).take 10) = (celS 10).map (PV.int .i64) := by
  rw [List.drop_zero, List.take_of_length_le (by simp [celS, filN_len])]

def usd (l : List Int) (k : Nat) : List PV := (List.range 10).map (fun (d : Nat) => PV.bool (decide (hasK l (d : Int) k = true)))
theorem usd_len (l : List Int) (k : Nat) : (usd l k).length = 10 := by simp [usd]
theorem usd_flat (l : List Int) (k : Nat) : PV.flatL (usd l k) = true := flat_map _ (fun _ => rfl) _
theorem usd_get (l : List Int) (k : Nat) {d : Int} (h0 : 0 ≤ d) (h1 : d < 10) : (usd l k)[d.toNat]? = some (.bool (decide (hasK l d k = true))) := by
  unfold usd
  rw [List.getElem?_map, List.getElem?_range (by omega), Option.map_some, Int.toNat_of_nonneg h0]
theorem usd_get1 (l : List Int) (k : Nat) {d : Int} (h0 : 0 ≤ d) (h1 : d < 10) : (usd l k)[d.toNat * 1]? = some (.bool (decide (hasK l d k = true))) := by
  rw [Nat.mul_one]; exact usd_get l k h0 h1
theorem usd_put (l : List Int) (k : Nat) {d : Int} {o : Nat} (h0 : 0 ≤ d) (h1 : d < 10) (hd : l.getD k 0 = d) (ho : o = d.toNat) : putAt (usd l k) o [PV.bool true] = usd l (k + 1) := by
  subst ho
  have hl := usd_len l k
  apply List.ext_getElem?
  intro j
  rw [putAt, List.append_assoc, List.getElem?_append, List.length_take, hl, show min d.toNat 10 = d.toNat by omega]
  by_cases hj : j < 10
  · have e2 := usd_get l (k + 1) (d := j) (by omega) (by omega)
    have e1 := usd_get l k (d := j) (by omega) (by omega)
    rw [Int.toNat_natCast] at e1 e2
    rw [e2, hasK, hd]
    by_cases c : j < d.toNat
    · rw [if_pos c, List.getElem?_take, if_pos c, e1, decide_eq_false (show ¬ d = (j : Int) by omega), Bool.or_false]
    · rw [if_neg c]
      by_cases c2 : j = d.toNat
      · rw [c2, Nat.sub_self, decide_eq_true (show d = ((d.toNat : Nat) : Int) by omega), Bool.or_true]; rfl
      · rw [List.getElem?_append, if_neg (by simp only [List.length_cons, List.length_nil]; omega), List.getElem?_drop, List.length_cons, List.length_nil, show d.toNat + (0 + 1) + (j - d.toNat - (0 + 1)) = j by omega, e1, decide_eq_false (show ¬ d = (j : Int) by omega), Bool.or_false]
  · have e2 : (usd l (k + 1))[j]? = none := List.getElem?_eq_none (by rw [usd_len]; omega)
    rw [e2, if_neg (by omega)]
    exact List.getElem?_eq_none (by simp only [List.length_append, List.length_cons, List.length_nil, List.length_drop, hl]; omega)
theorem usd_0 (l : List Int) : List.replicate 10 (PV.bool false) = usd l 0 := rfl
def lnk (l : List Int) (r : Bool) : Nat := if r then l.length else l.length - 1
theorem tab_get {a b : Nat} (ha : a < 10) (hb : b < 10) : ((tabS 100).map (PV.int .i64))[a * 10 + b * 1]? = some (.int .i64 (dgt a b)) := by
  have h2 := get_map1 (PV.int .i64) 0 (tabS 100) (k := a * 10 + b) (by simp [tabS, filN_len]; omega)
  rw [Nat.mul_one] at h2
  rw [Nat.mul_one, h2, tab_at ha hb]
theorem lnk_le (l : List Int) (r : Bool) : lnk l r ≤ l.length := by unfold lnk; split <;> omega

theorem xor_sub7 (a b : Nat) (ha : a < 128) (hb : b < 128) : a ^^^ (a &&& b) = a - (a &&& b) := by
  have k : below 128 (fun x => below 128 (fun y => Nat.beq (x ^^^ (x &&& y)) (x - (x &&& y)))) = true := by kernel_rfl
  exact Nat.eq_of_beq_eq_true (below_ok (below_ok k a ha) b hb)
theorem shF_andNot {fx fy c : Int} (hx : 0 ≤ fx ∧ fx ≤ 127) (hc : 0 ≤ c ∧ c ≤ 127) : (((((c.toNat ^^^ (c.toNat &&& fx.toNat) : Nat) : Int)).toNat ||| fy.toNat : Nat) : Int) = shF fx fy c := by
  unfold shF shB
  rw [Int.toNat_natCast, xor_sub7 _ _ (by omega) (by omega)]
theorem xor7b {a b : Int} (ha : 0 ≤ a ∧ a ≤ 127) (hb : 0 ≤ b ∧ b ≤ 127) : 0 ≤ ((a.toNat ^^^ (a.toNat &&& b.toNat) : Nat) : Int) ∧ ((a.toNat ^^^ (a.toNat &&& b.toNat) : Nat) : Int) ≤ 127 := by
  rw [xor_sub7 _ _ (by omega) (by omega)]; omega
theorem ofInt_pos {x : Int} (h0 : -9223372036854775808 ≤ x) (h1 : x ≤ 9223372036854775807) (h : (BitVec.ofInt 64 x).toNat < 9223372036854775808) : x = ((BitVec.ofInt 64 x).toNat : Int) := by
  rw [BitVec.toNat_ofInt] at h ⊢
  omega
theorem ior_in {x y : Int} (hx : -9223372036854775808 ≤ x ∧ x ≤ 9223372036854775807) (hy : -9223372036854775808 ≤ y ∧ y ≤ 9223372036854775807) (h : 0 ≤ ior .i64 x y ∧ ior .i64 x y ≤ 127) : (0 ≤ x ∧ x ≤ 127) ∧ (0 ≤ y ∧ y ≤ 127) := by
  have hlt := (BitVec.ofInt 64 x ||| BitVec.ofInt 64 y).isLt
  have e : (BitVec.ofInt 64 x ||| BitVec.ofInt 64 y).toNat ≤ 127 := by
    unfold ior at h
    rw [show IntKind.i64.bits = 64 from rfl] at h
    generalize (BitVec.ofInt 64 x ||| BitVec.ofInt 64 y).toNat = m at h hlt
    rw [IntKind.wrap_i64] at h
    omega
  rw [BitVec.toNat_or] at e
  have e1 : (BitVec.ofInt 64 x).toNat ≤ 127 := Nat.le_trans Nat.left_le_or e
  have e2 : (BitVec.ofInt 64 y).toNat ≤ 127 := Nat.le_trans Nat.right_le_or e
  have k1 := ofInt_pos hx.1 hx.2 (by omega)
  have k2 := ofInt_pos hy.1 hy.2 (by omega)
  omega
theorem ior_7 {x y : Int} (hx : 0 ≤ x ∧ x ≤ 127) (hy : 0 ≤ y ∧ y ≤ 127) : ior .i64 x y = ((x.toNat ||| y.toNat : Nat) : Int) := by
  have h := ior_nat x.toNat y.toNat (by omega) (by omega)
  rwa [Int.toNat_of_nonneg hx.1, Int.toNat_of_nonneg hy.1] at h
section
variable {fx fy gx gy : Int} (b1 : -9223372036854775808 ≤ fx ∧ fx ≤ 9223372036854775807) (b2 : -9223372036854775808 ≤ fy ∧ fy ≤ 9223372036854775807) (b3 : -9223372036854775808 ≤ gx ∧ gx ≤ 9223372036854775807) (b4 : -9223372036854775808 ≤ gy ∧ gy ≤ 9223372036854775807)
theorem join_of (h : FaultP fx fy ∧ FaultP gx gy ∧ FaultP ((fx.toNat ||| gx.toNat : Nat) : Int) ((fy.toNat ||| gy.toNat : Nat) : Int)) : FaultP (ior .i64 fx gx) (ior .i64 fy gy) ∧ ior .i64 fx gx = ((fx.toNat ||| gx.toNat : Nat) : Int) ∧ ior .i64 fy gy = ((fy.toNat ||| gy.toNat : Nat) : Int) := by
  have e1 := ior_7 h.1.1 h.2.1.1
  have e2 := ior_7 h.1.2.1 h.2.1.2.1
  rw [e1, e2]; exact ⟨h.2.2, rfl, rfl⟩
theorem sub_zero7 {a b c d : Nat} (h : (a ||| c) &&& (b ||| d) = 0) : a &&& b = 0 ∧ c &&& d = 0 := by
  constructor
  · apply Nat.eq_of_testBit_eq
    intro i
    have := congrArg (fun z => z.testBit i) h
    simp only [Nat.testBit_and, Nat.testBit_or, Nat.zero_testBit] at this ⊢
    cases ha : a.testBit i <;> cases hb : b.testBit i <;> simp_all
  · apply Nat.eq_of_testBit_eq
    intro i
    have := congrArg (fun z => z.testBit i) h
    simp only [Nat.testBit_and, Nat.testBit_or, Nat.zero_testBit] at this ⊢
    cases ha : c.testBit i <;> cases hb : d.testBit i <;> simp_all
include b1 b2 b3 b4 in
theorem join_is (h : FaultP (ior .i64 fx gx) (ior .i64 fy gy)) : FaultP fx fy ∧ FaultP gx gy ∧ FaultP ((fx.toNat ||| gx.toNat : Nat) : Int) ((fy.toNat ||| gy.toNat : Nat) : Int) := by
  obtain ⟨h1, h2⟩ := ior_in b1 b3 h.1
  obtain ⟨h3, h4⟩ := ior_in b2 b4 h.2.1
  have e1 := ior_7 h1 h2
  have e2 := ior_7 h3 h4
  rw [e1, e2] at h
  have hz := h.2.2
  rw [Int.toNat_natCast, Int.toNat_natCast] at hz
  obtain ⟨z1, z2⟩ := sub_zero7 hz
  exact ⟨⟨h1, h3, z1⟩, ⟨h2, h4, z2⟩, h⟩
end

abbrev GM := List (PV × Option (Nat × List PV))
/-- The entries, as the state tells them. -/
def gE (m : List (Int × List Int)) : GM := m.map fun p => (.int .i64 p.1, some (p.2.length, p.2.map (.int .i64)))
theorem gE_len (m : List (Int × List Int)) : (gE m).length = m.length := by simp [gE]
theorem gE_at {m : List (Int × List Int)} {i : Nat} {c : Int} {v : List Int} (h : m[i]? = some (c, v)) : (gE m)[i]? = some (.int .i64 c, some (v.length, v.map (.int .i64))) := by
  unfold gE; rw [List.getElem?_map, h]; rfl
theorem findG_gE (c : Int) : ∀ (m : List (Int × List Int)) (i : Nat), findG (.int .i64) (.int .i64 c) (gE m) i = some (posI c m i)
  | [], i => rfl
  | p :: r, i => by
    have ih := findG_gE c r (i + 1)
    have hk : keyEq (.int .i64) (.int .i64 c) (.int .i64 p.1) = some (decide (c = p.1)) := by
      show (bif kEq .i64 .i64 then some (intEq c p.1) else none) = _
      rw [show kEq .i64 .i64 = true from rfl, cond_true, intEq_eq]
      by_cases e : c = p.1
      · subst e; simp
      · rw [decide_eq_false e]; simp [e]
    show (match keyEq (.int .i64) (.int .i64 c) (.int .i64 p.1) with
      | some true => some (some i)
      | some false => findG (.int .i64) (.int .i64 c) (gE r) (i + 1)
      | none => none) = some (if c = p.1 then some i else posI c r (i + 1))
    rw [hk]
    by_cases e : c = p.1
    · rw [if_pos e, decide_eq_true e]
    · rw [if_neg e, decide_eq_false e]; exact ih
theorem findG_set {t : TK} {k k' : PV} {o o' : Option (Nat × List PV)} : ∀ {es : GM} {j i : Nat}, es[j]? = some (k', o) → findG t k (es.set j (k', o')) i = findG t k es i
  | [], j, i, h => by simp at h
  | (k0, o0) :: r, 0, i, h => by
    simp at h; obtain ⟨rfl, rfl⟩ := h; rfl
  | (k0, o0) :: r, j + 1, i, h => by
    have ih := @findG_set t k k' o o' r j (i + 1) (by simpa using h)
    show (match keyEq t k k0 with
      | some true => some (some i)
      | some false => findG t k (r.set j (k', o')) (i + 1)
      | none => none) = _
    rw [ih]; rfl
theorem gE_hit {c d : Int} : ∀ {m : List (Int × List Int)} {i j : Nat} {v : List Int} {o : Option (Nat × List PV)}, posI c m i = some (i + j) → m[j]? = some (c, v) → ((gE m).set j (.int .i64 c, o)).set j (.int .i64 c, some (v.length + 1, v.map (.int .i64) ++ [.int .i64 d])) = gE (upI c d m)
  | [], i, j, v, o, h, _ => by simp [posI] at h
  | p :: r, i, j, v, o, h, hv => by
    unfold posI at h
    unfold upI
    split at h
    · rename_i hc
      have hj : j = 0 := by simp only [Option.some.injEq] at h; omega
      subst hj
      simp at hv
      rw [if_pos hc]
      subst hv
      simp [gE]
    · rename_i hc
      have hle := posI_le c r (i + 1) (i + j) h
      rw [if_neg hc]
      obtain ⟨j, rfl⟩ : ∃ j', j = j' + 1 := ⟨j - 1, by omega⟩
      have ih := @gE_hit c d r (i + 1) j v o (by rw [h]; congr 1; omega) (by simpa using hv)
      show _ :: _ = _ :: gE (upI c d r)
      rw [← ih]; rfl
theorem gE_miss {c d : Int} : ∀ {m : List (Int × List Int)} {i : Nat}, posI c m i = none → gE m ++ [(.int .i64 c, some (0 + 1, [] ++ [.int .i64 d]))] = gE (upI c d m)
  | [], i, h => rfl
  | p :: r, i, h => by
    unfold posI at h
    unfold upI
    split at h
    · cases h
    · rename_i hc
      rw [if_neg hc]
      have ih := @gE_miss c d r (i + 1) h
      show _ :: (gE r ++ _) = _ :: gE (upI c d r)
      rw [← ih]
theorem flat_snoc (l : List Int) (d : Int) : PV.flatL (l.map (PV.int .i64) ++ [PV.int .i64 d]) = true := by
  have : l.map (PV.int .i64) ++ [PV.int .i64 d] = (l ++ [d]).map (PV.int .i64) := by simp
  rw [this]; exact flat_map _ (fun _ => rfl) _

def fxOf (j : Nat) : Int := ((j / 128 : Nat) : Int)
def fyOf (j : Nat) : Int := ((j % 128 : Nat) : Int)
theorem fx_at {d l : Int} (d0 : 0 ≤ d) (l0 : 0 ≤ l) (l1 : l < 128) : fxOf (d.toNat * 128 + l.toNat) = d ∧ fyOf (d.toNat * 128 + l.toNat) = l := by
  unfold fxOf fyOf; omega
def fltA (k : Nat) : List Nat := (List.range k).filter fun j => decide (FaultP (fxOf j) (fyOf j))
theorem fltA_yes {k : Nat} (h : FaultP (fxOf k) (fyOf k)) : fltA (k + 1) = fltA k ++ [k] := by
  unfold fltA; rw [List.range_succ, List.filter_append, List.filter_cons, if_pos (decide_eq_true h)]; rfl
theorem fltA_no {k : Nat} (h : ¬ FaultP (fxOf k) (fyOf k)) : fltA (k + 1) = fltA k := by
  unfold fltA; rw [List.range_succ, List.filter_append, List.filter_cons, if_neg (fun e => h (of_decide_eq_true e))]; simp
theorem fltA_get {x : Nat} (hp : FaultP (fxOf x) (fyOf x)) : ∀ m, x < m → (fltA m)[(fltA x).length]? = some x
  | 0, h => absurd h (Nat.not_lt_zero x)
  | m + 1, h => by
    by_cases e : x = m
    · subst e; rw [fltA_yes hp, List.getElem?_append_right (Nat.le_refl _), Nat.sub_self]; rfl
    · have ih := fltA_get hp m (by omega)
      by_cases c : FaultP (fxOf m) (fyOf m)
      · rw [fltA_yes c]
        have hl : (fltA x).length < (fltA m).length := by
          by_cases hc : (fltA x).length < (fltA m).length
          · exact hc
          · rw [List.getElem?_eq_none (by omega)] at ih; cases ih
        rw [List.getElem?_append_left hl]; exact ih
      · rw [fltA_no c]; exact ih
def fE (i : Nat) : List PV := [.agg [.int .i64 (fxOf ((fltA 16384).getD i 0)), .int .i64 (fyOf ((fltA 16384).getD i 0))]]
theorem fE_lt {d l : Int} (d0 : 0 ≤ d) (d1 : d < 128) (l0 : 0 ≤ l) (l1 : l < 128) (h : FaultP d l) : (fltA (d.toNat * 128 + l.toNat)).length < (fltA 16384).length := by
  have e := fx_at d0 l0 l1
  have k := fltA_get (x := d.toNat * 128 + l.toNat) (by rw [e.1, e.2]; exact h) 16384 (by omega)
  by_cases hc : (fltA (d.toNat * 128 + l.toNat)).length < (fltA 16384).length
  · exact hc
  · rw [List.getElem?_eq_none (by omega)] at k; cases k
theorem fE_at {d l : Int} (d0 : 0 ≤ d) (d1 : d < 128) (l0 : 0 ≤ l) (l1 : l < 128) (h : FaultP d l) : fE (fltA (d.toNat * 128 + l.toNat)).length = [.agg [.int .i64 d, .int .i64 l]] := by
  have e := fx_at d0 l0 l1
  have k := fltA_get (x := d.toNat * 128 + l.toNat) (by rw [e.1, e.2]; exact h) 16384 (by omega)
  unfold fE
  rw [List.getD_eq_getElem?_getD, k, Option.getD_some, e.1, e.2]
theorem fE_yes {d l : Int} (d0 : 0 ≤ d) (l0 : 0 ≤ l) (l1 : l < 128) (h : FaultP d l) : (fltA (d.toNat * 128 + l.toNat)).length + 1 = (fltA (d.toNat * 128 + (l + 1).toNat)).length := by
  have e := fx_at d0 l0 l1
  rw [show d.toNat * 128 + (l + 1).toNat = d.toNat * 128 + l.toNat + 1 by omega, fltA_yes (by rw [e.1, e.2]; exact h), List.length_append]; rfl
theorem fE_no {d l : Int} (d0 : 0 ≤ d) (l0 : 0 ≤ l) (l1 : l < 128) (h : ¬ FaultP d l) : (fltA (d.toNat * 128 + l.toNat)).length = (fltA (d.toNat * 128 + (l + 1).toNat)).length := by
  have e := fx_at d0 l0 l1
  rw [show d.toNat * 128 + (l + 1).toNat = d.toNat * 128 + l.toNat + 1 by omega, fltA_no (by rw [e.1, e.2]; exact h)]
theorem fE_ok {i : Nat} (h : i < (fltA 16384).length) : FaultP (fxOf ((fltA 16384).getD i 0)) (fyOf ((fltA 16384).getD i 0)) := by
  rw [List.getD_eq_getElem?_getD, List.getElem?_eq_getElem h, Option.getD_some]
  have := List.getElem_mem h
  unfold fltA at this
  exact of_decide_eq_true (List.mem_filter.1 this).2
theorem fltA_len (k : Nat) : (fltA k).length ≤ k := by
  unfold fltA; exact Nat.le_trans (List.length_filter_le _ _) (by simp)
def hOk (s : Int) (j : Nat) : Bool := decide (((cnt7 (fxOf j).toNat + cnt7 (fyOf j).toNat : Nat) : Int) = s ∧ (grp (fxOf j) (fyOf j)).length = 10)
def cHi (s : Int) (i : Nat) : Nat := ((fltA 16384).take i).countP (hOk s)
theorem cHi_le (s : Int) (i : Nat) : cHi s i ≤ i := by
  unfold cHi
  exact Nat.le_trans List.countP_le_length (by rw [List.length_take]; omega)
theorem cHi_succ (s : Int) {i : Nat} (h : i < (fltA 16384).length) : cHi s (i + 1) = cHi s i + if hOk s ((fltA 16384).getD i 0) = true then 1 else 0 := by
  unfold cHi
  rw [List.take_add_one, List.getElem?_eq_getElem h, List.countP_append, List.getD_eq_getElem?_getD, List.getElem?_eq_getElem h, Option.getD_some, Option.toList_some, List.countP_singleton]
theorem cHi_yes (s : Int) {i : Nat} (h : i < (fltA 16384).length) (k : ((cnt7 (fxOf ((fltA 16384).getD i 0)).toNat + cnt7 (fyOf ((fltA 16384).getD i 0)).toNat : Nat) : Int) = s ∧ (grp (fxOf ((fltA 16384).getD i 0)) (fyOf ((fltA 16384).getD i 0))).length = 10) : ((cHi s i : Nat) : Int) + 1 = ((cHi s (i + 1) : Nat) : Int) := by
  have e : hOk s ((fltA 16384).getD i 0) = true := decide_eq_true k
  rw [cHi_succ s h, if_pos e]; rfl
theorem cHi_no (s : Int) {i : Nat} (h : i < (fltA 16384).length) (k : ¬ (((cnt7 (fxOf ((fltA 16384).getD i 0)).toNat + cnt7 (fyOf ((fltA 16384).getD i 0)).toNat : Nat) : Int) = s ∧ (grp (fxOf ((fltA 16384).getD i 0)) (fyOf ((fltA 16384).getD i 0))).length = 10)) : ((cHi s i : Nat) : Int) = ((cHi s (i + 1) : Nat) : Int) := by
  have e : ¬ hOk s ((fltA 16384).getD i 0) = true := fun e => k (of_decide_eq_true e)
  rw [cHi_succ s h, if_neg e]; rfl
def cHs (s : Int) (k : Nat) : Nat := (fltA k).countP (hOk s)
theorem cHs_end (s : Int) : cHi s (fltA 16384).length = cHs s 16384 := by
  unfold cHi cHs; rw [List.take_length]
theorem cHs_yes (s : Int) {d l : Int} (d0 : 0 ≤ d) (l0 : 0 ≤ l) (l1 : l < 128) (h : FaultP d l) (h1 : ((cnt7 d.toNat + cnt7 l.toNat : Nat) : Int) = s) (h2 : (grp d l).length = 10) : ((cHs s (d.toNat * 128 + l.toNat) : Nat) : Int) + 1 = ((cHs s (d.toNat * 128 + (l + 1).toNat) : Nat) : Int) := by
  have e := fx_at d0 l0 l1
  unfold cHs
  rw [show d.toNat * 128 + (l + 1).toNat = d.toNat * 128 + l.toNat + 1 by omega, fltA_yes (by rw [e.1, e.2]; exact h), List.countP_append, List.countP_singleton, if_pos (by unfold hOk; rw [e.1, e.2]; exact decide_eq_true ⟨h1, h2⟩)]; rfl
theorem cHs_no (s : Int) {d l : Int} (d0 : 0 ≤ d) (l0 : 0 ≤ l) (l1 : l < 128) (h : ¬ (FaultP d l ∧ ((cnt7 d.toNat + cnt7 l.toNat : Nat) : Int) = s ∧ (grp d l).length = 10)) : ((cHs s (d.toNat * 128 + l.toNat) : Nat) : Int) = ((cHs s (d.toNat * 128 + (l + 1).toNat) : Nat) : Int) := by
  have e := fx_at d0 l0 l1
  unfold cHs
  rw [show d.toNat * 128 + (l + 1).toNat = d.toNat * 128 + l.toNat + 1 by omega]
  by_cases c : FaultP d l
  · rw [fltA_yes (by rw [e.1, e.2]; exact c), List.countP_append, List.countP_singleton, if_neg (by unfold hOk; rw [e.1, e.2]; exact fun k => h ⟨c, of_decide_eq_true k⟩)]; rfl
  · rw [fltA_no (by rw [e.1, e.2]; exact c)]
theorem cHs_le (s : Int) (k : Nat) : cHs s k ≤ k := Nat.le_trans List.countP_le_length (fltA_len k)
theorem cnt7_or {x y : Int} (h : FaultP x y) : cnt7 (x.toNat ||| y.toNat) = cnt7 x.toNat + cnt7 y.toNat := by
  have k : below 128 (fun x => below 128 (fun y => !Nat.beq (x &&& y) 0 || Nat.beq (cnt7 (x ||| y)) (cnt7 x + cnt7 y))) = true := by kernel_rfl
  have hb := h.b
  have k2 := below_ok (below_ok k x.toNat (by omega)) y.toNat (by omega)
  rw [h.2.2] at k2
  exact Nat.eq_of_beq_eq_true (by simpa using k2)

theorem hasK_ints : ∀ (n : Nat) (l : List Int), n ≤ l.length → HasK (List.replicate n [BK.int .i64]).flatten (l.map (PV.int .i64))
  | 0, _, _ => trivial
  | n + 1, [], h => absurd h (by simp)
  | n + 1, x :: l, h => by
    rw [List.replicate_succ, List.flatten_cons]
    exact ⟨PV.int .i64 x, l.map (PV.int .i64), rfl, ⟨x, rfl⟩, hasK_ints n l (by simpa using h)⟩
theorem eqP_ints : ∀ (a b : List Int), a.length = b.length → (EqP (a.map (PV.int .i64)) (b.map (PV.int .i64)) ↔ a = b)
  | [], [], _ => by simp [EqP]
  | [], _ :: _, h => by simp at h
  | _ :: _, [], h => by simp at h
  | x :: a, y :: b, h => by
    have ih := eqP_ints a b (by simpa using h)
    simp only [List.map_cons, EqP, Eq1, ih, List.cons.injEq]
theorem res_agg7 {az : TypeId → Nat} {σ : St} {t u l e : Nat} {cs : List PV} (h : σ.at t = some (.box l e cs)) (haz : (az u == 0) = false) (hf : PV.flatL cs = true) (hl : cs.length = az u) : St.res az σ [.cell t u] = some [.val (.agg cs)] := by
  unfold St.res
  rw [h, show St.res az σ [] = some [] from rfl]
  simp only [haz, Bool.false_eq_true, if_false]
  rw [hf, hl]
  simp
theorem put_all7 {a b : List PV} {n : Nat} (ha : a.length = n) (hb : b.length = n) : putAt a 0 (PV.agg b).cells = b := by
  unfold putAt PV.cells
  simp only [List.take_zero, List.nil_append, Nat.zero_add]
  rw [List.drop_of_length_le (by omega), List.append_nil]
theorem fltS {b k : Int} (h : StP b k) : FaultP (sdk b k) (slt b k) := by
  have hb := h.bd
  refine ⟨hb.1, hb.2, ?_⟩
  unfold sdk slt
  by_cases e : k = 1
  · rw [if_neg (show ¬ k = 2 by omega)]; simp
  · rw [if_neg e]; simp
/-- The digit cells of a test. -/
def celT (l : List Int) : List Int := l.map fun d => digT.getD d.toNat 0
theorem celT_len (l : List Int) : (celT l).length = l.length := by simp [celT]
theorem celT_at {l : List Int} {j : Nat} (h : j < l.length) : (celT l).getD j 0 = digT.getD (l.getD j 0).toNat 0 := by
  unfold celT
  simp [List.getD_eq_getElem?_getD, h]
/-- What the first m digits of a test show under a State, and zeros. -/
def shwK (l : List Int) (b k : Int) (m : Nat) : List Int := (List.range 10).map fun j => if j < m then shF (sdk b k) (slt b k) (digT.getD (l.getD j 0).toNat 0) else 0
theorem shwK_len (l : List Int) (b k : Int) (m : Nat) : (shwK l b k m).length = 10 := by simp [shwK]
theorem shwK_at {l : List Int} {b k : Int} {m j : Nat} (h : j < 10) : (shwK l b k m).getD j 0 = if j < m then shF (sdk b k) (slt b k) (digT.getD (l.getD j 0).toNat 0) else 0 := by
  unfold shwK
  rw [List.getD_eq_getElem?_getD, List.getElem?_map, List.getElem?_range h]; rfl
theorem shw_put {l : List Int} {b k v : Int} {m o : Nat} (h : m < 10) (ho : o = m) (hv : v = shF (sdk b k) (slt b k) (digT.getD (l.getD m 0).toNat 0)) : putAt ((shwK l b k m).map (PV.int .i64)) (o * 1) [PV.int .i64 v] = (shwK l b k (m + 1)).map (PV.int .i64) := by
  subst ho; subst hv
  rw [put_map1 (PV.int .i64) _ (by rw [shwK_len]; exact h)]
  congr 1
  apply List.ext_getElem (by simp [shwK])
  intro j h1 h2
  rw [List.getElem_set]
  have hj : j < 10 := by simpa [shwK] using h1
  simp only [shwK, List.getElem_map, List.getElem_range]
  by_cases e : o = j
  · rw [if_pos e, if_pos (by omega), e]
  · rw [if_neg e]
    by_cases e2 : j < o
    · rw [if_pos e2, if_pos (by omega)]
    · rw [if_neg e2, if_neg (by omega)]
theorem shF_good (n : Nat) : shF (sdk 0 0) (slt 0 0) (digT.getD n 0) = digT.getD n 0 := by
  by_cases h : n < 10
  · have key : ∀ i : Fin 10, shF (sdk 0 0) (slt 0 0) (digT.getD i.val 0) = digT.getD i.val 0 := by decide
    exact key ⟨n, h⟩
  · have e : digT.getD n 0 = 0 := by
      rw [List.getD_eq_getElem?_getD, List.getElem?_eq_none (by simp [digT]; omega)]; rfl
    rw [e]; decide
theorem shw_ne {l : List Int} (hT : TstP l) (b k : Int) : shwK l b k l.length ≠ shwK l 0 0 l.length ↔ 0 ≤ plc l b k := by
  have h10 := hT.1
  constructor
  · intro hne
    by_cases hp : 0 ≤ plc l b k
    · exact hp
    · exfalso
      apply hne
      apply List.ext_getElem (by simp [shwK])
      intro j h1 h2
      have hj : j < 10 := by simpa [shwK] using h1
      simp only [shwK, List.getElem_map, List.getElem_range]
      by_cases e : j < l.length
      · rw [if_pos e, if_pos e, shF_good]
        have hall : ∀ i, i < l.length → ¬ FdP b k (l.getD i 0) := by
          have hn := plc_bd l b k
          have hpl : plc l b k = -1 := by omega
          intro i hi hf
          unfold plc at hpl
          split at hpl
          · omega
          · rename_i hnone
            have := List.find?_eq_none.1 hnone i (List.mem_range.2 hi)
            exact this (decide_eq_true hf)
        have := hall j e
        unfold FdP at this
        exact Decidable.not_not.1 this
      · rw [if_neg e, if_neg e]
  · intro hp heq
    unfold plc at hp
    split at hp
    · rename_i i hi
      have hm := List.mem_range.1 (List.mem_of_find?_eq_some hi)
      have hf0 := List.find?_some (p := fun i => decide (FdP b k (l.getD i 0))) hi
      have hf : FdP b k (l.getD i 0) := of_decide_eq_true hf0
      have e1 := shwK_at (l := l) (b := b) (k := k) (m := l.length) (j := i) (by omega)
      have e2 := shwK_at (l := l) (b := 0) (k := 0) (m := l.length) (j := i) (by omega)
      rw [if_pos hm] at e1 e2
      rw [heq, e2, shF_good] at e1
      exact hf e1.symm
    · omega
/-- The States of the first so many that are as wanted. -/
def flt (p : Int → Int → Prop) [∀ b k, Decidable (p b k)] (n : Nat) : List (Int × Int) := (allS.take n).filter fun s => decide (p s.1 s.2)
theorem flt_len (p : Int → Int → Prop) [∀ b k, Decidable (p b k)] (n : Nat) : (flt p n).length ≤ 15 := by
  unfold flt
  refine Nat.le_trans (List.length_filter_le _ _) ?_
  rw [List.length_take, allS_len]; omega
def stN (k b : Nat) : Nat := if k = 0 then min b 1 else 1 + 7 * (k - 1) + b
theorem stN_yes {b k : Int} (hk : 0 ≤ k ∧ k ≤ 2) (hb : 0 ≤ b ∧ b ≤ 6) (h : StP b k) : allS.take (stN k.toNat (b + 1).toNat) = allS.take (stN k.toNat b.toNat) ++ [(b, k)] := by
  obtain ⟨kn, rfl⟩ : ∃ n : Nat, k = n := ⟨k.toNat, by omega⟩
  obtain ⟨bn, rfl⟩ : ∃ n : Nat, b = n := ⟨b.toNat, by omega⟩
  have key : ∀ i : Fin 3, ∀ j : Fin 7, StP (j.val : Int) (i.val : Int) → allS.take (stN i.val (j.val + 1)) = allS.take (stN i.val j.val) ++ [((j.val : Int), (i.val : Int))] := by decide
  have := key ⟨kn, by omega⟩ ⟨bn, by omega⟩ h
  rw [show ((bn : Int) + 1).toNat = bn + 1 by omega]
  exact this
theorem stN_no {b k : Int} (hk : 0 ≤ k ∧ k ≤ 2) (hb : 0 ≤ b ∧ b ≤ 6) (h : ¬ StP b k) : allS.take (stN k.toNat (b + 1).toNat) = allS.take (stN k.toNat b.toNat) := by
  obtain ⟨kn, rfl⟩ : ∃ n : Nat, k = n := ⟨k.toNat, by omega⟩
  obtain ⟨bn, rfl⟩ : ∃ n : Nat, b = n := ⟨b.toNat, by omega⟩
  have key : ∀ i : Fin 3, ∀ j : Fin 7, ¬ StP (j.val : Int) (i.val : Int) → allS.take (stN i.val (j.val + 1)) = allS.take (stN i.val j.val) := by decide
  have := key ⟨kn, by omega⟩ ⟨bn, by omega⟩ h
  rw [show ((bn : Int) + 1).toNat = bn + 1 by omega]
  exact this
theorem stN_next {k : Int} (hk : 0 ≤ k ∧ k ≤ 2) : stN (k + 1).toNat 0 = stN k.toNat 7 := by
  obtain ⟨kn, rfl⟩ : ∃ n : Nat, k = n := ⟨k.toNat, by omega⟩
  rw [show ((kn : Int) + 1).toNat = kn + 1 by omega, show ((kn : Int)).toNat = kn by omega]
  have key : ∀ i : Fin 3, stN (i.val + 1) 0 = stN i.val 7 := by decide
  exact key ⟨kn, by omega⟩
theorem flt_yes {p : Int → Int → Prop} [∀ b k, Decidable (p b k)] {b k : Int} (hk : 0 ≤ k ∧ k ≤ 2) (hb : 0 ≤ b ∧ b ≤ 6) (h : StP b k) (hp : p b k) : flt p (stN k.toNat (b + 1).toNat) = flt p (stN k.toNat b.toNat) ++ [(b, k)] := by
  unfold flt
  rw [stN_yes hk hb h, List.filter_append, List.filter_cons, if_pos (decide_eq_true hp)]; rfl
theorem flt_no {p : Int → Int → Prop} [∀ b k, Decidable (p b k)] {b k : Int} (hk : 0 ≤ k ∧ k ≤ 2) (hb : 0 ≤ b ∧ b ≤ 6) (h : ¬ (StP b k ∧ p b k)) : flt p (stN k.toNat (b + 1).toNat) = flt p (stN k.toNat b.toNat) := by
  unfold flt
  by_cases hs : StP b k
  · rw [stN_yes hk hb hs, List.filter_append, List.filter_cons, if_neg (fun e => h ⟨hs, of_decide_eq_true e⟩)]; simp
  · rw [stN_no hk hb hs]
theorem snocS {g g' : List (Int × Int)} {a b : Int} (h : g' = g ++ [(a, b)]) : g'.length = g.length + 1 ∧ fl g' = fl g ++ [PV.int .i64 a, PV.int .i64 b] := by
  subst h; exact ⟨by simp, by simp [fl]⟩
theorem fnd_of {l : List Int} (hT : TstP l) : flt (fun b k => 0 ≤ plc l b k) 15 = fnd l true ∧ flt (fun b k => k ≠ 0 ∧ ¬ 0 ≤ plc l b k) 15 = fnd l false := by
  have h0 : ¬ 0 ≤ plc l 0 0 := fun h => (shw_ne hT 0 0).2 h rfl
  have e : allS = (0, 0) :: allS.drop 1 := rfl
  have ek : allS.take 15 = allS := rfl
  have ed : (allS.take 15).drop 1 = allS.drop 1 := rfl
  constructor
  · unfold flt fnd fndK
    rw [ed, ek, e, List.filter_cons, if_neg (fun z => h0 (of_decide_eq_true z))]
    apply List.filter_congr
    intro s _
    simp
  · unfold flt fnd fndK
    rw [ed, ek, e, List.filter_cons, if_neg (fun z => (of_decide_eq_true z).1 rfl)]
    apply List.filter_congr
    intro s hs
    have hk : s.2 ≠ 0 := by
      have key : ∀ s ∈ allS.drop 1, s.2 ≠ 0 := by decide
      exact key s hs
    by_cases hp : 0 ≤ plc l s.1 s.2
    · rw [decide_eq_false (fun z => z.2 hp), decide_eq_true hp]; rfl
    · rw [decide_eq_true ⟨hk, hp⟩, decide_eq_false hp]; rfl

end Go.Proofs.YtmjgkhfjhedpkaaDoor
