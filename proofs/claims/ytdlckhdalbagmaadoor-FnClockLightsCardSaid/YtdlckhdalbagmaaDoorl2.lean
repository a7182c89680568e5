/- Contracts of functions, walked over the pure layer; each says for which arguments. -/
import Derived.Test.YtdlckhdalbagmaaDoorl2Ty
import Derived.Test.YtdlckhdalbagmaaDoorTf
import Derived.Test.YtdlckhdalbagmaaDoorl1
import Derived.Test.YtdlckhdalbagmaaDoorShelf
namespace Go.Proofs.YtdlckhdalbagmaaDoor
open Go.RowKit l2Ty
set_option linter.unusedVariables false
set_option linter.unusedSimpArgs false

def abcG : List UInt8 := [97, 98, 99, 100, 101, 102, 103]
def ixR (r : Int) : Int := if 97 ≤ r ∧ r ≤ 103 then r - 97 else -1
set_option maxRecDepth 100000 in
theorem ix_ascii (r : Int) (h0 : 0 ≤ r) (h1 : r < 128) : Lib.indexByte abcG r.toNat.toUInt8 = ixR r := by
  have k : below 128 (fun n => intEq (Lib.indexByte abcG n.toUInt8) (ixR (n : Int))) = true := by kernel_rfl
  have := below_ok k r.toNat (by omega)
  rw [intEq_eq, beq_iff_eq] at this
  rwa [Int.toNat_of_nonneg h0] at this
theorem ix_none (c : UInt8) (h : 128 ≤ c.toNat) (l : List UInt8) (hl : ∀ b ∈ l, b.toNat < 128) : Lib.indexByte l c = -1 := by
  induction l with
  | nil => rfl
  | cons b l ih =>
    have hb := hl b (by simp)
    have hne : (b == c) = false := by
      rw [beq_eq_false_iff_ne]; intro e; subst e; omega
    unfold Lib.indexByte
    rw [ih (fun x hx => hl x (by simp [hx])), hne]; rfl
theorem abcG_lt : ∀ b ∈ abcG, b.toNat < 128 := by decide


theorem indexByte_c (s : List UInt8) (b : UInt8) : PCalls Tryd.prog 173 [.str s, .int .u8 b.toNat] (· = [.val (.int .i64 (Lib.indexByte s b))]) := by
  refine pcalls_flat (enters_of Tryd.func173 (by kernel_rfl) rfl) fun w vs ha => ?_
  obtain ⟨v0, r0, rfl, ha0, ha⟩ := repArgs_cons ha
  obtain ⟨v1, r1, rfl, ha1, ha⟩ := repArgs_cons ha
  obtain rfl := repArgs_nil ha
  simp only [Rep] at ha0 ha1
  subst ha0; subst ha1
  refine (Tryd.strings_IndexByte (.mk s.toArray) b.toNat w).mono fun e w' ⟨he, hw⟩ => ⟨[.int .i64 (Lib.indexByte s b)], [.int .i64 (Lib.indexByte s b)], ?_, hw ▸ Below.refl _ _, ⟨_, _, rfl, by simp [Rep], rfl⟩, rfl⟩
  rw [he]; simp [packV]
theorem indexRune_ascii (r : Int) (h0 : 0 ≤ r) (h1 : r < 128) : PCalls Tryd.prog 166 [.str abcG, .int .i32 r] (· = [.val (.int .i64 (ixR r))]) := by
  refine pcalls_flat (enters_of Tryd.func166 (by kernel_rfl) rfl) fun w vs ha => ?_
  obtain ⟨v0, r0, rfl, ha0, ha⟩ := repArgs_cons ha
  obtain ⟨v1, r1, rfl, ha1, ha⟩ := repArgs_cons ha
  obtain rfl := repArgs_nil ha
  simp only [Rep] at ha0 ha1
  subst ha0; subst ha1
  refine (Tryd.strings_IndexRune_ascii (.mk abcG.toArray) r w h0 h1).mono fun e w' ⟨he, hw⟩ => ⟨[.int .i64 (ixR r)], [.int .i64 (ixR r)], ?_, hw ▸ Below.refl _ _, ⟨_, _, rfl, by simp [Rep], rfl⟩, rfl⟩
  rw [he, ix_ascii r h0 h1]; rfl

theorem validRune_c (r : Int) : PCalls Tryd.prog 174 [.int .i32 r] (· = [.val (.bool (decide ((0 ≤ r ∧ r < 0xD800) ∨ (0xDFFF < r ∧ r ≤ 0x10FFFF))))]) := by
  refine pcalls_flat (enters_of Tryd.func174 (by kernel_rfl) rfl) fun w vs ha => ?_
  obtain ⟨v0, r0, rfl, ha0, ha⟩ := repArgs_cons ha
  obtain rfl := repArgs_nil ha
  simp only [Rep] at ha0
  subst ha0
  exact (Tryd.utf8_ValidRune r w).mono fun e w' ⟨he, hw⟩ => ⟨[.bool (Lib.validRune r)], [.bool (Lib.validRune r)], he, hw ▸ Below.refl _ _, ⟨_, _, rfl, by simp [Rep], rfl⟩, rfl⟩

set_option maxRecDepth 4000 in
theorem indexRune_hi (r : Int) (h0 : 128 ≤ r) (h1 : r ≤ 1114111) : PCalls Tryd.prog 166 [.str abcG, .int .i32 r] (· = [.val (.int .i64 (-1))]) := by
  refine pcalls_of_code (n := 187) az Tryd.func166 (by kernel_rfl) rfl rfl (Nat.le_of_ble_eq_true rfl) (by intro t u h; simp [Tryd.f166] at h) ?_
  have hal : abcG.length = 7 := rfl
  have hab : ∀ j, j < abcG.length → (abcG.getD j 0).toNat < 128 := by decide
  have he := encode_hi h0
  have hel := he.1
  have hel2 := he.2.1
  refine code_seq (fun K1 hK1 => ?_)
  refine code_region ?_
  refine list_cons rfl (op_q (q_assign rfl (by decide)) ?_)
  refine list_nil ?_
  refine hK1 _ ?_; clear hK1 K1
  refine code_block ?_
  refine code_seq (fun K2 hK2 => ?_)
  refine code_region ?_
  refine list_cons rfl (op_q (q_move rfl (by decide)) ?_)
  refine list_cons rfl (op_q (q_le rfl rfl (by decide)) ?_)
  refine list_cons rfl (op_q (q_move rfl (by decide)) ?_)
  refine list_guard_d rfl rfl rfl rfl (by decide) rfl (by decide) (fun h1 => ?_) (fun h1 => ?_)
  · simp only [Bool.false_eq_true, if_true, if_false, Decidable.not_not] at h1
    refine id (op_q (q_move rfl (by decide)) ?_)
    refine list_guard_y rfl rfl rfl rfl (by decide) rfl ?_
    refine id (op_q (q_lt rfl rfl (by decide)) ?_)
    refine list_cons rfl (op_q (q_pick rfl rfl (by decide)) ?_)
    refine list_cons rfl (op_q (q_assign rfl (by decide)) ?_)
    refine list_nil ?_
    refine hK2 _ ?_; clear hK2 K2
    refine code_cond_d rfl (fun h2 => ?_) (fun h2 => ?_)
    · skip
      (try simp only [Decidable.not_not] at h2)
      exfalso
      omega
    (try simp only [Decidable.not_not] at h2)
    refine code_seq (fun K3 hK3 => ?_)
    refine code_region ?_
    refine list_cons rfl (op_q (q_move rfl (by decide)) ?_)
    refine list_cons rfl (op_q (q_eq rfl rfl (by decide)) ?_)
    refine list_cons rfl (op_q (q_assign rfl (by decide)) ?_)
    refine list_nil ?_
    refine hK3 _ ?_; clear hK3 K3
    refine codeT.imp (σ' := [(0, _), (1, _), (4, _), (171, _)]) ?_ (imp_covers ⟨rfl, rfl, rfl, rfl, trivial⟩)
    refine code_cond_d rfl (fun h3 => ?_) (fun h3 => ?_)
    · skip
      (try simp only [Decidable.not_not] at h3)
      refine code_seq (fun K4 hK4 => ?_)
      refine code_seq (fun K5 hK5 => ?_)
      refine code_region ?_
      refine list_cons rfl (op_q (q_move rfl (by decide)) ?_)
      refine list_cons rfl (op_range_str Tryd.underlying9 rfl (by decide) (by decide) rfl ?_)
      refine list_nil ?_
      refine hK5 _ ?_; clear hK5 K5
      refine code_block ?_
      refine code_loop (X := Int × Nat) (fun x => [(0, .val (.str abcG)), (1, .val (.int .i32 r)), (4, .val (.int .i64 x.1)), (175, .sit 175 (abcG) x.2)]) (fun x => x.2 ≤ 7) (fun x => 7 - x.2) (_, _) (imp_covers ⟨rfl, rfl, rfl, rfl, trivial⟩) ?_ ?_
      · (try dsimp only)
        omega
      · intro x hI
        obtain ⟨t4, t175_i⟩ := x
        replace hI : t175_i ≤ 7 := hI
        show codeT _ _ _ [(0, .val (.str abcG)), (1, .val (.int .i32 r)), (4, .val (.int .i64 t4)), (175, .sit 175 (abcG) t175_i)] _
        refine code_seq (fun K6 hK6 => ?_)
        refine code_region ?_
        refine list_cons rfl (op_nextA (h := 175) hab rfl rfl (by decide) (fun h4 => ?_) (fun h4 => ?_))
        · skip
          refine list_cons rfl (op_q (q_extract rfl rfl (by decide)) ?_)
          refine list_nil ?_
          refine hK6 _ ?_; clear hK6 K6
          refine code_seq (fun K7 hK7 => ?_)
          refine code_cond_f rfl ?_
          refine code_exit ?_
          refine then_x ?_; clear hK7 K7
          refine then_x ?_
          refine blk_hit ?_
          refine hK4 _ ?_; clear hK4 K4
          refine code_seq (fun K8 hK8 => ?_)
          refine code_region ?_
          refine list_cons rfl (op_q (q_assign rfl (by decide)) ?_)
          refine list_nil ?_
          refine hK8 _ ?_; clear hK8 K8
          refine code_ret ?_
          refine blk_r ?_
          refine ends_ret (cs := []) rfl rfl rfl rfl trivial ?_
          rfl
        · skip
          refine list_cons rfl (op_q (q_extract rfl rfl (by decide)) ?_)
          refine list_nil ?_
          refine hK6 _ ?_; clear hK6 K6
          refine code_seq (fun K9 hK9 => ?_)
          refine code_cond_t rfl ?_
          refine code_skip ?_
          refine hK9 _ ?_; clear hK9 K9
          refine code_block ?_
          refine code_seq (fun K10 hK10 => ?_)
          refine code_region ?_
          refine list_cons rfl (op_q (q_extract rfl rfl (by decide)) ?_)
          refine list_cons rfl (op_q (q_extract rfl rfl (by decide)) ?_)
          refine list_cons rfl (op_q (q_assign rfl (by decide)) ?_)
          refine list_cons rfl (op_q (q_assign rfl (by decide)) ?_)
          refine list_nil ?_
          refine hK10 _ ?_; clear hK10 K10
          refine code_seq (fun K11 hK11 => ?_)
          refine code_region ?_
          refine list_cons rfl (op_q (q_move rfl (by decide)) ?_)
          refine list_cons rfl (op_q (q_eq rfl rfl (by decide)) ?_)
          refine list_nil ?_
          refine hK11 _ ?_; clear hK11 K11
          refine code_cond_d rfl (fun h5 => ?_) (fun h5 => ?_)
          · skip
            (try simp only [Decidable.not_not] at h5)
            exfalso
            have := hab t175_i (by omega); omega
          (try simp only [Decidable.not_not] at h5)
          refine code_skip ?_
          refine blk_n ?_
          refine then_n ⟨(_, _), imp_covers ⟨rfl, rfl, rfl, rfl, trivial⟩, ?_, ?_⟩
          · (try dsimp only)
            omega
          · omega
    (try simp only [Decidable.not_not] at h3)
    refine code_seq (fun K12 hK12 => ?_)
    refine code_region ?_
    refine list_cons rfl (op_q (q_move rfl (by decide)) ?_)
    refine list_cons rfl (op_call _ (validRune_c _) rfl rfl (by decide) (by decide) (by decide) rfl ?_)
    rintro _ rfl
    refine list_cons rfl (op_q (by first | exact q_notd rfl (by decide) | exact q_not rfl (by decide)) ?_)
    refine list_cons rfl (op_q (q_assign rfl (by decide)) ?_)
    refine list_nil ?_
    refine hK12 _ ?_; clear hK12 K12
    refine codeT.imp (σ' := [(0, _), (1, _), (4, _), (183, _)]) ?_ (imp_covers ⟨rfl, rfl, rfl, rfl, trivial⟩)
    refine code_cond_d rfl (fun h6 => ?_) (fun h6 => ?_)
    · skip
      (try simp only [Decidable.not_not] at h6)
      refine code_seq (fun K13 hK13 => ?_)
      refine code_region ?_
      refine list_cons rfl (op_q (q_assign rfl (by decide)) ?_)
      refine list_nil ?_
      refine hK13 _ ?_; clear hK13 K13
      refine code_ret ?_
      refine blk_r ?_
      refine ends_ret (cs := []) rfl rfl rfl rfl trivial ?_
      rfl
    (try simp only [Decidable.not_not] at h6)
    refine code_scope ?_
    refine code_seq (fun K14 hK14 => ?_)
    refine code_region ?_
    refine list_cons rfl (op_q (q_move rfl (by decide)) ?_)
    refine list_cons rfl (op_q (q_runestr Tryd.underlying21 Tryd.underlying9 rfl (by decide)) ?_)
    refine list_cons rfl (op_q (q_assign rfl (by decide)) ?_)
    refine list_nil ?_
    refine hK14 _ ?_; clear hK14 K14
    refine code_seq (fun K15 hK15 => ?_)
    refine code_region ?_
    refine list_cons rfl (op_q (q_move rfl (by decide)) ?_)
    refine list_cons rfl (op_q (q_len_str Tryd.underlying9 rfl (by decide)) ?_)
    refine list_cons rfl (op_q (by first | exact q_subI rfl rfl (by decide) (by omega) (by omega) | exact q_ib rfl rfl rfl (by decide)) ?_)
    refine list_cons rfl (op_q (q_assign rfl (by decide)) ?_)
    refine list_nil ?_
    refine hK15 _ ?_; clear hK15 K15
    refine code_seq (fun K16 hK16 => ?_)
    refine code_region ?_
    refine list_cons rfl (op_q (q_move rfl (by decide)) ?_)
    refine list_cons rfl (op_q (q_assign rfl (by decide)) ?_)
    refine list_nil ?_
    refine hK16 _ ?_; clear hK16 K16
    refine codeT.imp (σ' := [(0, _), (1, _), (4, _), (7, _), (8, _), (9, _)]) ?_ (imp_covers ⟨rfl, rfl, rfl, rfl, rfl, rfl, trivial⟩)
    refine code_seq (fun K17 hK17 => ?_)
    refine code_region ?_
    refine list_cons rfl (op_q (q_assign rfl (by decide)) ?_)
    refine list_nil ?_
    refine hK17 _ ?_; clear hK17 K17
    refine code_seq (fun K18 hK18 => ?_)
    refine code_block ?_
    refine code_loop (X := Int × List UInt8 × Int × Int × Int) (fun x => [(0, .val (.str abcG)), (1, .val (.int .i32 r)), (4, .val (.int .i64 x.1)), (7, .val (.str x.2.1)), (8, .val (.int .i64 x.2.2.1)), (9, .val (.int .i64 x.2.2.2.1)), (10, .val (.int .i64 x.2.2.2.2))]) (fun x => x.2.1 = encL r ∧ x.2.2.1 = x.2.1.length - 1 ∧ x.2.2.2.1 = x.2.2.1) (fun x => 0) (_, _, _, _, _) (imp_covers ⟨rfl, rfl, rfl, rfl, rfl, rfl, rfl, trivial⟩) ?_ ?_
    · (try dsimp only)
      exact ⟨rfl, rfl, rfl⟩
    · intro x hI
      obtain ⟨t4, rs, last, i, fails⟩ := x
      replace hI : rs = encL r ∧ last = rs.length - 1 ∧ i = last := hI
      show codeT _ _ _ [(0, .val (.str abcG)), (1, .val (.int .i32 r)), (4, .val (.int .i64 t4)), (7, .val (.str rs)), (8, .val (.int .i64 last)), (9, .val (.int .i64 i)), (10, .val (.int .i64 fails))] _
      obtain ⟨rfl, i2, i3⟩ := hI
      have hlast : 128 ≤ ((encL r).getD last.toNat 0).toNat := by
            have hl : last.toNat < (encL r).length := by omega
            have : (encL r).getD last.toNat 0 = (encL r)[last.toNat] := by simp [hl]
            rw [this]; exact he.2.2 _ (List.getElem_mem hl)
      refine code_seq (fun K19 hK19 => ?_)
      refine code_seq (fun K20 hK20 => ?_)
      refine code_region ?_
      refine list_cons rfl (op_q (q_move rfl (by decide)) ?_)
      refine list_cons rfl (op_q (q_move rfl (by decide)) ?_)
      refine list_cons rfl (op_q (q_len_str Tryd.underlying9 rfl (by decide)) ?_)
      refine list_cons rfl (op_q (q_lt rfl rfl (by decide)) ?_)
      refine list_nil ?_
      refine hK20 _ ?_; clear hK20 K20
      refine code_cond_d rfl (fun h7 => ?_) (fun h7 => ?_)
      · skip
        (try simp only [Decidable.not_not] at h7)
        refine code_skip ?_
        refine hK19 _ ?_; clear hK19 K19
        refine code_block ?_
        refine code_scope ?_
        refine code_seq (fun K21 hK21 => ?_)
        refine code_seq (fun K22 hK22 => ?_)
        refine code_draw (by kernel_rfl) (by kernel_rfl) ?_
        refine draw_q rfl (q_move rfl (by decide)) ?_
        refine draw_q rfl (q_move rfl (by decide)) ?_
        refine draw_q rfl (q_index_str Tryd.underlying9 rfl rfl (by omega) (by omega) (by decide)) ?_
        refine draw_q rfl (q_move rfl (by decide)) ?_
        refine draw_q rfl (q_move rfl (by decide)) ?_
        refine draw_q rfl (q_index_str Tryd.underlying9 rfl rfl (by omega) (by omega) (by decide)) ?_
        refine draw_q rfl (q_ne rfl rfl (by decide)) ?_
        refine draw_nil ?_
        refine hK22 _ ?_; clear hK22 K22
        refine codeT.imp (σ' := [(0, _), (1, _), (4, _), (7, _), (8, _), (9, _), (10, _), (33, _)]) ?_ (imp_covers ⟨rfl, rfl, rfl, rfl, rfl, rfl, rfl, rfl, trivial⟩)
        refine code_cond_d rfl (fun h8 => ?_) (fun h8 => ?_)
        · skip
          (try simp only [Decidable.not_not] at h8)
          refine code_seq (fun K23 hK23 => ?_)
          refine code_draw (by kernel_rfl) (by kernel_rfl) ?_
          refine draw_q rfl (q_move rfl (by decide)) ?_
          refine draw_q rfl (q_move rfl (by decide)) ?_
          refine draw_q rfl (by first | exact q_addI rfl rfl (by decide) (by omega) (by omega) | exact q_ib rfl rfl rfl (by decide)) ?_
          refine draw_q rfl (q_slice_str Tryd.underlying9 rfl ⟨_, rfl⟩ rfl (by omega) (by omega) (by omega) (by decide)) ?_
          refine draw_q rfl (q_move rfl (by decide)) ?_
          refine draw_q rfl (q_move rfl (by decide)) ?_
          refine draw_q rfl (q_index_str Tryd.underlying9 rfl rfl (by omega) (by omega) (by decide)) ?_
          refine draw_call _ (indexByte_c _ _) rfl rfl rfl (by decide) ?_
          refine draw_q rfl (q_assign rfl (by decide)) ?_
          refine draw_nil ?_
          refine hK23 _ ?_; clear hK23 K23
          refine codeT.imp (σ' := [(0, _), (1, _), (4, _), (7, _), (8, _), (9, _), (10, _), (11, _)]) ?_ (imp_covers ⟨rfl, rfl, rfl, rfl, rfl, rfl, rfl, rfl, trivial⟩)
          refine code_seq (fun K24 hK24 => ?_)
          refine code_seq (fun K25 hK25 => ?_)
          refine code_region ?_
          refine list_cons rfl (op_q (q_move rfl (by decide)) ?_)
          refine list_cons rfl (op_q (q_lt rfl rfl (by decide)) ?_)
          refine list_nil ?_
          refine hK25 _ ?_; clear hK25 K25
          refine code_cond_d rfl (fun h9 => ?_) (fun h9 => ?_)
          · skip
            (try simp only [Decidable.not_not] at h9)
            refine code_seq (fun K26 hK26 => ?_)
            refine code_region ?_
            refine list_cons rfl (op_q (q_assign rfl (by decide)) ?_)
            refine list_nil ?_
            refine hK26 _ ?_; clear hK26 K26
            refine code_ret ?_
            refine then_r ?_; clear hK24 K24
            refine then_r ?_; clear hK21 K21
            refine sc_r ?_
            refine blk_r ?_
            refine then_r ?_
            refine blk_r ?_
            refine then_r ?_; clear hK18 K18
            refine sc_r ?_
            refine blk_r ?_
            refine ends_ret (cs := []) rfl rfl rfl rfl trivial ?_
            rfl
          (try simp only [Decidable.not_not] at h9)
          exfalso
          have g3 := ix_none ((encL r).getD last.toNat 0) hlast (((abcG.drop (i + 1).toNat).take (((abcG.length : Nat) : Int).toNat - (i + 1).toNat))) (fun b hb => abcG_lt b (List.mem_of_mem_drop (List.mem_of_mem_take hb)))
          rw [g3] at h9; omega
        (try simp only [Decidable.not_not] at h8)
        exfalso
        have g1 := hab i.toNat (by omega); have g2 := hlast; omega
      (try simp only [Decidable.not_not] at h7)
      refine code_exit ?_
      refine then_x ?_; clear hK19 K19
      refine then_x ?_
      refine blk_hit ?_
      refine hK18 _ ?_; clear hK18 K18
      refine code_seq (fun K27 hK27 => ?_)
      refine code_seq (fun K28 hK28 => ?_)
      refine code_region ?_
      refine list_cons rfl (op_q (q_assign rfl (by decide)) ?_)
      refine list_nil ?_
      refine hK28 _ ?_; clear hK28 K28
      refine code_ret ?_
      refine then_r ?_; clear hK27 K27
      refine sc_r ?_
      refine blk_r ?_
      refine ends_ret (cs := []) rfl rfl rfl rfl trivial ?_
      rfl
  simp only [Bool.false_eq_true, if_true, if_false, Decidable.not_not] at h1
  exfalso
  omega

theorem indexRune_c (r : Int) (h0 : 0 ≤ r) (h1 : r ≤ 1114111) : PCalls Tryd.prog 166 [.str abcG, .int .i32 r] (· = [.val (.int .i64 (ixR r))]) := by
  by_cases h : r < 128
  · exact indexRune_ascii r h0 h
  · rw [show ixR r = -1 by unfold ixR; rw [if_neg (by omega)]]
    exact indexRune_hi r (by omega) h1
theorem ixR_le (r : Int) : -1 ≤ ixR r ∧ ixR r ≤ 6 := by unfold ixR; split <;> omega
def OrdU (s : List UInt8) (i : Nat) : Prop := ∀ j, j < i → 97 ≤ (s.getD j 0).toNat ∧ (s.getD j 0).toNat ≤ 103 ∧ (0 < j → (s.getD (j - 1) 0).toNat < (s.getD j 0).toNat)
theorem p2_mono {a b : Nat} (h : a ≤ b) : p2 a ≤ p2 b := Nat.pow_le_pow_right (by omega) h
theorem orF_top (s : List UInt8) : ∀ i, i < s.length → OrdU s (i + 1) → p2 ((s.getD i 0).toNat - 97) ≤ orF (s.take (i + 1)) ∧ orF (s.take (i + 1)) < p2 ((s.getD i 0).toNat - 97 + 1)
  | 0, h, hu => by
    rw [orF_snoc s h, List.take_zero]
    have e : orF [] ||| 2 ^ ((s.getD 0 0).toNat - 97) = 2 ^ ((s.getD 0 0).toNat - 97) := by show 0 ||| _ = _; simp
    rw [e]
    exact ⟨Nat.le_refl _, Nat.pow_lt_pow_right (by omega) (by omega)⟩
  | i + 1, h, hu => by
    have ih := orF_top s i (by omega) (fun j hj => hu j (by omega))
    have h2 := (hu (i + 1) (by omega)).2.2 (by omega)
    rw [Nat.add_sub_cancel] at h2
    have h3 := (hu i (by omega)).1
    rw [orF_snoc s h]
    refine ⟨Nat.right_le_or, @Nat.or_lt_two_pow _ _ _ ?_ (Nat.pow_lt_pow_right (by omega) (by omega))⟩
    refine Nat.lt_of_lt_of_le ih.2 (Nat.pow_le_pow_right (by omega) (by omega))
theorem sh_zero {a k : Nat} : shN a k = 0 ↔ a < p2 k := by
  unfold shN
  rw [Nat.div_eq_zero_iff]
  have : 0 < p2 k := Nat.pow_pos (by omega)
  omega
theorem pb_at {s : List UInt8} {i : Nat} (h : i < s.length) (hr : 0 ≤ ixR ((runeAt s i).1 : Int)) : (runeAt s i).1 = (s.getD i 0).toNat ∧ (runeAt s i).2 = 1 ∧ 97 ≤ (s.getD i 0).toNat ∧ (s.getD i 0).toNat ≤ 103 ∧ ixR ((runeAt s i).1 : Int) = (((s.getD i 0).toNat - 97 : Nat) : Int) := by
  by_cases ha : (s.getD i 0).toNat < 128
  · have e := runeAt_ascii h ha
    rw [e] at hr ⊢
    simp only [] at hr ⊢
    unfold ixR at hr ⊢
    split at hr
    · rename_i h2; rw [if_pos h2]; exact ⟨by trivial, by trivial, by omega, by omega, by omega⟩
    · omega
  · have := runeAt_hi h (by omega)
    unfold ixR at hr
    rw [if_neg (by omega)] at hr
    omega
theorem pb_ord {s : List UInt8} {i : Nat} (h : i < s.length) (ho : OrdP s) : 0 ≤ ixR ((runeAt s i).1 : Int) := by
  have := ho i h
  rw [runeAt_ascii h (by omega)]
  simp only []
  unfold ixR; rw [if_pos (by omega)]; omega
theorem pb_step {s : List UInt8} {i : Nat} (h : i < s.length) (hu : OrdU s i) (hr : 0 ≤ ixR ((runeAt s i).1 : Int)) (hz : shN (orF (s.take i)) (ixR ((runeAt s i).1 : Int)).toNat = 0) : OrdU s (i + 1) := by
  obtain ⟨_, _, g3, g4, g5⟩ := pb_at h hr
  rw [g5, Int.toNat_natCast, sh_zero] at hz
  intro j hj
  by_cases e : j = i
  · subst e
    refine ⟨g3, g4, fun h0 => ?_⟩
    have h1 := orF_top s (j - 1) (by omega) (fun k hk => hu k (by omega))
    rw [show j - 1 + 1 = j by omega] at h1
    have h2 := (hu (j - 1) (by omega)).1
    have h3 : p2 ((s.getD (j - 1) 0).toNat - 97) < p2 ((s.getD j 0).toNat - 97) := by omega
    have h4 : (s.getD (j - 1) 0).toNat - 97 < (s.getD j 0).toNat - 97 := Nat.lt_of_not_le fun hle => by have := p2_mono hle; omega
    omega
  · exact hu j (by omega)
theorem pb_bad {s : List UInt8} {i : Nat} (h : i < s.length) (hu : OrdU s i) (hr : 0 ≤ ixR ((runeAt s i).1 : Int)) (hz : ¬ shN (orF (s.take i)) (ixR ((runeAt s i).1 : Int)).toNat = 0) : ¬ OrdP s := by
  intro ho
  obtain ⟨_, _, g3, g4, g5⟩ := pb_at h hr
  apply hz
  rw [g5, Int.toNat_natCast, sh_zero]
  by_cases h0 : 0 < i
  · have h1 := orF_top s (i - 1) (by omega) (fun k hk => hu k (by omega))
    rw [show i - 1 + 1 = i by omega] at h1
    have h2 := (ho i h).2.2 h0
    have h3 := (hu (i - 1) (by omega)).1
    exact Nat.lt_of_lt_of_le h1.2 (p2_mono (by omega))
  · rw [show i = 0 by omega, List.take_zero]
    show 0 < _
    exact Nat.pow_pos (by omega)


set_option maxRecDepth 100000 in
theorem onesCount_c (c : Int) (h0 : 0 ≤ c) (h1 : c ≤ 127) : PCalls Tryd.prog 140 [.int .u64 c] (· = [.val (.int .i64 (((cnt7 c.toNat : Nat) : Int)))]) := by
  have h := below_int (p := fun i => oneInt (crun Tf.tf noExt 200 6 140 [.int .u64 (Int.ofNat i)]) (((cnt7 i : Nat) : Int))) (k := 128) (by kernel_rfl) h0 (by omega)
  have e : Int.ofNat c.toNat = c := Int.toNat_of_nonneg h0
  rw [e] at h
  exact pcalls_run Tf.tf (oneInt_ok h)

set_option maxRecDepth 4000 in
theorem impl_IsCell (c : Int) : PCalls Tryd.prog 152 [.int .i64 c] (· = [.val (.bool (decide (0 ≤ c ∧ c ≤ 127)))]) := by
  refine pcalls_of_code (n := 9) az Tryd.func152 (by kernel_rfl) rfl rfl (Nat.le_of_ble_eq_true rfl) (by intro t u h; simp [Tryd.f152] at h) ?_
  refine code_seq (fun K1 hK1 => ?_)
  refine code_region ?_
  refine list_cons rfl (op_q (q_assign rfl (by decide)) ?_)
  refine list_nil ?_
  refine hK1 _ ?_; clear hK1 K1
  refine code_seq (fun K2 hK2 => ?_)
  refine code_region ?_
  refine list_cons rfl (op_q (q_move rfl (by decide)) ?_)
  refine list_cons rfl (op_q (q_ge rfl rfl (by decide)) ?_)
  refine list_cons rfl (op_q (q_move rfl (by decide)) ?_)
  refine list_guard_d rfl rfl rfl rfl (by decide) rfl (by decide) (fun h1 => ?_) (fun h1 => ?_)
  · simp only [Bool.false_eq_true, if_true, if_false, Decidable.not_not] at h1
    refine id (op_q (q_move rfl (by decide)) ?_)
    refine list_guard_y rfl rfl rfl rfl (by decide) rfl ?_
    refine id (op_q (q_lt rfl rfl (by decide)) ?_)
    refine list_cons rfl (op_q (q_pick rfl rfl (by decide)) ?_)
    refine list_cons rfl (op_q (q_assign rfl (by decide)) ?_)
    refine list_nil ?_
    refine hK2 _ ?_; clear hK2 K2
    refine code_ret ?_
    refine ends_ret (cs := []) rfl rfl rfl rfl trivial ?_
    first | (congr 3; exact decide_eq_decide.mpr ⟨fun k => by omega, fun k => by omega⟩) | (rw [decide_eq_false (by omega)])
  simp only [Bool.false_eq_true, if_true, if_false, Decidable.not_not] at h1
  refine list_guard_n rfl rfl rfl rfl (by decide) rfl ?_
  refine list_cons rfl (op_q (q_pick rfl rfl (by decide)) ?_)
  refine list_cons rfl (op_q (q_assign rfl (by decide)) ?_)
  refine list_nil ?_
  refine hK2 _ ?_; clear hK2 K2
  refine code_ret ?_
  refine ends_ret (cs := []) rfl rfl rfl rfl trivial ?_
  first | (congr 3; exact decide_eq_decide.mpr ⟨fun k => by omega, fun k => by omega⟩) | (rw [decide_eq_false (by omega)])

set_option maxRecDepth 4000 in
theorem impl_IsRow (l : List Int) (hl : l.length ≤ 4611686018427387904) : PCalls Tryd.prog 102 [.sl l.length (l.map (.int .i64))] (· = [.val (.bool (decide (RowP l)))]) := by
  refine pcalls_of_code (n := 18) az Tryd.func102 (by kernel_rfl) rfl rfl (Nat.le_of_ble_eq_true rfl) (by intro t u h; simp [Tryd.f102] at h) ?_
  refine code_seq (fun K1 hK1 => ?_)
  refine code_region ?_
  refine list_cons rfl (op_q (q_assign rfl (by decide)) ?_)
  refine list_nil ?_
  refine hK1 _ ?_; clear hK1 K1
  refine code_seq (fun K2 hK2 => ?_)
  refine code_seq (fun K3 hK3 => ?_)
  refine code_region ?_
  refine list_cons rfl (op_q (q_move rfl (by decide)) ?_)
  refine list_cons rfl (op_q (q_len_sl Tryd.underlying35 rfl rfl (by decide)) ?_)
  refine list_cons rfl (op_q (q_gt rfl rfl (by decide)) ?_)
  refine list_nil ?_
  refine hK3 _ ?_; clear hK3 K3
  refine code_cond_d rfl (fun h1 => ?_) (fun h1 => ?_)
  · skip
    (try simp only [Decidable.not_not] at h1)
    refine code_seq (fun K4 hK4 => ?_)
    refine code_region ?_
    refine list_cons rfl (op_q (q_assign rfl (by decide)) ?_)
    refine list_nil ?_
    refine hK4 _ ?_; clear hK4 K4
    refine code_ret ?_
    refine then_r ?_; clear hK2 K2
    refine ends_ret (cs := []) rfl rfl rfl rfl trivial ?_
    rw [decide_eq_false (fun e => by have := e.1; omega)]
  (try simp only [Decidable.not_not] at h1)
  refine code_skip ?_
  refine hK2 _ ?_; clear hK2 K2
  refine code_seq (fun K5 hK5 => ?_)
  refine code_seq (fun K6 hK6 => ?_)
  refine code_region ?_
  refine list_cons rfl (op_q (q_move rfl (by decide)) ?_)
  refine list_cons rfl (op_q (q_len_sl Tryd.underlying35 rfl rfl (by decide)) ?_)
  refine list_cons rfl (op_q (q_move rfl (by decide)) ?_)
  refine list_nil ?_
  refine hK6 _ ?_; clear hK6 K6
  refine code_block ?_
  refine code_loop (X := Bool × Int) (fun x => [(0, .par 0 (.sl l.length (l.map (.int .i64)))), (2, .val (.bool x.1)), (8, .par 0 (.sl l.length (l.map (.int .i64)))), (9, .val (.int .i64 l.length)), (10, .val (.int .i64 x.2))]) (fun x => 0 ≤ x.2 ∧ x.2 ≤ l.length ∧ ∀ j, j < x.2.toNat → 0 ≤ l.getD j 0 ∧ l.getD j 0 ≤ 127) (fun x => l.length - x.2.toNat) (_, _) (imp_covers ⟨rfl, rfl, rfl, rfl, rfl, trivial⟩) ?_ ?_
  · (try dsimp only)
    refine ⟨by omega, by omega, fun j hj => by simp at hj⟩
  · intro x hI
    obtain ⟨t2, t10⟩ := x
    replace hI : 0 ≤ t10 ∧ t10 ≤ l.length ∧ ∀ j, j < t10.toNat → 0 ≤ l.getD j 0 ∧ l.getD j 0 ≤ 127 := hI
    show codeT _ _ _ [(0, .par 0 (.sl l.length (l.map (.int .i64)))), (2, .val (.bool t2)), (8, .par 0 (.sl l.length (l.map (.int .i64)))), (9, .val (.int .i64 l.length)), (10, .val (.int .i64 t10))] _
    obtain ⟨i1, i3, i4⟩ := hI
    refine code_seq (fun K7 hK7 => ?_)
    refine code_region ?_
    refine list_cons rfl (op_q (q_lt rfl rfl (by decide)) ?_)
    refine list_nil ?_
    refine hK7 _ ?_; clear hK7 K7
    refine code_seq (fun K8 hK8 => ?_)
    refine code_cond_d rfl (fun h2 => ?_) (fun h2 => ?_)
    · skip
      (try simp only [Decidable.not_not] at h2)
      refine code_skip ?_
      refine hK8 _ ?_; clear hK8 K8
      refine code_seq (fun K9 hK9 => ?_)
      refine code_block ?_
      refine code_seq (fun K10 hK10 => ?_)
      refine code_region ?_
      refine list_cons rfl (op_q (q_indexAddr_rd sl_35 rfl (.inl ⟨_, rfl, rfl⟩) rfl (by omega) (by omega) (by decide)) ?_)
      refine list_cons rfl (op_q (q_load_rd one_3 rfl (.inl ⟨_, (by first | rfl | exact congrArg (SV.rpar _) (drop_map1 _ 0 _ (by first | omega | (simp; omega)))), rfl⟩) (by decide)) ?_)
      refine list_cons rfl (op_q (q_assign rfl (by decide)) ?_)
      refine list_nil ?_
      refine hK10 _ ?_; clear hK10 K10
      refine code_seq (fun K11 hK11 => ?_)
      refine code_region ?_
      refine list_cons rfl (op_q (q_move rfl (by decide)) ?_)
      refine list_cons rfl (op_call _ (impl_IsCell _) rfl rfl (by decide) (by decide) (by decide) rfl ?_)
      rintro _ rfl
      refine list_cons rfl (op_q (by first | exact q_notd rfl (by decide) | exact q_not rfl (by decide)) ?_)
      refine list_nil ?_
      refine hK11 _ ?_; clear hK11 K11
      refine codeT.imp (σ' := [(0, _), (2, _), (4, _), (8, _), (9, _), (10, _), (16, _)]) ?_ (imp_covers ⟨rfl, rfl, rfl, rfl, rfl, rfl, rfl, trivial⟩)
      refine code_cond_d rfl (fun h3 => ?_) (fun h3 => ?_)
      · skip
        (try simp only [Decidable.not_not] at h3)
        refine code_seq (fun K12 hK12 => ?_)
        refine code_region ?_
        refine list_cons rfl (op_q (q_assign rfl (by decide)) ?_)
        refine list_nil ?_
        refine hK12 _ ?_; clear hK12 K12
        refine code_ret ?_
        refine blk_r ?_
        refine then_r ?_; clear hK9 K9
        refine then_r ?_
        refine blk_r ?_
        refine then_r ?_; clear hK5 K5
        refine ends_ret (cs := []) rfl rfl rfl rfl trivial ?_
        rw [decide_eq_false (fun e => h3 (e.at (by omega)))]
      (try simp only [Decidable.not_not] at h3)
      refine code_skip ?_
      refine blk_n ?_
      refine hK9 _ ?_; clear hK9 K9
      refine code_region ?_
      refine list_cons rfl (op_q (by first | exact q_addI rfl rfl (by decide) (by omega) (by omega) | exact q_ib rfl rfl rfl (by decide)) ?_)
      refine list_cons rfl (op_q (q_move rfl (by decide)) ?_)
      refine list_nil ?_
      refine then_n ⟨(_, _), imp_covers ⟨rfl, rfl, rfl, rfl, rfl, trivial⟩, ?_, ?_⟩
      · (try dsimp only)
        refine ⟨by omega, by omega, fun j hj => ?_⟩
        by_cases e : j = t10.toNat
        · subst e; exact h3
        · exact i4 j (by omega)
      · (try dsimp only); omega
    (try simp only [Decidable.not_not] at h2)
    refine code_exit ?_
    refine then_x ?_; clear hK8 K8
    refine then_x ?_
    refine blk_hit ?_
    refine hK5 _ ?_; clear hK5 K5
    refine code_seq (fun K13 hK13 => ?_)
    refine code_region ?_
    refine list_cons rfl (op_q (q_assign rfl (by decide)) ?_)
    refine list_nil ?_
    refine hK13 _ ?_; clear hK13 K13
    refine code_ret ?_
    refine ends_ret (cs := []) rfl rfl rfl rfl trivial ?_
    rw [decide_eq_true (RowP.of (by omega) fun j hj => i4 j (by omega))]

set_option maxRecDepth 4000 in
theorem impl_CountBars (c : Int) : PCalls Tryd.prog 165 [.int .i64 c] (· = [.val (.int .i64 (if 0 ≤ c ∧ c ≤ 127 then ((cnt7 c.toNat : Nat) : Int) else 0)), .val (.bool (decide (0 ≤ c ∧ c ≤ 127)))]) := by
  refine pcalls_of_code (n := 10) az Tryd.func165 (by kernel_rfl) rfl rfl (Nat.le_of_ble_eq_true rfl) (by intro t u h; simp [Tryd.f165] at h) ?_
  refine code_seq (fun K1 hK1 => ?_)
  refine code_region ?_
  refine list_cons rfl (op_q (q_assign rfl (by decide)) ?_)
  refine list_cons rfl (op_q (q_assign rfl (by decide)) ?_)
  refine list_nil ?_
  refine hK1 _ ?_; clear hK1 K1
  refine code_seq (fun K2 hK2 => ?_)
  refine code_seq (fun K3 hK3 => ?_)
  refine code_region ?_
  refine list_cons rfl (op_q (q_move rfl (by decide)) ?_)
  refine list_cons rfl (op_call _ (impl_IsCell _) rfl rfl (by decide) (by decide) (by decide) rfl ?_)
  rintro _ rfl
  refine list_cons rfl (op_q (by first | exact q_notd rfl (by decide) | exact q_not rfl (by decide)) ?_)
  refine list_nil ?_
  refine hK3 _ ?_; clear hK3 K3
  refine codeT.imp (σ' := [(0, _), (2, _), (3, _), (6, _)]) ?_ (imp_covers ⟨rfl, rfl, rfl, rfl, trivial⟩)
  refine code_cond_d rfl (fun h1 => ?_) (fun h1 => ?_)
  · skip
    (try simp only [Decidable.not_not] at h1)
    refine code_seq (fun K4 hK4 => ?_)
    refine code_region ?_
    refine list_cons rfl (op_q (q_assign rfl (by decide)) ?_)
    refine list_cons rfl (op_q (q_assign rfl (by decide)) ?_)
    refine list_nil ?_
    refine hK4 _ ?_; clear hK4 K4
    refine code_ret ?_
    refine then_r ?_; clear hK2 K2
    refine ends_ret (cs := []) rfl rfl rfl rfl trivial ?_
    simp only [if_neg h1, decide_eq_false h1]
  (try simp only [Decidable.not_not] at h1)
  refine code_skip ?_
  refine hK2 _ ?_; clear hK2 K2
  refine code_seq (fun K5 hK5 => ?_)
  refine code_region ?_
  refine list_cons rfl (op_q (q_move rfl (by decide)) ?_)
  refine list_cons rfl (op_q (by first | exact q_convU (by rw [Tryd.underlying3]; rfl) Tryd.underlying94 rfl (by decide) (by omega) (by omega) | exact q_conv (by rw [Tryd.underlying3]; rfl) Tryd.underlying94 rfl (by decide)) ?_)
  refine list_cons rfl (op_call _ (onesCount_c _ (by omega) (by omega)) rfl rfl (by decide) (by decide) (by decide) rfl ?_)
  rintro _ rfl
  refine list_cons rfl (op_q (q_assign rfl (by decide)) ?_)
  refine list_cons rfl (op_q (q_assign rfl (by decide)) ?_)
  refine list_nil ?_
  refine hK5 _ ?_; clear hK5 K5
  refine codeT.imp (σ' := [(0, _), (2, _), (3, _)]) ?_ (imp_covers ⟨rfl, rfl, rfl, trivial⟩)
  refine code_ret ?_
  refine ends_ret (cs := []) rfl rfl rfl rfl trivial ?_
  simp only [if_pos h1, decide_eq_true h1]

set_option maxRecDepth 4000 in
theorem impl_FarCells (a b : Int) : PCalls Tryd.prog 149 [.int .i64 a, .int .i64 b] (· = [.val (.int .i64 (if (0 ≤ a ∧ a ≤ 127) ∧ (0 ≤ b ∧ b ≤ 127) then ((cnt7 (a.toNat ^^^ b.toNat) : Nat) : Int) else 0)), .val (.bool (decide ((0 ≤ a ∧ a ≤ 127) ∧ (0 ≤ b ∧ b ≤ 127))))]) := by
  refine pcalls_of_code (n := 20) az Tryd.func149 (by kernel_rfl) rfl rfl (Nat.le_of_ble_eq_true rfl) (by intro t u h; simp [Tryd.f149] at h) ?_
  refine code_seq (fun K1 hK1 => ?_)
  refine code_region ?_
  refine list_cons rfl (op_q (q_assign rfl (by decide)) ?_)
  refine list_cons rfl (op_q (q_assign rfl (by decide)) ?_)
  refine list_nil ?_
  refine hK1 _ ?_; clear hK1 K1
  refine code_seq (fun K2 hK2 => ?_)
  refine code_seq (fun K3 hK3 => ?_)
  refine code_region ?_
  refine list_cons rfl (op_q (q_move rfl (by decide)) ?_)
  refine list_cons rfl (op_call _ (impl_IsCell _) rfl rfl (by decide) (by decide) (by decide) rfl ?_)
  rintro _ rfl
  refine list_cons rfl (op_q (by first | exact q_notd rfl (by decide) | exact q_not rfl (by decide)) ?_)
  refine list_cons rfl (op_q (q_move rfl (by decide)) ?_)
  refine list_guard_d rfl rfl rfl rfl (by decide) rfl (by decide) (fun h1 => ?_) (fun h1 => ?_)
  · simp only [Bool.false_eq_true, if_true, if_false, Decidable.not_not] at h1
    refine id (op_q (q_move rfl (by decide)) ?_)
    refine list_guard_y rfl rfl rfl rfl (by decide) rfl ?_
    refine id (op_call _ (impl_IsCell _) rfl rfl (by decide) (by decide) (by decide) rfl ?_)
    rintro _ rfl
    refine list_guard_y rfl rfl rfl rfl (by decide) rfl ?_
    refine id (op_q (by first | exact q_notd rfl (by decide) | exact q_not rfl (by decide)) ?_)
    refine list_cons rfl (op_q (q_pick rfl rfl (by decide)) ?_)
    refine list_nil ?_
    refine hK3 _ ?_; clear hK3 K3
    refine codeT.imp (σ' := [(0, _), (1, _), (4, _), (5, _), (13, _)]) ?_ (imp_covers ⟨rfl, rfl, rfl, rfl, rfl, trivial⟩)
    refine code_cond_d rfl (fun h2 => ?_) (fun h2 => ?_)
    · skip
      (try simp only [Decidable.not_not] at h2)
      refine code_seq (fun K4 hK4 => ?_)
      refine code_region ?_
      refine list_cons rfl (op_q (q_assign rfl (by decide)) ?_)
      refine list_cons rfl (op_q (q_assign rfl (by decide)) ?_)
      refine list_nil ?_
      refine hK4 _ ?_; clear hK4 K4
      refine code_ret ?_
      refine then_r ?_; clear hK2 K2
      refine ends_ret (cs := []) rfl rfl rfl rfl trivial ?_
      first
        | (have e : ¬ ((0 ≤ a ∧ a ≤ 127) ∧ (0 ≤ b ∧ b ≤ 127)) := by omega
           simp only [if_neg e, decide_eq_false e])
        | (have e : ((0 ≤ a ∧ a ≤ 127) ∧ (0 ≤ b ∧ b ≤ 127)) := by omega
           have e2 := xor7 e.1 e.2
           have e3 : 0 ≤ ((a.toNat ^^^ b.toNat : Nat) : Int) ∧ ((a.toNat ^^^ b.toNat : Nat) : Int) ≤ 127 := ⟨by omega, e2⟩
           simp only [if_pos e, decide_eq_true e, if_pos e3, decide_eq_true e3, Int.toNat_natCast])
    (try simp only [Decidable.not_not] at h2)
    refine code_skip ?_
    refine hK2 _ ?_; clear hK2 K2
    refine code_seq (fun K5 hK5 => ?_)
    refine code_region ?_
    refine list_cons rfl (op_q (q_move rfl (by decide)) ?_)
    refine list_cons rfl (op_q (q_move rfl (by decide)) ?_)
    refine list_cons rfl (op_q (by first | exact q_xorI rfl rfl (by decide) (by omega) (by omega) (by omega) (by omega) | exact q_ib rfl rfl rfl (by decide)) ?_)
    refine list_cons rfl (op_call _ (impl_CountBars _) rfl rfl (by decide) (by decide) (by decide) rfl ?_)
    rintro _ rfl
    refine list_cons rfl (op_q (q_extract rfl rfl (by decide)) ?_)
    refine list_cons rfl (op_q (q_extract rfl rfl (by decide)) ?_)
    refine list_cons rfl (op_q (q_assign rfl (by decide)) ?_)
    refine list_cons rfl (op_q (q_assign rfl (by decide)) ?_)
    refine list_nil ?_
    refine hK5 _ ?_; clear hK5 K5
    refine codeT.imp (σ' := [(0, _), (1, _), (4, _), (5, _)]) ?_ (imp_covers ⟨rfl, rfl, rfl, rfl, trivial⟩)
    refine code_ret ?_
    refine ends_ret (cs := []) rfl rfl rfl rfl trivial ?_
    first
      | (have e : ¬ ((0 ≤ a ∧ a ≤ 127) ∧ (0 ≤ b ∧ b ≤ 127)) := by omega
         simp only [if_neg e, decide_eq_false e])
      | (have e : ((0 ≤ a ∧ a ≤ 127) ∧ (0 ≤ b ∧ b ≤ 127)) := by omega
         have e2 := xor7 e.1 e.2
         have e3 : 0 ≤ ((a.toNat ^^^ b.toNat : Nat) : Int) ∧ ((a.toNat ^^^ b.toNat : Nat) : Int) ≤ 127 := ⟨by omega, e2⟩
         simp only [if_pos e, decide_eq_true e, if_pos e3, decide_eq_true e3, Int.toNat_natCast])
  simp only [Bool.false_eq_true, if_true, if_false, Decidable.not_not] at h1
  refine list_guard_n rfl rfl rfl rfl (by decide) rfl ?_
  refine list_guard_n rfl rfl rfl rfl (by decide) rfl ?_
  refine list_cons rfl (op_q (q_pick rfl rfl (by decide)) ?_)
  refine list_nil ?_
  refine hK3 _ ?_; clear hK3 K3
  refine code_cond_t rfl ?_
  refine code_seq (fun K6 hK6 => ?_)
  refine code_region ?_
  refine list_cons rfl (op_q (q_assign rfl (by decide)) ?_)
  refine list_cons rfl (op_q (q_assign rfl (by decide)) ?_)
  refine list_nil ?_
  refine hK6 _ ?_; clear hK6 K6
  refine code_ret ?_
  refine then_r ?_; clear hK2 K2
  refine ends_ret (cs := []) rfl rfl rfl rfl trivial ?_
  first
    | (have e : ¬ ((0 ≤ a ∧ a ≤ 127) ∧ (0 ≤ b ∧ b ≤ 127)) := by omega
       simp only [if_neg e, decide_eq_false e])
    | (have e : ((0 ≤ a ∧ a ≤ 127) ∧ (0 ≤ b ∧ b ≤ 127)) := by omega
       have e2 := xor7 e.1 e.2
       have e3 : 0 ≤ ((a.toNat ^^^ b.toNat : Nat) : Int) ∧ ((a.toNat ^^^ b.toNat : Nat) : Int) ≤ 127 := ⟨by omega, e2⟩
       simp only [if_pos e, decide_eq_true e, if_pos e3, decide_eq_true e3, Int.toNat_natCast])

set_option maxRecDepth 4000 in
theorem impl_LitOf (l : List Int) (hl : l.length ≤ 4611686018427387904) : PCalls Tryd.prog 75 [.sl l.length (l.map (.int .i64))] (· = [.val (.int .i64 (if RowP l then litF l else 0)), .val (.bool (decide (RowP l)))]) := by
  refine pcalls_of_code (n := 23) az Tryd.func75 (by kernel_rfl) rfl rfl (Nat.le_of_ble_eq_true rfl) (by intro t u h; simp [Tryd.f75] at h) ?_
  refine code_seq (fun K1 hK1 => ?_)
  refine code_region ?_
  refine list_cons rfl (op_q (q_assign rfl (by decide)) ?_)
  refine list_cons rfl (op_q (q_assign rfl (by decide)) ?_)
  refine list_nil ?_
  refine hK1 _ ?_; clear hK1 K1
  refine code_seq (fun K2 hK2 => ?_)
  refine code_seq (fun K3 hK3 => ?_)
  refine code_region ?_
  refine list_cons rfl (op_q (q_move rfl (by decide)) ?_)
  refine list_cons rfl (op_call _ (impl_IsRow _ (by first | omega | (simp; omega))) rfl rfl (by decide) (by decide) (by decide) rfl ?_)
  rintro _ rfl
  refine list_cons rfl (op_q (by first | exact q_notd rfl (by decide) | exact q_not rfl (by decide)) ?_)
  refine list_nil ?_
  refine hK3 _ ?_; clear hK3 K3
  refine codeT.imp (σ' := [(0, _), (2, _), (3, _), (9, _)]) ?_ (imp_covers ⟨rfl, rfl, rfl, rfl, trivial⟩)
  refine code_cond_d rfl (fun h1 => ?_) (fun h1 => ?_)
  · skip
    (try simp only [Decidable.not_not] at h1)
    refine code_seq (fun K4 hK4 => ?_)
    refine code_region ?_
    refine list_cons rfl (op_q (q_assign rfl (by decide)) ?_)
    refine list_cons rfl (op_q (q_assign rfl (by decide)) ?_)
    refine list_nil ?_
    refine hK4 _ ?_; clear hK4 K4
    refine code_ret ?_
    refine then_r ?_; clear hK2 K2
    refine ends_ret (cs := []) rfl rfl rfl rfl trivial ?_
    simp only [if_neg h1, decide_eq_false h1]
  (try simp only [Decidable.not_not] at h1)
  refine code_skip ?_
  refine hK2 _ ?_; clear hK2 K2
  refine code_seq (fun K5 hK5 => ?_)
  refine code_region ?_
  refine list_cons rfl (op_q (q_assign rfl (by decide)) ?_)
  refine list_nil ?_
  refine hK5 _ ?_; clear hK5 K5
  refine code_seq (fun K6 hK6 => ?_)
  refine code_seq (fun K7 hK7 => ?_)
  refine code_region ?_
  refine list_cons rfl (op_q (q_move rfl (by decide)) ?_)
  refine list_cons rfl (op_q (q_len_sl Tryd.underlying35 rfl rfl (by decide)) ?_)
  refine list_cons rfl (op_q (q_move rfl (by decide)) ?_)
  refine list_nil ?_
  refine hK7 _ ?_; clear hK7 K7
  refine code_block ?_
  refine code_loop (X := Int × Bool × Int × Int) (fun x => [(0, .par 0 (.sl l.length (l.map (.int .i64)))), (2, .val (.int .i64 x.1)), (3, .val (.bool x.2.1)), (4, .val (.int .i64 x.2.2.1)), (10, .par 0 (.sl l.length (l.map (.int .i64)))), (11, .val (.int .i64 l.length)), (12, .val (.int .i64 x.2.2.2))]) (fun x => 0 ≤ x.2.2.2 ∧ x.2.2.2 ≤ l.length ∧ x.2.2.1 = litF (l.take x.2.2.2.toNat) ∧ 0 ≤ x.2.2.1 ∧ x.2.2.1 ≤ 7 * x.2.2.2) (fun x => l.length - x.2.2.2.toNat) (_, _, _, _) (imp_covers ⟨rfl, rfl, rfl, rfl, rfl, rfl, rfl, trivial⟩) ?_ ?_
  · (try dsimp only)
    refine ⟨by omega, by omega, rfl, by omega, by omega⟩
  · intro x hI
    obtain ⟨t2, t3, lit, t12⟩ := x
    replace hI : 0 ≤ t12 ∧ t12 ≤ l.length ∧ lit = litF (l.take t12.toNat) ∧ 0 ≤ lit ∧ lit ≤ 7 * t12 := hI
    show codeT _ _ _ [(0, .par 0 (.sl l.length (l.map (.int .i64)))), (2, .val (.int .i64 t2)), (3, .val (.bool t3)), (4, .val (.int .i64 lit)), (10, .par 0 (.sl l.length (l.map (.int .i64)))), (11, .val (.int .i64 l.length)), (12, .val (.int .i64 t12))] _
    obtain ⟨i1, i2, i3, i4, i5⟩ := hI
    have hl6 := h1.1
    have hc := fun (k : t12 < l.length) => h1.at (j := t12.toNat) (by omega)
    have h7 := cnt7_le (l.getD t12.toNat 0).toNat
    have hc0 : t12 < l.length → 0 ≤ l.getD t12.toNat 0 := fun k => (hc k).1
    have hc1 : t12 < l.length → l.getD t12.toNat 0 ≤ 127 := fun k => (hc k).2
    refine code_seq (fun K8 hK8 => ?_)
    refine code_region ?_
    refine list_cons rfl (op_q (q_lt rfl rfl (by decide)) ?_)
    refine list_nil ?_
    refine hK8 _ ?_; clear hK8 K8
    refine code_seq (fun K9 hK9 => ?_)
    refine code_cond_d rfl (fun h2 => ?_) (fun h2 => ?_)
    · skip
      (try simp only [Decidable.not_not] at h2)
      refine code_skip ?_
      refine hK9 _ ?_; clear hK9 K9
      refine code_seq (fun K10 hK10 => ?_)
      refine code_block ?_
      refine code_seq (fun K11 hK11 => ?_)
      refine code_region ?_
      refine list_cons rfl (op_q (q_indexAddr_rd sl_35 rfl (.inl ⟨_, rfl, rfl⟩) rfl (by omega) (by omega) (by decide)) ?_)
      refine list_cons rfl (op_q (q_load_rd one_3 rfl (.inl ⟨_, (by first | rfl | exact congrArg (SV.rpar _) (drop_map1 _ 0 _ (by first | omega | (simp; omega)))), rfl⟩) (by decide)) ?_)
      refine list_cons rfl (op_q (q_assign rfl (by decide)) ?_)
      refine list_nil ?_
      refine hK11 _ ?_; clear hK11 K11
      refine code_region ?_
      refine list_cons rfl (op_q (q_move rfl (by decide)) ?_)
      refine list_cons rfl (op_q (q_move rfl (by decide)) ?_)
      refine list_cons rfl (op_q (by first | exact q_convU (by rw [Tryd.underlying3]; rfl) Tryd.underlying94 rfl (by decide) (by omega) (by omega) | exact q_conv (by rw [Tryd.underlying3]; rfl) Tryd.underlying94 rfl (by decide)) ?_)
      refine list_cons rfl (op_call _ (onesCount_c _ (by omega) (by omega)) rfl rfl (by decide) (by decide) (by decide) rfl ?_)
      rintro _ rfl
      refine list_cons rfl (op_q (by first | exact q_addI rfl rfl (by decide) (by omega) (by omega) | exact q_ib rfl rfl rfl (by decide)) ?_)
      refine list_cons rfl (op_q (q_assign rfl (by decide)) ?_)
      refine list_nil ?_
      refine blk_n ?_
      refine hK10 _ ?_; clear hK10 K10
      refine codeT.imp (σ' := [(0, _), (2, _), (3, _), (4, _), (6, _), (10, _), (11, _), (12, _)]) ?_ (imp_covers ⟨rfl, rfl, rfl, rfl, rfl, rfl, rfl, rfl, trivial⟩)
      refine code_region ?_
      refine list_cons rfl (op_q (by first | exact q_addI rfl rfl (by decide) (by omega) (by omega) | exact q_ib rfl rfl rfl (by decide)) ?_)
      refine list_cons rfl (op_q (q_move rfl (by decide)) ?_)
      refine list_nil ?_
      refine then_n ⟨(_, _, _, _), imp_covers ⟨rfl, rfl, rfl, rfl, rfl, rfl, rfl, trivial⟩, ?_, ?_⟩
      · (try dsimp only)
        refine ⟨by omega, by omega, ?_, by omega, by omega⟩
        rw [show (t12 + 1).toNat = t12.toNat + 1 by omega, litF, foldl_take _ 0 _ _ (by omega), i3]; rfl
      · (try dsimp only); omega
    (try simp only [Decidable.not_not] at h2)
    refine code_exit ?_
    refine then_x ?_; clear hK9 K9
    refine then_x ?_
    refine blk_hit ?_
    refine hK6 _ ?_; clear hK6 K6
    refine code_seq (fun K12 hK12 => ?_)
    refine code_region ?_
    refine list_cons rfl (op_q (q_move rfl (by decide)) ?_)
    refine list_cons rfl (op_q (q_assign rfl (by decide)) ?_)
    refine list_cons rfl (op_q (q_assign rfl (by decide)) ?_)
    refine list_nil ?_
    refine hK12 _ ?_; clear hK12 K12
    refine code_ret ?_
    refine ends_ret (cs := []) rfl rfl rfl rfl trivial ?_
    rw [if_pos h1, decide_eq_true h1, i3, List.take_of_length_le (by omega)]

set_option maxRecDepth 4000 in
theorem impl_ParseBars (s : List UInt8) (hs : s.length ≤ 4611686018427387904) : PCalls Tryd.prog 150 [.str s] (· = [.val (.int .i64 (if OrdP s then ((orF s : Nat) : Int) else 0)), .val (.bool (decide (OrdP s)))]) := by
  refine pcalls_of_code (n := 28) az Tryd.func150 (by kernel_rfl) rfl rfl (Nat.le_of_ble_eq_true rfl) (by intro t u h; simp [Tryd.f150] at h) ?_
  refine code_seq (fun K1 hK1 => ?_)
  refine code_region ?_
  refine list_cons rfl (op_q (q_assign rfl (by decide)) ?_)
  refine list_cons rfl (op_q (q_assign rfl (by decide)) ?_)
  refine list_nil ?_
  refine hK1 _ ?_; clear hK1 K1
  refine code_seq (fun K2 hK2 => ?_)
  refine code_region ?_
  refine list_cons rfl (op_q (q_assign rfl (by decide)) ?_)
  refine list_nil ?_
  refine hK2 _ ?_; clear hK2 K2
  refine code_seq (fun K3 hK3 => ?_)
  refine code_seq (fun K4 hK4 => ?_)
  refine code_region ?_
  refine list_cons rfl (op_q (q_move rfl (by decide)) ?_)
  refine list_cons rfl (op_range_str Tryd.underlying9 rfl (by decide) (by decide) rfl ?_)
  refine list_nil ?_
  refine hK4 _ ?_; clear hK4 K4
  refine code_block ?_
  refine code_loop (X := Int × Bool × Int × Nat) (fun x => [(0, .val (.str s)), (2, .val (.int .i64 x.1)), (3, .val (.bool x.2.1)), (4, .val (.int .i64 x.2.2.1)), (9, .sit 9 (s) x.2.2.2)]) (fun x => x.2.2.2 ≤ s.length ∧ x.2.2.1 = ((orF (s.take x.2.2.2) : Nat) : Int) ∧ orF (s.take x.2.2.2) < 128 ∧ OrdU s x.2.2.2) (fun x => s.length - x.2.2.2) (_, _, _, _) (imp_covers ⟨rfl, rfl, rfl, rfl, rfl, trivial⟩) ?_ ?_
  · (try dsimp only)
    exact ⟨by omega, by rw [List.take_zero]; rfl, by rw [List.take_zero]; decide, fun j hj => by omega⟩
  · intro x hI
    obtain ⟨t2, t3, cell, t9_i⟩ := x
    replace hI : t9_i ≤ s.length ∧ cell = ((orF (s.take t9_i) : Nat) : Int) ∧ orF (s.take t9_i) < 128 ∧ OrdU s t9_i := hI
    show codeT _ _ _ [(0, .val (.str s)), (2, .val (.int .i64 t2)), (3, .val (.bool t3)), (4, .val (.int .i64 cell)), (9, .sit 9 (s) t9_i)] _
    obtain ⟨i1, i2, i3, i4⟩ := hI
    have hix := ixR_le ((runeAt s t9_i).1 : Int)
    have hp2 := p2_le (k := (ixR ((runeAt s t9_i).1 : Int)).toNat) (by omega)
    refine code_seq (fun K5 hK5 => ?_)
    refine code_region ?_
    refine list_cons rfl (op_next (h := 9) rfl rfl (by decide) (fun h1 => ?_) (fun h1 => ?_))
    · skip
      refine list_cons rfl (op_q (q_extract rfl rfl (by decide)) ?_)
      refine list_nil ?_
      refine hK5 _ ?_; clear hK5 K5
      refine code_seq (fun K6 hK6 => ?_)
      refine code_cond_f rfl ?_
      refine code_exit ?_
      refine then_x ?_; clear hK6 K6
      refine then_x ?_
      refine blk_hit ?_
      refine hK3 _ ?_; clear hK3 K3
      refine code_seq (fun K7 hK7 => ?_)
      refine code_region ?_
      refine list_cons rfl (op_q (q_move rfl (by decide)) ?_)
      refine list_cons rfl (op_q (q_assign rfl (by decide)) ?_)
      refine list_cons rfl (op_q (q_assign rfl (by decide)) ?_)
      refine list_nil ?_
      refine hK7 _ ?_; clear hK7 K7
      refine code_ret ?_
      refine ends_ret (cs := []) rfl rfl rfl rfl trivial ?_
      have e0 : t9_i = s.length := by omega
      rw [e0] at i4
      have e : OrdP s := i4
      rw [if_pos e, decide_eq_true e, i2, e0, List.take_length]
    · skip
      refine list_cons rfl (op_q (q_extract rfl rfl (by decide)) ?_)
      refine list_nil ?_
      refine hK5 _ ?_; clear hK5 K5
      refine code_seq (fun K8 hK8 => ?_)
      refine code_cond_t rfl ?_
      refine code_skip ?_
      refine hK8 _ ?_; clear hK8 K8
      refine code_block ?_
      refine code_seq (fun K9 hK9 => ?_)
      refine code_region ?_
      refine list_cons rfl (op_q (q_extract rfl rfl (by decide)) ?_)
      refine list_cons rfl (op_q (q_assign rfl (by decide)) ?_)
      refine list_nil ?_
      refine hK9 _ ?_; clear hK9 K9
      refine code_seq (fun K10 hK10 => ?_)
      refine code_region ?_
      refine list_cons rfl (op_q (q_move rfl (by decide)) ?_)
      refine list_cons rfl (op_call _ (indexRune_c _ (by omega) (by have := runeAt_le (s := s) (i := t9_i) (by omega); omega)) rfl rfl (by decide) (by decide) (by decide) rfl ?_)
      rintro _ rfl
      refine list_cons rfl (op_q (q_assign rfl (by decide)) ?_)
      refine list_nil ?_
      refine hK10 _ ?_; clear hK10 K10
      refine codeT.imp (σ' := [(0, _), (2, _), (3, _), (4, _), (6, _), (7, _), (9, _), (10, _)]) ?_ (imp_covers ⟨rfl, rfl, rfl, rfl, rfl, rfl, rfl, rfl, trivial⟩)
      refine code_seq (fun K11 hK11 => ?_)
      refine code_seq (fun K12 hK12 => ?_)
      refine code_region ?_
      refine list_cons rfl (op_q (q_move rfl (by decide)) ?_)
      refine list_cons rfl (op_q (q_lt rfl rfl (by decide)) ?_)
      refine list_cons rfl (op_q (q_move rfl (by decide)) ?_)
      refine list_guard_d rfl rfl rfl rfl (by decide) rfl (by decide) (fun h2 => ?_) (fun h2 => ?_)
      · simp only [Bool.false_eq_true, if_true, if_false, Decidable.not_not] at h2
        refine id (op_q (q_move rfl (by decide)) ?_)
        refine list_guard_y rfl rfl rfl rfl (by decide) rfl ?_
        refine id (op_q (q_move rfl (by decide)) ?_)
        refine list_guard_y rfl rfl rfl rfl (by decide) rfl ?_
        refine id (op_q (by first | exact q_shrN rfl rfl (by decide) (by omega) (by omega) (by omega) | exact q_shrI rfl rfl (by decide) (by omega) (by omega) (by omega) | exact q_shr rfl rfl (by omega) (by decide)) ?_)
        refine list_guard_y rfl rfl rfl rfl (by decide) rfl ?_
        refine id (op_q (q_ne rfl rfl (by decide)) ?_)
        refine list_cons rfl (op_q (q_pick rfl rfl (by decide)) ?_)
        refine list_nil ?_
        refine hK12 _ ?_; clear hK12 K12
        refine codeT.imp (σ' := [(0, _), (2, _), (3, _), (4, _), (6, _), (7, _), (9, _), (10, _), (22, _)]) ?_ (imp_covers ⟨rfl, rfl, rfl, rfl, rfl, rfl, rfl, rfl, rfl, trivial⟩)
        refine code_cond_d rfl (fun h3 => ?_) (fun h3 => ?_)
        · skip
          (try simp only [Decidable.not_not] at h3)
          refine code_seq (fun K13 hK13 => ?_)
          refine code_region ?_
          refine list_cons rfl (op_q (q_assign rfl (by decide)) ?_)
          refine list_cons rfl (op_q (q_assign rfl (by decide)) ?_)
          refine list_nil ?_
          refine hK13 _ ?_; clear hK13 K13
          refine code_ret ?_
          refine then_r ?_; clear hK11 K11
          refine blk_r ?_
          refine then_r ?_
          refine blk_r ?_
          refine then_r ?_; clear hK3 K3
          refine ends_ret (cs := []) rfl rfl rfl rfl trivial ?_
          have e : ¬ OrdP s := pb_bad (i := t9_i) (by omega) i4 (by omega) (fun k => h3 (by rw [i2, Int.toNat_natCast, k]; rfl))
          rw [if_neg e, decide_eq_false e]
        (try simp only [Decidable.not_not] at h3)
        refine code_skip ?_
        refine hK11 _ ?_; clear hK11 K11
        refine code_region ?_
        refine list_cons rfl (op_q (q_move rfl (by decide)) ?_)
        refine list_cons rfl (op_q (q_move rfl (by decide)) ?_)
        refine list_cons rfl (op_q (by first | exact q_shl1 rfl rfl (by decide) (by omega) (by omega) | exact q_shlI rfl rfl (by decide) (by omega) (by omega) (by omega) | exact q_shl rfl rfl (by omega) (by decide)) ?_)
        refine list_cons rfl (op_q (by first | exact q_orI rfl rfl (by decide) (by omega) (by omega) (by omega) (by omega) | exact q_ib rfl rfl rfl (by decide)) ?_)
        refine list_cons rfl (op_q (q_assign rfl (by decide)) ?_)
        refine list_nil ?_
        refine blk_n ?_
        refine then_n ⟨(_, _, _, _), imp_covers ⟨rfl, rfl, rfl, rfl, rfl, trivial⟩, ?_, ?_⟩
        · (try dsimp only)
          have hr : 0 ≤ ixR ((runeAt s t9_i).1 : Int) := by omega
          have hz : shN (orF (s.take t9_i)) (ixR ((runeAt s t9_i).1 : Int)).toNat = 0 := by have := h3; rw [i2, Int.toNat_natCast] at this; omega
          obtain ⟨g1, g2, g3, g4, g5⟩ := pb_at (by omega) hr
          have e9 : orF (s.take (t9_i + 1)) = orF (s.take t9_i) ||| p2 (ixR ((runeAt s t9_i).1 : Int)).toNat := by
            rw [orF_snoc s (by omega), g5, Int.toNat_natCast]; rfl
          rw [g2]
          refine ⟨by omega, ?_, ?_, pb_step (by omega) i4 hr hz⟩
          · rw [e9, i2, Int.toNat_natCast, Int.toNat_natCast]
          · rw [e9]; exact or7 i3 (by omega)
        · (have hr : 0 ≤ ixR ((runeAt s t9_i).1 : Int) := by omega); (have := (pb_at (by omega) hr).2.1); (try dsimp only); omega
      simp only [Bool.false_eq_true, if_true, if_false, Decidable.not_not] at h2
      refine list_guard_n rfl rfl rfl rfl (by decide) rfl ?_
      refine list_guard_n rfl rfl rfl rfl (by decide) rfl ?_
      refine list_guard_n rfl rfl rfl rfl (by decide) rfl ?_
      refine list_cons rfl (op_q (q_pick rfl rfl (by decide)) ?_)
      refine list_nil ?_
      refine hK12 _ ?_; clear hK12 K12
      refine code_cond_t rfl ?_
      refine code_seq (fun K14 hK14 => ?_)
      refine code_region ?_
      refine list_cons rfl (op_q (q_assign rfl (by decide)) ?_)
      refine list_cons rfl (op_q (q_assign rfl (by decide)) ?_)
      refine list_nil ?_
      refine hK14 _ ?_; clear hK14 K14
      refine code_ret ?_
      refine then_r ?_; clear hK11 K11
      refine blk_r ?_
      refine then_r ?_
      refine blk_r ?_
      refine then_r ?_; clear hK3 K3
      refine ends_ret (cs := []) rfl rfl rfl rfl trivial ?_
      have e : ¬ OrdP s := fun k => by have := pb_ord (i := t9_i) (by omega) k; omega
      rw [if_neg e, decide_eq_false e]

theorem bars_dig : ∀ j, j < 10 → OrdP (([[97, 98, 99, 100, 101, 102], [98, 99], [97, 98, 100, 101, 103], [97, 98, 99, 100, 103], [98, 99, 102, 103], [97, 99, 100, 102, 103], [97, 99, 100, 101, 102, 103], [97, 98, 99], [97, 98, 99, 100, 101, 102, 103], [97, 98, 99, 100, 102, 103]] : List (List UInt8)).getD j []) ∧ ((orF (([[97, 98, 99, 100, 101, 102], [98, 99], [97, 98, 100, 101, 103], [97, 98, 99, 100, 103], [98, 99, 102, 103], [97, 99, 100, 102, 103], [97, 99, 100, 101, 102, 103], [97, 98, 99], [97, 98, 99, 100, 101, 102, 103], [97, 98, 99, 100, 102, 103]] : List (List UInt8)).getD j []) : Nat) : Int) = digT.getD j 0 := by
  intro j hj
  have : j = 0 ∨ j = 1 ∨ j = 2 ∨ j = 3 ∨ j = 4 ∨ j = 5 ∨ j = 6 ∨ j = 7 ∨ j = 8 ∨ j = 9 := by omega
  rcases this with rfl | rfl | rfl | rfl | rfl | rfl | rfl | rfl | rfl | rfl <;> exact ⟨by decide, by decide⟩
theorem tbl_len (j : Nat) : (([[97, 98, 99, 100, 101, 102], [98, 99], [97, 98, 100, 101, 103], [97, 98, 99, 100, 103], [98, 99, 102, 103], [97, 99, 100, 102, 103], [97, 99, 100, 101, 102, 103], [97, 98, 99], [97, 98, 99, 100, 101, 102, 103], [97, 98, 99, 100, 102, 103]] : List (List UInt8)).getD j []).length ≤ 7 := by
  by_cases hj : j < 10
  · have : j = 0 ∨ j = 1 ∨ j = 2 ∨ j = 3 ∨ j = 4 ∨ j = 5 ∨ j = 6 ∨ j = 7 ∨ j = 8 ∨ j = 9 := by omega
    rcases this with rfl | rfl | rfl | rfl | rfl | rfl | rfl | rfl | rfl | rfl <;> decide
  · unfold List.getD; rw [List.getElem?_eq_none (by simp; omega)]; simp
def digE (k : Nat) : List (PV × PV) := (List.range k).map fun j => (.int .i64 (digT.getD j 0), .int .i64 j)
theorem digE_new : ∀ k : Nat, k < 10 → findE (.int .i64) (.int .i64 (digT.getD k 0)) (digE k) 0 = some none := by
  intro j hj
  have : j = 0 ∨ j = 1 ∨ j = 2 ∨ j = 3 ∨ j = 4 ∨ j = 5 ∨ j = 6 ∨ j = 7 ∨ j = 8 ∨ j = 9 := by omega
  rcases this with rfl | rfl | rfl | rfl | rfl | rfl | rfl | rfl | rfl | rfl <;> rfl
theorem digE_succ (k : Nat) : digE (k + 1) = digE k ++ [(.int .i64 (digT.getD k 0), .int .i64 k)] := by
  unfold digE; rw [List.range_succ, List.map_append]; rfl
theorem findE_int (c : Int) : ∀ (l : List Int) (i : Nat) (f : Nat → PV), (∀ d ∈ l, d ≠ c) → ∀ m, findE (.int .i64) (.int .i64 c) ((List.range' m l.length).zipWith (fun j d => (PV.int .i64 d, f j)) l) i = some none
  | [], i, f, h, m => by simp [findE]
  | d :: l, i, f, h, m => by
    have hne : intEq c d = false := by rw [intEq_eq, beq_eq_false_iff_ne]; exact fun e => h d (by simp) e.symm
    rw [List.length_cons, List.range'_succ, List.zipWith_cons_cons, findE]
    simp only [keyEq, kEq, hne]
    exact findE_int c l (i + 1) f (fun x hx => h x (by simp [hx])) (m + 1)
theorem digE_hit (c : Int) (h : 0 ≤ digOf c) : findE (.int .i64) (.int .i64 c) (digE 10) 0 = some (some ((digOf c).toNat, .int .i64 (digOf c))) := by
  unfold digOf at h ⊢
  repeat' split
  all_goals first
    | (subst_vars; rfl)
    | (exfalso; simp_all)
theorem digE_miss (c : Int) (h : ¬ 0 ≤ digOf c) : findE (.int .i64) (.int .i64 c) (digE 10) 0 = some none := by
  have e : digE 10 = (List.range' 0 digT.length).zipWith (fun (j : Nat) (d : Int) => (PV.int .i64 d, PV.int .i64 j)) digT := by rfl
  rw [e]
  refine findE_int c digT 0 (fun (j : Nat) => PV.int .i64 j) (fun d hd hc => ?_) 0
  subst hc
  simp only [digT, List.mem_cons, List.not_mem_nil, or_false] at hd
  rcases hd with rfl | rfl | rfl | rfl | rfl | rfl | rfl | rfl | rfl | rfl <;> exact h (by decide)
theorem digT_of (d : Nat) (h : d < 10) : digOf (digT.getD d 0) = d := digOf_at (d := d) (by omega) (by omega) (by rw [Int.toNat_natCast])


set_option maxRecDepth 4000 in
theorem impl_CellOf (d : Int) : PCalls Tryd.prog 98 [.int .i64 d] (· = [.val (.int .i64 (if 0 ≤ d ∧ d ≤ 9 then digT.getD d.toNat 0 else 0)), .val (.bool (decide (0 ≤ d ∧ d ≤ 9)))]) := by
  refine pcalls_of_code (n := 16) az Tryd.func98 (by kernel_rfl) rfl rfl (Nat.le_of_ble_eq_true rfl) (by intro t u h; simp [Tryd.f98] at h) ?_
  refine code_seq (fun K1 hK1 => ?_)
  refine code_region ?_
  refine list_cons rfl (op_q (q_assign rfl (by decide)) ?_)
  refine list_cons rfl (op_q (q_assign rfl (by decide)) ?_)
  refine list_nil ?_
  refine hK1 _ ?_; clear hK1 K1
  refine code_seq (fun K2 hK2 => ?_)
  refine code_seq (fun K3 hK3 => ?_)
  refine code_region ?_
  refine list_cons rfl (op_q (q_move rfl (by decide)) ?_)
  refine list_cons rfl (op_q (q_lt rfl rfl (by decide)) ?_)
  refine list_cons rfl (op_q (q_move rfl (by decide)) ?_)
  refine list_guard_d rfl rfl rfl rfl (by decide) rfl (by decide) (fun h1 => ?_) (fun h1 => ?_)
  · simp only [Bool.false_eq_true, if_true, if_false, Decidable.not_not] at h1
    refine id (op_q (q_move rfl (by decide)) ?_)
    refine list_guard_y rfl rfl rfl rfl (by decide) rfl ?_
    refine id (op_q (q_ge rfl rfl (by decide)) ?_)
    refine list_cons rfl (op_q (q_pick rfl rfl (by decide)) ?_)
    refine list_nil ?_
    refine hK3 _ ?_; clear hK3 K3
    refine code_cond_d rfl (fun h2 => ?_) (fun h2 => ?_)
    · skip
      (try simp only [Decidable.not_not] at h2)
      refine code_seq (fun K4 hK4 => ?_)
      refine code_region ?_
      refine list_cons rfl (op_q (q_assign rfl (by decide)) ?_)
      refine list_cons rfl (op_q (q_assign rfl (by decide)) ?_)
      refine list_nil ?_
      refine hK4 _ ?_; clear hK4 K4
      refine code_ret ?_
      refine then_r ?_; clear hK2 K2
      refine ends_ret (cs := []) rfl rfl rfl rfl trivial ?_
      first
        | (have e : ¬ (0 ≤ d ∧ d ≤ 9) := by omega
           simp only [if_neg e, decide_eq_false e])
        | (have e : 0 ≤ d ∧ d ≤ 9 := by omega
           have e2 := bars_dig d.toNat (by omega)
           simp only [if_pos e, decide_eq_true e, if_pos e2.1, decide_eq_true e2.1, e2.2])
    (try simp only [Decidable.not_not] at h2)
    refine code_skip ?_
    refine hK2 _ ?_; clear hK2 K2
    refine code_seq (fun K5 hK5 => ?_)
    refine code_region ?_
    refine list_cons rfl (op_q (q_move rfl (by decide)) ?_)
    refine list_cons rfl (op_q (q_indexAddr_g arr_97 rfl rfl (by omega) (by omega) (by decide)) ?_)
    refine list_cons rfl (op_q (q_load_rd one_9 rfl (.inr ⟨_, (by first | rfl | exact congrArg (SV.rbor _) (drop_map1 _ [] _ (by first | omega | (simp; omega)))), rfl⟩) (by decide)) ?_)
    refine list_cons rfl (op_call _ (impl_ParseBars _ (by have := tbl_len d.toNat; omega)) rfl rfl (by decide) (by decide) (by decide) rfl ?_)
    rintro _ rfl
    refine list_cons rfl (op_q (q_extract rfl rfl (by decide)) ?_)
    refine list_cons rfl (op_q (q_extract rfl rfl (by decide)) ?_)
    refine list_cons rfl (op_q (q_assign rfl (by decide)) ?_)
    refine list_cons rfl (op_q (q_assign rfl (by decide)) ?_)
    refine list_nil ?_
    refine hK5 _ ?_; clear hK5 K5
    refine codeT.imp (σ' := [(0, _), (2, _), (3, _)]) ?_ (imp_covers ⟨rfl, rfl, rfl, trivial⟩)
    refine code_ret ?_
    refine ends_ret (cs := []) rfl rfl rfl rfl trivial ?_
    first
      | (have e : ¬ (0 ≤ d ∧ d ≤ 9) := by omega
         simp only [if_neg e, decide_eq_false e])
      | (have e : 0 ≤ d ∧ d ≤ 9 := by omega
         have e2 := bars_dig d.toNat (by omega)
         simp only [if_pos e, decide_eq_true e, if_pos e2.1, decide_eq_true e2.1, e2.2])
  simp only [Bool.false_eq_true, if_true, if_false, Decidable.not_not] at h1
  refine list_guard_n rfl rfl rfl rfl (by decide) rfl ?_
  refine list_cons rfl (op_q (q_pick rfl rfl (by decide)) ?_)
  refine list_nil ?_
  refine hK3 _ ?_; clear hK3 K3
  refine code_cond_t rfl ?_
  refine code_seq (fun K6 hK6 => ?_)
  refine code_region ?_
  refine list_cons rfl (op_q (q_assign rfl (by decide)) ?_)
  refine list_cons rfl (op_q (q_assign rfl (by decide)) ?_)
  refine list_nil ?_
  refine hK6 _ ?_; clear hK6 K6
  refine code_ret ?_
  refine then_r ?_; clear hK2 K2
  refine ends_ret (cs := []) rfl rfl rfl rfl trivial ?_
  first
    | (have e : ¬ (0 ≤ d ∧ d ≤ 9) := by omega
       simp only [if_neg e, decide_eq_false e])
    | (have e : 0 ≤ d ∧ d ≤ 9 := by omega
       have e2 := bars_dig d.toNat (by omega)
       simp only [if_pos e, decide_eq_true e, if_pos e2.1, decide_eq_true e2.1, e2.2])

set_option maxRecDepth 4000 in
theorem impl_greatestShown (k : Int) : PCalls Tryd.prog 100 [.int .i64 k] (· = [.val (.int .i64 (if 1 ≤ k ∧ k ≤ 6 then top4 k - 1 else 0)), .val (.bool (decide (1 ≤ k ∧ k ≤ 6)))]) := by
  refine pcalls_of_code (n := 19) az Tryd.func100 (by kernel_rfl) rfl rfl (Nat.le_of_ble_eq_true rfl) (by intro t u h; simp [Tryd.f100] at h) ?_
  refine code_seq (fun K1 hK1 => ?_)
  refine code_region ?_
  refine list_cons rfl (op_q (q_assign rfl (by decide)) ?_)
  refine list_cons rfl (op_q (q_assign rfl (by decide)) ?_)
  refine list_nil ?_
  refine hK1 _ ?_; clear hK1 K1
  refine code_seq (fun K2 hK2 => ?_)
  refine code_seq (fun K3 hK3 => ?_)
  refine code_region ?_
  refine list_cons rfl (op_q (q_move rfl (by decide)) ?_)
  refine list_cons rfl (op_q (q_lt rfl rfl (by decide)) ?_)
  refine list_cons rfl (op_q (q_move rfl (by decide)) ?_)
  refine list_guard_d rfl rfl rfl rfl (by decide) rfl (by decide) (fun h1 => ?_) (fun h1 => ?_)
  · simp only [Bool.false_eq_true, if_true, if_false, Decidable.not_not] at h1
    refine id (op_q (q_move rfl (by decide)) ?_)
    refine list_guard_y rfl rfl rfl rfl (by decide) rfl ?_
    refine id (op_q (q_gt rfl rfl (by decide)) ?_)
    refine list_cons rfl (op_q (q_pick rfl rfl (by decide)) ?_)
    refine list_nil ?_
    refine hK3 _ ?_; clear hK3 K3
    refine code_cond_d rfl (fun h2 => ?_) (fun h2 => ?_)
    · skip
      (try simp only [Decidable.not_not] at h2)
      refine code_seq (fun K4 hK4 => ?_)
      refine code_region ?_
      refine list_cons rfl (op_q (q_assign rfl (by decide)) ?_)
      refine list_cons rfl (op_q (q_assign rfl (by decide)) ?_)
      refine list_nil ?_
      refine hK4 _ ?_; clear hK4 K4
      refine code_ret ?_
      refine then_r ?_; clear hK2 K2
      refine ends_ret (cs := []) rfl rfl rfl rfl trivial ?_
      first | (have e : ¬ (1 ≤ k ∧ k ≤ 6) := (by omega); simp only [if_neg e, decide_eq_false e]) | (have e : 1 ≤ t11 ∧ t11 ≤ 6 := (by omega); simp only [if_pos e, decide_eq_true e]; rw [show t12 = t11 by omega])
    (try simp only [Decidable.not_not] at h2)
    refine code_skip ?_
    refine hK2 _ ?_; clear hK2 K2
    refine code_seq (fun K5 hK5 => ?_)
    refine code_region ?_
    refine list_cons rfl (op_q (q_assign rfl (by decide)) ?_)
    refine list_nil ?_
    refine hK5 _ ?_; clear hK5 K5
    refine code_seq (fun K6 hK6 => ?_)
    refine code_seq (fun K7 hK7 => ?_)
    refine code_region ?_
    refine list_cons rfl (op_q (q_move rfl (by decide)) ?_)
    refine list_cons rfl (op_q (q_move rfl (by decide)) ?_)
    refine list_nil ?_
    refine hK7 _ ?_; clear hK7 K7
    refine code_block ?_
    refine code_loop (X := Int × Bool × Int × Int × Int) (fun x => [(0, .val (.int .i64 k)), (2, .val (.int .i64 x.1)), (3, .val (.bool x.2.1)), (4, .val (.int .i64 x.2.2.1)), (11, .val (.int .i64 x.2.2.2.1)), (12, .val (.int .i64 x.2.2.2.2))]) (fun x => 0 ≤ x.2.2.2.2 ∧ x.2.2.2.2 ≤ k ∧ x.2.2.1 = top4 x.2.2.2.2 - 1 ∧ x.2.2.2.1 = k) (fun x => (k - x.2.2.2.2).toNat) (_, _, _, _, _) (imp_covers ⟨rfl, rfl, rfl, rfl, rfl, rfl, trivial⟩) ?_ ?_
    · (try dsimp only)
      exact ⟨by omega, by omega, rfl, rfl⟩
    · intro x hI
      obtain ⟨t2, t3, greatest, t11, t12⟩ := x
      replace hI : 0 ≤ t12 ∧ t12 ≤ k ∧ greatest = top4 t12 - 1 ∧ t11 = k := hI
      show codeT _ _ _ [(0, .val (.int .i64 k)), (2, .val (.int .i64 t2)), (3, .val (.bool t3)), (4, .val (.int .i64 greatest)), (11, .val (.int .i64 t11)), (12, .val (.int .i64 t12))] _
      obtain ⟨i1, i2, rfl, rfl⟩ := hI
      have ht := top4_le i1 (by omega)
      refine code_seq (fun K8 hK8 => ?_)
      refine code_region ?_
      refine list_cons rfl (op_q (q_lt rfl rfl (by decide)) ?_)
      refine list_nil ?_
      refine hK8 _ ?_; clear hK8 K8
      refine code_seq (fun K9 hK9 => ?_)
      refine code_cond_d rfl (fun h3 => ?_) (fun h3 => ?_)
      · skip
        (try simp only [Decidable.not_not] at h3)
        refine code_skip ?_
        refine hK9 _ ?_; clear hK9 K9
        refine code_seq (fun K10 hK10 => ?_)
        refine code_block ?_
        refine code_region ?_
        refine list_cons rfl (op_q (q_move rfl (by decide)) ?_)
        refine list_cons rfl (op_q (by first | exact q_mulI rfl rfl (by decide) (by omega) (by omega) | exact q_ib rfl rfl rfl (by decide)) ?_)
        refine list_cons rfl (op_q (by first | exact q_addI rfl rfl (by decide) (by omega) (by omega) | exact q_ib rfl rfl rfl (by decide)) ?_)
        refine list_cons rfl (op_q (q_assign rfl (by decide)) ?_)
        refine list_nil ?_
        refine blk_n ?_
        refine hK10 _ ?_; clear hK10 K10
        refine code_region ?_
        refine list_cons rfl (op_q (by first | exact q_addI rfl rfl (by decide) (by omega) (by omega) | exact q_ib rfl rfl rfl (by decide)) ?_)
        refine list_cons rfl (op_q (q_move rfl (by decide)) ?_)
        refine list_nil ?_
        refine then_n ⟨(_, _, _, _, _), imp_covers ⟨rfl, rfl, rfl, rfl, rfl, rfl, trivial⟩, ?_, ?_⟩
        · (try dsimp only)
          refine ⟨by omega, by omega, ?_, rfl⟩
          unfold top4
          rw [show (t12 + 1).toNat = t12.toNat + 1 by omega, Nat.pow_succ]; omega
        · (try dsimp only); omega
      (try simp only [Decidable.not_not] at h3)
      refine code_exit ?_
      refine then_x ?_; clear hK9 K9
      refine then_x ?_
      refine blk_hit ?_
      refine hK6 _ ?_; clear hK6 K6
      refine code_seq (fun K11 hK11 => ?_)
      refine code_region ?_
      refine list_cons rfl (op_q (q_move rfl (by decide)) ?_)
      refine list_cons rfl (op_q (q_assign rfl (by decide)) ?_)
      refine list_cons rfl (op_q (q_assign rfl (by decide)) ?_)
      refine list_nil ?_
      refine hK11 _ ?_; clear hK11 K11
      refine code_ret ?_
      refine ends_ret (cs := []) rfl rfl rfl rfl trivial ?_
      first | (have e : ¬ (1 ≤ k ∧ k ≤ 6) := (by omega); simp only [if_neg e, decide_eq_false e]) | (have e : 1 ≤ t11 ∧ t11 ≤ 6 := (by omega); simp only [if_pos e, decide_eq_true e]; rw [show t12 = t11 by omega])
  simp only [Bool.false_eq_true, if_true, if_false, Decidable.not_not] at h1
  refine list_guard_n rfl rfl rfl rfl (by decide) rfl ?_
  refine list_cons rfl (op_q (q_pick rfl rfl (by decide)) ?_)
  refine list_nil ?_
  refine hK3 _ ?_; clear hK3 K3
  refine code_cond_t rfl ?_
  refine code_seq (fun K12 hK12 => ?_)
  refine code_region ?_
  refine list_cons rfl (op_q (q_assign rfl (by decide)) ?_)
  refine list_cons rfl (op_q (q_assign rfl (by decide)) ?_)
  refine list_nil ?_
  refine hK12 _ ?_; clear hK12 K12
  refine code_ret ?_
  refine then_r ?_; clear hK2 K2
  refine ends_ret (cs := []) rfl rfl rfl rfl trivial ?_
  first | (have e : ¬ (1 ≤ k ∧ k ≤ 6) := (by omega); simp only [if_neg e, decide_eq_false e]) | (have e : 1 ≤ t11 ∧ t11 ≤ 6 := (by omega); simp only [if_pos e, decide_eq_true e]; rw [show t12 = t11 by omega])

set_option maxRecDepth 4000 in
theorem impl_isShown (n k : Int) : PCalls Tryd.prog 97 [.int .i64 n, .int .i64 k] (· = [.val (.bool (decide (Cn n k)))]) := by
  refine pcalls_of_code (n := 22) az Tryd.func97 (by kernel_rfl) rfl rfl (Nat.le_of_ble_eq_true rfl) (by intro t u h; simp [Tryd.f97] at h) ?_
  refine code_seq (fun K1 hK1 => ?_)
  refine code_region ?_
  refine list_cons rfl (op_q (q_assign rfl (by decide)) ?_)
  refine list_nil ?_
  refine hK1 _ ?_; clear hK1 K1
  refine code_seq (fun K2 hK2 => ?_)
  refine code_region ?_
  refine list_cons rfl (op_q (q_move rfl (by decide)) ?_)
  refine list_cons rfl (op_call _ (impl_greatestShown k) rfl rfl (by decide) (by decide) (by decide) rfl ?_)
  rintro _ rfl
  refine list_cons rfl (op_q (q_move rfl (by decide)) ?_)
  refine list_cons rfl (op_q (q_extract rfl rfl (by decide)) ?_)
  refine list_cons rfl (op_q (q_extract rfl rfl (by decide)) ?_)
  refine list_cons rfl (op_q (q_assign rfl (by decide)) ?_)
  refine list_cons rfl (op_q (q_assign rfl (by decide)) ?_)
  refine list_nil ?_
  refine hK2 _ ?_; clear hK2 K2
  refine codeT.imp (σ' := [(0, _), (1, _), (4, _), (5, _), (6, _)]) ?_ (imp_covers ⟨rfl, rfl, rfl, rfl, rfl, trivial⟩)
  refine code_seq (fun K3 hK3 => ?_)
  refine code_region ?_
  refine list_cons rfl (op_q (q_move rfl (by decide)) ?_)
  refine list_cons rfl (op_q (q_move rfl (by decide)) ?_)
  refine list_guard_d rfl rfl rfl rfl (by decide) rfl (by decide) (fun h1 => ?_) (fun h1 => ?_)
  · simp only [Bool.false_eq_true, if_true, if_false, Decidable.not_not] at h1
    refine id (op_q (q_move rfl (by decide)) ?_)
    refine list_guard_y rfl rfl rfl rfl (by decide) rfl ?_
    refine id (op_q (q_ge rfl rfl (by decide)) ?_)
    refine list_cons rfl (op_q (q_pick rfl rfl (by decide)) ?_)
    refine list_cons rfl (op_q (q_move rfl (by decide)) ?_)
    refine list_guard_d rfl rfl rfl rfl (by decide) rfl (by decide) (fun h2 => ?_) (fun h2 => ?_)
    · simp only [Bool.false_eq_true, if_true, if_false, Decidable.not_not] at h2
      refine id (op_q (q_move rfl (by decide)) ?_)
      refine list_guard_y rfl rfl rfl rfl (by decide) rfl ?_
      refine id (op_q (q_move rfl (by decide)) ?_)
      refine list_guard_y rfl rfl rfl rfl (by decide) rfl ?_
      refine id (op_q (q_le rfl rfl (by decide)) ?_)
      refine list_cons rfl (op_q (q_pick rfl rfl (by decide)) ?_)
      refine list_cons rfl (op_q (q_assign rfl (by decide)) ?_)
      refine list_nil ?_
      refine hK3 _ ?_; clear hK3 K3
      refine codeT.imp (σ' := [(0, _), (1, _), (4, _), (5, _), (6, _)]) ?_ (imp_covers ⟨rfl, rfl, rfl, rfl, rfl, trivial⟩)
      refine code_ret ?_
      refine ends_ret (cs := []) rfl rfl rfl rfl trivial ?_
      first | (have e : ¬ Cn n k := (by unfold Cn; omega); simp only [decide_eq_false e]) | (have h0 := h2; have e : 1 ≤ k ∧ k ≤ 6 := (by omega); simp only [if_pos e, List.cons.injEq, SV.val.injEq, PV.bool.injEq, and_true, decide_eq_decide]; unfold Cn; omega)
    simp only [Bool.false_eq_true, if_true, if_false, Decidable.not_not] at h2
    refine list_guard_n rfl rfl rfl rfl (by decide) rfl ?_
    refine list_guard_n rfl rfl rfl rfl (by decide) rfl ?_
    refine list_cons rfl (op_q (q_pick rfl rfl (by decide)) ?_)
    refine list_cons rfl (op_q (q_assign rfl (by decide)) ?_)
    refine list_nil ?_
    refine hK3 _ ?_; clear hK3 K3
    refine codeT.imp (σ' := [(0, _), (1, _), (4, _), (5, _), (6, _)]) ?_ (imp_covers ⟨rfl, rfl, rfl, rfl, rfl, trivial⟩)
    refine code_ret ?_
    refine ends_ret (cs := []) rfl rfl rfl rfl trivial ?_
    first | (have e : ¬ Cn n k := (by unfold Cn; omega); simp only [decide_eq_false e]) | (have h0 := h2; have e : 1 ≤ k ∧ k ≤ 6 := (by omega); simp only [if_pos e, List.cons.injEq, SV.val.injEq, PV.bool.injEq, and_true, decide_eq_decide]; unfold Cn; omega)
  simp only [Bool.false_eq_true, if_true, if_false, Decidable.not_not] at h1
  refine list_guard_n rfl rfl rfl rfl (by decide) rfl ?_
  refine list_cons rfl (op_q (q_pick rfl rfl (by decide)) ?_)
  refine list_cons rfl (op_q (q_move rfl (by decide)) ?_)
  refine list_guard_n rfl rfl rfl rfl (by decide) rfl ?_
  refine list_guard_n rfl rfl rfl rfl (by decide) rfl ?_
  refine list_guard_n rfl rfl rfl rfl (by decide) rfl ?_
  refine list_cons rfl (op_q (q_pick rfl rfl (by decide)) ?_)
  refine list_cons rfl (op_q (q_assign rfl (by decide)) ?_)
  refine list_nil ?_
  refine hK3 _ ?_; clear hK3 K3
  refine code_ret ?_
  refine ends_ret (cs := []) rfl rfl rfl rfl trivial ?_
  first | (have e : ¬ Cn n k := (by unfold Cn; omega); simp only [decide_eq_false e]) | (have h0 := h1; have e : 1 ≤ k ∧ k ≤ 6 := (by omega); simp only [if_pos e, List.cons.injEq, SV.val.injEq, PV.bool.injEq, and_true, decide_eq_decide]; unfold Cn; omega)

set_option maxRecDepth 4000 in
theorem impl_CounterRow (n k : Int) : PCalls Tryd.prog 27 [.int .i64 n, .int .i64 k] (· = [.own 0 3 1 (if Cn n k then rowC n k else []).length ((if Cn n k then rowC n k else []).map (.int .i64)), .val (.bool (decide (Cn n k)))]) := by
  refine pcalls_of_code (n := 41) az Tryd.func27 (by kernel_rfl) rfl rfl (Nat.le_of_ble_eq_true rfl) (by intro t u h; simp [Tryd.f27] at h) ?_
  refine code_seq (fun K1 hK1 => ?_)
  refine code_region ?_
  refine list_cons rfl (op_q (q_assign rfl (by decide)) ?_)
  refine list_cons rfl (op_q (q_assign rfl (by decide)) ?_)
  refine list_nil ?_
  refine hK1 _ ?_; clear hK1 K1
  refine code_seq (fun K2 hK2 => ?_)
  refine code_seq (fun K3 hK3 => ?_)
  refine code_region ?_
  refine list_cons rfl (op_q (q_move rfl (by decide)) ?_)
  refine list_cons rfl (op_q (q_move rfl (by decide)) ?_)
  refine list_cons rfl (op_call _ (impl_isShown _ _) rfl rfl (by decide) (by decide) (by decide) rfl ?_)
  rintro _ rfl
  refine list_cons rfl (op_q (by first | exact q_notd rfl (by decide) | exact q_not rfl (by decide)) ?_)
  refine list_nil ?_
  refine hK3 _ ?_; clear hK3 K3
  refine codeT.imp (σ' := [(0, _), (1, _), (4, _), (5, _), (14, _)]) ?_ (imp_covers ⟨rfl, rfl, rfl, rfl, rfl, trivial⟩)
  refine code_cond_d rfl (fun h1 => ?_) (fun h1 => ?_)
  · skip
    (try simp only [Decidable.not_not] at h1)
    (try have hk := Cn_bd h1)
    refine code_seq (fun K4 hK4 => ?_)
    refine code_region ?_
    refine list_cons rfl (op_buildSlice sl_35 (parts := []) rfl rfl rfl (by decide) (by decide) (by decide) rfl ?_)
    refine list_cons rfl (op_q (q_assign rfl (by decide)) ?_)
    refine list_cons rfl (op_q (q_assign rfl (by decide)) ?_)
    refine list_nil ?_
    refine hK4 _ ?_; clear hK4 K4
    refine code_ret ?_
    refine then_r ?_; clear hK2 K2
    refine ends_ret (cs := []) rfl rfl rfl rfl trivial ?_
    first
      | (have e : ¬ (Cn n k) := by (first | assumption | (unfold Cn at *; omega))
         simp only [if_neg e, decide_eq_false e]; try rfl)
      | (have e : Cn n k := by (first | assumption | (unfold Cn at *; omega))
         simp only [if_pos e, decide_eq_true e]; try rfl)
  (try simp only [Decidable.not_not] at h1)
  (try have hk := Cn_bd h1)
  refine code_skip ?_
  refine hK2 _ ?_; clear hK2 K2
  refine code_seq (fun K5 hK5 => ?_)
  refine code_region ?_
  refine list_cons rfl (op_q (q_move rfl (by decide)) ?_)
  refine list_cons rfl (op_makeI sl_35 rfl rfl (by omega) (by omega) (by decide) (by decide) rfl ?_)
  refine list_cons rfl (op_q (q_assign rfl (by decide)) ?_)
  refine list_nil ?_
  refine hK5 _ ?_; clear hK5 K5
  refine code_seq (fun K6 hK6 => ?_)
  refine code_region ?_
  refine list_cons rfl (op_q (q_move rfl (by decide)) ?_)
  refine list_cons rfl (op_q (q_assign rfl (by decide)) ?_)
  refine list_nil ?_
  refine hK6 _ ?_; clear hK6 K6
  refine code_seq (fun K7 hK7 => ?_)
  refine code_seq (fun K8 hK8 => ?_)
  refine code_region ?_
  refine list_cons rfl (op_q (q_move rfl (by decide)) ?_)
  refine list_cons rfl (op_q (by first | exact q_subI rfl rfl (by decide) (by omega) (by omega) | exact q_ib rfl rfl rfl (by decide)) ?_)
  refine list_cons rfl (op_q (q_assign rfl (by decide)) ?_)
  refine list_nil ?_
  refine hK8 _ ?_; clear hK8 K8
  refine code_block ?_
  refine code_loop (X := PV × Bool × Nat × List PV × Int × Int) (fun x => [(0, .val (.int .i64 n)), (1, .val (.int .i64 k)), (4, .val x.1), (5, .val (.bool x.2.1)), (6, .own 17 3 1 x.2.2.1 x.2.2.2.1), (7, .val (.int .i64 x.2.2.2.2.1)), (8, .val (.int .i64 x.2.2.2.2.2))]) (fun x => -1 ≤ x.2.2.2.2.2 ∧ x.2.2.2.2.2 ≤ k - 1 ∧ Cn n k ∧ 0 ≤ x.2.2.2.2.1 ∧ x.2.2.2.2.1 ≤ 999999 ∧ x.2.2.1 = k.toNat ∧ ∃ l : List Int, x.2.2.2.1 = (List.replicate (x.2.2.2.2.2 + 1).toNat 0 ++ l).map (.int .i64) ∧ l.length = k.toNat - (x.2.2.2.2.2 + 1).toNat ∧ rowK (x.2.2.2.2.2 + 1).toNat x.2.2.2.2.1.toNat ++ l = rowC n k) (fun x => (x.2.2.2.2.2 + 1).toNat) (_, _, _, _, _, _) (imp_covers ⟨rfl, rfl, rfl, rfl, rfl, rfl, rfl, trivial⟩) ?_ ?_
  · (try dsimp only)
    have hc := h1
    have ht := top4_le (k := k) (by unfold Cn at hc; omega) (by unfold Cn at hc; omega)
    refine ⟨by have := hc.1; omega, by omega, hc, hc.2.1, by have := hc.2.2; omega, rfl, [], ?_, (by simp), ?_⟩
    · rw [show (k - 1 + 1).toNat = k.toNat by omega]; exact (zeros_map1 (PV.int .i64) 0 _).trans (by simp)
    · rw [show (k - 1 + 1).toNat = k.toNat by omega]
      try simp [rowC]
  · intro x hI
    obtain ⟨t4_p, t5, row_n, row_c, left, place⟩ := x
    replace hI : -1 ≤ place ∧ place ≤ k - 1 ∧ Cn n k ∧ 0 ≤ left ∧ left ≤ 999999 ∧ row_n = k.toNat ∧ ∃ l : List Int, row_c = (List.replicate (place + 1).toNat 0 ++ l).map (.int .i64) ∧ l.length = k.toNat - (place + 1).toNat ∧ rowK (place + 1).toNat left.toNat ++ l = rowC n k := hI
    show codeT _ _ _ [(0, .val (.int .i64 n)), (1, .val (.int .i64 k)), (4, .val t4_p), (5, .val (.bool t5)), (6, .own 17 3 1 row_n row_c), (7, .val (.int .i64 left)), (8, .val (.int .i64 place))] _
    obtain ⟨i1, i2, hc, i3, i4, rfl, l, rfl, i5, i6⟩ := hI
    have hk := hc.1
    have hp : ∀ c : Int, 0 ≤ place → putAt ((List.replicate (place + 1).toNat 0 ++ l).map (PV.int .i64)) (place.toNat * 1) [PV.int .i64 c] = (List.replicate place.toNat 0 ++ (c :: l)).map (PV.int .i64) := fun c hpl => by
      rw [put_map1 (PV.int .i64) _ (by simp; omega), List.set_append_left _ _ (by simp; omega), show (place + 1).toNat = place.toNat + 1 by omega, List.replicate_succ', List.set_append_right _ _ (by simp)]
      simp
    refine code_seq (fun K9 hK9 => ?_)
    refine code_seq (fun K10 hK10 => ?_)
    refine code_region ?_
    refine list_cons rfl (op_q (q_move rfl (by decide)) ?_)
    refine list_cons rfl (op_q (q_ge rfl rfl (by decide)) ?_)
    refine list_nil ?_
    refine hK10 _ ?_; clear hK10 K10
    refine code_cond_d rfl (fun h2 => ?_) (fun h2 => ?_)
    · skip
      (try simp only [Decidable.not_not] at h2)
      (try have hk := Cn_bd h2)
      refine code_skip ?_
      refine hK9 _ ?_; clear hK9 K9
      refine code_seq (fun K11 hK11 => ?_)
      refine code_block ?_
      refine code_seq (fun K12 hK12 => ?_)
      refine code_region ?_
      refine list_cons rfl (op_q (q_move rfl (by decide)) ?_)
      refine list_cons rfl (op_q (by first | exact q_remI rfl rfl (by decide) (by omega) (by omega) | exact q_rem rfl rfl (by omega) (by decide)) ?_)
      refine list_cons rfl (op_call _ (impl_CellOf _) rfl rfl (by decide) (by decide) (by decide) rfl ?_)
      rintro _ rfl
      refine list_cons rfl (op_q (q_move rfl (by decide)) ?_)
      refine list_cons rfl (op_q (q_extract rfl rfl (by decide)) ?_)
      refine list_cons rfl (op_q (q_extract rfl rfl (by decide)) ?_)
      refine list_cons rfl (op_q (q_assign rfl (by decide)) ?_)
      refine list_cons rfl (op_q (q_assign rfl (by decide)) ?_)
      refine list_nil ?_
      refine hK12 _ ?_; clear hK12 K12
      refine codeT.imp (σ' := [(0, _), (1, _), (4, _), (5, _), (6, _), (7, _), (8, _), (9, _), (10, _)]) ?_ (imp_covers ⟨rfl, rfl, rfl, rfl, rfl, rfl, rfl, rfl, rfl, trivial⟩)
      refine code_seq (fun K13 hK13 => ?_)
      refine code_seq (fun K14 hK14 => ?_)
      refine code_region ?_
      refine list_cons rfl (op_q (q_move rfl (by decide)) ?_)
      refine list_cons rfl (op_q (by first | exact q_notd rfl (by decide) | exact q_not rfl (by decide)) ?_)
      refine list_nil ?_
      refine hK14 _ ?_; clear hK14 K14
      refine code_cond_d rfl (fun h3 => ?_) (fun h3 => ?_)
      · skip
        (try simp only [Decidable.not_not] at h3)
        (try have hk := Cn_bd h3)
        refine code_seq (fun K15 hK15 => ?_)
        refine code_region ?_
        refine list_cons rfl (op_buildSlice sl_35 (parts := []) rfl rfl rfl (by decide) (by decide) (by decide) rfl ?_)
        refine list_cons rfl (op_q (q_assign rfl (by decide)) ?_)
        refine list_cons rfl (op_q (q_assign rfl (by decide)) ?_)
        refine list_nil ?_
        refine hK15 _ ?_; clear hK15 K15
        refine code_ret ?_
        refine then_r ?_; clear hK13 K13
        refine blk_r ?_
        refine then_r ?_; clear hK11 K11
        refine then_r ?_
        refine blk_r ?_
        refine then_r ?_; clear hK7 K7
        refine ends_ret (cs := []) rfl rfl rfl rfl trivial ?_
        exfalso; omega
      (try simp only [Decidable.not_not] at h3)
      (try have hk := Cn_bd h3)
      refine code_skip ?_
      refine hK13 _ ?_; clear hK13 K13
      refine code_seq (fun K16 hK16 => ?_)
      refine code_region ?_
      refine list_cons rfl (op_q (q_move rfl (by decide)) ?_)
      refine list_cons rfl (op_q (q_move rfl (by decide)) ?_)
      refine list_cons rfl (op_q (q_move rfl (by decide)) ?_)
      refine list_cons rfl (op_q (q_indexAddr_own sl_35 rfl rfl (by omega) (by omega) (by decide)) ?_)
      refine list_cons rfl (op_store (one_3).2 6 [6, 34] (by intro t ht; simp only [List.mem_cons, List.not_mem_nil, or_false] at ht; rcases ht with rfl | rfl <;> rfl) (.inl rfl) rfl rfl rfl rfl rfl rfl (by first | decide | omega | exact Nat.le_refl _ | (simp; done) | (simp; omega)) (by decide) rfl ?_)
      refine list_nil ?_
      refine hK16 _ ?_; clear hK16 K16
      refine codeT.imp (σ' := [(0, _), (1, _), (4, _), (5, _), (6, _), (7, _), (8, _), (9, _), (10, _)]) ?_ (imp_covers ⟨rfl, rfl, rfl, rfl, rfl, rfl, rfl, rfl, rfl, trivial⟩)
      refine code_region ?_
      refine list_cons rfl (op_q (q_move rfl (by decide)) ?_)
      refine list_cons rfl (op_q (by first | exact q_quoI rfl rfl (by decide) (by omega) (by omega) (by omega) | exact q_quoT rfl rfl (by omega) (by decide) (by omega) (by omega) | exact q_quo rfl rfl (by omega) (by decide)) ?_)
      refine list_cons rfl (op_q (q_assign rfl (by decide)) ?_)
      refine list_nil ?_
      refine blk_n ?_
      refine hK11 _ ?_; clear hK11 K11
      refine code_region ?_
      refine list_cons rfl (op_q (q_move rfl (by decide)) ?_)
      refine list_cons rfl (op_q (by first | exact q_subI rfl rfl (by decide) (by omega) (by omega) | exact q_ib rfl rfl rfl (by decide)) ?_)
      refine list_cons rfl (op_q (q_assign rfl (by decide)) ?_)
      refine list_nil ?_
      refine then_n ⟨(_, _, _, _, _, _), imp_covers ⟨rfl, rfl, rfl, rfl, rfl, rfl, rfl, trivial⟩, ?_, ?_⟩
      · (try dsimp only)
        refine ⟨by omega, by omega, hc, by omega, by omega, rfl, digT.getD (left % 10).toNat 0 :: l, ?_, ?_, ?_⟩
        · rw [show (place - 1 + 1).toNat = place.toNat by omega, if_pos (by omega)]; exact hp _ (by omega)
        · simp only [List.length_cons]; omega
        · rw [← i6, show (place - 1 + 1).toNat = place.toNat by omega, show (place + 1).toNat = place.toNat + 1 by omega, rowK, show (left / 10).toNat = left.toNat / 10 by omega, show (left % 10).toNat = left.toNat % 10 by omega]
          simp
      · (try dsimp only); omega
    (try simp only [Decidable.not_not] at h2)
    (try have hk := Cn_bd h2)
    refine code_exit ?_
    refine then_x ?_; clear hK9 K9
    refine then_x ?_
    refine blk_hit ?_
    refine hK7 _ ?_; clear hK7 K7
    refine code_seq (fun K17 hK17 => ?_)
    refine code_region ?_
    refine list_cons rfl (op_q (q_move rfl (by decide)) ?_)
    refine list_cons rfl (op_q (q_assign rfl (by decide)) ?_)
    refine list_cons rfl (op_q (q_assign rfl (by decide)) ?_)
    refine list_nil ?_
    refine hK17 _ ?_; clear hK17 K17
    refine code_ret ?_
    refine ends_ret (cs := []) rfl rfl rfl rfl trivial ?_
    have e0 : (place + 1).toNat = 0 := by omega
    rw [e0] at i5 i6
    have e6 : l = rowC n k := by simpa [rowK] using i6
    simp only [if_pos hc, decide_eq_true hc, e0, List.replicate_zero, List.nil_append, e6]
    rw [show (rowC n k).length = k.toNat from by unfold rowC; exact rowK_len _ _]

set_option maxRecDepth 4000 in
theorem impl_rowChanges (a b : List Int) (hl : a.length = b.length) (h6 : a.length ≤ 6) (ha : ∀ i, i < a.length → 0 ≤ a.getD i 0 ∧ a.getD i 0 ≤ 127) (hb : ∀ i, i < a.length → 0 ≤ b.getD i 0 ∧ b.getD i 0 ≤ 127) : PCalls Tryd.prog 95 [.sl a.length (a.map (.int .i64)), .sl b.length (b.map (.int .i64))] (· = [.val (.int .i64 (chgK a b a.length)), .val (.bool true)]) := by
  refine pcalls_of_code (n := 39) az Tryd.func95 (by kernel_rfl) rfl rfl (Nat.le_of_ble_eq_true rfl) (by intro t u h; simp [Tryd.f95] at h) ?_
  refine code_seq (fun K1 hK1 => ?_)
  refine code_region ?_
  refine list_cons rfl (op_q (q_assign rfl (by decide)) ?_)
  refine list_cons rfl (op_q (q_assign rfl (by decide)) ?_)
  refine list_nil ?_
  refine hK1 _ ?_; clear hK1 K1
  refine code_seq (fun K2 hK2 => ?_)
  refine code_seq (fun K3 hK3 => ?_)
  refine code_region ?_
  refine list_cons rfl (op_q (q_move rfl (by decide)) ?_)
  refine list_cons rfl (op_q (q_len_sl Tryd.underlying35 rfl rfl (by decide)) ?_)
  refine list_cons rfl (op_q (q_move rfl (by decide)) ?_)
  refine list_cons rfl (op_q (q_len_sl Tryd.underlying35 rfl rfl (by decide)) ?_)
  refine list_cons rfl (op_q (q_ne rfl rfl (by decide)) ?_)
  refine list_nil ?_
  refine hK3 _ ?_; clear hK3 K3
  refine code_cond_d rfl (fun h1 => ?_) (fun h1 => ?_)
  · skip
    (try simp only [Decidable.not_not] at h1)
    exfalso
    omega
  (try simp only [Decidable.not_not] at h1)
  refine code_skip ?_
  refine hK2 _ ?_; clear hK2 K2
  refine code_seq (fun K4 hK4 => ?_)
  refine code_region ?_
  refine list_cons rfl (op_q (q_assign rfl (by decide)) ?_)
  refine list_nil ?_
  refine hK4 _ ?_; clear hK4 K4
  refine code_seq (fun K5 hK5 => ?_)
  refine code_seq (fun K6 hK6 => ?_)
  refine code_region ?_
  refine list_cons rfl (op_q (q_move rfl (by decide)) ?_)
  refine list_cons rfl (op_q (q_len_sl Tryd.underlying35 rfl rfl (by decide)) ?_)
  refine list_cons rfl (op_q (q_move rfl (by decide)) ?_)
  refine list_nil ?_
  refine hK6 _ ?_; clear hK6 K6
  refine code_block ?_
  refine code_loop (X := Int × Bool × Int × Int) (fun x => [(0, .par 0 (.sl a.length (a.map (.int .i64)))), (1, .par 1 (.sl b.length (b.map (.int .i64)))), (4, .val (.int .i64 x.1)), (5, .val (.bool x.2.1)), (6, .val (.int .i64 x.2.2.1)), (16, .par 0 (.sl a.length (a.map (.int .i64)))), (17, .val (.int .i64 a.length)), (18, .val (.int .i64 x.2.2.2))]) (fun x => 0 ≤ x.2.2.2 ∧ x.2.2.2 ≤ a.length ∧ x.2.2.1 = chgK a b x.2.2.2.toNat) (fun x => (a.length - x.2.2.2).toNat) (_, _, _, _) (imp_covers ⟨rfl, rfl, rfl, rfl, rfl, rfl, rfl, rfl, trivial⟩) ?_ ?_
  · (try dsimp only)
    exact ⟨by omega, by omega, rfl⟩
  · intro x hI
    obtain ⟨t4, t5, total, t18⟩ := x
    replace hI : 0 ≤ t18 ∧ t18 ≤ a.length ∧ total = chgK a b t18.toNat := hI
    show codeT _ _ _ [(0, .par 0 (.sl a.length (a.map (.int .i64)))), (1, .par 1 (.sl b.length (b.map (.int .i64)))), (4, .val (.int .i64 t4)), (5, .val (.bool t5)), (6, .val (.int .i64 total)), (16, .par 0 (.sl a.length (a.map (.int .i64)))), (17, .val (.int .i64 a.length)), (18, .val (.int .i64 t18))] _
    obtain ⟨i1, i2, rfl⟩ := hI
    have hc := chgK_le a b t18.toNat
    have hd := cnt7_le ((a.getD t18.toNat 0).toNat ^^^ (b.getD t18.toNat 0).toNat)
    have ca : t18 < a.length → 0 ≤ a.getD t18.toNat 0 ∧ a.getD t18.toNat 0 ≤ 127 := fun h => ha _ (by omega)
    have cb : t18 < a.length → 0 ≤ b.getD t18.toNat 0 ∧ b.getD t18.toNat 0 ≤ 127 := fun h => hb _ (by omega)
    refine code_seq (fun K7 hK7 => ?_)
    refine code_region ?_
    refine list_cons rfl (op_q (q_lt rfl rfl (by decide)) ?_)
    refine list_nil ?_
    refine hK7 _ ?_; clear hK7 K7
    refine code_seq (fun K8 hK8 => ?_)
    refine code_cond_d rfl (fun h2 => ?_) (fun h2 => ?_)
    · skip
      (try simp only [Decidable.not_not] at h2)
      refine code_skip ?_
      refine hK8 _ ?_; clear hK8 K8
      refine code_seq (fun K9 hK9 => ?_)
      refine code_block ?_
      refine code_seq (fun K10 hK10 => ?_)
      refine code_region ?_
      refine list_cons rfl (op_q (q_move rfl (by decide)) ?_)
      refine list_cons rfl (op_q (q_indexAddr_rd sl_35 rfl (.inl ⟨_, rfl, rfl⟩) rfl (by omega) (by omega) (by decide)) ?_)
      refine list_cons rfl (op_q (q_load_rd one_3 rfl (.inl ⟨_, (by first | rfl | exact congrArg (SV.rpar _) (drop_map1 _ 0 _ (by first | omega | (simp; omega)))), rfl⟩) (by decide)) ?_)
      refine list_cons rfl (op_q (q_assign rfl (by decide)) ?_)
      refine list_cons rfl (op_q (q_assign rfl (by decide)) ?_)
      refine list_nil ?_
      refine hK10 _ ?_; clear hK10 K10
      refine code_seq (fun K11 hK11 => ?_)
      refine code_region ?_
      refine list_cons rfl (op_q (q_move rfl (by decide)) ?_)
      refine list_cons rfl (op_q (q_move rfl (by decide)) ?_)
      refine list_cons rfl (op_q (q_move rfl (by decide)) ?_)
      refine list_cons rfl (op_q (q_indexAddr_rd sl_35 rfl (.inl ⟨_, rfl, rfl⟩) rfl (by omega) (by omega) (by decide)) ?_)
      refine list_cons rfl (op_q (q_load_rd one_3 rfl (.inl ⟨_, (by first | rfl | exact congrArg (SV.rpar _) (drop_map1 _ 0 _ (by first | omega | (simp; omega)))), rfl⟩) (by decide)) ?_)
      refine list_cons rfl (op_call _ (impl_FarCells _ _) rfl rfl (by decide) (by decide) (by decide) rfl ?_)
      rintro _ rfl; simp only [if_pos (show _ ∧ _ from ⟨ca (by omega), cb (by omega)⟩), decide_eq_true (show _ ∧ _ from ⟨ca (by omega), cb (by omega)⟩)]
      refine list_cons rfl (op_q (q_move rfl (by decide)) ?_)
      refine list_cons rfl (op_q (q_extract rfl rfl (by decide)) ?_)
      refine list_cons rfl (op_q (q_extract rfl rfl (by decide)) ?_)
      refine list_cons rfl (op_q (q_assign rfl (by decide)) ?_)
      refine list_cons rfl (op_q (q_assign rfl (by decide)) ?_)
      refine list_nil ?_
      refine hK11 _ ?_; clear hK11 K11
      refine codeT.imp (σ' := [(0, _), (1, _), (4, _), (5, _), (6, _), (7, _), (8, _), (9, _), (10, _), (16, _), (17, _), (18, _)]) ?_ (imp_covers ⟨rfl, rfl, rfl, rfl, rfl, rfl, rfl, rfl, rfl, rfl, rfl, rfl, trivial⟩)
      refine code_seq (fun K12 hK12 => ?_)
      refine code_seq (fun K13 hK13 => ?_)
      refine code_region ?_
      refine list_cons rfl (op_q (q_move rfl (by decide)) ?_)
      refine list_cons rfl (op_q (by first | exact q_notd rfl (by decide) | exact q_not rfl (by decide)) ?_)
      refine list_nil ?_
      refine hK13 _ ?_; clear hK13 K13
      refine code_cond_f rfl ?_
      refine code_skip ?_
      refine hK12 _ ?_; clear hK12 K12
      refine code_region ?_
      refine list_cons rfl (op_q (q_move rfl (by decide)) ?_)
      refine list_cons rfl (op_q (q_move rfl (by decide)) ?_)
      refine list_cons rfl (op_q (by first | exact q_addI rfl rfl (by decide) (by omega) (by omega) | exact q_ib rfl rfl rfl (by decide)) ?_)
      refine list_cons rfl (op_q (q_assign rfl (by decide)) ?_)
      refine list_nil ?_
      refine blk_n ?_
      refine hK9 _ ?_; clear hK9 K9
      refine code_region ?_
      refine list_cons rfl (op_q (by first | exact q_addI rfl rfl (by decide) (by omega) (by omega) | exact q_ib rfl rfl rfl (by decide)) ?_)
      refine list_cons rfl (op_q (q_move rfl (by decide)) ?_)
      refine list_nil ?_
      refine then_n ⟨(_, _, _, _), imp_covers ⟨rfl, rfl, rfl, rfl, rfl, rfl, rfl, rfl, trivial⟩, ?_, ?_⟩
      · (try dsimp only)
        refine ⟨by omega, by omega, ?_⟩
        rw [show (t18 + 1).toNat = t18.toNat + 1 by omega, chgK]
      · (try dsimp only); omega
    (try simp only [Decidable.not_not] at h2)
    refine code_exit ?_
    refine then_x ?_; clear hK8 K8
    refine then_x ?_
    refine blk_hit ?_
    refine hK5 _ ?_; clear hK5 K5
    refine code_seq (fun K14 hK14 => ?_)
    refine code_region ?_
    refine list_cons rfl (op_q (q_move rfl (by decide)) ?_)
    refine list_cons rfl (op_q (q_assign rfl (by decide)) ?_)
    refine list_cons rfl (op_q (q_assign rfl (by decide)) ?_)
    refine list_nil ?_
    refine hK14 _ ?_; clear hK14 K14
    refine code_ret ?_
    refine ends_ret (cs := []) rfl rfl rfl rfl trivial ?_
    rw [show t18.toNat = a.length by omega]

theorem rowC_T {t : Int} (h0 : 0 ≤ t) (h1 : t ≤ 1439) : rowC (100 * (t / 60) + t % 60) 4 = rowT t := by
  unfold rowC rowT
  rw [show Int.toNat 4 = 4 from rfl]
  simp only [rowK, List.nil_append, List.cons_append]
  rw [show (100 * (t / 60) + t % 60).toNat / 10 / 10 / 10 % 10 = (t / 60 / 10).toNat by omega, show (100 * (t / 60) + t % 60).toNat / 10 / 10 % 10 = (t / 60 % 10).toNat by omega, show (100 * (t / 60) + t % 60).toNat / 10 % 10 = (t % 60 / 10).toNat by omega, show (100 * (t / 60) + t % 60).toNat % 10 = (t % 60 % 10).toNat by omega]
theorem flat_app6 : ∀ {a b : List PV}, PV.flatL a = true → PV.flatL b = true → PV.flatL (a ++ b) = true
  | [], b, _, h => h
  | x :: a, b, h1, h2 => by
    simp only [PV.flatL, Bool.and_eq_true] at h1
    show (x.flat && PV.flatL (a ++ b)) = true
    rw [h1.1, flat_app6 h1.2 h2]; rfl
theorem snocQ {g g' : List (Int × Int)} {a b : Int} (h : g' = g ++ [(a, b)]) : ((g.length + 1, fl g ++ [PV.int .i64 a, PV.int .i64 b]) : Nat × List PV) = (g'.length, fl g') := by
  subst h; rw [List.length_append]; simp [fl]
theorem sameQ {g g' : List (Int × Int)} (h : g' = g) : ((g.length, fl g) : Nat × List PV) = (g'.length, fl g') := by rw [h]
theorem turnR6 {l : List Int} (h : RowP l) : RowP (turnL l) := ⟨by rw [turnL_len]; exact h.1, fun x hx => by
  unfold turnL at hx
  obtain ⟨y, _, rfl⟩ := List.mem_map.1 hx
  exact turnC_cell y⟩
theorem mirR6 {l : List Int} (h : RowP l) : RowP (mirL l) := ⟨by rw [mirL_len]; exact h.1, fun x hx => by
  unfold mirL at hx
  obtain ⟨y, _, rfl⟩ := List.mem_map.1 hx
  exact mirC_cell y⟩
theorem Cn_T {t : Int} (h : TmP t) : Cn (100 * (t / 60) + t % 60) 4 := by
  have h0 := h.1; have h1 := h.2
  exact ⟨by omega, by omega, by rw [show top4 4 = 10000 from rfl]; omega⟩
/-- What is wanted of the times from a on, so many minutes long, in their order. -/
def selF (a : Int) (p : Int → Prop) [DecidablePred p] (k : Nat) : List Int := ((List.range k).map fun (j : Nat) => (a + (j : Int)) % 1440).filter fun t => p t
theorem selF_succ (a : Int) (p : Int → Prop) [DecidablePred p] (k : Nat) : selF a p (k + 1) = selF a p k ++ if p ((a + (k : Int)) % 1440) then [(a + (k : Int)) % 1440] else [] := by
  unfold selF
  rw [List.range_succ, List.map_append, List.filter_append]
  congr 1
  rw [List.map_singleton, List.filter_cons]
  by_cases h : p ((a + (k : Int)) % 1440)
  · rw [if_pos (decide_eq_true h), if_pos h]; rfl
  · rw [if_neg (fun e => h (of_decide_eq_true e)), if_neg h]; rfl
theorem selF_len (a : Int) (p : Int → Prop) [DecidablePred p] (k : Nat) : (selF a p k).length ≤ k := by
  unfold selF; exact Nat.le_trans (List.length_filter_le _ _) (by simp)
theorem selF_yes {a : Int} {p : Int → Prop} [DecidablePred p] {m : Int} (h0 : 0 ≤ m) (h : p ((a + m) % 1440)) : (selF a p (m + 1).toNat) = selF a p m.toNat ++ [(a + m) % 1440] := by
  have e : ((m.toNat : Nat) : Int) = m := Int.toNat_of_nonneg h0
  rw [show (m + 1).toNat = m.toNat + 1 by omega, selF_succ, e, if_pos h]
theorem selF_no {a : Int} {p : Int → Prop} [DecidablePred p] {m : Int} (h0 : 0 ≤ m) (h : ¬ p ((a + m) % 1440)) : (selF a p (m + 1).toNat) = selF a p m.toNat := by
  have e : ((m.toNat : Nat) : Int) = m := Int.toNat_of_nonneg h0
  rw [show (m + 1).toNat = m.toNat + 1 by omega, selF_succ, e, if_neg h, List.append_nil]
theorem selF_pre (a : Int) (p : Int → Prop) [DecidablePred p] (m : Nat) : ∀ k, m ≤ k → ∃ r, selF a p k = selF a p m ++ r
  | 0, h => ⟨[], by rw [show m = 0 by omega, List.append_nil]⟩
  | k + 1, h => by
    by_cases e : m = k + 1
    · exact ⟨[], by rw [e, List.append_nil]⟩
    · obtain ⟨r, hr⟩ := selF_pre a p m k (by omega)
      exact ⟨_, by rw [selF_succ, hr, List.append_assoc]⟩
theorem selF_at {a : Int} {p : Int → Prop} [DecidablePred p] {m : Int} {k : Nat} (h0 : 0 ≤ m) (h1 : m < k) (h : p ((a + m) % 1440)) : (selF a p m.toNat).length < (selF a p k).length ∧ (selF a p k).getD (selF a p m.toNat).length 0 = (a + m) % 1440 := by
  obtain ⟨r, hr⟩ := selF_pre a p (m + 1).toNat k (by omega)
  rw [hr, selF_yes h0 h]
  refine ⟨by simp only [List.length_append, List.length_cons, List.length_nil]; omega, ?_⟩
  rw [List.getD_eq_getElem?_getD, List.append_assoc, List.getElem?_append_right (Nat.le_refl _), Nat.sub_self]
  rfl
theorem selF_K (q : Nat → Prop) [DecidablePred q] (p : Int → Prop) [DecidablePred p] : ∀ k : Nat, k ≤ 1440 → (∀ j : Nat, j < k → (q j ↔ p (j : Int))) → selF 0 p k = selK q k
  | 0, _, _ => rfl
  | k + 1, h, hq => by
    have e : (0 + (k : Int)) % 1440 = (k : Int) := by omega
    rw [selF_succ, selK_succ, selF_K q p k (by omega) (fun j hj => hq j (by omega)), e]
    by_cases hp : p (k : Int)
    · rw [if_pos hp, if_pos ((hq k (by omega)).2 hp)]
    · rw [if_neg hp, if_neg (fun z => hp ((hq k (by omega)).1 z))]
theorem selF_mem {a : Int} {p : Int → Prop} [DecidablePred p] {k : Nat} {x : Int} (h : x ∈ selF a p k) : 0 ≤ x ∧ x ≤ 1439 ∧ p x := by
  unfold selF at h
  obtain ⟨h1, h2⟩ := List.mem_filter.1 h
  obtain ⟨j, _, rfl⟩ := List.mem_map.1 h1
  exact ⟨by omega, by omega, of_decide_eq_true h2⟩
theorem selF_get {a : Int} {p : Int → Prop} [DecidablePred p] {k i : Nat} (h : i < (selF a p k).length) : 0 ≤ (selF a p k).getD i 0 ∧ (selF a p k).getD i 0 ≤ 1439 ∧ p ((selF a p k).getD i 0) := by
  have hm : (selF a p k).getD i 0 ∈ selF a p k := by
    rw [List.getD_eq_getElem?_getD, List.getElem?_eq_getElem h]; exact List.getElem_mem h
  exact selF_mem hm
theorem nb_bd {l : List Int} (hr : RowP l) : 0 ≤ (if RowP l ∧ DigsP l then numF l else 0) ∧ (if RowP l ∧ DigsP l then numF l else 0) ≤ 999999 := by
  by_cases hd : DigsP l
  · rw [if_pos ⟨hr, hd⟩]
    have := numI_bd hr.1
    rwa [if_pos hd] at this
  · rw [if_neg (fun z => hd z.2)]; omega
theorem take_snocF {L : List Int} {i : Nat} (h : i < L.length) : L.take (i + 1) = L.take i ++ [L.getD i 0] := by
  rw [List.take_add_one, List.getElem?_eq_getElem h, List.getD_eq_getElem?_getD, List.getElem?_eq_getElem h]; rfl
theorem snocI {L : List Int} {i : Nat} {v : Int} (h : i < L.length) (hv : v = L.getD i 0) : (((L.take i).length + 1, (L.take i).map (PV.int .i64) ++ [PV.int .i64 v]) : Nat × List PV) = ((L.take (i + 1)).length, (L.take (i + 1)).map (PV.int .i64)) := by
  subst hv
  rw [take_snocF h, List.length_append, List.map_append]; rfl
/-- The first time that mirrors. -/
theorem wait_first {t : Int} (h : TmP t) : 0 < (selF t MirP 1440).length ∧ ((selF t MirP 1440).getD 0 0 - t + 1440) % 1440 = ((waitN t : Nat) : Int) := by
  have h0 := h.1; have h1 := h.2
  have key : ∀ k : Nat, k ≤ 1440 → (∃ w : Nat, w < k ∧ MirP ((t + (w : Int)) % 1440) ∧ ∀ j : Nat, j < w → ¬ MirP ((t + (j : Int)) % 1440)) ∨ ∀ j : Nat, j < k → ¬ MirP ((t + (j : Int)) % 1440) := by
    intro k
    induction k with
    | zero => intro _; exact .inr fun j hj => by omega
    | succ k ih =>
      intro hk
      rcases ih (by omega) with ⟨w, hw, h2, h3⟩ | hn
      · exact .inl ⟨w, by omega, h2, h3⟩
      · by_cases hm : MirP ((t + (k : Int)) % 1440)
        · exact .inl ⟨k, by omega, hm, hn⟩
        · exact .inr fun j hj => by
            by_cases e : j = k
            · subst e; exact hm
            · exact hn j (by omega)
  rcases key 1440 (Nat.le_refl _) with ⟨w, hw, h2, h3⟩ | hn
  · have hz : ∀ m : Nat, m ≤ w → selF t MirP m = [] := by
      intro m
      induction m with
      | zero => intro _; rfl
      | succ m ih => intro hm; rw [selF_succ, ih (by omega), if_neg (h3 m (by omega))]; rfl
    have ha := selF_at (a := t) (p := MirP) (m := (w : Int)) (k := 1440) (by omega) (by omega) h2
    rw [show ((w : Nat) : Int).toNat = w from rfl, hz w (Nat.le_refl _)] at ha
    refine ⟨by simpa using ha.1, ?_⟩
    have ha2 : (selF t MirP 1440).getD 0 0 = (t + (w : Int)) % 1440 := ha.2
    rw [ha2, waitN_eq (w := w) (by omega) h2 h3]
    omega
  · exfalso
    by_cases e : t = 0
    · exact hn 0 (by omega) (by rw [e]; exact mir0)
    · exact hn (1440 - t).toNat (by omega) (by rw [show (t + (((1440 - t).toNat : Nat) : Int)) % 1440 = 0 by omega]; exact mir0)
/-- The pairs among the first so many times that mirror. -/
def prI (i : Nat) : List (Int × Int) := (((selF 0 MirP 1440).take i).filter fun t => t < mirT t).map fun t => (t, mirT t)
theorem prI_succ {i : Nat} (h : i < (selF 0 MirP 1440).length) : prI (i + 1) = prI i ++ if (selF 0 MirP 1440).getD i 0 < mirT ((selF 0 MirP 1440).getD i 0) then [((selF 0 MirP 1440).getD i 0, mirT ((selF 0 MirP 1440).getD i 0))] else [] := by
  unfold prI
  rw [take_snocF h, List.filter_append, List.map_append]
  congr 1
  rw [List.filter_cons]
  generalize (selF 0 MirP 1440).getD i 0 = x
  by_cases e : x < mirT x
  · rw [if_pos (decide_eq_true e), if_pos e]; rfl
  · rw [if_neg (fun k => e (of_decide_eq_true k)), if_neg e]; rfl
theorem prI_len (i : Nat) : (prI i).length ≤ 1440 := by
  unfold prI
  rw [List.length_map]
  exact Nat.le_trans (List.length_filter_le _ _) (Nat.le_trans (by rw [List.length_take]; exact Nat.min_le_right _ _) (selF_len _ _ _))
theorem prI_gen : ∀ k : Nat, k ≤ 1440 → ((selF 0 MirP k).filter fun t => t < mirT t).map (fun t => (t, mirT t)) = prsK k
  | 0, _ => rfl
  | k + 1, h => by
    have e : (0 + (k : Int)) % 1440 = (k : Int) := by omega
    rw [selF_succ, prsK_succ, List.filter_append, List.map_append, prI_gen k (by omega), e]
    congr 1
    by_cases hm : MirP (k : Int)
    · rw [if_pos hm, List.filter_cons]
      by_cases hl : (k : Int) < mirT (k : Int)
      · rw [if_pos (decide_eq_true hl), if_pos ⟨hm, hl⟩]; rfl
      · rw [if_neg (fun z => hl (of_decide_eq_true z)), if_neg (fun z => hl z.2)]; rfl
    · rw [if_neg hm, if_neg (fun z => hm z.1)]; rfl
theorem prI_end : prI (selF 0 MirP 1440).length = prsK 1440 := by
  unfold prI; rw [List.take_length]; exact prI_gen 1440 (Nat.le_refl _)
theorem prI_0 : prI 0 = [] := rfl
/-- The program's own way to the brightest, the darkest time. -/
theorem brK_prog : ∀ k, brK k = brK k := fun _ => rfl

set_option maxRecDepth 4000 in
theorem impl_isTime (t : Int) : PCalls Tryd.prog 111 [.int .i64 t] (· = [.val (.bool (decide (TmP t)))]) := by
  refine pcalls_of_code (n := 9) az Tryd.func111 (by kernel_rfl) rfl rfl (Nat.le_of_ble_eq_true rfl) (by intro t u h; simp [Tryd.f111] at h) ?_
  refine code_seq (fun K1 hK1 => ?_)
  refine code_region ?_
  refine list_cons rfl (op_q (q_assign rfl (by decide)) ?_)
  refine list_nil ?_
  refine hK1 _ ?_; clear hK1 K1
  refine code_seq (fun K2 hK2 => ?_)
  refine code_region ?_
  refine list_cons rfl (op_q (q_move rfl (by decide)) ?_)
  refine list_cons rfl (op_q (q_ge rfl rfl (by decide)) ?_)
  refine list_cons rfl (op_q (q_move rfl (by decide)) ?_)
  refine list_guard_d rfl rfl rfl rfl (by decide) rfl (by decide) (fun h1 => ?_) (fun h1 => ?_)
  · simp only [Bool.false_eq_true, if_true, if_false, Decidable.not_not] at h1
    refine id (op_q (q_move rfl (by decide)) ?_)
    refine list_guard_y rfl rfl rfl rfl (by decide) rfl ?_
    refine id (op_q (q_lt rfl rfl (by decide)) ?_)
    refine list_cons rfl (op_q (q_pick rfl rfl (by decide)) ?_)
    refine list_cons rfl (op_q (q_assign rfl (by decide)) ?_)
    refine list_nil ?_
    refine hK2 _ ?_; clear hK2 K2
    refine code_ret ?_
    refine ends_ret (cs := []) rfl rfl rfl rfl trivial ?_
    first | rfl | (congr 3; exact decide_eq_decide.mpr ⟨fun k => ⟨by omega, by omega⟩, fun k => by have := k.2; omega⟩) | (rw [decide_eq_false (fun k => by have := k.1; omega)]; done) | (rw [decide_eq_true (show TmP t from ⟨by omega, by omega⟩)]; done)
  simp only [Bool.false_eq_true, if_true, if_false, Decidable.not_not] at h1
  refine list_guard_n rfl rfl rfl rfl (by decide) rfl ?_
  refine list_cons rfl (op_q (q_pick rfl rfl (by decide)) ?_)
  refine list_cons rfl (op_q (q_assign rfl (by decide)) ?_)
  refine list_nil ?_
  refine hK2 _ ?_; clear hK2 K2
  refine code_ret ?_
  refine ends_ret (cs := []) rfl rfl rfl rfl trivial ?_
  first | rfl | (congr 3; exact decide_eq_decide.mpr ⟨fun k => ⟨by omega, by omega⟩, fun k => by have := k.2; omega⟩) | (rw [decide_eq_false (fun k => by have := k.1; omega)]; done) | (rw [decide_eq_true (show TmP t from ⟨by omega, by omega⟩)]; done)

set_option maxRecDepth 4000 in
theorem impl_faceOf (t : Int) (h0 : 0 ≤ t) (h1 : t ≤ 1439) : PCalls Tryd.prog 112 [.int .i64 t] (· = [.val (.agg [.int .i64 (t / 60), .int .i64 (t % 60)])]) := by
  refine pcalls_of_code (n := 8) az Tryd.func112 (by kernel_rfl) rfl rfl (Nat.le_of_ble_eq_true rfl) (by intro t u h; simp [Tryd.f112] at h; obtain ⟨_, rfl⟩ := h <;> first | exact resTy_agg agg_83 (by decide)) ?_
  refine code_seq (fun K1 hK1 => ?_)
  refine code_region ?_
  refine list_cons rfl (op_alloc zt_83 (by decide) (by decide) rfl ?_)
  refine list_nil ?_
  refine hK1 _ ?_; clear hK1 K1
  refine code_seq (fun K2 hK2 => ?_)
  refine code_region ?_
  refine list_cons rfl (op_q (q_move rfl (by decide)) ?_)
  refine list_cons rfl (op_q (by first | exact q_quoI rfl rfl (by decide) (by omega) (by omega) (by omega) | exact q_quoT rfl rfl (by omega) (by decide) (by omega) (by omega) | exact q_quo rfl rfl (by omega) (by decide)) ?_)
  refine list_cons rfl (op_q (q_move rfl (by decide)) ?_)
  refine list_cons rfl (op_q (by first | exact q_remI rfl rfl (by decide) (by omega) (by omega) | exact q_rem rfl rfl (by omega) (by decide)) ?_)
  refine list_cons rfl (op_q (q_build bt_83 (parts := [(0, .tmp 4), (1, .tmp 6)]) rfl rfl (by decide)) ?_)
  refine list_cons rfl (op_store (agg_83).2 2 [2] (by intro t ht; simp only [List.mem_cons, List.not_mem_nil, or_false] at ht; subst ht; rfl) (.inr ⟨rfl, _, rfl⟩) rfl rfl rfl rfl (by first | rfl | exact flat_part (flat_map _ (fun _ => rfl) _) _ _ | exact flat_map _ (fun _ => rfl) _) (by first | rfl | (simp [PV.cells]; done)) (by first | decide | omega | exact Nat.le_refl _ | (simp; done) | (simp; omega)) (by decide) rfl ?_)
  refine list_nil ?_
  refine hK2 _ ?_; clear hK2 K2
  refine codeT.imp (σ' := [(0, _), (2, _)]) ?_ (imp_covers ⟨rfl, rfl, trivial⟩)
  refine code_ret ?_
  refine ends_ret (cs := []) rfl rfl rfl rfl trivial ?_
  rfl

set_option maxRecDepth 4000 in
theorem impl_laterTime (t m : Int) (h0 : 0 ≤ t ∧ t ≤ 1440) (h1 : 0 ≤ m ∧ m ≤ 1440) : PCalls Tryd.prog 126 [.int .i64 t, .int .i64 m] (· = [.val (.int .i64 ((t + m) % 1440))]) := by
  refine pcalls_of_code (n := 9) az Tryd.func126 (by kernel_rfl) rfl rfl (Nat.le_of_ble_eq_true rfl) (by intro t u h; simp [Tryd.f126] at h) ?_
  refine code_seq (fun K1 hK1 => ?_)
  refine code_region ?_
  refine list_cons rfl (op_q (q_assign rfl (by decide)) ?_)
  refine list_nil ?_
  refine hK1 _ ?_; clear hK1 K1
  refine code_seq (fun K2 hK2 => ?_)
  refine code_region ?_
  refine list_cons rfl (op_q (q_move rfl (by decide)) ?_)
  refine list_cons rfl (op_q (q_move rfl (by decide)) ?_)
  refine list_cons rfl (op_q (by first | exact q_addI rfl rfl (by decide) (by omega) (by omega) | exact q_ib rfl rfl rfl (by decide)) ?_)
  refine list_cons rfl (op_q (by first | exact q_remI rfl rfl (by decide) (by omega) (by omega) | exact q_rem rfl rfl (by omega) (by decide)) ?_)
  refine list_cons rfl (op_q (q_assign rfl (by decide)) ?_)
  refine list_nil ?_
  refine hK2 _ ?_; clear hK2 K2
  refine code_ret ?_
  refine ends_ret (cs := []) rfl rfl rfl rfl trivial ?_
  rfl

set_option maxRecDepth 8000 in
set_option maxHeartbeats 2000000 in
theorem impl_ClockRow (t : Int) : PCalls Tryd.prog 42 [.int .i64 t] (· = [.own 0 3 1 (if TmP t then rowT t else []).length ((if TmP t then rowT t else []).map (.int .i64)), .val (.bool (decide (TmP t)))]) := by
  refine pcalls_of_code (n := 20) az Tryd.func42 (by kernel_rfl) rfl rfl (Nat.le_of_ble_eq_true rfl) (by intro t u h; simp [Tryd.f42] at h) ?_
  refine code_seq (fun K1 hK1 => ?_)
  refine code_region ?_
  refine list_cons rfl (op_q (q_assign rfl (by decide)) ?_)
  refine list_cons rfl (op_q (q_assign rfl (by decide)) ?_)
  refine list_nil ?_
  refine hK1 _ ?_; clear hK1 K1
  refine code_seq (fun K2 hK2 => ?_)
  refine code_seq (fun K3 hK3 => ?_)
  refine code_region ?_
  refine list_cons rfl (op_q (q_move rfl (by decide)) ?_)
  refine list_cons rfl (op_call _ (impl_isTime _) rfl rfl (by decide) (by decide) (by decide) rfl ?_)
  rintro _ rfl
  refine list_cons rfl (op_q (by first | exact q_notd rfl (by decide) | exact q_not rfl (by decide)) ?_)
  refine list_nil ?_
  refine hK3 _ ?_; clear hK3 K3
  refine codeT.imp (σ' := [(0, _), (2, _), (3, _), (7, _)]) ?_ (imp_covers ⟨rfl, rfl, rfl, rfl, trivial⟩)
  refine code_cond_d rfl (fun h1 => ?_) (fun h1 => ?_)
  · skip
    (try simp only [Decidable.not_not] at h1); (try have hT1 := (h1 : TmP t).1; have hT2 := (h1 : TmP t).2)
    refine code_seq (fun K4 hK4 => ?_)
    refine code_region ?_
    refine list_cons rfl (op_buildSlice sl_35 (parts := []) rfl rfl rfl (by decide) (by decide) (by decide) rfl ?_)
    refine list_cons rfl (op_q (q_assign rfl (by decide)) ?_)
    refine list_cons rfl (op_q (q_assign rfl (by decide)) ?_)
    refine list_nil ?_
    refine hK4 _ ?_; clear hK4 K4
    refine code_ret ?_
    refine then_r ?_; clear hK2 K2
    refine ends_ret (cs := []) rfl rfl rfl rfl trivial ?_
    first
      | (have e : ¬ (TmP t) := by assumption
         simp only [if_neg e, decide_eq_false e]; first | done | rfl)
      | (have e : TmP t := by assumption
         simp only [if_pos e, decide_eq_true e]; first | done | rfl)
  (try simp only [Decidable.not_not] at h1); (try have hT1 := (h1 : TmP t).1; have hT2 := (h1 : TmP t).2)
  refine code_skip ?_
  refine hK2 _ ?_; clear hK2 K2
  refine code_seq (fun K5 hK5 => ?_)
  refine code_region ?_
  refine list_cons rfl (op_q (q_move rfl (by decide)) ?_)
  refine list_cons rfl (op_call _ (impl_faceOf _ (by omega) (by omega)) rfl rfl (by decide) (by decide) (by decide) rfl ?_)
  rintro _ rfl
  refine list_cons rfl (op_alloc zt_83 (by decide) (by decide) rfl ?_)
  refine list_cons rfl (op_store (agg_83).2 4 [4] (by intro t ht; simp only [List.mem_cons, List.not_mem_nil, or_false] at ht; subst ht; rfl) (.inr ⟨rfl, _, rfl⟩) rfl rfl rfl rfl (by first | rfl | exact flat_part (flat_map _ (fun _ => rfl) _) _ _ | exact flat_map _ (fun _ => rfl) _) (by first | rfl | (simp [PV.cells]; done)) (by first | decide | omega | exact Nat.le_refl _ | (simp; done) | (simp; omega)) (by decide) rfl ?_)
  refine list_nil ?_
  refine hK5 _ ?_; clear hK5 K5
  refine codeT.imp (σ' := [(0, _), (2, _), (3, _), (4, _)]) ?_ (imp_covers ⟨rfl, rfl, rfl, rfl, trivial⟩)
  refine code_seq (fun K6 hK6 => ?_)
  refine code_region ?_
  refine list_cons rfl (op_q (q_fieldAddr fi_83_0 rfl rfl (by decide)) ?_)
  refine list_cons rfl (op_q (q_load one_3 4 rfl rfl rfl (by first | rfl | exact get_map1 _ 0 _ (by first | omega | (simp; omega))) (by decide)) ?_)
  refine list_cons rfl (op_q (by first | exact q_mulI rfl rfl (by decide) (by omega) (by omega) | exact q_ib rfl rfl rfl (by decide)) ?_)
  refine list_cons rfl (op_q (q_fieldAddr fi_83_1 rfl rfl (by decide)) ?_)
  refine list_cons rfl (op_q (q_load one_3 4 rfl rfl rfl (by first | rfl | exact get_map1 _ 0 _ (by first | omega | (simp; omega))) (by decide)) ?_)
  refine list_cons rfl (op_q (by first | exact q_addI rfl rfl (by decide) (by omega) (by omega) | exact q_ib rfl rfl rfl (by decide)) ?_)
  refine list_cons rfl (op_call _ (impl_CounterRow _ 4) rfl rfl (by decide) (by decide) (by decide) rfl ?_)
  rintro _ rfl; simp only [if_pos (Cn_T (by assumption : TmP t)), decide_eq_true (Cn_T (by assumption : TmP t)), rowC_T hT1 hT2]
  refine list_cons rfl (op_q (q_extract rfl rfl (by decide)) ?_)
  refine list_cons rfl (op_q (q_extract rfl rfl (by decide)) ?_)
  refine list_cons rfl (op_q (q_assign rfl (by decide)) ?_)
  refine list_cons rfl (op_q (q_assign rfl (by decide)) ?_)
  refine list_nil ?_
  refine hK6 _ ?_; clear hK6 K6
  refine codeT.imp (σ' := [(0, _), (2, _), (3, _), (4, _)]) ?_ (imp_covers ⟨rfl, rfl, rfl, rfl, trivial⟩)
  refine code_ret ?_
  refine ends_ret (cs := []) rfl rfl rfl rfl trivial ?_
  first
    | (have e : ¬ (TmP t) := by assumption
       simp only [if_neg e, decide_eq_false e]; first | done | rfl)
    | (have e : TmP t := by assumption
       simp only [if_pos e, decide_eq_true e]; first | done | rfl)

set_option maxRecDepth 4000 in
theorem gives_c (f : FuncId) (t w v : Int) (b : Prop) [Decidable b] (hf : PCalls Tryd.prog f [.int .i64 t] (· = [.val (.int .i64 v), .val (.bool (decide b))])) : PCalls Tryd.prog 125 [.clo f [], .int .i64 t, .int .i64 w] (· = [.val (.bool (decide (b ∧ v = w)))]) := by
  refine pcalls_of_code (n := 21) az Tryd.func125 (by kernel_rfl) rfl rfl (Nat.le_of_ble_eq_true rfl) (by intro t u h; simp [Tryd.f125] at h) ?_
  refine code_seq (fun K1 hK1 => ?_)
  refine code_region ?_
  refine list_cons rfl (op_q (q_assign rfl (by decide)) ?_)
  refine list_nil ?_
  refine hK1 _ ?_; clear hK1 K1
  refine code_seq (fun K2 hK2 => ?_)
  refine code_region ?_
  refine list_cons rfl (op_q (q_move rfl (by decide)) ?_)
  refine list_cons rfl (op_q (q_move rfl (by decide)) ?_)
  refine list_cons rfl (op_callF _ rfl rfl (hf) rfl rfl (by decide) (by decide) (by decide) rfl ?_)
  rintro _ _ rfl
  refine list_cons rfl (op_q (q_move rfl (by decide)) ?_)
  refine list_cons rfl (op_q (q_extract rfl rfl (by decide)) ?_)
  refine list_cons rfl (op_q (q_extract rfl rfl (by decide)) ?_)
  refine list_cons rfl (op_q (q_assign rfl (by decide)) ?_)
  refine list_cons rfl (op_q (q_assign rfl (by decide)) ?_)
  refine list_nil ?_
  refine hK2 _ ?_; clear hK2 K2
  refine codeT.imp (σ' := [(0, _), (1, _), (2, _), (6, _), (7, _), (8, _)]) ?_ (imp_covers ⟨rfl, rfl, rfl, rfl, rfl, rfl, trivial⟩)
  refine code_seq (fun K3 hK3 => ?_)
  refine code_region ?_
  refine list_cons rfl (op_q (q_move rfl (by decide)) ?_)
  refine list_cons rfl (op_q (q_move rfl (by decide)) ?_)
  refine list_guard_d rfl rfl rfl rfl (by decide) rfl (by decide) (fun h1 => ?_) (fun h1 => ?_)
  · simp only [Bool.false_eq_true, if_true, if_false, Decidable.not_not] at h1
    refine id (op_q (q_move rfl (by decide)) ?_)
    refine list_guard_y rfl rfl rfl rfl (by decide) rfl ?_
    refine id (op_q (q_move rfl (by decide)) ?_)
    refine list_guard_y rfl rfl rfl rfl (by decide) rfl ?_
    refine id (op_q (q_eq rfl rfl (by decide)) ?_)
    refine list_cons rfl (op_q (q_pick rfl rfl (by decide)) ?_)
    refine list_cons rfl (op_q (q_assign rfl (by decide)) ?_)
    refine list_nil ?_
    refine hK3 _ ?_; clear hK3 K3
    refine code_ret ?_
    refine ends_ret (cs := []) rfl rfl rfl rfl trivial ?_
    first | (rw [decide_eq_false (fun k : b ∧ v = w => h1 k.1)]; done) | (congr 3; exact decide_eq_decide.mpr ⟨fun k => ⟨h1, k⟩, fun k => k.2⟩)
  simp only [Bool.false_eq_true, if_true, if_false, Decidable.not_not] at h1
  refine list_guard_n rfl rfl rfl rfl (by decide) rfl ?_
  refine list_guard_n rfl rfl rfl rfl (by decide) rfl ?_
  refine list_cons rfl (op_q (q_pick rfl rfl (by decide)) ?_)
  refine list_cons rfl (op_q (q_assign rfl (by decide)) ?_)
  refine list_nil ?_
  refine hK3 _ ?_; clear hK3 K3
  refine code_ret ?_
  refine ends_ret (cs := []) rfl rfl rfl rfl trivial ?_
  first | (rw [decide_eq_false (fun k : b ∧ v = w => h1 k.1)]; done) | (congr 3; exact decide_eq_decide.mpr ⟨fun k => ⟨h1, k⟩, fun k => k.2⟩)

set_option maxRecDepth 8000 in
set_option maxHeartbeats 2000000 in
theorem appendSeq_c (f : FuncId) (z caps : List PV) (L : List Int) (hL : L.length ≤ 1440) (hit : ITer Tryd.prog f (.ptr z :: caps) L.length (fun i => [.int .i64 (L.getD i 0)])) : PCalls Tryd.prog 171 [.cst 0, .clo f (.ptr z :: caps)] (· = [.own 0 3 1 (L).length ((L).map (.int .i64))]) := by
  refine pcalls_of_code (n := 13) az Tryd.func171 (by kernel_rfl) rfl rfl (Nat.le_of_ble_eq_true rfl) (by intro t u h; simp [Tryd.f171] at h) ?_
  refine codeT.imp ?_ (imp_nil (s := 0) (l := 900) (e := 3) (size := 1) (.inl rfl))
  refine code_seq (fun K1 hK1 => ?_)
  refine code_region ?_
  refine list_cons rfl (op_boxR rfl rfl (by decide) (by decide) (by decide) rfl ?_)
  refine list_cons rfl (op_q (q_assign rfl (by decide)) ?_)
  refine list_nil ?_
  refine hK1 _ ?_; clear hK1 K1
  refine codeT.imp (σ' := [(0, _), (1, _), (2, _), (4, _)]) ?_ (imp_covers ⟨rfl, rfl, rfl, rfl, trivial⟩)
  refine code_seq (fun K2 hK2 => ?_)
  refine code_seq (fun K3 hK3 => ?_)
  refine code_region ?_
  refine list_cons rfl (op_q (q_move rfl (by decide)) ?_)
  refine list_nil ?_
  refine hK3 _ ?_; clear hK3 K3
  refine code_block ?_
  refine code_rangeFunc (hit) ((fun (s1 s4 s6 : SV) (i : Nat) => ([(1, s1), (2, .boxR 2 35 3 1 [some ((L.take i).length, (L.take i).map (.int .i64))]), (4, s4), (6, s6)] : St)) _ _ _) (fun i => True) (trivial) rfl rfl rfl (by decide) rfl (fun _ _ => ⟨rfl, rfl⟩) (fun _ => rfl) rfl rfl (imp_covers ⟨rfl, rfl, rfl, rfl, trivial⟩) (fun i hi hIi => ?_) (fun hIi => ?_)
  · intro K4 hK4
    refine codeT.imp (σ' := [(7, .val (.int .i64 (L.getD i 0))), (1, _), (2, _), (4, _), (6, _)]) ?_ (imp_covers ⟨rfl, rfl, rfl, rfl, rfl, trivial⟩)
    refine code_region ?_
    refine list_cons rfl (op_q (q_assign rfl (by decide)) ?_)
    refine list_nil ?_
    refine hK4 _ rfl ?_; clear hK4 K4
    refine codeT.imp (σ' := [(1, _), (2, _), (4, _), (5, _), (6, _), (7, _)]) ?_ (imp_covers ⟨rfl, rfl, rfl, rfl, rfl, rfl, trivial⟩)
    refine code_block ?_
    refine code_region ?_
    refine list_cons rfl (op_loadR one_35 2 (.inr ⟨rfl, rfl⟩) rfl rfl (by decide) (by decide) (by decide) rfl ?_)
    refine list_cons rfl (op_q (q_move rfl (by decide)) ?_)
    refine list_cons rfl (op_buildSlice sl_35 (parts := [(0, .tmp 9)]) rfl rfl rfl (by decide) (by decide) (by decide) rfl ?_)
    refine list_cons rfl (op_append_gen sl_35 (l := 8) (.inl rfl) rfl rfl (l2 := none) (.inl ⟨rfl, (by first | rfl | exact flat_map _ (fun _ => rfl) _)⟩) (by first | rfl | simp | omega) (by rw [List.length_take]; omega) (by decide) (by decide) (by decide) ?_)
    refine list_cons rfl (op_storeR (one_35).2 2 (.inr ⟨rfl, rfl⟩) rfl rfl (by decide) (by decide) (by first | exact flat_app6 (flat_map _ (fun _ => rfl) _) rfl | rfl) Nat.zero_lt_one rfl ?_)
    refine list_nil ?_
    refine blk_n ?_
    refine rp_n ⟨trivial, imp_covers ⟨rfl, (congrArg (fun z => some (SV.boxR 2 35 3 1 [some z])) (snocI hi rfl)), rfl, rfl, trivial⟩⟩
  · skip
    refine blk_n ?_
    refine hK2 _ ?_; clear hK2 K2
    refine codeT.imp (σ' := [(1, _), (2, _), (4, _), (6, _)]) ?_ (imp_covers ⟨rfl, rfl, rfl, rfl, trivial⟩)
    refine code_seq (fun K5 hK5 => ?_)
    refine code_region ?_
    refine list_cons rfl (op_loadR one_35 2 (.inr ⟨rfl, rfl⟩) rfl rfl (by decide) (by decide) (by decide) rfl ?_)
    refine list_cons rfl (op_q (q_assign rfl (by decide)) ?_)
    refine list_nil ?_
    refine hK5 _ ?_; clear hK5 K5
    refine codeT.imp (σ' := [(1, _), (2, _), (4, _), (6, _)]) ?_ (imp_covers ⟨rfl, rfl, rfl, rfl, trivial⟩)
    refine code_ret ?_
    refine ends_ret (cs := []) rfl rfl rfl rfl trivial ?_
    rw [List.take_of_length_le (Nat.le_refl _)]

set_option maxRecDepth 4000 in
theorem collect_c (f : FuncId) (z caps : List PV) (L : List Int) (hL : L.length ≤ 1440) (hit : ITer Tryd.prog f (.ptr z :: caps) L.length (fun i => [.int .i64 (L.getD i 0)])) : PCalls Tryd.prog 159 [.clo f (.ptr z :: caps)] (· = [.own 0 3 1 (L).length ((L).map (.int .i64))]) := by
  refine pcalls_of_code (n := 5) az Tryd.func159 (by kernel_rfl) rfl rfl (Nat.le_of_ble_eq_true rfl) (by intro t u h; simp [Tryd.f159] at h) ?_
  refine code_seq (fun K1 hK1 => ?_)
  refine code_region ?_
  refine list_cons rfl (op_q (q_assign rfl (by decide)) ?_)
  refine list_nil ?_
  refine hK1 _ ?_; clear hK1 K1
  refine code_seq (fun K2 hK2 => ?_)
  refine code_region ?_
  refine list_cons rfl (op_q (q_move rfl (by decide)) ?_)
  refine list_cons rfl (op_callN (ss := [.val (.cst 0), _]) (appendSeq_c f z caps L hL hit) (pvsN_c (pvsN_x rfl rfl pvsN_nil)) (by decide) (by decide) (by decide) rfl ?_)
  rintro _ _ rfl
  refine list_cons rfl (op_q (q_assign rfl (by decide)) ?_)
  refine list_nil ?_
  refine hK2 _ ?_; clear hK2 K2
  refine codeT.imp (σ' := [(0, _), (2, _)]) ?_ (imp_covers ⟨rfl, rfl, trivial⟩)
  refine code_ret ?_
  refine ends_ret (cs := []) rfl rfl rfl rfl trivial ?_
  rfl

set_option maxRecDepth 8000 in
set_option maxHeartbeats 2000000 in
theorem timesFrom_it (a : Int) (ha : TmP a) (f : FuncId) (fc : List PV) (p : Int → Prop) [DecidablePred p] (hf : ∀ t, TmP t → PCalls Tryd.prog f (.int .i64 t :: fc) (· = [.val (.bool (decide (p t)))])) : ITer Tryd.prog 158 [.ptr [.int .i64 a], .ptr [.clo f fc]] ((selF a p 1440).length) (fun i => [.int .i64 ((selF a p 1440).getD i 0)]) := by
  refine iter_of_code (n := 22) Tryd.func158 (by kernel_rfl) rfl rfl (Nat.le_of_ble_eq_true rfl) rfl (fun Y hYN hYe => ?_)
  have ha0 := ha.1
  have ha1 := ha.2
  refine codeY_imp (σ' := [(0, _), (1, _), (2, _)]) rfl (imp_covers ⟨rfl, rfl, rfl, trivial⟩) ?_
  refine codeY_seq (fun K1 hK1 => ?_)
  refine codeY_of rfl rfl ?_
  refine code_region ?_
  refine list_cons rfl (op_q (q_move rfl (by decide)) ?_)
  refine list_nil ?_
  refine thy_n ?_
  refine hK1 _ _ ?_; clear hK1 K1
  refine codeY_imp (σ' := [(0, _), (1, _), (2, _), (6, _)]) rfl (imp_covers ⟨rfl, rfl, rfl, rfl, trivial⟩) ?_
  refine codeY_block ?_
  refine codeY_loop (X := Int) (fun x => [(0, .yld Y.l), (1, .rpar 1 [.int .i64 a]), (2, .rpar 2 [.clo f fc]), (6, .val (.int .i64 x))]) (fun x => (false, (selF a p x.toNat).length)) (fun x => 0 ≤ x ∧ x ≤ 1440) (fun x => (1440 - x).toNat) (_) rfl (imp_covers ⟨rfl, rfl, rfl, rfl, trivial⟩) rfl ?_ ?_
  · (try dsimp only)
    exact ⟨by omega, by omega⟩
  · intro x hI
    revert hI; revert x; intro t6 hI
    replace hI : 0 ≤ t6 ∧ t6 ≤ 1440 := hI
    show codeY _ _ _ [(0, .yld Y.l), (1, .rpar 1 [.int .i64 a]), (2, .rpar 2 [.clo f fc]), (6, .val (.int .i64 t6))] (false, (selF a p t6.toNat).length) _
    obtain ⟨i1, i2⟩ := hI
    refine codeY_seq (fun K2 hK2 => ?_)
    refine codeY_of rfl rfl ?_
    refine code_region ?_
    refine list_cons rfl (op_q (q_lt rfl rfl (by decide)) ?_)
    refine list_nil ?_
    refine thy_n ?_
    refine hK2 _ _ ?_; clear hK2 K2
    refine codeY_imp (σ' := [(0, _), (1, _), (2, _), (6, _), (7, _)]) rfl (imp_covers ⟨rfl, rfl, rfl, rfl, rfl, trivial⟩) ?_
    refine codeY_seq (fun K3 hK3 => ?_)
    refine codeY_of rfl rfl ?_
    refine code_cond_d rfl (fun h1 => ?_) (fun h1 => ?_)
    · skip
      (try simp only [Decidable.not_not] at h1); (try have hlt := (selF_at (k := 1440) (p := p) i1 (by omega) h1).1)
      refine code_skip ?_
      refine thy_n ?_
      refine hK3 _ _ ?_; clear hK3 K3
      refine codeY_imp (σ' := [(0, _), (1, _), (2, _), (6, _)]) rfl (imp_covers ⟨rfl, rfl, rfl, rfl, trivial⟩) ?_
      refine codeY_seq (fun K4 hK4 => ?_)
      refine codeY_block ?_
      refine codeY_seq (fun K5 hK5 => ?_)
      refine codeY_of rfl rfl ?_
      refine code_region ?_
      refine list_cons rfl (op_q (q_move rfl (by decide)) ?_)
      refine list_cons rfl (op_q (q_assign rfl (by decide)) ?_)
      refine list_nil ?_
      refine thy_n ?_
      refine hK5 _ _ ?_; clear hK5 K5
      refine codeY_imp (σ' := [(0, _), (1, _), (2, _), (4, _), (6, _)]) rfl (imp_covers ⟨rfl, rfl, rfl, rfl, rfl, trivial⟩) ?_
      refine codeY_seq (fun K6 hK6 => ?_)
      refine codeY_of rfl rfl ?_
      refine code_region ?_
      refine list_cons rfl (op_q (q_load_rd one_3 rfl (.inl ⟨_, (by first | rfl | exact congrArg (SV.rpar _) (drop_map1 _ 0 _ (by first | omega | (simp; omega)))), rfl⟩) (by decide)) ?_)
      refine list_cons rfl (op_q (q_move rfl (by decide)) ?_)
      refine list_cons rfl (op_call _ (impl_laterTime _ _ (by omega) (by omega)) rfl rfl (by decide) (by decide) (by decide) rfl ?_)
      rintro _ rfl
      refine list_cons rfl (op_q (q_assign rfl (by decide)) ?_)
      refine list_nil ?_
      refine thy_n ?_
      refine hK6 _ _ ?_; clear hK6 K6
      refine codeY_imp (σ' := [(0, _), (1, _), (2, _), (4, _), (5, _), (6, _)]) rfl (imp_covers ⟨rfl, rfl, rfl, rfl, rfl, rfl, trivial⟩) ?_
      refine codeY_seq (fun K7 hK7 => ?_)
      refine codeY_region ?_
      refine listY_op rfl rfl (op_q (q_load_rdP one_58 rfl (by decide)) ?_)
      refine listY_op rfl rfl (op_q (q_move rfl (by decide)) ?_)
      refine listY_op rfl rfl (op_callV _ rfl rfl rfl rfl (pcV (hf _ (by constructor <;> omega))) (by decide) ?_)
      rintro _ rfl
      refine listY_op rfl rfl (op_q (q_move rfl (by decide)) ?_)
      refine listY_split (dj := 15) rfl (fun h2 => ?_) (fun h2 => ?_)
      · skip
        (try simp only [Decidable.not_not] at h2); (try have hlt := (selF_at (k := 1440) (p := p) i1 (by omega) h2).1)
        refine listY_guard_y rfl rfl rfl (by decide) rfl (op_q (q_move rfl (by decide)) ?_)
        refine listY_guard_y rfl rfl rfl (by decide) rfl (op_q (q_move rfl (by decide)) ?_)
        refine listY_yieldG (k := (selF a p t6.toNat).length) rfl rfl (by rw [hYe]; show some [PV.int .i64 ((a + t6) % 1440)] = some [PV.int .i64 ((selF a p 1440).getD (selF a p t6.toNat).length 0)]; rw [(selF_at (p := p) i1 (by omega) (by assumption)).2]) (by rw [hYe]; rfl) (by rw [hYN]; exact (selF_at (p := p) i1 (by omega) (by assumption)).1) rfl (by decide) (.inr ⟨_, _, _, rfl, rfl, rfl, by decide⟩) ?_ ?_
        · skip
          refine listY_guard_y rfl rfl rfl (by decide) rfl (op_q (by first | exact q_notd rfl (by decide) | exact q_not rfl (by decide)) ?_)
          refine listY_op rfl rfl (op_q (q_pick rfl rfl (by decide)) ?_)
          refine listY_nil ?_
          refine thy_n ?_
          refine hK7 _ _ ?_; clear hK7 K7
          refine codeY_imp (σ' := [(0, _), (1, _), (2, _), (4, _), (5, _), (6, _), (20, _)]) rfl (imp_covers ⟨rfl, rfl, rfl, rfl, rfl, rfl, rfl, trivial⟩) ?_
          refine codeY_of rfl rfl ?_
          refine code_cond_f rfl ?_
          refine code_skip ?_
          refine bly_n ?_
          refine thy_n ?_
          refine hK4 _ _ ?_; clear hK4 K4
          refine codeY_imp (σ' := [(0, _), (1, _), (2, _), (4, _), (5, _), (6, _)]) rfl (imp_covers ⟨rfl, rfl, rfl, rfl, rfl, rfl, trivial⟩) ?_
          refine codeY_of rfl rfl ?_
          refine code_region ?_
          refine list_cons rfl (op_q (by first | exact q_addI rfl rfl (by decide) (by omega) (by omega) | exact q_ib rfl rfl rfl (by decide)) ?_)
          refine list_cons rfl (op_q (q_move rfl (by decide)) ?_)
          refine list_nil ?_
          refine thy_n ⟨(_), rfl, imp_covers ⟨rfl, rfl, rfl, rfl, trivial⟩, ?_, ?_, ?_⟩
          · first | (rw [selF_yes i1 (by assumption), List.length_append]; rfl) | (rw [selF_no i1 (by assumption)]; done)
          · (try dsimp only)
            exact ⟨by omega, by omega⟩
          · (try dsimp only); omega
        · skip
          refine listY_guard_y rfl rfl rfl (by decide) rfl (op_q (by first | exact q_notd rfl (by decide) | exact q_not rfl (by decide)) ?_)
          refine listY_op rfl rfl (op_q (q_pick rfl rfl (by decide)) ?_)
          refine listY_nil ?_
          refine thy_n ?_
          refine hK7 _ _ ?_; clear hK7 K7
          refine codeY_imp (σ' := [(0, _), (1, _), (2, _), (4, _), (5, _), (6, _), (20, _)]) rfl (imp_covers ⟨rfl, rfl, rfl, rfl, rfl, rfl, rfl, trivial⟩) ?_
          refine codeY_of rfl rfl ?_
          refine code_cond_t rfl ?_
          refine code_ret ?_
          refine bly_r ?_
          refine thy_r ?_
          refine thy_r ?_
          refine bly_r ?_
          exact ⟨.inr rfl, .inl ⟨rfl, by (try dsimp only); omega⟩⟩
      · skip
        (try simp only [Decidable.not_not] at h2); (try have hlt := (selF_at (k := 1440) (p := p) i1 (by omega) h2).1)
        refine listY_guard_n rfl rfl rfl rfl (by decide) (by decide) ?_
        refine listY_guard_n rfl rfl rfl rfl (by decide) (by decide) ?_
        refine listY_guard_n rfl rfl rfl rfl (by decide) (by decide) ?_
        refine listY_guard_n rfl rfl rfl rfl (by decide) (by decide) ?_
        refine listY_op rfl rfl (op_q (q_pick rfl rfl (by decide)) ?_)
        refine listY_nil ?_
        refine thy_n ?_
        refine hK7 _ _ ?_; clear hK7 K7
        refine codeY_imp (σ' := [(0, _), (1, _), (2, _), (4, _), (5, _), (6, _), (20, _)]) rfl (imp_covers ⟨rfl, rfl, rfl, rfl, rfl, rfl, rfl, trivial⟩) ?_
        refine codeY_of rfl rfl ?_
        refine code_cond_f rfl ?_
        refine code_skip ?_
        refine bly_n ?_
        refine thy_n ?_
        refine hK4 _ _ ?_; clear hK4 K4
        refine codeY_imp (σ' := [(0, _), (1, _), (2, _), (4, _), (5, _), (6, _)]) rfl (imp_covers ⟨rfl, rfl, rfl, rfl, rfl, rfl, trivial⟩) ?_
        refine codeY_of rfl rfl ?_
        refine code_region ?_
        refine list_cons rfl (op_q (by first | exact q_addI rfl rfl (by decide) (by omega) (by omega) | exact q_ib rfl rfl rfl (by decide)) ?_)
        refine list_cons rfl (op_q (q_move rfl (by decide)) ?_)
        refine list_nil ?_
        refine thy_n ⟨(_), rfl, imp_covers ⟨rfl, rfl, rfl, rfl, trivial⟩, ?_, ?_, ?_⟩
        · first | (rw [selF_yes i1 (by assumption), List.length_append]; rfl) | (rw [selF_no i1 (by assumption)]; done)
        · (try dsimp only)
          exact ⟨by omega, by omega⟩
        · (try dsimp only); omega
    (try simp only [Decidable.not_not] at h1); (try have hlt := (selF_at (k := 1440) (p := p) i1 (by omega) h1).1)
    refine code_exit ?_
    refine thy_x ?_; clear hK3 K3
    refine thy_x ?_
    refine bly_hit ?_
    exact ⟨.inl rfl, .inr (by rw [show t6.toNat = 1440 by omega])⟩

set_option maxRecDepth 4000 in
theorem timesFrom_0 (a : Int) (f : FuncId) : PCalls Tryd.prog 120 [.int .i64 a, .clo f []] (· = [.frz 0 (.clo 158 [.ptr [.int .i64 a], .ptr [.clo f []]])]) := by
  refine pcalls_of_code (n := 6) az Tryd.func120 (by kernel_rfl) rfl rfl (Nat.le_of_ble_eq_true rfl) (by intro t u h; simp [Tryd.f120] at h) ?_
  refine code_seq (fun K1 hK1 => ?_)
  refine code_region ?_
  refine list_cons rfl (op_box rfl (.inl ⟨rfl, rfl⟩) (by decide) (by decide) rfl ?_)
  refine list_cons rfl (op_box rfl (.inl ⟨rfl, rfl⟩) (by decide) (by decide) rfl ?_)
  refine list_cons rfl (op_q (q_deadconst (by decide)) ?_)
  refine list_nil ?_
  refine hK1 _ ?_; clear hK1 K1
  refine code_seq (fun K2 hK2 => ?_)
  refine code_region ?_
  refine list_cons rfl (op_makeFunc (xs := [.tmp 2, .tmp 3]) rfl rfl rfl (by decide) (by decide) rfl ?_)
  refine list_cons rfl (op_q (q_assign rfl (by decide)) ?_)
  refine list_nil ?_
  refine hK2 _ ?_; clear hK2 K2
  refine codeT.imp (σ' := [(0, _), (1, _), (2, _), (3, _), (4, _)]) ?_ (imp_covers ⟨rfl, rfl, rfl, rfl, rfl, trivial⟩)
  refine code_ret ?_
  refine ends_ret (cs := []) rfl rfl rfl rfl trivial ?_
  rfl

set_option maxRecDepth 4000 in
theorem timesFrom_B (a : Int) (f : FuncId) (z caps : List PV) : MCalls Tryd.prog 120 true none [.int .i64 a, .clo f (.ptr z :: caps)] (fun rs _ => rs = [.bor 0 (.clo 158 [.ptr [.int .i64 a], .ptr [.clo f (.ptr z :: caps)]])]) := by
  refine mcalls_of_code (n := 6) az Tryd.func120 (by kernel_rfl) rfl rfl (Nat.le_of_ble_eq_true rfl) (by intro t u h; simp [Tryd.f120] at h) ?_
  refine code_seq (fun K1 hK1 => ?_)
  refine code_region ?_
  refine list_cons rfl (op_box rfl (.inl ⟨rfl, rfl⟩) (by decide) (by decide) rfl ?_)
  refine list_cons rfl (op_box rfl (.inr rfl) (by decide) (by decide) rfl ?_)
  refine list_cons rfl (op_q (q_deadconst (by decide)) ?_)
  refine list_nil ?_
  refine hK1 _ ?_; clear hK1 K1
  refine code_seq (fun K2 hK2 => ?_)
  refine code_region ?_
  refine list_cons rfl (op_makeFuncB (xs := [.tmp 2, .tmp 3]) rfl rfl rfl (by decide) (by decide) rfl ?_)
  refine list_cons rfl (op_q (q_assign rfl (by decide)) ?_)
  refine list_nil ?_
  refine hK2 _ ?_; clear hK2 K2
  refine codeT.imp (σ' := [(0, _), (1, _), (2, _), (3, _), (4, _)]) ?_ (imp_covers ⟨rfl, rfl, rfl, rfl, rfl, trivial⟩)
  refine code_ret ?_
  refine ends_ret (cs := []) rfl rfl rfl rfl trivial ?_
  rfl

set_option maxRecDepth 8000 in
set_option maxHeartbeats 2000000 in
theorem timesThat_0 (f : FuncId) (p : Int → Prop) [DecidablePred p] (hf : ∀ t, TmP t → PCalls Tryd.prog f (.int .i64 t :: []) (· = [.val (.bool (decide (p t)))])) : PCalls Tryd.prog 123 [.clo f []] (· = [.own 0 3 1 (selF 0 p 1440).length ((selF 0 p 1440).map (.int .i64))]) := by
  refine pcalls_of_code (n := 6) az Tryd.func123 (by kernel_rfl) rfl rfl (Nat.le_of_ble_eq_true rfl) (by intro t u h; simp [Tryd.f123] at h) ?_
  refine code_seq (fun K1 hK1 => ?_)
  refine code_region ?_
  refine list_cons rfl (op_q (q_assign rfl (by decide)) ?_)
  refine list_nil ?_
  refine hK1 _ ?_; clear hK1 K1
  refine code_seq (fun K2 hK2 => ?_)
  refine code_region ?_
  refine list_cons rfl (op_q (q_move rfl (by decide)) ?_)
  refine list_cons rfl (op_call _ (timesFrom_0 0 f) rfl rfl (by decide) (by decide) (by decide) rfl ?_)
  rintro _ rfl
  refine listT.imp ?_ imp_unfrz
  refine list_cons rfl (op_call _ (collect_c 158 [.int .i64 0] [.ptr [.clo f []]] (selF 0 p 1440) (selF_len _ _ _) (timesFrom_it 0 ⟨by decide, by decide⟩ f [] p hf)) rfl rfl (by decide) (by decide) (by decide) rfl ?_)
  rintro _ rfl
  refine list_cons rfl (op_q (q_assign rfl (by decide)) ?_)
  refine list_nil ?_
  refine hK2 _ ?_; clear hK2 K2
  refine codeT.imp (σ' := [(0, _), (2, _)]) ?_ (imp_covers ⟨rfl, rfl, trivial⟩)
  refine code_ret ?_
  refine ends_ret (cs := []) rfl rfl rfl rfl trivial ?_
  rfl

set_option maxRecDepth 8000 in
set_option maxHeartbeats 2000000 in
theorem timesThat_B (f : FuncId) (z caps : List PV) (p : Int → Prop) [DecidablePred p] (hf : ∀ t, TmP t → PCalls Tryd.prog f (.int .i64 t :: (.ptr z :: caps)) (· = [.val (.bool (decide (p t)))])) : MCalls Tryd.prog 123 true none [.clo f (.ptr z :: caps)] (fun rs _ => rs = [.own 0 3 1 (selF 0 p 1440).length ((selF 0 p 1440).map (.int .i64))]) := by
  refine mcalls_of_code (n := 6) az Tryd.func123 (by kernel_rfl) rfl rfl (Nat.le_of_ble_eq_true rfl) (by intro t u h; simp [Tryd.f123] at h) ?_
  refine code_seq (fun K1 hK1 => ?_)
  refine code_region ?_
  refine list_cons rfl (op_q (q_assign rfl (by decide)) ?_)
  refine list_nil ?_
  refine hK1 _ ?_; clear hK1 K1
  refine code_seq (fun K2 hK2 => ?_)
  refine code_region ?_
  refine list_cons rfl (op_q (q_move rfl (by decide)) ?_)
  refine list_cons rfl (op_callM (timesFrom_B 0 f z caps) (.tmp 0) 0 [] [_, .tmp 3] _ rfl rfl (by intro y hy; cases hy) (by decide) (by decide) (by decide) rfl (by intro h; cases h) ?_)
  rintro _ _ rfl
  refine list_cons rfl (op_call _ (collect_c 158 [.int .i64 0] [.ptr [.clo f (.ptr z :: caps)]] (selF 0 p 1440) (selF_len _ _ _) (timesFrom_it 0 ⟨by decide, by decide⟩ f (.ptr z :: caps) p hf)) rfl rfl (by decide) (by decide) (by decide) rfl ?_)
  rintro _ rfl
  refine list_cons rfl (op_q (q_assign rfl (by decide)) ?_)
  refine list_nil ?_
  refine hK2 _ ?_; clear hK2 K2
  refine codeT.imp (σ' := [(0, _), (2, _)]) ?_ (imp_covers ⟨rfl, rfl, trivial⟩)
  refine code_ret ?_
  refine ends_ret (cs := []) rfl rfl rfl rfl trivial ?_
  rfl

set_option maxRecDepth 4000 in
theorem litAtN (t : Int) (hT : ¬ TmP t) : PCalls Tryd.prog 61 [.int .i64 t] (· = [.val (.int .i64 0), .val (.bool false)]) := by
  refine pcalls_of_code (n := 17) az Tryd.func61 (by kernel_rfl) rfl rfl (Nat.le_of_ble_eq_true rfl) (by intro t u h; simp [Tryd.f61] at h) ?_
  refine code_seq (fun K1 hK1 => ?_)
  refine code_region ?_
  refine list_cons rfl (op_q (q_assign rfl (by decide)) ?_)
  refine list_cons rfl (op_q (q_assign rfl (by decide)) ?_)
  refine list_nil ?_
  refine hK1 _ ?_; clear hK1 K1
  refine code_seq (fun K2 hK2 => ?_)
  refine code_region ?_
  refine list_cons rfl (op_q (q_move rfl (by decide)) ?_)
  refine list_cons rfl (op_call _ (impl_ClockRow t) rfl rfl (by decide) (by decide) (by decide) rfl ?_)
  rintro _ rfl; simp only [if_neg hT, decide_eq_false hT]
  refine list_cons rfl (op_q (q_move rfl (by decide)) ?_)
  refine list_cons rfl (op_q (q_extract rfl rfl (by decide)) ?_)
  refine list_cons rfl (op_q (q_extract rfl rfl (by decide)) ?_)
  refine list_cons rfl (op_q (q_assign rfl (by decide)) ?_)
  refine list_cons rfl (op_q (q_assign rfl (by decide)) ?_)
  refine list_nil ?_
  refine hK2 _ ?_; clear hK2 K2
  refine codeT.imp (σ' := [(0, _), (2, _), (3, _), (4, _), (5, _)]) ?_ (imp_covers ⟨rfl, rfl, rfl, rfl, rfl, trivial⟩)
  refine code_seq (fun K3 hK3 => ?_)
  refine code_seq (fun K4 hK4 => ?_)
  refine code_region ?_
  refine list_cons rfl (op_q (q_move rfl (by decide)) ?_)
  refine list_cons rfl (op_q (by first | exact q_notd rfl (by decide) | exact q_not rfl (by decide)) ?_)
  refine list_nil ?_
  refine hK4 _ ?_; clear hK4 K4
  refine code_cond_t rfl ?_
  refine code_seq (fun K5 hK5 => ?_)
  refine code_region ?_
  refine list_cons rfl (op_q (q_assign rfl (by decide)) ?_)
  refine list_cons rfl (op_q (q_assign rfl (by decide)) ?_)
  refine list_nil ?_
  refine hK5 _ ?_; clear hK5 K5
  refine code_ret ?_
  refine then_r ?_; clear hK3 K3
  refine ends_ret (cs := []) rfl rfl rfl rfl trivial ?_
  rfl

set_option maxRecDepth 4000 in
theorem litAtY (t : Int) (hT : TmP t) : PCalls Tryd.prog 61 [.int .i64 t] (· = [.val (.int .i64 (litF (rowT t))), .val (.bool true)]) := by
  refine pcalls_of_code (n := 17) az Tryd.func61 (by kernel_rfl) rfl rfl (Nat.le_of_ble_eq_true rfl) (by intro t u h; simp [Tryd.f61] at h) ?_
  refine code_seq (fun K1 hK1 => ?_)
  refine code_region ?_
  refine list_cons rfl (op_q (q_assign rfl (by decide)) ?_)
  refine list_cons rfl (op_q (q_assign rfl (by decide)) ?_)
  refine list_nil ?_
  refine hK1 _ ?_; clear hK1 K1
  refine code_seq (fun K2 hK2 => ?_)
  refine code_region ?_
  refine list_cons rfl (op_q (q_move rfl (by decide)) ?_)
  refine list_cons rfl (op_call _ (impl_ClockRow t) rfl rfl (by decide) (by decide) (by decide) rfl ?_)
  rintro _ rfl; simp only [if_pos hT, decide_eq_true hT]
  refine list_cons rfl (op_q (q_move rfl (by decide)) ?_)
  refine list_cons rfl (op_q (q_extract rfl rfl (by decide)) ?_)
  refine list_cons rfl (op_q (q_extract rfl rfl (by decide)) ?_)
  refine list_cons rfl (op_q (q_assign rfl (by decide)) ?_)
  refine list_cons rfl (op_q (q_assign rfl (by decide)) ?_)
  refine list_nil ?_
  refine hK2 _ ?_; clear hK2 K2
  refine codeT.imp (σ' := [(0, _), (2, _), (3, _), (4, _), (5, _)]) ?_ (imp_covers ⟨rfl, rfl, rfl, rfl, rfl, trivial⟩)
  refine code_seq (fun K3 hK3 => ?_)
  refine code_seq (fun K4 hK4 => ?_)
  refine code_region ?_
  refine list_cons rfl (op_q (q_move rfl (by decide)) ?_)
  refine list_cons rfl (op_q (by first | exact q_notd rfl (by decide) | exact q_not rfl (by decide)) ?_)
  refine list_nil ?_
  refine hK4 _ ?_; clear hK4 K4
  refine code_cond_f rfl ?_
  refine code_skip ?_
  refine hK3 _ ?_; clear hK3 K3
  refine code_seq (fun K5 hK5 => ?_)
  refine code_region ?_
  refine list_cons rfl (op_q (q_move rfl (by decide)) ?_)
  refine list_cons rfl (op_call _ (impl_LitOf (rowT t) (by rw [rowT_len]; decide)) rfl rfl (by decide) (by decide) (by decide) rfl ?_)
  rintro _ rfl; simp only [if_pos (rowT_row t), decide_eq_true (rowT_row t)]
  refine list_cons rfl (op_q (q_extract rfl rfl (by decide)) ?_)
  refine list_cons rfl (op_q (q_extract rfl rfl (by decide)) ?_)
  refine list_cons rfl (op_q (q_assign rfl (by decide)) ?_)
  refine list_cons rfl (op_q (q_assign rfl (by decide)) ?_)
  refine list_nil ?_
  refine hK5 _ ?_; clear hK5 K5
  refine codeT.imp (σ' := [(0, _), (2, _), (3, _), (4, _), (5, _)]) ?_ (imp_covers ⟨rfl, rfl, rfl, rfl, rfl, trivial⟩)
  refine code_ret ?_
  refine ends_ret (cs := []) rfl rfl rfl rfl trivial ?_
  rfl

theorem impl_LitAt (t : Int) : PCalls Tryd.prog 61 [.int .i64 t] (· = [.val (.int .i64 (if TmP t then litF (rowT t) else 0)), .val (.bool (decide (TmP t)))]) := by
  by_cases h : TmP t
  · simp only [if_pos h, decide_eq_true h]; exact litAtY t h
  · simp only [if_neg h, decide_eq_false h]; exact litAtN t h

set_option maxRecDepth 4000 in
theorem BrightestTime1_c (lit than : Int) : PCalls Tryd.prog 132 [.int .i64 lit, .int .i64 than] (· = [.val (.bool (decide (than < lit)))]) := by
  refine pcalls_of_code (n := 8) az Tryd.func132 (by kernel_rfl) rfl rfl (Nat.le_of_ble_eq_true rfl) (by intro t u h; simp [Tryd.f132] at h) ?_
  refine code_seq (fun K1 hK1 => ?_)
  refine code_region ?_
  refine list_cons rfl (op_q (q_assign rfl (by decide)) ?_)
  refine list_nil ?_
  refine hK1 _ ?_; clear hK1 K1
  refine code_seq (fun K2 hK2 => ?_)
  refine code_region ?_
  refine list_cons rfl (op_q (q_move rfl (by decide)) ?_)
  refine list_cons rfl (op_q (q_move rfl (by decide)) ?_)
  refine list_cons rfl (op_q (q_gt rfl rfl (by decide)) ?_)
  refine list_cons rfl (op_q (q_assign rfl (by decide)) ?_)
  refine list_nil ?_
  refine hK2 _ ?_; clear hK2 K2
  refine code_ret ?_
  refine ends_ret (cs := []) rfl rfl rfl rfl trivial ?_
  rfl

set_option maxRecDepth 8000 in
set_option maxHeartbeats 2000000 in
theorem first_BrightestTime  : PCalls Tryd.prog 131 [.clo 132 []] (· = [.val (.int .i64 (((brK 1439 : Nat) : Int))), .val (.int .i64 (litT (brK 1439)))]) := by
  refine pcalls_of_code (n := 35) az Tryd.func131 (by kernel_rfl) rfl rfl (Nat.le_of_ble_eq_true rfl) (by intro t u h; simp [Tryd.f131] at h) ?_
  refine code_seq (fun K1 hK1 => ?_)
  refine code_region ?_
  refine list_cons rfl (op_q (q_assign rfl (by decide)) ?_)
  refine list_cons rfl (op_q (q_assign rfl (by decide)) ?_)
  refine list_nil ?_
  refine hK1 _ ?_; clear hK1 K1
  refine code_seq (fun K2 hK2 => ?_)
  refine code_region ?_
  refine list_cons rfl (op_q (q_assign rfl (by decide)) ?_)
  refine list_nil ?_
  refine hK2 _ ?_; clear hK2 K2
  refine code_seq (fun K3 hK3 => ?_)
  refine code_region ?_
  refine list_cons rfl (op_q (q_move rfl (by decide)) ?_)
  refine list_cons rfl (op_call _ (litAtY 0 ⟨by decide, by decide⟩) rfl rfl (by decide) (by decide) (by decide) rfl ?_)
  rintro _ rfl
  refine list_cons rfl (op_q (q_move rfl (by decide)) ?_)
  refine list_cons rfl (op_q (q_extract rfl rfl (by decide)) ?_)
  refine list_cons rfl (op_q (q_extract rfl rfl (by decide)) ?_)
  refine list_cons rfl (op_q (q_assign rfl (by decide)) ?_)
  refine list_cons rfl (op_q (q_assign rfl (by decide)) ?_)
  refine list_nil ?_
  refine hK3 _ ?_; clear hK3 K3
  refine codeT.imp (σ' := [(0, _), (2, _), (3, _), (4, _), (5, _)]) ?_ (imp_covers ⟨rfl, rfl, rfl, rfl, rfl, trivial⟩)
  refine code_seq (fun K4 hK4 => ?_)
  refine code_seq (fun K5 hK5 => ?_)
  refine code_region ?_
  refine list_cons rfl (op_q (q_move rfl (by decide)) ?_)
  refine list_nil ?_
  refine hK5 _ ?_; clear hK5 K5
  refine code_block ?_
  refine code_loop (X := Int × Int × Int × Int × Int) (fun x => [(0, .val (.clo 132 [])), (2, .val (.int .i64 x.1)), (3, .val (.int .i64 x.2.1)), (4, .val (.int .i64 x.2.2.1)), (5, .val (.int .i64 x.2.2.2.1)), (15, .val (.int .i64 x.2.2.2.2))]) (fun x => 0 ≤ x.2.2.2.2 ∧ x.2.2.2.2 ≤ 1440 ∧ x.2.2.1 = ((brK (x.2.2.2.2 - 1).toNat : Nat) : Int) ∧ x.2.2.2.1 = litT (brK (x.2.2.2.2 - 1).toNat)) (fun x => (1440 - x.2.2.2.2).toNat) (_, _, _, _, _) (imp_covers ⟨rfl, rfl, rfl, rfl, rfl, rfl, trivial⟩) ?_ ?_
  · (try dsimp only)
    exact ⟨by omega, by omega, rfl, rfl⟩
  · intro x hI
    obtain ⟨t2, t3, fst0, best, t15⟩ := x
    replace hI : 0 ≤ t15 ∧ t15 ≤ 1440 ∧ fst0 = ((brK (t15 - 1).toNat : Nat) : Int) ∧ best = litT (brK (t15 - 1).toNat) := hI
    show codeT _ _ _ [(0, .val (.clo 132 [])), (2, .val (.int .i64 t2)), (3, .val (.int .i64 t3)), (4, .val (.int .i64 fst0)), (5, .val (.int .i64 best)), (15, .val (.int .i64 t15))] _
    obtain ⟨i1, i2, rfl, rfl⟩ := hI
    refine code_seq (fun K6 hK6 => ?_)
    refine code_region ?_
    refine list_cons rfl (op_q (q_lt rfl rfl (by decide)) ?_)
    refine list_nil ?_
    refine hK6 _ ?_; clear hK6 K6
    refine code_seq (fun K7 hK7 => ?_)
    refine code_cond_d rfl (fun h1 => ?_) (fun h1 => ?_)
    · skip
      (try simp only [Decidable.not_not] at h1)
      refine code_skip ?_
      refine hK7 _ ?_; clear hK7 K7
      refine code_seq (fun K8 hK8 => ?_)
      refine code_block ?_
      refine code_seq (fun K9 hK9 => ?_)
      refine code_region ?_
      refine list_cons rfl (op_q (q_move rfl (by decide)) ?_)
      refine list_cons rfl (op_q (q_assign rfl (by decide)) ?_)
      refine list_nil ?_
      refine hK9 _ ?_; clear hK9 K9
      refine code_seq (fun K10 hK10 => ?_)
      refine code_region ?_
      refine list_cons rfl (op_q (q_move rfl (by decide)) ?_)
      refine list_cons rfl (op_call _ (litAtY t15 ⟨by omega, by omega⟩) rfl rfl (by decide) (by decide) (by decide) rfl ?_)
      rintro _ rfl
      refine list_cons rfl (op_q (q_move rfl (by decide)) ?_)
      refine list_cons rfl (op_q (q_extract rfl rfl (by decide)) ?_)
      refine list_cons rfl (op_q (q_extract rfl rfl (by decide)) ?_)
      refine list_cons rfl (op_q (q_assign rfl (by decide)) ?_)
      refine list_cons rfl (op_q (q_assign rfl (by decide)) ?_)
      refine list_nil ?_
      refine hK10 _ ?_; clear hK10 K10
      refine codeT.imp (σ' := [(0, _), (2, _), (3, _), (4, _), (5, _), (7, _), (8, _), (9, _), (15, _)]) ?_ (imp_covers ⟨rfl, rfl, rfl, rfl, rfl, rfl, rfl, rfl, rfl, trivial⟩)
      refine code_seq (fun K11 hK11 => ?_)
      refine code_region ?_
      refine list_cons rfl (op_q (q_move rfl (by decide)) ?_)
      refine list_cons rfl (op_q (q_move rfl (by decide)) ?_)
      refine list_guard_y rfl rfl rfl rfl (by decide) rfl ?_
      refine id (op_q (q_move rfl (by decide)) ?_)
      refine list_guard_y rfl rfl rfl rfl (by decide) rfl ?_
      refine id (op_q (q_move rfl (by decide)) ?_)
      refine list_guard_y rfl rfl rfl rfl (by decide) rfl ?_
      refine id (op_q (q_move rfl (by decide)) ?_)
      refine list_guard_y rfl rfl rfl rfl (by decide) rfl ?_
      refine id (op_callV _ rfl rfl rfl rfl (pcV (BrightestTime1_c _ _)) (by decide) ?_)
      rintro _ rfl
      refine list_cons rfl (op_q (q_pick rfl rfl (by decide)) ?_)
      refine list_nil ?_
      refine hK11 _ ?_; clear hK11 K11
      refine codeT.imp (σ' := [(0, _), (2, _), (3, _), (4, _), (5, _), (7, _), (8, _), (9, _), (15, _), (29, _)]) ?_ (imp_covers ⟨rfl, rfl, rfl, rfl, rfl, rfl, rfl, rfl, rfl, rfl, trivial⟩)
      refine code_cond_d rfl (fun h2 => ?_) (fun h2 => ?_)
      · skip
        (try simp only [Decidable.not_not] at h2)
        refine code_region ?_
        refine list_cons rfl (op_q (q_move rfl (by decide)) ?_)
        refine list_cons rfl (op_q (q_move rfl (by decide)) ?_)
        refine list_cons rfl (op_q (q_assign rfl (by decide)) ?_)
        refine list_cons rfl (op_q (q_assign rfl (by decide)) ?_)
        refine list_nil ?_
        refine blk_n ?_
        refine hK8 _ ?_; clear hK8 K8
        refine code_region ?_
        refine list_cons rfl (op_q (by first | exact q_addI rfl rfl (by decide) (by omega) (by omega) | exact q_ib rfl rfl rfl (by decide)) ?_)
        refine list_cons rfl (op_q (q_move rfl (by decide)) ?_)
        refine list_nil ?_
        refine then_n ⟨(_, _, _, _, _), imp_covers ⟨rfl, rfl, rfl, rfl, rfl, rfl, trivial⟩, ?_, ?_⟩
        · (try dsimp only)
          have hx := h2
          refine ⟨by omega, by omega, ?_⟩
          by_cases e0 : t15 = 0
          · subst e0
            first
            | exact absurd hx (Int.lt_irrefl _)
            | exact ⟨rfl, rfl⟩
          · have ht : (((t15 - 1).toNat + 1 : Nat) : Int) = t15 := by omega
            rw [show (t15 + 1 - 1).toNat = (t15 - 1).toNat + 1 by omega, brK]
            have e2 : litT ((t15 - 1).toNat + 1) = litF (rowT t15) := by unfold litT; rw [ht]
            rw [e2]
            first
            | (rw [if_pos hx]; exact ⟨ht.symm, e2.symm⟩)
            | (rw [if_neg hx]; exact ⟨rfl, rfl⟩)
        · (try dsimp only); omega
      (try simp only [Decidable.not_not] at h2)
      refine code_skip ?_
      refine blk_n ?_
      refine hK8 _ ?_; clear hK8 K8
      refine code_region ?_
      refine list_cons rfl (op_q (by first | exact q_addI rfl rfl (by decide) (by omega) (by omega) | exact q_ib rfl rfl rfl (by decide)) ?_)
      refine list_cons rfl (op_q (q_move rfl (by decide)) ?_)
      refine list_nil ?_
      refine then_n ⟨(_, _, _, _, _), imp_covers ⟨rfl, rfl, rfl, rfl, rfl, rfl, trivial⟩, ?_, ?_⟩
      · (try dsimp only)
        have hx := h2
        refine ⟨by omega, by omega, ?_⟩
        by_cases e0 : t15 = 0
        · subst e0
          first
          | exact absurd hx (Int.lt_irrefl _)
          | exact ⟨rfl, rfl⟩
        · have ht : (((t15 - 1).toNat + 1 : Nat) : Int) = t15 := by omega
          rw [show (t15 + 1 - 1).toNat = (t15 - 1).toNat + 1 by omega, brK]
          have e2 : litT ((t15 - 1).toNat + 1) = litF (rowT t15) := by unfold litT; rw [ht]
          rw [e2]
          first
          | (rw [if_pos hx]; exact ⟨ht.symm, e2.symm⟩)
          | (rw [if_neg hx]; exact ⟨rfl, rfl⟩)
      · (try dsimp only); omega
    (try simp only [Decidable.not_not] at h1)
    refine code_exit ?_
    refine then_x ?_; clear hK7 K7
    refine then_x ?_
    refine blk_hit ?_
    refine hK4 _ ?_; clear hK4 K4
    refine code_seq (fun K12 hK12 => ?_)
    refine code_region ?_
    refine list_cons rfl (op_q (q_move rfl (by decide)) ?_)
    refine list_cons rfl (op_q (q_move rfl (by decide)) ?_)
    refine list_cons rfl (op_q (q_assign rfl (by decide)) ?_)
    refine list_cons rfl (op_q (q_assign rfl (by decide)) ?_)
    refine list_nil ?_
    refine hK12 _ ?_; clear hK12 K12
    refine code_ret ?_
    refine ends_ret (cs := []) rfl rfl rfl rfl trivial ?_
    rw [show (t15 - 1).toNat = 1439 by omega]

set_option maxRecDepth 4000 in
theorem impl_BrightestTime  : PCalls Tryd.prog 65 [] (· = [.val (.int .i64 (((brK 1439 : Nat) : Int))), .val (.int .i64 (litT (brK 1439)))]) := by
  refine pcalls_of_code (n := 5) az Tryd.func65 (by kernel_rfl) rfl rfl (Nat.le_of_ble_eq_true rfl) (by intro t u h; simp [Tryd.f65] at h) ?_
  refine code_seq (fun K1 hK1 => ?_)
  refine code_region ?_
  refine list_cons rfl (op_q (q_assign rfl (by decide)) ?_)
  refine list_cons rfl (op_q (q_assign rfl (by decide)) ?_)
  refine list_nil ?_
  refine hK1 _ ?_; clear hK1 K1
  refine code_seq (fun K2 hK2 => ?_)
  refine code_region ?_
  refine list_cons rfl (op_call _ (first_BrightestTime) rfl rfl (by decide) (by decide) (by decide) rfl ?_)
  rintro _ rfl
  refine list_cons rfl (op_q (q_extract rfl rfl (by decide)) ?_)
  refine list_cons rfl (op_q (q_extract rfl rfl (by decide)) ?_)
  refine list_cons rfl (op_q (q_assign rfl (by decide)) ?_)
  refine list_cons rfl (op_q (q_assign rfl (by decide)) ?_)
  refine list_nil ?_
  refine hK2 _ ?_; clear hK2 K2
  refine codeT.imp (σ' := [(0, _), (1, _)]) ?_ (imp_covers ⟨rfl, rfl, trivial⟩)
  refine code_ret ?_
  refine ends_ret (cs := []) rfl rfl rfl rfl trivial ?_
  rfl

set_option maxRecDepth 4000 in
theorem DarkestTime1_c (lit than : Int) : PCalls Tryd.prog 133 [.int .i64 lit, .int .i64 than] (· = [.val (.bool (decide (lit < than)))]) := by
  refine pcalls_of_code (n := 8) az Tryd.func133 (by kernel_rfl) rfl rfl (Nat.le_of_ble_eq_true rfl) (by intro t u h; simp [Tryd.f133] at h) ?_
  refine code_seq (fun K1 hK1 => ?_)
  refine code_region ?_
  refine list_cons rfl (op_q (q_assign rfl (by decide)) ?_)
  refine list_nil ?_
  refine hK1 _ ?_; clear hK1 K1
  refine code_seq (fun K2 hK2 => ?_)
  refine code_region ?_
  refine list_cons rfl (op_q (q_move rfl (by decide)) ?_)
  refine list_cons rfl (op_q (q_move rfl (by decide)) ?_)
  refine list_cons rfl (op_q (q_lt rfl rfl (by decide)) ?_)
  refine list_cons rfl (op_q (q_assign rfl (by decide)) ?_)
  refine list_nil ?_
  refine hK2 _ ?_; clear hK2 K2
  refine code_ret ?_
  refine ends_ret (cs := []) rfl rfl rfl rfl trivial ?_
  rfl

set_option maxRecDepth 8000 in
set_option maxHeartbeats 2000000 in
theorem first_DarkestTime  : PCalls Tryd.prog 131 [.clo 133 []] (· = [.val (.int .i64 (((dkK 1439 : Nat) : Int))), .val (.int .i64 (litT (dkK 1439)))]) := by
  refine pcalls_of_code (n := 35) az Tryd.func131 (by kernel_rfl) rfl rfl (Nat.le_of_ble_eq_true rfl) (by intro t u h; simp [Tryd.f131] at h) ?_
  refine code_seq (fun K1 hK1 => ?_)
  refine code_region ?_
  refine list_cons rfl (op_q (q_assign rfl (by decide)) ?_)
  refine list_cons rfl (op_q (q_assign rfl (by decide)) ?_)
  refine list_nil ?_
  refine hK1 _ ?_; clear hK1 K1
  refine code_seq (fun K2 hK2 => ?_)
  refine code_region ?_
  refine list_cons rfl (op_q (q_assign rfl (by decide)) ?_)
  refine list_nil ?_
  refine hK2 _ ?_; clear hK2 K2
  refine code_seq (fun K3 hK3 => ?_)
  refine code_region ?_
  refine list_cons rfl (op_q (q_move rfl (by decide)) ?_)
  refine list_cons rfl (op_call _ (litAtY 0 ⟨by decide, by decide⟩) rfl rfl (by decide) (by decide) (by decide) rfl ?_)
  rintro _ rfl
  refine list_cons rfl (op_q (q_move rfl (by decide)) ?_)
  refine list_cons rfl (op_q (q_extract rfl rfl (by decide)) ?_)
  refine list_cons rfl (op_q (q_extract rfl rfl (by decide)) ?_)
  refine list_cons rfl (op_q (q_assign rfl (by decide)) ?_)
  refine list_cons rfl (op_q (q_assign rfl (by decide)) ?_)
  refine list_nil ?_
  refine hK3 _ ?_; clear hK3 K3
  refine codeT.imp (σ' := [(0, _), (2, _), (3, _), (4, _), (5, _)]) ?_ (imp_covers ⟨rfl, rfl, rfl, rfl, rfl, trivial⟩)
  refine code_seq (fun K4 hK4 => ?_)
  refine code_seq (fun K5 hK5 => ?_)
  refine code_region ?_
  refine list_cons rfl (op_q (q_move rfl (by decide)) ?_)
  refine list_nil ?_
  refine hK5 _ ?_; clear hK5 K5
  refine code_block ?_
  refine code_loop (X := Int × Int × Int × Int × Int) (fun x => [(0, .val (.clo 133 [])), (2, .val (.int .i64 x.1)), (3, .val (.int .i64 x.2.1)), (4, .val (.int .i64 x.2.2.1)), (5, .val (.int .i64 x.2.2.2.1)), (15, .val (.int .i64 x.2.2.2.2))]) (fun x => 0 ≤ x.2.2.2.2 ∧ x.2.2.2.2 ≤ 1440 ∧ x.2.2.1 = ((dkK (x.2.2.2.2 - 1).toNat : Nat) : Int) ∧ x.2.2.2.1 = litT (dkK (x.2.2.2.2 - 1).toNat)) (fun x => (1440 - x.2.2.2.2).toNat) (_, _, _, _, _) (imp_covers ⟨rfl, rfl, rfl, rfl, rfl, rfl, trivial⟩) ?_ ?_
  · (try dsimp only)
    exact ⟨by omega, by omega, rfl, rfl⟩
  · intro x hI
    obtain ⟨t2, t3, fst0, best, t15⟩ := x
    replace hI : 0 ≤ t15 ∧ t15 ≤ 1440 ∧ fst0 = ((dkK (t15 - 1).toNat : Nat) : Int) ∧ best = litT (dkK (t15 - 1).toNat) := hI
    show codeT _ _ _ [(0, .val (.clo 133 [])), (2, .val (.int .i64 t2)), (3, .val (.int .i64 t3)), (4, .val (.int .i64 fst0)), (5, .val (.int .i64 best)), (15, .val (.int .i64 t15))] _
    obtain ⟨i1, i2, rfl, rfl⟩ := hI
    refine code_seq (fun K6 hK6 => ?_)
    refine code_region ?_
    refine list_cons rfl (op_q (q_lt rfl rfl (by decide)) ?_)
    refine list_nil ?_
    refine hK6 _ ?_; clear hK6 K6
    refine code_seq (fun K7 hK7 => ?_)
    refine code_cond_d rfl (fun h1 => ?_) (fun h1 => ?_)
    · skip
      (try simp only [Decidable.not_not] at h1)
      refine code_skip ?_
      refine hK7 _ ?_; clear hK7 K7
      refine code_seq (fun K8 hK8 => ?_)
      refine code_block ?_
      refine code_seq (fun K9 hK9 => ?_)
      refine code_region ?_
      refine list_cons rfl (op_q (q_move rfl (by decide)) ?_)
      refine list_cons rfl (op_q (q_assign rfl (by decide)) ?_)
      refine list_nil ?_
      refine hK9 _ ?_; clear hK9 K9
      refine code_seq (fun K10 hK10 => ?_)
      refine code_region ?_
      refine list_cons rfl (op_q (q_move rfl (by decide)) ?_)
      refine list_cons rfl (op_call _ (litAtY t15 ⟨by omega, by omega⟩) rfl rfl (by decide) (by decide) (by decide) rfl ?_)
      rintro _ rfl
      refine list_cons rfl (op_q (q_move rfl (by decide)) ?_)
      refine list_cons rfl (op_q (q_extract rfl rfl (by decide)) ?_)
      refine list_cons rfl (op_q (q_extract rfl rfl (by decide)) ?_)
      refine list_cons rfl (op_q (q_assign rfl (by decide)) ?_)
      refine list_cons rfl (op_q (q_assign rfl (by decide)) ?_)
      refine list_nil ?_
      refine hK10 _ ?_; clear hK10 K10
      refine codeT.imp (σ' := [(0, _), (2, _), (3, _), (4, _), (5, _), (7, _), (8, _), (9, _), (15, _)]) ?_ (imp_covers ⟨rfl, rfl, rfl, rfl, rfl, rfl, rfl, rfl, rfl, trivial⟩)
      refine code_seq (fun K11 hK11 => ?_)
      refine code_region ?_
      refine list_cons rfl (op_q (q_move rfl (by decide)) ?_)
      refine list_cons rfl (op_q (q_move rfl (by decide)) ?_)
      refine list_guard_y rfl rfl rfl rfl (by decide) rfl ?_
      refine id (op_q (q_move rfl (by decide)) ?_)
      refine list_guard_y rfl rfl rfl rfl (by decide) rfl ?_
      refine id (op_q (q_move rfl (by decide)) ?_)
      refine list_guard_y rfl rfl rfl rfl (by decide) rfl ?_
      refine id (op_q (q_move rfl (by decide)) ?_)
      refine list_guard_y rfl rfl rfl rfl (by decide) rfl ?_
      refine id (op_callV _ rfl rfl rfl rfl (pcV (DarkestTime1_c _ _)) (by decide) ?_)
      rintro _ rfl
      refine list_cons rfl (op_q (q_pick rfl rfl (by decide)) ?_)
      refine list_nil ?_
      refine hK11 _ ?_; clear hK11 K11
      refine codeT.imp (σ' := [(0, _), (2, _), (3, _), (4, _), (5, _), (7, _), (8, _), (9, _), (15, _), (29, _)]) ?_ (imp_covers ⟨rfl, rfl, rfl, rfl, rfl, rfl, rfl, rfl, rfl, rfl, trivial⟩)
      refine code_cond_d rfl (fun h2 => ?_) (fun h2 => ?_)
      · skip
        (try simp only [Decidable.not_not] at h2)
        refine code_region ?_
        refine list_cons rfl (op_q (q_move rfl (by decide)) ?_)
        refine list_cons rfl (op_q (q_move rfl (by decide)) ?_)
        refine list_cons rfl (op_q (q_assign rfl (by decide)) ?_)
        refine list_cons rfl (op_q (q_assign rfl (by decide)) ?_)
        refine list_nil ?_
        refine blk_n ?_
        refine hK8 _ ?_; clear hK8 K8
        refine code_region ?_
        refine list_cons rfl (op_q (by first | exact q_addI rfl rfl (by decide) (by omega) (by omega) | exact q_ib rfl rfl rfl (by decide)) ?_)
        refine list_cons rfl (op_q (q_move rfl (by decide)) ?_)
        refine list_nil ?_
        refine then_n ⟨(_, _, _, _, _), imp_covers ⟨rfl, rfl, rfl, rfl, rfl, rfl, trivial⟩, ?_, ?_⟩
        · (try dsimp only)
          have hx := h2
          refine ⟨by omega, by omega, ?_⟩
          by_cases e0 : t15 = 0
          · subst e0
            first
            | exact absurd hx (Int.lt_irrefl _)
            | exact ⟨rfl, rfl⟩
          · have ht : (((t15 - 1).toNat + 1 : Nat) : Int) = t15 := by omega
            rw [show (t15 + 1 - 1).toNat = (t15 - 1).toNat + 1 by omega, dkK]
            have e2 : litT ((t15 - 1).toNat + 1) = litF (rowT t15) := by unfold litT; rw [ht]
            rw [e2]
            first
            | (rw [if_pos hx]; exact ⟨ht.symm, e2.symm⟩)
            | (rw [if_neg hx]; exact ⟨rfl, rfl⟩)
        · (try dsimp only); omega
      (try simp only [Decidable.not_not] at h2)
      refine code_skip ?_
      refine blk_n ?_
      refine hK8 _ ?_; clear hK8 K8
      refine code_region ?_
      refine list_cons rfl (op_q (by first | exact q_addI rfl rfl (by decide) (by omega) (by omega) | exact q_ib rfl rfl rfl (by decide)) ?_)
      refine list_cons rfl (op_q (q_move rfl (by decide)) ?_)
      refine list_nil ?_
      refine then_n ⟨(_, _, _, _, _), imp_covers ⟨rfl, rfl, rfl, rfl, rfl, rfl, trivial⟩, ?_, ?_⟩
      · (try dsimp only)
        have hx := h2
        refine ⟨by omega, by omega, ?_⟩
        by_cases e0 : t15 = 0
        · subst e0
          first
          | exact absurd hx (Int.lt_irrefl _)
          | exact ⟨rfl, rfl⟩
        · have ht : (((t15 - 1).toNat + 1 : Nat) : Int) = t15 := by omega
          rw [show (t15 + 1 - 1).toNat = (t15 - 1).toNat + 1 by omega, dkK]
          have e2 : litT ((t15 - 1).toNat + 1) = litF (rowT t15) := by unfold litT; rw [ht]
          rw [e2]
          first
          | (rw [if_pos hx]; exact ⟨ht.symm, e2.symm⟩)
          | (rw [if_neg hx]; exact ⟨rfl, rfl⟩)
      · (try dsimp only); omega
    (try simp only [Decidable.not_not] at h1)
    refine code_exit ?_
    refine then_x ?_; clear hK7 K7
    refine then_x ?_
    refine blk_hit ?_
    refine hK4 _ ?_; clear hK4 K4
    refine code_seq (fun K12 hK12 => ?_)
    refine code_region ?_
    refine list_cons rfl (op_q (q_move rfl (by decide)) ?_)
    refine list_cons rfl (op_q (q_move rfl (by decide)) ?_)
    refine list_cons rfl (op_q (q_assign rfl (by decide)) ?_)
    refine list_cons rfl (op_q (q_assign rfl (by decide)) ?_)
    refine list_nil ?_
    refine hK12 _ ?_; clear hK12 K12
    refine code_ret ?_
    refine ends_ret (cs := []) rfl rfl rfl rfl trivial ?_
    rw [show (t15 - 1).toNat = 1439 by omega]

set_option maxRecDepth 4000 in
theorem impl_DarkestTime  : PCalls Tryd.prog 67 [] (· = [.val (.int .i64 (((dkK 1439 : Nat) : Int))), .val (.int .i64 (litT (dkK 1439)))]) := by
  refine pcalls_of_code (n := 5) az Tryd.func67 (by kernel_rfl) rfl rfl (Nat.le_of_ble_eq_true rfl) (by intro t u h; simp [Tryd.f67] at h) ?_
  refine code_seq (fun K1 hK1 => ?_)
  refine code_region ?_
  refine list_cons rfl (op_q (q_assign rfl (by decide)) ?_)
  refine list_cons rfl (op_q (q_assign rfl (by decide)) ?_)
  refine list_nil ?_
  refine hK1 _ ?_; clear hK1 K1
  refine code_seq (fun K2 hK2 => ?_)
  refine code_region ?_
  refine list_cons rfl (op_call _ (first_DarkestTime) rfl rfl (by decide) (by decide) (by decide) rfl ?_)
  rintro _ rfl
  refine list_cons rfl (op_q (q_extract rfl rfl (by decide)) ?_)
  refine list_cons rfl (op_q (q_extract rfl rfl (by decide)) ?_)
  refine list_cons rfl (op_q (q_assign rfl (by decide)) ?_)
  refine list_cons rfl (op_q (q_assign rfl (by decide)) ?_)
  refine list_nil ?_
  refine hK2 _ ?_; clear hK2 K2
  refine codeT.imp (σ' := [(0, _), (1, _)]) ?_ (imp_covers ⟨rfl, rfl, trivial⟩)
  refine code_ret ?_
  refine ends_ret (cs := []) rfl rfl rfl rfl trivial ?_
  rfl

set_option maxRecDepth 8000 in
set_option maxHeartbeats 2000000 in
theorem impl_MinuteChanges (t : Int) : PCalls Tryd.prog 63 [.int .i64 t] (· = [.val (.int .i64 (if TmP t then chgK (rowT t) (rowT ((t + 1) % 1440)) 4 else 0)), .val (.bool (decide (TmP t)))]) := by
  refine pcalls_of_code (n := 33) az Tryd.func63 (by kernel_rfl) rfl rfl (Nat.le_of_ble_eq_true rfl) (by intro t u h; simp [Tryd.f63] at h) ?_
  refine code_seq (fun K1 hK1 => ?_)
  refine code_region ?_
  refine list_cons rfl (op_q (q_assign rfl (by decide)) ?_)
  refine list_cons rfl (op_q (q_assign rfl (by decide)) ?_)
  refine list_nil ?_
  refine hK1 _ ?_; clear hK1 K1
  refine code_seq (fun K2 hK2 => ?_)
  refine code_seq (fun K3 hK3 => ?_)
  refine code_region ?_
  refine list_cons rfl (op_q (q_move rfl (by decide)) ?_)
  refine list_cons rfl (op_call _ (impl_isTime _) rfl rfl (by decide) (by decide) (by decide) rfl ?_)
  rintro _ rfl
  refine list_cons rfl (op_q (by first | exact q_notd rfl (by decide) | exact q_not rfl (by decide)) ?_)
  refine list_nil ?_
  refine hK3 _ ?_; clear hK3 K3
  refine codeT.imp (σ' := [(0, _), (2, _), (3, _), (10, _)]) ?_ (imp_covers ⟨rfl, rfl, rfl, rfl, trivial⟩)
  refine code_cond_d rfl (fun h1 => ?_) (fun h1 => ?_)
  · skip
    (try simp only [Decidable.not_not] at h1); (try have hT1 := (h1 : TmP t).1; have hT2 := (h1 : TmP t).2)
    refine code_seq (fun K4 hK4 => ?_)
    refine code_region ?_
    refine list_cons rfl (op_q (q_assign rfl (by decide)) ?_)
    refine list_cons rfl (op_q (q_assign rfl (by decide)) ?_)
    refine list_nil ?_
    refine hK4 _ ?_; clear hK4 K4
    refine code_ret ?_
    refine then_r ?_; clear hK2 K2
    refine ends_ret (cs := []) rfl rfl rfl rfl trivial ?_
    first
      | (have e : ¬ (TmP t) := by assumption
         simp only [if_neg e, decide_eq_false e]; first | done | rfl)
      | (have e : TmP t := by assumption
         simp only [if_pos e, decide_eq_true e]; first | done | rfl)
  (try simp only [Decidable.not_not] at h1); (try have hT1 := (h1 : TmP t).1; have hT2 := (h1 : TmP t).2)
  refine code_skip ?_
  refine hK2 _ ?_; clear hK2 K2
  refine code_seq (fun K5 hK5 => ?_)
  refine code_region ?_
  refine list_cons rfl (op_q (q_move rfl (by decide)) ?_)
  refine list_cons rfl (op_call _ (impl_ClockRow t) rfl rfl (by decide) (by decide) (by decide) rfl ?_)
  rintro _ rfl; simp only [if_pos h1, decide_eq_true h1]
  refine list_cons rfl (op_q (q_move rfl (by decide)) ?_)
  refine list_cons rfl (op_q (q_extract rfl rfl (by decide)) ?_)
  refine list_cons rfl (op_q (q_extract rfl rfl (by decide)) ?_)
  refine list_cons rfl (op_q (q_assign rfl (by decide)) ?_)
  refine list_cons rfl (op_q (q_assign rfl (by decide)) ?_)
  refine list_nil ?_
  refine hK5 _ ?_; clear hK5 K5
  refine codeT.imp (σ' := [(0, _), (2, _), (3, _), (4, _), (5, _)]) ?_ (imp_covers ⟨rfl, rfl, rfl, rfl, rfl, trivial⟩)
  refine code_seq (fun K6 hK6 => ?_)
  refine code_region ?_
  refine list_cons rfl (op_q (q_move rfl (by decide)) ?_)
  refine list_cons rfl (op_call _ (impl_laterTime _ _ (by omega) (by omega)) rfl rfl (by decide) (by decide) (by decide) rfl ?_)
  rintro _ rfl
  refine list_cons rfl (op_call _ (impl_ClockRow ((t + 1) % 1440)) rfl rfl (by decide) (by decide) (by decide) rfl ?_)
  rintro _ rfl; have hT3 : TmP ((t + 1) % 1440) := ⟨by omega, by omega⟩; simp only [if_pos hT3, decide_eq_true hT3]
  refine list_cons rfl (op_q (q_move rfl (by decide)) ?_)
  refine list_cons rfl (op_q (q_extract rfl rfl (by decide)) ?_)
  refine list_cons rfl (op_q (q_extract rfl rfl (by decide)) ?_)
  refine list_cons rfl (op_q (q_assign rfl (by decide)) ?_)
  refine list_cons rfl (op_q (q_assign rfl (by decide)) ?_)
  refine list_nil ?_
  refine hK6 _ ?_; clear hK6 K6
  refine codeT.imp (σ' := [(0, _), (2, _), (3, _), (4, _), (5, _), (6, _), (7, _)]) ?_ (imp_covers ⟨rfl, rfl, rfl, rfl, rfl, rfl, rfl, trivial⟩)
  refine code_seq (fun K7 hK7 => ?_)
  refine code_seq (fun K8 hK8 => ?_)
  refine code_region ?_
  refine list_cons rfl (op_q (q_move rfl (by decide)) ?_)
  refine list_cons rfl (op_q (by first | exact q_notd rfl (by decide) | exact q_not rfl (by decide)) ?_)
  refine list_cons rfl (op_q (q_move rfl (by decide)) ?_)
  refine list_guard_y rfl rfl rfl rfl (by decide) rfl ?_
  refine id (op_q (q_move rfl (by decide)) ?_)
  refine list_guard_y rfl rfl rfl rfl (by decide) rfl ?_
  refine id (op_q (by first | exact q_notd rfl (by decide) | exact q_not rfl (by decide)) ?_)
  refine list_cons rfl (op_q (q_pick rfl rfl (by decide)) ?_)
  refine list_nil ?_
  refine hK8 _ ?_; clear hK8 K8
  refine code_cond_f rfl ?_
  refine code_skip ?_
  refine hK7 _ ?_; clear hK7 K7
  refine code_seq (fun K9 hK9 => ?_)
  refine code_region ?_
  refine list_cons rfl (op_q (q_move rfl (by decide)) ?_)
  refine list_cons rfl (op_q (q_move rfl (by decide)) ?_)
  refine list_cons rfl (op_call _ (impl_rowChanges (rowT t) (rowT ((t + 1) % 1440)) (by rw [rowT_len, rowT_len]) (by rw [rowT_len]; decide) (fun i hi => (rowT_row _).at hi) (fun i hi => (rowT_row _).at hi)) rfl rfl (by decide) (by decide) (by decide) rfl ?_)
  rintro _ rfl
  refine list_cons rfl (op_q (q_extract rfl rfl (by decide)) ?_)
  refine list_cons rfl (op_q (q_extract rfl rfl (by decide)) ?_)
  refine list_cons rfl (op_q (q_assign rfl (by decide)) ?_)
  refine list_cons rfl (op_q (q_assign rfl (by decide)) ?_)
  refine list_nil ?_
  refine hK9 _ ?_; clear hK9 K9
  refine codeT.imp (σ' := [(0, _), (2, _), (3, _), (4, _), (5, _), (6, _), (7, _)]) ?_ (imp_covers ⟨rfl, rfl, rfl, rfl, rfl, rfl, rfl, trivial⟩)
  refine code_ret ?_
  refine ends_ret (cs := []) rfl rfl rfl rfl trivial ?_
  first
    | (have e : ¬ (TmP t) := by assumption
       simp only [if_neg e, decide_eq_false e]; first | done | rfl)
    | (have e : TmP t := by assumption
       simp only [if_pos e, decide_eq_true e]; first | done | rfl)

set_option maxRecDepth 4000 in
theorem ofBars1_c (t b : Int) (h : TmP t) : PCalls Tryd.prog 139 [.int .i64 t, .ptr [.int .i64 b]] (· = [.val (.bool (decide (TmP t ∧ litF (rowT t) = b)))]) := by
  refine pcalls_of_code (n := 7) az Tryd.func139 (by kernel_rfl) rfl rfl (Nat.le_of_ble_eq_true rfl) (by intro t u h; simp [Tryd.f139] at h) ?_
  refine codeT.imp ?_ (imp_rpar (s := 1) (i := 1) rfl)
  refine code_seq (fun K1 hK1 => ?_)
  refine code_region ?_
  refine list_cons rfl (op_q (q_assign rfl (by decide)) ?_)
  refine list_nil ?_
  refine hK1 _ ?_; clear hK1 K1
  refine code_seq (fun K2 hK2 => ?_)
  refine code_region ?_
  refine list_cons rfl (op_q (q_move rfl (by decide)) ?_)
  refine list_cons rfl (op_q (q_load_rd one_3 rfl (.inl ⟨_, (by first | rfl | exact congrArg (SV.rpar _) (drop_map1 _ 0 _ (by first | omega | (simp; omega)))), rfl⟩) (by decide)) ?_)
  refine list_cons rfl (op_call _ (gives_c 61 t b (litF (rowT t)) (TmP t) (by simp only [decide_eq_true h]; exact litAtY t h)) rfl rfl (by decide) (by decide) (by decide) rfl ?_)
  rintro _ rfl
  refine list_cons rfl (op_q (q_assign rfl (by decide)) ?_)
  refine list_nil ?_
  refine hK2 _ ?_; clear hK2 K2
  refine codeT.imp (σ' := [(0, _), (1, _), (3, _)]) ?_ (imp_covers ⟨rfl, rfl, rfl, trivial⟩)
  refine code_ret ?_
  refine ends_ret (cs := []) rfl rfl rfl rfl trivial ?_
  rfl

set_option maxRecDepth 8000 in
set_option maxHeartbeats 2000000 in
theorem impl_TimesOfBars (b : Int) : PCalls Tryd.prog 73 [.int .i64 b] (· = [.own 0 3 1 (if 0 ≤ b ∧ b ≤ 28 then selK (tbP b) 1440 else []).length ((if 0 ≤ b ∧ b ≤ 28 then selK (tbP b) 1440 else []).map (.int .i64)), .val (.bool (decide (0 ≤ b ∧ b ≤ 28)))]) := by
  refine pcalls_of_code (n := 13) az Tryd.func73 (by kernel_rfl) rfl rfl (Nat.le_of_ble_eq_true rfl) (by intro t u h; simp [Tryd.f73] at h) ?_
  refine code_seq (fun K1 hK1 => ?_)
  refine code_region ?_
  refine list_cons rfl (op_box rfl (.inl ⟨rfl, rfl⟩) (by decide) (by decide) rfl ?_)
  refine list_cons rfl (op_q (q_assign rfl (by decide)) ?_)
  refine list_cons rfl (op_q (q_assign rfl (by decide)) ?_)
  refine list_nil ?_
  refine hK1 _ ?_; clear hK1 K1
  refine code_seq (fun K2 hK2 => ?_)
  refine code_seq (fun K3 hK3 => ?_)
  refine code_region ?_
  refine list_cons rfl (op_q (q_load_box1 one_3 rfl rfl (by decide)) ?_)
  refine list_cons rfl (op_q (q_lt rfl rfl (by decide)) ?_)
  refine list_cons rfl (op_q (q_move rfl (by decide)) ?_)
  refine list_guard_d rfl rfl rfl rfl (by decide) rfl (by decide) (fun h1 => ?_) (fun h1 => ?_)
  · simp only [Bool.false_eq_true, if_true, if_false, Decidable.not_not] at h1
    refine id (op_q (q_load_box1 one_3 rfl rfl (by decide)) ?_)
    refine list_guard_y rfl rfl rfl rfl (by decide) rfl ?_
    refine id (op_q (q_gt rfl rfl (by decide)) ?_)
    refine list_cons rfl (op_q (q_pick rfl rfl (by decide)) ?_)
    refine list_nil ?_
    refine hK3 _ ?_; clear hK3 K3
    refine code_cond_d rfl (fun h2 => ?_) (fun h2 => ?_)
    · skip
      (try simp only [Decidable.not_not] at h2)
      refine code_seq (fun K4 hK4 => ?_)
      refine code_region ?_
      refine list_cons rfl (op_buildSlice sl_35 (parts := []) rfl rfl rfl (by decide) (by decide) (by decide) rfl ?_)
      refine list_cons rfl (op_q (q_assign rfl (by decide)) ?_)
      refine list_cons rfl (op_q (q_assign rfl (by decide)) ?_)
      refine list_nil ?_
      refine hK4 _ ?_; clear hK4 K4
      refine codeT.imp (σ' := [(0, _), (1, _), (2, _), (3, _)]) ?_ (imp_covers ⟨rfl, rfl, rfl, rfl, trivial⟩)
      refine code_ret ?_
      refine then_r ?_; clear hK2 K2
      refine ends_ret (cs := []) rfl rfl rfl rfl trivial ?_
      first
        | (have e : ¬ (0 ≤ b ∧ b ≤ 28) := by omega
           simp only [if_neg e, decide_eq_false e]; rfl)
        | (have e : 0 ≤ b ∧ b ≤ 28 := ⟨by omega, by omega⟩
           rw [selF_K (tbP b) (fun t => TmP t ∧ litF (rowT t) = b) 1440 (Nat.le_refl _) (fun j hj => ⟨fun k => ⟨⟨by omega, by omega⟩, k⟩, fun k => k.2⟩)]
           simp only [if_pos e, decide_eq_true e]; done)
    (try simp only [Decidable.not_not] at h2)
    refine code_skip ?_
    refine hK2 _ ?_; clear hK2 K2
    refine code_seq (fun K5 hK5 => ?_)
    refine code_region ?_
    refine list_cons rfl (op_makeFunc (xs := [.tmp 1]) rfl rfl rfl (by decide) (by decide) rfl ?_)
    refine list_cons rfl (op_callM (timesThat_B 139 [.int .i64 b] [] (fun t => TmP t ∧ litF (rowT t) = b) (fun t h => ofBars1_c t b h)) (.tmp 0) 0 [] [.tmp 11] _ rfl rfl (by intro y hy; cases hy) (by decide) (by decide) (by decide) rfl (by intro h; cases h) ?_)
    rintro _ _ rfl
    refine list_cons rfl (op_q (q_assign rfl (by decide)) ?_)
    refine list_cons rfl (op_q (q_assign rfl (by decide)) ?_)
    refine list_nil ?_
    refine hK5 _ ?_; clear hK5 K5
    refine codeT.imp (σ' := [(0, _), (1, _), (2, _), (3, _)]) ?_ (imp_covers ⟨rfl, rfl, rfl, rfl, trivial⟩)
    refine code_ret ?_
    refine ends_ret (cs := []) rfl rfl rfl rfl trivial ?_
    first
      | (have e : ¬ (0 ≤ b ∧ b ≤ 28) := by omega
         simp only [if_neg e, decide_eq_false e]; rfl)
      | (have e : 0 ≤ b ∧ b ≤ 28 := ⟨by omega, by omega⟩
         rw [selF_K (tbP b) (fun t => TmP t ∧ litF (rowT t) = b) 1440 (Nat.le_refl _) (fun j hj => ⟨fun k => ⟨⟨by omega, by omega⟩, k⟩, fun k => k.2⟩)]
         simp only [if_pos e, decide_eq_true e]; done)
  simp only [Bool.false_eq_true, if_true, if_false, Decidable.not_not] at h1
  refine list_guard_n rfl rfl rfl rfl (by decide) rfl ?_
  refine list_cons rfl (op_q (q_pick rfl rfl (by decide)) ?_)
  refine list_nil ?_
  refine hK3 _ ?_; clear hK3 K3
  refine code_cond_t rfl ?_
  refine code_seq (fun K6 hK6 => ?_)
  refine code_region ?_
  refine list_cons rfl (op_buildSlice sl_35 (parts := []) rfl rfl rfl (by decide) (by decide) (by decide) rfl ?_)
  refine list_cons rfl (op_q (q_assign rfl (by decide)) ?_)
  refine list_cons rfl (op_q (q_assign rfl (by decide)) ?_)
  refine list_nil ?_
  refine hK6 _ ?_; clear hK6 K6
  refine code_ret ?_
  refine then_r ?_; clear hK2 K2
  refine ends_ret (cs := []) rfl rfl rfl rfl trivial ?_
  first
    | (have e : ¬ (0 ≤ b ∧ b ≤ 28) := by omega
       simp only [if_neg e, decide_eq_false e]; rfl)
    | (have e : 0 ≤ b ∧ b ≤ 28 := ⟨by omega, by omega⟩
       rw [selF_K (tbP b) (fun t => TmP t ∧ litF (rowT t) = b) 1440 (Nat.le_refl _) (fun j hj => ⟨fun k => ⟨⟨by omega, by omega⟩, k⟩, fun k => k.2⟩)]
       simp only [if_pos e, decide_eq_true e]; done)

set_option maxRecDepth 4000 in
theorem indexF0_c (l : List Int) (f : FuncId) (p : Int → Prop) [DecidablePred p] (hl : l.length ≤ 4611686018427387904) (hf : ∀ j, j < l.length → PCalls Tryd.prog f [.int .i64 (l.getD j 0)] (· = [.val (.bool (decide (p (l.getD j 0))))])) : PCalls Tryd.prog 172 [.sl l.length (l.map (.int .i64)), .clo f []] (fun rs => ∃ i : Int, rs = [.val (.int .i64 i)] ∧ (0 ≤ i ↔ ∃ j, j < l.length ∧ p (l.getD j 0))) := by
  refine pcalls_of_code (n := 19) az Tryd.func172 (by kernel_rfl) rfl rfl (Nat.le_of_ble_eq_true rfl) (by intro t u h; simp [Tryd.f172] at h) ?_
  refine code_seq (fun K1 hK1 => ?_)
  refine code_region ?_
  refine list_cons rfl (op_q (q_assign rfl (by decide)) ?_)
  refine list_nil ?_
  refine hK1 _ ?_; clear hK1 K1
  refine code_seq (fun K2 hK2 => ?_)
  refine code_seq (fun K3 hK3 => ?_)
  refine code_region ?_
  refine list_cons rfl (op_q (q_move rfl (by decide)) ?_)
  refine list_cons rfl (op_q (q_len_sl Tryd.underlying35 rfl rfl (by decide)) ?_)
  refine list_cons rfl (op_q (q_move rfl (by decide)) ?_)
  refine list_nil ?_
  refine hK3 _ ?_; clear hK3 K3
  refine code_block ?_
  refine code_loop (X := Int × Int) (fun x => [(0, .par 0 (.sl l.length (l.map (.int .i64)))), (1, .val (.clo f [])), (4, .val (.int .i64 x.1)), (7, .val (.int .i64 l.length)), (8, .val (.int .i64 x.2))]) (fun x => 0 ≤ x.2 ∧ x.2 ≤ l.length ∧ ∀ j, j < x.2.toNat → ¬ p (l.getD j 0)) (fun x => (l.length - x.2).toNat) (_, _) (imp_covers ⟨rfl, rfl, rfl, rfl, rfl, trivial⟩) ?_ ?_
  · (try dsimp only)
    exact ⟨by omega, by omega, fun j hj => by simp at hj⟩
  · intro x hI
    obtain ⟨t4, t8⟩ := x
    replace hI : 0 ≤ t8 ∧ t8 ≤ l.length ∧ ∀ j, j < t8.toNat → ¬ p (l.getD j 0) := hI
    show codeT _ _ _ [(0, .par 0 (.sl l.length (l.map (.int .i64)))), (1, .val (.clo f [])), (4, .val (.int .i64 t4)), (7, .val (.int .i64 l.length)), (8, .val (.int .i64 t8))] _
    obtain ⟨i1, i2, i3⟩ := hI
    refine code_seq (fun K4 hK4 => ?_)
    refine code_region ?_
    refine list_cons rfl (op_q (q_lt rfl rfl (by decide)) ?_)
    refine list_nil ?_
    refine hK4 _ ?_; clear hK4 K4
    refine code_seq (fun K5 hK5 => ?_)
    refine code_cond_d rfl (fun h1 => ?_) (fun h1 => ?_)
    · skip
      (try simp only [Decidable.not_not] at h1)
      refine code_skip ?_
      refine hK5 _ ?_; clear hK5 K5
      refine code_seq (fun K6 hK6 => ?_)
      refine code_block ?_
      refine code_seq (fun K7 hK7 => ?_)
      refine code_region ?_
      refine list_cons rfl (op_q (q_move rfl (by decide)) ?_)
      refine list_cons rfl (op_q (q_assign rfl (by decide)) ?_)
      refine list_nil ?_
      refine hK7 _ ?_; clear hK7 K7
      refine code_seq (fun K8 hK8 => ?_)
      refine code_region ?_
      refine list_cons rfl (op_q (q_move rfl (by decide)) ?_)
      refine list_cons rfl (op_q (q_move rfl (by decide)) ?_)
      refine list_cons rfl (op_q (q_move rfl (by decide)) ?_)
      refine list_cons rfl (op_q (q_indexAddr_rd sl_35 rfl (.inl ⟨_, rfl, rfl⟩) rfl (by omega) (by omega) (by decide)) ?_)
      refine list_cons rfl (op_q (q_load_rd one_3 rfl (.inl ⟨_, (by first | rfl | exact congrArg (SV.rpar _) (drop_map1 _ 0 _ (by first | omega | (simp; omega)))), rfl⟩) (by decide)) ?_)
      refine list_cons rfl (op_callV _ rfl rfl rfl rfl (pcV (hf t8.toNat (by omega))) (by decide) ?_)
      rintro _ rfl
      refine list_nil ?_
      refine hK8 _ ?_; clear hK8 K8
      refine codeT.imp (σ' := [(0, _), (1, _), (4, _), (5, _), (7, _), (8, _), (16, _)]) ?_ (imp_covers ⟨rfl, rfl, rfl, rfl, rfl, rfl, rfl, trivial⟩)
      refine code_cond_d rfl (fun h2 => ?_) (fun h2 => ?_)
      · skip
        (try simp only [Decidable.not_not] at h2)
        refine code_seq (fun K9 hK9 => ?_)
        refine code_region ?_
        refine list_cons rfl (op_q (q_move rfl (by decide)) ?_)
        refine list_cons rfl (op_q (q_assign rfl (by decide)) ?_)
        refine list_nil ?_
        refine hK9 _ ?_; clear hK9 K9
        refine code_ret ?_
        refine blk_r ?_
        refine then_r ?_; clear hK6 K6
        refine then_r ?_
        refine blk_r ?_
        refine then_r ?_; clear hK2 K2
        refine ends_ret (cs := []) rfl rfl rfl rfl trivial ?_
        first
          | exact ⟨_, rfl, fun _ => ⟨t8.toNat, by omega, h2⟩, fun _ => by omega⟩
          | exact ⟨_, rfl, fun h => by omega, fun ⟨j, hj, hp⟩ => absurd hp (i3 j (by omega))⟩
      (try simp only [Decidable.not_not] at h2)
      refine code_skip ?_
      refine blk_n ?_
      refine hK6 _ ?_; clear hK6 K6
      refine code_region ?_
      refine list_cons rfl (op_q (by first | exact q_addI rfl rfl (by decide) (by omega) (by omega) | exact q_ib rfl rfl rfl (by decide)) ?_)
      refine list_cons rfl (op_q (q_move rfl (by decide)) ?_)
      refine list_nil ?_
      refine then_n ⟨(_, _), imp_covers ⟨rfl, rfl, rfl, rfl, rfl, trivial⟩, ?_, ?_⟩
      · (try dsimp only)
        refine ⟨by omega, by omega, fun j hj => ?_⟩
        by_cases e : j = t8.toNat
        · subst e; exact h2
        · exact i3 j (by omega)
      · (try dsimp only); omega
    (try simp only [Decidable.not_not] at h1)
    refine code_exit ?_
    refine then_x ?_; clear hK5 K5
    refine then_x ?_
    refine blk_hit ?_
    refine hK2 _ ?_; clear hK2 K2
    refine code_seq (fun K10 hK10 => ?_)
    refine code_region ?_
    refine list_cons rfl (op_q (q_assign rfl (by decide)) ?_)
    refine list_nil ?_
    refine hK10 _ ?_; clear hK10 K10
    refine code_ret ?_
    refine ends_ret (cs := []) rfl rfl rfl rfl trivial ?_
    first
      | exact ⟨_, rfl, fun _ => ⟨t8.toNat, by omega, h1⟩, fun _ => by omega⟩
      | exact ⟨_, rfl, fun h => by omega, fun ⟨j, hj, hp⟩ => absurd hp (i3 j (by omega))⟩

set_option maxRecDepth 4000 in
theorem containsF0_c (l : List Int) (f : FuncId) (p : Int → Prop) [DecidablePred p] (hl : l.length ≤ 4611686018427387904) (hf : ∀ j, j < l.length → PCalls Tryd.prog f [.int .i64 (l.getD j 0)] (· = [.val (.bool (decide (p (l.getD j 0))))])) : PCalls Tryd.prog 161 [.sl l.length (l.map (.int .i64)), .clo f []] (fun rs => rs = [.val (.bool (decide (∃ j, j < l.length ∧ p (l.getD j 0))))]) := by
  refine pcalls_of_code (n := 9) az Tryd.func161 (by kernel_rfl) rfl rfl (Nat.le_of_ble_eq_true rfl) (by intro t u h; simp [Tryd.f161] at h) ?_
  refine code_seq (fun K1 hK1 => ?_)
  refine code_region ?_
  refine list_cons rfl (op_q (q_assign rfl (by decide)) ?_)
  refine list_nil ?_
  refine hK1 _ ?_; clear hK1 K1
  refine code_seq (fun K2 hK2 => ?_)
  refine code_region ?_
  refine list_cons rfl (op_q (q_move rfl (by decide)) ?_)
  refine list_cons rfl (op_q (q_move rfl (by decide)) ?_)
  refine list_cons rfl (op_call _ (indexF0_c l f p hl hf) rfl rfl (by decide) (by decide) (by decide) rfl ?_)
  rintro _ ⟨ix, rfl, hix⟩
  refine list_cons rfl (op_q (q_ge rfl rfl (by decide)) ?_)
  refine list_cons rfl (op_q (q_assign rfl (by decide)) ?_)
  refine list_nil ?_
  refine hK2 _ ?_; clear hK2 K2
  refine codeT.imp (σ' := [(0, _), (1, _), (4, _)]) ?_ (imp_covers ⟨rfl, rfl, rfl, trivial⟩)
  refine code_ret ?_
  refine ends_ret (cs := []) rfl rfl rfl rfl trivial ?_
  congr 3
  exact decide_eq_decide.mpr hix

set_option maxRecDepth 4000 in
theorem isPattern1_c (c : Int) : PCalls Tryd.prog 162 [.int .i64 c] (· = [.val (.bool (decide (c ≠ -1 ∧ ¬ (0 ≤ c ∧ c ≤ 127))))]) := by
  refine pcalls_of_code (n := 10) az Tryd.func162 (by kernel_rfl) rfl rfl (Nat.le_of_ble_eq_true rfl) (by intro t u h; simp [Tryd.f162] at h) ?_
  refine code_seq (fun K1 hK1 => ?_)
  refine code_region ?_
  refine list_cons rfl (op_q (q_assign rfl (by decide)) ?_)
  refine list_nil ?_
  refine hK1 _ ?_; clear hK1 K1
  refine code_seq (fun K2 hK2 => ?_)
  refine code_region ?_
  refine list_cons rfl (op_q (q_move rfl (by decide)) ?_)
  refine list_cons rfl (op_q (q_ne rfl rfl (by decide)) ?_)
  refine list_cons rfl (op_q (q_move rfl (by decide)) ?_)
  refine list_guard_d rfl rfl rfl rfl (by decide) rfl (by decide) (fun h1 => ?_) (fun h1 => ?_)
  · simp only [Bool.false_eq_true, if_true, if_false, Decidable.not_not] at h1
    refine id (op_q (q_move rfl (by decide)) ?_)
    refine list_guard_y rfl rfl rfl rfl (by decide) rfl ?_
    refine id (op_call _ (impl_IsCell _) rfl rfl (by decide) (by decide) (by decide) rfl ?_)
    rintro _ rfl
    refine list_guard_y rfl rfl rfl rfl (by decide) rfl ?_
    refine id (op_q (by first | exact q_notd rfl (by decide) | exact q_not rfl (by decide)) ?_)
    refine list_cons rfl (op_q (q_pick rfl rfl (by decide)) ?_)
    refine list_cons rfl (op_q (q_assign rfl (by decide)) ?_)
    refine list_nil ?_
    refine hK2 _ ?_; clear hK2 K2
    refine codeT.imp (σ' := [(0, _), (2, _)]) ?_ (imp_covers ⟨rfl, rfl, trivial⟩)
    refine code_ret ?_
    refine ends_ret (cs := []) rfl rfl rfl rfl trivial ?_
    first
      | (rw [decide_eq_false (fun k : c ≠ -1 ∧ ¬ (0 ≤ c ∧ c ≤ 127) => absurd (by assumption) k.1)]; done)
      | (rw [decide_eq_false (fun k : c ≠ -1 ∧ ¬ (0 ≤ c ∧ c ≤ 127) => k.1 (by assumption))]; done)
      | (congr 3; exact decide_eq_decide.mpr ⟨fun k => ⟨by assumption, k⟩, fun k => k.2⟩)
  simp only [Bool.false_eq_true, if_true, if_false, Decidable.not_not] at h1
  refine list_guard_n rfl rfl rfl rfl (by decide) rfl ?_
  refine list_guard_n rfl rfl rfl rfl (by decide) rfl ?_
  refine list_cons rfl (op_q (q_pick rfl rfl (by decide)) ?_)
  refine list_cons rfl (op_q (q_assign rfl (by decide)) ?_)
  refine list_nil ?_
  refine hK2 _ ?_; clear hK2 K2
  refine code_ret ?_
  refine ends_ret (cs := []) rfl rfl rfl rfl trivial ?_
  first
    | (rw [decide_eq_false (fun k : c ≠ -1 ∧ ¬ (0 ≤ c ∧ c ≤ 127) => absurd (by assumption) k.1)]; done)
    | (rw [decide_eq_false (fun k : c ≠ -1 ∧ ¬ (0 ≤ c ∧ c ≤ 127) => k.1 (by assumption))]; done)
    | (congr 3; exact decide_eq_decide.mpr ⟨fun k => ⟨by assumption, k⟩, fun k => k.2⟩)

set_option maxRecDepth 4000 in
theorem impl_isPattern (l : List Int) (hl : l.length ≤ 4611686018427387904) : PCalls Tryd.prog 134 [.sl l.length (l.map (.int .i64))] (· = [.val (.bool (decide (LikP l)))]) := by
  refine pcalls_of_code (n := 11) az Tryd.func134 (by kernel_rfl) rfl rfl (Nat.le_of_ble_eq_true rfl) (by intro t u h; simp [Tryd.f134] at h) ?_
  refine code_seq (fun K1 hK1 => ?_)
  refine code_region ?_
  refine list_cons rfl (op_q (q_assign rfl (by decide)) ?_)
  refine list_nil ?_
  refine hK1 _ ?_; clear hK1 K1
  refine code_seq (fun K2 hK2 => ?_)
  refine code_region ?_
  refine list_cons rfl (op_q (q_move rfl (by decide)) ?_)
  refine list_cons rfl (op_q (q_len_sl Tryd.underlying35 rfl rfl (by decide)) ?_)
  refine list_cons rfl (op_q (q_eq rfl rfl (by decide)) ?_)
  refine list_cons rfl (op_q (q_move rfl (by decide)) ?_)
  refine list_guard_d rfl rfl rfl rfl (by decide) rfl (by decide) (fun h1 => ?_) (fun h1 => ?_)
  · simp only [Bool.false_eq_true, if_true, if_false, Decidable.not_not] at h1
    refine id (op_q (q_move rfl (by decide)) ?_)
    refine list_guard_y rfl rfl rfl rfl (by decide) rfl ?_
    refine id (op_call _ (containsF0_c l 162 (fun c => c ≠ -1 ∧ ¬ (0 ≤ c ∧ c ≤ 127)) hl (fun j hj => isPattern1_c _)) rfl rfl (by decide) (by decide) (by decide) rfl ?_)
    rintro _ rfl
    refine list_guard_y rfl rfl rfl rfl (by decide) rfl ?_
    refine id (op_q (by first | exact q_notd rfl (by decide) | exact q_not rfl (by decide)) ?_)
    refine list_cons rfl (op_q (q_pick rfl rfl (by decide)) ?_)
    refine list_cons rfl (op_q (q_assign rfl (by decide)) ?_)
    refine list_nil ?_
    refine hK2 _ ?_; clear hK2 K2
    refine codeT.imp (σ' := [(0, _), (2, _)]) ?_ (imp_covers ⟨rfl, rfl, trivial⟩)
    refine code_ret ?_
    refine ends_ret (cs := []) rfl rfl rfl rfl trivial ?_
    first
      | (rw [decide_eq_false (fun k : LikP l => absurd k.1 (by assumption))]; done)
      | (congr 3
         refine decide_eq_decide.mpr ⟨fun k => ⟨by assumption, fun j hj => ?_⟩, fun k => ?_⟩
         · by_cases e1 : l.getD j 0 = -1
           · exact .inl e1
           · by_cases e2 : 0 ≤ l.getD j 0 ∧ l.getD j 0 ≤ 127
             · exact .inr e2
             · exact absurd ⟨j, by omega, e1, e2⟩ k
         · rintro ⟨j, hj, e1, e2⟩
           exact (k.2 j (by omega)).elim e1 e2)
  simp only [Bool.false_eq_true, if_true, if_false, Decidable.not_not] at h1
  refine list_guard_n rfl rfl rfl rfl (by decide) rfl ?_
  refine list_guard_n rfl rfl rfl rfl (by decide) rfl ?_
  refine list_cons rfl (op_q (q_pick rfl rfl (by decide)) ?_)
  refine list_cons rfl (op_q (q_assign rfl (by decide)) ?_)
  refine list_nil ?_
  refine hK2 _ ?_; clear hK2 K2
  refine code_ret ?_
  refine ends_ret (cs := []) rfl rfl rfl rfl trivial ?_
  first
    | (rw [decide_eq_false (fun k : LikP l => absurd k.1 (by assumption))]; done)
    | (congr 3
       refine decide_eq_decide.mpr ⟨fun k => ⟨by assumption, fun j hj => ?_⟩, fun k => ?_⟩
       · by_cases e1 : l.getD j 0 = -1
         · exact .inl e1
         · by_cases e2 : 0 ≤ l.getD j 0 ∧ l.getD j 0 ≤ 127
           · exact .inr e2
           · exact absurd ⟨j, by omega, e1, e2⟩ k
       · rintro ⟨j, hj, e1, e2⟩
         exact (k.2 j (by omega)).elim e1 e2)

set_option maxRecDepth 4000 in
theorem timesLike11_c (a b : Int) : PCalls Tryd.prog 137 [.int .i64 a, .int .i64 b] (· = [.val (.bool (decide (b = -1 ∨ a = b)))]) := by
  refine pcalls_of_code (n := 12) az Tryd.func137 (by kernel_rfl) rfl rfl (Nat.le_of_ble_eq_true rfl) (by intro t u h; simp [Tryd.f137] at h) ?_
  refine code_seq (fun K1 hK1 => ?_)
  refine code_region ?_
  refine list_cons rfl (op_q (q_assign rfl (by decide)) ?_)
  refine list_nil ?_
  refine hK1 _ ?_; clear hK1 K1
  refine code_seq (fun K2 hK2 => ?_)
  refine code_region ?_
  refine list_cons rfl (op_q (q_move rfl (by decide)) ?_)
  refine list_cons rfl (op_q (q_eq rfl rfl (by decide)) ?_)
  refine list_cons rfl (op_q (q_move rfl (by decide)) ?_)
  refine list_guard_d rfl rfl rfl rfl (by decide) rfl (by decide) (fun h1 => ?_) (fun h1 => ?_)
  · simp only [Bool.false_eq_true, if_true, if_false, Decidable.not_not] at h1
    refine id (op_q (q_move rfl (by decide)) ?_)
    refine list_guard_y rfl rfl rfl rfl (by decide) rfl ?_
    refine id (op_q (q_move rfl (by decide)) ?_)
    refine list_guard_y rfl rfl rfl rfl (by decide) rfl ?_
    refine id (op_q (q_eq rfl rfl (by decide)) ?_)
    refine list_cons rfl (op_q (q_pick rfl rfl (by decide)) ?_)
    refine list_cons rfl (op_q (q_assign rfl (by decide)) ?_)
    refine list_nil ?_
    refine hK2 _ ?_; clear hK2 K2
    refine codeT.imp (σ' := [(0, _), (1, _), (4, _)]) ?_ (imp_covers ⟨rfl, rfl, rfl, trivial⟩)
    refine code_ret ?_
    refine ends_ret (cs := []) rfl rfl rfl rfl trivial ?_
    first
      | (rw [decide_eq_true (show b = -1 ∨ a = b from .inl (by assumption))]; done)
      | (congr 3; exact decide_eq_decide.mpr ⟨fun k => .inr k, fun k => k.resolve_left (by assumption)⟩)
  simp only [Bool.false_eq_true, if_true, if_false, Decidable.not_not] at h1
  refine list_guard_n rfl rfl rfl rfl (by decide) rfl ?_
  refine list_guard_n rfl rfl rfl rfl (by decide) rfl ?_
  refine list_cons rfl (op_q (q_pick rfl rfl (by decide)) ?_)
  refine list_cons rfl (op_q (q_assign rfl (by decide)) ?_)
  refine list_nil ?_
  refine hK2 _ ?_; clear hK2 K2
  refine code_ret ?_
  refine ends_ret (cs := []) rfl rfl rfl rfl trivial ?_
  first
    | (rw [decide_eq_true (show b = -1 ∨ a = b from .inl (by assumption))]; done)
    | (congr 3; exact decide_eq_decide.mpr ⟨fun k => .inr k, fun k => k.resolve_left (by assumption)⟩)

set_option maxRecDepth 4000 in
theorem equalF_c (l m : List Int) (f : FuncId) (p : Int → Int → Prop) [∀ a b, Decidable (p a b)] (hl : l.length ≤ 4611686018427387904) (hm : m.length ≤ 4611686018427387904) (hf : ∀ a b, PCalls Tryd.prog f [.int .i64 a, .int .i64 b] (· = [.val (.bool (decide (p a b)))])) : PCalls Tryd.prog 136 [.sl l.length (l.map (.int .i64)), .sl m.length (m.map (.int .i64)), .clo f []] (· = [.val (.bool (decide (l.length = m.length ∧ ∀ j, j < l.length → p (l.getD j 0) (m.getD j 0))))]) := by
  refine pcalls_of_code (n := 32) az Tryd.func136 (by kernel_rfl) rfl rfl (Nat.le_of_ble_eq_true rfl) (by intro t u h; simp [Tryd.f136] at h) ?_
  refine code_seq (fun K1 hK1 => ?_)
  refine code_region ?_
  refine list_cons rfl (op_q (q_assign rfl (by decide)) ?_)
  refine list_nil ?_
  refine hK1 _ ?_; clear hK1 K1
  refine code_seq (fun K2 hK2 => ?_)
  refine code_seq (fun K3 hK3 => ?_)
  refine code_region ?_
  refine list_cons rfl (op_q (q_move rfl (by decide)) ?_)
  refine list_cons rfl (op_q (q_len_sl Tryd.underlying35 rfl rfl (by decide)) ?_)
  refine list_cons rfl (op_q (q_move rfl (by decide)) ?_)
  refine list_cons rfl (op_q (q_len_sl Tryd.underlying35 rfl rfl (by decide)) ?_)
  refine list_cons rfl (op_q (q_ne rfl rfl (by decide)) ?_)
  refine list_nil ?_
  refine hK3 _ ?_; clear hK3 K3
  refine code_cond_d rfl (fun h1 => ?_) (fun h1 => ?_)
  · skip
    (try simp only [Decidable.not_not] at h1)
    refine code_seq (fun K4 hK4 => ?_)
    refine code_region ?_
    refine list_cons rfl (op_q (q_assign rfl (by decide)) ?_)
    refine list_nil ?_
    refine hK4 _ ?_; clear hK4 K4
    refine code_ret ?_
    refine then_r ?_; clear hK2 K2
    refine ends_ret (cs := []) rfl rfl rfl rfl trivial ?_
    first
      | (rw [decide_eq_false (fun k => absurd k.1 (by omega))]; done)
      | (rw [decide_eq_false (fun k => absurd (k.2 t17.toNat (by omega)) h1)]; done)
      | (rw [decide_eq_true (show l.length = m.length ∧ ∀ j, j < l.length → p (l.getD j 0) (m.getD j 0) from ⟨i0, fun j hj => i3 j (by omega)⟩)]; done)
  (try simp only [Decidable.not_not] at h1)
  refine code_skip ?_
  refine hK2 _ ?_; clear hK2 K2
  refine code_seq (fun K5 hK5 => ?_)
  refine code_seq (fun K6 hK6 => ?_)
  refine code_region ?_
  refine list_cons rfl (op_q (q_move rfl (by decide)) ?_)
  refine list_cons rfl (op_q (q_len_sl Tryd.underlying35 rfl rfl (by decide)) ?_)
  refine list_cons rfl (op_q (q_move rfl (by decide)) ?_)
  refine list_nil ?_
  refine hK6 _ ?_; clear hK6 K6
  refine code_block ?_
  refine code_loop (X := Bool × Int) (fun x => [(0, .par 0 (.sl l.length (l.map (.int .i64)))), (1, .par 1 (.sl m.length (m.map (.int .i64)))), (2, .val (.clo f [])), (6, .val (.bool x.1)), (15, .par 0 (.sl l.length (l.map (.int .i64)))), (16, .val (.int .i64 l.length)), (17, .val (.int .i64 x.2))]) (fun x => l.length = m.length ∧ 0 ≤ x.2 ∧ x.2 ≤ l.length ∧ ∀ j, j < x.2.toNat → p (l.getD j 0) (m.getD j 0)) (fun x => (l.length - x.2).toNat) (_, _) (imp_covers ⟨rfl, rfl, rfl, rfl, rfl, rfl, rfl, trivial⟩) ?_ ?_
  · (try dsimp only)
    exact ⟨by omega, by omega, by omega, fun j hj => by simp at hj⟩
  · intro x hI
    obtain ⟨t6, t17⟩ := x
    replace hI : l.length = m.length ∧ 0 ≤ t17 ∧ t17 ≤ l.length ∧ ∀ j, j < t17.toNat → p (l.getD j 0) (m.getD j 0) := hI
    show codeT _ _ _ [(0, .par 0 (.sl l.length (l.map (.int .i64)))), (1, .par 1 (.sl m.length (m.map (.int .i64)))), (2, .val (.clo f [])), (6, .val (.bool t6)), (15, .par 0 (.sl l.length (l.map (.int .i64)))), (16, .val (.int .i64 l.length)), (17, .val (.int .i64 t17))] _
    obtain ⟨i0, i1, i2, i3⟩ := hI
    refine code_seq (fun K7 hK7 => ?_)
    refine code_region ?_
    refine list_cons rfl (op_q (q_lt rfl rfl (by decide)) ?_)
    refine list_nil ?_
    refine hK7 _ ?_; clear hK7 K7
    refine code_seq (fun K8 hK8 => ?_)
    refine code_cond_d rfl (fun h2 => ?_) (fun h2 => ?_)
    · skip
      (try simp only [Decidable.not_not] at h2)
      refine code_skip ?_
      refine hK8 _ ?_; clear hK8 K8
      refine code_seq (fun K9 hK9 => ?_)
      refine code_block ?_
      refine code_seq (fun K10 hK10 => ?_)
      refine code_region ?_
      refine list_cons rfl (op_q (q_move rfl (by decide)) ?_)
      refine list_cons rfl (op_q (q_indexAddr_rd sl_35 rfl (.inl ⟨_, rfl, rfl⟩) rfl (by omega) (by omega) (by decide)) ?_)
      refine list_cons rfl (op_q (q_load_rd one_3 rfl (.inl ⟨_, (by first | rfl | exact congrArg (SV.rpar _) (drop_map1 _ 0 _ (by first | omega | (simp; omega)))), rfl⟩) (by decide)) ?_)
      refine list_cons rfl (op_q (q_assign rfl (by decide)) ?_)
      refine list_cons rfl (op_q (q_assign rfl (by decide)) ?_)
      refine list_nil ?_
      refine hK10 _ ?_; clear hK10 K10
      refine code_seq (fun K11 hK11 => ?_)
      refine code_region ?_
      refine list_cons rfl (op_q (q_move rfl (by decide)) ?_)
      refine list_cons rfl (op_q (q_move rfl (by decide)) ?_)
      refine list_cons rfl (op_q (q_indexAddr_rd sl_35 rfl (.inl ⟨_, rfl, rfl⟩) rfl (by omega) (by omega) (by decide)) ?_)
      refine list_cons rfl (op_q (q_load_rd one_3 rfl (.inl ⟨_, (by first | rfl | exact congrArg (SV.rpar _) (drop_map1 _ 0 _ (by first | omega | (simp; omega)))), rfl⟩) (by decide)) ?_)
      refine list_cons rfl (op_q (q_assign rfl (by decide)) ?_)
      refine list_nil ?_
      refine hK11 _ ?_; clear hK11 K11
      refine codeT.imp (σ' := [(0, _), (1, _), (2, _), (6, _), (7, _), (8, _), (9, _), (15, _), (16, _), (17, _)]) ?_ (imp_covers ⟨rfl, rfl, rfl, rfl, rfl, rfl, rfl, rfl, rfl, rfl, trivial⟩)
      refine code_seq (fun K12 hK12 => ?_)
      refine code_region ?_
      refine list_cons rfl (op_q (q_move rfl (by decide)) ?_)
      refine list_cons rfl (op_q (q_move rfl (by decide)) ?_)
      refine list_cons rfl (op_q (q_move rfl (by decide)) ?_)
      refine list_cons rfl (op_callV _ rfl rfl rfl rfl (pcV (hf _ _)) (by decide) ?_)
      rintro _ rfl
      refine list_cons rfl (op_q (by first | exact q_notd rfl (by decide) | exact q_not rfl (by decide)) ?_)
      refine list_nil ?_
      refine hK12 _ ?_; clear hK12 K12
      refine codeT.imp (σ' := [(0, _), (1, _), (2, _), (6, _), (7, _), (8, _), (9, _), (15, _), (16, _), (17, _), (30, _)]) ?_ (imp_covers ⟨rfl, rfl, rfl, rfl, rfl, rfl, rfl, rfl, rfl, rfl, rfl, trivial⟩)
      refine code_cond_d rfl (fun h3 => ?_) (fun h3 => ?_)
      · skip
        (try simp only [Decidable.not_not] at h3)
        refine code_seq (fun K13 hK13 => ?_)
        refine code_region ?_
        refine list_cons rfl (op_q (q_assign rfl (by decide)) ?_)
        refine list_nil ?_
        refine hK13 _ ?_; clear hK13 K13
        refine code_ret ?_
        refine blk_r ?_
        refine then_r ?_; clear hK9 K9
        refine then_r ?_
        refine blk_r ?_
        refine then_r ?_; clear hK5 K5
        refine ends_ret (cs := []) rfl rfl rfl rfl trivial ?_
        first
          | (rw [decide_eq_false (fun k => absurd k.1 (by omega))]; done)
          | (rw [decide_eq_false (fun k => absurd (k.2 t17.toNat (by omega)) h3)]; done)
          | (rw [decide_eq_true (show l.length = m.length ∧ ∀ j, j < l.length → p (l.getD j 0) (m.getD j 0) from ⟨i0, fun j hj => i3 j (by omega)⟩)]; done)
      (try simp only [Decidable.not_not] at h3)
      refine code_skip ?_
      refine blk_n ?_
      refine hK9 _ ?_; clear hK9 K9
      refine code_region ?_
      refine list_cons rfl (op_q (by first | exact q_addI rfl rfl (by decide) (by omega) (by omega) | exact q_ib rfl rfl rfl (by decide)) ?_)
      refine list_cons rfl (op_q (q_move rfl (by decide)) ?_)
      refine list_nil ?_
      refine then_n ⟨(_, _), imp_covers ⟨rfl, rfl, rfl, rfl, rfl, rfl, rfl, trivial⟩, ?_, ?_⟩
      · (try dsimp only)
        refine ⟨i0, by omega, by omega, fun j hj => ?_⟩
        by_cases e : j = t17.toNat
        · subst e; exact h3
        · exact i3 j (by omega)
      · (try dsimp only); omega
    (try simp only [Decidable.not_not] at h2)
    refine code_exit ?_
    refine then_x ?_; clear hK8 K8
    refine then_x ?_
    refine blk_hit ?_
    refine hK5 _ ?_; clear hK5 K5
    refine code_seq (fun K14 hK14 => ?_)
    refine code_region ?_
    refine list_cons rfl (op_q (q_assign rfl (by decide)) ?_)
    refine list_nil ?_
    refine hK14 _ ?_; clear hK14 K14
    refine code_ret ?_
    refine ends_ret (cs := []) rfl rfl rfl rfl trivial ?_
    first
      | (rw [decide_eq_false (fun k => absurd k.1 (by omega))]; done)
      | (rw [decide_eq_false (fun k => absurd (k.2 t17.toNat (by omega)) h2)]; done)
      | (rw [decide_eq_true (show l.length = m.length ∧ ∀ j, j < l.length → p (l.getD j 0) (m.getD j 0) from ⟨i0, fun j hj => i3 j (by omega)⟩)]; done)

/-- The row of a time is like a row. -/
def tlQ (l : List Int) (t : Int) : Prop := (rowT t).length = l.length ∧ ∀ j, j < (rowT t).length → l.getD j 0 = -1 ∨ (rowT t).getD j 0 = l.getD j 0
instance (l : List Int) (t : Int) : Decidable (tlQ l t) := by unfold tlQ; infer_instance

set_option maxRecDepth 4000 in
theorem timesLike1_c (l : List Int) (t : Int) (hl : l.length ≤ 4611686018427387904) (hT : TmP t) : PCalls Tryd.prog 135 [.int .i64 t, .ptr [.sl l.length (l.map (.int .i64))]] (· = [.val (.bool (decide (tlQ l t)))]) := by
  refine pcalls_of_code (n := 17) az Tryd.func135 (by kernel_rfl) rfl rfl (Nat.le_of_ble_eq_true rfl) (by intro t u h; simp [Tryd.f135] at h) ?_
  refine codeT.imp ?_ (imp_rpar (s := 1) (i := 1) rfl)
  refine code_seq (fun K1 hK1 => ?_)
  refine code_region ?_
  refine list_cons rfl (op_q (q_assign rfl (by decide)) ?_)
  refine list_nil ?_
  refine hK1 _ ?_; clear hK1 K1
  refine code_seq (fun K2 hK2 => ?_)
  refine code_region ?_
  refine list_cons rfl (op_q (q_move rfl (by decide)) ?_)
  refine list_cons rfl (op_call _ (impl_ClockRow t) rfl rfl (by decide) (by decide) (by decide) rfl ?_)
  rintro _ rfl; simp only [if_pos hT, decide_eq_true hT]
  refine list_cons rfl (op_q (q_move rfl (by decide)) ?_)
  refine list_cons rfl (op_q (q_extract rfl rfl (by decide)) ?_)
  refine list_cons rfl (op_q (q_extract rfl rfl (by decide)) ?_)
  refine list_cons rfl (op_q (q_assign rfl (by decide)) ?_)
  refine list_cons rfl (op_q (q_assign rfl (by decide)) ?_)
  refine list_nil ?_
  refine hK2 _ ?_; clear hK2 K2
  refine codeT.imp (σ' := [(0, _), (1, _), (3, _), (4, _), (5, _)]) ?_ (imp_covers ⟨rfl, rfl, rfl, rfl, rfl, trivial⟩)
  refine code_seq (fun K3 hK3 => ?_)
  refine code_region ?_
  refine list_cons rfl (op_q (q_move rfl (by decide)) ?_)
  refine list_cons rfl (op_q (q_move rfl (by decide)) ?_)
  refine list_guard_y rfl rfl rfl rfl (by decide) rfl ?_
  refine id (op_q (q_move rfl (by decide)) ?_)
  refine list_guard_y rfl rfl rfl rfl (by decide) rfl ?_
  refine id (op_q (q_load_rd one_35 rfl (.inl ⟨_, (by first | rfl | exact congrArg (SV.rpar _) (drop_map1 _ [] _ (by first | omega | (simp; omega)))), rfl⟩) (by decide)) ?_)
  refine list_guard_y rfl rfl rfl rfl (by decide) rfl ?_
  refine id (op_call _ (equalF_c (rowT t) l 137 (fun a b => b = -1 ∨ a = b) (by rw [rowT_len]; decide) hl (fun a b => timesLike11_c a b)) rfl rfl (by decide) (by decide) (by decide) rfl ?_)
  rintro _ rfl
  refine list_cons rfl (op_q (q_pick rfl rfl (by decide)) ?_)
  refine list_cons rfl (op_q (q_assign rfl (by decide)) ?_)
  refine list_nil ?_
  refine hK3 _ ?_; clear hK3 K3
  refine codeT.imp (σ' := [(0, _), (1, _), (3, _), (4, _), (5, _)]) ?_ (imp_covers ⟨rfl, rfl, rfl, rfl, rfl, trivial⟩)
  refine code_ret ?_
  refine ends_ret (cs := []) rfl rfl rfl rfl trivial ?_
  first | rfl

set_option maxRecDepth 8000 in
set_option maxHeartbeats 2000000 in
theorem impl_TimesLike (l : List Int) (hl : l.length ≤ 4611686018427387904) : MCalls Tryd.prog 70 true none [.sl l.length (l.map (.int .i64))] (fun rs _ => rs = [.own 0 3 1 (if LikP l then selK (tlP l) 1440 else []).length ((if LikP l then selK (tlP l) 1440 else []).map (.int .i64)), .val (.bool (decide (LikP l)))]) := by
  refine mcalls_of_code (n := 10) az Tryd.func70 (by kernel_rfl) rfl rfl (Nat.le_of_ble_eq_true rfl) (by intro t u h; simp [Tryd.f70] at h) ?_
  refine code_seq (fun K1 hK1 => ?_)
  refine code_region ?_
  refine list_cons rfl (op_box rfl (.inr rfl) (by decide) (by decide) rfl ?_)
  refine list_cons rfl (op_q (q_assign rfl (by decide)) ?_)
  refine list_cons rfl (op_q (q_assign rfl (by decide)) ?_)
  refine list_nil ?_
  refine hK1 _ ?_; clear hK1 K1
  refine code_seq (fun K2 hK2 => ?_)
  refine code_seq (fun K3 hK3 => ?_)
  refine code_region ?_
  refine list_cons rfl (op_q (q_load_boxD one_35 rfl (by decide)) ?_)
  refine list_cons rfl (op_call _ (impl_isPattern l hl) rfl rfl (by decide) (by decide) (by decide) rfl ?_)
  rintro _ rfl
  refine list_cons rfl (op_q (by first | exact q_notd rfl (by decide) | exact q_not rfl (by decide)) ?_)
  refine list_nil ?_
  refine hK3 _ ?_; clear hK3 K3
  refine codeT.imp (σ' := [(0, _), (1, _), (2, _), (3, _), (6, _)]) ?_ (imp_covers ⟨rfl, rfl, rfl, rfl, rfl, trivial⟩)
  refine code_cond_d rfl (fun h1 => ?_) (fun h1 => ?_)
  · skip
    (try simp only [Decidable.not_not] at h1)
    refine code_seq (fun K4 hK4 => ?_)
    refine code_region ?_
    refine list_cons rfl (op_buildSlice sl_35 (parts := []) rfl rfl rfl (by decide) (by decide) (by decide) rfl ?_)
    refine list_cons rfl (op_q (q_assign rfl (by decide)) ?_)
    refine list_cons rfl (op_q (q_assign rfl (by decide)) ?_)
    refine list_nil ?_
    refine hK4 _ ?_; clear hK4 K4
    refine code_ret ?_
    refine then_r ?_; clear hK2 K2
    refine ends_ret (cs := []) rfl rfl rfl rfl trivial ?_
    first
      | (have e : ¬ LikP l := by assumption
         simp only [if_neg e, decide_eq_false e]; rfl)
      | (have e : LikP l := by assumption
         have el := e.1
         rw [selF_K (tlP l) (tlQ l) 1440 (Nat.le_refl _) (fun j hj => ⟨fun k => ⟨by rw [rowT_len]; omega, fun i hi => (k i (by rw [rowT_len] at hi; exact hi)).imp id Eq.symm⟩, fun k i hi => (k.2 i (by rw [rowT_len]; exact hi)).imp id Eq.symm⟩)]
         simp only [if_pos e, decide_eq_true e]; done)
  (try simp only [Decidable.not_not] at h1)
  refine code_skip ?_
  refine hK2 _ ?_; clear hK2 K2
  refine code_seq (fun K5 hK5 => ?_)
  refine code_region ?_
  refine list_cons rfl (op_makeFuncB (xs := [.tmp 1]) rfl rfl rfl (by decide) (by decide) rfl ?_)
  refine list_cons rfl (op_callM (timesThat_B 135 [.sl l.length (l.map (.int .i64))] [] (tlQ l) (fun t h => timesLike1_c l t hl h)) (.tmp 0) 0 [] [.tmp 8] _ rfl rfl (by intro y hy; cases hy) (by decide) (by decide) (by decide) rfl (by intro h; cases h) ?_)
  rintro _ _ rfl
  refine list_cons rfl (op_q (q_assign rfl (by decide)) ?_)
  refine list_cons rfl (op_q (q_assign rfl (by decide)) ?_)
  refine list_nil ?_
  refine hK5 _ ?_; clear hK5 K5
  refine codeT.imp (σ' := [(0, _), (1, _), (2, _), (3, _)]) ?_ (imp_covers ⟨rfl, rfl, rfl, rfl, trivial⟩)
  refine code_ret ?_
  refine ends_ret (cs := []) rfl rfl rfl rfl trivial ?_
  first
    | (have e : ¬ LikP l := by assumption
       simp only [if_neg e, decide_eq_false e]; rfl)
    | (have e : LikP l := by assumption
       have el := e.1
       rw [selF_K (tlP l) (tlQ l) 1440 (Nat.le_refl _) (fun j hj => ⟨fun k => ⟨by rw [rowT_len]; omega, fun i hi => (k i (by rw [rowT_len] at hi; exact hi)).imp id Eq.symm⟩, fun k i hi => (k.2 i (by rw [rowT_len]; exact hi)).imp id Eq.symm⟩)]
       simp only [if_pos e, decide_eq_true e]; done)

end Go.Proofs.YtdlckhdalbagmaaDoor
