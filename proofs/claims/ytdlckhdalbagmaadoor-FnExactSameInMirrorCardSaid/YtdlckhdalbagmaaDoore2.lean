/- Contracts of functions, walked over the pure layer; each says for which arguments. -/
import Derived.Test.YtdlckhdalbagmaaDoore2Ty
import Derived.Test.YtdlckhdalbagmaaDoorTf
import Derived.Test.YtdlckhdalbagmaaDoore1
import Derived.Test.YtdlckhdalbagmaaDoorShelf
namespace Go.Proofs.YtdlckhdalbagmaaDoor
open Go.RowKit e2Ty
set_option linter.unusedVariables false
set_option linter.unusedSimpArgs false

def abcG : List UInt8 := [97, 98, 99, 100, 101, 102, 103]
def ixR (r : Int) : Int := if 97 ≤ r ∧ r ≤ 103 then r - 97 else -1
set_option maxRecDepth 100000 in
theorem ix_ascii (r : Int) (h0 : 0 ≤ r) (h1 : r < 128) : Lib.indexByte abcG r.toNat.toUInt8 = ixR r := by
  have k : below 128 (fun n => intEq (Lib.indexByte abcG n.toUInt8) (ixR (n : Int))) = true := by kernel_rfl
  have := below_ok k r.toNat (by omega)
  rw [intEq_eq, beq_iff_eq] at this
  rwa [Int.toNat_of_nonneg h0] at this
theorem ix_none (c : UInt8) (h : 128 ≤ c.toNat) (l : List UInt8) (hl : ∀ b ∈ l, b.toNat < 128) : Lib.indexByte l c = -1 := by
  induction l with
  | nil => rfl
  | cons b l ih =>
    have hb := hl b (by simp)
    have hne : (b == c) = false := by
      rw [beq_eq_false_iff_ne]; intro e; subst e; omega
    unfold Lib.indexByte
    rw [ih (fun x hx => hl x (by simp [hx])), hne]; rfl
theorem abcG_lt : ∀ b ∈ abcG, b.toNat < 128 := by decide


theorem indexByte_c (s : List UInt8) (b : UInt8) : PCalls Tryd.prog 173 [.str s, .int .u8 b.toNat] (· = [.val (.int .i64 (Lib.indexByte s b))]) := by
  refine pcalls_flat (enters_of Tryd.func173 (by kernel_rfl) rfl) fun w vs ha => ?_
  obtain ⟨v0, r0, rfl, ha0, ha⟩ := repArgs_cons ha
  obtain ⟨v1, r1, rfl, ha1, ha⟩ := repArgs_cons ha
  obtain rfl := repArgs_nil ha
  simp only [Rep] at ha0 ha1
  subst ha0; subst ha1
  refine (Tryd.strings_IndexByte (.mk s.toArray) b.toNat w).mono fun e w' ⟨he, hw⟩ => ⟨[.int .i64 (Lib.indexByte s b)], [.int .i64 (Lib.indexByte s b)], ?_, hw ▸ Below.refl _ _, ⟨_, _, rfl, by simp [Rep], rfl⟩, rfl⟩
  rw [he]; simp [packV]
theorem indexRune_ascii (r : Int) (h0 : 0 ≤ r) (h1 : r < 128) : PCalls Tryd.prog 166 [.str abcG, .int .i32 r] (· = [.val (.int .i64 (ixR r))]) := by
  refine pcalls_flat (enters_of Tryd.func166 (by kernel_rfl) rfl) fun w vs ha => ?_
  obtain ⟨v0, r0, rfl, ha0, ha⟩ := repArgs_cons ha
  obtain ⟨v1, r1, rfl, ha1, ha⟩ := repArgs_cons ha
  obtain rfl := repArgs_nil ha
  simp only [Rep] at ha0 ha1
  subst ha0; subst ha1
  refine (Tryd.strings_IndexRune_ascii (.mk abcG.toArray) r w h0 h1).mono fun e w' ⟨he, hw⟩ => ⟨[.int .i64 (ixR r)], [.int .i64 (ixR r)], ?_, hw ▸ Below.refl _ _, ⟨_, _, rfl, by simp [Rep], rfl⟩, rfl⟩
  rw [he, ix_ascii r h0 h1]; rfl

theorem validRune_c (r : Int) : PCalls Tryd.prog 174 [.int .i32 r] (· = [.val (.bool (decide ((0 ≤ r ∧ r < 0xD800) ∨ (0xDFFF < r ∧ r ≤ 0x10FFFF))))]) := by
  refine pcalls_flat (enters_of Tryd.func174 (by kernel_rfl) rfl) fun w vs ha => ?_
  obtain ⟨v0, r0, rfl, ha0, ha⟩ := repArgs_cons ha
  obtain rfl := repArgs_nil ha
  simp only [Rep] at ha0
  subst ha0
  exact (Tryd.utf8_ValidRune r w).mono fun e w' ⟨he, hw⟩ => ⟨[.bool (Lib.validRune r)], [.bool (Lib.validRune r)], he, hw ▸ Below.refl _ _, ⟨_, _, rfl, by simp [Rep], rfl⟩, rfl⟩

set_option maxRecDepth 4000 in
theorem indexRune_hi (r : Int) (h0 : 128 ≤ r) (h1 : r ≤ 1114111) : PCalls Tryd.prog 166 [.str abcG, .int .i32 r] (· = [.val (.int .i64 (-1))]) := by
  refine pcalls_of_code (n := 187) az Tryd.func166 (by kernel_rfl) rfl rfl (Nat.le_of_ble_eq_true rfl) (by intro t u h; simp [Tryd.f166] at h) ?_
  have hal : abcG.length = 7 := rfl
  have hab : ∀ j, j < abcG.length → (abcG.getD j 0).toNat < 128 := by decide
  have he := encode_hi h0
  have hel := he.1
  have hel2 := he.2.1
  refine code_seq (fun K1 hK1 => ?_)
  refine code_region ?_
  refine list_cons rfl (op_q (q_assign rfl (by decide)) ?_)
  refine list_nil ?_
  refine hK1 _ ?_; clear hK1 K1
  refine code_block ?_
  refine code_seq (fun K2 hK2 => ?_)
  refine code_region ?_
  refine list_cons rfl (op_q (q_move rfl (by decide)) ?_)
  refine list_cons rfl (op_q (q_le rfl rfl (by decide)) ?_)
  refine list_cons rfl (op_q (q_move rfl (by decide)) ?_)
  refine list_guard_d rfl rfl rfl rfl (by decide) rfl (by decide) (fun h1 => ?_) (fun h1 => ?_)
  · simp only [Bool.false_eq_true, if_true, if_false, Decidable.not_not] at h1
    refine id (op_q (q_move rfl (by decide)) ?_)
    refine list_guard_y rfl rfl rfl rfl (by decide) rfl ?_
    refine id (op_q (q_lt rfl rfl (by decide)) ?_)
    refine list_cons rfl (op_q (q_pick rfl rfl (by decide)) ?_)
    refine list_cons rfl (op_q (q_assign rfl (by decide)) ?_)
    refine list_nil ?_
    refine hK2 _ ?_; clear hK2 K2
    refine code_cond_d rfl (fun h2 => ?_) (fun h2 => ?_)
    · skip
      (try simp only [Decidable.not_not] at h2)
      exfalso
      omega
    (try simp only [Decidable.not_not] at h2)
    refine code_seq (fun K3 hK3 => ?_)
    refine code_region ?_
    refine list_cons rfl (op_q (q_move rfl (by decide)) ?_)
    refine list_cons rfl (op_q (q_eq rfl rfl (by decide)) ?_)
    refine list_cons rfl (op_q (q_assign rfl (by decide)) ?_)
    refine list_nil ?_
    refine hK3 _ ?_; clear hK3 K3
    refine codeT.imp (σ' := [(0, _), (1, _), (4, _), (171, _)]) ?_ (imp_covers ⟨rfl, rfl, rfl, rfl, trivial⟩)
    refine code_cond_d rfl (fun h3 => ?_) (fun h3 => ?_)
    · skip
      (try simp only [Decidable.not_not] at h3)
      refine code_seq (fun K4 hK4 => ?_)
      refine code_seq (fun K5 hK5 => ?_)
      refine code_region ?_
      refine list_cons rfl (op_q (q_move rfl (by decide)) ?_)
      refine list_cons rfl (op_range_str Tryd.underlying9 rfl (by decide) (by decide) rfl ?_)
      refine list_nil ?_
      refine hK5 _ ?_; clear hK5 K5
      refine code_block ?_
      refine code_loop (X := Int × Nat) (fun x => [(0, .val (.str abcG)), (1, .val (.int .i32 r)), (4, .val (.int .i64 x.1)), (175, .sit 175 (abcG) x.2)]) (fun x => x.2 ≤ 7) (fun x => 7 - x.2) (_, _) (imp_covers ⟨rfl, rfl, rfl, rfl, trivial⟩) ?_ ?_
      · (try dsimp only)
        omega
      · intro x hI
        obtain ⟨t4, t175_i⟩ := x
        replace hI : t175_i ≤ 7 := hI
        show codeT _ _ _ [(0, .val (.str abcG)), (1, .val (.int .i32 r)), (4, .val (.int .i64 t4)), (175, .sit 175 (abcG) t175_i)] _
        refine code_seq (fun K6 hK6 => ?_)
        refine code_region ?_
        refine list_cons rfl (op_nextA (h := 175) hab rfl rfl (by decide) (fun h4 => ?_) (fun h4 => ?_))
        · skip
          refine list_cons rfl (op_q (q_extract rfl rfl (by decide)) ?_)
          refine list_nil ?_
          refine hK6 _ ?_; clear hK6 K6
          refine code_seq (fun K7 hK7 => ?_)
          refine code_cond_f rfl ?_
          refine code_exit ?_
          refine then_x ?_; clear hK7 K7
          refine then_x ?_
          refine blk_hit ?_
          refine hK4 _ ?_; clear hK4 K4
          refine code_seq (fun K8 hK8 => ?_)
          refine code_region ?_
          refine list_cons rfl (op_q (q_assign rfl (by decide)) ?_)
          refine list_nil ?_
          refine hK8 _ ?_; clear hK8 K8
          refine code_ret ?_
          refine blk_r ?_
          refine ends_ret (cs := []) rfl rfl rfl rfl trivial ?_
          rfl
        · skip
          refine list_cons rfl (op_q (q_extract rfl rfl (by decide)) ?_)
          refine list_nil ?_
          refine hK6 _ ?_; clear hK6 K6
          refine code_seq (fun K9 hK9 => ?_)
          refine code_cond_t rfl ?_
          refine code_skip ?_
          refine hK9 _ ?_; clear hK9 K9
          refine code_block ?_
          refine code_seq (fun K10 hK10 => ?_)
          refine code_region ?_
          refine list_cons rfl (op_q (q_extract rfl rfl (by decide)) ?_)
          refine list_cons rfl (op_q (q_extract rfl rfl (by decide)) ?_)
          refine list_cons rfl (op_q (q_assign rfl (by decide)) ?_)
          refine list_cons rfl (op_q (q_assign rfl (by decide)) ?_)
          refine list_nil ?_
          refine hK10 _ ?_; clear hK10 K10
          refine code_seq (fun K11 hK11 => ?_)
          refine code_region ?_
          refine list_cons rfl (op_q (q_move rfl (by decide)) ?_)
          refine list_cons rfl (op_q (q_eq rfl rfl (by decide)) ?_)
          refine list_nil ?_
          refine hK11 _ ?_; clear hK11 K11
          refine code_cond_d rfl (fun h5 => ?_) (fun h5 => ?_)
          · skip
            (try simp only [Decidable.not_not] at h5)
            exfalso
            have := hab t175_i (by omega); omega
          (try simp only [Decidable.not_not] at h5)
          refine code_skip ?_
          refine blk_n ?_
          refine then_n ⟨(_, _), imp_covers ⟨rfl, rfl, rfl, rfl, trivial⟩, ?_, ?_⟩
          · (try dsimp only)
            omega
          · omega
    (try simp only [Decidable.not_not] at h3)
    refine code_seq (fun K12 hK12 => ?_)
    refine code_region ?_
    refine list_cons rfl (op_q (q_move rfl (by decide)) ?_)
    refine list_cons rfl (op_call _ (validRune_c _) rfl rfl (by decide) (by decide) (by decide) rfl ?_)
    rintro _ rfl
    refine list_cons rfl (op_q (by first | exact q_notd rfl (by decide) | exact q_not rfl (by decide)) ?_)
    refine list_cons rfl (op_q (q_assign rfl (by decide)) ?_)
    refine list_nil ?_
    refine hK12 _ ?_; clear hK12 K12
    refine codeT.imp (σ' := [(0, _), (1, _), (4, _), (183, _)]) ?_ (imp_covers ⟨rfl, rfl, rfl, rfl, trivial⟩)
    refine code_cond_d rfl (fun h6 => ?_) (fun h6 => ?_)
    · skip
      (try simp only [Decidable.not_not] at h6)
      refine code_seq (fun K13 hK13 => ?_)
      refine code_region ?_
      refine list_cons rfl (op_q (q_assign rfl (by decide)) ?_)
      refine list_nil ?_
      refine hK13 _ ?_; clear hK13 K13
      refine code_ret ?_
      refine blk_r ?_
      refine ends_ret (cs := []) rfl rfl rfl rfl trivial ?_
      rfl
    (try simp only [Decidable.not_not] at h6)
    refine code_scope ?_
    refine code_seq (fun K14 hK14 => ?_)
    refine code_region ?_
    refine list_cons rfl (op_q (q_move rfl (by decide)) ?_)
    refine list_cons rfl (op_q (q_runestr Tryd.underlying21 Tryd.underlying9 rfl (by decide)) ?_)
    refine list_cons rfl (op_q (q_assign rfl (by decide)) ?_)
    refine list_nil ?_
    refine hK14 _ ?_; clear hK14 K14
    refine code_seq (fun K15 hK15 => ?_)
    refine code_region ?_
    refine list_cons rfl (op_q (q_move rfl (by decide)) ?_)
    refine list_cons rfl (op_q (q_len_str Tryd.underlying9 rfl (by decide)) ?_)
    refine list_cons rfl (op_q (by first | exact q_subI rfl rfl (by decide) (by omega) (by omega) | exact q_ib rfl rfl rfl (by decide)) ?_)
    refine list_cons rfl (op_q (q_assign rfl (by decide)) ?_)
    refine list_nil ?_
    refine hK15 _ ?_; clear hK15 K15
    refine code_seq (fun K16 hK16 => ?_)
    refine code_region ?_
    refine list_cons rfl (op_q (q_move rfl (by decide)) ?_)
    refine list_cons rfl (op_q (q_assign rfl (by decide)) ?_)
    refine list_nil ?_
    refine hK16 _ ?_; clear hK16 K16
    refine codeT.imp (σ' := [(0, _), (1, _), (4, _), (7, _), (8, _), (9, _)]) ?_ (imp_covers ⟨rfl, rfl, rfl, rfl, rfl, rfl, trivial⟩)
    refine code_seq (fun K17 hK17 => ?_)
    refine code_region ?_
    refine list_cons rfl (op_q (q_assign rfl (by decide)) ?_)
    refine list_nil ?_
    refine hK17 _ ?_; clear hK17 K17
    refine code_seq (fun K18 hK18 => ?_)
    refine code_block ?_
    refine code_loop (X := Int × List UInt8 × Int × Int × Int) (fun x => [(0, .val (.str abcG)), (1, .val (.int .i32 r)), (4, .val (.int .i64 x.1)), (7, .val (.str x.2.1)), (8, .val (.int .i64 x.2.2.1)), (9, .val (.int .i64 x.2.2.2.1)), (10, .val (.int .i64 x.2.2.2.2))]) (fun x => x.2.1 = encL r ∧ x.2.2.1 = x.2.1.length - 1 ∧ x.2.2.2.1 = x.2.2.1) (fun x => 0) (_, _, _, _, _) (imp_covers ⟨rfl, rfl, rfl, rfl, rfl, rfl, rfl, trivial⟩) ?_ ?_
    · (try dsimp only)
      exact ⟨rfl, rfl, rfl⟩
    · intro x hI
      obtain ⟨t4, rs, last, i, fails⟩ := x
      replace hI : rs = encL r ∧ last = rs.length - 1 ∧ i = last := hI
      show codeT _ _ _ [(0, .val (.str abcG)), (1, .val (.int .i32 r)), (4, .val (.int .i64 t4)), (7, .val (.str rs)), (8, .val (.int .i64 last)), (9, .val (.int .i64 i)), (10, .val (.int .i64 fails))] _
      obtain ⟨rfl, i2, i3⟩ := hI
      have hlast : 128 ≤ ((encL r).getD last.toNat 0).toNat := by
            have hl : last.toNat < (encL r).length := by omega
            have : (encL r).getD last.toNat 0 = (encL r)[last.toNat] := by simp [hl]
            rw [this]; exact he.2.2 _ (List.getElem_mem hl)
      refine code_seq (fun K19 hK19 => ?_)
      refine code_seq (fun K20 hK20 => ?_)
      refine code_region ?_
      refine list_cons rfl (op_q (q_move rfl (by decide)) ?_)
      refine list_cons rfl (op_q (q_move rfl (by decide)) ?_)
      refine list_cons rfl (op_q (q_len_str Tryd.underlying9 rfl (by decide)) ?_)
      refine list_cons rfl (op_q (q_lt rfl rfl (by decide)) ?_)
      refine list_nil ?_
      refine hK20 _ ?_; clear hK20 K20
      refine code_cond_d rfl (fun h7 => ?_) (fun h7 => ?_)
      · skip
        (try simp only [Decidable.not_not] at h7)
        refine code_skip ?_
        refine hK19 _ ?_; clear hK19 K19
        refine code_block ?_
        refine code_scope ?_
        refine code_seq (fun K21 hK21 => ?_)
        refine code_seq (fun K22 hK22 => ?_)
        refine code_draw (by kernel_rfl) (by kernel_rfl) ?_
        refine draw_q rfl (q_move rfl (by decide)) ?_
        refine draw_q rfl (q_move rfl (by decide)) ?_
        refine draw_q rfl (q_index_str Tryd.underlying9 rfl rfl (by omega) (by omega) (by decide)) ?_
        refine draw_q rfl (q_move rfl (by decide)) ?_
        refine draw_q rfl (q_move rfl (by decide)) ?_
        refine draw_q rfl (q_index_str Tryd.underlying9 rfl rfl (by omega) (by omega) (by decide)) ?_
        refine draw_q rfl (q_ne rfl rfl (by decide)) ?_
        refine draw_nil ?_
        refine hK22 _ ?_; clear hK22 K22
        refine codeT.imp (σ' := [(0, _), (1, _), (4, _), (7, _), (8, _), (9, _), (10, _), (33, _)]) ?_ (imp_covers ⟨rfl, rfl, rfl, rfl, rfl, rfl, rfl, rfl, trivial⟩)
        refine code_cond_d rfl (fun h8 => ?_) (fun h8 => ?_)
        · skip
          (try simp only [Decidable.not_not] at h8)
          refine code_seq (fun K23 hK23 => ?_)
          refine code_draw (by kernel_rfl) (by kernel_rfl) ?_
          refine draw_q rfl (q_move rfl (by decide)) ?_
          refine draw_q rfl (q_move rfl (by decide)) ?_
          refine draw_q rfl (by first | exact q_addI rfl rfl (by decide) (by omega) (by omega) | exact q_ib rfl rfl rfl (by decide)) ?_
          refine draw_q rfl (q_slice_str Tryd.underlying9 rfl ⟨_, rfl⟩ rfl (by omega) (by omega) (by omega) (by decide)) ?_
          refine draw_q rfl (q_move rfl (by decide)) ?_
          refine draw_q rfl (q_move rfl (by decide)) ?_
          refine draw_q rfl (q_index_str Tryd.underlying9 rfl rfl (by omega) (by omega) (by decide)) ?_
          refine draw_call _ (indexByte_c _ _) rfl rfl rfl (by decide) ?_
          refine draw_q rfl (q_assign rfl (by decide)) ?_
          refine draw_nil ?_
          refine hK23 _ ?_; clear hK23 K23
          refine codeT.imp (σ' := [(0, _), (1, _), (4, _), (7, _), (8, _), (9, _), (10, _), (11, _)]) ?_ (imp_covers ⟨rfl, rfl, rfl, rfl, rfl, rfl, rfl, rfl, trivial⟩)
          refine code_seq (fun K24 hK24 => ?_)
          refine code_seq (fun K25 hK25 => ?_)
          refine code_region ?_
          refine list_cons rfl (op_q (q_move rfl (by decide)) ?_)
          refine list_cons rfl (op_q (q_lt rfl rfl (by decide)) ?_)
          refine list_nil ?_
          refine hK25 _ ?_; clear hK25 K25
          refine code_cond_d rfl (fun h9 => ?_) (fun h9 => ?_)
          · skip
            (try simp only [Decidable.not_not] at h9)
            refine code_seq (fun K26 hK26 => ?_)
            refine code_region ?_
            refine list_cons rfl (op_q (q_assign rfl (by decide)) ?_)
            refine list_nil ?_
            refine hK26 _ ?_; clear hK26 K26
            refine code_ret ?_
            refine then_r ?_; clear hK24 K24
            refine then_r ?_; clear hK21 K21
            refine sc_r ?_
            refine blk_r ?_
            refine then_r ?_
            refine blk_r ?_
            refine then_r ?_; clear hK18 K18
            refine sc_r ?_
            refine blk_r ?_
            refine ends_ret (cs := []) rfl rfl rfl rfl trivial ?_
            rfl
          (try simp only [Decidable.not_not] at h9)
          exfalso
          have g3 := ix_none ((encL r).getD last.toNat 0) hlast (((abcG.drop (i + 1).toNat).take (((abcG.length : Nat) : Int).toNat - (i + 1).toNat))) (fun b hb => abcG_lt b (List.mem_of_mem_drop (List.mem_of_mem_take hb)))
          rw [g3] at h9; omega
        (try simp only [Decidable.not_not] at h8)
        exfalso
        have g1 := hab i.toNat (by omega); have g2 := hlast; omega
      (try simp only [Decidable.not_not] at h7)
      refine code_exit ?_
      refine then_x ?_; clear hK19 K19
      refine then_x ?_
      refine blk_hit ?_
      refine hK18 _ ?_; clear hK18 K18
      refine code_seq (fun K27 hK27 => ?_)
      refine code_seq (fun K28 hK28 => ?_)
      refine code_region ?_
      refine list_cons rfl (op_q (q_assign rfl (by decide)) ?_)
      refine list_nil ?_
      refine hK28 _ ?_; clear hK28 K28
      refine code_ret ?_
      refine then_r ?_; clear hK27 K27
      refine sc_r ?_
      refine blk_r ?_
      refine ends_ret (cs := []) rfl rfl rfl rfl trivial ?_
      rfl
  simp only [Bool.false_eq_true, if_true, if_false, Decidable.not_not] at h1
  exfalso
  omega

theorem indexRune_c (r : Int) (h0 : 0 ≤ r) (h1 : r ≤ 1114111) : PCalls Tryd.prog 166 [.str abcG, .int .i32 r] (· = [.val (.int .i64 (ixR r))]) := by
  by_cases h : r < 128
  · exact indexRune_ascii r h0 h
  · rw [show ixR r = -1 by unfold ixR; rw [if_neg (by omega)]]
    exact indexRune_hi r (by omega) h1
theorem ixR_le (r : Int) : -1 ≤ ixR r ∧ ixR r ≤ 6 := by unfold ixR; split <;> omega
def OrdU (s : List UInt8) (i : Nat) : Prop := ∀ j, j < i → 97 ≤ (s.getD j 0).toNat ∧ (s.getD j 0).toNat ≤ 103 ∧ (0 < j → (s.getD (j - 1) 0).toNat < (s.getD j 0).toNat)
theorem p2_mono {a b : Nat} (h : a ≤ b) : p2 a ≤ p2 b := Nat.pow_le_pow_right (by omega) h
theorem orF_top (s : List UInt8) : ∀ i, i < s.length → OrdU s (i + 1) → p2 ((s.getD i 0).toNat - 97) ≤ orF (s.take (i + 1)) ∧ orF (s.take (i + 1)) < p2 ((s.getD i 0).toNat - 97 + 1)
  | 0, h, hu => by
    rw [orF_snoc s h, List.take_zero]
    have e : orF [] ||| 2 ^ ((s.getD 0 0).toNat - 97) = 2 ^ ((s.getD 0 0).toNat - 97) := by show 0 ||| _ = _; simp
    rw [e]
    exact ⟨Nat.le_refl _, Nat.pow_lt_pow_right (by omega) (by omega)⟩
  | i + 1, h, hu => by
    have ih := orF_top s i (by omega) (fun j hj => hu j (by omega))
    have h2 := (hu (i + 1) (by omega)).2.2 (by omega)
    rw [Nat.add_sub_cancel] at h2
    have h3 := (hu i (by omega)).1
    rw [orF_snoc s h]
    refine ⟨Nat.right_le_or, @Nat.or_lt_two_pow _ _ _ ?_ (Nat.pow_lt_pow_right (by omega) (by omega))⟩
    refine Nat.lt_of_lt_of_le ih.2 (Nat.pow_le_pow_right (by omega) (by omega))
theorem sh_zero {a k : Nat} : shN a k = 0 ↔ a < p2 k := by
  unfold shN
  rw [Nat.div_eq_zero_iff]
  have : 0 < p2 k := Nat.pow_pos (by omega)
  omega
theorem pb_at {s : List UInt8} {i : Nat} (h : i < s.length) (hr : 0 ≤ ixR ((runeAt s i).1 : Int)) : (runeAt s i).1 = (s.getD i 0).toNat ∧ (runeAt s i).2 = 1 ∧ 97 ≤ (s.getD i 0).toNat ∧ (s.getD i 0).toNat ≤ 103 ∧ ixR ((runeAt s i).1 : Int) = (((s.getD i 0).toNat - 97 : Nat) : Int) := by
  by_cases ha : (s.getD i 0).toNat < 128
  · have e := runeAt_ascii h ha
    rw [e] at hr ⊢
    simp only [] at hr ⊢
    unfold ixR at hr ⊢
    split at hr
    · rename_i h2; rw [if_pos h2]; exact ⟨by trivial, by trivial, by omega, by omega, by omega⟩
    · omega
  · have := runeAt_hi h (by omega)
    unfold ixR at hr
    rw [if_neg (by omega)] at hr
    omega
theorem pb_ord {s : List UInt8} {i : Nat} (h : i < s.length) (ho : OrdP s) : 0 ≤ ixR ((runeAt s i).1 : Int) := by
  have := ho i h
  rw [runeAt_ascii h (by omega)]
  simp only []
  unfold ixR; rw [if_pos (by omega)]; omega
theorem pb_step {s : List UInt8} {i : Nat} (h : i < s.length) (hu : OrdU s i) (hr : 0 ≤ ixR ((runeAt s i).1 : Int)) (hz : shN (orF (s.take i)) (ixR ((runeAt s i).1 : Int)).toNat = 0) : OrdU s (i + 1) := by
  obtain ⟨_, _, g3, g4, g5⟩ := pb_at h hr
  rw [g5, Int.toNat_natCast, sh_zero] at hz
  intro j hj
  by_cases e : j = i
  · subst e
    refine ⟨g3, g4, fun h0 => ?_⟩
    have h1 := orF_top s (j - 1) (by omega) (fun k hk => hu k (by omega))
    rw [show j - 1 + 1 = j by omega] at h1
    have h2 := (hu (j - 1) (by omega)).1
    have h3 : p2 ((s.getD (j - 1) 0).toNat - 97) < p2 ((s.getD j 0).toNat - 97) := by omega
    have h4 : (s.getD (j - 1) 0).toNat - 97 < (s.getD j 0).toNat - 97 := Nat.lt_of_not_le fun hle => by have := p2_mono hle; omega
    omega
  · exact hu j (by omega)
theorem pb_bad {s : List UInt8} {i : Nat} (h : i < s.length) (hu : OrdU s i) (hr : 0 ≤ ixR ((runeAt s i).1 : Int)) (hz : ¬ shN (orF (s.take i)) (ixR ((runeAt s i).1 : Int)).toNat = 0) : ¬ OrdP s := by
  intro ho
  obtain ⟨_, _, g3, g4, g5⟩ := pb_at h hr
  apply hz
  rw [g5, Int.toNat_natCast, sh_zero]
  by_cases h0 : 0 < i
  · have h1 := orF_top s (i - 1) (by omega) (fun k hk => hu k (by omega))
    rw [show i - 1 + 1 = i by omega] at h1
    have h2 := (ho i h).2.2 h0
    have h3 := (hu (i - 1) (by omega)).1
    exact Nat.lt_of_lt_of_le h1.2 (p2_mono (by omega))
  · rw [show i = 0 by omega, List.take_zero]
    show 0 < _
    exact Nat.pow_pos (by omega)


set_option maxRecDepth 4000 in
theorem impl_IsCell (c : Int) : PCalls Tryd.prog 152 [.int .i64 c] (· = [.val (.bool (decide (0 ≤ c ∧ c ≤ 127)))]) := by
  refine pcalls_of_code (n := 9) az Tryd.func152 (by kernel_rfl) rfl rfl (Nat.le_of_ble_eq_true rfl) (by intro t u h; simp [Tryd.f152] at h) ?_
  refine code_seq (fun K1 hK1 => ?_)
  refine code_region ?_
  refine list_cons rfl (op_q (q_assign rfl (by decide)) ?_)
  refine list_nil ?_
  refine hK1 _ ?_; clear hK1 K1
  refine code_seq (fun K2 hK2 => ?_)
  refine code_region ?_
  refine list_cons rfl (op_q (q_move rfl (by decide)) ?_)
  refine list_cons rfl (op_q (q_ge rfl rfl (by decide)) ?_)
  refine list_cons rfl (op_q (q_move rfl (by decide)) ?_)
  refine list_guard_d rfl rfl rfl rfl (by decide) rfl (by decide) (fun h1 => ?_) (fun h1 => ?_)
  · simp only [Bool.false_eq_true, if_true, if_false, Decidable.not_not] at h1
    refine id (op_q (q_move rfl (by decide)) ?_)
    refine list_guard_y rfl rfl rfl rfl (by decide) rfl ?_
    refine id (op_q (q_lt rfl rfl (by decide)) ?_)
    refine list_cons rfl (op_q (q_pick rfl rfl (by decide)) ?_)
    refine list_cons rfl (op_q (q_assign rfl (by decide)) ?_)
    refine list_nil ?_
    refine hK2 _ ?_; clear hK2 K2
    refine code_ret ?_
    refine ends_ret (cs := []) rfl rfl rfl rfl trivial ?_
    first | (congr 3; exact decide_eq_decide.mpr ⟨fun k => by omega, fun k => by omega⟩) | (rw [decide_eq_false (by omega)])
  simp only [Bool.false_eq_true, if_true, if_false, Decidable.not_not] at h1
  refine list_guard_n rfl rfl rfl rfl (by decide) rfl ?_
  refine list_cons rfl (op_q (q_pick rfl rfl (by decide)) ?_)
  refine list_cons rfl (op_q (q_assign rfl (by decide)) ?_)
  refine list_nil ?_
  refine hK2 _ ?_; clear hK2 K2
  refine code_ret ?_
  refine ends_ret (cs := []) rfl rfl rfl rfl trivial ?_
  first | (congr 3; exact decide_eq_decide.mpr ⟨fun k => by omega, fun k => by omega⟩) | (rw [decide_eq_false (by omega)])

set_option maxRecDepth 4000 in
theorem impl_IsRow (l : List Int) (hl : l.length ≤ 4611686018427387904) : PCalls Tryd.prog 102 [.sl l.length (l.map (.int .i64))] (· = [.val (.bool (decide (RowP l)))]) := by
  refine pcalls_of_code (n := 18) az Tryd.func102 (by kernel_rfl) rfl rfl (Nat.le_of_ble_eq_true rfl) (by intro t u h; simp [Tryd.f102] at h) ?_
  refine code_seq (fun K1 hK1 => ?_)
  refine code_region ?_
  refine list_cons rfl (op_q (q_assign rfl (by decide)) ?_)
  refine list_nil ?_
  refine hK1 _ ?_; clear hK1 K1
  refine code_seq (fun K2 hK2 => ?_)
  refine code_seq (fun K3 hK3 => ?_)
  refine code_region ?_
  refine list_cons rfl (op_q (q_move rfl (by decide)) ?_)
  refine list_cons rfl (op_q (q_len_sl Tryd.underlying35 rfl rfl (by decide)) ?_)
  refine list_cons rfl (op_q (q_gt rfl rfl (by decide)) ?_)
  refine list_nil ?_
  refine hK3 _ ?_; clear hK3 K3
  refine code_cond_d rfl (fun h1 => ?_) (fun h1 => ?_)
  · skip
    (try simp only [Decidable.not_not] at h1)
    refine code_seq (fun K4 hK4 => ?_)
    refine code_region ?_
    refine list_cons rfl (op_q (q_assign rfl (by decide)) ?_)
    refine list_nil ?_
    refine hK4 _ ?_; clear hK4 K4
    refine code_ret ?_
    refine then_r ?_; clear hK2 K2
    refine ends_ret (cs := []) rfl rfl rfl rfl trivial ?_
    rw [decide_eq_false (fun e => by have := e.1; omega)]
  (try simp only [Decidable.not_not] at h1)
  refine code_skip ?_
  refine hK2 _ ?_; clear hK2 K2
  refine code_seq (fun K5 hK5 => ?_)
  refine code_seq (fun K6 hK6 => ?_)
  refine code_region ?_
  refine list_cons rfl (op_q (q_move rfl (by decide)) ?_)
  refine list_cons rfl (op_q (q_len_sl Tryd.underlying35 rfl rfl (by decide)) ?_)
  refine list_cons rfl (op_q (q_move rfl (by decide)) ?_)
  refine list_nil ?_
  refine hK6 _ ?_; clear hK6 K6
  refine code_block ?_
  refine code_loop (X := Bool × Int) (fun x => [(0, .par 0 (.sl l.length (l.map (.int .i64)))), (2, .val (.bool x.1)), (8, .par 0 (.sl l.length (l.map (.int .i64)))), (9, .val (.int .i64 l.length)), (10, .val (.int .i64 x.2))]) (fun x => 0 ≤ x.2 ∧ x.2 ≤ l.length ∧ ∀ j, j < x.2.toNat → 0 ≤ l.getD j 0 ∧ l.getD j 0 ≤ 127) (fun x => l.length - x.2.toNat) (_, _) (imp_covers ⟨rfl, rfl, rfl, rfl, rfl, trivial⟩) ?_ ?_
  · (try dsimp only)
    refine ⟨by omega, by omega, fun j hj => by simp at hj⟩
  · intro x hI
    obtain ⟨t2, t10⟩ := x
    replace hI : 0 ≤ t10 ∧ t10 ≤ l.length ∧ ∀ j, j < t10.toNat → 0 ≤ l.getD j 0 ∧ l.getD j 0 ≤ 127 := hI
    show codeT _ _ _ [(0, .par 0 (.sl l.length (l.map (.int .i64)))), (2, .val (.bool t2)), (8, .par 0 (.sl l.length (l.map (.int .i64)))), (9, .val (.int .i64 l.length)), (10, .val (.int .i64 t10))] _
    obtain ⟨i1, i3, i4⟩ := hI
    refine code_seq (fun K7 hK7 => ?_)
    refine code_region ?_
    refine list_cons rfl (op_q (q_lt rfl rfl (by decide)) ?_)
    refine list_nil ?_
    refine hK7 _ ?_; clear hK7 K7
    refine code_seq (fun K8 hK8 => ?_)
    refine code_cond_d rfl (fun h2 => ?_) (fun h2 => ?_)
    · skip
      (try simp only [Decidable.not_not] at h2)
      refine code_skip ?_
      refine hK8 _ ?_; clear hK8 K8
      refine code_seq (fun K9 hK9 => ?_)
      refine code_block ?_
      refine code_seq (fun K10 hK10 => ?_)
      refine code_region ?_
      refine list_cons rfl (op_q (q_indexAddr_rd sl_35 rfl (.inl ⟨_, rfl, rfl⟩) rfl (by omega) (by omega) (by decide)) ?_)
      refine list_cons rfl (op_q (q_load_rd one_3 rfl (.inl ⟨_, (by first | rfl | exact congrArg (SV.rpar _) (drop_map1 _ 0 _ (by first | omega | (simp; omega)))), rfl⟩) (by decide)) ?_)
      refine list_cons rfl (op_q (q_assign rfl (by decide)) ?_)
      refine list_nil ?_
      refine hK10 _ ?_; clear hK10 K10
      refine code_seq (fun K11 hK11 => ?_)
      refine code_region ?_
      refine list_cons rfl (op_q (q_move rfl (by decide)) ?_)
      refine list_cons rfl (op_call _ (impl_IsCell _) rfl rfl (by decide) (by decide) (by decide) rfl ?_)
      rintro _ rfl
      refine list_cons rfl (op_q (by first | exact q_notd rfl (by decide) | exact q_not rfl (by decide)) ?_)
      refine list_nil ?_
      refine hK11 _ ?_; clear hK11 K11
      refine codeT.imp (σ' := [(0, _), (2, _), (4, _), (8, _), (9, _), (10, _), (16, _)]) ?_ (imp_covers ⟨rfl, rfl, rfl, rfl, rfl, rfl, rfl, trivial⟩)
      refine code_cond_d rfl (fun h3 => ?_) (fun h3 => ?_)
      · skip
        (try simp only [Decidable.not_not] at h3)
        refine code_seq (fun K12 hK12 => ?_)
        refine code_region ?_
        refine list_cons rfl (op_q (q_assign rfl (by decide)) ?_)
        refine list_nil ?_
        refine hK12 _ ?_; clear hK12 K12
        refine code_ret ?_
        refine blk_r ?_
        refine then_r ?_; clear hK9 K9
        refine then_r ?_
        refine blk_r ?_
        refine then_r ?_; clear hK5 K5
        refine ends_ret (cs := []) rfl rfl rfl rfl trivial ?_
        rw [decide_eq_false (fun e => h3 (e.at (by omega)))]
      (try simp only [Decidable.not_not] at h3)
      refine code_skip ?_
      refine blk_n ?_
      refine hK9 _ ?_; clear hK9 K9
      refine code_region ?_
      refine list_cons rfl (op_q (by first | exact q_addI rfl rfl (by decide) (by omega) (by omega) | exact q_ib rfl rfl rfl (by decide)) ?_)
      refine list_cons rfl (op_q (q_move rfl (by decide)) ?_)
      refine list_nil ?_
      refine then_n ⟨(_, _), imp_covers ⟨rfl, rfl, rfl, rfl, rfl, trivial⟩, ?_, ?_⟩
      · (try dsimp only)
        refine ⟨by omega, by omega, fun j hj => ?_⟩
        by_cases e : j = t10.toNat
        · subst e; exact h3
        · exact i4 j (by omega)
      · (try dsimp only); omega
    (try simp only [Decidable.not_not] at h2)
    refine code_exit ?_
    refine then_x ?_; clear hK8 K8
    refine then_x ?_
    refine blk_hit ?_
    refine hK5 _ ?_; clear hK5 K5
    refine code_seq (fun K13 hK13 => ?_)
    refine code_region ?_
    refine list_cons rfl (op_q (q_assign rfl (by decide)) ?_)
    refine list_nil ?_
    refine hK13 _ ?_; clear hK13 K13
    refine code_ret ?_
    refine ends_ret (cs := []) rfl rfl rfl rfl trivial ?_
    rw [decide_eq_true (RowP.of (by omega) fun j hj => i4 j (by omega))]

def PlOk (pl : List UInt8) : Prop := pl.length = 7 ∧ ∀ j, j < pl.length → 97 ≤ (pl.getD j 0).toNat ∧ (pl.getD j 0).toNat ≤ 103
def bitN (n k : Nat) : Bool := Nat.beq (shN n k % 2) 1
def movF (pl : List UInt8) (c : Nat) : Nat → Nat
  | 0 => 0
  | k + 1 => if bitN c ((pl.getD k 0).toNat - 97) then movF pl c k ||| p2 k else movF pl c k
def turnG : List UInt8 := [100, 101, 102, 97, 98, 99, 103]
def mirG : List UInt8 := [97, 102, 101, 100, 99, 98, 103]
theorem turnG_ok : PlOk turnG := ⟨rfl, by decide⟩
theorem mirG_ok : PlOk mirG := ⟨rfl, by decide⟩
theorem movF_lt (pl : List UInt8) (c : Nat) : ∀ k, k ≤ 7 → movF pl c k < 128
  | 0, _ => by simp [movF]
  | k + 1, h => by
    have := movF_lt pl c k (by omega)
    unfold movF
    split
    · have h2 : p2 k < 2 ^ 7 := Nat.pow_lt_pow_right (by omega) (by omega)
      exact @Nat.or_lt_two_pow _ _ 7 (by omega) h2
    · exact this
set_option maxRecDepth 100000 in
theorem mov_turn (c : Nat) (h : c < 128) : movF turnG c 7 = turn7 c := by
  have k : below 128 (fun n => Nat.beq (movF turnG n 7) (turn7 n)) = true := by kernel_rfl
  exact Nat.eq_of_beq_eq_true (below_ok k c h)
set_option maxRecDepth 100000 in
theorem mov_mir (c : Nat) (h : c < 128) : movF mirG c 7 = mir7 c := by
  have k : below 128 (fun n => Nat.beq (movF mirG n 7) (mir7 n)) = true := by kernel_rfl
  exact Nat.eq_of_beq_eq_true (below_ok k c h)
theorem bit_iff (c b : Nat) : ((shN c b &&& 1 : Nat) : Int) = 1 ↔ bitN c b = true := by
  rw [Nat.and_one_is_mod]
  unfold bitN
  constructor
  · intro h; have : shN c b % 2 = 1 := by omega
    rw [this]; rfl
  · intro h; have := Nat.eq_of_beq_eq_true h; omega
def movC (pl : List UInt8) (x : Int) : Int := ((movF pl x.toNat 7 : Nat) : Int)
def movL (pl : List UInt8) (l : List Int) : List Int := l.reverse.map (movC pl)
theorem movC_turn {x : Int} (h : 0 ≤ x ∧ x ≤ 127) : movC turnG x = turnC x := by unfold movC turnC; rw [mov_turn _ (by omega)]
theorem movC_mir {x : Int} (h : 0 ≤ x ∧ x ≤ 127) : movC mirG x = mirC x := by unfold movC mirC; rw [mov_mir _ (by omega)]
theorem movL_turn {l : List Int} (h : RowP l) : movL turnG l = turnL l := by
  unfold movL turnL
  exact List.map_congr_left fun x hx => movC_turn (h.2 x (by simpa using hx))
theorem movL_mir {l : List Int} (h : RowP l) : movL mirG l = mirL l := by
  unfold movL mirL
  exact List.map_congr_left fun x hx => movC_mir (h.2 x (by simpa using hx))
/-- What the loop has of the row moved: the last cells stand, the first ones are zeros. -/
def movZ (pl : List UInt8) (l : List Int) (k : Nat) : List Int := List.replicate (l.length - k) 0 ++ ((l.take k).map (movC pl)).reverse
theorem movZ_set (pl : List UInt8) (l : List Int) {k : Nat} (h : k < l.length) : (movZ pl l k).set (l.length - 1 - k) (movC pl (l.getD k 0)) = movZ pl l (k + 1) := by
  unfold movZ
  rw [List.set_append_left _ _ (by simp; omega), map_take _ 0 _ h, List.reverse_append, show l.length - k = (l.length - (k + 1)) + 1 by omega, List.replicate_succ', List.set_append_right _ _ (by simp; omega)]
  rw [show l.length - 1 - k - (List.replicate (l.length - (k + 1)) (0 : Int)).length = 0 by simp; omega]
  simp
theorem movZ_len (pl : List UInt8) (l : List Int) {k : Nat} (h : k ≤ l.length) : (movZ pl l k).length = l.length := by
  unfold movZ; simp; omega
theorem movZ_put (pl : List UInt8) (l : List Int) {k : Nat} (h : k < l.length) {i : Int} (hi : i = (l.length : Int) - 1 - k) : putAt ((movZ pl l k).map (.int .i64)) (i.toNat * 1) [PV.int .i64 (movC pl (l.getD k 0))] = (movZ pl l (k + 1)).map (.int .i64) := by
  rw [put_map1 (PV.int .i64) _ (by rw [movZ_len pl l (by omega)]; omega), show i.toNat = l.length - 1 - k by omega, movZ_set pl l h]
theorem movZ_end (pl : List UInt8) (l : List Int) : movZ pl l l.length = movL pl l := by
  unfold movZ movL; simp


set_option maxRecDepth 4000 in
theorem impl_hasBar (c b : Int) (hc : 0 ≤ c ∧ c ≤ 127) (hb : 0 ≤ b ∧ b ≤ 62) : PCalls Tryd.prog 146 [.int .i64 c, .int .i64 b] (· = [.val (.bool (decide (bitN c.toNat b.toNat = true)))]) := by
  refine pcalls_of_code (n := 10) az Tryd.func146 (by kernel_rfl) rfl rfl (Nat.le_of_ble_eq_true rfl) (by intro t u h; simp [Tryd.f146] at h) ?_
  have hs := shN_le c.toNat b.toNat
  refine code_seq (fun K1 hK1 => ?_)
  refine code_region ?_
  refine list_cons rfl (op_q (q_assign rfl (by decide)) ?_)
  refine list_nil ?_
  refine hK1 _ ?_; clear hK1 K1
  refine code_seq (fun K2 hK2 => ?_)
  refine code_region ?_
  refine list_cons rfl (op_q (q_move rfl (by decide)) ?_)
  refine list_cons rfl (op_q (q_move rfl (by decide)) ?_)
  refine list_cons rfl (op_q (by first | exact q_shrN rfl rfl (by decide) (by omega) (by omega) (by omega) | exact q_shrI rfl rfl (by decide) (by omega) (by omega) (by omega) | exact q_shr rfl rfl (by omega) (by decide)) ?_)
  refine list_cons rfl (op_q (by first | exact q_andI rfl rfl (by decide) (by omega) (by omega) (by omega) (by omega) | exact q_ib rfl rfl rfl (by decide)) ?_)
  refine list_cons rfl (op_q (q_eq rfl rfl (by decide)) ?_)
  refine list_cons rfl (op_q (q_assign rfl (by decide)) ?_)
  refine list_nil ?_
  refine hK2 _ ?_; clear hK2 K2
  refine code_ret ?_
  refine ends_ret (cs := []) rfl rfl rfl rfl trivial ?_
  congr 3
  exact decide_eq_decide.mpr (bit_iff _ _)

set_option maxRecDepth 4000 in
theorem impl_moveCell (c : Int) (pl : List UInt8) (hp : PlOk pl) : PCalls Tryd.prog 167 [.int .i64 c, .str pl] (· = [.val (.int .i64 (if 0 ≤ c ∧ c ≤ 127 then movC pl c else 0)), .val (.bool (decide (0 ≤ c ∧ c ≤ 127)))]) := by
  refine pcalls_of_code (n := 27) az Tryd.func167 (by kernel_rfl) rfl rfl (Nat.le_of_ble_eq_true rfl) (by intro t u h; simp [Tryd.f167] at h) ?_
  obtain ⟨hpl, hpa⟩ := hp
  refine code_seq (fun K1 hK1 => ?_)
  refine code_region ?_
  refine list_cons rfl (op_q (q_assign rfl (by decide)) ?_)
  refine list_cons rfl (op_q (q_assign rfl (by decide)) ?_)
  refine list_nil ?_
  refine hK1 _ ?_; clear hK1 K1
  refine code_seq (fun K2 hK2 => ?_)
  refine code_seq (fun K3 hK3 => ?_)
  refine code_region ?_
  refine list_cons rfl (op_q (q_move rfl (by decide)) ?_)
  refine list_cons rfl (op_call _ (impl_IsCell _) rfl rfl (by decide) (by decide) (by decide) rfl ?_)
  rintro _ rfl
  refine list_cons rfl (op_q (by first | exact q_notd rfl (by decide) | exact q_not rfl (by decide)) ?_)
  refine list_nil ?_
  refine hK3 _ ?_; clear hK3 K3
  refine codeT.imp (σ' := [(0, _), (1, _), (4, _), (5, _), (11, _)]) ?_ (imp_covers ⟨rfl, rfl, rfl, rfl, rfl, trivial⟩)
  refine code_cond_d rfl (fun h1 => ?_) (fun h1 => ?_)
  · skip
    (try simp only [Decidable.not_not] at h1)
    refine code_seq (fun K4 hK4 => ?_)
    refine code_region ?_
    refine list_cons rfl (op_q (q_assign rfl (by decide)) ?_)
    refine list_cons rfl (op_q (q_assign rfl (by decide)) ?_)
    refine list_nil ?_
    refine hK4 _ ?_; clear hK4 K4
    refine code_ret ?_
    refine then_r ?_; clear hK2 K2
    refine ends_ret (cs := []) rfl rfl rfl rfl trivial ?_
    simp only [if_neg h1, decide_eq_false h1]
  (try simp only [Decidable.not_not] at h1)
  refine code_skip ?_
  refine hK2 _ ?_; clear hK2 K2
  refine code_seq (fun K5 hK5 => ?_)
  refine code_region ?_
  refine list_cons rfl (op_q (q_assign rfl (by decide)) ?_)
  refine list_nil ?_
  refine hK5 _ ?_; clear hK5 K5
  refine code_seq (fun K6 hK6 => ?_)
  refine code_seq (fun K7 hK7 => ?_)
  refine code_region ?_
  refine list_cons rfl (op_q (q_move rfl (by decide)) ?_)
  refine list_cons rfl (op_range_str Tryd.underlying9 rfl (by decide) (by decide) rfl ?_)
  refine list_nil ?_
  refine hK7 _ ?_; clear hK7 K7
  refine code_block ?_
  refine code_loop (X := Int × Bool × Int × Nat) (fun x => [(0, .val (.int .i64 c)), (1, .val (.str pl)), (4, .val (.int .i64 x.1)), (5, .val (.bool x.2.1)), (6, .val (.int .i64 x.2.2.1)), (13, .sit 13 (pl) x.2.2.2)]) (fun x => x.2.2.2 ≤ 7 ∧ x.2.2.1 = ((movF pl c.toNat x.2.2.2 : Nat) : Int)) (fun x => 7 - x.2.2.2) (_, _, _, _) (imp_covers ⟨rfl, rfl, rfl, rfl, rfl, rfl, trivial⟩) ?_ ?_
  · (try dsimp only)
    exact ⟨by omega, rfl⟩
  · intro x hI
    obtain ⟨t4, t5, moved, t13_i⟩ := x
    replace hI : t13_i ≤ 7 ∧ moved = ((movF pl c.toNat t13_i : Nat) : Int) := hI
    show codeT _ _ _ [(0, .val (.int .i64 c)), (1, .val (.str pl)), (4, .val (.int .i64 t4)), (5, .val (.bool t5)), (6, .val (.int .i64 moved)), (13, .sit 13 (pl) t13_i)] _
    obtain ⟨i1, i2⟩ := hI
    have i3 := movF_lt pl c.toNat t13_i i1
    have hpi := hpa t13_i
    have hp2 := p2_le (k := ((t13_i : Nat) : Int).toNat) (by omega)
    refine code_seq (fun K8 hK8 => ?_)
    refine code_region ?_
    refine list_cons rfl (op_nextA (h := 13) (fun j hj => by have := hpa j hj; omega) rfl rfl (by decide) (fun h2 => ?_) (fun h2 => ?_))
    · skip
      refine list_cons rfl (op_q (q_extract rfl rfl (by decide)) ?_)
      refine list_nil ?_
      refine hK8 _ ?_; clear hK8 K8
      refine code_seq (fun K9 hK9 => ?_)
      refine code_cond_f rfl ?_
      refine code_exit ?_
      refine then_x ?_; clear hK9 K9
      refine then_x ?_
      refine blk_hit ?_
      refine hK6 _ ?_; clear hK6 K6
      refine code_seq (fun K10 hK10 => ?_)
      refine code_region ?_
      refine list_cons rfl (op_q (q_move rfl (by decide)) ?_)
      refine list_cons rfl (op_q (q_assign rfl (by decide)) ?_)
      refine list_cons rfl (op_q (q_assign rfl (by decide)) ?_)
      refine list_nil ?_
      refine hK10 _ ?_; clear hK10 K10
      refine code_ret ?_
      refine ends_ret (cs := []) rfl rfl rfl rfl trivial ?_
      have e7 : t13_i = 7 := by omega
      simp only [if_pos h1, decide_eq_true h1, i2, e7]; rfl
    · skip
      refine list_cons rfl (op_q (q_extract rfl rfl (by decide)) ?_)
      refine list_nil ?_
      refine hK8 _ ?_; clear hK8 K8
      refine code_seq (fun K11 hK11 => ?_)
      refine code_cond_t rfl ?_
      refine code_skip ?_
      refine hK11 _ ?_; clear hK11 K11
      refine code_block ?_
      refine code_seq (fun K12 hK12 => ?_)
      refine code_region ?_
      refine list_cons rfl (op_q (q_extract rfl rfl (by decide)) ?_)
      refine list_cons rfl (op_q (q_extract rfl rfl (by decide)) ?_)
      refine list_cons rfl (op_q (q_assign rfl (by decide)) ?_)
      refine list_cons rfl (op_q (q_assign rfl (by decide)) ?_)
      refine list_nil ?_
      refine hK12 _ ?_; clear hK12 K12
      refine code_seq (fun K13 hK13 => ?_)
      refine code_region ?_
      refine list_cons rfl (op_q (q_move rfl (by decide)) ?_)
      refine list_cons rfl (op_q (q_move rfl (by decide)) ?_)
      refine list_cons rfl (op_call _ (indexRune_ascii _ (by omega) (by have := hpi (by omega); omega)) rfl rfl (by decide) (by decide) (by decide) rfl ?_)
      rintro _ rfl
      refine list_cons rfl (op_call _ (impl_hasBar _ _ (by omega) (by have := hpi (by omega); unfold ixR; rw [if_pos (by omega)]; omega)) rfl rfl (by decide) (by decide) (by decide) rfl ?_)
      rintro _ rfl
      refine list_nil ?_
      refine hK13 _ ?_; clear hK13 K13
      refine codeT.imp (σ' := [(0, _), (1, _), (4, _), (5, _), (6, _), (7, _), (8, _), (13, _), (14, _), (21, _)]) ?_ (imp_covers ⟨rfl, rfl, rfl, rfl, rfl, rfl, rfl, rfl, rfl, rfl, trivial⟩)
      refine code_cond_d rfl (fun h3 => ?_) (fun h3 => ?_)
      · skip
        (try simp only [Decidable.not_not] at h3)
        refine code_region ?_
        refine list_cons rfl (op_q (q_move rfl (by decide)) ?_)
        refine list_cons rfl (op_q (q_move rfl (by decide)) ?_)
        refine list_cons rfl (op_q (by first | exact q_shl1 rfl rfl (by decide) (by omega) (by omega) | exact q_shlI rfl rfl (by decide) (by omega) (by omega) (by omega) | exact q_shl rfl rfl (by omega) (by decide)) ?_)
        refine list_cons rfl (op_q (by first | exact q_orI rfl rfl (by decide) (by omega) (by omega) (by omega) (by omega) | exact q_ib rfl rfl rfl (by decide)) ?_)
        refine list_cons rfl (op_q (q_assign rfl (by decide)) ?_)
        refine list_nil ?_
        refine blk_n ?_
        refine then_n ⟨(_, _, _, _), imp_covers ⟨rfl, rfl, rfl, rfl, rfl, rfl, trivial⟩, ?_, ?_⟩
        · (try dsimp only)
          refine ⟨by omega, ?_⟩
          rw [movF]
          have e : ((pl.getD t13_i 0).toNat : Int) - 97 = (((pl.getD t13_i 0).toNat - 97 : Nat) : Int) := by omega
          have hb := h3
          rw [ixR, if_pos (by omega), e, Int.toNat_natCast] at hb
          rw [if_pos hb, i2, Int.toNat_natCast, Int.toNat_natCast, Int.toNat_natCast]
        · (try dsimp only); omega
      (try simp only [Decidable.not_not] at h3)
      refine code_skip ?_
      refine blk_n ?_
      refine then_n ⟨(_, _, _, _), imp_covers ⟨rfl, rfl, rfl, rfl, rfl, rfl, trivial⟩, ?_, ?_⟩
      · (try dsimp only)
        refine ⟨by omega, ?_⟩
        rw [movF]
        have e : ((pl.getD t13_i 0).toNat : Int) - 97 = (((pl.getD t13_i 0).toNat - 97 : Nat) : Int) := by omega
        have hb := h3
        rw [ixR, if_pos (by omega), e, Int.toNat_natCast] at hb
        rw [if_neg hb, i2]
      · (try dsimp only); omega

set_option maxRecDepth 4000 in
theorem impl_moveRow (l : List Int) (pl : List UInt8) (hp : PlOk pl) (hl : l.length ≤ 4611686018427387904) : PCalls Tryd.prog 153 [.sl l.length (l.map (.int .i64)), .str pl] (· = [.own 0 3 1 (if RowP l then movL pl l else []).length ((if RowP l then movL pl l else []).map (.int .i64)), .val (.bool (decide (RowP l)))]) := by
  refine pcalls_of_code (n := 44) az Tryd.func153 (by kernel_rfl) rfl rfl (Nat.le_of_ble_eq_true rfl) (by intro t u h; simp [Tryd.f153] at h) ?_
  refine code_seq (fun K1 hK1 => ?_)
  refine code_region ?_
  refine list_cons rfl (op_q (q_assign rfl (by decide)) ?_)
  refine list_cons rfl (op_q (q_assign rfl (by decide)) ?_)
  refine list_nil ?_
  refine hK1 _ ?_; clear hK1 K1
  refine code_seq (fun K2 hK2 => ?_)
  refine code_seq (fun K3 hK3 => ?_)
  refine code_region ?_
  refine list_cons rfl (op_q (q_move rfl (by decide)) ?_)
  refine list_cons rfl (op_call _ (impl_IsRow _ (by first | omega | (simp; omega))) rfl rfl (by decide) (by decide) (by decide) rfl ?_)
  rintro _ rfl
  refine list_cons rfl (op_q (by first | exact q_notd rfl (by decide) | exact q_not rfl (by decide)) ?_)
  refine list_nil ?_
  refine hK3 _ ?_; clear hK3 K3
  refine codeT.imp (σ' := [(0, _), (1, _), (4, _), (5, _), (13, _)]) ?_ (imp_covers ⟨rfl, rfl, rfl, rfl, rfl, trivial⟩)
  refine code_cond_d rfl (fun h1 => ?_) (fun h1 => ?_)
  · skip
    (try simp only [Decidable.not_not] at h1)
    refine code_seq (fun K4 hK4 => ?_)
    refine code_region ?_
    refine list_cons rfl (op_buildSlice sl_35 (parts := []) rfl rfl rfl (by decide) (by decide) (by decide) rfl ?_)
    refine list_cons rfl (op_q (q_assign rfl (by decide)) ?_)
    refine list_cons rfl (op_q (q_assign rfl (by decide)) ?_)
    refine list_nil ?_
    refine hK4 _ ?_; clear hK4 K4
    refine code_ret ?_
    refine then_r ?_; clear hK2 K2
    refine ends_ret (cs := []) rfl rfl rfl rfl trivial ?_
    simp only [if_neg h1, decide_eq_false h1]; rfl
  (try simp only [Decidable.not_not] at h1)
  refine code_skip ?_
  refine hK2 _ ?_; clear hK2 K2
  refine code_seq (fun K5 hK5 => ?_)
  refine code_region ?_
  refine list_cons rfl (op_q (q_move rfl (by decide)) ?_)
  refine list_cons rfl (op_q (q_len_sl Tryd.underlying35 rfl rfl (by decide)) ?_)
  refine list_cons rfl (op_make sl_35 rfl rfl (by have := h1.1; omega) (by decide) (by decide) rfl ?_)
  refine list_cons rfl (op_q (q_assign rfl (by decide)) ?_)
  refine list_nil ?_
  refine hK5 _ ?_; clear hK5 K5
  refine code_seq (fun K6 hK6 => ?_)
  refine code_seq (fun K7 hK7 => ?_)
  refine code_region ?_
  refine list_cons rfl (op_q (q_move rfl (by decide)) ?_)
  refine list_cons rfl (op_q (q_len_sl Tryd.underlying35 rfl rfl (by decide)) ?_)
  refine list_cons rfl (op_q (q_move rfl (by decide)) ?_)
  refine list_nil ?_
  refine hK7 _ ?_; clear hK7 K7
  refine code_block ?_
  refine code_loop (X := PV × Bool × Nat × List PV × Int) (fun x => [(0, .par 0 (.sl l.length (l.map (.int .i64)))), (1, .val (.str pl)), (4, .val x.1), (5, .val (.bool x.2.1)), (6, .own 17 3 1 x.2.2.1 x.2.2.2.1), (18, .par 0 (.sl l.length (l.map (.int .i64)))), (19, .val (.int .i64 l.length)), (20, .val (.int .i64 x.2.2.2.2))]) (fun x => 0 ≤ x.2.2.2.2 ∧ x.2.2.2.2 ≤ l.length ∧ x.2.2.1 = l.length ∧ x.2.2.2.1 = (movZ pl l x.2.2.2.2.toNat).map (.int .i64)) (fun x => l.length - x.2.2.2.2.toNat) (_, _, _, _, _) (imp_covers ⟨rfl, rfl, rfl, rfl, rfl, rfl, rfl, rfl, trivial⟩) ?_ ?_
  · (try dsimp only)
    refine ⟨by omega, by omega, rfl, ?_⟩
    refine (zeros_map1 (PV.int .i64) 0 _).trans ?_
    simp [movZ]
  · intro x hI
    obtain ⟨t4_p, t5, moved_n, moved_c, t20⟩ := x
    replace hI : 0 ≤ t20 ∧ t20 ≤ l.length ∧ moved_n = l.length ∧ moved_c = (movZ pl l t20.toNat).map (.int .i64) := hI
    show codeT _ _ _ [(0, .par 0 (.sl l.length (l.map (.int .i64)))), (1, .val (.str pl)), (4, .val t4_p), (5, .val (.bool t5)), (6, .own 17 3 1 moved_n moved_c), (18, .par 0 (.sl l.length (l.map (.int .i64)))), (19, .val (.int .i64 l.length)), (20, .val (.int .i64 t20))] _
    obtain ⟨i1, i2, rfl, rfl⟩ := hI
    have hl6 := h1.1
    have hc := fun (k : t20 < l.length) => h1.at (j := t20.toNat) (by omega)
    have hml := movZ_len pl l (k := t20.toNat) (by omega)
    refine code_seq (fun K8 hK8 => ?_)
    refine code_region ?_
    refine list_cons rfl (op_q (q_lt rfl rfl (by decide)) ?_)
    refine list_nil ?_
    refine hK8 _ ?_; clear hK8 K8
    refine code_seq (fun K9 hK9 => ?_)
    refine code_cond_d rfl (fun h2 => ?_) (fun h2 => ?_)
    · skip
      (try simp only [Decidable.not_not] at h2)
      refine code_skip ?_
      refine hK9 _ ?_; clear hK9 K9
      refine code_seq (fun K10 hK10 => ?_)
      refine code_block ?_
      refine code_seq (fun K11 hK11 => ?_)
      refine code_region ?_
      refine list_cons rfl (op_q (q_move rfl (by decide)) ?_)
      refine list_cons rfl (op_q (q_indexAddr_rd sl_35 rfl (.inl ⟨_, rfl, rfl⟩) rfl (by omega) (by omega) (by decide)) ?_)
      refine list_cons rfl (op_q (q_load_rd one_3 rfl (.inl ⟨_, (by first | rfl | exact congrArg (SV.rpar _) (drop_map1 _ 0 _ (by first | omega | (simp; omega)))), rfl⟩) (by decide)) ?_)
      refine list_cons rfl (op_q (q_assign rfl (by decide)) ?_)
      refine list_cons rfl (op_q (q_assign rfl (by decide)) ?_)
      refine list_nil ?_
      refine hK11 _ ?_; clear hK11 K11
      refine code_seq (fun K12 hK12 => ?_)
      refine code_region ?_
      refine list_cons rfl (op_q (q_move rfl (by decide)) ?_)
      refine list_cons rfl (op_q (q_move rfl (by decide)) ?_)
      refine list_cons rfl (op_call _ (impl_moveCell _ _ (by assumption)) rfl rfl (by decide) (by decide) (by decide) rfl ?_)
      rintro _ rfl
      refine list_cons rfl (op_q (q_move rfl (by decide)) ?_)
      refine list_cons rfl (op_q (q_extract rfl rfl (by decide)) ?_)
      refine list_cons rfl (op_q (q_extract rfl rfl (by decide)) ?_)
      refine list_cons rfl (op_q (q_assign rfl (by decide)) ?_)
      refine list_cons rfl (op_q (q_assign rfl (by decide)) ?_)
      refine list_nil ?_
      refine hK12 _ ?_; clear hK12 K12
      refine codeT.imp (σ' := [(0, _), (1, _), (4, _), (5, _), (6, _), (7, _), (8, _), (9, _), (10, _), (18, _), (19, _), (20, _)]) ?_ (imp_covers ⟨rfl, rfl, rfl, rfl, rfl, rfl, rfl, rfl, rfl, rfl, rfl, rfl, trivial⟩)
      refine code_seq (fun K13 hK13 => ?_)
      refine code_seq (fun K14 hK14 => ?_)
      refine code_region ?_
      refine list_cons rfl (op_q (q_move rfl (by decide)) ?_)
      refine list_cons rfl (op_q (by first | exact q_notd rfl (by decide) | exact q_not rfl (by decide)) ?_)
      refine list_nil ?_
      refine hK14 _ ?_; clear hK14 K14
      refine code_cond_d rfl (fun h3 => ?_) (fun h3 => ?_)
      · skip
        (try simp only [Decidable.not_not] at h3)
        refine code_seq (fun K15 hK15 => ?_)
        refine code_region ?_
        refine list_cons rfl (op_buildSlice sl_35 (parts := []) rfl rfl rfl (by decide) (by decide) (by decide) rfl ?_)
        refine list_cons rfl (op_q (q_assign rfl (by decide)) ?_)
        refine list_cons rfl (op_q (q_assign rfl (by decide)) ?_)
        refine list_nil ?_
        refine hK15 _ ?_; clear hK15 K15
        refine code_ret ?_
        refine then_r ?_; clear hK13 K13
        refine blk_r ?_
        refine then_r ?_; clear hK10 K10
        refine then_r ?_
        refine blk_r ?_
        refine then_r ?_; clear hK6 K6
        refine ends_ret (cs := []) rfl rfl rfl rfl trivial ?_
        exact absurd (hc (by omega)) h3
      (try simp only [Decidable.not_not] at h3)
      refine code_skip ?_
      refine hK13 _ ?_; clear hK13 K13
      refine code_region ?_
      refine list_cons rfl (op_q (q_move rfl (by decide)) ?_)
      refine list_cons rfl (op_q (q_move rfl (by decide)) ?_)
      refine list_cons rfl (op_q (q_len_sl Tryd.underlying35 rfl rfl (by decide)) ?_)
      refine list_cons rfl (op_q (by first | exact q_subI rfl rfl (by decide) (by omega) (by omega) | exact q_ib rfl rfl rfl (by decide)) ?_)
      refine list_cons rfl (op_q (q_move rfl (by decide)) ?_)
      refine list_cons rfl (op_q (by first | exact q_subI rfl rfl (by decide) (by omega) (by omega) | exact q_ib rfl rfl rfl (by decide)) ?_)
      refine list_cons rfl (op_q (q_move rfl (by decide)) ?_)
      refine list_cons rfl (op_q (q_indexAddr_own sl_35 rfl rfl (by omega) (by omega) (by decide)) ?_)
      refine list_cons rfl (op_store (one_3).2 6 [6, 34] (by intro t ht; simp only [List.mem_cons, List.not_mem_nil, or_false] at ht; rcases ht with rfl | rfl <;> rfl) (.inl rfl) rfl rfl rfl rfl rfl rfl (by first | decide | omega | exact Nat.le_refl _ | (simp; done) | (simp; omega)) (by decide) rfl ?_)
      refine list_nil ?_
      refine blk_n ?_
      refine hK10 _ ?_; clear hK10 K10
      refine codeT.imp (σ' := [(0, _), (1, _), (4, _), (5, _), (6, _), (7, _), (8, _), (9, _), (10, _), (18, _), (19, _), (20, _)]) ?_ (imp_covers ⟨rfl, rfl, rfl, rfl, rfl, rfl, rfl, rfl, rfl, rfl, rfl, rfl, trivial⟩)
      refine code_region ?_
      refine list_cons rfl (op_q (by first | exact q_addI rfl rfl (by decide) (by omega) (by omega) | exact q_ib rfl rfl rfl (by decide)) ?_)
      refine list_cons rfl (op_q (q_move rfl (by decide)) ?_)
      refine list_nil ?_
      refine then_n ⟨(_, _, _, _, _), imp_covers ⟨rfl, rfl, rfl, rfl, rfl, rfl, rfl, rfl, trivial⟩, ?_, ?_⟩
      · (try dsimp only)
        refine ⟨by omega, by omega, rfl, ?_⟩
        rw [if_pos (hc (by omega)), show (t20 + 1).toNat = t20.toNat + 1 by omega]
        exact movZ_put pl l (by omega) (by omega)
      · (try dsimp only); omega
    (try simp only [Decidable.not_not] at h2)
    refine code_exit ?_
    refine then_x ?_; clear hK9 K9
    refine then_x ?_
    refine blk_hit ?_
    refine hK6 _ ?_; clear hK6 K6
    refine code_seq (fun K16 hK16 => ?_)
    refine code_region ?_
    refine list_cons rfl (op_q (q_move rfl (by decide)) ?_)
    refine list_cons rfl (op_q (q_assign rfl (by decide)) ?_)
    refine list_cons rfl (op_q (q_assign rfl (by decide)) ?_)
    refine list_nil ?_
    refine hK16 _ ?_; clear hK16 K16
    refine code_ret ?_
    refine ends_ret (cs := []) rfl rfl rfl rfl trivial ?_
    rw [show t20.toNat = l.length by omega, movZ_end]
    simp only [if_pos h1, decide_eq_true h1]
    rw [show (movL pl l).length = l.length by simp [movL]]

set_option maxRecDepth 4000 in
theorem impl_TurnRow (l : List Int) (hl : l.length ≤ 4611686018427387904) : PCalls Tryd.prog 109 [.sl l.length (l.map (.int .i64))] (· = [.own 0 3 1 (if RowP l then turnL l else []).length ((if RowP l then turnL l else []).map (.int .i64)), .val (.bool (decide (RowP l)))]) := by
  refine pcalls_of_code (n := 8) az Tryd.func109 (by kernel_rfl) rfl rfl (Nat.le_of_ble_eq_true rfl) (by intro t u h; simp [Tryd.f109] at h) ?_
  refine code_seq (fun K1 hK1 => ?_)
  refine code_region ?_
  refine list_cons rfl (op_q (q_assign rfl (by decide)) ?_)
  refine list_cons rfl (op_q (q_assign rfl (by decide)) ?_)
  refine list_nil ?_
  refine hK1 _ ?_; clear hK1 K1
  refine code_seq (fun K2 hK2 => ?_)
  refine code_region ?_
  refine list_cons rfl (op_q (q_move rfl (by decide)) ?_)
  refine list_cons rfl (op_call _ (impl_moveRow l turnG turnG_ok hl) rfl rfl (by decide) (by decide) (by decide) rfl ?_)
  rintro _ rfl
  refine list_cons rfl (op_q (q_extract rfl rfl (by decide)) ?_)
  refine list_cons rfl (op_q (q_extract rfl rfl (by decide)) ?_)
  refine list_cons rfl (op_q (q_assign rfl (by decide)) ?_)
  refine list_cons rfl (op_q (q_assign rfl (by decide)) ?_)
  refine list_nil ?_
  refine hK2 _ ?_; clear hK2 K2
  refine codeT.imp (σ' := [(0, _), (2, _), (3, _)]) ?_ (imp_covers ⟨rfl, rfl, rfl, trivial⟩)
  refine code_ret ?_
  refine ends_ret (cs := []) rfl rfl rfl rfl trivial ?_
  by_cases e : RowP l
  · simp only [if_pos e, decide_eq_true e, movL_turn e] <;> rfl
  · simp only [if_neg e, decide_eq_false e] <;> rfl

set_option maxRecDepth 4000 in
theorem impl_MirrorRow (l : List Int) (hl : l.length ≤ 4611686018427387904) : PCalls Tryd.prog 106 [.sl l.length (l.map (.int .i64))] (· = [.own 0 3 1 (if RowP l then mirL l else []).length ((if RowP l then mirL l else []).map (.int .i64)), .val (.bool (decide (RowP l)))]) := by
  refine pcalls_of_code (n := 8) az Tryd.func106 (by kernel_rfl) rfl rfl (Nat.le_of_ble_eq_true rfl) (by intro t u h; simp [Tryd.f106] at h) ?_
  refine code_seq (fun K1 hK1 => ?_)
  refine code_region ?_
  refine list_cons rfl (op_q (q_assign rfl (by decide)) ?_)
  refine list_cons rfl (op_q (q_assign rfl (by decide)) ?_)
  refine list_nil ?_
  refine hK1 _ ?_; clear hK1 K1
  refine code_seq (fun K2 hK2 => ?_)
  refine code_region ?_
  refine list_cons rfl (op_q (q_move rfl (by decide)) ?_)
  refine list_cons rfl (op_call _ (impl_moveRow l mirG mirG_ok hl) rfl rfl (by decide) (by decide) (by decide) rfl ?_)
  rintro _ rfl
  refine list_cons rfl (op_q (q_extract rfl rfl (by decide)) ?_)
  refine list_cons rfl (op_q (q_extract rfl rfl (by decide)) ?_)
  refine list_cons rfl (op_q (q_assign rfl (by decide)) ?_)
  refine list_cons rfl (op_q (q_assign rfl (by decide)) ?_)
  refine list_nil ?_
  refine hK2 _ ?_; clear hK2 K2
  refine codeT.imp (σ' := [(0, _), (2, _), (3, _)]) ?_ (imp_covers ⟨rfl, rfl, rfl, trivial⟩)
  refine code_ret ?_
  refine ends_ret (cs := []) rfl rfl rfl rfl trivial ?_
  by_cases e : RowP l
  · simp only [if_pos e, decide_eq_true e, movL_mir e] <;> rfl
  · simp only [if_neg e, decide_eq_false e] <;> rfl

set_option maxRecDepth 4000 in
theorem impl_ParseBars (s : List UInt8) (hs : s.length ≤ 4611686018427387904) : PCalls Tryd.prog 150 [.str s] (· = [.val (.int .i64 (if OrdP s then ((orF s : Nat) : Int) else 0)), .val (.bool (decide (OrdP s)))]) := by
  refine pcalls_of_code (n := 28) az Tryd.func150 (by kernel_rfl) rfl rfl (Nat.le_of_ble_eq_true rfl) (by intro t u h; simp [Tryd.f150] at h) ?_
  refine code_seq (fun K1 hK1 => ?_)
  refine code_region ?_
  refine list_cons rfl (op_q (q_assign rfl (by decide)) ?_)
  refine list_cons rfl (op_q (q_assign rfl (by decide)) ?_)
  refine list_nil ?_
  refine hK1 _ ?_; clear hK1 K1
  refine code_seq (fun K2 hK2 => ?_)
  refine code_region ?_
  refine list_cons rfl (op_q (q_assign rfl (by decide)) ?_)
  refine list_nil ?_
  refine hK2 _ ?_; clear hK2 K2
  refine code_seq (fun K3 hK3 => ?_)
  refine code_seq (fun K4 hK4 => ?_)
  refine code_region ?_
  refine list_cons rfl (op_q (q_move rfl (by decide)) ?_)
  refine list_cons rfl (op_range_str Tryd.underlying9 rfl (by decide) (by decide) rfl ?_)
  refine list_nil ?_
  refine hK4 _ ?_; clear hK4 K4
  refine code_block ?_
  refine code_loop (X := Int × Bool × Int × Nat) (fun x => [(0, .val (.str s)), (2, .val (.int .i64 x.1)), (3, .val (.bool x.2.1)), (4, .val (.int .i64 x.2.2.1)), (9, .sit 9 (s) x.2.2.2)]) (fun x => x.2.2.2 ≤ s.length ∧ x.2.2.1 = ((orF (s.take x.2.2.2) : Nat) : Int) ∧ orF (s.take x.2.2.2) < 128 ∧ OrdU s x.2.2.2) (fun x => s.length - x.2.2.2) (_, _, _, _) (imp_covers ⟨rfl, rfl, rfl, rfl, rfl, trivial⟩) ?_ ?_
  · (try dsimp only)
    exact ⟨by omega, by rw [List.take_zero]; rfl, by rw [List.take_zero]; decide, fun j hj => by omega⟩
  · intro x hI
    obtain ⟨t2, t3, cell, t9_i⟩ := x
    replace hI : t9_i ≤ s.length ∧ cell = ((orF (s.take t9_i) : Nat) : Int) ∧ orF (s.take t9_i) < 128 ∧ OrdU s t9_i := hI
    show codeT _ _ _ [(0, .val (.str s)), (2, .val (.int .i64 t2)), (3, .val (.bool t3)), (4, .val (.int .i64 cell)), (9, .sit 9 (s) t9_i)] _
    obtain ⟨i1, i2, i3, i4⟩ := hI
    have hix := ixR_le ((runeAt s t9_i).1 : Int)
    have hp2 := p2_le (k := (ixR ((runeAt s t9_i).1 : Int)).toNat) (by omega)
    refine code_seq (fun K5 hK5 => ?_)
    refine code_region ?_
    refine list_cons rfl (op_next (h := 9) rfl rfl (by decide) (fun h1 => ?_) (fun h1 => ?_))
    · skip
      refine list_cons rfl (op_q (q_extract rfl rfl (by decide)) ?_)
      refine list_nil ?_
      refine hK5 _ ?_; clear hK5 K5
      refine code_seq (fun K6 hK6 => ?_)
      refine code_cond_f rfl ?_
      refine code_exit ?_
      refine then_x ?_; clear hK6 K6
      refine then_x ?_
      refine blk_hit ?_
      refine hK3 _ ?_; clear hK3 K3
      refine code_seq (fun K7 hK7 => ?_)
      refine code_region ?_
      refine list_cons rfl (op_q (q_move rfl (by decide)) ?_)
      refine list_cons rfl (op_q (q_assign rfl (by decide)) ?_)
      refine list_cons rfl (op_q (q_assign rfl (by decide)) ?_)
      refine list_nil ?_
      refine hK7 _ ?_; clear hK7 K7
      refine code_ret ?_
      refine ends_ret (cs := []) rfl rfl rfl rfl trivial ?_
      have e0 : t9_i = s.length := by omega
      rw [e0] at i4
      have e : OrdP s := i4
      rw [if_pos e, decide_eq_true e, i2, e0, List.take_length]
    · skip
      refine list_cons rfl (op_q (q_extract rfl rfl (by decide)) ?_)
      refine list_nil ?_
      refine hK5 _ ?_; clear hK5 K5
      refine code_seq (fun K8 hK8 => ?_)
      refine code_cond_t rfl ?_
      refine code_skip ?_
      refine hK8 _ ?_; clear hK8 K8
      refine code_block ?_
      refine code_seq (fun K9 hK9 => ?_)
      refine code_region ?_
      refine list_cons rfl (op_q (q_extract rfl rfl (by decide)) ?_)
      refine list_cons rfl (op_q (q_assign rfl (by decide)) ?_)
      refine list_nil ?_
      refine hK9 _ ?_; clear hK9 K9
      refine code_seq (fun K10 hK10 => ?_)
      refine code_region ?_
      refine list_cons rfl (op_q (q_move rfl (by decide)) ?_)
      refine list_cons rfl (op_call _ (indexRune_c _ (by omega) (by have := runeAt_le (s := s) (i := t9_i) (by omega); omega)) rfl rfl (by decide) (by decide) (by decide) rfl ?_)
      rintro _ rfl
      refine list_cons rfl (op_q (q_assign rfl (by decide)) ?_)
      refine list_nil ?_
      refine hK10 _ ?_; clear hK10 K10
      refine codeT.imp (σ' := [(0, _), (2, _), (3, _), (4, _), (6, _), (7, _), (9, _), (10, _)]) ?_ (imp_covers ⟨rfl, rfl, rfl, rfl, rfl, rfl, rfl, rfl, trivial⟩)
      refine code_seq (fun K11 hK11 => ?_)
      refine code_seq (fun K12 hK12 => ?_)
      refine code_region ?_
      refine list_cons rfl (op_q (q_move rfl (by decide)) ?_)
      refine list_cons rfl (op_q (q_lt rfl rfl (by decide)) ?_)
      refine list_cons rfl (op_q (q_move rfl (by decide)) ?_)
      refine list_guard_d rfl rfl rfl rfl (by decide) rfl (by decide) (fun h2 => ?_) (fun h2 => ?_)
      · simp only [Bool.false_eq_true, if_true, if_false, Decidable.not_not] at h2
        refine id (op_q (q_move rfl (by decide)) ?_)
        refine list_guard_y rfl rfl rfl rfl (by decide) rfl ?_
        refine id (op_q (q_move rfl (by decide)) ?_)
        refine list_guard_y rfl rfl rfl rfl (by decide) rfl ?_
        refine id (op_q (by first | exact q_shrN rfl rfl (by decide) (by omega) (by omega) (by omega) | exact q_shrI rfl rfl (by decide) (by omega) (by omega) (by omega) | exact q_shr rfl rfl (by omega) (by decide)) ?_)
        refine list_guard_y rfl rfl rfl rfl (by decide) rfl ?_
        refine id (op_q (q_ne rfl rfl (by decide)) ?_)
        refine list_cons rfl (op_q (q_pick rfl rfl (by decide)) ?_)
        refine list_nil ?_
        refine hK12 _ ?_; clear hK12 K12
        refine codeT.imp (σ' := [(0, _), (2, _), (3, _), (4, _), (6, _), (7, _), (9, _), (10, _), (22, _)]) ?_ (imp_covers ⟨rfl, rfl, rfl, rfl, rfl, rfl, rfl, rfl, rfl, trivial⟩)
        refine code_cond_d rfl (fun h3 => ?_) (fun h3 => ?_)
        · skip
          (try simp only [Decidable.not_not] at h3)
          refine code_seq (fun K13 hK13 => ?_)
          refine code_region ?_
          refine list_cons rfl (op_q (q_assign rfl (by decide)) ?_)
          refine list_cons rfl (op_q (q_assign rfl (by decide)) ?_)
          refine list_nil ?_
          refine hK13 _ ?_; clear hK13 K13
          refine code_ret ?_
          refine then_r ?_; clear hK11 K11
          refine blk_r ?_
          refine then_r ?_
          refine blk_r ?_
          refine then_r ?_; clear hK3 K3
          refine ends_ret (cs := []) rfl rfl rfl rfl trivial ?_
          have e : ¬ OrdP s := pb_bad (i := t9_i) (by omega) i4 (by omega) (fun k => h3 (by rw [i2, Int.toNat_natCast, k]; rfl))
          rw [if_neg e, decide_eq_false e]
        (try simp only [Decidable.not_not] at h3)
        refine code_skip ?_
        refine hK11 _ ?_; clear hK11 K11
        refine code_region ?_
        refine list_cons rfl (op_q (q_move rfl (by decide)) ?_)
        refine list_cons rfl (op_q (q_move rfl (by decide)) ?_)
        refine list_cons rfl (op_q (by first | exact q_shl1 rfl rfl (by decide) (by omega) (by omega) | exact q_shlI rfl rfl (by decide) (by omega) (by omega) (by omega) | exact q_shl rfl rfl (by omega) (by decide)) ?_)
        refine list_cons rfl (op_q (by first | exact q_orI rfl rfl (by decide) (by omega) (by omega) (by omega) (by omega) | exact q_ib rfl rfl rfl (by decide)) ?_)
        refine list_cons rfl (op_q (q_assign rfl (by decide)) ?_)
        refine list_nil ?_
        refine blk_n ?_
        refine then_n ⟨(_, _, _, _), imp_covers ⟨rfl, rfl, rfl, rfl, rfl, trivial⟩, ?_, ?_⟩
        · (try dsimp only)
          have hr : 0 ≤ ixR ((runeAt s t9_i).1 : Int) := by omega
          have hz : shN (orF (s.take t9_i)) (ixR ((runeAt s t9_i).1 : Int)).toNat = 0 := by have := h3; rw [i2, Int.toNat_natCast] at this; omega
          obtain ⟨g1, g2, g3, g4, g5⟩ := pb_at (by omega) hr
          have e9 : orF (s.take (t9_i + 1)) = orF (s.take t9_i) ||| p2 (ixR ((runeAt s t9_i).1 : Int)).toNat := by
            rw [orF_snoc s (by omega), g5, Int.toNat_natCast]; rfl
          rw [g2]
          refine ⟨by omega, ?_, ?_, pb_step (by omega) i4 hr hz⟩
          · rw [e9, i2, Int.toNat_natCast, Int.toNat_natCast]
          · rw [e9]; exact or7 i3 (by omega)
        · (have hr : 0 ≤ ixR ((runeAt s t9_i).1 : Int) := by omega); (have := (pb_at (by omega) hr).2.1); (try dsimp only); omega
      simp only [Bool.false_eq_true, if_true, if_false, Decidable.not_not] at h2
      refine list_guard_n rfl rfl rfl rfl (by decide) rfl ?_
      refine list_guard_n rfl rfl rfl rfl (by decide) rfl ?_
      refine list_guard_n rfl rfl rfl rfl (by decide) rfl ?_
      refine list_cons rfl (op_q (q_pick rfl rfl (by decide)) ?_)
      refine list_nil ?_
      refine hK12 _ ?_; clear hK12 K12
      refine code_cond_t rfl ?_
      refine code_seq (fun K14 hK14 => ?_)
      refine code_region ?_
      refine list_cons rfl (op_q (q_assign rfl (by decide)) ?_)
      refine list_cons rfl (op_q (q_assign rfl (by decide)) ?_)
      refine list_nil ?_
      refine hK14 _ ?_; clear hK14 K14
      refine code_ret ?_
      refine then_r ?_; clear hK11 K11
      refine blk_r ?_
      refine then_r ?_
      refine blk_r ?_
      refine then_r ?_; clear hK3 K3
      refine ends_ret (cs := []) rfl rfl rfl rfl trivial ?_
      have e : ¬ OrdP s := fun k => by have := pb_ord (i := t9_i) (by omega) k; omega
      rw [if_neg e, decide_eq_false e]

theorem bars_dig : ∀ j, j < 10 → OrdP (([[97, 98, 99, 100, 101, 102], [98, 99], [97, 98, 100, 101, 103], [97, 98, 99, 100, 103], [98, 99, 102, 103], [97, 99, 100, 102, 103], [97, 99, 100, 101, 102, 103], [97, 98, 99], [97, 98, 99, 100, 101, 102, 103], [97, 98, 99, 100, 102, 103]] : List (List UInt8)).getD j []) ∧ ((orF (([[97, 98, 99, 100, 101, 102], [98, 99], [97, 98, 100, 101, 103], [97, 98, 99, 100, 103], [98, 99, 102, 103], [97, 99, 100, 102, 103], [97, 99, 100, 101, 102, 103], [97, 98, 99], [97, 98, 99, 100, 101, 102, 103], [97, 98, 99, 100, 102, 103]] : List (List UInt8)).getD j []) : Nat) : Int) = digT.getD j 0 := by
  intro j hj
  have : j = 0 ∨ j = 1 ∨ j = 2 ∨ j = 3 ∨ j = 4 ∨ j = 5 ∨ j = 6 ∨ j = 7 ∨ j = 8 ∨ j = 9 := by omega
  rcases this with rfl | rfl | rfl | rfl | rfl | rfl | rfl | rfl | rfl | rfl <;> exact ⟨by decide, by decide⟩
theorem tbl_len (j : Nat) : (([[97, 98, 99, 100, 101, 102], [98, 99], [97, 98, 100, 101, 103], [97, 98, 99, 100, 103], [98, 99, 102, 103], [97, 99, 100, 102, 103], [97, 99, 100, 101, 102, 103], [97, 98, 99], [97, 98, 99, 100, 101, 102, 103], [97, 98, 99, 100, 102, 103]] : List (List UInt8)).getD j []).length ≤ 7 := by
  by_cases hj : j < 10
  · have : j = 0 ∨ j = 1 ∨ j = 2 ∨ j = 3 ∨ j = 4 ∨ j = 5 ∨ j = 6 ∨ j = 7 ∨ j = 8 ∨ j = 9 := by omega
    rcases this with rfl | rfl | rfl | rfl | rfl | rfl | rfl | rfl | rfl | rfl <;> decide
  · unfold List.getD; rw [List.getElem?_eq_none (by simp; omega)]; simp
def digE (k : Nat) : List (PV × PV) := (List.range k).map fun j => (.int .i64 (digT.getD j 0), .int .i64 j)
theorem digE_new : ∀ k : Nat, k < 10 → findE (.int .i64) (.int .i64 (digT.getD k 0)) (digE k) 0 = some none := by
  intro j hj
  have : j = 0 ∨ j = 1 ∨ j = 2 ∨ j = 3 ∨ j = 4 ∨ j = 5 ∨ j = 6 ∨ j = 7 ∨ j = 8 ∨ j = 9 := by omega
  rcases this with rfl | rfl | rfl | rfl | rfl | rfl | rfl | rfl | rfl | rfl <;> rfl
theorem digE_succ (k : Nat) : digE (k + 1) = digE k ++ [(.int .i64 (digT.getD k 0), .int .i64 k)] := by
  unfold digE; rw [List.range_succ, List.map_append]; rfl
theorem findE_int (c : Int) : ∀ (l : List Int) (i : Nat) (f : Nat → PV), (∀ d ∈ l, d ≠ c) → ∀ m, findE (.int .i64) (.int .i64 c) ((List.range' m l.length).zipWith (fun j d => (PV.int .i64 d, f j)) l) i = some none
  | [], i, f, h, m => by simp [findE]
  | d :: l, i, f, h, m => by
    have hne : intEq c d = false := by rw [intEq_eq, beq_eq_false_iff_ne]; exact fun e => h d (by simp) e.symm
    rw [List.length_cons, List.range'_succ, List.zipWith_cons_cons, findE]
    simp only [keyEq, kEq, hne]
    exact findE_int c l (i + 1) f (fun x hx => h x (by simp [hx])) (m + 1)
theorem digE_hit (c : Int) (h : 0 ≤ digOf c) : findE (.int .i64) (.int .i64 c) (digE 10) 0 = some (some ((digOf c).toNat, .int .i64 (digOf c))) := by
  unfold digOf at h ⊢
  repeat' split
  all_goals first
    | (subst_vars; rfl)
    | (exfalso; simp_all)
theorem digE_miss (c : Int) (h : ¬ 0 ≤ digOf c) : findE (.int .i64) (.int .i64 c) (digE 10) 0 = some none := by
  have e : digE 10 = (List.range' 0 digT.length).zipWith (fun (j : Nat) (d : Int) => (PV.int .i64 d, PV.int .i64 j)) digT := by rfl
  rw [e]
  refine findE_int c digT 0 (fun (j : Nat) => PV.int .i64 j) (fun d hd hc => ?_) 0
  subst hc
  simp only [digT, List.mem_cons, List.not_mem_nil, or_false] at hd
  rcases hd with rfl | rfl | rfl | rfl | rfl | rfl | rfl | rfl | rfl | rfl <;> exact h (by decide)
theorem digT_of (d : Nat) (h : d < 10) : digOf (digT.getD d 0) = d := digOf_at (d := d) (by omega) (by omega) (by rw [Int.toNat_natCast])


set_option maxRecDepth 4000 in
theorem impl_CellOf (d : Int) : PCalls Tryd.prog 98 [.int .i64 d] (· = [.val (.int .i64 (if 0 ≤ d ∧ d ≤ 9 then digT.getD d.toNat 0 else 0)), .val (.bool (decide (0 ≤ d ∧ d ≤ 9)))]) := by
  refine pcalls_of_code (n := 16) az Tryd.func98 (by kernel_rfl) rfl rfl (Nat.le_of_ble_eq_true rfl) (by intro t u h; simp [Tryd.f98] at h) ?_
  refine code_seq (fun K1 hK1 => ?_)
  refine code_region ?_
  refine list_cons rfl (op_q (q_assign rfl (by decide)) ?_)
  refine list_cons rfl (op_q (q_assign rfl (by decide)) ?_)
  refine list_nil ?_
  refine hK1 _ ?_; clear hK1 K1
  refine code_seq (fun K2 hK2 => ?_)
  refine code_seq (fun K3 hK3 => ?_)
  refine code_region ?_
  refine list_cons rfl (op_q (q_move rfl (by decide)) ?_)
  refine list_cons rfl (op_q (q_lt rfl rfl (by decide)) ?_)
  refine list_cons rfl (op_q (q_move rfl (by decide)) ?_)
  refine list_guard_d rfl rfl rfl rfl (by decide) rfl (by decide) (fun h1 => ?_) (fun h1 => ?_)
  · simp only [Bool.false_eq_true, if_true, if_false, Decidable.not_not] at h1
    refine id (op_q (q_move rfl (by decide)) ?_)
    refine list_guard_y rfl rfl rfl rfl (by decide) rfl ?_
    refine id (op_q (q_ge rfl rfl (by decide)) ?_)
    refine list_cons rfl (op_q (q_pick rfl rfl (by decide)) ?_)
    refine list_nil ?_
    refine hK3 _ ?_; clear hK3 K3
    refine code_cond_d rfl (fun h2 => ?_) (fun h2 => ?_)
    · skip
      (try simp only [Decidable.not_not] at h2)
      refine code_seq (fun K4 hK4 => ?_)
      refine code_region ?_
      refine list_cons rfl (op_q (q_assign rfl (by decide)) ?_)
      refine list_cons rfl (op_q (q_assign rfl (by decide)) ?_)
      refine list_nil ?_
      refine hK4 _ ?_; clear hK4 K4
      refine code_ret ?_
      refine then_r ?_; clear hK2 K2
      refine ends_ret (cs := []) rfl rfl rfl rfl trivial ?_
      first
        | (have e : ¬ (0 ≤ d ∧ d ≤ 9) := by omega
           simp only [if_neg e, decide_eq_false e])
        | (have e : 0 ≤ d ∧ d ≤ 9 := by omega
           have e2 := bars_dig d.toNat (by omega)
           simp only [if_pos e, decide_eq_true e, if_pos e2.1, decide_eq_true e2.1, e2.2])
    (try simp only [Decidable.not_not] at h2)
    refine code_skip ?_
    refine hK2 _ ?_; clear hK2 K2
    refine code_seq (fun K5 hK5 => ?_)
    refine code_region ?_
    refine list_cons rfl (op_q (q_move rfl (by decide)) ?_)
    refine list_cons rfl (op_q (q_indexAddr_g arr_97 rfl rfl (by omega) (by omega) (by decide)) ?_)
    refine list_cons rfl (op_q (q_load_rd one_9 rfl (.inr ⟨_, (by first | rfl | exact congrArg (SV.rbor _) (drop_map1 _ [] _ (by first | omega | (simp; omega)))), rfl⟩) (by decide)) ?_)
    refine list_cons rfl (op_call _ (impl_ParseBars _ (by have := tbl_len d.toNat; omega)) rfl rfl (by decide) (by decide) (by decide) rfl ?_)
    rintro _ rfl
    refine list_cons rfl (op_q (q_extract rfl rfl (by decide)) ?_)
    refine list_cons rfl (op_q (q_extract rfl rfl (by decide)) ?_)
    refine list_cons rfl (op_q (q_assign rfl (by decide)) ?_)
    refine list_cons rfl (op_q (q_assign rfl (by decide)) ?_)
    refine list_nil ?_
    refine hK5 _ ?_; clear hK5 K5
    refine codeT.imp (σ' := [(0, _), (2, _), (3, _)]) ?_ (imp_covers ⟨rfl, rfl, rfl, trivial⟩)
    refine code_ret ?_
    refine ends_ret (cs := []) rfl rfl rfl rfl trivial ?_
    first
      | (have e : ¬ (0 ≤ d ∧ d ≤ 9) := by omega
         simp only [if_neg e, decide_eq_false e])
      | (have e : 0 ≤ d ∧ d ≤ 9 := by omega
         have e2 := bars_dig d.toNat (by omega)
         simp only [if_pos e, decide_eq_true e, if_pos e2.1, decide_eq_true e2.1, e2.2])
  simp only [Bool.false_eq_true, if_true, if_false, Decidable.not_not] at h1
  refine list_guard_n rfl rfl rfl rfl (by decide) rfl ?_
  refine list_cons rfl (op_q (q_pick rfl rfl (by decide)) ?_)
  refine list_nil ?_
  refine hK3 _ ?_; clear hK3 K3
  refine code_cond_t rfl ?_
  refine code_seq (fun K6 hK6 => ?_)
  refine code_region ?_
  refine list_cons rfl (op_q (q_assign rfl (by decide)) ?_)
  refine list_cons rfl (op_q (q_assign rfl (by decide)) ?_)
  refine list_nil ?_
  refine hK6 _ ?_; clear hK6 K6
  refine code_ret ?_
  refine then_r ?_; clear hK2 K2
  refine ends_ret (cs := []) rfl rfl rfl rfl trivial ?_
  first
    | (have e : ¬ (0 ≤ d ∧ d ≤ 9) := by omega
       simp only [if_neg e, decide_eq_false e])
    | (have e : 0 ≤ d ∧ d ≤ 9 := by omega
       have e2 := bars_dig d.toNat (by omega)
       simp only [if_pos e, decide_eq_true e, if_pos e2.1, decide_eq_true e2.1, e2.2])

set_option maxRecDepth 4000 in
theorem impl_digits  : PCalls Tryd.prog 103 [] (· = [.map 0 (digE 10)]) := by
  refine pcalls_of_code (n := 20) az Tryd.func103 (by kernel_rfl) rfl rfl (Nat.le_of_ble_eq_true rfl) (by intro t u h; simp [Tryd.f103] at h) ?_
  refine code_seq (fun K1 hK1 => ?_)
  refine code_region ?_
  refine list_cons rfl (op_q (q_deadconst (by decide)) ?_)
  refine list_nil ?_
  refine hK1 _ ?_; clear hK1 K1
  refine code_seq (fun K2 hK2 => ?_)
  refine code_region ?_
  refine list_cons rfl (op_makeMap Tryd.underlying79 (.inr ⟨_, _, rfl, rfl⟩) (by decide) (by decide) rfl ?_)
  refine list_cons rfl (op_q (q_assign rfl (by decide)) ?_)
  refine list_nil ?_
  refine hK2 _ ?_; clear hK2 K2
  refine codeT.imp (σ' := [(0, _), (1, _)]) ?_ (imp_covers ⟨rfl, rfl, trivial⟩)
  refine code_seq (fun K3 hK3 => ?_)
  refine code_seq (fun K4 hK4 => ?_)
  refine code_region ?_
  refine list_cons rfl (op_q (q_move rfl (by decide)) ?_)
  refine list_nil ?_
  refine hK4 _ ?_; clear hK4 K4
  refine code_block ?_
  refine code_loop (X := List (PV × PV) × Int) (fun x => [(1, .map 5 x.1), (6, .val (.int .i64 x.2))]) (fun x => 0 ≤ x.2 ∧ x.2 ≤ 10 ∧ x.1 = digE x.2.toNat) (fun x => 10 - x.2.toNat) (_, _) (imp_covers ⟨rfl, rfl, trivial⟩) ?_ ?_
  · (try dsimp only)
    exact ⟨by omega, by omega, rfl⟩
  · intro x hI
    obtain ⟨digits_m, t6⟩ := x
    replace hI : 0 ≤ t6 ∧ t6 ≤ 10 ∧ digits_m = digE t6.toNat := hI
    show codeT _ _ _ [(1, .map 5 digits_m), (6, .val (.int .i64 t6))] _
    obtain ⟨i1, i2, rfl⟩ := hI
    refine code_seq (fun K5 hK5 => ?_)
    refine code_region ?_
    refine list_cons rfl (op_q (q_lt rfl rfl (by decide)) ?_)
    refine list_nil ?_
    refine hK5 _ ?_; clear hK5 K5
    refine code_seq (fun K6 hK6 => ?_)
    refine code_cond_d rfl (fun h1 => ?_) (fun h1 => ?_)
    · skip
      (try simp only [Decidable.not_not] at h1)
      refine code_skip ?_
      refine hK6 _ ?_; clear hK6 K6
      refine code_seq (fun K7 hK7 => ?_)
      refine code_block ?_
      refine code_seq (fun K8 hK8 => ?_)
      refine code_region ?_
      refine list_cons rfl (op_q (q_move rfl (by decide)) ?_)
      refine list_cons rfl (op_q (q_assign rfl (by decide)) ?_)
      refine list_nil ?_
      refine hK8 _ ?_; clear hK8 K8
      refine code_seq (fun K9 hK9 => ?_)
      refine code_region ?_
      refine list_cons rfl (op_q (q_move rfl (by decide)) ?_)
      refine list_cons rfl (op_call _ (impl_CellOf _) rfl rfl (by decide) (by decide) (by decide) rfl ?_)
      rintro _ rfl
      refine list_cons rfl (op_q (q_move rfl (by decide)) ?_)
      refine list_cons rfl (op_q (q_extract rfl rfl (by decide)) ?_)
      refine list_cons rfl (op_q (q_extract rfl rfl (by decide)) ?_)
      refine list_cons rfl (op_q (q_assign rfl (by decide)) ?_)
      refine list_cons rfl (op_q (q_assign rfl (by decide)) ?_)
      refine list_nil ?_
      refine hK9 _ ?_; clear hK9 K9
      refine codeT.imp (σ' := [(1, _), (2, _), (3, _), (4, _), (6, _)]) ?_ (imp_covers ⟨rfl, rfl, rfl, rfl, rfl, trivial⟩)
      refine code_seq (fun K10 hK10 => ?_)
      refine code_region ?_
      refine list_cons rfl (op_q (q_move rfl (by decide)) ?_)
      refine list_nil ?_
      refine hK10 _ ?_; clear hK10 K10
      refine code_cond_d rfl (fun h2 => ?_) (fun h2 => ?_)
      · skip
        (try simp only [Decidable.not_not] at h2)
        refine code_region ?_
        refine list_cons rfl (op_q (q_move rfl (by decide)) ?_)
        refine list_cons rfl (op_q (q_move rfl (by decide)) ?_)
        refine list_cons rfl (op_q (q_move rfl (by decide)) ?_)
        refine list_cons rfl (op_mapset (h := 1) (tk := .int .i64) (.inl rfl) rfl Tryd.underlying79 Tryd.underlying3 rfl rfl rfl rfl rfl rfl rfl (show findE (.int .i64) (.int .i64 (if 0 ≤ t6 ∧ t6 ≤ 9 then digT.getD t6.toNat 0 else 0)) (digE t6.toNat) 0 = some none by rw [if_pos h2]; exact digE_new _ (by omega)) ?_)
        refine list_nil ?_
        refine blk_n ?_
        refine hK7 _ ?_; clear hK7 K7
        refine codeT.imp (σ' := [(1, _), (2, _), (3, _), (4, _), (6, _)]) ?_ (imp_covers ⟨rfl, rfl, rfl, rfl, rfl, trivial⟩)
        refine code_region ?_
        refine list_cons rfl (op_q (by first | exact q_addI rfl rfl (by decide) (by omega) (by omega) | exact q_ib rfl rfl rfl (by decide)) ?_)
        refine list_cons rfl (op_q (q_move rfl (by decide)) ?_)
        refine list_nil ?_
        refine then_n ⟨(_, _), imp_covers ⟨rfl, rfl, trivial⟩, ?_, ?_⟩
        · (try dsimp only)
          refine ⟨by omega, by omega, ?_⟩
          rw [show (t6 + 1).toNat = t6.toNat + 1 by omega, digE_succ, if_pos h2]
          have e : ((t6.toNat : Nat) : Int) = t6 := by omega
          rw [e]
        · (try dsimp only); omega
      (try simp only [Decidable.not_not] at h2)
      refine code_skip ?_
      refine blk_n ?_
      refine hK7 _ ?_; clear hK7 K7
      refine code_region ?_
      refine list_cons rfl (op_q (by first | exact q_addI rfl rfl (by decide) (by omega) (by omega) | exact q_ib rfl rfl rfl (by decide)) ?_)
      refine list_cons rfl (op_q (q_move rfl (by decide)) ?_)
      refine list_nil ?_
      refine then_n ⟨(_, _), imp_covers ⟨rfl, rfl, trivial⟩, ?_, ?_⟩
      · (try dsimp only)
        exact absurd (⟨by omega, by omega⟩ : 0 ≤ t6 ∧ t6 ≤ 9) h2
      · (try dsimp only); omega
    (try simp only [Decidable.not_not] at h1)
    refine code_exit ?_
    refine then_x ?_; clear hK6 K6
    refine then_x ?_
    refine blk_hit ?_
    refine hK3 _ ?_; clear hK3 K3
    refine code_seq (fun K11 hK11 => ?_)
    refine code_region ?_
    refine list_cons rfl (op_q (q_move rfl (by decide)) ?_)
    refine list_cons rfl (op_q (q_assign rfl (by decide)) ?_)
    refine list_nil ?_
    refine hK11 _ ?_; clear hK11 K11
    refine code_ret ?_
    refine ends_ret (cs := []) rfl rfl rfl rfl trivial ?_
    rw [show t6.toNat = 10 by omega]

set_option maxRecDepth 4000 in
theorem impl_NumberOf (l : List Int) (hl : l.length ≤ 4611686018427387904) : PCalls Tryd.prog 36 [.sl l.length (l.map (.int .i64))] (· = [.val (.int .i64 (if RowP l ∧ DigsP l then numF l else 0)), .val (.bool (decide (RowP l ∧ DigsP l ∧ 0 < l.length)))]) := by
  refine pcalls_of_code (n := 39) az Tryd.func36 (by kernel_rfl) rfl rfl (Nat.le_of_ble_eq_true rfl) (by intro t u h; simp [Tryd.f36] at h) ?_
  refine code_seq (fun K1 hK1 => ?_)
  refine code_region ?_
  refine list_cons rfl (op_q (q_assign rfl (by decide)) ?_)
  refine list_cons rfl (op_q (q_assign rfl (by decide)) ?_)
  refine list_nil ?_
  refine hK1 _ ?_; clear hK1 K1
  refine code_seq (fun K2 hK2 => ?_)
  refine code_seq (fun K3 hK3 => ?_)
  refine code_region ?_
  refine list_cons rfl (op_q (q_move rfl (by decide)) ?_)
  refine list_cons rfl (op_call _ (impl_IsRow _ (by first | omega | (simp; omega))) rfl rfl (by decide) (by decide) (by decide) rfl ?_)
  rintro _ rfl
  refine list_cons rfl (op_q (by first | exact q_notd rfl (by decide) | exact q_not rfl (by decide)) ?_)
  refine list_cons rfl (op_q (q_move rfl (by decide)) ?_)
  refine list_guard_d rfl rfl rfl rfl (by decide) rfl (by decide) (fun h1 => ?_) (fun h1 => ?_)
  · simp only [Bool.false_eq_true, if_true, if_false, Decidable.not_not] at h1
    (try simp only [Decidable.not_not] at h1); (try have hl6 := (by assumption : RowP l).1)
    refine id (op_q (q_move rfl (by decide)) ?_)
    refine list_guard_y rfl rfl rfl rfl (by decide) rfl ?_
    refine id (op_q (q_len_sl Tryd.underlying35 rfl rfl (by decide)) ?_)
    refine list_guard_y rfl rfl rfl rfl (by decide) rfl ?_
    refine id (op_q (q_eq rfl rfl (by decide)) ?_)
    refine list_cons rfl (op_q (q_pick rfl rfl (by decide)) ?_)
    refine list_nil ?_
    refine hK3 _ ?_; clear hK3 K3
    refine codeT.imp (σ' := [(0, _), (2, _), (3, _), (17, _)]) ?_ (imp_covers ⟨rfl, rfl, rfl, rfl, trivial⟩)
    refine code_cond_d rfl (fun h2 => ?_) (fun h2 => ?_)
    · skip
      (try simp only [Decidable.not_not] at h2); (try have hl6 := (by assumption : RowP l).1)
      refine code_seq (fun K4 hK4 => ?_)
      refine code_region ?_
      refine list_cons rfl (op_q (q_assign rfl (by decide)) ?_)
      refine list_cons rfl (op_q (q_assign rfl (by decide)) ?_)
      refine list_nil ?_
      refine hK4 _ ?_; clear hK4 K4
      refine code_ret ?_
      refine then_r ?_; clear hK2 K2
      refine ends_ret (cs := []) rfl rfl rfl rfl trivial ?_
      rw [decide_eq_false (fun k => by omega), List.eq_nil_of_length_eq_zero (l := l) (by omega)]
      split <;> rfl
    (try simp only [Decidable.not_not] at h2); (try have hl6 := (by assumption : RowP l).1)
    refine code_skip ?_
    refine hK2 _ ?_; clear hK2 K2
    refine code_seq (fun K5 hK5 => ?_)
    refine code_region ?_
    refine list_cons rfl (op_call _ (impl_digits) rfl rfl (by decide) (by decide) (by decide) rfl ?_)
    rintro _ rfl
    refine list_cons rfl (op_q (q_assign rfl (by decide)) ?_)
    refine list_nil ?_
    refine hK5 _ ?_; clear hK5 K5
    refine codeT.imp (σ' := [(0, _), (2, _), (3, _), (4, _)]) ?_ (imp_covers ⟨rfl, rfl, rfl, rfl, trivial⟩)
    refine code_seq (fun K6 hK6 => ?_)
    refine code_region ?_
    refine list_cons rfl (op_q (q_assign rfl (by decide)) ?_)
    refine list_nil ?_
    refine hK6 _ ?_; clear hK6 K6
    refine code_seq (fun K7 hK7 => ?_)
    refine code_seq (fun K8 hK8 => ?_)
    refine code_region ?_
    refine list_cons rfl (op_q (q_move rfl (by decide)) ?_)
    refine list_cons rfl (op_q (q_len_sl Tryd.underlying35 rfl rfl (by decide)) ?_)
    refine list_cons rfl (op_q (q_move rfl (by decide)) ?_)
    refine list_nil ?_
    refine hK8 _ ?_; clear hK8 K8
    refine code_block ?_
    refine code_loop (X := Int × Bool × List (PV × PV) × Int × Int) (fun x => [(0, .par 0 (.sl l.length (l.map (.int .i64)))), (2, .val (.int .i64 x.1)), (3, .val (.bool x.2.1)), (4, .map 18 x.2.2.1), (5, .val (.int .i64 x.2.2.2.1)), (19, .par 0 (.sl l.length (l.map (.int .i64)))), (20, .val (.int .i64 l.length)), (21, .val (.int .i64 x.2.2.2.2))]) (fun x => 0 ≤ x.2.2.2.2 ∧ x.2.2.2.2 ≤ l.length ∧ x.2.2.1 = digE 10 ∧ x.2.2.2.1 = numF (l.take x.2.2.2.2.toNat) ∧ 0 ≤ x.2.2.2.1 ∧ x.2.2.2.1 + 1 ≤ 10 ^ x.2.2.2.2.toNat ∧ ∀ j, j < x.2.2.2.2.toNat → 0 ≤ digOf (l.getD j 0)) (fun x => l.length - x.2.2.2.2.toNat) (_, _, _, _, _) (imp_covers ⟨rfl, rfl, rfl, rfl, rfl, rfl, rfl, rfl, trivial⟩) ?_ ?_
    · (try dsimp only)
      refine ⟨by omega, by omega, rfl, rfl, by omega, by simp, fun j hj => by simp at hj⟩
    · intro x hI
      obtain ⟨t2, t3, digits_m, number, t21⟩ := x
      replace hI : 0 ≤ t21 ∧ t21 ≤ l.length ∧ digits_m = digE 10 ∧ number = numF (l.take t21.toNat) ∧ 0 ≤ number ∧ number + 1 ≤ 10 ^ t21.toNat ∧ ∀ j, j < t21.toNat → 0 ≤ digOf (l.getD j 0) := hI
      show codeT _ _ _ [(0, .par 0 (.sl l.length (l.map (.int .i64)))), (2, .val (.int .i64 t2)), (3, .val (.bool t3)), (4, .map 18 digits_m), (5, .val (.int .i64 number)), (19, .par 0 (.sl l.length (l.map (.int .i64)))), (20, .val (.int .i64 l.length)), (21, .val (.int .i64 t21))] _
      obtain ⟨i1, i2, rfl, i3, i4, i5, i6⟩ := hI
      have hp := pow10_le (i := t21.toNat) (by omega)
      have hd := digOf_le (l.getD t21.toNat 0)
      have hp2 : (10 : Int) ^ t21.toNat = ((10 ^ t21.toNat : Nat) : Int) := by simp
      refine code_seq (fun K9 hK9 => ?_)
      refine code_region ?_
      refine list_cons rfl (op_q (q_lt rfl rfl (by decide)) ?_)
      refine list_nil ?_
      refine hK9 _ ?_; clear hK9 K9
      refine code_seq (fun K10 hK10 => ?_)
      refine code_cond_d rfl (fun h3 => ?_) (fun h3 => ?_)
      · skip
        (try simp only [Decidable.not_not] at h3); (try have hl6 := (by assumption : RowP l).1)
        refine code_skip ?_
        refine hK10 _ ?_; clear hK10 K10
        refine code_seq (fun K11 hK11 => ?_)
        refine code_block ?_
        refine code_seq (fun K12 hK12 => ?_)
        refine code_region ?_
        refine list_cons rfl (op_q (q_indexAddr_rd sl_35 rfl (.inl ⟨_, rfl, rfl⟩) rfl (by omega) (by omega) (by decide)) ?_)
        refine list_cons rfl (op_q (q_load_rd one_3 rfl (.inl ⟨_, (by first | rfl | exact congrArg (SV.rpar _) (drop_map1 _ 0 _ (by first | omega | (simp; omega)))), rfl⟩) (by decide)) ?_)
        refine list_cons rfl (op_q (q_assign rfl (by decide)) ?_)
        refine list_nil ?_
        refine hK12 _ ?_; clear hK12 K12
        refine code_seq (fun K13 hK13 => ?_)
        refine code_region ?_
        refine list_cons rfl (op_q (q_move rfl (by decide)) ?_)
        refine list_cons rfl (op_q (q_move rfl (by decide)) ?_)
        by_cases h4 : 0 ≤ digOf (l.getD t21.toNat 0)
        · skip
          refine list_cons rfl (op_q (q_lookup (tk := .int .i64) Tryd.underlying79 Tryd.underlying3 zvt_3 rfl rfl rfl (digE_hit _ h4) (by decide)) ?_)
          refine list_cons rfl (op_q (q_move rfl (by decide)) ?_)
          refine list_cons rfl (op_q (q_extract rfl rfl (by decide)) ?_)
          refine list_cons rfl (op_q (q_extract rfl rfl (by decide)) ?_)
          refine list_cons rfl (op_q (q_assign rfl (by decide)) ?_)
          refine list_cons rfl (op_q (q_assign rfl (by decide)) ?_)
          refine list_nil ?_
          refine hK13 _ ?_; clear hK13 K13
          refine codeT.imp (σ' := [(0, _), (2, _), (3, _), (4, _), (5, _), (7, _), (8, _), (9, _), (19, _), (20, _), (21, _)]) ?_ (imp_covers ⟨rfl, rfl, rfl, rfl, rfl, rfl, rfl, rfl, rfl, rfl, rfl, trivial⟩)
          refine code_seq (fun K14 hK14 => ?_)
          refine code_seq (fun K15 hK15 => ?_)
          refine code_region ?_
          refine list_cons rfl (op_q (q_move rfl (by decide)) ?_)
          refine list_cons rfl (op_q (by first | exact q_notd rfl (by decide) | exact q_not rfl (by decide)) ?_)
          refine list_nil ?_
          refine hK15 _ ?_; clear hK15 K15
          refine code_cond_f rfl ?_
          refine code_skip ?_
          refine hK14 _ ?_; clear hK14 K14
          refine code_region ?_
          refine list_cons rfl (op_q (q_move rfl (by decide)) ?_)
          refine list_cons rfl (op_q (by first | exact q_mulI rfl rfl (by decide) (by omega) (by omega) | exact q_ib rfl rfl rfl (by decide)) ?_)
          refine list_cons rfl (op_q (q_move rfl (by decide)) ?_)
          refine list_cons rfl (op_q (by first | exact q_addI rfl rfl (by decide) (by omega) (by omega) | exact q_ib rfl rfl rfl (by decide)) ?_)
          refine list_cons rfl (op_q (q_assign rfl (by decide)) ?_)
          refine list_nil ?_
          refine blk_n ?_
          refine hK11 _ ?_; clear hK11 K11
          refine code_region ?_
          refine list_cons rfl (op_q (by first | exact q_addI rfl rfl (by decide) (by omega) (by omega) | exact q_ib rfl rfl rfl (by decide)) ?_)
          refine list_cons rfl (op_q (q_move rfl (by decide)) ?_)
          refine list_nil ?_
          refine then_n ⟨(_, _, _, _, _), imp_covers ⟨rfl, rfl, rfl, rfl, rfl, rfl, rfl, rfl, trivial⟩, ?_, ?_⟩
          · (try dsimp only)
            refine ⟨by omega, by omega, rfl, ?_, by omega, ?_, fun j hj => ?_⟩
            · rw [show (t21 + 1).toNat = t21.toNat + 1 by omega, numF, foldl_take _ 0 _ _ (by omega), i3]; rfl
            · rw [show (t21 + 1).toNat = t21.toNat + 1 by omega, Int.pow_succ]; omega
            · by_cases e : j = t21.toNat
              · subst e; omega
              · exact i6 j (by omega)
          · (try dsimp only); omega
        · skip
          refine list_cons rfl (op_q (q_lookup (tk := .int .i64) Tryd.underlying79 Tryd.underlying3 zvt_3 rfl rfl rfl (digE_miss _ h4) (by decide)) ?_)
          refine list_cons rfl (op_q (q_move rfl (by decide)) ?_)
          refine list_cons rfl (op_q (q_extract rfl rfl (by decide)) ?_)
          refine list_cons rfl (op_q (q_extract rfl rfl (by decide)) ?_)
          refine list_cons rfl (op_q (q_assign rfl (by decide)) ?_)
          refine list_cons rfl (op_q (q_assign rfl (by decide)) ?_)
          refine list_nil ?_
          refine hK13 _ ?_; clear hK13 K13
          refine codeT.imp (σ' := [(0, _), (2, _), (3, _), (4, _), (5, _), (7, _), (8, _), (9, _), (19, _), (20, _), (21, _)]) ?_ (imp_covers ⟨rfl, rfl, rfl, rfl, rfl, rfl, rfl, rfl, rfl, rfl, rfl, trivial⟩)
          refine code_seq (fun K16 hK16 => ?_)
          refine code_seq (fun K17 hK17 => ?_)
          refine code_region ?_
          refine list_cons rfl (op_q (q_move rfl (by decide)) ?_)
          refine list_cons rfl (op_q (by first | exact q_notd rfl (by decide) | exact q_not rfl (by decide)) ?_)
          refine list_nil ?_
          refine hK17 _ ?_; clear hK17 K17
          refine code_cond_t rfl ?_
          refine code_seq (fun K18 hK18 => ?_)
          refine code_region ?_
          refine list_cons rfl (op_q (q_assign rfl (by decide)) ?_)
          refine list_cons rfl (op_q (q_assign rfl (by decide)) ?_)
          refine list_nil ?_
          refine hK18 _ ?_; clear hK18 K18
          refine code_ret ?_
          refine then_r ?_; clear hK16 K16
          refine blk_r ?_
          refine then_r ?_; clear hK11 K11
          refine then_r ?_
          refine blk_r ?_
          refine then_r ?_; clear hK7 K7
          refine ends_ret (cs := []) rfl rfl rfl rfl trivial ?_
          have e : ¬ DigsP l := fun k => h4 (k.at (by omega))
          rw [if_neg (fun k => e k.2), decide_eq_false (fun k => e k.2.1)]
      (try simp only [Decidable.not_not] at h3); (try have hl6 := (by assumption : RowP l).1)
      refine code_exit ?_
      refine then_x ?_; clear hK10 K10
      refine then_x ?_
      refine blk_hit ?_
      refine hK7 _ ?_; clear hK7 K7
      refine code_seq (fun K19 hK19 => ?_)
      refine code_region ?_
      refine list_cons rfl (op_q (q_move rfl (by decide)) ?_)
      refine list_cons rfl (op_q (q_assign rfl (by decide)) ?_)
      refine list_cons rfl (op_q (q_assign rfl (by decide)) ?_)
      refine list_nil ?_
      refine hK19 _ ?_; clear hK19 K19
      refine code_ret ?_
      refine ends_ret (cs := []) rfl rfl rfl rfl trivial ?_
      have e : DigsP l := DigsP.of fun j hj => i6 j (by omega)
      rw [if_pos ⟨h1, e⟩, decide_eq_true ⟨h1, e, by omega⟩, i3, List.take_of_length_le (by omega)]
  simp only [Bool.false_eq_true, if_true, if_false, Decidable.not_not] at h1
  (try simp only [Decidable.not_not] at h1); (try have hl6 := (by assumption : RowP l).1)
  refine list_guard_n rfl rfl rfl rfl (by decide) rfl ?_
  refine list_guard_n rfl rfl rfl rfl (by decide) rfl ?_
  refine list_cons rfl (op_q (q_pick rfl rfl (by decide)) ?_)
  refine list_nil ?_
  refine hK3 _ ?_; clear hK3 K3
  refine code_cond_t rfl ?_
  refine code_seq (fun K20 hK20 => ?_)
  refine code_region ?_
  refine list_cons rfl (op_q (q_assign rfl (by decide)) ?_)
  refine list_cons rfl (op_q (q_assign rfl (by decide)) ?_)
  refine list_nil ?_
  refine hK20 _ ?_; clear hK20 K20
  refine code_ret ?_
  refine then_r ?_; clear hK2 K2
  refine ends_ret (cs := []) rfl rfl rfl rfl trivial ?_
  rw [if_neg (fun k => h1 k.1), decide_eq_false (fun k => h1 k.1)]

set_option maxRecDepth 4000 in
theorem impl_greatestShown (k : Int) : PCalls Tryd.prog 100 [.int .i64 k] (· = [.val (.int .i64 (if 1 ≤ k ∧ k ≤ 6 then top4 k - 1 else 0)), .val (.bool (decide (1 ≤ k ∧ k ≤ 6)))]) := by
  refine pcalls_of_code (n := 19) az Tryd.func100 (by kernel_rfl) rfl rfl (Nat.le_of_ble_eq_true rfl) (by intro t u h; simp [Tryd.f100] at h) ?_
  refine code_seq (fun K1 hK1 => ?_)
  refine code_region ?_
  refine list_cons rfl (op_q (q_assign rfl (by decide)) ?_)
  refine list_cons rfl (op_q (q_assign rfl (by decide)) ?_)
  refine list_nil ?_
  refine hK1 _ ?_; clear hK1 K1
  refine code_seq (fun K2 hK2 => ?_)
  refine code_seq (fun K3 hK3 => ?_)
  refine code_region ?_
  refine list_cons rfl (op_q (q_move rfl (by decide)) ?_)
  refine list_cons rfl (op_q (q_lt rfl rfl (by decide)) ?_)
  refine list_cons rfl (op_q (q_move rfl (by decide)) ?_)
  refine list_guard_d rfl rfl rfl rfl (by decide) rfl (by decide) (fun h1 => ?_) (fun h1 => ?_)
  · simp only [Bool.false_eq_true, if_true, if_false, Decidable.not_not] at h1
    refine id (op_q (q_move rfl (by decide)) ?_)
    refine list_guard_y rfl rfl rfl rfl (by decide) rfl ?_
    refine id (op_q (q_gt rfl rfl (by decide)) ?_)
    refine list_cons rfl (op_q (q_pick rfl rfl (by decide)) ?_)
    refine list_nil ?_
    refine hK3 _ ?_; clear hK3 K3
    refine code_cond_d rfl (fun h2 => ?_) (fun h2 => ?_)
    · skip
      (try simp only [Decidable.not_not] at h2)
      refine code_seq (fun K4 hK4 => ?_)
      refine code_region ?_
      refine list_cons rfl (op_q (q_assign rfl (by decide)) ?_)
      refine list_cons rfl (op_q (q_assign rfl (by decide)) ?_)
      refine list_nil ?_
      refine hK4 _ ?_; clear hK4 K4
      refine code_ret ?_
      refine then_r ?_; clear hK2 K2
      refine ends_ret (cs := []) rfl rfl rfl rfl trivial ?_
      first | (have e : ¬ (1 ≤ k ∧ k ≤ 6) := (by omega); simp only [if_neg e, decide_eq_false e]) | (have e : 1 ≤ t11 ∧ t11 ≤ 6 := (by omega); simp only [if_pos e, decide_eq_true e]; rw [show t12 = t11 by omega])
    (try simp only [Decidable.not_not] at h2)
    refine code_skip ?_
    refine hK2 _ ?_; clear hK2 K2
    refine code_seq (fun K5 hK5 => ?_)
    refine code_region ?_
    refine list_cons rfl (op_q (q_assign rfl (by decide)) ?_)
    refine list_nil ?_
    refine hK5 _ ?_; clear hK5 K5
    refine code_seq (fun K6 hK6 => ?_)
    refine code_seq (fun K7 hK7 => ?_)
    refine code_region ?_
    refine list_cons rfl (op_q (q_move rfl (by decide)) ?_)
    refine list_cons rfl (op_q (q_move rfl (by decide)) ?_)
    refine list_nil ?_
    refine hK7 _ ?_; clear hK7 K7
    refine code_block ?_
    refine code_loop (X := Int × Bool × Int × Int × Int) (fun x => [(0, .val (.int .i64 k)), (2, .val (.int .i64 x.1)), (3, .val (.bool x.2.1)), (4, .val (.int .i64 x.2.2.1)), (11, .val (.int .i64 x.2.2.2.1)), (12, .val (.int .i64 x.2.2.2.2))]) (fun x => 0 ≤ x.2.2.2.2 ∧ x.2.2.2.2 ≤ k ∧ x.2.2.1 = top4 x.2.2.2.2 - 1 ∧ x.2.2.2.1 = k) (fun x => (k - x.2.2.2.2).toNat) (_, _, _, _, _) (imp_covers ⟨rfl, rfl, rfl, rfl, rfl, rfl, trivial⟩) ?_ ?_
    · (try dsimp only)
      exact ⟨by omega, by omega, rfl, rfl⟩
    · intro x hI
      obtain ⟨t2, t3, greatest, t11, t12⟩ := x
      replace hI : 0 ≤ t12 ∧ t12 ≤ k ∧ greatest = top4 t12 - 1 ∧ t11 = k := hI
      show codeT _ _ _ [(0, .val (.int .i64 k)), (2, .val (.int .i64 t2)), (3, .val (.bool t3)), (4, .val (.int .i64 greatest)), (11, .val (.int .i64 t11)), (12, .val (.int .i64 t12))] _
      obtain ⟨i1, i2, rfl, rfl⟩ := hI
      have ht := top4_le i1 (by omega)
      refine code_seq (fun K8 hK8 => ?_)
      refine code_region ?_
      refine list_cons rfl (op_q (q_lt rfl rfl (by decide)) ?_)
      refine list_nil ?_
      refine hK8 _ ?_; clear hK8 K8
      refine code_seq (fun K9 hK9 => ?_)
      refine code_cond_d rfl (fun h3 => ?_) (fun h3 => ?_)
      · skip
        (try simp only [Decidable.not_not] at h3)
        refine code_skip ?_
        refine hK9 _ ?_; clear hK9 K9
        refine code_seq (fun K10 hK10 => ?_)
        refine code_block ?_
        refine code_region ?_
        refine list_cons rfl (op_q (q_move rfl (by decide)) ?_)
        refine list_cons rfl (op_q (by first | exact q_mulI rfl rfl (by decide) (by omega) (by omega) | exact q_ib rfl rfl rfl (by decide)) ?_)
        refine list_cons rfl (op_q (by first | exact q_addI rfl rfl (by decide) (by omega) (by omega) | exact q_ib rfl rfl rfl (by decide)) ?_)
        refine list_cons rfl (op_q (q_assign rfl (by decide)) ?_)
        refine list_nil ?_
        refine blk_n ?_
        refine hK10 _ ?_; clear hK10 K10
        refine code_region ?_
        refine list_cons rfl (op_q (by first | exact q_addI rfl rfl (by decide) (by omega) (by omega) | exact q_ib rfl rfl rfl (by decide)) ?_)
        refine list_cons rfl (op_q (q_move rfl (by decide)) ?_)
        refine list_nil ?_
        refine then_n ⟨(_, _, _, _, _), imp_covers ⟨rfl, rfl, rfl, rfl, rfl, rfl, trivial⟩, ?_, ?_⟩
        · (try dsimp only)
          refine ⟨by omega, by omega, ?_, rfl⟩
          unfold top4
          rw [show (t12 + 1).toNat = t12.toNat + 1 by omega, Nat.pow_succ]; omega
        · (try dsimp only); omega
      (try simp only [Decidable.not_not] at h3)
      refine code_exit ?_
      refine then_x ?_; clear hK9 K9
      refine then_x ?_
      refine blk_hit ?_
      refine hK6 _ ?_; clear hK6 K6
      refine code_seq (fun K11 hK11 => ?_)
      refine code_region ?_
      refine list_cons rfl (op_q (q_move rfl (by decide)) ?_)
      refine list_cons rfl (op_q (q_assign rfl (by decide)) ?_)
      refine list_cons rfl (op_q (q_assign rfl (by decide)) ?_)
      refine list_nil ?_
      refine hK11 _ ?_; clear hK11 K11
      refine code_ret ?_
      refine ends_ret (cs := []) rfl rfl rfl rfl trivial ?_
      first | (have e : ¬ (1 ≤ k ∧ k ≤ 6) := (by omega); simp only [if_neg e, decide_eq_false e]) | (have e : 1 ≤ t11 ∧ t11 ≤ 6 := (by omega); simp only [if_pos e, decide_eq_true e]; rw [show t12 = t11 by omega])
  simp only [Bool.false_eq_true, if_true, if_false, Decidable.not_not] at h1
  refine list_guard_n rfl rfl rfl rfl (by decide) rfl ?_
  refine list_cons rfl (op_q (q_pick rfl rfl (by decide)) ?_)
  refine list_nil ?_
  refine hK3 _ ?_; clear hK3 K3
  refine code_cond_t rfl ?_
  refine code_seq (fun K12 hK12 => ?_)
  refine code_region ?_
  refine list_cons rfl (op_q (q_assign rfl (by decide)) ?_)
  refine list_cons rfl (op_q (q_assign rfl (by decide)) ?_)
  refine list_nil ?_
  refine hK12 _ ?_; clear hK12 K12
  refine code_ret ?_
  refine then_r ?_; clear hK2 K2
  refine ends_ret (cs := []) rfl rfl rfl rfl trivial ?_
  first | (have e : ¬ (1 ≤ k ∧ k ≤ 6) := (by omega); simp only [if_neg e, decide_eq_false e]) | (have e : 1 ≤ t11 ∧ t11 ≤ 6 := (by omega); simp only [if_pos e, decide_eq_true e]; rw [show t12 = t11 by omega])

set_option maxRecDepth 4000 in
theorem impl_isShown (n k : Int) : PCalls Tryd.prog 97 [.int .i64 n, .int .i64 k] (· = [.val (.bool (decide (Cn n k)))]) := by
  refine pcalls_of_code (n := 22) az Tryd.func97 (by kernel_rfl) rfl rfl (Nat.le_of_ble_eq_true rfl) (by intro t u h; simp [Tryd.f97] at h) ?_
  refine code_seq (fun K1 hK1 => ?_)
  refine code_region ?_
  refine list_cons rfl (op_q (q_assign rfl (by decide)) ?_)
  refine list_nil ?_
  refine hK1 _ ?_; clear hK1 K1
  refine code_seq (fun K2 hK2 => ?_)
  refine code_region ?_
  refine list_cons rfl (op_q (q_move rfl (by decide)) ?_)
  refine list_cons rfl (op_call _ (impl_greatestShown k) rfl rfl (by decide) (by decide) (by decide) rfl ?_)
  rintro _ rfl
  refine list_cons rfl (op_q (q_move rfl (by decide)) ?_)
  refine list_cons rfl (op_q (q_extract rfl rfl (by decide)) ?_)
  refine list_cons rfl (op_q (q_extract rfl rfl (by decide)) ?_)
  refine list_cons rfl (op_q (q_assign rfl (by decide)) ?_)
  refine list_cons rfl (op_q (q_assign rfl (by decide)) ?_)
  refine list_nil ?_
  refine hK2 _ ?_; clear hK2 K2
  refine codeT.imp (σ' := [(0, _), (1, _), (4, _), (5, _), (6, _)]) ?_ (imp_covers ⟨rfl, rfl, rfl, rfl, rfl, trivial⟩)
  refine code_seq (fun K3 hK3 => ?_)
  refine code_region ?_
  refine list_cons rfl (op_q (q_move rfl (by decide)) ?_)
  refine list_cons rfl (op_q (q_move rfl (by decide)) ?_)
  refine list_guard_d rfl rfl rfl rfl (by decide) rfl (by decide) (fun h1 => ?_) (fun h1 => ?_)
  · simp only [Bool.false_eq_true, if_true, if_false, Decidable.not_not] at h1
    refine id (op_q (q_move rfl (by decide)) ?_)
    refine list_guard_y rfl rfl rfl rfl (by decide) rfl ?_
    refine id (op_q (q_ge rfl rfl (by decide)) ?_)
    refine list_cons rfl (op_q (q_pick rfl rfl (by decide)) ?_)
    refine list_cons rfl (op_q (q_move rfl (by decide)) ?_)
    refine list_guard_d rfl rfl rfl rfl (by decide) rfl (by decide) (fun h2 => ?_) (fun h2 => ?_)
    · simp only [Bool.false_eq_true, if_true, if_false, Decidable.not_not] at h2
      refine id (op_q (q_move rfl (by decide)) ?_)
      refine list_guard_y rfl rfl rfl rfl (by decide) rfl ?_
      refine id (op_q (q_move rfl (by decide)) ?_)
      refine list_guard_y rfl rfl rfl rfl (by decide) rfl ?_
      refine id (op_q (q_le rfl rfl (by decide)) ?_)
      refine list_cons rfl (op_q (q_pick rfl rfl (by decide)) ?_)
      refine list_cons rfl (op_q (q_assign rfl (by decide)) ?_)
      refine list_nil ?_
      refine hK3 _ ?_; clear hK3 K3
      refine codeT.imp (σ' := [(0, _), (1, _), (4, _), (5, _), (6, _)]) ?_ (imp_covers ⟨rfl, rfl, rfl, rfl, rfl, trivial⟩)
      refine code_ret ?_
      refine ends_ret (cs := []) rfl rfl rfl rfl trivial ?_
      first | (have e : ¬ Cn n k := (by unfold Cn; omega); simp only [decide_eq_false e]) | (have h0 := h2; have e : 1 ≤ k ∧ k ≤ 6 := (by omega); simp only [if_pos e, List.cons.injEq, SV.val.injEq, PV.bool.injEq, and_true, decide_eq_decide]; unfold Cn; omega)
    simp only [Bool.false_eq_true, if_true, if_false, Decidable.not_not] at h2
    refine list_guard_n rfl rfl rfl rfl (by decide) rfl ?_
    refine list_guard_n rfl rfl rfl rfl (by decide) rfl ?_
    refine list_cons rfl (op_q (q_pick rfl rfl (by decide)) ?_)
    refine list_cons rfl (op_q (q_assign rfl (by decide)) ?_)
    refine list_nil ?_
    refine hK3 _ ?_; clear hK3 K3
    refine codeT.imp (σ' := [(0, _), (1, _), (4, _), (5, _), (6, _)]) ?_ (imp_covers ⟨rfl, rfl, rfl, rfl, rfl, trivial⟩)
    refine code_ret ?_
    refine ends_ret (cs := []) rfl rfl rfl rfl trivial ?_
    first | (have e : ¬ Cn n k := (by unfold Cn; omega); simp only [decide_eq_false e]) | (have h0 := h2; have e : 1 ≤ k ∧ k ≤ 6 := (by omega); simp only [if_pos e, List.cons.injEq, SV.val.injEq, PV.bool.injEq, and_true, decide_eq_decide]; unfold Cn; omega)
  simp only [Bool.false_eq_true, if_true, if_false, Decidable.not_not] at h1
  refine list_guard_n rfl rfl rfl rfl (by decide) rfl ?_
  refine list_cons rfl (op_q (q_pick rfl rfl (by decide)) ?_)
  refine list_cons rfl (op_q (q_move rfl (by decide)) ?_)
  refine list_guard_n rfl rfl rfl rfl (by decide) rfl ?_
  refine list_guard_n rfl rfl rfl rfl (by decide) rfl ?_
  refine list_guard_n rfl rfl rfl rfl (by decide) rfl ?_
  refine list_cons rfl (op_q (q_pick rfl rfl (by decide)) ?_)
  refine list_cons rfl (op_q (q_assign rfl (by decide)) ?_)
  refine list_nil ?_
  refine hK3 _ ?_; clear hK3 K3
  refine code_ret ?_
  refine ends_ret (cs := []) rfl rfl rfl rfl trivial ?_
  first | (have e : ¬ Cn n k := (by unfold Cn; omega); simp only [decide_eq_false e]) | (have h0 := h1; have e : 1 ≤ k ∧ k ≤ 6 := (by omega); simp only [if_pos e, List.cons.injEq, SV.val.injEq, PV.bool.injEq, and_true, decide_eq_decide]; unfold Cn; omega)

set_option maxRecDepth 4000 in
theorem impl_CounterRow (n k : Int) : PCalls Tryd.prog 27 [.int .i64 n, .int .i64 k] (· = [.own 0 3 1 (if Cn n k then rowC n k else []).length ((if Cn n k then rowC n k else []).map (.int .i64)), .val (.bool (decide (Cn n k)))]) := by
  refine pcalls_of_code (n := 41) az Tryd.func27 (by kernel_rfl) rfl rfl (Nat.le_of_ble_eq_true rfl) (by intro t u h; simp [Tryd.f27] at h) ?_
  refine code_seq (fun K1 hK1 => ?_)
  refine code_region ?_
  refine list_cons rfl (op_q (q_assign rfl (by decide)) ?_)
  refine list_cons rfl (op_q (q_assign rfl (by decide)) ?_)
  refine list_nil ?_
  refine hK1 _ ?_; clear hK1 K1
  refine code_seq (fun K2 hK2 => ?_)
  refine code_seq (fun K3 hK3 => ?_)
  refine code_region ?_
  refine list_cons rfl (op_q (q_move rfl (by decide)) ?_)
  refine list_cons rfl (op_q (q_move rfl (by decide)) ?_)
  refine list_cons rfl (op_call _ (impl_isShown _ _) rfl rfl (by decide) (by decide) (by decide) rfl ?_)
  rintro _ rfl
  refine list_cons rfl (op_q (by first | exact q_notd rfl (by decide) | exact q_not rfl (by decide)) ?_)
  refine list_nil ?_
  refine hK3 _ ?_; clear hK3 K3
  refine codeT.imp (σ' := [(0, _), (1, _), (4, _), (5, _), (14, _)]) ?_ (imp_covers ⟨rfl, rfl, rfl, rfl, rfl, trivial⟩)
  refine code_cond_d rfl (fun h1 => ?_) (fun h1 => ?_)
  · skip
    (try simp only [Decidable.not_not] at h1)
    (try have hk := Cn_bd h1)
    refine code_seq (fun K4 hK4 => ?_)
    refine code_region ?_
    refine list_cons rfl (op_buildSlice sl_35 (parts := []) rfl rfl rfl (by decide) (by decide) (by decide) rfl ?_)
    refine list_cons rfl (op_q (q_assign rfl (by decide)) ?_)
    refine list_cons rfl (op_q (q_assign rfl (by decide)) ?_)
    refine list_nil ?_
    refine hK4 _ ?_; clear hK4 K4
    refine code_ret ?_
    refine then_r ?_; clear hK2 K2
    refine ends_ret (cs := []) rfl rfl rfl rfl trivial ?_
    first
      | (have e : ¬ (Cn n k) := by (first | assumption | (unfold Cn at *; omega))
         simp only [if_neg e, decide_eq_false e]; try rfl)
      | (have e : Cn n k := by (first | assumption | (unfold Cn at *; omega))
         simp only [if_pos e, decide_eq_true e]; try rfl)
  (try simp only [Decidable.not_not] at h1)
  (try have hk := Cn_bd h1)
  refine code_skip ?_
  refine hK2 _ ?_; clear hK2 K2
  refine code_seq (fun K5 hK5 => ?_)
  refine code_region ?_
  refine list_cons rfl (op_q (q_move rfl (by decide)) ?_)
  refine list_cons rfl (op_makeI sl_35 rfl rfl (by omega) (by omega) (by decide) (by decide) rfl ?_)
  refine list_cons rfl (op_q (q_assign rfl (by decide)) ?_)
  refine list_nil ?_
  refine hK5 _ ?_; clear hK5 K5
  refine code_seq (fun K6 hK6 => ?_)
  refine code_region ?_
  refine list_cons rfl (op_q (q_move rfl (by decide)) ?_)
  refine list_cons rfl (op_q (q_assign rfl (by decide)) ?_)
  refine list_nil ?_
  refine hK6 _ ?_; clear hK6 K6
  refine code_seq (fun K7 hK7 => ?_)
  refine code_seq (fun K8 hK8 => ?_)
  refine code_region ?_
  refine list_cons rfl (op_q (q_move rfl (by decide)) ?_)
  refine list_cons rfl (op_q (by first | exact q_subI rfl rfl (by decide) (by omega) (by omega) | exact q_ib rfl rfl rfl (by decide)) ?_)
  refine list_cons rfl (op_q (q_assign rfl (by decide)) ?_)
  refine list_nil ?_
  refine hK8 _ ?_; clear hK8 K8
  refine code_block ?_
  refine code_loop (X := PV × Bool × Nat × List PV × Int × Int) (fun x => [(0, .val (.int .i64 n)), (1, .val (.int .i64 k)), (4, .val x.1), (5, .val (.bool x.2.1)), (6, .own 17 3 1 x.2.2.1 x.2.2.2.1), (7, .val (.int .i64 x.2.2.2.2.1)), (8, .val (.int .i64 x.2.2.2.2.2))]) (fun x => -1 ≤ x.2.2.2.2.2 ∧ x.2.2.2.2.2 ≤ k - 1 ∧ Cn n k ∧ 0 ≤ x.2.2.2.2.1 ∧ x.2.2.2.2.1 ≤ 999999 ∧ x.2.2.1 = k.toNat ∧ ∃ l : List Int, x.2.2.2.1 = (List.replicate (x.2.2.2.2.2 + 1).toNat 0 ++ l).map (.int .i64) ∧ l.length = k.toNat - (x.2.2.2.2.2 + 1).toNat ∧ rowK (x.2.2.2.2.2 + 1).toNat x.2.2.2.2.1.toNat ++ l = rowC n k) (fun x => (x.2.2.2.2.2 + 1).toNat) (_, _, _, _, _, _) (imp_covers ⟨rfl, rfl, rfl, rfl, rfl, rfl, rfl, trivial⟩) ?_ ?_
  · (try dsimp only)
    have hc := h1
    have ht := top4_le (k := k) (by unfold Cn at hc; omega) (by unfold Cn at hc; omega)
    refine ⟨by have := hc.1; omega, by omega, hc, hc.2.1, by have := hc.2.2; omega, rfl, [], ?_, (by simp), ?_⟩
    · rw [show (k - 1 + 1).toNat = k.toNat by omega]; exact (zeros_map1 (PV.int .i64) 0 _).trans (by simp)
    · rw [show (k - 1 + 1).toNat = k.toNat by omega]
      try simp [rowC]
  · intro x hI
    obtain ⟨t4_p, t5, row_n, row_c, left, place⟩ := x
    replace hI : -1 ≤ place ∧ place ≤ k - 1 ∧ Cn n k ∧ 0 ≤ left ∧ left ≤ 999999 ∧ row_n = k.toNat ∧ ∃ l : List Int, row_c = (List.replicate (place + 1).toNat 0 ++ l).map (.int .i64) ∧ l.length = k.toNat - (place + 1).toNat ∧ rowK (place + 1).toNat left.toNat ++ l = rowC n k := hI
    show codeT _ _ _ [(0, .val (.int .i64 n)), (1, .val (.int .i64 k)), (4, .val t4_p), (5, .val (.bool t5)), (6, .own 17 3 1 row_n row_c), (7, .val (.int .i64 left)), (8, .val (.int .i64 place))] _
    obtain ⟨i1, i2, hc, i3, i4, rfl, l, rfl, i5, i6⟩ := hI
    have hk := hc.1
    have hp : ∀ c : Int, 0 ≤ place → putAt ((List.replicate (place + 1).toNat 0 ++ l).map (PV.int .i64)) (place.toNat * 1) [PV.int .i64 c] = (List.replicate place.toNat 0 ++ (c :: l)).map (PV.int .i64) := fun c hpl => by
      rw [put_map1 (PV.int .i64) _ (by simp; omega), List.set_append_left _ _ (by simp; omega), show (place + 1).toNat = place.toNat + 1 by omega, List.replicate_succ', List.set_append_right _ _ (by simp)]
      simp
    refine code_seq (fun K9 hK9 => ?_)
    refine code_seq (fun K10 hK10 => ?_)
    refine code_region ?_
    refine list_cons rfl (op_q (q_move rfl (by decide)) ?_)
    refine list_cons rfl (op_q (q_ge rfl rfl (by decide)) ?_)
    refine list_nil ?_
    refine hK10 _ ?_; clear hK10 K10
    refine code_cond_d rfl (fun h2 => ?_) (fun h2 => ?_)
    · skip
      (try simp only [Decidable.not_not] at h2)
      (try have hk := Cn_bd h2)
      refine code_skip ?_
      refine hK9 _ ?_; clear hK9 K9
      refine code_seq (fun K11 hK11 => ?_)
      refine code_block ?_
      refine code_seq (fun K12 hK12 => ?_)
      refine code_region ?_
      refine list_cons rfl (op_q (q_move rfl (by decide)) ?_)
      refine list_cons rfl (op_q (by first | exact q_remI rfl rfl (by decide) (by omega) (by omega) | exact q_rem rfl rfl (by omega) (by decide)) ?_)
      refine list_cons rfl (op_call _ (impl_CellOf _) rfl rfl (by decide) (by decide) (by decide) rfl ?_)
      rintro _ rfl
      refine list_cons rfl (op_q (q_move rfl (by decide)) ?_)
      refine list_cons rfl (op_q (q_extract rfl rfl (by decide)) ?_)
      refine list_cons rfl (op_q (q_extract rfl rfl (by decide)) ?_)
      refine list_cons rfl (op_q (q_assign rfl (by decide)) ?_)
      refine list_cons rfl (op_q (q_assign rfl (by decide)) ?_)
      refine list_nil ?_
      refine hK12 _ ?_; clear hK12 K12
      refine codeT.imp (σ' := [(0, _), (1, _), (4, _), (5, _), (6, _), (7, _), (8, _), (9, _), (10, _)]) ?_ (imp_covers ⟨rfl, rfl, rfl, rfl, rfl, rfl, rfl, rfl, rfl, trivial⟩)
      refine code_seq (fun K13 hK13 => ?_)
      refine code_seq (fun K14 hK14 => ?_)
      refine code_region ?_
      refine list_cons rfl (op_q (q_move rfl (by decide)) ?_)
      refine list_cons rfl (op_q (by first | exact q_notd rfl (by decide) | exact q_not rfl (by decide)) ?_)
      refine list_nil ?_
      refine hK14 _ ?_; clear hK14 K14
      refine code_cond_d rfl (fun h3 => ?_) (fun h3 => ?_)
      · skip
        (try simp only [Decidable.not_not] at h3)
        (try have hk := Cn_bd h3)
        refine code_seq (fun K15 hK15 => ?_)
        refine code_region ?_
        refine list_cons rfl (op_buildSlice sl_35 (parts := []) rfl rfl rfl (by decide) (by decide) (by decide) rfl ?_)
        refine list_cons rfl (op_q (q_assign rfl (by decide)) ?_)
        refine list_cons rfl (op_q (q_assign rfl (by decide)) ?_)
        refine list_nil ?_
        refine hK15 _ ?_; clear hK15 K15
        refine code_ret ?_
        refine then_r ?_; clear hK13 K13
        refine blk_r ?_
        refine then_r ?_; clear hK11 K11
        refine then_r ?_
        refine blk_r ?_
        refine then_r ?_; clear hK7 K7
        refine ends_ret (cs := []) rfl rfl rfl rfl trivial ?_
        exfalso; omega
      (try simp only [Decidable.not_not] at h3)
      (try have hk := Cn_bd h3)
      refine code_skip ?_
      refine hK13 _ ?_; clear hK13 K13
      refine code_seq (fun K16 hK16 => ?_)
      refine code_region ?_
      refine list_cons rfl (op_q (q_move rfl (by decide)) ?_)
      refine list_cons rfl (op_q (q_move rfl (by decide)) ?_)
      refine list_cons rfl (op_q (q_move rfl (by decide)) ?_)
      refine list_cons rfl (op_q (q_indexAddr_own sl_35 rfl rfl (by omega) (by omega) (by decide)) ?_)
      refine list_cons rfl (op_store (one_3).2 6 [6, 34] (by intro t ht; simp only [List.mem_cons, List.not_mem_nil, or_false] at ht; rcases ht with rfl | rfl <;> rfl) (.inl rfl) rfl rfl rfl rfl rfl rfl (by first | decide | omega | exact Nat.le_refl _ | (simp; done) | (simp; omega)) (by decide) rfl ?_)
      refine list_nil ?_
      refine hK16 _ ?_; clear hK16 K16
      refine codeT.imp (σ' := [(0, _), (1, _), (4, _), (5, _), (6, _), (7, _), (8, _), (9, _), (10, _)]) ?_ (imp_covers ⟨rfl, rfl, rfl, rfl, rfl, rfl, rfl, rfl, rfl, trivial⟩)
      refine code_region ?_
      refine list_cons rfl (op_q (q_move rfl (by decide)) ?_)
      refine list_cons rfl (op_q (by first | exact q_quoI rfl rfl (by decide) (by omega) (by omega) (by omega) | exact q_quoT rfl rfl (by omega) (by decide) (by omega) (by omega) | exact q_quo rfl rfl (by omega) (by decide)) ?_)
      refine list_cons rfl (op_q (q_assign rfl (by decide)) ?_)
      refine list_nil ?_
      refine blk_n ?_
      refine hK11 _ ?_; clear hK11 K11
      refine code_region ?_
      refine list_cons rfl (op_q (q_move rfl (by decide)) ?_)
      refine list_cons rfl (op_q (by first | exact q_subI rfl rfl (by decide) (by omega) (by omega) | exact q_ib rfl rfl rfl (by decide)) ?_)
      refine list_cons rfl (op_q (q_assign rfl (by decide)) ?_)
      refine list_nil ?_
      refine then_n ⟨(_, _, _, _, _, _), imp_covers ⟨rfl, rfl, rfl, rfl, rfl, rfl, rfl, trivial⟩, ?_, ?_⟩
      · (try dsimp only)
        refine ⟨by omega, by omega, hc, by omega, by omega, rfl, digT.getD (left % 10).toNat 0 :: l, ?_, ?_, ?_⟩
        · rw [show (place - 1 + 1).toNat = place.toNat by omega, if_pos (by omega)]; exact hp _ (by omega)
        · simp only [List.length_cons]; omega
        · rw [← i6, show (place - 1 + 1).toNat = place.toNat by omega, show (place + 1).toNat = place.toNat + 1 by omega, rowK, show (left / 10).toNat = left.toNat / 10 by omega, show (left % 10).toNat = left.toNat % 10 by omega]
          simp
      · (try dsimp only); omega
    (try simp only [Decidable.not_not] at h2)
    (try have hk := Cn_bd h2)
    refine code_exit ?_
    refine then_x ?_; clear hK9 K9
    refine then_x ?_
    refine blk_hit ?_
    refine hK7 _ ?_; clear hK7 K7
    refine code_seq (fun K17 hK17 => ?_)
    refine code_region ?_
    refine list_cons rfl (op_q (q_move rfl (by decide)) ?_)
    refine list_cons rfl (op_q (q_assign rfl (by decide)) ?_)
    refine list_cons rfl (op_q (q_assign rfl (by decide)) ?_)
    refine list_nil ?_
    refine hK17 _ ?_; clear hK17 K17
    refine code_ret ?_
    refine ends_ret (cs := []) rfl rfl rfl rfl trivial ?_
    have e0 : (place + 1).toNat = 0 := by omega
    rw [e0] at i5 i6
    have e6 : l = rowC n k := by simpa [rowK] using i6
    simp only [if_pos hc, decide_eq_true hc, e0, List.replicate_zero, List.nil_append, e6]
    rw [show (rowC n k).length = k.toNat from by unfold rowC; exact rowK_len _ _]

theorem rowC_T {t : Int} (h0 : 0 ≤ t) (h1 : t ≤ 1439) : rowC (100 * (t / 60) + t % 60) 4 = rowT t := by
  unfold rowC rowT
  rw [show Int.toNat 4 = 4 from rfl]
  simp only [rowK, List.nil_append, List.cons_append]
  rw [show (100 * (t / 60) + t % 60).toNat / 10 / 10 / 10 % 10 = (t / 60 / 10).toNat by omega, show (100 * (t / 60) + t % 60).toNat / 10 / 10 % 10 = (t / 60 % 10).toNat by omega, show (100 * (t / 60) + t % 60).toNat / 10 % 10 = (t % 60 / 10).toNat by omega, show (100 * (t / 60) + t % 60).toNat % 10 = (t % 60 % 10).toNat by omega]
theorem flat_app6 : ∀ {a b : List PV}, PV.flatL a = true → PV.flatL b = true → PV.flatL (a ++ b) = true
  | [], b, _, h => h
  | x :: a, b, h1, h2 => by
    simp only [PV.flatL, Bool.and_eq_true] at h1
    show (x.flat && PV.flatL (a ++ b)) = true
    rw [h1.1, flat_app6 h1.2 h2]; rfl
theorem snocQ {g g' : List (Int × Int)} {a b : Int} (h : g' = g ++ [(a, b)]) : ((g.length + 1, fl g ++ [PV.int .i64 a, PV.int .i64 b]) : Nat × List PV) = (g'.length, fl g') := by
  subst h; rw [List.length_append]; simp [fl]
theorem sameQ {g g' : List (Int × Int)} (h : g' = g) : ((g.length, fl g) : Nat × List PV) = (g'.length, fl g') := by rw [h]
theorem turnR6 {l : List Int} (h : RowP l) : RowP (turnL l) := ⟨by rw [turnL_len]; exact h.1, fun x hx => by
  unfold turnL at hx
  obtain ⟨y, _, rfl⟩ := List.mem_map.1 hx
  exact turnC_cell y⟩
theorem mirR6 {l : List Int} (h : RowP l) : RowP (mirL l) := ⟨by rw [mirL_len]; exact h.1, fun x hx => by
  unfold mirL at hx
  obtain ⟨y, _, rfl⟩ := List.mem_map.1 hx
  exact mirC_cell y⟩
theorem Cn_T {t : Int} (h : TmP t) : Cn (100 * (t / 60) + t % 60) 4 := by
  have h0 := h.1; have h1 := h.2
  exact ⟨by omega, by omega, by rw [show top4 4 = 10000 from rfl]; omega⟩
/-- What is wanted of the times from a on, so many minutes long, in their order. -/
def selF (a : Int) (p : Int → Prop) [DecidablePred p] (k : Nat) : List Int := ((List.range k).map fun (j : Nat) => (a + (j : Int)) % 1440).filter fun t => p t
theorem selF_succ (a : Int) (p : Int → Prop) [DecidablePred p] (k : Nat) : selF a p (k + 1) = selF a p k ++ if p ((a + (k : Int)) % 1440) then [(a + (k : Int)) % 1440] else [] := by
  unfold selF
  rw [List.range_succ, List.map_append, List.filter_append]
  congr 1
  rw [List.map_singleton, List.filter_cons]
  by_cases h : p ((a + (k : Int)) % 1440)
  · rw [if_pos (decide_eq_true h), if_pos h]; rfl
  · rw [if_neg (fun e => h (of_decide_eq_true e)), if_neg h]; rfl
theorem selF_len (a : Int) (p : Int → Prop) [DecidablePred p] (k : Nat) : (selF a p k).length ≤ k := by
  unfold selF; exact Nat.le_trans (List.length_filter_le _ _) (by simp)
theorem selF_yes {a : Int} {p : Int → Prop} [DecidablePred p] {m : Int} (h0 : 0 ≤ m) (h : p ((a + m) % 1440)) : (selF a p (m + 1).toNat) = selF a p m.toNat ++ [(a + m) % 1440] := by
  have e : ((m.toNat : Nat) : Int) = m := Int.toNat_of_nonneg h0
  rw [show (m + 1).toNat = m.toNat + 1 by omega, selF_succ, e, if_pos h]
theorem selF_no {a : Int} {p : Int → Prop} [DecidablePred p] {m : Int} (h0 : 0 ≤ m) (h : ¬ p ((a + m) % 1440)) : (selF a p (m + 1).toNat) = selF a p m.toNat := by
  have e : ((m.toNat : Nat) : Int) = m := Int.toNat_of_nonneg h0
  rw [show (m + 1).toNat = m.toNat + 1 by omega, selF_succ, e, if_neg h, List.append_nil]
theorem selF_pre (a : Int) (p : Int → Prop) [DecidablePred p] (m : Nat) : ∀ k, m ≤ k → ∃ r, selF a p k = selF a p m ++ r
  | 0, h => ⟨[], by rw [show m = 0 by omega, List.append_nil]⟩
  | k + 1, h => by
    by_cases e : m = k + 1
    · exact ⟨[], by rw [e, List.append_nil]⟩
    · obtain ⟨r, hr⟩ := selF_pre a p m k (by omega)
      exact ⟨_, by rw [selF_succ, hr, List.append_assoc]⟩
theorem selF_at {a : Int} {p : Int → Prop} [DecidablePred p] {m : Int} {k : Nat} (h0 : 0 ≤ m) (h1 : m < k) (h : p ((a + m) % 1440)) : (selF a p m.toNat).length < (selF a p k).length ∧ (selF a p k).getD (selF a p m.toNat).length 0 = (a + m) % 1440 := by
  obtain ⟨r, hr⟩ := selF_pre a p (m + 1).toNat k (by omega)
  rw [hr, selF_yes h0 h]
  refine ⟨by simp only [List.length_append, List.length_cons, List.length_nil]; omega, ?_⟩
  rw [List.getD_eq_getElem?_getD, List.append_assoc, List.getElem?_append_right (Nat.le_refl _), Nat.sub_self]
  rfl
theorem selF_K (q : Nat → Prop) [DecidablePred q] (p : Int → Prop) [DecidablePred p] : ∀ k : Nat, k ≤ 1440 → (∀ j : Nat, j < k → (q j ↔ p (j : Int))) → selF 0 p k = selK q k
  | 0, _, _ => rfl
  | k + 1, h, hq => by
    have e : (0 + (k : Int)) % 1440 = (k : Int) := by omega
    rw [selF_succ, selK_succ, selF_K q p k (by omega) (fun j hj => hq j (by omega)), e]
    by_cases hp : p (k : Int)
    · rw [if_pos hp, if_pos ((hq k (by omega)).2 hp)]
    · rw [if_neg hp, if_neg (fun z => hp ((hq k (by omega)).1 z))]
theorem selF_mem {a : Int} {p : Int → Prop} [DecidablePred p] {k : Nat} {x : Int} (h : x ∈ selF a p k) : 0 ≤ x ∧ x ≤ 1439 ∧ p x := by
  unfold selF at h
  obtain ⟨h1, h2⟩ := List.mem_filter.1 h
  obtain ⟨j, _, rfl⟩ := List.mem_map.1 h1
  exact ⟨by omega, by omega, of_decide_eq_true h2⟩
theorem selF_get {a : Int} {p : Int → Prop} [DecidablePred p] {k i : Nat} (h : i < (selF a p k).length) : 0 ≤ (selF a p k).getD i 0 ∧ (selF a p k).getD i 0 ≤ 1439 ∧ p ((selF a p k).getD i 0) := by
  have hm : (selF a p k).getD i 0 ∈ selF a p k := by
    rw [List.getD_eq_getElem?_getD, List.getElem?_eq_getElem h]; exact List.getElem_mem h
  exact selF_mem hm
theorem nb_bd {l : List Int} (hr : RowP l) : 0 ≤ (if RowP l ∧ DigsP l then numF l else 0) ∧ (if RowP l ∧ DigsP l then numF l else 0) ≤ 999999 := by
  by_cases hd : DigsP l
  · rw [if_pos ⟨hr, hd⟩]
    have := numI_bd hr.1
    rwa [if_pos hd] at this
  · rw [if_neg (fun z => hd z.2)]; omega
theorem take_snocF {L : List Int} {i : Nat} (h : i < L.length) : L.take (i + 1) = L.take i ++ [L.getD i 0] := by
  rw [List.take_add_one, List.getElem?_eq_getElem h, List.getD_eq_getElem?_getD, List.getElem?_eq_getElem h]; rfl
theorem snocI {L : List Int} {i : Nat} {v : Int} (h : i < L.length) (hv : v = L.getD i 0) : (((L.take i).length + 1, (L.take i).map (PV.int .i64) ++ [PV.int .i64 v]) : Nat × List PV) = ((L.take (i + 1)).length, (L.take (i + 1)).map (PV.int .i64)) := by
  subst hv
  rw [take_snocF h, List.length_append, List.map_append]; rfl
/-- The first time that mirrors. -/
theorem wait_first {t : Int} (h : TmP t) : 0 < (selF t MirP 1440).length ∧ ((selF t MirP 1440).getD 0 0 - t + 1440) % 1440 = ((waitN t : Nat) : Int) := by
  have h0 := h.1; have h1 := h.2
  have key : ∀ k : Nat, k ≤ 1440 → (∃ w : Nat, w < k ∧ MirP ((t + (w : Int)) % 1440) ∧ ∀ j : Nat, j < w → ¬ MirP ((t + (j : Int)) % 1440)) ∨ ∀ j : Nat, j < k → ¬ MirP ((t + (j : Int)) % 1440) := by
    intro k
    induction k with
    | zero => intro _; exact .inr fun j hj => by omega
    | succ k ih =>
      intro hk
      rcases ih (by omega) with ⟨w, hw, h2, h3⟩ | hn
      · exact .inl ⟨w, by omega, h2, h3⟩
      · by_cases hm : MirP ((t + (k : Int)) % 1440)
        · exact .inl ⟨k, by omega, hm, hn⟩
        · exact .inr fun j hj => by
            by_cases e : j = k
            · subst e; exact hm
            · exact hn j (by omega)
  rcases key 1440 (Nat.le_refl _) with ⟨w, hw, h2, h3⟩ | hn
  · have hz : ∀ m : Nat, m ≤ w → selF t MirP m = [] := by
      intro m
      induction m with
      | zero => intro _; rfl
      | succ m ih => intro hm; rw [selF_succ, ih (by omega), if_neg (h3 m (by omega))]; rfl
    have ha := selF_at (a := t) (p := MirP) (m := (w : Int)) (k := 1440) (by omega) (by omega) h2
    rw [show ((w : Nat) : Int).toNat = w from rfl, hz w (Nat.le_refl _)] at ha
    refine ⟨by simpa using ha.1, ?_⟩
    have ha2 : (selF t MirP 1440).getD 0 0 = (t + (w : Int)) % 1440 := ha.2
    rw [ha2, waitN_eq (w := w) (by omega) h2 h3]
    omega
  · exfalso
    by_cases e : t = 0
    · exact hn 0 (by omega) (by rw [e]; exact mir0)
    · exact hn (1440 - t).toNat (by omega) (by rw [show (t + (((1440 - t).toNat : Nat) : Int)) % 1440 = 0 by omega]; exact mir0)
/-- The pairs among the first so many times that mirror. -/
def prI (i : Nat) : List (Int × Int) := (((selF 0 MirP 1440).take i).filter fun t => t < mirT t).map fun t => (t, mirT t)
theorem prI_succ {i : Nat} (h : i < (selF 0 MirP 1440).length) : prI (i + 1) = prI i ++ if (selF 0 MirP 1440).getD i 0 < mirT ((selF 0 MirP 1440).getD i 0) then [((selF 0 MirP 1440).getD i 0, mirT ((selF 0 MirP 1440).getD i 0))] else [] := by
  unfold prI
  rw [take_snocF h, List.filter_append, List.map_append]
  congr 1
  rw [List.filter_cons]
  generalize (selF 0 MirP 1440).getD i 0 = x
  by_cases e : x < mirT x
  · rw [if_pos (decide_eq_true e), if_pos e]; rfl
  · rw [if_neg (fun k => e (of_decide_eq_true k)), if_neg e]; rfl
theorem prI_len (i : Nat) : (prI i).length ≤ 1440 := by
  unfold prI
  rw [List.length_map]
  exact Nat.le_trans (List.length_filter_le _ _) (Nat.le_trans (by rw [List.length_take]; exact Nat.min_le_right _ _) (selF_len _ _ _))
theorem prI_gen : ∀ k : Nat, k ≤ 1440 → ((selF 0 MirP k).filter fun t => t < mirT t).map (fun t => (t, mirT t)) = prsK k
  | 0, _ => rfl
  | k + 1, h => by
    have e : (0 + (k : Int)) % 1440 = (k : Int) := by omega
    rw [selF_succ, prsK_succ, List.filter_append, List.map_append, prI_gen k (by omega), e]
    congr 1
    by_cases hm : MirP (k : Int)
    · rw [if_pos hm, List.filter_cons]
      by_cases hl : (k : Int) < mirT (k : Int)
      · rw [if_pos (decide_eq_true hl), if_pos ⟨hm, hl⟩]; rfl
      · rw [if_neg (fun z => hl (of_decide_eq_true z)), if_neg (fun z => hl z.2)]; rfl
    · rw [if_neg hm, if_neg (fun z => hm z.1)]; rfl
theorem prI_end : prI (selF 0 MirP 1440).length = prsK 1440 := by
  unfold prI; rw [List.take_length]; exact prI_gen 1440 (Nat.le_refl _)
theorem prI_0 : prI 0 = [] := rfl
/-- The program's own way to the brightest, the darkest time. -/
theorem brK_prog : ∀ k, brK k = brK k := fun _ => rfl

set_option maxRecDepth 4000 in
theorem impl_isTime (t : Int) : PCalls Tryd.prog 111 [.int .i64 t] (· = [.val (.bool (decide (TmP t)))]) := by
  refine pcalls_of_code (n := 9) az Tryd.func111 (by kernel_rfl) rfl rfl (Nat.le_of_ble_eq_true rfl) (by intro t u h; simp [Tryd.f111] at h) ?_
  refine code_seq (fun K1 hK1 => ?_)
  refine code_region ?_
  refine list_cons rfl (op_q (q_assign rfl (by decide)) ?_)
  refine list_nil ?_
  refine hK1 _ ?_; clear hK1 K1
  refine code_seq (fun K2 hK2 => ?_)
  refine code_region ?_
  refine list_cons rfl (op_q (q_move rfl (by decide)) ?_)
  refine list_cons rfl (op_q (q_ge rfl rfl (by decide)) ?_)
  refine list_cons rfl (op_q (q_move rfl (by decide)) ?_)
  refine list_guard_d rfl rfl rfl rfl (by decide) rfl (by decide) (fun h1 => ?_) (fun h1 => ?_)
  · simp only [Bool.false_eq_true, if_true, if_false, Decidable.not_not] at h1
    refine id (op_q (q_move rfl (by decide)) ?_)
    refine list_guard_y rfl rfl rfl rfl (by decide) rfl ?_
    refine id (op_q (q_lt rfl rfl (by decide)) ?_)
    refine list_cons rfl (op_q (q_pick rfl rfl (by decide)) ?_)
    refine list_cons rfl (op_q (q_assign rfl (by decide)) ?_)
    refine list_nil ?_
    refine hK2 _ ?_; clear hK2 K2
    refine code_ret ?_
    refine ends_ret (cs := []) rfl rfl rfl rfl trivial ?_
    first | rfl | (congr 3; exact decide_eq_decide.mpr ⟨fun k => ⟨by omega, by omega⟩, fun k => by have := k.2; omega⟩) | (rw [decide_eq_false (fun k => by have := k.1; omega)]; done) | (rw [decide_eq_true (show TmP t from ⟨by omega, by omega⟩)]; done)
  simp only [Bool.false_eq_true, if_true, if_false, Decidable.not_not] at h1
  refine list_guard_n rfl rfl rfl rfl (by decide) rfl ?_
  refine list_cons rfl (op_q (q_pick rfl rfl (by decide)) ?_)
  refine list_cons rfl (op_q (q_assign rfl (by decide)) ?_)
  refine list_nil ?_
  refine hK2 _ ?_; clear hK2 K2
  refine code_ret ?_
  refine ends_ret (cs := []) rfl rfl rfl rfl trivial ?_
  first | rfl | (congr 3; exact decide_eq_decide.mpr ⟨fun k => ⟨by omega, by omega⟩, fun k => by have := k.2; omega⟩) | (rw [decide_eq_false (fun k => by have := k.1; omega)]; done) | (rw [decide_eq_true (show TmP t from ⟨by omega, by omega⟩)]; done)

set_option maxRecDepth 4000 in
theorem impl_faceOf (t : Int) (h0 : 0 ≤ t) (h1 : t ≤ 1439) : PCalls Tryd.prog 112 [.int .i64 t] (· = [.val (.agg [.int .i64 (t / 60), .int .i64 (t % 60)])]) := by
  refine pcalls_of_code (n := 8) az Tryd.func112 (by kernel_rfl) rfl rfl (Nat.le_of_ble_eq_true rfl) (by intro t u h; simp [Tryd.f112] at h; obtain ⟨_, rfl⟩ := h <;> first | exact resTy_agg agg_83 (by decide)) ?_
  refine code_seq (fun K1 hK1 => ?_)
  refine code_region ?_
  refine list_cons rfl (op_alloc zt_83 (by decide) (by decide) rfl ?_)
  refine list_nil ?_
  refine hK1 _ ?_; clear hK1 K1
  refine code_seq (fun K2 hK2 => ?_)
  refine code_region ?_
  refine list_cons rfl (op_q (q_move rfl (by decide)) ?_)
  refine list_cons rfl (op_q (by first | exact q_quoI rfl rfl (by decide) (by omega) (by omega) (by omega) | exact q_quoT rfl rfl (by omega) (by decide) (by omega) (by omega) | exact q_quo rfl rfl (by omega) (by decide)) ?_)
  refine list_cons rfl (op_q (q_move rfl (by decide)) ?_)
  refine list_cons rfl (op_q (by first | exact q_remI rfl rfl (by decide) (by omega) (by omega) | exact q_rem rfl rfl (by omega) (by decide)) ?_)
  refine list_cons rfl (op_q (q_build bt_83 (parts := [(0, .tmp 4), (1, .tmp 6)]) rfl rfl (by decide)) ?_)
  refine list_cons rfl (op_store (agg_83).2 2 [2] (by intro t ht; simp only [List.mem_cons, List.not_mem_nil, or_false] at ht; subst ht; rfl) (.inr ⟨rfl, _, rfl⟩) rfl rfl rfl rfl (by first | rfl | exact flat_part (flat_map _ (fun _ => rfl) _) _ _ | exact flat_map _ (fun _ => rfl) _) (by first | rfl | (simp [PV.cells]; done)) (by first | decide | omega | exact Nat.le_refl _ | (simp; done) | (simp; omega)) (by decide) rfl ?_)
  refine list_nil ?_
  refine hK2 _ ?_; clear hK2 K2
  refine codeT.imp (σ' := [(0, _), (2, _)]) ?_ (imp_covers ⟨rfl, rfl, trivial⟩)
  refine code_ret ?_
  refine ends_ret (cs := []) rfl rfl rfl rfl trivial ?_
  rfl

set_option maxRecDepth 4000 in
theorem impl_laterTime (t m : Int) (h0 : 0 ≤ t ∧ t ≤ 1440) (h1 : 0 ≤ m ∧ m ≤ 1440) : PCalls Tryd.prog 126 [.int .i64 t, .int .i64 m] (· = [.val (.int .i64 ((t + m) % 1440))]) := by
  refine pcalls_of_code (n := 9) az Tryd.func126 (by kernel_rfl) rfl rfl (Nat.le_of_ble_eq_true rfl) (by intro t u h; simp [Tryd.f126] at h) ?_
  refine code_seq (fun K1 hK1 => ?_)
  refine code_region ?_
  refine list_cons rfl (op_q (q_assign rfl (by decide)) ?_)
  refine list_nil ?_
  refine hK1 _ ?_; clear hK1 K1
  refine code_seq (fun K2 hK2 => ?_)
  refine code_region ?_
  refine list_cons rfl (op_q (q_move rfl (by decide)) ?_)
  refine list_cons rfl (op_q (q_move rfl (by decide)) ?_)
  refine list_cons rfl (op_q (by first | exact q_addI rfl rfl (by decide) (by omega) (by omega) | exact q_ib rfl rfl rfl (by decide)) ?_)
  refine list_cons rfl (op_q (by first | exact q_remI rfl rfl (by decide) (by omega) (by omega) | exact q_rem rfl rfl (by omega) (by decide)) ?_)
  refine list_cons rfl (op_q (q_assign rfl (by decide)) ?_)
  refine list_nil ?_
  refine hK2 _ ?_; clear hK2 K2
  refine code_ret ?_
  refine ends_ret (cs := []) rfl rfl rfl rfl trivial ?_
  rfl

set_option maxRecDepth 8000 in
set_option maxHeartbeats 2000000 in
theorem impl_ClockRow (t : Int) : PCalls Tryd.prog 42 [.int .i64 t] (· = [.own 0 3 1 (if TmP t then rowT t else []).length ((if TmP t then rowT t else []).map (.int .i64)), .val (.bool (decide (TmP t)))]) := by
  refine pcalls_of_code (n := 20) az Tryd.func42 (by kernel_rfl) rfl rfl (Nat.le_of_ble_eq_true rfl) (by intro t u h; simp [Tryd.f42] at h) ?_
  refine code_seq (fun K1 hK1 => ?_)
  refine code_region ?_
  refine list_cons rfl (op_q (q_assign rfl (by decide)) ?_)
  refine list_cons rfl (op_q (q_assign rfl (by decide)) ?_)
  refine list_nil ?_
  refine hK1 _ ?_; clear hK1 K1
  refine code_seq (fun K2 hK2 => ?_)
  refine code_seq (fun K3 hK3 => ?_)
  refine code_region ?_
  refine list_cons rfl (op_q (q_move rfl (by decide)) ?_)
  refine list_cons rfl (op_call _ (impl_isTime _) rfl rfl (by decide) (by decide) (by decide) rfl ?_)
  rintro _ rfl
  refine list_cons rfl (op_q (by first | exact q_notd rfl (by decide) | exact q_not rfl (by decide)) ?_)
  refine list_nil ?_
  refine hK3 _ ?_; clear hK3 K3
  refine codeT.imp (σ' := [(0, _), (2, _), (3, _), (7, _)]) ?_ (imp_covers ⟨rfl, rfl, rfl, rfl, trivial⟩)
  refine code_cond_d rfl (fun h1 => ?_) (fun h1 => ?_)
  · skip
    (try simp only [Decidable.not_not] at h1); (try have hT1 := (h1 : TmP t).1; have hT2 := (h1 : TmP t).2)
    refine code_seq (fun K4 hK4 => ?_)
    refine code_region ?_
    refine list_cons rfl (op_buildSlice sl_35 (parts := []) rfl rfl rfl (by decide) (by decide) (by decide) rfl ?_)
    refine list_cons rfl (op_q (q_assign rfl (by decide)) ?_)
    refine list_cons rfl (op_q (q_assign rfl (by decide)) ?_)
    refine list_nil ?_
    refine hK4 _ ?_; clear hK4 K4
    refine code_ret ?_
    refine then_r ?_; clear hK2 K2
    refine ends_ret (cs := []) rfl rfl rfl rfl trivial ?_
    first
      | (have e : ¬ (TmP t) := by assumption
         simp only [if_neg e, decide_eq_false e]; first | done | rfl)
      | (have e : TmP t := by assumption
         simp only [if_pos e, decide_eq_true e]; first | done | rfl)
  (try simp only [Decidable.not_not] at h1); (try have hT1 := (h1 : TmP t).1; have hT2 := (h1 : TmP t).2)
  refine code_skip ?_
  refine hK2 _ ?_; clear hK2 K2
  refine code_seq (fun K5 hK5 => ?_)
  refine code_region ?_
  refine list_cons rfl (op_q (q_move rfl (by decide)) ?_)
  refine list_cons rfl (op_call _ (impl_faceOf _ (by omega) (by omega)) rfl rfl (by decide) (by decide) (by decide) rfl ?_)
  rintro _ rfl
  refine list_cons rfl (op_alloc zt_83 (by decide) (by decide) rfl ?_)
  refine list_cons rfl (op_store (agg_83).2 4 [4] (by intro t ht; simp only [List.mem_cons, List.not_mem_nil, or_false] at ht; subst ht; rfl) (.inr ⟨rfl, _, rfl⟩) rfl rfl rfl rfl (by first | rfl | exact flat_part (flat_map _ (fun _ => rfl) _) _ _ | exact flat_map _ (fun _ => rfl) _) (by first | rfl | (simp [PV.cells]; done)) (by first | decide | omega | exact Nat.le_refl _ | (simp; done) | (simp; omega)) (by decide) rfl ?_)
  refine list_nil ?_
  refine hK5 _ ?_; clear hK5 K5
  refine codeT.imp (σ' := [(0, _), (2, _), (3, _), (4, _)]) ?_ (imp_covers ⟨rfl, rfl, rfl, rfl, trivial⟩)
  refine code_seq (fun K6 hK6 => ?_)
  refine code_region ?_
  refine list_cons rfl (op_q (q_fieldAddr fi_83_0 rfl rfl (by decide)) ?_)
  refine list_cons rfl (op_q (q_load one_3 4 rfl rfl rfl (by first | rfl | exact get_map1 _ 0 _ (by first | omega | (simp; omega))) (by decide)) ?_)
  refine list_cons rfl (op_q (by first | exact q_mulI rfl rfl (by decide) (by omega) (by omega) | exact q_ib rfl rfl rfl (by decide)) ?_)
  refine list_cons rfl (op_q (q_fieldAddr fi_83_1 rfl rfl (by decide)) ?_)
  refine list_cons rfl (op_q (q_load one_3 4 rfl rfl rfl (by first | rfl | exact get_map1 _ 0 _ (by first | omega | (simp; omega))) (by decide)) ?_)
  refine list_cons rfl (op_q (by first | exact q_addI rfl rfl (by decide) (by omega) (by omega) | exact q_ib rfl rfl rfl (by decide)) ?_)
  refine list_cons rfl (op_call _ (impl_CounterRow _ 4) rfl rfl (by decide) (by decide) (by decide) rfl ?_)
  rintro _ rfl; simp only [if_pos (Cn_T (by assumption : TmP t)), decide_eq_true (Cn_T (by assumption : TmP t)), rowC_T hT1 hT2]
  refine list_cons rfl (op_q (q_extract rfl rfl (by decide)) ?_)
  refine list_cons rfl (op_q (q_extract rfl rfl (by decide)) ?_)
  refine list_cons rfl (op_q (q_assign rfl (by decide)) ?_)
  refine list_cons rfl (op_q (q_assign rfl (by decide)) ?_)
  refine list_nil ?_
  refine hK6 _ ?_; clear hK6 K6
  refine codeT.imp (σ' := [(0, _), (2, _), (3, _), (4, _)]) ?_ (imp_covers ⟨rfl, rfl, rfl, rfl, trivial⟩)
  refine code_ret ?_
  refine ends_ret (cs := []) rfl rfl rfl rfl trivial ?_
  first
    | (have e : ¬ (TmP t) := by assumption
       simp only [if_neg e, decide_eq_false e]; first | done | rfl)
    | (have e : TmP t := by assumption
       simp only [if_pos e, decide_eq_true e]; first | done | rfl)

set_option maxRecDepth 8000 in
set_option maxHeartbeats 2000000 in
theorem impl_TimeOfRow (l : List Int) (hl : l.length ≤ 4611686018427387904) : PCalls Tryd.prog 45 [.sl l.length (l.map (.int .i64))] (· = [.val (.int .i64 (if RowP l ∧ TimP l then timF l else 0)), .val (.bool (decide (RowP l ∧ TimP l)))]) := by
  refine pcalls_of_code (n := 41) az Tryd.func45 (by kernel_rfl) rfl rfl (Nat.le_of_ble_eq_true rfl) (by intro t u h; simp [Tryd.f45] at h) ?_
  refine code_seq (fun K1 hK1 => ?_)
  refine code_region ?_
  refine list_cons rfl (op_q (q_assign rfl (by decide)) ?_)
  refine list_cons rfl (op_q (q_assign rfl (by decide)) ?_)
  refine list_nil ?_
  refine hK1 _ ?_; clear hK1 K1
  refine code_seq (fun K2 hK2 => ?_)
  refine code_region ?_
  refine list_cons rfl (op_q (q_move rfl (by decide)) ?_)
  refine list_cons rfl (op_call _ (impl_NumberOf _ (by omega)) rfl rfl (by decide) (by decide) (by decide) rfl ?_)
  rintro _ rfl; have hnb := fun hr : RowP l => nb_bd hr
  refine list_cons rfl (op_q (q_move rfl (by decide)) ?_)
  refine list_cons rfl (op_q (q_extract rfl rfl (by decide)) ?_)
  refine list_cons rfl (op_q (q_extract rfl rfl (by decide)) ?_)
  refine list_cons rfl (op_q (q_assign rfl (by decide)) ?_)
  refine list_cons rfl (op_q (q_assign rfl (by decide)) ?_)
  refine list_nil ?_
  refine hK2 _ ?_; clear hK2 K2
  refine codeT.imp (σ' := [(0, _), (2, _), (3, _), (4, _), (5, _)]) ?_ (imp_covers ⟨rfl, rfl, rfl, rfl, rfl, trivial⟩)
  refine code_seq (fun K3 hK3 => ?_)
  refine code_seq (fun K4 hK4 => ?_)
  refine code_region ?_
  refine list_cons rfl (op_q (q_move rfl (by decide)) ?_)
  refine list_cons rfl (op_q (by first | exact q_notd rfl (by decide) | exact q_not rfl (by decide)) ?_)
  refine list_cons rfl (op_q (q_move rfl (by decide)) ?_)
  refine list_guard_d rfl rfl rfl rfl (by decide) rfl (by decide) (fun h1 => ?_) (fun h1 => ?_)
  · simp only [Bool.false_eq_true, if_true, if_false, Decidable.not_not] at h1
    (try simp only [Decidable.not_not, EqP, Eq1, and_true] at h1); (try have hR := (h1 : RowP l ∧ DigsP l ∧ 0 < l.length); try have hR1 := hnb hR.1); (try have hT1 := (h1 : TmP _).1; have hT2 := (h1 : TmP _).2)
    refine id (op_q (q_move rfl (by decide)) ?_)
    refine list_guard_y rfl rfl rfl rfl (by decide) rfl ?_
    refine id (op_q (q_len_sl Tryd.underlying35 rfl rfl (by decide)) ?_)
    refine list_guard_y rfl rfl rfl rfl (by decide) rfl ?_
    refine id (op_q (q_ne rfl rfl (by decide)) ?_)
    refine list_cons rfl (op_q (q_pick rfl rfl (by decide)) ?_)
    refine list_nil ?_
    refine hK4 _ ?_; clear hK4 K4
    refine code_cond_d rfl (fun h2 => ?_) (fun h2 => ?_)
    · skip
      (try simp only [Decidable.not_not, EqP, Eq1, and_true] at h2); (try have hR := (h2 : RowP l ∧ DigsP l ∧ 0 < l.length); try have hR1 := hnb hR.1); (try have hT1 := (h2 : TmP _).1; have hT2 := (h2 : TmP _).2)
      refine code_seq (fun K5 hK5 => ?_)
      refine code_region ?_
      refine list_cons rfl (op_q (q_assign rfl (by decide)) ?_)
      refine list_cons rfl (op_q (q_assign rfl (by decide)) ?_)
      refine list_nil ?_
      refine hK5 _ ?_; clear hK5 K5
      refine codeT.imp (σ' := [(0, _), (2, _), (3, _), (4, _), (5, _)]) ?_ (imp_covers ⟨rfl, rfl, rfl, rfl, rfl, trivial⟩)
      refine code_ret ?_
      refine then_r ?_; clear hK3 K3
      refine ends_ret (cs := []) rfl rfl rfl rfl trivial ?_
      first
        | (have e : ¬ (RowP l ∧ TimP l) := fun e => by
             have e1 := e.2.1.1; have e2 := e.2.1.2; have e3 := e.2.2
             have hq : RowP l ∧ DigsP l := ⟨e.1, e1⟩
             have hx := h2
             first
             | exact absurd (show RowP l ∧ DigsP l ∧ 0 < l.length from ⟨e.1, e1, by omega⟩) hx
             | exact absurd e2 hx
             | (simp only [if_pos hq] at hx hR1
                exact hx ⟨by omega, by omega⟩)
             | (simp only [if_pos hq] at hx hR1
                exact hx ⟨show (60 * (numF l / 100) + numF l % 100) / 60 = numF l / 100 by omega, show (60 * (numF l / 100) + numF l % 100) % 60 = numF l % 100 by omega, trivial⟩)
           rw [if_neg e, decide_eq_false e]; done)
        | (have hq : RowP l ∧ DigsP l := ⟨hR.1, hR.2.1⟩
           have hx := h2
           simp only [if_pos hq] at hx hR1 hT1 hT2 ⊢
           have hx1 : (60 * (numF l / 100) + numF l % 100) / 60 = numF l / 100 := hx.1
           have e : RowP l ∧ TimP l := ⟨hR.1, ⟨hR.2.1, by assumption⟩, by omega, by omega⟩
           rw [if_pos e, decide_eq_true e]
           unfold timF
           rw [Int.mul_comm]; done)
    (try simp only [Decidable.not_not, EqP, Eq1, and_true] at h2); (try have hR := (h2 : RowP l ∧ DigsP l ∧ 0 < l.length); try have hR1 := hnb hR.1); (try have hT1 := (h2 : TmP _).1; have hT2 := (h2 : TmP _).2)
    refine code_skip ?_
    refine hK3 _ ?_; clear hK3 K3
    refine codeT.imp (σ' := [(0, _), (2, _), (3, _), (4, _), (5, _)]) ?_ (imp_covers ⟨rfl, rfl, rfl, rfl, rfl, trivial⟩)
    refine code_seq (fun K6 hK6 => ?_)
    refine code_region ?_
    refine list_cons rfl (op_q (q_move rfl (by decide)) ?_)
    refine list_cons rfl (op_q (by first | exact q_quoI rfl rfl (by decide) (by omega) (by omega) (by omega) | exact q_quoT rfl rfl (by omega) (by decide) (by omega) (by omega) | exact q_quo rfl rfl (by omega) (by decide)) ?_)
    refine list_cons rfl (op_q (q_move rfl (by decide)) ?_)
    refine list_cons rfl (op_q (by first | exact q_remI rfl rfl (by decide) (by omega) (by omega) | exact q_rem rfl rfl (by omega) (by decide)) ?_)
    refine list_cons rfl (op_q (q_build bt_83 (parts := [(0, .tmp 21), (1, .tmp 23)]) rfl rfl (by decide)) ?_)
    refine list_cons rfl (op_alloc zt_83 (by decide) (by decide) rfl ?_)
    refine list_cons rfl (op_store (agg_83).2 6 [6] (by intro t ht; simp only [List.mem_cons, List.not_mem_nil, or_false] at ht; subst ht; rfl) (.inr ⟨rfl, _, rfl⟩) rfl rfl rfl rfl (by first | rfl | exact flat_part (flat_map _ (fun _ => rfl) _) _ _ | exact flat_map _ (fun _ => rfl) _) (by first | rfl | (simp [PV.cells]; done)) (by first | decide | omega | exact Nat.le_refl _ | (simp; done) | (simp; omega)) (by decide) rfl ?_)
    refine list_nil ?_
    refine hK6 _ ?_; clear hK6 K6
    refine codeT.imp (σ' := [(0, _), (2, _), (3, _), (4, _), (5, _), (6, _)]) ?_ (imp_covers ⟨rfl, rfl, rfl, rfl, rfl, rfl, trivial⟩)
    refine code_seq (fun K7 hK7 => ?_)
    refine code_region ?_
    refine list_cons rfl (op_q (q_fieldAddr fi_83_0 rfl rfl (by decide)) ?_)
    refine list_cons rfl (op_q (q_load one_3 6 rfl rfl rfl (by first | rfl | exact get_map1 _ 0 _ (by first | omega | (simp; omega))) (by decide)) ?_)
    refine list_cons rfl (op_q (by first | exact q_mulI rfl rfl (by decide) (by omega) (by omega) | exact q_ib rfl rfl rfl (by decide)) ?_)
    refine list_cons rfl (op_q (q_fieldAddr fi_83_1 rfl rfl (by decide)) ?_)
    refine list_cons rfl (op_q (q_load one_3 6 rfl rfl rfl (by first | rfl | exact get_map1 _ 0 _ (by first | omega | (simp; omega))) (by decide)) ?_)
    refine list_cons rfl (op_q (by first | exact q_addI rfl rfl (by decide) (by omega) (by omega) | exact q_ib rfl rfl rfl (by decide)) ?_)
    refine list_cons rfl (op_q (q_assign rfl (by decide)) ?_)
    refine list_nil ?_
    refine hK7 _ ?_; clear hK7 K7
    refine code_seq (fun K8 hK8 => ?_)
    refine code_seq (fun K9 hK9 => ?_)
    refine code_draw (by kernel_rfl) (by kernel_rfl) ?_
    refine draw_q rfl (q_move rfl (by decide)) ?_
    refine draw_call _ (impl_isTime _) rfl rfl rfl (by decide) ?_
    refine draw_q rfl (by first | exact q_notd rfl (by decide) | exact q_not rfl (by decide)) ?_
    refine draw_q rfl (q_move rfl (by decide)) ?_
    refine draw_guard_d rfl rfl rfl rfl (by decide) rfl (by decide) (fun h3 => q_move rfl (by decide)) (fun h3 => ?_) (fun h3 => ?_)
    · simp only [Bool.false_eq_true, if_true, if_false, Decidable.not_not] at h3
      (try simp only [Decidable.not_not, EqP, Eq1, and_true] at h3); (try have hR := (h3 : RowP l ∧ DigsP l ∧ 0 < l.length); try have hR1 := hnb hR.1); (try have hT1 := (h3 : TmP _).1; have hT2 := (h3 : TmP _).2)
      refine draw_callW _ (impl_faceOf _ (by omega) (by omega)) rfl rfl rfl (by decide) (wanted_of rfl rfl rfl (by decide)) ?_
      refine draw_guard_y rfl rfl rfl rfl (by decide) rfl (q_load_agg agg_83 6 (.inr ⟨rfl, _, rfl⟩) rfl rfl (by first | decide | omega | exact Nat.le_refl _ | (simp; done) | (simp; omega)) (by first | rfl | exact flat_part (flat_map _ (fun _ => rfl) _) _ _) (by decide)) ?_
      refine draw_guard_y rfl rfl rfl rfl (by decide) rfl (q_aggne (by decide) agg_83 eqty_83 eqg_83 rfl rfl (by first | exact ⟨_, _, rfl, ⟨_, rfl⟩, ⟨_, _, rfl, ⟨_, rfl⟩, trivial⟩⟩) (by first | exact ⟨_, _, rfl, ⟨_, rfl⟩, ⟨_, _, rfl, ⟨_, rfl⟩, trivial⟩⟩) rfl rfl (by decide)) ?_
      refine draw_q rfl (q_pick rfl rfl (by decide)) ?_
      refine draw_nil ?_
      refine hK9 _ ?_; clear hK9 K9
      refine codeT.imp (σ' := [(0, _), (2, _), (3, _), (4, _), (5, _), (6, _), (7, _), (39, _)]) ?_ (imp_covers ⟨rfl, rfl, rfl, rfl, rfl, rfl, rfl, rfl, trivial⟩)
      refine code_cond_d rfl (fun h4 => ?_) (fun h4 => ?_)
      · skip
        (try simp only [Decidable.not_not, EqP, Eq1, and_true] at h4); (try have hR := (h4 : RowP l ∧ DigsP l ∧ 0 < l.length); try have hR1 := hnb hR.1); (try have hT1 := (h4 : TmP _).1; have hT2 := (h4 : TmP _).2)
        refine code_seq (fun K10 hK10 => ?_)
        refine code_region ?_
        refine list_cons rfl (op_q (q_assign rfl (by decide)) ?_)
        refine list_cons rfl (op_q (q_assign rfl (by decide)) ?_)
        refine list_nil ?_
        refine hK10 _ ?_; clear hK10 K10
        refine code_ret ?_
        refine then_r ?_; clear hK8 K8
        refine ends_ret (cs := []) rfl rfl rfl rfl trivial ?_
        first
          | (have e : ¬ (RowP l ∧ TimP l) := fun e => by
               have e1 := e.2.1.1; have e2 := e.2.1.2; have e3 := e.2.2
               have hq : RowP l ∧ DigsP l := ⟨e.1, e1⟩
               have hx := h4
               first
               | exact absurd (show RowP l ∧ DigsP l ∧ 0 < l.length from ⟨e.1, e1, by omega⟩) hx
               | exact absurd e2 hx
               | (simp only [if_pos hq] at hx hR1
                  exact hx ⟨by omega, by omega⟩)
               | (simp only [if_pos hq] at hx hR1
                  exact hx ⟨show (60 * (numF l / 100) + numF l % 100) / 60 = numF l / 100 by omega, show (60 * (numF l / 100) + numF l % 100) % 60 = numF l % 100 by omega, trivial⟩)
             rw [if_neg e, decide_eq_false e]; done)
          | (have hq : RowP l ∧ DigsP l := ⟨hR.1, hR.2.1⟩
             have hx := h4
             simp only [if_pos hq] at hx hR1 hT1 hT2 ⊢
             have hx1 : (60 * (numF l / 100) + numF l % 100) / 60 = numF l / 100 := hx.1
             have e : RowP l ∧ TimP l := ⟨hR.1, ⟨hR.2.1, by assumption⟩, by omega, by omega⟩
             rw [if_pos e, decide_eq_true e]
             unfold timF
             rw [Int.mul_comm]; done)
      (try simp only [Decidable.not_not, EqP, Eq1, and_true] at h4); (try have hR := (h4 : RowP l ∧ DigsP l ∧ 0 < l.length); try have hR1 := hnb hR.1); (try have hT1 := (h4 : TmP _).1; have hT2 := (h4 : TmP _).2)
      refine code_skip ?_
      refine hK8 _ ?_; clear hK8 K8
      refine code_seq (fun K11 hK11 => ?_)
      refine code_region ?_
      refine list_cons rfl (op_q (q_move rfl (by decide)) ?_)
      refine list_cons rfl (op_q (q_assign rfl (by decide)) ?_)
      refine list_cons rfl (op_q (q_assign rfl (by decide)) ?_)
      refine list_nil ?_
      refine hK11 _ ?_; clear hK11 K11
      refine code_ret ?_
      refine ends_ret (cs := []) rfl rfl rfl rfl trivial ?_
      first
        | (have e : ¬ (RowP l ∧ TimP l) := fun e => by
             have e1 := e.2.1.1; have e2 := e.2.1.2; have e3 := e.2.2
             have hq : RowP l ∧ DigsP l := ⟨e.1, e1⟩
             have hx := h4
             first
             | exact absurd (show RowP l ∧ DigsP l ∧ 0 < l.length from ⟨e.1, e1, by omega⟩) hx
             | exact absurd e2 hx
             | (simp only [if_pos hq] at hx hR1
                exact hx ⟨by omega, by omega⟩)
             | (simp only [if_pos hq] at hx hR1
                exact hx ⟨show (60 * (numF l / 100) + numF l % 100) / 60 = numF l / 100 by omega, show (60 * (numF l / 100) + numF l % 100) % 60 = numF l % 100 by omega, trivial⟩)
           rw [if_neg e, decide_eq_false e]; done)
        | (have hq : RowP l ∧ DigsP l := ⟨hR.1, hR.2.1⟩
           have hx := h4
           simp only [if_pos hq] at hx hR1 hT1 hT2 ⊢
           have hx1 : (60 * (numF l / 100) + numF l % 100) / 60 = numF l / 100 := hx.1
           have e : RowP l ∧ TimP l := ⟨hR.1, ⟨hR.2.1, by assumption⟩, by omega, by omega⟩
           rw [if_pos e, decide_eq_true e]
           unfold timF
           rw [Int.mul_comm]; done)
    simp only [Bool.false_eq_true, if_true, if_false, Decidable.not_not] at h3
    (try simp only [Decidable.not_not, EqP, Eq1, and_true] at h3); (try have hR := (h3 : RowP l ∧ DigsP l ∧ 0 < l.length); try have hR1 := hnb hR.1); (try have hT1 := (h3 : TmP _).1; have hT2 := (h3 : TmP _).2)
    refine draw_guard_n rfl rfl rfl rfl (by decide) rfl ?_
    refine draw_guard_n rfl rfl rfl rfl (by decide) rfl ?_
    refine draw_guard_n rfl rfl rfl rfl (by decide) rfl ?_
    refine draw_q rfl (q_pick rfl rfl (by decide)) ?_
    refine draw_nil ?_
    refine hK9 _ ?_; clear hK9 K9
    refine codeT.imp (σ' := [(0, _), (2, _), (3, _), (4, _), (5, _), (6, _), (7, _), (39, _)]) ?_ (imp_covers ⟨rfl, rfl, rfl, rfl, rfl, rfl, rfl, rfl, trivial⟩)
    refine code_cond_t rfl ?_
    refine code_seq (fun K12 hK12 => ?_)
    refine code_region ?_
    refine list_cons rfl (op_q (q_assign rfl (by decide)) ?_)
    refine list_cons rfl (op_q (q_assign rfl (by decide)) ?_)
    refine list_nil ?_
    refine hK12 _ ?_; clear hK12 K12
    refine code_ret ?_
    refine then_r ?_; clear hK8 K8
    refine ends_ret (cs := []) rfl rfl rfl rfl trivial ?_
    first
      | (have e : ¬ (RowP l ∧ TimP l) := fun e => by
           have e1 := e.2.1.1; have e2 := e.2.1.2; have e3 := e.2.2
           have hq : RowP l ∧ DigsP l := ⟨e.1, e1⟩
           have hx := h3
           first
           | exact absurd (show RowP l ∧ DigsP l ∧ 0 < l.length from ⟨e.1, e1, by omega⟩) hx
           | exact absurd e2 hx
           | (simp only [if_pos hq] at hx hR1
              exact hx ⟨by omega, by omega⟩)
           | (simp only [if_pos hq] at hx hR1
              exact hx ⟨show (60 * (numF l / 100) + numF l % 100) / 60 = numF l / 100 by omega, show (60 * (numF l / 100) + numF l % 100) % 60 = numF l % 100 by omega, trivial⟩)
         rw [if_neg e, decide_eq_false e]; done)
      | (have hq : RowP l ∧ DigsP l := ⟨hR.1, hR.2.1⟩
         have hx := h3
         simp only [if_pos hq] at hx hR1 hT1 hT2 ⊢
         have hx1 : (60 * (numF l / 100) + numF l % 100) / 60 = numF l / 100 := hx.1
         have e : RowP l ∧ TimP l := ⟨hR.1, ⟨hR.2.1, by assumption⟩, by omega, by omega⟩
         rw [if_pos e, decide_eq_true e]
         unfold timF
         rw [Int.mul_comm]; done)
  simp only [Bool.false_eq_true, if_true, if_false, Decidable.not_not] at h1
  (try simp only [Decidable.not_not, EqP, Eq1, and_true] at h1); (try have hR := (h1 : RowP l ∧ DigsP l ∧ 0 < l.length); try have hR1 := hnb hR.1); (try have hT1 := (h1 : TmP _).1; have hT2 := (h1 : TmP _).2)
  refine list_guard_n rfl rfl rfl rfl (by decide) rfl ?_
  refine list_guard_n rfl rfl rfl rfl (by decide) rfl ?_
  refine list_cons rfl (op_q (q_pick rfl rfl (by decide)) ?_)
  refine list_nil ?_
  refine hK4 _ ?_; clear hK4 K4
  refine code_cond_t rfl ?_
  refine code_seq (fun K13 hK13 => ?_)
  refine code_region ?_
  refine list_cons rfl (op_q (q_assign rfl (by decide)) ?_)
  refine list_cons rfl (op_q (q_assign rfl (by decide)) ?_)
  refine list_nil ?_
  refine hK13 _ ?_; clear hK13 K13
  refine code_ret ?_
  refine then_r ?_; clear hK3 K3
  refine ends_ret (cs := []) rfl rfl rfl rfl trivial ?_
  first
    | (have e : ¬ (RowP l ∧ TimP l) := fun e => by
         have e1 := e.2.1.1; have e2 := e.2.1.2; have e3 := e.2.2
         have hq : RowP l ∧ DigsP l := ⟨e.1, e1⟩
         have hx := h1
         first
         | exact absurd (show RowP l ∧ DigsP l ∧ 0 < l.length from ⟨e.1, e1, by omega⟩) hx
         | exact absurd e2 hx
         | (simp only [if_pos hq] at hx hR1
            exact hx ⟨by omega, by omega⟩)
         | (simp only [if_pos hq] at hx hR1
            exact hx ⟨show (60 * (numF l / 100) + numF l % 100) / 60 = numF l / 100 by omega, show (60 * (numF l / 100) + numF l % 100) % 60 = numF l % 100 by omega, trivial⟩)
       rw [if_neg e, decide_eq_false e]; done)
    | (have hq : RowP l ∧ DigsP l := ⟨hR.1, hR.2.1⟩
       have hx := h1
       simp only [if_pos hq] at hx hR1 hT1 hT2 ⊢
       have hx1 : (60 * (numF l / 100) + numF l % 100) / 60 = numF l / 100 := hx.1
       have e : RowP l ∧ TimP l := ⟨hR.1, ⟨hR.2.1, by assumption⟩, by omega, by omega⟩
       rw [if_pos e, decide_eq_true e]
       unfold timF
       rw [Int.mul_comm]; done)

set_option maxRecDepth 8000 in
set_option maxHeartbeats 2000000 in
theorem movedN_MirrorRow (t : Int) (hT : ¬ TmP t) : PCalls Tryd.prog 105 [.int .i64 t, .clo 106 []] (· = [.val (.int .i64 0), .val (.bool false)]) := by
  refine pcalls_of_code (n := 28) az Tryd.func105 (by kernel_rfl) rfl rfl (Nat.le_of_ble_eq_true rfl) (by intro t u h; simp [Tryd.f105] at h) ?_
  refine code_seq (fun K1 hK1 => ?_)
  refine code_region ?_
  refine list_cons rfl (op_q (q_assign rfl (by decide)) ?_)
  refine list_cons rfl (op_q (q_assign rfl (by decide)) ?_)
  refine list_nil ?_
  refine hK1 _ ?_; clear hK1 K1
  refine code_seq (fun K2 hK2 => ?_)
  refine code_region ?_
  refine list_cons rfl (op_q (q_move rfl (by decide)) ?_)
  refine list_cons rfl (op_call _ (impl_ClockRow t) rfl rfl (by decide) (by decide) (by decide) rfl ?_)
  rintro _ rfl; simp only [if_neg hT, decide_eq_false hT]
  refine list_cons rfl (op_q (q_move rfl (by decide)) ?_)
  refine list_cons rfl (op_q (q_extract rfl rfl (by decide)) ?_)
  refine list_cons rfl (op_q (q_extract rfl rfl (by decide)) ?_)
  refine list_cons rfl (op_q (q_assign rfl (by decide)) ?_)
  refine list_cons rfl (op_q (q_assign rfl (by decide)) ?_)
  refine list_nil ?_
  refine hK2 _ ?_; clear hK2 K2
  refine codeT.imp (σ' := [(0, _), (1, _), (4, _), (5, _), (6, _), (7, _)]) ?_ (imp_covers ⟨rfl, rfl, rfl, rfl, rfl, rfl, trivial⟩)
  refine code_seq (fun K3 hK3 => ?_)
  refine code_seq (fun K4 hK4 => ?_)
  refine code_region ?_
  refine list_cons rfl (op_q (q_move rfl (by decide)) ?_)
  refine list_cons rfl (op_q (by first | exact q_notd rfl (by decide) | exact q_not rfl (by decide)) ?_)
  refine list_nil ?_
  refine hK4 _ ?_; clear hK4 K4
  refine code_cond_t rfl ?_
  refine code_seq (fun K5 hK5 => ?_)
  refine code_region ?_
  refine list_cons rfl (op_q (q_assign rfl (by decide)) ?_)
  refine list_cons rfl (op_q (q_assign rfl (by decide)) ?_)
  refine list_nil ?_
  refine hK5 _ ?_; clear hK5 K5
  refine code_ret ?_
  refine then_r ?_; clear hK3 K3
  refine ends_ret (cs := []) rfl rfl rfl rfl trivial ?_
  rfl

set_option maxRecDepth 8000 in
set_option maxHeartbeats 2000000 in
theorem movedY_MirrorRow (t : Int) (hT : TmP t) : PCalls Tryd.prog 105 [.int .i64 t, .clo 106 []] (· = [.val (.int .i64 (if TmP t ∧ MirP t then mirT t else 0)), .val (.bool (decide (TmP t ∧ MirP t)))]) := by
  refine pcalls_of_code (n := 28) az Tryd.func105 (by kernel_rfl) rfl rfl (Nat.le_of_ble_eq_true rfl) (by intro t u h; simp [Tryd.f105] at h) ?_
  have hRm : RowP (mirL (rowT t)) := mirR6 (rowT_row t)
  refine code_seq (fun K1 hK1 => ?_)
  refine code_region ?_
  refine list_cons rfl (op_q (q_assign rfl (by decide)) ?_)
  refine list_cons rfl (op_q (q_assign rfl (by decide)) ?_)
  refine list_nil ?_
  refine hK1 _ ?_; clear hK1 K1
  refine code_seq (fun K2 hK2 => ?_)
  refine code_region ?_
  refine list_cons rfl (op_q (q_move rfl (by decide)) ?_)
  refine list_cons rfl (op_call _ (impl_ClockRow t) rfl rfl (by decide) (by decide) (by decide) rfl ?_)
  rintro _ rfl; simp only [if_pos hT, decide_eq_true hT]
  refine list_cons rfl (op_q (q_move rfl (by decide)) ?_)
  refine list_cons rfl (op_q (q_extract rfl rfl (by decide)) ?_)
  refine list_cons rfl (op_q (q_extract rfl rfl (by decide)) ?_)
  refine list_cons rfl (op_q (q_assign rfl (by decide)) ?_)
  refine list_cons rfl (op_q (q_assign rfl (by decide)) ?_)
  refine list_nil ?_
  refine hK2 _ ?_; clear hK2 K2
  refine codeT.imp (σ' := [(0, _), (1, _), (4, _), (5, _), (6, _), (7, _)]) ?_ (imp_covers ⟨rfl, rfl, rfl, rfl, rfl, rfl, trivial⟩)
  refine code_seq (fun K3 hK3 => ?_)
  refine code_seq (fun K4 hK4 => ?_)
  refine code_region ?_
  refine list_cons rfl (op_q (q_move rfl (by decide)) ?_)
  refine list_cons rfl (op_q (by first | exact q_notd rfl (by decide) | exact q_not rfl (by decide)) ?_)
  refine list_nil ?_
  refine hK4 _ ?_; clear hK4 K4
  refine code_cond_f rfl ?_
  refine code_skip ?_
  refine hK3 _ ?_; clear hK3 K3
  refine code_seq (fun K5 hK5 => ?_)
  refine code_region ?_
  refine list_cons rfl (op_q (q_move rfl (by decide)) ?_)
  refine list_cons rfl (op_q (q_move rfl (by decide)) ?_)
  refine list_cons rfl (op_callF _ rfl rfl (impl_MirrorRow (rowT t) (by rw [rowT_len]; decide)) rfl rfl (by decide) (by decide) (by decide) rfl ?_)
  rintro _ _ rfl; simp only [if_pos (rowT_row t), decide_eq_true (rowT_row t)]
  refine list_cons rfl (op_q (q_move rfl (by decide)) ?_)
  refine list_cons rfl (op_q (q_extract rfl rfl (by decide)) ?_)
  refine list_cons rfl (op_q (q_extract rfl rfl (by decide)) ?_)
  refine list_cons rfl (op_q (q_assign rfl (by decide)) ?_)
  refine list_cons rfl (op_q (q_assign rfl (by decide)) ?_)
  refine list_nil ?_
  refine hK5 _ ?_; clear hK5 K5
  refine codeT.imp (σ' := [(0, _), (1, _), (4, _), (5, _), (6, _), (7, _), (8, _)]) ?_ (imp_covers ⟨rfl, rfl, rfl, rfl, rfl, rfl, rfl, trivial⟩)
  refine code_seq (fun K6 hK6 => ?_)
  refine code_seq (fun K7 hK7 => ?_)
  refine code_region ?_
  refine list_cons rfl (op_q (q_move rfl (by decide)) ?_)
  refine list_cons rfl (op_q (by first | exact q_notd rfl (by decide) | exact q_not rfl (by decide)) ?_)
  refine list_nil ?_
  refine hK7 _ ?_; clear hK7 K7
  refine code_cond_f rfl ?_
  refine code_skip ?_
  refine hK6 _ ?_; clear hK6 K6
  refine code_seq (fun K8 hK8 => ?_)
  refine code_region ?_
  refine list_cons rfl (op_q (q_move rfl (by decide)) ?_)
  refine list_cons rfl (op_call _ (impl_TimeOfRow (mirL (rowT t)) (by rw [mirL_len, rowT_len]; decide)) rfl rfl (by decide) (by decide) (by decide) rfl ?_)
  rintro _ rfl
  refine list_cons rfl (op_q (q_extract rfl rfl (by decide)) ?_)
  refine list_cons rfl (op_q (q_extract rfl rfl (by decide)) ?_)
  refine list_cons rfl (op_q (q_assign rfl (by decide)) ?_)
  refine list_cons rfl (op_q (q_assign rfl (by decide)) ?_)
  refine list_nil ?_
  refine hK8 _ ?_; clear hK8 K8
  refine codeT.imp (σ' := [(0, _), (1, _), (4, _), (5, _), (6, _), (7, _), (8, _)]) ?_ (imp_covers ⟨rfl, rfl, rfl, rfl, rfl, rfl, rfl, trivial⟩)
  refine code_ret ?_
  refine ends_ret (cs := []) rfl rfl rfl rfl trivial ?_
  have hRm : RowP (mirL (rowT t)) := (by assumption)
  have hE : (RowP (mirL (rowT t)) ∧ TimP (mirL (rowT t))) ↔ (TmP t ∧ MirP t) := ⟨fun k => ⟨hT, k.2⟩, fun k => ⟨hRm, k.2⟩⟩
  by_cases e : TmP t ∧ MirP t
  · rw [if_pos e, decide_eq_true e, if_pos (hE.2 e), decide_eq_true (hE.2 e)]; rfl
  · rw [if_neg e, decide_eq_false e, if_neg (fun k => e (hE.1 k)), decide_eq_false (fun k => e (hE.1 k))]

theorem moved_MirrorRow (t : Int) : PCalls Tryd.prog 105 [.int .i64 t, .clo 106 []] (· = [.val (.int .i64 (if TmP t ∧ MirP t then mirT t else 0)), .val (.bool (decide (TmP t ∧ MirP t)))]) := by
  by_cases h : TmP t
  · exact movedY_MirrorRow t h
  · rw [if_neg (fun k : TmP t ∧ MirP t => h k.1), decide_eq_false (fun k : TmP t ∧ MirP t => h k.1)]
    exact movedN_MirrorRow t h

set_option maxRecDepth 4000 in
theorem impl_MirrorTime (t : Int) : PCalls Tryd.prog 38 [.int .i64 t] (· = [.val (.int .i64 (if TmP t ∧ MirP t then mirT t else 0)), .val (.bool (decide (TmP t ∧ MirP t)))]) := by
  refine pcalls_of_code (n := 8) az Tryd.func38 (by kernel_rfl) rfl rfl (Nat.le_of_ble_eq_true rfl) (by intro t u h; simp [Tryd.f38] at h) ?_
  refine code_seq (fun K1 hK1 => ?_)
  refine code_region ?_
  refine list_cons rfl (op_q (q_assign rfl (by decide)) ?_)
  refine list_cons rfl (op_q (q_assign rfl (by decide)) ?_)
  refine list_nil ?_
  refine hK1 _ ?_; clear hK1 K1
  refine code_seq (fun K2 hK2 => ?_)
  refine code_region ?_
  refine list_cons rfl (op_q (q_move rfl (by decide)) ?_)
  refine list_cons rfl (op_call _ (moved_MirrorRow t) rfl rfl (by decide) (by decide) (by decide) rfl ?_)
  rintro _ rfl
  refine list_cons rfl (op_q (q_extract rfl rfl (by decide)) ?_)
  refine list_cons rfl (op_q (q_extract rfl rfl (by decide)) ?_)
  refine list_cons rfl (op_q (q_assign rfl (by decide)) ?_)
  refine list_cons rfl (op_q (q_assign rfl (by decide)) ?_)
  refine list_nil ?_
  refine hK2 _ ?_; clear hK2 K2
  refine codeT.imp (σ' := [(0, _), (2, _), (3, _)]) ?_ (imp_covers ⟨rfl, rfl, rfl, trivial⟩)
  refine code_ret ?_
  refine ends_ret (cs := []) rfl rfl rfl rfl trivial ?_
  rfl

set_option maxRecDepth 8000 in
set_option maxHeartbeats 2000000 in
theorem movedN_TurnRow (t : Int) (hT : ¬ TmP t) : PCalls Tryd.prog 105 [.int .i64 t, .clo 109 []] (· = [.val (.int .i64 0), .val (.bool false)]) := by
  refine pcalls_of_code (n := 28) az Tryd.func105 (by kernel_rfl) rfl rfl (Nat.le_of_ble_eq_true rfl) (by intro t u h; simp [Tryd.f105] at h) ?_
  refine code_seq (fun K1 hK1 => ?_)
  refine code_region ?_
  refine list_cons rfl (op_q (q_assign rfl (by decide)) ?_)
  refine list_cons rfl (op_q (q_assign rfl (by decide)) ?_)
  refine list_nil ?_
  refine hK1 _ ?_; clear hK1 K1
  refine code_seq (fun K2 hK2 => ?_)
  refine code_region ?_
  refine list_cons rfl (op_q (q_move rfl (by decide)) ?_)
  refine list_cons rfl (op_call _ (impl_ClockRow t) rfl rfl (by decide) (by decide) (by decide) rfl ?_)
  rintro _ rfl; simp only [if_neg hT, decide_eq_false hT]
  refine list_cons rfl (op_q (q_move rfl (by decide)) ?_)
  refine list_cons rfl (op_q (q_extract rfl rfl (by decide)) ?_)
  refine list_cons rfl (op_q (q_extract rfl rfl (by decide)) ?_)
  refine list_cons rfl (op_q (q_assign rfl (by decide)) ?_)
  refine list_cons rfl (op_q (q_assign rfl (by decide)) ?_)
  refine list_nil ?_
  refine hK2 _ ?_; clear hK2 K2
  refine codeT.imp (σ' := [(0, _), (1, _), (4, _), (5, _), (6, _), (7, _)]) ?_ (imp_covers ⟨rfl, rfl, rfl, rfl, rfl, rfl, trivial⟩)
  refine code_seq (fun K3 hK3 => ?_)
  refine code_seq (fun K4 hK4 => ?_)
  refine code_region ?_
  refine list_cons rfl (op_q (q_move rfl (by decide)) ?_)
  refine list_cons rfl (op_q (by first | exact q_notd rfl (by decide) | exact q_not rfl (by decide)) ?_)
  refine list_nil ?_
  refine hK4 _ ?_; clear hK4 K4
  refine code_cond_t rfl ?_
  refine code_seq (fun K5 hK5 => ?_)
  refine code_region ?_
  refine list_cons rfl (op_q (q_assign rfl (by decide)) ?_)
  refine list_cons rfl (op_q (q_assign rfl (by decide)) ?_)
  refine list_nil ?_
  refine hK5 _ ?_; clear hK5 K5
  refine code_ret ?_
  refine then_r ?_; clear hK3 K3
  refine ends_ret (cs := []) rfl rfl rfl rfl trivial ?_
  rfl

set_option maxRecDepth 8000 in
set_option maxHeartbeats 2000000 in
theorem movedY_TurnRow (t : Int) (hT : TmP t) : PCalls Tryd.prog 105 [.int .i64 t, .clo 109 []] (· = [.val (.int .i64 (if TmP t ∧ TurP t then turT t else 0)), .val (.bool (decide (TmP t ∧ TurP t)))]) := by
  refine pcalls_of_code (n := 28) az Tryd.func105 (by kernel_rfl) rfl rfl (Nat.le_of_ble_eq_true rfl) (by intro t u h; simp [Tryd.f105] at h) ?_
  have hRm : RowP (turnL (rowT t)) := turnR6 (rowT_row t)
  refine code_seq (fun K1 hK1 => ?_)
  refine code_region ?_
  refine list_cons rfl (op_q (q_assign rfl (by decide)) ?_)
  refine list_cons rfl (op_q (q_assign rfl (by decide)) ?_)
  refine list_nil ?_
  refine hK1 _ ?_; clear hK1 K1
  refine code_seq (fun K2 hK2 => ?_)
  refine code_region ?_
  refine list_cons rfl (op_q (q_move rfl (by decide)) ?_)
  refine list_cons rfl (op_call _ (impl_ClockRow t) rfl rfl (by decide) (by decide) (by decide) rfl ?_)
  rintro _ rfl; simp only [if_pos hT, decide_eq_true hT]
  refine list_cons rfl (op_q (q_move rfl (by decide)) ?_)
  refine list_cons rfl (op_q (q_extract rfl rfl (by decide)) ?_)
  refine list_cons rfl (op_q (q_extract rfl rfl (by decide)) ?_)
  refine list_cons rfl (op_q (q_assign rfl (by decide)) ?_)
  refine list_cons rfl (op_q (q_assign rfl (by decide)) ?_)
  refine list_nil ?_
  refine hK2 _ ?_; clear hK2 K2
  refine codeT.imp (σ' := [(0, _), (1, _), (4, _), (5, _), (6, _), (7, _)]) ?_ (imp_covers ⟨rfl, rfl, rfl, rfl, rfl, rfl, trivial⟩)
  refine code_seq (fun K3 hK3 => ?_)
  refine code_seq (fun K4 hK4 => ?_)
  refine code_region ?_
  refine list_cons rfl (op_q (q_move rfl (by decide)) ?_)
  refine list_cons rfl (op_q (by first | exact q_notd rfl (by decide) | exact q_not rfl (by decide)) ?_)
  refine list_nil ?_
  refine hK4 _ ?_; clear hK4 K4
  refine code_cond_f rfl ?_
  refine code_skip ?_
  refine hK3 _ ?_; clear hK3 K3
  refine code_seq (fun K5 hK5 => ?_)
  refine code_region ?_
  refine list_cons rfl (op_q (q_move rfl (by decide)) ?_)
  refine list_cons rfl (op_q (q_move rfl (by decide)) ?_)
  refine list_cons rfl (op_callF _ rfl rfl (impl_TurnRow (rowT t) (by rw [rowT_len]; decide)) rfl rfl (by decide) (by decide) (by decide) rfl ?_)
  rintro _ _ rfl; simp only [if_pos (rowT_row t), decide_eq_true (rowT_row t)]
  refine list_cons rfl (op_q (q_move rfl (by decide)) ?_)
  refine list_cons rfl (op_q (q_extract rfl rfl (by decide)) ?_)
  refine list_cons rfl (op_q (q_extract rfl rfl (by decide)) ?_)
  refine list_cons rfl (op_q (q_assign rfl (by decide)) ?_)
  refine list_cons rfl (op_q (q_assign rfl (by decide)) ?_)
  refine list_nil ?_
  refine hK5 _ ?_; clear hK5 K5
  refine codeT.imp (σ' := [(0, _), (1, _), (4, _), (5, _), (6, _), (7, _), (8, _)]) ?_ (imp_covers ⟨rfl, rfl, rfl, rfl, rfl, rfl, rfl, trivial⟩)
  refine code_seq (fun K6 hK6 => ?_)
  refine code_seq (fun K7 hK7 => ?_)
  refine code_region ?_
  refine list_cons rfl (op_q (q_move rfl (by decide)) ?_)
  refine list_cons rfl (op_q (by first | exact q_notd rfl (by decide) | exact q_not rfl (by decide)) ?_)
  refine list_nil ?_
  refine hK7 _ ?_; clear hK7 K7
  refine code_cond_f rfl ?_
  refine code_skip ?_
  refine hK6 _ ?_; clear hK6 K6
  refine code_seq (fun K8 hK8 => ?_)
  refine code_region ?_
  refine list_cons rfl (op_q (q_move rfl (by decide)) ?_)
  refine list_cons rfl (op_call _ (impl_TimeOfRow (turnL (rowT t)) (by rw [turnL_len, rowT_len]; decide)) rfl rfl (by decide) (by decide) (by decide) rfl ?_)
  rintro _ rfl
  refine list_cons rfl (op_q (q_extract rfl rfl (by decide)) ?_)
  refine list_cons rfl (op_q (q_extract rfl rfl (by decide)) ?_)
  refine list_cons rfl (op_q (q_assign rfl (by decide)) ?_)
  refine list_cons rfl (op_q (q_assign rfl (by decide)) ?_)
  refine list_nil ?_
  refine hK8 _ ?_; clear hK8 K8
  refine codeT.imp (σ' := [(0, _), (1, _), (4, _), (5, _), (6, _), (7, _), (8, _)]) ?_ (imp_covers ⟨rfl, rfl, rfl, rfl, rfl, rfl, rfl, trivial⟩)
  refine code_ret ?_
  refine ends_ret (cs := []) rfl rfl rfl rfl trivial ?_
  have hRm : RowP (turnL (rowT t)) := (by assumption)
  have hE : (RowP (turnL (rowT t)) ∧ TimP (turnL (rowT t))) ↔ (TmP t ∧ TurP t) := ⟨fun k => ⟨hT, k.2⟩, fun k => ⟨hRm, k.2⟩⟩
  by_cases e : TmP t ∧ TurP t
  · rw [if_pos e, decide_eq_true e, if_pos (hE.2 e), decide_eq_true (hE.2 e)]; rfl
  · rw [if_neg e, decide_eq_false e, if_neg (fun k => e (hE.1 k)), decide_eq_false (fun k => e (hE.1 k))]

theorem moved_TurnRow (t : Int) : PCalls Tryd.prog 105 [.int .i64 t, .clo 109 []] (· = [.val (.int .i64 (if TmP t ∧ TurP t then turT t else 0)), .val (.bool (decide (TmP t ∧ TurP t)))]) := by
  by_cases h : TmP t
  · exact movedY_TurnRow t h
  · rw [if_neg (fun k : TmP t ∧ TurP t => h k.1), decide_eq_false (fun k : TmP t ∧ TurP t => h k.1)]
    exact movedN_TurnRow t h

set_option maxRecDepth 4000 in
theorem impl_TurnTime (t : Int) : PCalls Tryd.prog 40 [.int .i64 t] (· = [.val (.int .i64 (if TmP t ∧ TurP t then turT t else 0)), .val (.bool (decide (TmP t ∧ TurP t)))]) := by
  refine pcalls_of_code (n := 8) az Tryd.func40 (by kernel_rfl) rfl rfl (Nat.le_of_ble_eq_true rfl) (by intro t u h; simp [Tryd.f40] at h) ?_
  refine code_seq (fun K1 hK1 => ?_)
  refine code_region ?_
  refine list_cons rfl (op_q (q_assign rfl (by decide)) ?_)
  refine list_cons rfl (op_q (q_assign rfl (by decide)) ?_)
  refine list_nil ?_
  refine hK1 _ ?_; clear hK1 K1
  refine code_seq (fun K2 hK2 => ?_)
  refine code_region ?_
  refine list_cons rfl (op_q (q_move rfl (by decide)) ?_)
  refine list_cons rfl (op_call _ (moved_TurnRow t) rfl rfl (by decide) (by decide) (by decide) rfl ?_)
  rintro _ rfl
  refine list_cons rfl (op_q (q_extract rfl rfl (by decide)) ?_)
  refine list_cons rfl (op_q (q_extract rfl rfl (by decide)) ?_)
  refine list_cons rfl (op_q (q_assign rfl (by decide)) ?_)
  refine list_cons rfl (op_q (q_assign rfl (by decide)) ?_)
  refine list_nil ?_
  refine hK2 _ ?_; clear hK2 K2
  refine codeT.imp (σ' := [(0, _), (2, _), (3, _)]) ?_ (imp_covers ⟨rfl, rfl, rfl, trivial⟩)
  refine code_ret ?_
  refine ends_ret (cs := []) rfl rfl rfl rfl trivial ?_
  rfl

set_option maxRecDepth 4000 in
theorem gives_c (f : FuncId) (t w v : Int) (b : Prop) [Decidable b] (hf : PCalls Tryd.prog f [.int .i64 t] (· = [.val (.int .i64 v), .val (.bool (decide b))])) : PCalls Tryd.prog 125 [.clo f [], .int .i64 t, .int .i64 w] (· = [.val (.bool (decide (b ∧ v = w)))]) := by
  refine pcalls_of_code (n := 21) az Tryd.func125 (by kernel_rfl) rfl rfl (Nat.le_of_ble_eq_true rfl) (by intro t u h; simp [Tryd.f125] at h) ?_
  refine code_seq (fun K1 hK1 => ?_)
  refine code_region ?_
  refine list_cons rfl (op_q (q_assign rfl (by decide)) ?_)
  refine list_nil ?_
  refine hK1 _ ?_; clear hK1 K1
  refine code_seq (fun K2 hK2 => ?_)
  refine code_region ?_
  refine list_cons rfl (op_q (q_move rfl (by decide)) ?_)
  refine list_cons rfl (op_q (q_move rfl (by decide)) ?_)
  refine list_cons rfl (op_callF _ rfl rfl (hf) rfl rfl (by decide) (by decide) (by decide) rfl ?_)
  rintro _ _ rfl
  refine list_cons rfl (op_q (q_move rfl (by decide)) ?_)
  refine list_cons rfl (op_q (q_extract rfl rfl (by decide)) ?_)
  refine list_cons rfl (op_q (q_extract rfl rfl (by decide)) ?_)
  refine list_cons rfl (op_q (q_assign rfl (by decide)) ?_)
  refine list_cons rfl (op_q (q_assign rfl (by decide)) ?_)
  refine list_nil ?_
  refine hK2 _ ?_; clear hK2 K2
  refine codeT.imp (σ' := [(0, _), (1, _), (2, _), (6, _), (7, _), (8, _)]) ?_ (imp_covers ⟨rfl, rfl, rfl, rfl, rfl, rfl, trivial⟩)
  refine code_seq (fun K3 hK3 => ?_)
  refine code_region ?_
  refine list_cons rfl (op_q (q_move rfl (by decide)) ?_)
  refine list_cons rfl (op_q (q_move rfl (by decide)) ?_)
  refine list_guard_d rfl rfl rfl rfl (by decide) rfl (by decide) (fun h1 => ?_) (fun h1 => ?_)
  · simp only [Bool.false_eq_true, if_true, if_false, Decidable.not_not] at h1
    refine id (op_q (q_move rfl (by decide)) ?_)
    refine list_guard_y rfl rfl rfl rfl (by decide) rfl ?_
    refine id (op_q (q_move rfl (by decide)) ?_)
    refine list_guard_y rfl rfl rfl rfl (by decide) rfl ?_
    refine id (op_q (q_eq rfl rfl (by decide)) ?_)
    refine list_cons rfl (op_q (q_pick rfl rfl (by decide)) ?_)
    refine list_cons rfl (op_q (q_assign rfl (by decide)) ?_)
    refine list_nil ?_
    refine hK3 _ ?_; clear hK3 K3
    refine code_ret ?_
    refine ends_ret (cs := []) rfl rfl rfl rfl trivial ?_
    first | (rw [decide_eq_false (fun k : b ∧ v = w => h1 k.1)]; done) | (congr 3; exact decide_eq_decide.mpr ⟨fun k => ⟨h1, k⟩, fun k => k.2⟩)
  simp only [Bool.false_eq_true, if_true, if_false, Decidable.not_not] at h1
  refine list_guard_n rfl rfl rfl rfl (by decide) rfl ?_
  refine list_guard_n rfl rfl rfl rfl (by decide) rfl ?_
  refine list_cons rfl (op_q (q_pick rfl rfl (by decide)) ?_)
  refine list_cons rfl (op_q (q_assign rfl (by decide)) ?_)
  refine list_nil ?_
  refine hK3 _ ?_; clear hK3 K3
  refine code_ret ?_
  refine ends_ret (cs := []) rfl rfl rfl rfl trivial ?_
  first | (rw [decide_eq_false (fun k : b ∧ v = w => h1 k.1)]; done) | (congr 3; exact decide_eq_decide.mpr ⟨fun k => ⟨h1, k⟩, fun k => k.2⟩)

set_option maxRecDepth 4000 in
theorem hasMirror_c (t : Int) : PCalls Tryd.prog 121 [.int .i64 t] (· = [.val (.bool (decide (TmP t ∧ MirP t)))]) := by
  refine pcalls_of_code (n := 11) az Tryd.func121 (by kernel_rfl) rfl rfl (Nat.le_of_ble_eq_true rfl) (by intro t u h; simp [Tryd.f121] at h) ?_
  refine code_seq (fun K1 hK1 => ?_)
  refine code_region ?_
  refine list_cons rfl (op_q (q_assign rfl (by decide)) ?_)
  refine list_nil ?_
  refine hK1 _ ?_; clear hK1 K1
  refine code_seq (fun K2 hK2 => ?_)
  refine code_region ?_
  refine list_cons rfl (op_q (q_move rfl (by decide)) ?_)
  refine list_cons rfl (op_call _ (impl_MirrorTime _) rfl rfl (by decide) (by decide) (by decide) rfl ?_)
  rintro _ rfl
  refine list_cons rfl (op_q (q_move rfl (by decide)) ?_)
  refine list_cons rfl (op_q (q_extract rfl rfl (by decide)) ?_)
  refine list_cons rfl (op_q (q_extract rfl rfl (by decide)) ?_)
  refine list_cons rfl (op_q (q_assign rfl (by decide)) ?_)
  refine list_cons rfl (op_q (q_assign rfl (by decide)) ?_)
  refine list_nil ?_
  refine hK2 _ ?_; clear hK2 K2
  refine codeT.imp (σ' := [(0, _), (2, _), (4, _)]) ?_ (imp_covers ⟨rfl, rfl, rfl, trivial⟩)
  refine code_seq (fun K3 hK3 => ?_)
  refine code_region ?_
  refine list_cons rfl (op_q (q_move rfl (by decide)) ?_)
  refine list_cons rfl (op_q (q_assign rfl (by decide)) ?_)
  refine list_nil ?_
  refine hK3 _ ?_; clear hK3 K3
  refine code_ret ?_
  refine ends_ret (cs := []) rfl rfl rfl rfl trivial ?_
  rfl

set_option maxRecDepth 8000 in
set_option maxHeartbeats 2000000 in
theorem appendSeq_c (f : FuncId) (z caps : List PV) (L : List Int) (hL : L.length ≤ 1440) (hit : ITer Tryd.prog f (.ptr z :: caps) L.length (fun i => [.int .i64 (L.getD i 0)])) : PCalls Tryd.prog 171 [.cst 0, .clo f (.ptr z :: caps)] (· = [.own 0 3 1 (L).length ((L).map (.int .i64))]) := by
  refine pcalls_of_code (n := 13) az Tryd.func171 (by kernel_rfl) rfl rfl (Nat.le_of_ble_eq_true rfl) (by intro t u h; simp [Tryd.f171] at h) ?_
  refine codeT.imp ?_ (imp_nil (s := 0) (l := 900) (e := 3) (size := 1) (.inl rfl))
  refine code_seq (fun K1 hK1 => ?_)
  refine code_region ?_
  refine list_cons rfl (op_boxR rfl rfl (by decide) (by decide) (by decide) rfl ?_)
  refine list_cons rfl (op_q (q_assign rfl (by decide)) ?_)
  refine list_nil ?_
  refine hK1 _ ?_; clear hK1 K1
  refine codeT.imp (σ' := [(0, _), (1, _), (2, _), (4, _)]) ?_ (imp_covers ⟨rfl, rfl, rfl, rfl, trivial⟩)
  refine code_seq (fun K2 hK2 => ?_)
  refine code_seq (fun K3 hK3 => ?_)
  refine code_region ?_
  refine list_cons rfl (op_q (q_move rfl (by decide)) ?_)
  refine list_nil ?_
  refine hK3 _ ?_; clear hK3 K3
  refine code_block ?_
  refine code_rangeFunc (hit) ((fun (s1 s4 s6 : SV) (i : Nat) => ([(1, s1), (2, .boxR 2 35 3 1 [some ((L.take i).length, (L.take i).map (.int .i64))]), (4, s4), (6, s6)] : St)) _ _ _) (fun i => True) (trivial) rfl rfl rfl (by decide) rfl (fun _ _ => ⟨rfl, rfl⟩) (fun _ => rfl) rfl rfl (imp_covers ⟨rfl, rfl, rfl, rfl, trivial⟩) (fun i hi hIi => ?_) (fun hIi => ?_)
  · intro K4 hK4
    refine codeT.imp (σ' := [(7, .val (.int .i64 (L.getD i 0))), (1, _), (2, _), (4, _), (6, _)]) ?_ (imp_covers ⟨rfl, rfl, rfl, rfl, rfl, trivial⟩)
    refine code_region ?_
    refine list_cons rfl (op_q (q_assign rfl (by decide)) ?_)
    refine list_nil ?_
    refine hK4 _ rfl ?_; clear hK4 K4
    refine codeT.imp (σ' := [(1, _), (2, _), (4, _), (5, _), (6, _), (7, _)]) ?_ (imp_covers ⟨rfl, rfl, rfl, rfl, rfl, rfl, trivial⟩)
    refine code_block ?_
    refine code_region ?_
    refine list_cons rfl (op_loadR one_35 2 (.inr ⟨rfl, rfl⟩) rfl rfl (by decide) (by decide) (by decide) rfl ?_)
    refine list_cons rfl (op_q (q_move rfl (by decide)) ?_)
    refine list_cons rfl (op_buildSlice sl_35 (parts := [(0, .tmp 9)]) rfl rfl rfl (by decide) (by decide) (by decide) rfl ?_)
    refine list_cons rfl (op_append_gen sl_35 (l := 8) (.inl rfl) rfl rfl (l2 := none) (.inl ⟨rfl, (by first | rfl | exact flat_map _ (fun _ => rfl) _)⟩) (by first | rfl | simp | omega) (by rw [List.length_take]; omega) (by decide) (by decide) (by decide) ?_)
    refine list_cons rfl (op_storeR (one_35).2 2 (.inr ⟨rfl, rfl⟩) rfl rfl (by decide) (by decide) (by first | exact flat_app6 (flat_map _ (fun _ => rfl) _) rfl | rfl) Nat.zero_lt_one rfl ?_)
    refine list_nil ?_
    refine blk_n ?_
    refine rp_n ⟨trivial, imp_covers ⟨rfl, (congrArg (fun z => some (SV.boxR 2 35 3 1 [some z])) (snocI hi rfl)), rfl, rfl, trivial⟩⟩
  · skip
    refine blk_n ?_
    refine hK2 _ ?_; clear hK2 K2
    refine codeT.imp (σ' := [(1, _), (2, _), (4, _), (6, _)]) ?_ (imp_covers ⟨rfl, rfl, rfl, rfl, trivial⟩)
    refine code_seq (fun K5 hK5 => ?_)
    refine code_region ?_
    refine list_cons rfl (op_loadR one_35 2 (.inr ⟨rfl, rfl⟩) rfl rfl (by decide) (by decide) (by decide) rfl ?_)
    refine list_cons rfl (op_q (q_assign rfl (by decide)) ?_)
    refine list_nil ?_
    refine hK5 _ ?_; clear hK5 K5
    refine codeT.imp (σ' := [(1, _), (2, _), (4, _), (6, _)]) ?_ (imp_covers ⟨rfl, rfl, rfl, rfl, trivial⟩)
    refine code_ret ?_
    refine ends_ret (cs := []) rfl rfl rfl rfl trivial ?_
    rw [List.take_of_length_le (Nat.le_refl _)]

set_option maxRecDepth 4000 in
theorem collect_c (f : FuncId) (z caps : List PV) (L : List Int) (hL : L.length ≤ 1440) (hit : ITer Tryd.prog f (.ptr z :: caps) L.length (fun i => [.int .i64 (L.getD i 0)])) : PCalls Tryd.prog 159 [.clo f (.ptr z :: caps)] (· = [.own 0 3 1 (L).length ((L).map (.int .i64))]) := by
  refine pcalls_of_code (n := 5) az Tryd.func159 (by kernel_rfl) rfl rfl (Nat.le_of_ble_eq_true rfl) (by intro t u h; simp [Tryd.f159] at h) ?_
  refine code_seq (fun K1 hK1 => ?_)
  refine code_region ?_
  refine list_cons rfl (op_q (q_assign rfl (by decide)) ?_)
  refine list_nil ?_
  refine hK1 _ ?_; clear hK1 K1
  refine code_seq (fun K2 hK2 => ?_)
  refine code_region ?_
  refine list_cons rfl (op_q (q_move rfl (by decide)) ?_)
  refine list_cons rfl (op_callN (ss := [.val (.cst 0), _]) (appendSeq_c f z caps L hL hit) (pvsN_c (pvsN_x rfl rfl pvsN_nil)) (by decide) (by decide) (by decide) rfl ?_)
  rintro _ _ rfl
  refine list_cons rfl (op_q (q_assign rfl (by decide)) ?_)
  refine list_nil ?_
  refine hK2 _ ?_; clear hK2 K2
  refine codeT.imp (σ' := [(0, _), (2, _)]) ?_ (imp_covers ⟨rfl, rfl, trivial⟩)
  refine code_ret ?_
  refine ends_ret (cs := []) rfl rfl rfl rfl trivial ?_
  rfl

set_option maxRecDepth 8000 in
set_option maxHeartbeats 2000000 in
theorem timesFrom_it (a : Int) (ha : TmP a) (f : FuncId) (fc : List PV) (p : Int → Prop) [DecidablePred p] (hf : ∀ t, TmP t → PCalls Tryd.prog f (.int .i64 t :: fc) (· = [.val (.bool (decide (p t)))])) : ITer Tryd.prog 158 [.ptr [.int .i64 a], .ptr [.clo f fc]] ((selF a p 1440).length) (fun i => [.int .i64 ((selF a p 1440).getD i 0)]) := by
  refine iter_of_code (n := 22) Tryd.func158 (by kernel_rfl) rfl rfl (Nat.le_of_ble_eq_true rfl) rfl (fun Y hYN hYe => ?_)
  have ha0 := ha.1
  have ha1 := ha.2
  refine codeY_imp (σ' := [(0, _), (1, _), (2, _)]) rfl (imp_covers ⟨rfl, rfl, rfl, trivial⟩) ?_
  refine codeY_seq (fun K1 hK1 => ?_)
  refine codeY_of rfl rfl ?_
  refine code_region ?_
  refine list_cons rfl (op_q (q_move rfl (by decide)) ?_)
  refine list_nil ?_
  refine thy_n ?_
  refine hK1 _ _ ?_; clear hK1 K1
  refine codeY_imp (σ' := [(0, _), (1, _), (2, _), (6, _)]) rfl (imp_covers ⟨rfl, rfl, rfl, rfl, trivial⟩) ?_
  refine codeY_block ?_
  refine codeY_loop (X := Int) (fun x => [(0, .yld Y.l), (1, .rpar 1 [.int .i64 a]), (2, .rpar 2 [.clo f fc]), (6, .val (.int .i64 x))]) (fun x => (false, (selF a p x.toNat).length)) (fun x => 0 ≤ x ∧ x ≤ 1440) (fun x => (1440 - x).toNat) (_) rfl (imp_covers ⟨rfl, rfl, rfl, rfl, trivial⟩) rfl ?_ ?_
  · (try dsimp only)
    exact ⟨by omega, by omega⟩
  · intro x hI
    revert hI; revert x; intro t6 hI
    replace hI : 0 ≤ t6 ∧ t6 ≤ 1440 := hI
    show codeY _ _ _ [(0, .yld Y.l), (1, .rpar 1 [.int .i64 a]), (2, .rpar 2 [.clo f fc]), (6, .val (.int .i64 t6))] (false, (selF a p t6.toNat).length) _
    obtain ⟨i1, i2⟩ := hI
    refine codeY_seq (fun K2 hK2 => ?_)
    refine codeY_of rfl rfl ?_
    refine code_region ?_
    refine list_cons rfl (op_q (q_lt rfl rfl (by decide)) ?_)
    refine list_nil ?_
    refine thy_n ?_
    refine hK2 _ _ ?_; clear hK2 K2
    refine codeY_imp (σ' := [(0, _), (1, _), (2, _), (6, _), (7, _)]) rfl (imp_covers ⟨rfl, rfl, rfl, rfl, rfl, trivial⟩) ?_
    refine codeY_seq (fun K3 hK3 => ?_)
    refine codeY_of rfl rfl ?_
    refine code_cond_d rfl (fun h1 => ?_) (fun h1 => ?_)
    · skip
      (try simp only [Decidable.not_not] at h1); (try have hlt := (selF_at (k := 1440) (p := p) i1 (by omega) h1).1)
      refine code_skip ?_
      refine thy_n ?_
      refine hK3 _ _ ?_; clear hK3 K3
      refine codeY_imp (σ' := [(0, _), (1, _), (2, _), (6, _)]) rfl (imp_covers ⟨rfl, rfl, rfl, rfl, trivial⟩) ?_
      refine codeY_seq (fun K4 hK4 => ?_)
      refine codeY_block ?_
      refine codeY_seq (fun K5 hK5 => ?_)
      refine codeY_of rfl rfl ?_
      refine code_region ?_
      refine list_cons rfl (op_q (q_move rfl (by decide)) ?_)
      refine list_cons rfl (op_q (q_assign rfl (by decide)) ?_)
      refine list_nil ?_
      refine thy_n ?_
      refine hK5 _ _ ?_; clear hK5 K5
      refine codeY_imp (σ' := [(0, _), (1, _), (2, _), (4, _), (6, _)]) rfl (imp_covers ⟨rfl, rfl, rfl, rfl, rfl, trivial⟩) ?_
      refine codeY_seq (fun K6 hK6 => ?_)
      refine codeY_of rfl rfl ?_
      refine code_region ?_
      refine list_cons rfl (op_q (q_load_rd one_3 rfl (.inl ⟨_, (by first | rfl | exact congrArg (SV.rpar _) (drop_map1 _ 0 _ (by first | omega | (simp; omega)))), rfl⟩) (by decide)) ?_)
      refine list_cons rfl (op_q (q_move rfl (by decide)) ?_)
      refine list_cons rfl (op_call _ (impl_laterTime _ _ (by omega) (by omega)) rfl rfl (by decide) (by decide) (by decide) rfl ?_)
      rintro _ rfl
      refine list_cons rfl (op_q (q_assign rfl (by decide)) ?_)
      refine list_nil ?_
      refine thy_n ?_
      refine hK6 _ _ ?_; clear hK6 K6
      refine codeY_imp (σ' := [(0, _), (1, _), (2, _), (4, _), (5, _), (6, _)]) rfl (imp_covers ⟨rfl, rfl, rfl, rfl, rfl, rfl, trivial⟩) ?_
      refine codeY_seq (fun K7 hK7 => ?_)
      refine codeY_region ?_
      refine listY_op rfl rfl (op_q (q_load_rdP one_58 rfl (by decide)) ?_)
      refine listY_op rfl rfl (op_q (q_move rfl (by decide)) ?_)
      refine listY_op rfl rfl (op_callV _ rfl rfl rfl rfl (pcV (hf _ (by constructor <;> omega))) (by decide) ?_)
      rintro _ rfl
      refine listY_op rfl rfl (op_q (q_move rfl (by decide)) ?_)
      refine listY_split (dj := 15) rfl (fun h2 => ?_) (fun h2 => ?_)
      · skip
        (try simp only [Decidable.not_not] at h2); (try have hlt := (selF_at (k := 1440) (p := p) i1 (by omega) h2).1)
        refine listY_guard_y rfl rfl rfl (by decide) rfl (op_q (q_move rfl (by decide)) ?_)
        refine listY_guard_y rfl rfl rfl (by decide) rfl (op_q (q_move rfl (by decide)) ?_)
        refine listY_yieldG (k := (selF a p t6.toNat).length) rfl rfl (by rw [hYe]; show some [PV.int .i64 ((a + t6) % 1440)] = some [PV.int .i64 ((selF a p 1440).getD (selF a p t6.toNat).length 0)]; rw [(selF_at (p := p) i1 (by omega) (by assumption)).2]) (by rw [hYe]; rfl) (by rw [hYN]; exact (selF_at (p := p) i1 (by omega) (by assumption)).1) rfl (by decide) (.inr ⟨_, _, _, rfl, rfl, rfl, by decide⟩) ?_ ?_
        · skip
          refine listY_guard_y rfl rfl rfl (by decide) rfl (op_q (by first | exact q_notd rfl (by decide) | exact q_not rfl (by decide)) ?_)
          refine listY_op rfl rfl (op_q (q_pick rfl rfl (by decide)) ?_)
          refine listY_nil ?_
          refine thy_n ?_
          refine hK7 _ _ ?_; clear hK7 K7
          refine codeY_imp (σ' := [(0, _), (1, _), (2, _), (4, _), (5, _), (6, _), (20, _)]) rfl (imp_covers ⟨rfl, rfl, rfl, rfl, rfl, rfl, rfl, trivial⟩) ?_
          refine codeY_of rfl rfl ?_
          refine code_cond_f rfl ?_
          refine code_skip ?_
          refine bly_n ?_
          refine thy_n ?_
          refine hK4 _ _ ?_; clear hK4 K4
          refine codeY_imp (σ' := [(0, _), (1, _), (2, _), (4, _), (5, _), (6, _)]) rfl (imp_covers ⟨rfl, rfl, rfl, rfl, rfl, rfl, trivial⟩) ?_
          refine codeY_of rfl rfl ?_
          refine code_region ?_
          refine list_cons rfl (op_q (by first | exact q_addI rfl rfl (by decide) (by omega) (by omega) | exact q_ib rfl rfl rfl (by decide)) ?_)
          refine list_cons rfl (op_q (q_move rfl (by decide)) ?_)
          refine list_nil ?_
          refine thy_n ⟨(_), rfl, imp_covers ⟨rfl, rfl, rfl, rfl, trivial⟩, ?_, ?_, ?_⟩
          · first | (rw [selF_yes i1 (by assumption), List.length_append]; rfl) | (rw [selF_no i1 (by assumption)]; done)
          · (try dsimp only)
            exact ⟨by omega, by omega⟩
          · (try dsimp only); omega
        · skip
          refine listY_guard_y rfl rfl rfl (by decide) rfl (op_q (by first | exact q_notd rfl (by decide) | exact q_not rfl (by decide)) ?_)
          refine listY_op rfl rfl (op_q (q_pick rfl rfl (by decide)) ?_)
          refine listY_nil ?_
          refine thy_n ?_
          refine hK7 _ _ ?_; clear hK7 K7
          refine codeY_imp (σ' := [(0, _), (1, _), (2, _), (4, _), (5, _), (6, _), (20, _)]) rfl (imp_covers ⟨rfl, rfl, rfl, rfl, rfl, rfl, rfl, trivial⟩) ?_
          refine codeY_of rfl rfl ?_
          refine code_cond_t rfl ?_
          refine code_ret ?_
          refine bly_r ?_
          refine thy_r ?_
          refine thy_r ?_
          refine bly_r ?_
          exact ⟨.inr rfl, .inl ⟨rfl, by (try dsimp only); omega⟩⟩
      · skip
        (try simp only [Decidable.not_not] at h2); (try have hlt := (selF_at (k := 1440) (p := p) i1 (by omega) h2).1)
        refine listY_guard_n rfl rfl rfl rfl (by decide) (by decide) ?_
        refine listY_guard_n rfl rfl rfl rfl (by decide) (by decide) ?_
        refine listY_guard_n rfl rfl rfl rfl (by decide) (by decide) ?_
        refine listY_guard_n rfl rfl rfl rfl (by decide) (by decide) ?_
        refine listY_op rfl rfl (op_q (q_pick rfl rfl (by decide)) ?_)
        refine listY_nil ?_
        refine thy_n ?_
        refine hK7 _ _ ?_; clear hK7 K7
        refine codeY_imp (σ' := [(0, _), (1, _), (2, _), (4, _), (5, _), (6, _), (20, _)]) rfl (imp_covers ⟨rfl, rfl, rfl, rfl, rfl, rfl, rfl, trivial⟩) ?_
        refine codeY_of rfl rfl ?_
        refine code_cond_f rfl ?_
        refine code_skip ?_
        refine bly_n ?_
        refine thy_n ?_
        refine hK4 _ _ ?_; clear hK4 K4
        refine codeY_imp (σ' := [(0, _), (1, _), (2, _), (4, _), (5, _), (6, _)]) rfl (imp_covers ⟨rfl, rfl, rfl, rfl, rfl, rfl, trivial⟩) ?_
        refine codeY_of rfl rfl ?_
        refine code_region ?_
        refine list_cons rfl (op_q (by first | exact q_addI rfl rfl (by decide) (by omega) (by omega) | exact q_ib rfl rfl rfl (by decide)) ?_)
        refine list_cons rfl (op_q (q_move rfl (by decide)) ?_)
        refine list_nil ?_
        refine thy_n ⟨(_), rfl, imp_covers ⟨rfl, rfl, rfl, rfl, trivial⟩, ?_, ?_, ?_⟩
        · first | (rw [selF_yes i1 (by assumption), List.length_append]; rfl) | (rw [selF_no i1 (by assumption)]; done)
        · (try dsimp only)
          exact ⟨by omega, by omega⟩
        · (try dsimp only); omega
    (try simp only [Decidable.not_not] at h1); (try have hlt := (selF_at (k := 1440) (p := p) i1 (by omega) h1).1)
    refine code_exit ?_
    refine thy_x ?_; clear hK3 K3
    refine thy_x ?_
    refine bly_hit ?_
    exact ⟨.inl rfl, .inr (by rw [show t6.toNat = 1440 by omega])⟩

set_option maxRecDepth 4000 in
theorem timesFrom_0 (a : Int) (f : FuncId) : PCalls Tryd.prog 120 [.int .i64 a, .clo f []] (· = [.frz 0 (.clo 158 [.ptr [.int .i64 a], .ptr [.clo f []]])]) := by
  refine pcalls_of_code (n := 6) az Tryd.func120 (by kernel_rfl) rfl rfl (Nat.le_of_ble_eq_true rfl) (by intro t u h; simp [Tryd.f120] at h) ?_
  refine code_seq (fun K1 hK1 => ?_)
  refine code_region ?_
  refine list_cons rfl (op_box rfl (.inl ⟨rfl, rfl⟩) (by decide) (by decide) rfl ?_)
  refine list_cons rfl (op_box rfl (.inl ⟨rfl, rfl⟩) (by decide) (by decide) rfl ?_)
  refine list_cons rfl (op_q (q_deadconst (by decide)) ?_)
  refine list_nil ?_
  refine hK1 _ ?_; clear hK1 K1
  refine code_seq (fun K2 hK2 => ?_)
  refine code_region ?_
  refine list_cons rfl (op_makeFunc (xs := [.tmp 2, .tmp 3]) rfl rfl rfl (by decide) (by decide) rfl ?_)
  refine list_cons rfl (op_q (q_assign rfl (by decide)) ?_)
  refine list_nil ?_
  refine hK2 _ ?_; clear hK2 K2
  refine codeT.imp (σ' := [(0, _), (1, _), (2, _), (3, _), (4, _)]) ?_ (imp_covers ⟨rfl, rfl, rfl, rfl, rfl, trivial⟩)
  refine code_ret ?_
  refine ends_ret (cs := []) rfl rfl rfl rfl trivial ?_
  rfl

set_option maxRecDepth 4000 in
theorem timesFrom_B (a : Int) (f : FuncId) (z caps : List PV) : MCalls Tryd.prog 120 true none [.int .i64 a, .clo f (.ptr z :: caps)] (fun rs _ => rs = [.bor 0 (.clo 158 [.ptr [.int .i64 a], .ptr [.clo f (.ptr z :: caps)]])]) := by
  refine mcalls_of_code (n := 6) az Tryd.func120 (by kernel_rfl) rfl rfl (Nat.le_of_ble_eq_true rfl) (by intro t u h; simp [Tryd.f120] at h) ?_
  refine code_seq (fun K1 hK1 => ?_)
  refine code_region ?_
  refine list_cons rfl (op_box rfl (.inl ⟨rfl, rfl⟩) (by decide) (by decide) rfl ?_)
  refine list_cons rfl (op_box rfl (.inr rfl) (by decide) (by decide) rfl ?_)
  refine list_cons rfl (op_q (q_deadconst (by decide)) ?_)
  refine list_nil ?_
  refine hK1 _ ?_; clear hK1 K1
  refine code_seq (fun K2 hK2 => ?_)
  refine code_region ?_
  refine list_cons rfl (op_makeFuncB (xs := [.tmp 2, .tmp 3]) rfl rfl rfl (by decide) (by decide) rfl ?_)
  refine list_cons rfl (op_q (q_assign rfl (by decide)) ?_)
  refine list_nil ?_
  refine hK2 _ ?_; clear hK2 K2
  refine codeT.imp (σ' := [(0, _), (1, _), (2, _), (3, _), (4, _)]) ?_ (imp_covers ⟨rfl, rfl, rfl, rfl, rfl, trivial⟩)
  refine code_ret ?_
  refine ends_ret (cs := []) rfl rfl rfl rfl trivial ?_
  rfl

set_option maxRecDepth 8000 in
set_option maxHeartbeats 2000000 in
theorem timesThat_0 (f : FuncId) (p : Int → Prop) [DecidablePred p] (hf : ∀ t, TmP t → PCalls Tryd.prog f (.int .i64 t :: []) (· = [.val (.bool (decide (p t)))])) : PCalls Tryd.prog 123 [.clo f []] (· = [.own 0 3 1 (selF 0 p 1440).length ((selF 0 p 1440).map (.int .i64))]) := by
  refine pcalls_of_code (n := 6) az Tryd.func123 (by kernel_rfl) rfl rfl (Nat.le_of_ble_eq_true rfl) (by intro t u h; simp [Tryd.f123] at h) ?_
  refine code_seq (fun K1 hK1 => ?_)
  refine code_region ?_
  refine list_cons rfl (op_q (q_assign rfl (by decide)) ?_)
  refine list_nil ?_
  refine hK1 _ ?_; clear hK1 K1
  refine code_seq (fun K2 hK2 => ?_)
  refine code_region ?_
  refine list_cons rfl (op_q (q_move rfl (by decide)) ?_)
  refine list_cons rfl (op_call _ (timesFrom_0 0 f) rfl rfl (by decide) (by decide) (by decide) rfl ?_)
  rintro _ rfl
  refine listT.imp ?_ imp_unfrz
  refine list_cons rfl (op_call _ (collect_c 158 [.int .i64 0] [.ptr [.clo f []]] (selF 0 p 1440) (selF_len _ _ _) (timesFrom_it 0 ⟨by decide, by decide⟩ f [] p hf)) rfl rfl (by decide) (by decide) (by decide) rfl ?_)
  rintro _ rfl
  refine list_cons rfl (op_q (q_assign rfl (by decide)) ?_)
  refine list_nil ?_
  refine hK2 _ ?_; clear hK2 K2
  refine codeT.imp (σ' := [(0, _), (2, _)]) ?_ (imp_covers ⟨rfl, rfl, trivial⟩)
  refine code_ret ?_
  refine ends_ret (cs := []) rfl rfl rfl rfl trivial ?_
  rfl

set_option maxRecDepth 8000 in
set_option maxHeartbeats 2000000 in
theorem timesThat_B (f : FuncId) (z caps : List PV) (p : Int → Prop) [DecidablePred p] (hf : ∀ t, TmP t → PCalls Tryd.prog f (.int .i64 t :: (.ptr z :: caps)) (· = [.val (.bool (decide (p t)))])) : MCalls Tryd.prog 123 true none [.clo f (.ptr z :: caps)] (fun rs _ => rs = [.own 0 3 1 (selF 0 p 1440).length ((selF 0 p 1440).map (.int .i64))]) := by
  refine mcalls_of_code (n := 6) az Tryd.func123 (by kernel_rfl) rfl rfl (Nat.le_of_ble_eq_true rfl) (by intro t u h; simp [Tryd.f123] at h) ?_
  refine code_seq (fun K1 hK1 => ?_)
  refine code_region ?_
  refine list_cons rfl (op_q (q_assign rfl (by decide)) ?_)
  refine list_nil ?_
  refine hK1 _ ?_; clear hK1 K1
  refine code_seq (fun K2 hK2 => ?_)
  refine code_region ?_
  refine list_cons rfl (op_q (q_move rfl (by decide)) ?_)
  refine list_cons rfl (op_callM (timesFrom_B 0 f z caps) (.tmp 0) 0 [] [_, .tmp 3] _ rfl rfl (by intro y hy; cases hy) (by decide) (by decide) (by decide) rfl (by intro h; cases h) ?_)
  rintro _ _ rfl
  refine list_cons rfl (op_call _ (collect_c 158 [.int .i64 0] [.ptr [.clo f (.ptr z :: caps)]] (selF 0 p 1440) (selF_len _ _ _) (timesFrom_it 0 ⟨by decide, by decide⟩ f (.ptr z :: caps) p hf)) rfl rfl (by decide) (by decide) (by decide) rfl ?_)
  rintro _ rfl
  refine list_cons rfl (op_q (q_assign rfl (by decide)) ?_)
  refine list_nil ?_
  refine hK2 _ ?_; clear hK2 K2
  refine codeT.imp (σ' := [(0, _), (2, _)]) ?_ (imp_covers ⟨rfl, rfl, trivial⟩)
  refine code_ret ?_
  refine ends_ret (cs := []) rfl rfl rfl rfl trivial ?_
  rfl

set_option maxRecDepth 4000 in
theorem SameInMirror1_c (t : Int) (h : TmP t) : PCalls Tryd.prog 127 [.int .i64 t] (· = [.val (.bool (decide ((TmP t ∧ MirP t) ∧ mirT t = t)))]) := by
  refine pcalls_of_code (n := 6) az Tryd.func127 (by kernel_rfl) rfl rfl (Nat.le_of_ble_eq_true rfl) (by intro t u h; simp [Tryd.f127] at h) ?_
  refine code_seq (fun K1 hK1 => ?_)
  refine code_region ?_
  refine list_cons rfl (op_q (q_assign rfl (by decide)) ?_)
  refine list_nil ?_
  refine hK1 _ ?_; clear hK1 K1
  refine code_seq (fun K2 hK2 => ?_)
  refine code_region ?_
  refine list_cons rfl (op_q (q_move rfl (by decide)) ?_)
  refine list_cons rfl (op_q (q_move rfl (by decide)) ?_)
  refine list_cons rfl (op_call _ (gives_c 38 t (t) (if TmP t ∧ MirP t then mirT t else 0) (TmP t ∧ MirP t) (impl_MirrorTime t)) rfl rfl (by decide) (by decide) (by decide) rfl ?_)
  rintro _ rfl
  refine list_cons rfl (op_q (q_assign rfl (by decide)) ?_)
  refine list_nil ?_
  refine hK2 _ ?_; clear hK2 K2
  refine codeT.imp (σ' := [(0, _), (2, _)]) ?_ (imp_covers ⟨rfl, rfl, trivial⟩)
  refine code_ret ?_
  refine ends_ret (cs := []) rfl rfl rfl rfl trivial ?_
  congr 3; exact decide_eq_decide.mpr ⟨fun k => ⟨k.1, by have k2 := k.2; rwa [if_pos k.1] at k2⟩, fun k => ⟨k.1, by rw [if_pos k.1]; exact k.2⟩⟩

set_option maxRecDepth 8000 in
set_option maxHeartbeats 2000000 in
theorem impl_SameInMirror  : PCalls Tryd.prog 52 [] (· = [.own 0 3 1 (selK smP 1440).length ((selK smP 1440).map (.int .i64))]) := by
  refine pcalls_of_code (n := 2) az Tryd.func52 (by kernel_rfl) rfl rfl (Nat.le_of_ble_eq_true rfl) (by intro t u h; simp [Tryd.f52] at h) ?_
  refine code_seq (fun K1 hK1 => ?_)
  refine code_region ?_
  refine list_cons rfl (op_q (q_assign rfl (by decide)) ?_)
  refine list_nil ?_
  refine hK1 _ ?_; clear hK1 K1
  refine code_seq (fun K2 hK2 => ?_)
  refine code_region ?_
  refine list_cons rfl (op_call _ (timesThat_0 127 (fun t => (TmP t ∧ MirP t) ∧ mirT t = t) (fun t h => SameInMirror1_c t h)) rfl rfl (by decide) (by decide) (by decide) rfl ?_)
  rintro _ rfl
  refine list_cons rfl (op_q (q_assign rfl (by decide)) ?_)
  refine list_nil ?_
  refine hK2 _ ?_; clear hK2 K2
  refine codeT.imp (σ' := [(0, _)]) ?_ (imp_covers ⟨rfl, trivial⟩)
  refine code_ret ?_
  refine ends_ret (cs := []) rfl rfl rfl rfl trivial ?_
  rw [selF_K smP (fun t => (TmP t ∧ MirP t) ∧ mirT t = t) 1440 (Nat.le_refl _) (fun j hj => ⟨fun k => ⟨⟨⟨by omega, by omega⟩, k.1⟩, k.2⟩, fun k => ⟨k.1.2, k.2⟩⟩)]

set_option maxRecDepth 4000 in
theorem SameTurned1_c (t : Int) (h : TmP t) : PCalls Tryd.prog 128 [.int .i64 t] (· = [.val (.bool (decide ((TmP t ∧ TurP t) ∧ turT t = t)))]) := by
  refine pcalls_of_code (n := 6) az Tryd.func128 (by kernel_rfl) rfl rfl (Nat.le_of_ble_eq_true rfl) (by intro t u h; simp [Tryd.f128] at h) ?_
  refine code_seq (fun K1 hK1 => ?_)
  refine code_region ?_
  refine list_cons rfl (op_q (q_assign rfl (by decide)) ?_)
  refine list_nil ?_
  refine hK1 _ ?_; clear hK1 K1
  refine code_seq (fun K2 hK2 => ?_)
  refine code_region ?_
  refine list_cons rfl (op_q (q_move rfl (by decide)) ?_)
  refine list_cons rfl (op_q (q_move rfl (by decide)) ?_)
  refine list_cons rfl (op_call _ (gives_c 40 t (t) (if TmP t ∧ TurP t then turT t else 0) (TmP t ∧ TurP t) (impl_TurnTime t)) rfl rfl (by decide) (by decide) (by decide) rfl ?_)
  rintro _ rfl
  refine list_cons rfl (op_q (q_assign rfl (by decide)) ?_)
  refine list_nil ?_
  refine hK2 _ ?_; clear hK2 K2
  refine codeT.imp (σ' := [(0, _), (2, _)]) ?_ (imp_covers ⟨rfl, rfl, trivial⟩)
  refine code_ret ?_
  refine ends_ret (cs := []) rfl rfl rfl rfl trivial ?_
  congr 3; exact decide_eq_decide.mpr ⟨fun k => ⟨k.1, by have k2 := k.2; rwa [if_pos k.1] at k2⟩, fun k => ⟨k.1, by rw [if_pos k.1]; exact k.2⟩⟩

set_option maxRecDepth 8000 in
set_option maxHeartbeats 2000000 in
theorem impl_SameTurned  : PCalls Tryd.prog 57 [] (· = [.own 0 3 1 (selK stP 1440).length ((selK stP 1440).map (.int .i64))]) := by
  refine pcalls_of_code (n := 2) az Tryd.func57 (by kernel_rfl) rfl rfl (Nat.le_of_ble_eq_true rfl) (by intro t u h; simp [Tryd.f57] at h) ?_
  refine code_seq (fun K1 hK1 => ?_)
  refine code_region ?_
  refine list_cons rfl (op_q (q_assign rfl (by decide)) ?_)
  refine list_nil ?_
  refine hK1 _ ?_; clear hK1 K1
  refine code_seq (fun K2 hK2 => ?_)
  refine code_region ?_
  refine list_cons rfl (op_call _ (timesThat_0 128 (fun t => (TmP t ∧ TurP t) ∧ turT t = t) (fun t h => SameTurned1_c t h)) rfl rfl (by decide) (by decide) (by decide) rfl ?_)
  rintro _ rfl
  refine list_cons rfl (op_q (q_assign rfl (by decide)) ?_)
  refine list_nil ?_
  refine hK2 _ ?_; clear hK2 K2
  refine codeT.imp (σ' := [(0, _)]) ?_ (imp_covers ⟨rfl, trivial⟩)
  refine code_ret ?_
  refine ends_ret (cs := []) rfl rfl rfl rfl trivial ?_
  rw [selF_K stP (fun t => (TmP t ∧ TurP t) ∧ turT t = t) 1440 (Nat.le_refl _) (fun j hj => ⟨fun k => ⟨⟨⟨by omega, by omega⟩, k.1⟩, k.2⟩, fun k => ⟨k.1.2, k.2⟩⟩)]

theorem selF_TM (a : Int) : selF a (fun t => TmP t ∧ MirP t) 1440 = selF a MirP 1440 := by
  unfold selF
  apply List.filter_congr
  intro t ht
  obtain ⟨j, _, rfl⟩ := List.mem_map.1 ht
  exact decide_eq_decide.mpr ⟨fun k => k.2, fun k => ⟨⟨by omega, by omega⟩, k⟩⟩
theorem mirs_it (a : Int) (ha : TmP a) : ITer Tryd.prog 158 [.ptr [.int .i64 a], .ptr [.clo 121 []]] (selF a MirP 1440).length (fun i => [.int .i64 ((selF a MirP 1440).getD i 0)]) := by
  have h := timesFrom_it a ha 121 [] (fun t => TmP t ∧ MirP t) (fun t _ => hasMirror_c t)
  rw [selF_TM a] at h
  exact h

set_option maxRecDepth 8000 in
set_option maxHeartbeats 2000000 in
theorem impl_MirrorPairs  : PCalls Tryd.prog 53 [] (· = [.own 0 52 2 (prsK 1440).length (fl (prsK 1440))]) := by
  refine pcalls_of_code (n := 26) az Tryd.func53 (by kernel_rfl) rfl rfl (Nat.le_of_ble_eq_true rfl) (by intro t u h; simp [Tryd.f53] at h) ?_
  refine code_seq (fun K1 hK1 => ?_)
  refine code_region ?_
  refine list_cons rfl (op_q (q_assign rfl (by decide)) ?_)
  refine list_nil ?_
  refine hK1 _ ?_; clear hK1 K1
  refine code_seq (fun K2 hK2 => ?_)
  refine code_region ?_
  refine list_cons rfl (op_buildSlice sl_48 (parts := []) rfl rfl rfl (by decide) (by decide) (by decide) rfl ?_)
  refine list_cons rfl (op_allocR (e := 52) (size := 2) (k := 1) zt_48 (by decide) (by decide) rfl ?_)
  refine list_cons rfl (op_storeR (one_48).2 1 (.inr ⟨rfl, rfl⟩) rfl rfl (by decide) (by decide) (by first | exact flat_app6 (fl_flat _) rfl | rfl) Nat.zero_lt_one rfl ?_)
  refine list_nil ?_
  refine hK2 _ ?_; clear hK2 K2
  refine codeT.imp (σ' := [(0, _), (1, _)]) ?_ (imp_covers ⟨rfl, rfl, trivial⟩)
  refine code_seq (fun K3 hK3 => ?_)
  refine code_seq (fun K4 hK4 => ?_)
  refine code_region ?_
  refine list_cons rfl (op_call _ (timesFrom_0 0 121) rfl rfl (by decide) (by decide) (by decide) rfl ?_)
  rintro _ rfl
  refine listT.imp ?_ imp_unfrz
  refine list_nil ?_
  refine hK4 _ ?_; clear hK4 K4
  refine codeT.imp (σ' := [(0, _), (1, _), (6, _)]) ?_ (imp_covers ⟨rfl, rfl, rfl, trivial⟩)
  refine code_block ?_
  refine code_rangeFunc (mirs_it 0 ⟨by decide, by decide⟩) ((fun (s0 : SV) (i : Nat) => ([(0, s0), (1, .boxR 1 48 52 2 [some ((prI i).length, fl (prI i))])] : St)) _) (fun i => True) (trivial) rfl rfl rfl (by decide) rfl (fun _ _ => ⟨rfl, rfl⟩) (fun _ => rfl) rfl rfl (imp_covers ⟨rfl, rfl, trivial⟩) (fun i hi hIi => ?_) (fun hIi => ?_)
  · intro K5 hK5
    refine codeT.imp (σ' := [(7, .val (.int .i64 ((selF 0 MirP 1440).getD i 0))), (0, _), (1, _)]) ?_ (imp_covers ⟨rfl, rfl, rfl, trivial⟩)
    have hg := selF_get hi
    have hM : TmP ((selF 0 MirP 1440).getD i 0) ∧ MirP ((selF 0 MirP 1440).getD i 0) := ⟨⟨hg.1, hg.2.1⟩, hg.2.2⟩
    refine code_region ?_
    refine list_cons rfl (op_q (q_assign rfl (by decide)) ?_)
    refine list_nil ?_
    refine hK5 _ rfl ?_; clear hK5 K5
    refine codeT.imp (σ' := [(0, _), (1, _), (2, _), (7, _)]) ?_ (imp_covers ⟨rfl, rfl, rfl, rfl, trivial⟩)
    refine code_block ?_
    refine code_seq (fun K6 hK6 => ?_)
    refine code_region ?_
    refine list_cons rfl (op_q (q_move rfl (by decide)) ?_)
    refine list_cons rfl (op_call _ (impl_MirrorTime ((selF 0 MirP 1440).getD i 0)) rfl rfl (by decide) (by decide) (by decide) rfl ?_)
    rintro _ rfl; simp only [if_pos hM, decide_eq_true hM]
    refine list_cons rfl (op_q (q_move rfl (by decide)) ?_)
    refine list_cons rfl (op_q (q_extract rfl rfl (by decide)) ?_)
    refine list_cons rfl (op_q (q_extract rfl rfl (by decide)) ?_)
    refine list_cons rfl (op_q (q_assign rfl (by decide)) ?_)
    refine list_cons rfl (op_q (q_assign rfl (by decide)) ?_)
    refine list_nil ?_
    refine hK6 _ ?_; clear hK6 K6
    refine codeT.imp (σ' := [(0, _), (1, _), (2, _), (3, _), (4, _), (7, _)]) ?_ (imp_covers ⟨rfl, rfl, rfl, rfl, rfl, rfl, trivial⟩)
    refine code_seq (fun K7 hK7 => ?_)
    refine code_region ?_
    refine list_cons rfl (op_q (q_move rfl (by decide)) ?_)
    refine list_cons rfl (op_q (q_move rfl (by decide)) ?_)
    refine list_guard_y rfl rfl rfl rfl (by decide) rfl ?_
    refine id (op_q (q_move rfl (by decide)) ?_)
    refine list_guard_y rfl rfl rfl rfl (by decide) rfl ?_
    refine id (op_q (q_move rfl (by decide)) ?_)
    refine list_guard_y rfl rfl rfl rfl (by decide) rfl ?_
    refine id (op_q (q_lt rfl rfl (by decide)) ?_)
    refine list_cons rfl (op_q (q_pick rfl rfl (by decide)) ?_)
    refine list_nil ?_
    refine hK7 _ ?_; clear hK7 K7
    refine code_cond_d rfl (fun h1 => ?_) (fun h1 => ?_)
    · skip
      (try simp only [Decidable.not_not] at h1)
      refine code_region ?_
      refine list_cons rfl (op_loadR one_48 1 (.inr ⟨rfl, rfl⟩) rfl rfl (by decide) (by decide) (by decide) rfl ?_)
      refine list_cons rfl (op_q (q_move rfl (by decide)) ?_)
      refine list_cons rfl (op_q (q_move rfl (by decide)) ?_)
      refine list_cons rfl (op_q (q_build bt_52 (parts := [(0, .tmp 20), (1, .tmp 21)]) rfl rfl (by decide)) ?_)
      refine list_cons rfl (op_buildSlice sl_48 (parts := [(0, .tmp 22)]) rfl rfl rfl (by decide) (by decide) (by decide) rfl ?_)
      refine list_cons rfl (op_append_gen sl_48 (l := 19) (.inl rfl) rfl rfl (l2 := none) (.inl ⟨rfl, (by first | rfl | exact flat_map _ (fun _ => rfl) _)⟩) (by first | rfl | (simp [PV.cells, putAt, zeros]; done)) (by have hq := prI_len i; omega) (by decide) (by decide) (by decide) ?_)
      refine list_cons rfl (op_storeR (one_48).2 1 (.inr ⟨rfl, rfl⟩) rfl rfl (by decide) (by decide) (by first | exact flat_app6 (fl_flat _) rfl | rfl) Nat.zero_lt_one rfl ?_)
      refine list_nil ?_
      refine blk_n ?_
      refine rp_n ⟨trivial, imp_covers ⟨rfl, (congrArg (fun z => some (SV.boxR 1 48 52 2 [some z])) (by first | exact snocQ (by rw [prI_succ hi, if_pos h1]) | exact sameQ (by rw [prI_succ hi, if_neg h1, List.append_nil]))), trivial⟩⟩
    (try simp only [Decidable.not_not] at h1)
    refine code_skip ?_
    refine blk_n ?_
    refine rp_n ⟨trivial, imp_covers ⟨rfl, (congrArg (fun z => some (SV.boxR 1 48 52 2 [some z])) (by first | exact snocQ (by rw [prI_succ hi, if_pos h1]) | exact sameQ (by rw [prI_succ hi, if_neg h1, List.append_nil]))), trivial⟩⟩
  · skip
    refine blk_n ?_
    refine hK3 _ ?_; clear hK3 K3
    refine codeT.imp (σ' := [(0, _), (1, _)]) ?_ (imp_covers ⟨rfl, rfl, trivial⟩)
    refine code_seq (fun K8 hK8 => ?_)
    refine code_region ?_
    refine list_cons rfl (op_loadR one_48 1 (.inr ⟨rfl, rfl⟩) rfl rfl (by decide) (by decide) (by decide) rfl ?_)
    refine list_cons rfl (op_q (q_assign rfl (by decide)) ?_)
    refine list_nil ?_
    refine hK8 _ ?_; clear hK8 K8
    refine codeT.imp (σ' := [(0, _), (1, _)]) ?_ (imp_covers ⟨rfl, rfl, trivial⟩)
    refine code_ret ?_
    refine ends_ret (cs := []) rfl rfl rfl rfl trivial ?_
    rw [prI_end]

end Go.Proofs.YtdlckhdalbagmaaDoor
