/- Contracts of functions, walked over the pure layer; each says for which arguments. -/
import Derived.Test.YtdlckhdalbagmaaDoork2Ty
import Derived.Test.YtdlckhdalbagmaaDoorTf
import Derived.Test.YtdlckhdalbagmaaDoork1
import Derived.Test.YtdlckhdalbagmaaDoorShelf
namespace Go.Proofs.YtdlckhdalbagmaaDoor
open Go.RowKit k2Ty
set_option linter.unusedVariables false
set_option linter.unusedSimpArgs false

def abcG : List UInt8 := [97, 98, 99, 100, 101, 102, 103]
def ixR (r : Int) : Int := if 97 ≤ r ∧ r ≤ 103 then r - 97 else -1
set_option maxRecDepth 100000 in
theorem ix_ascii (r : Int) (h0 : 0 ≤ r) (h1 : r < 128) : Lib.indexByte abcG r.toNat.toUInt8 = ixR r := by
  have k : below 128 (fun n => intEq (Lib.indexByte abcG n.toUInt8) (ixR (n : Int))) = true := by kernel_rfl
  have := below_ok k r.toNat (by omega)
  rw [intEq_eq, beq_iff_eq] at this
  rwa [Int.toNat_of_nonneg h0] at this
theorem ix_none (c : UInt8) (h : 128 ≤ c.toNat) (l : List UInt8) (hl : ∀ b ∈ l, b.toNat < 128) : Lib.indexByte l c = -1 := by
  induction l with
  | nil => rfl
  | cons b l ih =>
    have hb := hl b (by simp)
    have hne : (b == c) = false := by
      rw [beq_eq_false_iff_ne]; intro e; subst e; omega
    unfold Lib.indexByte
    rw [ih (fun x hx => hl x (by simp [hx])), hne]; rfl
theorem abcG_lt : ∀ b ∈ abcG, b.toNat < 128 := by decide


theorem indexByte_c (s : List UInt8) (b : UInt8) : PCalls Tryd.prog 173 [.str s, .int .u8 b.toNat] (· = [.val (.int .i64 (Lib.indexByte s b))]) := by
  refine pcalls_flat (enters_of Tryd.func173 (by kernel_rfl) rfl) fun w vs ha => ?_
  obtain ⟨v0, r0, rfl, ha0, ha⟩ := repArgs_cons ha
  obtain ⟨v1, r1, rfl, ha1, ha⟩ := repArgs_cons ha
  obtain rfl := repArgs_nil ha
  simp only [Rep] at ha0 ha1
  subst ha0; subst ha1
  refine (Tryd.strings_IndexByte (.mk s.toArray) b.toNat w).mono fun e w' ⟨he, hw⟩ => ⟨[.int .i64 (Lib.indexByte s b)], [.int .i64 (Lib.indexByte s b)], ?_, hw ▸ Below.refl _ _, ⟨_, _, rfl, by simp [Rep], rfl⟩, rfl⟩
  rw [he]; simp [packV]
theorem indexRune_ascii (r : Int) (h0 : 0 ≤ r) (h1 : r < 128) : PCalls Tryd.prog 166 [.str abcG, .int .i32 r] (· = [.val (.int .i64 (ixR r))]) := by
  refine pcalls_flat (enters_of Tryd.func166 (by kernel_rfl) rfl) fun w vs ha => ?_
  obtain ⟨v0, r0, rfl, ha0, ha⟩ := repArgs_cons ha
  obtain ⟨v1, r1, rfl, ha1, ha⟩ := repArgs_cons ha
  obtain rfl := repArgs_nil ha
  simp only [Rep] at ha0 ha1
  subst ha0; subst ha1
  refine (Tryd.strings_IndexRune_ascii (.mk abcG.toArray) r w h0 h1).mono fun e w' ⟨he, hw⟩ => ⟨[.int .i64 (ixR r)], [.int .i64 (ixR r)], ?_, hw ▸ Below.refl _ _, ⟨_, _, rfl, by simp [Rep], rfl⟩, rfl⟩
  rw [he, ix_ascii r h0 h1]; rfl

theorem validRune_c (r : Int) : PCalls Tryd.prog 174 [.int .i32 r] (· = [.val (.bool (decide ((0 ≤ r ∧ r < 0xD800) ∨ (0xDFFF < r ∧ r ≤ 0x10FFFF))))]) := by
  refine pcalls_flat (enters_of Tryd.func174 (by kernel_rfl) rfl) fun w vs ha => ?_
  obtain ⟨v0, r0, rfl, ha0, ha⟩ := repArgs_cons ha
  obtain rfl := repArgs_nil ha
  simp only [Rep] at ha0
  subst ha0
  exact (Tryd.utf8_ValidRune r w).mono fun e w' ⟨he, hw⟩ => ⟨[.bool (Lib.validRune r)], [.bool (Lib.validRune r)], he, hw ▸ Below.refl _ _, ⟨_, _, rfl, by simp [Rep], rfl⟩, rfl⟩

set_option maxRecDepth 4000 in
theorem indexRune_hi (r : Int) (h0 : 128 ≤ r) (h1 : r ≤ 1114111) : PCalls Tryd.prog 166 [.str abcG, .int .i32 r] (· = [.val (.int .i64 (-1))]) := by
  refine pcalls_of_code (n := 187) az Tryd.func166 (by kernel_rfl) rfl rfl (Nat.le_of_ble_eq_true rfl) (by intro t u h; simp [Tryd.f166] at h) ?_
  have hal : abcG.length = 7 := rfl
  have hab : ∀ j, j < abcG.length → (abcG.getD j 0).toNat < 128 := by decide
  have he := encode_hi h0
  have hel := he.1
  have hel2 := he.2.1
  refine code_seq (fun K1 hK1 => ?_)
  refine code_region ?_
  refine list_cons rfl (op_q (q_assign rfl (by decide)) ?_)
  refine list_nil ?_
  refine hK1 _ ?_; clear hK1 K1
  refine code_block ?_
  refine code_seq (fun K2 hK2 => ?_)
  refine code_region ?_
  refine list_cons rfl (op_q (q_move rfl (by decide)) ?_)
  refine list_cons rfl (op_q (q_le rfl rfl (by decide)) ?_)
  refine list_cons rfl (op_q (q_move rfl (by decide)) ?_)
  refine list_guard_d rfl rfl rfl rfl (by decide) rfl (by decide) (fun h1 => ?_) (fun h1 => ?_)
  · simp only [Bool.false_eq_true, if_true, if_false, Decidable.not_not] at h1
    refine id (op_q (q_move rfl (by decide)) ?_)
    refine list_guard_y rfl rfl rfl rfl (by decide) rfl ?_
    refine id (op_q (q_lt rfl rfl (by decide)) ?_)
    refine list_cons rfl (op_q (q_pick rfl rfl (by decide)) ?_)
    refine list_cons rfl (op_q (q_assign rfl (by decide)) ?_)
    refine list_nil ?_
    refine hK2 _ ?_; clear hK2 K2
    refine code_cond_d rfl (fun h2 => ?_) (fun h2 => ?_)
    · skip
      (try simp only [Decidable.not_not] at h2)
      exfalso
      omega
    (try simp only [Decidable.not_not] at h2)
    refine code_seq (fun K3 hK3 => ?_)
    refine code_region ?_
    refine list_cons rfl (op_q (q_move rfl (by decide)) ?_)
    refine list_cons rfl (op_q (q_eq rfl rfl (by decide)) ?_)
    refine list_cons rfl (op_q (q_assign rfl (by decide)) ?_)
    refine list_nil ?_
    refine hK3 _ ?_; clear hK3 K3
    refine codeT.imp (σ' := [(0, _), (1, _), (4, _), (171, _)]) ?_ (imp_covers ⟨rfl, rfl, rfl, rfl, trivial⟩)
    refine code_cond_d rfl (fun h3 => ?_) (fun h3 => ?_)
    · skip
      (try simp only [Decidable.not_not] at h3)
      refine code_seq (fun K4 hK4 => ?_)
      refine code_seq (fun K5 hK5 => ?_)
      refine code_region ?_
      refine list_cons rfl (op_q (q_move rfl (by decide)) ?_)
      refine list_cons rfl (op_range_str Tryd.underlying9 rfl (by decide) (by decide) rfl ?_)
      refine list_nil ?_
      refine hK5 _ ?_; clear hK5 K5
      refine code_block ?_
      refine code_loop (X := Int × Nat) (fun x => [(0, .val (.str abcG)), (1, .val (.int .i32 r)), (4, .val (.int .i64 x.1)), (175, .sit 175 (abcG) x.2)]) (fun x => x.2 ≤ 7) (fun x => 7 - x.2) (_, _) (imp_covers ⟨rfl, rfl, rfl, rfl, trivial⟩) ?_ ?_
      · (try dsimp only)
        omega
      · intro x hI
        obtain ⟨t4, t175_i⟩ := x
        replace hI : t175_i ≤ 7 := hI
        show codeT _ _ _ [(0, .val (.str abcG)), (1, .val (.int .i32 r)), (4, .val (.int .i64 t4)), (175, .sit 175 (abcG) t175_i)] _
        refine code_seq (fun K6 hK6 => ?_)
        refine code_region ?_
        refine list_cons rfl (op_nextA (h := 175) hab rfl rfl (by decide) (fun h4 => ?_) (fun h4 => ?_))
        · skip
          refine list_cons rfl (op_q (q_extract rfl rfl (by decide)) ?_)
          refine list_nil ?_
          refine hK6 _ ?_; clear hK6 K6
          refine code_seq (fun K7 hK7 => ?_)
          refine code_cond_f rfl ?_
          refine code_exit ?_
          refine then_x ?_; clear hK7 K7
          refine then_x ?_
          refine blk_hit ?_
          refine hK4 _ ?_; clear hK4 K4
          refine code_seq (fun K8 hK8 => ?_)
          refine code_region ?_
          refine list_cons rfl (op_q (q_assign rfl (by decide)) ?_)
          refine list_nil ?_
          refine hK8 _ ?_; clear hK8 K8
          refine code_ret ?_
          refine blk_r ?_
          refine ends_ret (cs := []) rfl rfl rfl rfl trivial ?_
          rfl
        · skip
          refine list_cons rfl (op_q (q_extract rfl rfl (by decide)) ?_)
          refine list_nil ?_
          refine hK6 _ ?_; clear hK6 K6
          refine code_seq (fun K9 hK9 => ?_)
          refine code_cond_t rfl ?_
          refine code_skip ?_
          refine hK9 _ ?_; clear hK9 K9
          refine code_block ?_
          refine code_seq (fun K10 hK10 => ?_)
          refine code_region ?_
          refine list_cons rfl (op_q (q_extract rfl rfl (by decide)) ?_)
          refine list_cons rfl (op_q (q_extract rfl rfl (by decide)) ?_)
          refine list_cons rfl (op_q (q_assign rfl (by decide)) ?_)
          refine list_cons rfl (op_q (q_assign rfl (by decide)) ?_)
          refine list_nil ?_
          refine hK10 _ ?_; clear hK10 K10
          refine code_seq (fun K11 hK11 => ?_)
          refine code_region ?_
          refine list_cons rfl (op_q (q_move rfl (by decide)) ?_)
          refine list_cons rfl (op_q (q_eq rfl rfl (by decide)) ?_)
          refine list_nil ?_
          refine hK11 _ ?_; clear hK11 K11
          refine code_cond_d rfl (fun h5 => ?_) (fun h5 => ?_)
          · skip
            (try simp only [Decidable.not_not] at h5)
            exfalso
            have := hab t175_i (by omega); omega
          (try simp only [Decidable.not_not] at h5)
          refine code_skip ?_
          refine blk_n ?_
          refine then_n ⟨(_, _), imp_covers ⟨rfl, rfl, rfl, rfl, trivial⟩, ?_, ?_⟩
          · (try dsimp only)
            omega
          · omega
    (try simp only [Decidable.not_not] at h3)
    refine code_seq (fun K12 hK12 => ?_)
    refine code_region ?_
    refine list_cons rfl (op_q (q_move rfl (by decide)) ?_)
    refine list_cons rfl (op_call _ (validRune_c _) rfl rfl (by decide) (by decide) (by decide) rfl ?_)
    rintro _ rfl
    refine list_cons rfl (op_q (by first | exact q_notd rfl (by decide) | exact q_not rfl (by decide)) ?_)
    refine list_cons rfl (op_q (q_assign rfl (by decide)) ?_)
    refine list_nil ?_
    refine hK12 _ ?_; clear hK12 K12
    refine codeT.imp (σ' := [(0, _), (1, _), (4, _), (183, _)]) ?_ (imp_covers ⟨rfl, rfl, rfl, rfl, trivial⟩)
    refine code_cond_d rfl (fun h6 => ?_) (fun h6 => ?_)
    · skip
      (try simp only [Decidable.not_not] at h6)
      refine code_seq (fun K13 hK13 => ?_)
      refine code_region ?_
      refine list_cons rfl (op_q (q_assign rfl (by decide)) ?_)
      refine list_nil ?_
      refine hK13 _ ?_; clear hK13 K13
      refine code_ret ?_
      refine blk_r ?_
      refine ends_ret (cs := []) rfl rfl rfl rfl trivial ?_
      rfl
    (try simp only [Decidable.not_not] at h6)
    refine code_scope ?_
    refine code_seq (fun K14 hK14 => ?_)
    refine code_region ?_
    refine list_cons rfl (op_q (q_move rfl (by decide)) ?_)
    refine list_cons rfl (op_q (q_runestr Tryd.underlying21 Tryd.underlying9 rfl (by decide)) ?_)
    refine list_cons rfl (op_q (q_assign rfl (by decide)) ?_)
    refine list_nil ?_
    refine hK14 _ ?_; clear hK14 K14
    refine code_seq (fun K15 hK15 => ?_)
    refine code_region ?_
    refine list_cons rfl (op_q (q_move rfl (by decide)) ?_)
    refine list_cons rfl (op_q (q_len_str Tryd.underlying9 rfl (by decide)) ?_)
    refine list_cons rfl (op_q (by first | exact q_subI rfl rfl (by decide) (by omega) (by omega) | exact q_ib rfl rfl rfl (by decide)) ?_)
    refine list_cons rfl (op_q (q_assign rfl (by decide)) ?_)
    refine list_nil ?_
    refine hK15 _ ?_; clear hK15 K15
    refine code_seq (fun K16 hK16 => ?_)
    refine code_region ?_
    refine list_cons rfl (op_q (q_move rfl (by decide)) ?_)
    refine list_cons rfl (op_q (q_assign rfl (by decide)) ?_)
    refine list_nil ?_
    refine hK16 _ ?_; clear hK16 K16
    refine codeT.imp (σ' := [(0, _), (1, _), (4, _), (7, _), (8, _), (9, _)]) ?_ (imp_covers ⟨rfl, rfl, rfl, rfl, rfl, rfl, trivial⟩)
    refine code_seq (fun K17 hK17 => ?_)
    refine code_region ?_
    refine list_cons rfl (op_q (q_assign rfl (by decide)) ?_)
    refine list_nil ?_
    refine hK17 _ ?_; clear hK17 K17
    refine code_seq (fun K18 hK18 => ?_)
    refine code_block ?_
    refine code_loop (X := Int × List UInt8 × Int × Int × Int) (fun x => [(0, .val (.str abcG)), (1, .val (.int .i32 r)), (4, .val (.int .i64 x.1)), (7, .val (.str x.2.1)), (8, .val (.int .i64 x.2.2.1)), (9, .val (.int .i64 x.2.2.2.1)), (10, .val (.int .i64 x.2.2.2.2))]) (fun x => x.2.1 = encL r ∧ x.2.2.1 = x.2.1.length - 1 ∧ x.2.2.2.1 = x.2.2.1) (fun x => 0) (_, _, _, _, _) (imp_covers ⟨rfl, rfl, rfl, rfl, rfl, rfl, rfl, trivial⟩) ?_ ?_
    · (try dsimp only)
      exact ⟨rfl, rfl, rfl⟩
    · intro x hI
      obtain ⟨t4, rs, last, i, fails⟩ := x
      replace hI : rs = encL r ∧ last = rs.length - 1 ∧ i = last := hI
      show codeT _ _ _ [(0, .val (.str abcG)), (1, .val (.int .i32 r)), (4, .val (.int .i64 t4)), (7, .val (.str rs)), (8, .val (.int .i64 last)), (9, .val (.int .i64 i)), (10, .val (.int .i64 fails))] _
      obtain ⟨rfl, i2, i3⟩ := hI
      have hlast : 128 ≤ ((encL r).getD last.toNat 0).toNat := by
            have hl : last.toNat < (encL r).length := by omega
            have : (encL r).getD last.toNat 0 = (encL r)[last.toNat] := by simp [hl]
            rw [this]; exact he.2.2 _ (List.getElem_mem hl)
      refine code_seq (fun K19 hK19 => ?_)
      refine code_seq (fun K20 hK20 => ?_)
      refine code_region ?_
      refine list_cons rfl (op_q (q_move rfl (by decide)) ?_)
      refine list_cons rfl (op_q (q_move rfl (by decide)) ?_)
      refine list_cons rfl (op_q (q_len_str Tryd.underlying9 rfl (by decide)) ?_)
      refine list_cons rfl (op_q (q_lt rfl rfl (by decide)) ?_)
      refine list_nil ?_
      refine hK20 _ ?_; clear hK20 K20
      refine code_cond_d rfl (fun h7 => ?_) (fun h7 => ?_)
      · skip
        (try simp only [Decidable.not_not] at h7)
        refine code_skip ?_
        refine hK19 _ ?_; clear hK19 K19
        refine code_block ?_
        refine code_scope ?_
        refine code_seq (fun K21 hK21 => ?_)
        refine code_seq (fun K22 hK22 => ?_)
        refine code_draw (by kernel_rfl) (by kernel_rfl) ?_
        refine draw_q rfl (q_move rfl (by decide)) ?_
        refine draw_q rfl (q_move rfl (by decide)) ?_
        refine draw_q rfl (q_index_str Tryd.underlying9 rfl rfl (by omega) (by omega) (by decide)) ?_
        refine draw_q rfl (q_move rfl (by decide)) ?_
        refine draw_q rfl (q_move rfl (by decide)) ?_
        refine draw_q rfl (q_index_str Tryd.underlying9 rfl rfl (by omega) (by omega) (by decide)) ?_
        refine draw_q rfl (q_ne rfl rfl (by decide)) ?_
        refine draw_nil ?_
        refine hK22 _ ?_; clear hK22 K22
        refine codeT.imp (σ' := [(0, _), (1, _), (4, _), (7, _), (8, _), (9, _), (10, _), (33, _)]) ?_ (imp_covers ⟨rfl, rfl, rfl, rfl, rfl, rfl, rfl, rfl, trivial⟩)
        refine code_cond_d rfl (fun h8 => ?_) (fun h8 => ?_)
        · skip
          (try simp only [Decidable.not_not] at h8)
          refine code_seq (fun K23 hK23 => ?_)
          refine code_draw (by kernel_rfl) (by kernel_rfl) ?_
          refine draw_q rfl (q_move rfl (by decide)) ?_
          refine draw_q rfl (q_move rfl (by decide)) ?_
          refine draw_q rfl (by first | exact q_addI rfl rfl (by decide) (by omega) (by omega) | exact q_ib rfl rfl rfl (by decide)) ?_
          refine draw_q rfl (q_slice_str Tryd.underlying9 rfl ⟨_, rfl⟩ rfl (by omega) (by omega) (by omega) (by decide)) ?_
          refine draw_q rfl (q_move rfl (by decide)) ?_
          refine draw_q rfl (q_move rfl (by decide)) ?_
          refine draw_q rfl (q_index_str Tryd.underlying9 rfl rfl (by omega) (by omega) (by decide)) ?_
          refine draw_call _ (indexByte_c _ _) rfl rfl rfl (by decide) ?_
          refine draw_q rfl (q_assign rfl (by decide)) ?_
          refine draw_nil ?_
          refine hK23 _ ?_; clear hK23 K23
          refine codeT.imp (σ' := [(0, _), (1, _), (4, _), (7, _), (8, _), (9, _), (10, _), (11, _)]) ?_ (imp_covers ⟨rfl, rfl, rfl, rfl, rfl, rfl, rfl, rfl, trivial⟩)
          refine code_seq (fun K24 hK24 => ?_)
          refine code_seq (fun K25 hK25 => ?_)
          refine code_region ?_
          refine list_cons rfl (op_q (q_move rfl (by decide)) ?_)
          refine list_cons rfl (op_q (q_lt rfl rfl (by decide)) ?_)
          refine list_nil ?_
          refine hK25 _ ?_; clear hK25 K25
          refine code_cond_d rfl (fun h9 => ?_) (fun h9 => ?_)
          · skip
            (try simp only [Decidable.not_not] at h9)
            refine code_seq (fun K26 hK26 => ?_)
            refine code_region ?_
            refine list_cons rfl (op_q (q_assign rfl (by decide)) ?_)
            refine list_nil ?_
            refine hK26 _ ?_; clear hK26 K26
            refine code_ret ?_
            refine then_r ?_; clear hK24 K24
            refine then_r ?_; clear hK21 K21
            refine sc_r ?_
            refine blk_r ?_
            refine then_r ?_
            refine blk_r ?_
            refine then_r ?_; clear hK18 K18
            refine sc_r ?_
            refine blk_r ?_
            refine ends_ret (cs := []) rfl rfl rfl rfl trivial ?_
            rfl
          (try simp only [Decidable.not_not] at h9)
          exfalso
          have g3 := ix_none ((encL r).getD last.toNat 0) hlast (((abcG.drop (i + 1).toNat).take (((abcG.length : Nat) : Int).toNat - (i + 1).toNat))) (fun b hb => abcG_lt b (List.mem_of_mem_drop (List.mem_of_mem_take hb)))
          rw [g3] at h9; omega
        (try simp only [Decidable.not_not] at h8)
        exfalso
        have g1 := hab i.toNat (by omega); have g2 := hlast; omega
      (try simp only [Decidable.not_not] at h7)
      refine code_exit ?_
      refine then_x ?_; clear hK19 K19
      refine then_x ?_
      refine blk_hit ?_
      refine hK18 _ ?_; clear hK18 K18
      refine code_seq (fun K27 hK27 => ?_)
      refine code_seq (fun K28 hK28 => ?_)
      refine code_region ?_
      refine list_cons rfl (op_q (q_assign rfl (by decide)) ?_)
      refine list_nil ?_
      refine hK28 _ ?_; clear hK28 K28
      refine code_ret ?_
      refine then_r ?_; clear hK27 K27
      refine sc_r ?_
      refine blk_r ?_
      refine ends_ret (cs := []) rfl rfl rfl rfl trivial ?_
      rfl
  simp only [Bool.false_eq_true, if_true, if_false, Decidable.not_not] at h1
  exfalso
  omega

theorem indexRune_c (r : Int) (h0 : 0 ≤ r) (h1 : r ≤ 1114111) : PCalls Tryd.prog 166 [.str abcG, .int .i32 r] (· = [.val (.int .i64 (ixR r))]) := by
  by_cases h : r < 128
  · exact indexRune_ascii r h0 h
  · rw [show ixR r = -1 by unfold ixR; rw [if_neg (by omega)]]
    exact indexRune_hi r (by omega) h1
theorem ixR_le (r : Int) : -1 ≤ ixR r ∧ ixR r ≤ 6 := by unfold ixR; split <;> omega
def OrdU (s : List UInt8) (i : Nat) : Prop := ∀ j, j < i → 97 ≤ (s.getD j 0).toNat ∧ (s.getD j 0).toNat ≤ 103 ∧ (0 < j → (s.getD (j - 1) 0).toNat < (s.getD j 0).toNat)
theorem p2_mono {a b : Nat} (h : a ≤ b) : p2 a ≤ p2 b := Nat.pow_le_pow_right (by omega) h
theorem orF_top (s : List UInt8) : ∀ i, i < s.length → OrdU s (i + 1) → p2 ((s.getD i 0).toNat - 97) ≤ orF (s.take (i + 1)) ∧ orF (s.take (i + 1)) < p2 ((s.getD i 0).toNat - 97 + 1)
  | 0, h, hu => by
    rw [orF_snoc s h, List.take_zero]
    have e : orF [] ||| 2 ^ ((s.getD 0 0).toNat - 97) = 2 ^ ((s.getD 0 0).toNat - 97) := by show 0 ||| _ = _; simp
    rw [e]
    exact ⟨Nat.le_refl _, Nat.pow_lt_pow_right (by omega) (by omega)⟩
  | i + 1, h, hu => by
    have ih := orF_top s i (by omega) (fun j hj => hu j (by omega))
    have h2 := (hu (i + 1) (by omega)).2.2 (by omega)
    rw [Nat.add_sub_cancel] at h2
    have h3 := (hu i (by omega)).1
    rw [orF_snoc s h]
    refine ⟨Nat.right_le_or, @Nat.or_lt_two_pow _ _ _ ?_ (Nat.pow_lt_pow_right (by omega) (by omega))⟩
    refine Nat.lt_of_lt_of_le ih.2 (Nat.pow_le_pow_right (by omega) (by omega))
theorem sh_zero {a k : Nat} : shN a k = 0 ↔ a < p2 k := by
  unfold shN
  rw [Nat.div_eq_zero_iff]
  have : 0 < p2 k := Nat.pow_pos (by omega)
  omega
theorem pb_at {s : List UInt8} {i : Nat} (h : i < s.length) (hr : 0 ≤ ixR ((runeAt s i).1 : Int)) : (runeAt s i).1 = (s.getD i 0).toNat ∧ (runeAt s i).2 = 1 ∧ 97 ≤ (s.getD i 0).toNat ∧ (s.getD i 0).toNat ≤ 103 ∧ ixR ((runeAt s i).1 : Int) = (((s.getD i 0).toNat - 97 : Nat) : Int) := by
  by_cases ha : (s.getD i 0).toNat < 128
  · have e := runeAt_ascii h ha
    rw [e] at hr ⊢
    simp only [] at hr ⊢
    unfold ixR at hr ⊢
    split at hr
    · rename_i h2; rw [if_pos h2]; exact ⟨by trivial, by trivial, by omega, by omega, by omega⟩
    · omega
  · have := runeAt_hi h (by omega)
    unfold ixR at hr
    rw [if_neg (by omega)] at hr
    omega
theorem pb_ord {s : List UInt8} {i : Nat} (h : i < s.length) (ho : OrdP s) : 0 ≤ ixR ((runeAt s i).1 : Int) := by
  have := ho i h
  rw [runeAt_ascii h (by omega)]
  simp only []
  unfold ixR; rw [if_pos (by omega)]; omega
theorem pb_step {s : List UInt8} {i : Nat} (h : i < s.length) (hu : OrdU s i) (hr : 0 ≤ ixR ((runeAt s i).1 : Int)) (hz : shN (orF (s.take i)) (ixR ((runeAt s i).1 : Int)).toNat = 0) : OrdU s (i + 1) := by
  obtain ⟨_, _, g3, g4, g5⟩ := pb_at h hr
  rw [g5, Int.toNat_natCast, sh_zero] at hz
  intro j hj
  by_cases e : j = i
  · subst e
    refine ⟨g3, g4, fun h0 => ?_⟩
    have h1 := orF_top s (j - 1) (by omega) (fun k hk => hu k (by omega))
    rw [show j - 1 + 1 = j by omega] at h1
    have h2 := (hu (j - 1) (by omega)).1
    have h3 : p2 ((s.getD (j - 1) 0).toNat - 97) < p2 ((s.getD j 0).toNat - 97) := by omega
    have h4 : (s.getD (j - 1) 0).toNat - 97 < (s.getD j 0).toNat - 97 := Nat.lt_of_not_le fun hle => by have := p2_mono hle; omega
    omega
  · exact hu j (by omega)
theorem pb_bad {s : List UInt8} {i : Nat} (h : i < s.length) (hu : OrdU s i) (hr : 0 ≤ ixR ((runeAt s i).1 : Int)) (hz : ¬ shN (orF (s.take i)) (ixR ((runeAt s i).1 : Int)).toNat = 0) : ¬ OrdP s := by
  intro ho
  obtain ⟨_, _, g3, g4, g5⟩ := pb_at h hr
  apply hz
  rw [g5, Int.toNat_natCast, sh_zero]
  by_cases h0 : 0 < i
  · have h1 := orF_top s (i - 1) (by omega) (fun k hk => hu k (by omega))
    rw [show i - 1 + 1 = i by omega] at h1
    have h2 := (ho i h).2.2 h0
    have h3 := (hu (i - 1) (by omega)).1
    exact Nat.lt_of_lt_of_le h1.2 (p2_mono (by omega))
  · rw [show i = 0 by omega, List.take_zero]
    show 0 < _
    exact Nat.pow_pos (by omega)


set_option maxRecDepth 100000 in
theorem onesCount_c (c : Int) (h0 : 0 ≤ c) (h1 : c ≤ 127) : PCalls Tryd.prog 140 [.int .u64 c] (· = [.val (.int .i64 (((cnt7 c.toNat : Nat) : Int)))]) := by
  have h := below_int (p := fun i => oneInt (crun Tf.tf noExt 200 6 140 [.int .u64 (Int.ofNat i)]) (((cnt7 i : Nat) : Int))) (k := 128) (by kernel_rfl) h0 (by omega)
  have e : Int.ofNat c.toNat = c := Int.toNat_of_nonneg h0
  rw [e] at h
  exact pcalls_run Tf.tf (oneInt_ok h)

set_option maxRecDepth 4000 in
theorem impl_IsCell (c : Int) : PCalls Tryd.prog 152 [.int .i64 c] (· = [.val (.bool (decide (0 ≤ c ∧ c ≤ 127)))]) := by
  refine pcalls_of_code (n := 9) az Tryd.func152 (by kernel_rfl) rfl rfl (Nat.le_of_ble_eq_true rfl) (by intro t u h; simp [Tryd.f152] at h) ?_
  refine code_seq (fun K1 hK1 => ?_)
  refine code_region ?_
  refine list_cons rfl (op_q (q_assign rfl (by decide)) ?_)
  refine list_nil ?_
  refine hK1 _ ?_; clear hK1 K1
  refine code_seq (fun K2 hK2 => ?_)
  refine code_region ?_
  refine list_cons rfl (op_q (q_move rfl (by decide)) ?_)
  refine list_cons rfl (op_q (q_ge rfl rfl (by decide)) ?_)
  refine list_cons rfl (op_q (q_move rfl (by decide)) ?_)
  refine list_guard_d rfl rfl rfl rfl (by decide) rfl (by decide) (fun h1 => ?_) (fun h1 => ?_)
  · simp only [Bool.false_eq_true, if_true, if_false, Decidable.not_not] at h1
    refine id (op_q (q_move rfl (by decide)) ?_)
    refine list_guard_y rfl rfl rfl rfl (by decide) rfl ?_
    refine id (op_q (q_lt rfl rfl (by decide)) ?_)
    refine list_cons rfl (op_q (q_pick rfl rfl (by decide)) ?_)
    refine list_cons rfl (op_q (q_assign rfl (by decide)) ?_)
    refine list_nil ?_
    refine hK2 _ ?_; clear hK2 K2
    refine code_ret ?_
    refine ends_ret (cs := []) rfl rfl rfl rfl trivial ?_
    first | (congr 3; exact decide_eq_decide.mpr ⟨fun k => by omega, fun k => by omega⟩) | (rw [decide_eq_false (by omega)])
  simp only [Bool.false_eq_true, if_true, if_false, Decidable.not_not] at h1
  refine list_guard_n rfl rfl rfl rfl (by decide) rfl ?_
  refine list_cons rfl (op_q (q_pick rfl rfl (by decide)) ?_)
  refine list_cons rfl (op_q (q_assign rfl (by decide)) ?_)
  refine list_nil ?_
  refine hK2 _ ?_; clear hK2 K2
  refine code_ret ?_
  refine ends_ret (cs := []) rfl rfl rfl rfl trivial ?_
  first | (congr 3; exact decide_eq_decide.mpr ⟨fun k => by omega, fun k => by omega⟩) | (rw [decide_eq_false (by omega)])

set_option maxRecDepth 4000 in
theorem impl_IsRow (l : List Int) (hl : l.length ≤ 4611686018427387904) : PCalls Tryd.prog 102 [.sl l.length (l.map (.int .i64))] (· = [.val (.bool (decide (RowP l)))]) := by
  refine pcalls_of_code (n := 18) az Tryd.func102 (by kernel_rfl) rfl rfl (Nat.le_of_ble_eq_true rfl) (by intro t u h; simp [Tryd.f102] at h) ?_
  refine code_seq (fun K1 hK1 => ?_)
  refine code_region ?_
  refine list_cons rfl (op_q (q_assign rfl (by decide)) ?_)
  refine list_nil ?_
  refine hK1 _ ?_; clear hK1 K1
  refine code_seq (fun K2 hK2 => ?_)
  refine code_seq (fun K3 hK3 => ?_)
  refine code_region ?_
  refine list_cons rfl (op_q (q_move rfl (by decide)) ?_)
  refine list_cons rfl (op_q (q_len_sl Tryd.underlying35 rfl rfl (by decide)) ?_)
  refine list_cons rfl (op_q (q_gt rfl rfl (by decide)) ?_)
  refine list_nil ?_
  refine hK3 _ ?_; clear hK3 K3
  refine code_cond_d rfl (fun h1 => ?_) (fun h1 => ?_)
  · skip
    (try simp only [Decidable.not_not] at h1)
    refine code_seq (fun K4 hK4 => ?_)
    refine code_region ?_
    refine list_cons rfl (op_q (q_assign rfl (by decide)) ?_)
    refine list_nil ?_
    refine hK4 _ ?_; clear hK4 K4
    refine code_ret ?_
    refine then_r ?_; clear hK2 K2
    refine ends_ret (cs := []) rfl rfl rfl rfl trivial ?_
    rw [decide_eq_false (fun e => by have := e.1; omega)]
  (try simp only [Decidable.not_not] at h1)
  refine code_skip ?_
  refine hK2 _ ?_; clear hK2 K2
  refine code_seq (fun K5 hK5 => ?_)
  refine code_seq (fun K6 hK6 => ?_)
  refine code_region ?_
  refine list_cons rfl (op_q (q_move rfl (by decide)) ?_)
  refine list_cons rfl (op_q (q_len_sl Tryd.underlying35 rfl rfl (by decide)) ?_)
  refine list_cons rfl (op_q (q_move rfl (by decide)) ?_)
  refine list_nil ?_
  refine hK6 _ ?_; clear hK6 K6
  refine code_block ?_
  refine code_loop (X := Bool × Int) (fun x => [(0, .par 0 (.sl l.length (l.map (.int .i64)))), (2, .val (.bool x.1)), (8, .par 0 (.sl l.length (l.map (.int .i64)))), (9, .val (.int .i64 l.length)), (10, .val (.int .i64 x.2))]) (fun x => 0 ≤ x.2 ∧ x.2 ≤ l.length ∧ ∀ j, j < x.2.toNat → 0 ≤ l.getD j 0 ∧ l.getD j 0 ≤ 127) (fun x => l.length - x.2.toNat) (_, _) (imp_covers ⟨rfl, rfl, rfl, rfl, rfl, trivial⟩) ?_ ?_
  · (try dsimp only)
    refine ⟨by omega, by omega, fun j hj => by simp at hj⟩
  · intro x hI
    obtain ⟨t2, t10⟩ := x
    replace hI : 0 ≤ t10 ∧ t10 ≤ l.length ∧ ∀ j, j < t10.toNat → 0 ≤ l.getD j 0 ∧ l.getD j 0 ≤ 127 := hI
    show codeT _ _ _ [(0, .par 0 (.sl l.length (l.map (.int .i64)))), (2, .val (.bool t2)), (8, .par 0 (.sl l.length (l.map (.int .i64)))), (9, .val (.int .i64 l.length)), (10, .val (.int .i64 t10))] _
    obtain ⟨i1, i3, i4⟩ := hI
    refine code_seq (fun K7 hK7 => ?_)
    refine code_region ?_
    refine list_cons rfl (op_q (q_lt rfl rfl (by decide)) ?_)
    refine list_nil ?_
    refine hK7 _ ?_; clear hK7 K7
    refine code_seq (fun K8 hK8 => ?_)
    refine code_cond_d rfl (fun h2 => ?_) (fun h2 => ?_)
    · skip
      (try simp only [Decidable.not_not] at h2)
      refine code_skip ?_
      refine hK8 _ ?_; clear hK8 K8
      refine code_seq (fun K9 hK9 => ?_)
      refine code_block ?_
      refine code_seq (fun K10 hK10 => ?_)
      refine code_region ?_
      refine list_cons rfl (op_q (q_indexAddr_rd sl_35 rfl (.inl ⟨_, rfl, rfl⟩) rfl (by omega) (by omega) (by decide)) ?_)
      refine list_cons rfl (op_q (q_load_rd one_3 rfl (.inl ⟨_, (by first | rfl | exact congrArg (SV.rpar _) (drop_map1 _ 0 _ (by first | omega | (simp; omega)))), rfl⟩) (by decide)) ?_)
      refine list_cons rfl (op_q (q_assign rfl (by decide)) ?_)
      refine list_nil ?_
      refine hK10 _ ?_; clear hK10 K10
      refine code_seq (fun K11 hK11 => ?_)
      refine code_region ?_
      refine list_cons rfl (op_q (q_move rfl (by decide)) ?_)
      refine list_cons rfl (op_call _ (impl_IsCell _) rfl rfl (by decide) (by decide) (by decide) rfl ?_)
      rintro _ rfl
      refine list_cons rfl (op_q (by first | exact q_notd rfl (by decide) | exact q_not rfl (by decide)) ?_)
      refine list_nil ?_
      refine hK11 _ ?_; clear hK11 K11
      refine codeT.imp (σ' := [(0, _), (2, _), (4, _), (8, _), (9, _), (10, _), (16, _)]) ?_ (imp_covers ⟨rfl, rfl, rfl, rfl, rfl, rfl, rfl, trivial⟩)
      refine code_cond_d rfl (fun h3 => ?_) (fun h3 => ?_)
      · skip
        (try simp only [Decidable.not_not] at h3)
        refine code_seq (fun K12 hK12 => ?_)
        refine code_region ?_
        refine list_cons rfl (op_q (q_assign rfl (by decide)) ?_)
        refine list_nil ?_
        refine hK12 _ ?_; clear hK12 K12
        refine code_ret ?_
        refine blk_r ?_
        refine then_r ?_; clear hK9 K9
        refine then_r ?_
        refine blk_r ?_
        refine then_r ?_; clear hK5 K5
        refine ends_ret (cs := []) rfl rfl rfl rfl trivial ?_
        rw [decide_eq_false (fun e => h3 (e.at (by omega)))]
      (try simp only [Decidable.not_not] at h3)
      refine code_skip ?_
      refine blk_n ?_
      refine hK9 _ ?_; clear hK9 K9
      refine code_region ?_
      refine list_cons rfl (op_q (by first | exact q_addI rfl rfl (by decide) (by omega) (by omega) | exact q_ib rfl rfl rfl (by decide)) ?_)
      refine list_cons rfl (op_q (q_move rfl (by decide)) ?_)
      refine list_nil ?_
      refine then_n ⟨(_, _), imp_covers ⟨rfl, rfl, rfl, rfl, rfl, trivial⟩, ?_, ?_⟩
      · (try dsimp only)
        refine ⟨by omega, by omega, fun j hj => ?_⟩
        by_cases e : j = t10.toNat
        · subst e; exact h3
        · exact i4 j (by omega)
      · (try dsimp only); omega
    (try simp only [Decidable.not_not] at h2)
    refine code_exit ?_
    refine then_x ?_; clear hK8 K8
    refine then_x ?_
    refine blk_hit ?_
    refine hK5 _ ?_; clear hK5 K5
    refine code_seq (fun K13 hK13 => ?_)
    refine code_region ?_
    refine list_cons rfl (op_q (q_assign rfl (by decide)) ?_)
    refine list_nil ?_
    refine hK13 _ ?_; clear hK13 K13
    refine code_ret ?_
    refine ends_ret (cs := []) rfl rfl rfl rfl trivial ?_
    rw [decide_eq_true (RowP.of (by omega) fun j hj => i4 j (by omega))]

set_option maxRecDepth 4000 in
theorem impl_CountBars (c : Int) : PCalls Tryd.prog 165 [.int .i64 c] (· = [.val (.int .i64 (if 0 ≤ c ∧ c ≤ 127 then ((cnt7 c.toNat : Nat) : Int) else 0)), .val (.bool (decide (0 ≤ c ∧ c ≤ 127)))]) := by
  refine pcalls_of_code (n := 10) az Tryd.func165 (by kernel_rfl) rfl rfl (Nat.le_of_ble_eq_true rfl) (by intro t u h; simp [Tryd.f165] at h) ?_
  refine code_seq (fun K1 hK1 => ?_)
  refine code_region ?_
  refine list_cons rfl (op_q (q_assign rfl (by decide)) ?_)
  refine list_cons rfl (op_q (q_assign rfl (by decide)) ?_)
  refine list_nil ?_
  refine hK1 _ ?_; clear hK1 K1
  refine code_seq (fun K2 hK2 => ?_)
  refine code_seq (fun K3 hK3 => ?_)
  refine code_region ?_
  refine list_cons rfl (op_q (q_move rfl (by decide)) ?_)
  refine list_cons rfl (op_call _ (impl_IsCell _) rfl rfl (by decide) (by decide) (by decide) rfl ?_)
  rintro _ rfl
  refine list_cons rfl (op_q (by first | exact q_notd rfl (by decide) | exact q_not rfl (by decide)) ?_)
  refine list_nil ?_
  refine hK3 _ ?_; clear hK3 K3
  refine codeT.imp (σ' := [(0, _), (2, _), (3, _), (6, _)]) ?_ (imp_covers ⟨rfl, rfl, rfl, rfl, trivial⟩)
  refine code_cond_d rfl (fun h1 => ?_) (fun h1 => ?_)
  · skip
    (try simp only [Decidable.not_not] at h1)
    refine code_seq (fun K4 hK4 => ?_)
    refine code_region ?_
    refine list_cons rfl (op_q (q_assign rfl (by decide)) ?_)
    refine list_cons rfl (op_q (q_assign rfl (by decide)) ?_)
    refine list_nil ?_
    refine hK4 _ ?_; clear hK4 K4
    refine code_ret ?_
    refine then_r ?_; clear hK2 K2
    refine ends_ret (cs := []) rfl rfl rfl rfl trivial ?_
    simp only [if_neg h1, decide_eq_false h1]
  (try simp only [Decidable.not_not] at h1)
  refine code_skip ?_
  refine hK2 _ ?_; clear hK2 K2
  refine code_seq (fun K5 hK5 => ?_)
  refine code_region ?_
  refine list_cons rfl (op_q (q_move rfl (by decide)) ?_)
  refine list_cons rfl (op_q (by first | exact q_convU (by rw [Tryd.underlying3]; rfl) Tryd.underlying94 rfl (by decide) (by omega) (by omega) | exact q_conv (by rw [Tryd.underlying3]; rfl) Tryd.underlying94 rfl (by decide)) ?_)
  refine list_cons rfl (op_call _ (onesCount_c _ (by omega) (by omega)) rfl rfl (by decide) (by decide) (by decide) rfl ?_)
  rintro _ rfl
  refine list_cons rfl (op_q (q_assign rfl (by decide)) ?_)
  refine list_cons rfl (op_q (q_assign rfl (by decide)) ?_)
  refine list_nil ?_
  refine hK5 _ ?_; clear hK5 K5
  refine codeT.imp (σ' := [(0, _), (2, _), (3, _)]) ?_ (imp_covers ⟨rfl, rfl, rfl, trivial⟩)
  refine code_ret ?_
  refine ends_ret (cs := []) rfl rfl rfl rfl trivial ?_
  simp only [if_pos h1, decide_eq_true h1]

set_option maxRecDepth 4000 in
theorem impl_FarCells (a b : Int) : PCalls Tryd.prog 149 [.int .i64 a, .int .i64 b] (· = [.val (.int .i64 (if (0 ≤ a ∧ a ≤ 127) ∧ (0 ≤ b ∧ b ≤ 127) then ((cnt7 (a.toNat ^^^ b.toNat) : Nat) : Int) else 0)), .val (.bool (decide ((0 ≤ a ∧ a ≤ 127) ∧ (0 ≤ b ∧ b ≤ 127))))]) := by
  refine pcalls_of_code (n := 20) az Tryd.func149 (by kernel_rfl) rfl rfl (Nat.le_of_ble_eq_true rfl) (by intro t u h; simp [Tryd.f149] at h) ?_
  refine code_seq (fun K1 hK1 => ?_)
  refine code_region ?_
  refine list_cons rfl (op_q (q_assign rfl (by decide)) ?_)
  refine list_cons rfl (op_q (q_assign rfl (by decide)) ?_)
  refine list_nil ?_
  refine hK1 _ ?_; clear hK1 K1
  refine code_seq (fun K2 hK2 => ?_)
  refine code_seq (fun K3 hK3 => ?_)
  refine code_region ?_
  refine list_cons rfl (op_q (q_move rfl (by decide)) ?_)
  refine list_cons rfl (op_call _ (impl_IsCell _) rfl rfl (by decide) (by decide) (by decide) rfl ?_)
  rintro _ rfl
  refine list_cons rfl (op_q (by first | exact q_notd rfl (by decide) | exact q_not rfl (by decide)) ?_)
  refine list_cons rfl (op_q (q_move rfl (by decide)) ?_)
  refine list_guard_d rfl rfl rfl rfl (by decide) rfl (by decide) (fun h1 => ?_) (fun h1 => ?_)
  · simp only [Bool.false_eq_true, if_true, if_false, Decidable.not_not] at h1
    refine id (op_q (q_move rfl (by decide)) ?_)
    refine list_guard_y rfl rfl rfl rfl (by decide) rfl ?_
    refine id (op_call _ (impl_IsCell _) rfl rfl (by decide) (by decide) (by decide) rfl ?_)
    rintro _ rfl
    refine list_guard_y rfl rfl rfl rfl (by decide) rfl ?_
    refine id (op_q (by first | exact q_notd rfl (by decide) | exact q_not rfl (by decide)) ?_)
    refine list_cons rfl (op_q (q_pick rfl rfl (by decide)) ?_)
    refine list_nil ?_
    refine hK3 _ ?_; clear hK3 K3
    refine codeT.imp (σ' := [(0, _), (1, _), (4, _), (5, _), (13, _)]) ?_ (imp_covers ⟨rfl, rfl, rfl, rfl, rfl, trivial⟩)
    refine code_cond_d rfl (fun h2 => ?_) (fun h2 => ?_)
    · skip
      (try simp only [Decidable.not_not] at h2)
      refine code_seq (fun K4 hK4 => ?_)
      refine code_region ?_
      refine list_cons rfl (op_q (q_assign rfl (by decide)) ?_)
      refine list_cons rfl (op_q (q_assign rfl (by decide)) ?_)
      refine list_nil ?_
      refine hK4 _ ?_; clear hK4 K4
      refine code_ret ?_
      refine then_r ?_; clear hK2 K2
      refine ends_ret (cs := []) rfl rfl rfl rfl trivial ?_
      first
        | (have e : ¬ ((0 ≤ a ∧ a ≤ 127) ∧ (0 ≤ b ∧ b ≤ 127)) := by omega
           simp only [if_neg e, decide_eq_false e])
        | (have e : ((0 ≤ a ∧ a ≤ 127) ∧ (0 ≤ b ∧ b ≤ 127)) := by omega
           have e2 := xor7 e.1 e.2
           have e3 : 0 ≤ ((a.toNat ^^^ b.toNat : Nat) : Int) ∧ ((a.toNat ^^^ b.toNat : Nat) : Int) ≤ 127 := ⟨by omega, e2⟩
           simp only [if_pos e, decide_eq_true e, if_pos e3, decide_eq_true e3, Int.toNat_natCast])
    (try simp only [Decidable.not_not] at h2)
    refine code_skip ?_
    refine hK2 _ ?_; clear hK2 K2
    refine code_seq (fun K5 hK5 => ?_)
    refine code_region ?_
    refine list_cons rfl (op_q (q_move rfl (by decide)) ?_)
    refine list_cons rfl (op_q (q_move rfl (by decide)) ?_)
    refine list_cons rfl (op_q (by first | exact q_xorI rfl rfl (by decide) (by omega) (by omega) (by omega) (by omega) | exact q_ib rfl rfl rfl (by decide)) ?_)
    refine list_cons rfl (op_call _ (impl_CountBars _) rfl rfl (by decide) (by decide) (by decide) rfl ?_)
    rintro _ rfl
    refine list_cons rfl (op_q (q_extract rfl rfl (by decide)) ?_)
    refine list_cons rfl (op_q (q_extract rfl rfl (by decide)) ?_)
    refine list_cons rfl (op_q (q_assign rfl (by decide)) ?_)
    refine list_cons rfl (op_q (q_assign rfl (by decide)) ?_)
    refine list_nil ?_
    refine hK5 _ ?_; clear hK5 K5
    refine codeT.imp (σ' := [(0, _), (1, _), (4, _), (5, _)]) ?_ (imp_covers ⟨rfl, rfl, rfl, rfl, trivial⟩)
    refine code_ret ?_
    refine ends_ret (cs := []) rfl rfl rfl rfl trivial ?_
    first
      | (have e : ¬ ((0 ≤ a ∧ a ≤ 127) ∧ (0 ≤ b ∧ b ≤ 127)) := by omega
         simp only [if_neg e, decide_eq_false e])
      | (have e : ((0 ≤ a ∧ a ≤ 127) ∧ (0 ≤ b ∧ b ≤ 127)) := by omega
         have e2 := xor7 e.1 e.2
         have e3 : 0 ≤ ((a.toNat ^^^ b.toNat : Nat) : Int) ∧ ((a.toNat ^^^ b.toNat : Nat) : Int) ≤ 127 := ⟨by omega, e2⟩
         simp only [if_pos e, decide_eq_true e, if_pos e3, decide_eq_true e3, Int.toNat_natCast])
  simp only [Bool.false_eq_true, if_true, if_false, Decidable.not_not] at h1
  refine list_guard_n rfl rfl rfl rfl (by decide) rfl ?_
  refine list_guard_n rfl rfl rfl rfl (by decide) rfl ?_
  refine list_cons rfl (op_q (q_pick rfl rfl (by decide)) ?_)
  refine list_nil ?_
  refine hK3 _ ?_; clear hK3 K3
  refine code_cond_t rfl ?_
  refine code_seq (fun K6 hK6 => ?_)
  refine code_region ?_
  refine list_cons rfl (op_q (q_assign rfl (by decide)) ?_)
  refine list_cons rfl (op_q (q_assign rfl (by decide)) ?_)
  refine list_nil ?_
  refine hK6 _ ?_; clear hK6 K6
  refine code_ret ?_
  refine then_r ?_; clear hK2 K2
  refine ends_ret (cs := []) rfl rfl rfl rfl trivial ?_
  first
    | (have e : ¬ ((0 ≤ a ∧ a ≤ 127) ∧ (0 ≤ b ∧ b ≤ 127)) := by omega
       simp only [if_neg e, decide_eq_false e])
    | (have e : ((0 ≤ a ∧ a ≤ 127) ∧ (0 ≤ b ∧ b ≤ 127)) := by omega
       have e2 := xor7 e.1 e.2
       have e3 : 0 ≤ ((a.toNat ^^^ b.toNat : Nat) : Int) ∧ ((a.toNat ^^^ b.toNat : Nat) : Int) ≤ 127 := ⟨by omega, e2⟩
       simp only [if_pos e, decide_eq_true e, if_pos e3, decide_eq_true e3, Int.toNat_natCast])

def PlOk (pl : List UInt8) : Prop := pl.length = 7 ∧ ∀ j, j < pl.length → 97 ≤ (pl.getD j 0).toNat ∧ (pl.getD j 0).toNat ≤ 103
def bitN (n k : Nat) : Bool := Nat.beq (shN n k % 2) 1
def movF (pl : List UInt8) (c : Nat) : Nat → Nat
  | 0 => 0
  | k + 1 => if bitN c ((pl.getD k 0).toNat - 97) then movF pl c k ||| p2 k else movF pl c k
def turnG : List UInt8 := [100, 101, 102, 97, 98, 99, 103]
def mirG : List UInt8 := [97, 102, 101, 100, 99, 98, 103]
theorem turnG_ok : PlOk turnG := ⟨rfl, by decide⟩
theorem mirG_ok : PlOk mirG := ⟨rfl, by decide⟩
theorem movF_lt (pl : List UInt8) (c : Nat) : ∀ k, k ≤ 7 → movF pl c k < 128
  | 0, _ => by simp [movF]
  | k + 1, h => by
    have := movF_lt pl c k (by omega)
    unfold movF
    split
    · have h2 : p2 k < 2 ^ 7 := Nat.pow_lt_pow_right (by omega) (by omega)
      exact @Nat.or_lt_two_pow _ _ 7 (by omega) h2
    · exact this
set_option maxRecDepth 100000 in
theorem mov_turn (c : Nat) (h : c < 128) : movF turnG c 7 = turn7 c := by
  have k : below 128 (fun n => Nat.beq (movF turnG n 7) (turn7 n)) = true := by kernel_rfl
  exact Nat.eq_of_beq_eq_true (below_ok k c h)
set_option maxRecDepth 100000 in
theorem mov_mir (c : Nat) (h : c < 128) : movF mirG c 7 = mir7 c := by
  have k : below 128 (fun n => Nat.beq (movF mirG n 7) (mir7 n)) = true := by kernel_rfl
  exact Nat.eq_of_beq_eq_true (below_ok k c h)
theorem bit_iff (c b : Nat) : ((shN c b &&& 1 : Nat) : Int) = 1 ↔ bitN c b = true := by
  rw [Nat.and_one_is_mod]
  unfold bitN
  constructor
  · intro h; have : shN c b % 2 = 1 := by omega
    rw [this]; rfl
  · intro h; have := Nat.eq_of_beq_eq_true h; omega
def movC (pl : List UInt8) (x : Int) : Int := ((movF pl x.toNat 7 : Nat) : Int)
def movL (pl : List UInt8) (l : List Int) : List Int := l.reverse.map (movC pl)
theorem movC_turn {x : Int} (h : 0 ≤ x ∧ x ≤ 127) : movC turnG x = turnC x := by unfold movC turnC; rw [mov_turn _ (by omega)]
theorem movC_mir {x : Int} (h : 0 ≤ x ∧ x ≤ 127) : movC mirG x = mirC x := by unfold movC mirC; rw [mov_mir _ (by omega)]
theorem movL_turn {l : List Int} (h : RowP l) : movL turnG l = turnL l := by
  unfold movL turnL
  exact List.map_congr_left fun x hx => movC_turn (h.2 x (by simpa using hx))
theorem movL_mir {l : List Int} (h : RowP l) : movL mirG l = mirL l := by
  unfold movL mirL
  exact List.map_congr_left fun x hx => movC_mir (h.2 x (by simpa using hx))
/-- What the loop has of the row moved: the last cells stand, the first ones are zeros. -/
def movZ (pl : List UInt8) (l : List Int) (k : Nat) : List Int := List.replicate (l.length - k) 0 ++ ((l.take k).map (movC pl)).reverse
theorem movZ_set (pl : List UInt8) (l : List Int) {k : Nat} (h : k < l.length) : (movZ pl l k).set (l.length - 1 - k) (movC pl (l.getD k 0)) = movZ pl l (k + 1) := by
  unfold movZ
  rw [List.set_append_left _ _ (by simp; omega), map_take _ 0 _ h, List.reverse_append, show l.length - k = (l.length - (k + 1)) + 1 by omega, List.replicate_succ', List.set_append_right _ _ (by simp; omega)]
  rw [show l.length - 1 - k - (List.replicate (l.length - (k + 1)) (0 : Int)).length = 0 by simp; omega]
  simp
theorem movZ_len (pl : List UInt8) (l : List Int) {k : Nat} (h : k ≤ l.length) : (movZ pl l k).length = l.length := by
  unfold movZ; simp; omega
theorem movZ_put (pl : List UInt8) (l : List Int) {k : Nat} (h : k < l.length) {i : Int} (hi : i = (l.length : Int) - 1 - k) : putAt ((movZ pl l k).map (.int .i64)) (i.toNat * 1) [PV.int .i64 (movC pl (l.getD k 0))] = (movZ pl l (k + 1)).map (.int .i64) := by
  rw [put_map1 (PV.int .i64) _ (by rw [movZ_len pl l (by omega)]; omega), show i.toNat = l.length - 1 - k by omega, movZ_set pl l h]
theorem movZ_end (pl : List UInt8) (l : List Int) : movZ pl l l.length = movL pl l := by
  unfold movZ movL; simp


set_option maxRecDepth 4000 in
theorem impl_hasBar (c b : Int) (hc : 0 ≤ c ∧ c ≤ 127) (hb : 0 ≤ b ∧ b ≤ 62) : PCalls Tryd.prog 146 [.int .i64 c, .int .i64 b] (· = [.val (.bool (decide (bitN c.toNat b.toNat = true)))]) := by
  refine pcalls_of_code (n := 10) az Tryd.func146 (by kernel_rfl) rfl rfl (Nat.le_of_ble_eq_true rfl) (by intro t u h; simp [Tryd.f146] at h) ?_
  have hs := shN_le c.toNat b.toNat
  refine code_seq (fun K1 hK1 => ?_)
  refine code_region ?_
  refine list_cons rfl (op_q (q_assign rfl (by decide)) ?_)
  refine list_nil ?_
  refine hK1 _ ?_; clear hK1 K1
  refine code_seq (fun K2 hK2 => ?_)
  refine code_region ?_
  refine list_cons rfl (op_q (q_move rfl (by decide)) ?_)
  refine list_cons rfl (op_q (q_move rfl (by decide)) ?_)
  refine list_cons rfl (op_q (by first | exact q_shrN rfl rfl (by decide) (by omega) (by omega) (by omega) | exact q_shrI rfl rfl (by decide) (by omega) (by omega) (by omega) | exact q_shr rfl rfl (by omega) (by decide)) ?_)
  refine list_cons rfl (op_q (by first | exact q_andI rfl rfl (by decide) (by omega) (by omega) (by omega) (by omega) | exact q_ib rfl rfl rfl (by decide)) ?_)
  refine list_cons rfl (op_q (q_eq rfl rfl (by decide)) ?_)
  refine list_cons rfl (op_q (q_assign rfl (by decide)) ?_)
  refine list_nil ?_
  refine hK2 _ ?_; clear hK2 K2
  refine code_ret ?_
  refine ends_ret (cs := []) rfl rfl rfl rfl trivial ?_
  congr 3
  exact decide_eq_decide.mpr (bit_iff _ _)

set_option maxRecDepth 4000 in
theorem impl_LitOf (l : List Int) (hl : l.length ≤ 4611686018427387904) : PCalls Tryd.prog 75 [.sl l.length (l.map (.int .i64))] (· = [.val (.int .i64 (if RowP l then litF l else 0)), .val (.bool (decide (RowP l)))]) := by
  refine pcalls_of_code (n := 23) az Tryd.func75 (by kernel_rfl) rfl rfl (Nat.le_of_ble_eq_true rfl) (by intro t u h; simp [Tryd.f75] at h) ?_
  refine code_seq (fun K1 hK1 => ?_)
  refine code_region ?_
  refine list_cons rfl (op_q (q_assign rfl (by decide)) ?_)
  refine list_cons rfl (op_q (q_assign rfl (by decide)) ?_)
  refine list_nil ?_
  refine hK1 _ ?_; clear hK1 K1
  refine code_seq (fun K2 hK2 => ?_)
  refine code_seq (fun K3 hK3 => ?_)
  refine code_region ?_
  refine list_cons rfl (op_q (q_move rfl (by decide)) ?_)
  refine list_cons rfl (op_call _ (impl_IsRow _ (by first | omega | (simp; omega))) rfl rfl (by decide) (by decide) (by decide) rfl ?_)
  rintro _ rfl
  refine list_cons rfl (op_q (by first | exact q_notd rfl (by decide) | exact q_not rfl (by decide)) ?_)
  refine list_nil ?_
  refine hK3 _ ?_; clear hK3 K3
  refine codeT.imp (σ' := [(0, _), (2, _), (3, _), (9, _)]) ?_ (imp_covers ⟨rfl, rfl, rfl, rfl, trivial⟩)
  refine code_cond_d rfl (fun h1 => ?_) (fun h1 => ?_)
  · skip
    (try simp only [Decidable.not_not] at h1)
    refine code_seq (fun K4 hK4 => ?_)
    refine code_region ?_
    refine list_cons rfl (op_q (q_assign rfl (by decide)) ?_)
    refine list_cons rfl (op_q (q_assign rfl (by decide)) ?_)
    refine list_nil ?_
    refine hK4 _ ?_; clear hK4 K4
    refine code_ret ?_
    refine then_r ?_; clear hK2 K2
    refine ends_ret (cs := []) rfl rfl rfl rfl trivial ?_
    simp only [if_neg h1, decide_eq_false h1]
  (try simp only [Decidable.not_not] at h1)
  refine code_skip ?_
  refine hK2 _ ?_; clear hK2 K2
  refine code_seq (fun K5 hK5 => ?_)
  refine code_region ?_
  refine list_cons rfl (op_q (q_assign rfl (by decide)) ?_)
  refine list_nil ?_
  refine hK5 _ ?_; clear hK5 K5
  refine code_seq (fun K6 hK6 => ?_)
  refine code_seq (fun K7 hK7 => ?_)
  refine code_region ?_
  refine list_cons rfl (op_q (q_move rfl (by decide)) ?_)
  refine list_cons rfl (op_q (q_len_sl Tryd.underlying35 rfl rfl (by decide)) ?_)
  refine list_cons rfl (op_q (q_move rfl (by decide)) ?_)
  refine list_nil ?_
  refine hK7 _ ?_; clear hK7 K7
  refine code_block ?_
  refine code_loop (X := Int × Bool × Int × Int) (fun x => [(0, .par 0 (.sl l.length (l.map (.int .i64)))), (2, .val (.int .i64 x.1)), (3, .val (.bool x.2.1)), (4, .val (.int .i64 x.2.2.1)), (10, .par 0 (.sl l.length (l.map (.int .i64)))), (11, .val (.int .i64 l.length)), (12, .val (.int .i64 x.2.2.2))]) (fun x => 0 ≤ x.2.2.2 ∧ x.2.2.2 ≤ l.length ∧ x.2.2.1 = litF (l.take x.2.2.2.toNat) ∧ 0 ≤ x.2.2.1 ∧ x.2.2.1 ≤ 7 * x.2.2.2) (fun x => l.length - x.2.2.2.toNat) (_, _, _, _) (imp_covers ⟨rfl, rfl, rfl, rfl, rfl, rfl, rfl, trivial⟩) ?_ ?_
  · (try dsimp only)
    refine ⟨by omega, by omega, rfl, by omega, by omega⟩
  · intro x hI
    obtain ⟨t2, t3, lit, t12⟩ := x
    replace hI : 0 ≤ t12 ∧ t12 ≤ l.length ∧ lit = litF (l.take t12.toNat) ∧ 0 ≤ lit ∧ lit ≤ 7 * t12 := hI
    show codeT _ _ _ [(0, .par 0 (.sl l.length (l.map (.int .i64)))), (2, .val (.int .i64 t2)), (3, .val (.bool t3)), (4, .val (.int .i64 lit)), (10, .par 0 (.sl l.length (l.map (.int .i64)))), (11, .val (.int .i64 l.length)), (12, .val (.int .i64 t12))] _
    obtain ⟨i1, i2, i3, i4, i5⟩ := hI
    have hl6 := h1.1
    have hc := fun (k : t12 < l.length) => h1.at (j := t12.toNat) (by omega)
    have h7 := cnt7_le (l.getD t12.toNat 0).toNat
    have hc0 : t12 < l.length → 0 ≤ l.getD t12.toNat 0 := fun k => (hc k).1
    have hc1 : t12 < l.length → l.getD t12.toNat 0 ≤ 127 := fun k => (hc k).2
    refine code_seq (fun K8 hK8 => ?_)
    refine code_region ?_
    refine list_cons rfl (op_q (q_lt rfl rfl (by decide)) ?_)
    refine list_nil ?_
    refine hK8 _ ?_; clear hK8 K8
    refine code_seq (fun K9 hK9 => ?_)
    refine code_cond_d rfl (fun h2 => ?_) (fun h2 => ?_)
    · skip
      (try simp only [Decidable.not_not] at h2)
      refine code_skip ?_
      refine hK9 _ ?_; clear hK9 K9
      refine code_seq (fun K10 hK10 => ?_)
      refine code_block ?_
      refine code_seq (fun K11 hK11 => ?_)
      refine code_region ?_
      refine list_cons rfl (op_q (q_indexAddr_rd sl_35 rfl (.inl ⟨_, rfl, rfl⟩) rfl (by omega) (by omega) (by decide)) ?_)
      refine list_cons rfl (op_q (q_load_rd one_3 rfl (.inl ⟨_, (by first | rfl | exact congrArg (SV.rpar _) (drop_map1 _ 0 _ (by first | omega | (simp; omega)))), rfl⟩) (by decide)) ?_)
      refine list_cons rfl (op_q (q_assign rfl (by decide)) ?_)
      refine list_nil ?_
      refine hK11 _ ?_; clear hK11 K11
      refine code_region ?_
      refine list_cons rfl (op_q (q_move rfl (by decide)) ?_)
      refine list_cons rfl (op_q (q_move rfl (by decide)) ?_)
      refine list_cons rfl (op_q (by first | exact q_convU (by rw [Tryd.underlying3]; rfl) Tryd.underlying94 rfl (by decide) (by omega) (by omega) | exact q_conv (by rw [Tryd.underlying3]; rfl) Tryd.underlying94 rfl (by decide)) ?_)
      refine list_cons rfl (op_call _ (onesCount_c _ (by omega) (by omega)) rfl rfl (by decide) (by decide) (by decide) rfl ?_)
      rintro _ rfl
      refine list_cons rfl (op_q (by first | exact q_addI rfl rfl (by decide) (by omega) (by omega) | exact q_ib rfl rfl rfl (by decide)) ?_)
      refine list_cons rfl (op_q (q_assign rfl (by decide)) ?_)
      refine list_nil ?_
      refine blk_n ?_
      refine hK10 _ ?_; clear hK10 K10
      refine codeT.imp (σ' := [(0, _), (2, _), (3, _), (4, _), (6, _), (10, _), (11, _), (12, _)]) ?_ (imp_covers ⟨rfl, rfl, rfl, rfl, rfl, rfl, rfl, rfl, trivial⟩)
      refine code_region ?_
      refine list_cons rfl (op_q (by first | exact q_addI rfl rfl (by decide) (by omega) (by omega) | exact q_ib rfl rfl rfl (by decide)) ?_)
      refine list_cons rfl (op_q (q_move rfl (by decide)) ?_)
      refine list_nil ?_
      refine then_n ⟨(_, _, _, _), imp_covers ⟨rfl, rfl, rfl, rfl, rfl, rfl, rfl, trivial⟩, ?_, ?_⟩
      · (try dsimp only)
        refine ⟨by omega, by omega, ?_, by omega, by omega⟩
        rw [show (t12 + 1).toNat = t12.toNat + 1 by omega, litF, foldl_take _ 0 _ _ (by omega), i3]; rfl
      · (try dsimp only); omega
    (try simp only [Decidable.not_not] at h2)
    refine code_exit ?_
    refine then_x ?_; clear hK9 K9
    refine then_x ?_
    refine blk_hit ?_
    refine hK6 _ ?_; clear hK6 K6
    refine code_seq (fun K12 hK12 => ?_)
    refine code_region ?_
    refine list_cons rfl (op_q (q_move rfl (by decide)) ?_)
    refine list_cons rfl (op_q (q_assign rfl (by decide)) ?_)
    refine list_cons rfl (op_q (q_assign rfl (by decide)) ?_)
    refine list_nil ?_
    refine hK12 _ ?_; clear hK12 K12
    refine code_ret ?_
    refine ends_ret (cs := []) rfl rfl rfl rfl trivial ?_
    rw [if_pos h1, decide_eq_true h1, i3, List.take_of_length_le (by omega)]

set_option maxRecDepth 4000 in
theorem impl_ParseBars (s : List UInt8) (hs : s.length ≤ 4611686018427387904) : PCalls Tryd.prog 150 [.str s] (· = [.val (.int .i64 (if OrdP s then ((orF s : Nat) : Int) else 0)), .val (.bool (decide (OrdP s)))]) := by
  refine pcalls_of_code (n := 28) az Tryd.func150 (by kernel_rfl) rfl rfl (Nat.le_of_ble_eq_true rfl) (by intro t u h; simp [Tryd.f150] at h) ?_
  refine code_seq (fun K1 hK1 => ?_)
  refine code_region ?_
  refine list_cons rfl (op_q (q_assign rfl (by decide)) ?_)
  refine list_cons rfl (op_q (q_assign rfl (by decide)) ?_)
  refine list_nil ?_
  refine hK1 _ ?_; clear hK1 K1
  refine code_seq (fun K2 hK2 => ?_)
  refine code_region ?_
  refine list_cons rfl (op_q (q_assign rfl (by decide)) ?_)
  refine list_nil ?_
  refine hK2 _ ?_; clear hK2 K2
  refine code_seq (fun K3 hK3 => ?_)
  refine code_seq (fun K4 hK4 => ?_)
  refine code_region ?_
  refine list_cons rfl (op_q (q_move rfl (by decide)) ?_)
  refine list_cons rfl (op_range_str Tryd.underlying9 rfl (by decide) (by decide) rfl ?_)
  refine list_nil ?_
  refine hK4 _ ?_; clear hK4 K4
  refine code_block ?_
  refine code_loop (X := Int × Bool × Int × Nat) (fun x => [(0, .val (.str s)), (2, .val (.int .i64 x.1)), (3, .val (.bool x.2.1)), (4, .val (.int .i64 x.2.2.1)), (9, .sit 9 (s) x.2.2.2)]) (fun x => x.2.2.2 ≤ s.length ∧ x.2.2.1 = ((orF (s.take x.2.2.2) : Nat) : Int) ∧ orF (s.take x.2.2.2) < 128 ∧ OrdU s x.2.2.2) (fun x => s.length - x.2.2.2) (_, _, _, _) (imp_covers ⟨rfl, rfl, rfl, rfl, rfl, trivial⟩) ?_ ?_
  · (try dsimp only)
    exact ⟨by omega, by rw [List.take_zero]; rfl, by rw [List.take_zero]; decide, fun j hj => by omega⟩
  · intro x hI
    obtain ⟨t2, t3, cell, t9_i⟩ := x
    replace hI : t9_i ≤ s.length ∧ cell = ((orF (s.take t9_i) : Nat) : Int) ∧ orF (s.take t9_i) < 128 ∧ OrdU s t9_i := hI
    show codeT _ _ _ [(0, .val (.str s)), (2, .val (.int .i64 t2)), (3, .val (.bool t3)), (4, .val (.int .i64 cell)), (9, .sit 9 (s) t9_i)] _
    obtain ⟨i1, i2, i3, i4⟩ := hI
    have hix := ixR_le ((runeAt s t9_i).1 : Int)
    have hp2 := p2_le (k := (ixR ((runeAt s t9_i).1 : Int)).toNat) (by omega)
    refine code_seq (fun K5 hK5 => ?_)
    refine code_region ?_
    refine list_cons rfl (op_next (h := 9) rfl rfl (by decide) (fun h1 => ?_) (fun h1 => ?_))
    · skip
      refine list_cons rfl (op_q (q_extract rfl rfl (by decide)) ?_)
      refine list_nil ?_
      refine hK5 _ ?_; clear hK5 K5
      refine code_seq (fun K6 hK6 => ?_)
      refine code_cond_f rfl ?_
      refine code_exit ?_
      refine then_x ?_; clear hK6 K6
      refine then_x ?_
      refine blk_hit ?_
      refine hK3 _ ?_; clear hK3 K3
      refine code_seq (fun K7 hK7 => ?_)
      refine code_region ?_
      refine list_cons rfl (op_q (q_move rfl (by decide)) ?_)
      refine list_cons rfl (op_q (q_assign rfl (by decide)) ?_)
      refine list_cons rfl (op_q (q_assign rfl (by decide)) ?_)
      refine list_nil ?_
      refine hK7 _ ?_; clear hK7 K7
      refine code_ret ?_
      refine ends_ret (cs := []) rfl rfl rfl rfl trivial ?_
      have e0 : t9_i = s.length := by omega
      rw [e0] at i4
      have e : OrdP s := i4
      rw [if_pos e, decide_eq_true e, i2, e0, List.take_length]
    · skip
      refine list_cons rfl (op_q (q_extract rfl rfl (by decide)) ?_)
      refine list_nil ?_
      refine hK5 _ ?_; clear hK5 K5
      refine code_seq (fun K8 hK8 => ?_)
      refine code_cond_t rfl ?_
      refine code_skip ?_
      refine hK8 _ ?_; clear hK8 K8
      refine code_block ?_
      refine code_seq (fun K9 hK9 => ?_)
      refine code_region ?_
      refine list_cons rfl (op_q (q_extract rfl rfl (by decide)) ?_)
      refine list_cons rfl (op_q (q_assign rfl (by decide)) ?_)
      refine list_nil ?_
      refine hK9 _ ?_; clear hK9 K9
      refine code_seq (fun K10 hK10 => ?_)
      refine code_region ?_
      refine list_cons rfl (op_q (q_move rfl (by decide)) ?_)
      refine list_cons rfl (op_call _ (indexRune_c _ (by omega) (by have := runeAt_le (s := s) (i := t9_i) (by omega); omega)) rfl rfl (by decide) (by decide) (by decide) rfl ?_)
      rintro _ rfl
      refine list_cons rfl (op_q (q_assign rfl (by decide)) ?_)
      refine list_nil ?_
      refine hK10 _ ?_; clear hK10 K10
      refine codeT.imp (σ' := [(0, _), (2, _), (3, _), (4, _), (6, _), (7, _), (9, _), (10, _)]) ?_ (imp_covers ⟨rfl, rfl, rfl, rfl, rfl, rfl, rfl, rfl, trivial⟩)
      refine code_seq (fun K11 hK11 => ?_)
      refine code_seq (fun K12 hK12 => ?_)
      refine code_region ?_
      refine list_cons rfl (op_q (q_move rfl (by decide)) ?_)
      refine list_cons rfl (op_q (q_lt rfl rfl (by decide)) ?_)
      refine list_cons rfl (op_q (q_move rfl (by decide)) ?_)
      refine list_guard_d rfl rfl rfl rfl (by decide) rfl (by decide) (fun h2 => ?_) (fun h2 => ?_)
      · simp only [Bool.false_eq_true, if_true, if_false, Decidable.not_not] at h2
        refine id (op_q (q_move rfl (by decide)) ?_)
        refine list_guard_y rfl rfl rfl rfl (by decide) rfl ?_
        refine id (op_q (q_move rfl (by decide)) ?_)
        refine list_guard_y rfl rfl rfl rfl (by decide) rfl ?_
        refine id (op_q (by first | exact q_shrN rfl rfl (by decide) (by omega) (by omega) (by omega) | exact q_shrI rfl rfl (by decide) (by omega) (by omega) (by omega) | exact q_shr rfl rfl (by omega) (by decide)) ?_)
        refine list_guard_y rfl rfl rfl rfl (by decide) rfl ?_
        refine id (op_q (q_ne rfl rfl (by decide)) ?_)
        refine list_cons rfl (op_q (q_pick rfl rfl (by decide)) ?_)
        refine list_nil ?_
        refine hK12 _ ?_; clear hK12 K12
        refine codeT.imp (σ' := [(0, _), (2, _), (3, _), (4, _), (6, _), (7, _), (9, _), (10, _), (22, _)]) ?_ (imp_covers ⟨rfl, rfl, rfl, rfl, rfl, rfl, rfl, rfl, rfl, trivial⟩)
        refine code_cond_d rfl (fun h3 => ?_) (fun h3 => ?_)
        · skip
          (try simp only [Decidable.not_not] at h3)
          refine code_seq (fun K13 hK13 => ?_)
          refine code_region ?_
          refine list_cons rfl (op_q (q_assign rfl (by decide)) ?_)
          refine list_cons rfl (op_q (q_assign rfl (by decide)) ?_)
          refine list_nil ?_
          refine hK13 _ ?_; clear hK13 K13
          refine code_ret ?_
          refine then_r ?_; clear hK11 K11
          refine blk_r ?_
          refine then_r ?_
          refine blk_r ?_
          refine then_r ?_; clear hK3 K3
          refine ends_ret (cs := []) rfl rfl rfl rfl trivial ?_
          have e : ¬ OrdP s := pb_bad (i := t9_i) (by omega) i4 (by omega) (fun k => h3 (by rw [i2, Int.toNat_natCast, k]; rfl))
          rw [if_neg e, decide_eq_false e]
        (try simp only [Decidable.not_not] at h3)
        refine code_skip ?_
        refine hK11 _ ?_; clear hK11 K11
        refine code_region ?_
        refine list_cons rfl (op_q (q_move rfl (by decide)) ?_)
        refine list_cons rfl (op_q (q_move rfl (by decide)) ?_)
        refine list_cons rfl (op_q (by first | exact q_shl1 rfl rfl (by decide) (by omega) (by omega) | exact q_shlI rfl rfl (by decide) (by omega) (by omega) (by omega) | exact q_shl rfl rfl (by omega) (by decide)) ?_)
        refine list_cons rfl (op_q (by first | exact q_orI rfl rfl (by decide) (by omega) (by omega) (by omega) (by omega) | exact q_ib rfl rfl rfl (by decide)) ?_)
        refine list_cons rfl (op_q (q_assign rfl (by decide)) ?_)
        refine list_nil ?_
        refine blk_n ?_
        refine then_n ⟨(_, _, _, _), imp_covers ⟨rfl, rfl, rfl, rfl, rfl, trivial⟩, ?_, ?_⟩
        · (try dsimp only)
          have hr : 0 ≤ ixR ((runeAt s t9_i).1 : Int) := by omega
          have hz : shN (orF (s.take t9_i)) (ixR ((runeAt s t9_i).1 : Int)).toNat = 0 := by have := h3; rw [i2, Int.toNat_natCast] at this; omega
          obtain ⟨g1, g2, g3, g4, g5⟩ := pb_at (by omega) hr
          have e9 : orF (s.take (t9_i + 1)) = orF (s.take t9_i) ||| p2 (ixR ((runeAt s t9_i).1 : Int)).toNat := by
            rw [orF_snoc s (by omega), g5, Int.toNat_natCast]; rfl
          rw [g2]
          refine ⟨by omega, ?_, ?_, pb_step (by omega) i4 hr hz⟩
          · rw [e9, i2, Int.toNat_natCast, Int.toNat_natCast]
          · rw [e9]; exact or7 i3 (by omega)
        · (have hr : 0 ≤ ixR ((runeAt s t9_i).1 : Int) := by omega); (have := (pb_at (by omega) hr).2.1); (try dsimp only); omega
      simp only [Bool.false_eq_true, if_true, if_false, Decidable.not_not] at h2
      refine list_guard_n rfl rfl rfl rfl (by decide) rfl ?_
      refine list_guard_n rfl rfl rfl rfl (by decide) rfl ?_
      refine list_guard_n rfl rfl rfl rfl (by decide) rfl ?_
      refine list_cons rfl (op_q (q_pick rfl rfl (by decide)) ?_)
      refine list_nil ?_
      refine hK12 _ ?_; clear hK12 K12
      refine code_cond_t rfl ?_
      refine code_seq (fun K14 hK14 => ?_)
      refine code_region ?_
      refine list_cons rfl (op_q (q_assign rfl (by decide)) ?_)
      refine list_cons rfl (op_q (q_assign rfl (by decide)) ?_)
      refine list_nil ?_
      refine hK14 _ ?_; clear hK14 K14
      refine code_ret ?_
      refine then_r ?_; clear hK11 K11
      refine blk_r ?_
      refine then_r ?_
      refine blk_r ?_
      refine then_r ?_; clear hK3 K3
      refine ends_ret (cs := []) rfl rfl rfl rfl trivial ?_
      have e : ¬ OrdP s := fun k => by have := pb_ord (i := t9_i) (by omega) k; omega
      rw [if_neg e, decide_eq_false e]

theorem bars_dig : ∀ j, j < 10 → OrdP (([[97, 98, 99, 100, 101, 102], [98, 99], [97, 98, 100, 101, 103], [97, 98, 99, 100, 103], [98, 99, 102, 103], [97, 99, 100, 102, 103], [97, 99, 100, 101, 102, 103], [97, 98, 99], [97, 98, 99, 100, 101, 102, 103], [97, 98, 99, 100, 102, 103]] : List (List UInt8)).getD j []) ∧ ((orF (([[97, 98, 99, 100, 101, 102], [98, 99], [97, 98, 100, 101, 103], [97, 98, 99, 100, 103], [98, 99, 102, 103], [97, 99, 100, 102, 103], [97, 99, 100, 101, 102, 103], [97, 98, 99], [97, 98, 99, 100, 101, 102, 103], [97, 98, 99, 100, 102, 103]] : List (List UInt8)).getD j []) : Nat) : Int) = digT.getD j 0 := by
  intro j hj
  have : j = 0 ∨ j = 1 ∨ j = 2 ∨ j = 3 ∨ j = 4 ∨ j = 5 ∨ j = 6 ∨ j = 7 ∨ j = 8 ∨ j = 9 := by omega
  rcases this with rfl | rfl | rfl | rfl | rfl | rfl | rfl | rfl | rfl | rfl <;> exact ⟨by decide, by decide⟩
theorem tbl_len (j : Nat) : (([[97, 98, 99, 100, 101, 102], [98, 99], [97, 98, 100, 101, 103], [97, 98, 99, 100, 103], [98, 99, 102, 103], [97, 99, 100, 102, 103], [97, 99, 100, 101, 102, 103], [97, 98, 99], [97, 98, 99, 100, 101, 102, 103], [97, 98, 99, 100, 102, 103]] : List (List UInt8)).getD j []).length ≤ 7 := by
  by_cases hj : j < 10
  · have : j = 0 ∨ j = 1 ∨ j = 2 ∨ j = 3 ∨ j = 4 ∨ j = 5 ∨ j = 6 ∨ j = 7 ∨ j = 8 ∨ j = 9 := by omega
    rcases this with rfl | rfl | rfl | rfl | rfl | rfl | rfl | rfl | rfl | rfl <;> decide
  · unfold List.getD; rw [List.getElem?_eq_none (by simp; omega)]; simp
def digE (k : Nat) : List (PV × PV) := (List.range k).map fun j => (.int .i64 (digT.getD j 0), .int .i64 j)
theorem digE_new : ∀ k : Nat, k < 10 → findE (.int .i64) (.int .i64 (digT.getD k 0)) (digE k) 0 = some none := by
  intro j hj
  have : j = 0 ∨ j = 1 ∨ j = 2 ∨ j = 3 ∨ j = 4 ∨ j = 5 ∨ j = 6 ∨ j = 7 ∨ j = 8 ∨ j = 9 := by omega
  rcases this with rfl | rfl | rfl | rfl | rfl | rfl | rfl | rfl | rfl | rfl <;> rfl
theorem digE_succ (k : Nat) : digE (k + 1) = digE k ++ [(.int .i64 (digT.getD k 0), .int .i64 k)] := by
  unfold digE; rw [List.range_succ, List.map_append]; rfl
theorem findE_int (c : Int) : ∀ (l : List Int) (i : Nat) (f : Nat → PV), (∀ d ∈ l, d ≠ c) → ∀ m, findE (.int .i64) (.int .i64 c) ((List.range' m l.length).zipWith (fun j d => (PV.int .i64 d, f j)) l) i = some none
  | [], i, f, h, m => by simp [findE]
  | d :: l, i, f, h, m => by
    have hne : intEq c d = false := by rw [intEq_eq, beq_eq_false_iff_ne]; exact fun e => h d (by simp) e.symm
    rw [List.length_cons, List.range'_succ, List.zipWith_cons_cons, findE]
    simp only [keyEq, kEq, hne]
    exact findE_int c l (i + 1) f (fun x hx => h x (by simp [hx])) (m + 1)
theorem digE_hit (c : Int) (h : 0 ≤ digOf c) : findE (.int .i64) (.int .i64 c) (digE 10) 0 = some (some ((digOf c).toNat, .int .i64 (digOf c))) := by
  unfold digOf at h ⊢
  repeat' split
  all_goals first
    | (subst_vars; rfl)
    | (exfalso; simp_all)
theorem digE_miss (c : Int) (h : ¬ 0 ≤ digOf c) : findE (.int .i64) (.int .i64 c) (digE 10) 0 = some none := by
  have e : digE 10 = (List.range' 0 digT.length).zipWith (fun (j : Nat) (d : Int) => (PV.int .i64 d, PV.int .i64 j)) digT := by rfl
  rw [e]
  refine findE_int c digT 0 (fun (j : Nat) => PV.int .i64 j) (fun d hd hc => ?_) 0
  subst hc
  simp only [digT, List.mem_cons, List.not_mem_nil, or_false] at hd
  rcases hd with rfl | rfl | rfl | rfl | rfl | rfl | rfl | rfl | rfl | rfl <;> exact h (by decide)
theorem digT_of (d : Nat) (h : d < 10) : digOf (digT.getD d 0) = d := digOf_at (d := d) (by omega) (by omega) (by rw [Int.toNat_natCast])


set_option maxRecDepth 4000 in
theorem impl_CellOf (d : Int) : PCalls Tryd.prog 98 [.int .i64 d] (· = [.val (.int .i64 (if 0 ≤ d ∧ d ≤ 9 then digT.getD d.toNat 0 else 0)), .val (.bool (decide (0 ≤ d ∧ d ≤ 9)))]) := by
  refine pcalls_of_code (n := 16) az Tryd.func98 (by kernel_rfl) rfl rfl (Nat.le_of_ble_eq_true rfl) (by intro t u h; simp [Tryd.f98] at h) ?_
  refine code_seq (fun K1 hK1 => ?_)
  refine code_region ?_
  refine list_cons rfl (op_q (q_assign rfl (by decide)) ?_)
  refine list_cons rfl (op_q (q_assign rfl (by decide)) ?_)
  refine list_nil ?_
  refine hK1 _ ?_; clear hK1 K1
  refine code_seq (fun K2 hK2 => ?_)
  refine code_seq (fun K3 hK3 => ?_)
  refine code_region ?_
  refine list_cons rfl (op_q (q_move rfl (by decide)) ?_)
  refine list_cons rfl (op_q (q_lt rfl rfl (by decide)) ?_)
  refine list_cons rfl (op_q (q_move rfl (by decide)) ?_)
  refine list_guard_d rfl rfl rfl rfl (by decide) rfl (by decide) (fun h1 => ?_) (fun h1 => ?_)
  · simp only [Bool.false_eq_true, if_true, if_false, Decidable.not_not] at h1
    refine id (op_q (q_move rfl (by decide)) ?_)
    refine list_guard_y rfl rfl rfl rfl (by decide) rfl ?_
    refine id (op_q (q_ge rfl rfl (by decide)) ?_)
    refine list_cons rfl (op_q (q_pick rfl rfl (by decide)) ?_)
    refine list_nil ?_
    refine hK3 _ ?_; clear hK3 K3
    refine code_cond_d rfl (fun h2 => ?_) (fun h2 => ?_)
    · skip
      (try simp only [Decidable.not_not] at h2)
      refine code_seq (fun K4 hK4 => ?_)
      refine code_region ?_
      refine list_cons rfl (op_q (q_assign rfl (by decide)) ?_)
      refine list_cons rfl (op_q (q_assign rfl (by decide)) ?_)
      refine list_nil ?_
      refine hK4 _ ?_; clear hK4 K4
      refine code_ret ?_
      refine then_r ?_; clear hK2 K2
      refine ends_ret (cs := []) rfl rfl rfl rfl trivial ?_
      first
        | (have e : ¬ (0 ≤ d ∧ d ≤ 9) := by omega
           simp only [if_neg e, decide_eq_false e])
        | (have e : 0 ≤ d ∧ d ≤ 9 := by omega
           have e2 := bars_dig d.toNat (by omega)
           simp only [if_pos e, decide_eq_true e, if_pos e2.1, decide_eq_true e2.1, e2.2])
    (try simp only [Decidable.not_not] at h2)
    refine code_skip ?_
    refine hK2 _ ?_; clear hK2 K2
    refine code_seq (fun K5 hK5 => ?_)
    refine code_region ?_
    refine list_cons rfl (op_q (q_move rfl (by decide)) ?_)
    refine list_cons rfl (op_q (q_indexAddr_g arr_97 rfl rfl (by omega) (by omega) (by decide)) ?_)
    refine list_cons rfl (op_q (q_load_rd one_9 rfl (.inr ⟨_, (by first | rfl | exact congrArg (SV.rbor _) (drop_map1 _ [] _ (by first | omega | (simp; omega)))), rfl⟩) (by decide)) ?_)
    refine list_cons rfl (op_call _ (impl_ParseBars _ (by have := tbl_len d.toNat; omega)) rfl rfl (by decide) (by decide) (by decide) rfl ?_)
    rintro _ rfl
    refine list_cons rfl (op_q (q_extract rfl rfl (by decide)) ?_)
    refine list_cons rfl (op_q (q_extract rfl rfl (by decide)) ?_)
    refine list_cons rfl (op_q (q_assign rfl (by decide)) ?_)
    refine list_cons rfl (op_q (q_assign rfl (by decide)) ?_)
    refine list_nil ?_
    refine hK5 _ ?_; clear hK5 K5
    refine codeT.imp (σ' := [(0, _), (2, _), (3, _)]) ?_ (imp_covers ⟨rfl, rfl, rfl, trivial⟩)
    refine code_ret ?_
    refine ends_ret (cs := []) rfl rfl rfl rfl trivial ?_
    first
      | (have e : ¬ (0 ≤ d ∧ d ≤ 9) := by omega
         simp only [if_neg e, decide_eq_false e])
      | (have e : 0 ≤ d ∧ d ≤ 9 := by omega
         have e2 := bars_dig d.toNat (by omega)
         simp only [if_pos e, decide_eq_true e, if_pos e2.1, decide_eq_true e2.1, e2.2])
  simp only [Bool.false_eq_true, if_true, if_false, Decidable.not_not] at h1
  refine list_guard_n rfl rfl rfl rfl (by decide) rfl ?_
  refine list_cons rfl (op_q (q_pick rfl rfl (by decide)) ?_)
  refine list_nil ?_
  refine hK3 _ ?_; clear hK3 K3
  refine code_cond_t rfl ?_
  refine code_seq (fun K6 hK6 => ?_)
  refine code_region ?_
  refine list_cons rfl (op_q (q_assign rfl (by decide)) ?_)
  refine list_cons rfl (op_q (q_assign rfl (by decide)) ?_)
  refine list_nil ?_
  refine hK6 _ ?_; clear hK6 K6
  refine code_ret ?_
  refine then_r ?_; clear hK2 K2
  refine ends_ret (cs := []) rfl rfl rfl rfl trivial ?_
  first
    | (have e : ¬ (0 ≤ d ∧ d ≤ 9) := by omega
       simp only [if_neg e, decide_eq_false e])
    | (have e : 0 ≤ d ∧ d ≤ 9 := by omega
       have e2 := bars_dig d.toNat (by omega)
       simp only [if_pos e, decide_eq_true e, if_pos e2.1, decide_eq_true e2.1, e2.2])

set_option maxRecDepth 4000 in
theorem impl_digits  : PCalls Tryd.prog 103 [] (· = [.map 0 (digE 10)]) := by
  refine pcalls_of_code (n := 20) az Tryd.func103 (by kernel_rfl) rfl rfl (Nat.le_of_ble_eq_true rfl) (by intro t u h; simp [Tryd.f103] at h) ?_
  refine code_seq (fun K1 hK1 => ?_)
  refine code_region ?_
  refine list_cons rfl (op_q (q_deadconst (by decide)) ?_)
  refine list_nil ?_
  refine hK1 _ ?_; clear hK1 K1
  refine code_seq (fun K2 hK2 => ?_)
  refine code_region ?_
  refine list_cons rfl (op_makeMap Tryd.underlying79 (.inr ⟨_, _, rfl, rfl⟩) (by decide) (by decide) rfl ?_)
  refine list_cons rfl (op_q (q_assign rfl (by decide)) ?_)
  refine list_nil ?_
  refine hK2 _ ?_; clear hK2 K2
  refine codeT.imp (σ' := [(0, _), (1, _)]) ?_ (imp_covers ⟨rfl, rfl, trivial⟩)
  refine code_seq (fun K3 hK3 => ?_)
  refine code_seq (fun K4 hK4 => ?_)
  refine code_region ?_
  refine list_cons rfl (op_q (q_move rfl (by decide)) ?_)
  refine list_nil ?_
  refine hK4 _ ?_; clear hK4 K4
  refine code_block ?_
  refine code_loop (X := List (PV × PV) × Int) (fun x => [(1, .map 5 x.1), (6, .val (.int .i64 x.2))]) (fun x => 0 ≤ x.2 ∧ x.2 ≤ 10 ∧ x.1 = digE x.2.toNat) (fun x => 10 - x.2.toNat) (_, _) (imp_covers ⟨rfl, rfl, trivial⟩) ?_ ?_
  · (try dsimp only)
    exact ⟨by omega, by omega, rfl⟩
  · intro x hI
    obtain ⟨digits_m, t6⟩ := x
    replace hI : 0 ≤ t6 ∧ t6 ≤ 10 ∧ digits_m = digE t6.toNat := hI
    show codeT _ _ _ [(1, .map 5 digits_m), (6, .val (.int .i64 t6))] _
    obtain ⟨i1, i2, rfl⟩ := hI
    refine code_seq (fun K5 hK5 => ?_)
    refine code_region ?_
    refine list_cons rfl (op_q (q_lt rfl rfl (by decide)) ?_)
    refine list_nil ?_
    refine hK5 _ ?_; clear hK5 K5
    refine code_seq (fun K6 hK6 => ?_)
    refine code_cond_d rfl (fun h1 => ?_) (fun h1 => ?_)
    · skip
      (try simp only [Decidable.not_not] at h1)
      refine code_skip ?_
      refine hK6 _ ?_; clear hK6 K6
      refine code_seq (fun K7 hK7 => ?_)
      refine code_block ?_
      refine code_seq (fun K8 hK8 => ?_)
      refine code_region ?_
      refine list_cons rfl (op_q (q_move rfl (by decide)) ?_)
      refine list_cons rfl (op_q (q_assign rfl (by decide)) ?_)
      refine list_nil ?_
      refine hK8 _ ?_; clear hK8 K8
      refine code_seq (fun K9 hK9 => ?_)
      refine code_region ?_
      refine list_cons rfl (op_q (q_move rfl (by decide)) ?_)
      refine list_cons rfl (op_call _ (impl_CellOf _) rfl rfl (by decide) (by decide) (by decide) rfl ?_)
      rintro _ rfl
      refine list_cons rfl (op_q (q_move rfl (by decide)) ?_)
      refine list_cons rfl (op_q (q_extract rfl rfl (by decide)) ?_)
      refine list_cons rfl (op_q (q_extract rfl rfl (by decide)) ?_)
      refine list_cons rfl (op_q (q_assign rfl (by decide)) ?_)
      refine list_cons rfl (op_q (q_assign rfl (by decide)) ?_)
      refine list_nil ?_
      refine hK9 _ ?_; clear hK9 K9
      refine codeT.imp (σ' := [(1, _), (2, _), (3, _), (4, _), (6, _)]) ?_ (imp_covers ⟨rfl, rfl, rfl, rfl, rfl, trivial⟩)
      refine code_seq (fun K10 hK10 => ?_)
      refine code_region ?_
      refine list_cons rfl (op_q (q_move rfl (by decide)) ?_)
      refine list_nil ?_
      refine hK10 _ ?_; clear hK10 K10
      refine code_cond_d rfl (fun h2 => ?_) (fun h2 => ?_)
      · skip
        (try simp only [Decidable.not_not] at h2)
        refine code_region ?_
        refine list_cons rfl (op_q (q_move rfl (by decide)) ?_)
        refine list_cons rfl (op_q (q_move rfl (by decide)) ?_)
        refine list_cons rfl (op_q (q_move rfl (by decide)) ?_)
        refine list_cons rfl (op_mapset (h := 1) (tk := .int .i64) (.inl rfl) rfl Tryd.underlying79 Tryd.underlying3 rfl rfl rfl rfl rfl rfl rfl (show findE (.int .i64) (.int .i64 (if 0 ≤ t6 ∧ t6 ≤ 9 then digT.getD t6.toNat 0 else 0)) (digE t6.toNat) 0 = some none by rw [if_pos h2]; exact digE_new _ (by omega)) ?_)
        refine list_nil ?_
        refine blk_n ?_
        refine hK7 _ ?_; clear hK7 K7
        refine codeT.imp (σ' := [(1, _), (2, _), (3, _), (4, _), (6, _)]) ?_ (imp_covers ⟨rfl, rfl, rfl, rfl, rfl, trivial⟩)
        refine code_region ?_
        refine list_cons rfl (op_q (by first | exact q_addI rfl rfl (by decide) (by omega) (by omega) | exact q_ib rfl rfl rfl (by decide)) ?_)
        refine list_cons rfl (op_q (q_move rfl (by decide)) ?_)
        refine list_nil ?_
        refine then_n ⟨(_, _), imp_covers ⟨rfl, rfl, trivial⟩, ?_, ?_⟩
        · (try dsimp only)
          refine ⟨by omega, by omega, ?_⟩
          rw [show (t6 + 1).toNat = t6.toNat + 1 by omega, digE_succ, if_pos h2]
          have e : ((t6.toNat : Nat) : Int) = t6 := by omega
          rw [e]
        · (try dsimp only); omega
      (try simp only [Decidable.not_not] at h2)
      refine code_skip ?_
      refine blk_n ?_
      refine hK7 _ ?_; clear hK7 K7
      refine code_region ?_
      refine list_cons rfl (op_q (by first | exact q_addI rfl rfl (by decide) (by omega) (by omega) | exact q_ib rfl rfl rfl (by decide)) ?_)
      refine list_cons rfl (op_q (q_move rfl (by decide)) ?_)
      refine list_nil ?_
      refine then_n ⟨(_, _), imp_covers ⟨rfl, rfl, trivial⟩, ?_, ?_⟩
      · (try dsimp only)
        exact absurd (⟨by omega, by omega⟩ : 0 ≤ t6 ∧ t6 ≤ 9) h2
      · (try dsimp only); omega
    (try simp only [Decidable.not_not] at h1)
    refine code_exit ?_
    refine then_x ?_; clear hK6 K6
    refine then_x ?_
    refine blk_hit ?_
    refine hK3 _ ?_; clear hK3 K3
    refine code_seq (fun K11 hK11 => ?_)
    refine code_region ?_
    refine list_cons rfl (op_q (q_move rfl (by decide)) ?_)
    refine list_cons rfl (op_q (q_assign rfl (by decide)) ?_)
    refine list_nil ?_
    refine hK11 _ ?_; clear hK11 K11
    refine code_ret ?_
    refine ends_ret (cs := []) rfl rfl rfl rfl trivial ?_
    rw [show t6.toNat = 10 by omega]

set_option maxRecDepth 4000 in
theorem impl_NumberOf (l : List Int) (hl : l.length ≤ 4611686018427387904) : PCalls Tryd.prog 36 [.sl l.length (l.map (.int .i64))] (· = [.val (.int .i64 (if RowP l ∧ DigsP l then numF l else 0)), .val (.bool (decide (RowP l ∧ DigsP l ∧ 0 < l.length)))]) := by
  refine pcalls_of_code (n := 39) az Tryd.func36 (by kernel_rfl) rfl rfl (Nat.le_of_ble_eq_true rfl) (by intro t u h; simp [Tryd.f36] at h) ?_
  refine code_seq (fun K1 hK1 => ?_)
  refine code_region ?_
  refine list_cons rfl (op_q (q_assign rfl (by decide)) ?_)
  refine list_cons rfl (op_q (q_assign rfl (by decide)) ?_)
  refine list_nil ?_
  refine hK1 _ ?_; clear hK1 K1
  refine code_seq (fun K2 hK2 => ?_)
  refine code_seq (fun K3 hK3 => ?_)
  refine code_region ?_
  refine list_cons rfl (op_q (q_move rfl (by decide)) ?_)
  refine list_cons rfl (op_call _ (impl_IsRow _ (by first | omega | (simp; omega))) rfl rfl (by decide) (by decide) (by decide) rfl ?_)
  rintro _ rfl
  refine list_cons rfl (op_q (by first | exact q_notd rfl (by decide) | exact q_not rfl (by decide)) ?_)
  refine list_cons rfl (op_q (q_move rfl (by decide)) ?_)
  refine list_guard_d rfl rfl rfl rfl (by decide) rfl (by decide) (fun h1 => ?_) (fun h1 => ?_)
  · simp only [Bool.false_eq_true, if_true, if_false, Decidable.not_not] at h1
    (try simp only [Decidable.not_not] at h1); (try have hl6 := (by assumption : RowP l).1)
    refine id (op_q (q_move rfl (by decide)) ?_)
    refine list_guard_y rfl rfl rfl rfl (by decide) rfl ?_
    refine id (op_q (q_len_sl Tryd.underlying35 rfl rfl (by decide)) ?_)
    refine list_guard_y rfl rfl rfl rfl (by decide) rfl ?_
    refine id (op_q (q_eq rfl rfl (by decide)) ?_)
    refine list_cons rfl (op_q (q_pick rfl rfl (by decide)) ?_)
    refine list_nil ?_
    refine hK3 _ ?_; clear hK3 K3
    refine codeT.imp (σ' := [(0, _), (2, _), (3, _), (17, _)]) ?_ (imp_covers ⟨rfl, rfl, rfl, rfl, trivial⟩)
    refine code_cond_d rfl (fun h2 => ?_) (fun h2 => ?_)
    · skip
      (try simp only [Decidable.not_not] at h2); (try have hl6 := (by assumption : RowP l).1)
      refine code_seq (fun K4 hK4 => ?_)
      refine code_region ?_
      refine list_cons rfl (op_q (q_assign rfl (by decide)) ?_)
      refine list_cons rfl (op_q (q_assign rfl (by decide)) ?_)
      refine list_nil ?_
      refine hK4 _ ?_; clear hK4 K4
      refine code_ret ?_
      refine then_r ?_; clear hK2 K2
      refine ends_ret (cs := []) rfl rfl rfl rfl trivial ?_
      rw [decide_eq_false (fun k => by omega), List.eq_nil_of_length_eq_zero (l := l) (by omega)]
      split <;> rfl
    (try simp only [Decidable.not_not] at h2); (try have hl6 := (by assumption : RowP l).1)
    refine code_skip ?_
    refine hK2 _ ?_; clear hK2 K2
    refine code_seq (fun K5 hK5 => ?_)
    refine code_region ?_
    refine list_cons rfl (op_call _ (impl_digits) rfl rfl (by decide) (by decide) (by decide) rfl ?_)
    rintro _ rfl
    refine list_cons rfl (op_q (q_assign rfl (by decide)) ?_)
    refine list_nil ?_
    refine hK5 _ ?_; clear hK5 K5
    refine codeT.imp (σ' := [(0, _), (2, _), (3, _), (4, _)]) ?_ (imp_covers ⟨rfl, rfl, rfl, rfl, trivial⟩)
    refine code_seq (fun K6 hK6 => ?_)
    refine code_region ?_
    refine list_cons rfl (op_q (q_assign rfl (by decide)) ?_)
    refine list_nil ?_
    refine hK6 _ ?_; clear hK6 K6
    refine code_seq (fun K7 hK7 => ?_)
    refine code_seq (fun K8 hK8 => ?_)
    refine code_region ?_
    refine list_cons rfl (op_q (q_move rfl (by decide)) ?_)
    refine list_cons rfl (op_q (q_len_sl Tryd.underlying35 rfl rfl (by decide)) ?_)
    refine list_cons rfl (op_q (q_move rfl (by decide)) ?_)
    refine list_nil ?_
    refine hK8 _ ?_; clear hK8 K8
    refine code_block ?_
    refine code_loop (X := Int × Bool × List (PV × PV) × Int × Int) (fun x => [(0, .par 0 (.sl l.length (l.map (.int .i64)))), (2, .val (.int .i64 x.1)), (3, .val (.bool x.2.1)), (4, .map 18 x.2.2.1), (5, .val (.int .i64 x.2.2.2.1)), (19, .par 0 (.sl l.length (l.map (.int .i64)))), (20, .val (.int .i64 l.length)), (21, .val (.int .i64 x.2.2.2.2))]) (fun x => 0 ≤ x.2.2.2.2 ∧ x.2.2.2.2 ≤ l.length ∧ x.2.2.1 = digE 10 ∧ x.2.2.2.1 = numF (l.take x.2.2.2.2.toNat) ∧ 0 ≤ x.2.2.2.1 ∧ x.2.2.2.1 + 1 ≤ 10 ^ x.2.2.2.2.toNat ∧ ∀ j, j < x.2.2.2.2.toNat → 0 ≤ digOf (l.getD j 0)) (fun x => l.length - x.2.2.2.2.toNat) (_, _, _, _, _) (imp_covers ⟨rfl, rfl, rfl, rfl, rfl, rfl, rfl, rfl, trivial⟩) ?_ ?_
    · (try dsimp only)
      refine ⟨by omega, by omega, rfl, rfl, by omega, by simp, fun j hj => by simp at hj⟩
    · intro x hI
      obtain ⟨t2, t3, digits_m, number, t21⟩ := x
      replace hI : 0 ≤ t21 ∧ t21 ≤ l.length ∧ digits_m = digE 10 ∧ number = numF (l.take t21.toNat) ∧ 0 ≤ number ∧ number + 1 ≤ 10 ^ t21.toNat ∧ ∀ j, j < t21.toNat → 0 ≤ digOf (l.getD j 0) := hI
      show codeT _ _ _ [(0, .par 0 (.sl l.length (l.map (.int .i64)))), (2, .val (.int .i64 t2)), (3, .val (.bool t3)), (4, .map 18 digits_m), (5, .val (.int .i64 number)), (19, .par 0 (.sl l.length (l.map (.int .i64)))), (20, .val (.int .i64 l.length)), (21, .val (.int .i64 t21))] _
      obtain ⟨i1, i2, rfl, i3, i4, i5, i6⟩ := hI
      have hp := pow10_le (i := t21.toNat) (by omega)
      have hd := digOf_le (l.getD t21.toNat 0)
      have hp2 : (10 : Int) ^ t21.toNat = ((10 ^ t21.toNat : Nat) : Int) := by simp
      refine code_seq (fun K9 hK9 => ?_)
      refine code_region ?_
      refine list_cons rfl (op_q (q_lt rfl rfl (by decide)) ?_)
      refine list_nil ?_
      refine hK9 _ ?_; clear hK9 K9
      refine code_seq (fun K10 hK10 => ?_)
      refine code_cond_d rfl (fun h3 => ?_) (fun h3 => ?_)
      · skip
        (try simp only [Decidable.not_not] at h3); (try have hl6 := (by assumption : RowP l).1)
        refine code_skip ?_
        refine hK10 _ ?_; clear hK10 K10
        refine code_seq (fun K11 hK11 => ?_)
        refine code_block ?_
        refine code_seq (fun K12 hK12 => ?_)
        refine code_region ?_
        refine list_cons rfl (op_q (q_indexAddr_rd sl_35 rfl (.inl ⟨_, rfl, rfl⟩) rfl (by omega) (by omega) (by decide)) ?_)
        refine list_cons rfl (op_q (q_load_rd one_3 rfl (.inl ⟨_, (by first | rfl | exact congrArg (SV.rpar _) (drop_map1 _ 0 _ (by first | omega | (simp; omega)))), rfl⟩) (by decide)) ?_)
        refine list_cons rfl (op_q (q_assign rfl (by decide)) ?_)
        refine list_nil ?_
        refine hK12 _ ?_; clear hK12 K12
        refine code_seq (fun K13 hK13 => ?_)
        refine code_region ?_
        refine list_cons rfl (op_q (q_move rfl (by decide)) ?_)
        refine list_cons rfl (op_q (q_move rfl (by decide)) ?_)
        by_cases h4 : 0 ≤ digOf (l.getD t21.toNat 0)
        · skip
          refine list_cons rfl (op_q (q_lookup (tk := .int .i64) Tryd.underlying79 Tryd.underlying3 zvt_3 rfl rfl rfl (digE_hit _ h4) (by decide)) ?_)
          refine list_cons rfl (op_q (q_move rfl (by decide)) ?_)
          refine list_cons rfl (op_q (q_extract rfl rfl (by decide)) ?_)
          refine list_cons rfl (op_q (q_extract rfl rfl (by decide)) ?_)
          refine list_cons rfl (op_q (q_assign rfl (by decide)) ?_)
          refine list_cons rfl (op_q (q_assign rfl (by decide)) ?_)
          refine list_nil ?_
          refine hK13 _ ?_; clear hK13 K13
          refine codeT.imp (σ' := [(0, _), (2, _), (3, _), (4, _), (5, _), (7, _), (8, _), (9, _), (19, _), (20, _), (21, _)]) ?_ (imp_covers ⟨rfl, rfl, rfl, rfl, rfl, rfl, rfl, rfl, rfl, rfl, rfl, trivial⟩)
          refine code_seq (fun K14 hK14 => ?_)
          refine code_seq (fun K15 hK15 => ?_)
          refine code_region ?_
          refine list_cons rfl (op_q (q_move rfl (by decide)) ?_)
          refine list_cons rfl (op_q (by first | exact q_notd rfl (by decide) | exact q_not rfl (by decide)) ?_)
          refine list_nil ?_
          refine hK15 _ ?_; clear hK15 K15
          refine code_cond_f rfl ?_
          refine code_skip ?_
          refine hK14 _ ?_; clear hK14 K14
          refine code_region ?_
          refine list_cons rfl (op_q (q_move rfl (by decide)) ?_)
          refine list_cons rfl (op_q (by first | exact q_mulI rfl rfl (by decide) (by omega) (by omega) | exact q_ib rfl rfl rfl (by decide)) ?_)
          refine list_cons rfl (op_q (q_move rfl (by decide)) ?_)
          refine list_cons rfl (op_q (by first | exact q_addI rfl rfl (by decide) (by omega) (by omega) | exact q_ib rfl rfl rfl (by decide)) ?_)
          refine list_cons rfl (op_q (q_assign rfl (by decide)) ?_)
          refine list_nil ?_
          refine blk_n ?_
          refine hK11 _ ?_; clear hK11 K11
          refine code_region ?_
          refine list_cons rfl (op_q (by first | exact q_addI rfl rfl (by decide) (by omega) (by omega) | exact q_ib rfl rfl rfl (by decide)) ?_)
          refine list_cons rfl (op_q (q_move rfl (by decide)) ?_)
          refine list_nil ?_
          refine then_n ⟨(_, _, _, _, _), imp_covers ⟨rfl, rfl, rfl, rfl, rfl, rfl, rfl, rfl, trivial⟩, ?_, ?_⟩
          · (try dsimp only)
            refine ⟨by omega, by omega, rfl, ?_, by omega, ?_, fun j hj => ?_⟩
            · rw [show (t21 + 1).toNat = t21.toNat + 1 by omega, numF, foldl_take _ 0 _ _ (by omega), i3]; rfl
            · rw [show (t21 + 1).toNat = t21.toNat + 1 by omega, Int.pow_succ]; omega
            · by_cases e : j = t21.toNat
              · subst e; omega
              · exact i6 j (by omega)
          · (try dsimp only); omega
        · skip
          refine list_cons rfl (op_q (q_lookup (tk := .int .i64) Tryd.underlying79 Tryd.underlying3 zvt_3 rfl rfl rfl (digE_miss _ h4) (by decide)) ?_)
          refine list_cons rfl (op_q (q_move rfl (by decide)) ?_)
          refine list_cons rfl (op_q (q_extract rfl rfl (by decide)) ?_)
          refine list_cons rfl (op_q (q_extract rfl rfl (by decide)) ?_)
          refine list_cons rfl (op_q (q_assign rfl (by decide)) ?_)
          refine list_cons rfl (op_q (q_assign rfl (by decide)) ?_)
          refine list_nil ?_
          refine hK13 _ ?_; clear hK13 K13
          refine codeT.imp (σ' := [(0, _), (2, _), (3, _), (4, _), (5, _), (7, _), (8, _), (9, _), (19, _), (20, _), (21, _)]) ?_ (imp_covers ⟨rfl, rfl, rfl, rfl, rfl, rfl, rfl, rfl, rfl, rfl, rfl, trivial⟩)
          refine code_seq (fun K16 hK16 => ?_)
          refine code_seq (fun K17 hK17 => ?_)
          refine code_region ?_
          refine list_cons rfl (op_q (q_move rfl (by decide)) ?_)
          refine list_cons rfl (op_q (by first | exact q_notd rfl (by decide) | exact q_not rfl (by decide)) ?_)
          refine list_nil ?_
          refine hK17 _ ?_; clear hK17 K17
          refine code_cond_t rfl ?_
          refine code_seq (fun K18 hK18 => ?_)
          refine code_region ?_
          refine list_cons rfl (op_q (q_assign rfl (by decide)) ?_)
          refine list_cons rfl (op_q (q_assign rfl (by decide)) ?_)
          refine list_nil ?_
          refine hK18 _ ?_; clear hK18 K18
          refine code_ret ?_
          refine then_r ?_; clear hK16 K16
          refine blk_r ?_
          refine then_r ?_; clear hK11 K11
          refine then_r ?_
          refine blk_r ?_
          refine then_r ?_; clear hK7 K7
          refine ends_ret (cs := []) rfl rfl rfl rfl trivial ?_
          have e : ¬ DigsP l := fun k => h4 (k.at (by omega))
          rw [if_neg (fun k => e k.2), decide_eq_false (fun k => e k.2.1)]
      (try simp only [Decidable.not_not] at h3); (try have hl6 := (by assumption : RowP l).1)
      refine code_exit ?_
      refine then_x ?_; clear hK10 K10
      refine then_x ?_
      refine blk_hit ?_
      refine hK7 _ ?_; clear hK7 K7
      refine code_seq (fun K19 hK19 => ?_)
      refine code_region ?_
      refine list_cons rfl (op_q (q_move rfl (by decide)) ?_)
      refine list_cons rfl (op_q (q_assign rfl (by decide)) ?_)
      refine list_cons rfl (op_q (q_assign rfl (by decide)) ?_)
      refine list_nil ?_
      refine hK19 _ ?_; clear hK19 K19
      refine code_ret ?_
      refine ends_ret (cs := []) rfl rfl rfl rfl trivial ?_
      have e : DigsP l := DigsP.of fun j hj => i6 j (by omega)
      rw [if_pos ⟨h1, e⟩, decide_eq_true ⟨h1, e, by omega⟩, i3, List.take_of_length_le (by omega)]
  simp only [Bool.false_eq_true, if_true, if_false, Decidable.not_not] at h1
  (try simp only [Decidable.not_not] at h1); (try have hl6 := (by assumption : RowP l).1)
  refine list_guard_n rfl rfl rfl rfl (by decide) rfl ?_
  refine list_guard_n rfl rfl rfl rfl (by decide) rfl ?_
  refine list_cons rfl (op_q (q_pick rfl rfl (by decide)) ?_)
  refine list_nil ?_
  refine hK3 _ ?_; clear hK3 K3
  refine code_cond_t rfl ?_
  refine code_seq (fun K20 hK20 => ?_)
  refine code_region ?_
  refine list_cons rfl (op_q (q_assign rfl (by decide)) ?_)
  refine list_cons rfl (op_q (q_assign rfl (by decide)) ?_)
  refine list_nil ?_
  refine hK20 _ ?_; clear hK20 K20
  refine code_ret ?_
  refine then_r ?_; clear hK2 K2
  refine ends_ret (cs := []) rfl rfl rfl rfl trivial ?_
  rw [if_neg (fun k => h1 k.1), decide_eq_false (fun k => h1 k.1)]

def bt1 (c b : Nat) : Int := if bitN c b = true then 1 else 0
theorem bt1_le (c b : Nat) : 0 ≤ bt1 c b ∧ bt1 c b ≤ 1 := by unfold bt1; split <;> omega
theorem bt1_eq (c b : Nat) : ((((shN c b : Nat) : Int).toNat &&& Int.toNat 1 : Nat) : Int) = bt1 c b := by
  have h := bit_iff c b
  have h1 : shN c b &&& 1 ≤ 1 := Nat.and_le_right
  rw [Int.toNat_natCast, show Int.toNat 1 = 1 from rfl]
  unfold bt1
  by_cases e : bitN c b = true
  · rw [if_pos e]; exact h.2 e
  · rw [if_neg e]
    have : ¬ ((shN c b &&& 1 : Nat) : Int) = 1 := fun k => e (h.1 k)
    omega
def xrC (n k : Int) (t j : Nat) : Nat := ((rowC (atC n k t) k).getD j 0).toNat ^^^ ((rowC (nextC (atC n k t) k) k).getD j 0).toNat
theorem rowC_at {n k : Int} {j : Nat} (h : j < k.toNat) : 0 ≤ (rowC n k).getD j 0 ∧ (rowC n k).getD j 0 ≤ 127 := by
  unfold rowC; exact rowK_at h
theorem xrC_lt (n k : Int) (t : Nat) {j : Nat} (h : j < k.toNat) : xrC n k t j < 128 := by
  have h1 := rowC_at (n := atC n k t) h
  have h2 := rowC_at (n := nextC (atC n k t) k) h
  unfold xrC
  exact @Nat.xor_lt_two_pow _ _ 7 (by omega) (by omega)
def wbt (n k : Int) (t s : Nat) : Int := bt1 (xrC n k t (s / 7)) (s % 7)
def vW (n k : Int) : Nat → Nat → Int
  | 0, _ => 0
  | t + 1, s => vW n k t s + wbt n k t s
theorem vW_le (n k : Int) : ∀ t s : Nat, 0 ≤ vW n k t s ∧ vW n k t s ≤ t
  | 0, s => by unfold vW; omega
  | t + 1, s => by
    have h1 := vW_le n k t s
    have h2 := bt1_le (xrC n k t (s / 7)) (s % 7)
    unfold vW wbt; omega
/-- The counts after t steps and the first c counts of the next one. -/
def fW (n k : Int) (t c : Nat) : List Int := (List.range (k.toNat * 7)).map fun s => if s < c then vW n k (t + 1) s else vW n k t s
theorem fW_len (n k : Int) (t c : Nat) : (fW n k t c).length = k.toNat * 7 := by simp [fW]
theorem fW_at (n k : Int) (t c : Nat) {s : Nat} (h : s < k.toNat * 7) : (fW n k t c).getD s 0 = if s < c then vW n k (t + 1) s else vW n k t s := by simp [fW, h]
theorem fW_le (n k : Int) (t c s : Nat) : 0 ≤ (fW n k t c).getD s 0 ∧ (fW n k t c).getD s 0 ≤ t + 1 := by
  by_cases h : s < k.toNat * 7
  · rw [fW_at n k t c h]
    have h1 := vW_le n k (t + 1) s
    have h2 := vW_le n k t s
    split <;> omega
  · rw [List.getD_eq_getElem?_getD, List.getElem?_eq_none (by rw [fW_len]; omega)]
    simp only [Option.getD_none]; omega
theorem fW_next (n k : Int) (t : Nat) : fW n k t (k.toNat * 7) = fW n k (t + 1) 0 := by
  unfold fW
  apply List.map_congr_left
  intro s hs
  rw [if_pos (List.mem_range.1 hs), if_neg (Nat.not_lt_zero s)]
theorem fW_0 (n k : Int) : fW n k 0 0 = List.replicate (k.toNat * 7) 0 := by
  unfold fW
  have : ∀ s, (if s < 0 then vW n k 1 s else vW n k 0 s) = 0 := fun s => by rw [if_neg (Nat.not_lt_zero s)]; rfl
  simp only [Nat.zero_add, this, List.map_const', List.length_range]
theorem fW_get (n k : Int) (t c : Nat) {s : Nat} (h : s < (fW n k t c).length) : (fW n k t c)[s] = if s < c then vW n k (t + 1) s else vW n k t s := by simp [fW]
theorem fW_set (n k : Int) (t c : Nat) {v : Int} (hv : v = (if c < c then vW n k (t + 1) c else vW n k t c) + wbt n k t c) : (fW n k t c).set c v = fW n k t (c + 1) := by
  apply List.ext_getElem (by simp [fW_len])
  intro s h1 h2
  rw [List.getElem_set, fW_get n k t (c + 1) h2]
  split
  · rename_i e
    subst e
    rw [if_pos (Nat.lt_succ_self c), hv, if_neg (Nat.lt_irrefl c)]; rfl
  · rw [fW_get]
    by_cases h : s < c
    · rw [if_pos h, if_pos (by omega)]
    · rw [if_neg h, if_neg (by omega)]
theorem fW_put {n k : Int} {t c o : Nat} {v : Int} (ho : o = c * 1) (hc : c < k.toNat * 7) (hv : v = (fW n k t c).getD c 0 + wbt n k t c) : putAt ((fW n k t c).map (PV.int .i64)) o [PV.int .i64 v] = (fW n k t (c + 1)).map (PV.int .i64) := by
  subst ho
  rw [put_map1 (PV.int .i64) _ (by rw [fW_len]; exact hc), fW_set n k t c (by rw [hv, fW_at n k t c hc])]
theorem fW_ld {n k : Int} {t c j b : Nat} (h : j * 7 + b < k.toNat * 7) : ((fW n k t c).map (PV.int .i64))[j * 7 + b * 1]? = some (.int .i64 ((fW n k t c).getD (j * 7 + b) 0)) := by
  have := get_map1 (PV.int .i64) 0 (fW n k t c) (k := j * 7 + b) (by rw [fW_len]; exact h)
  rw [Nat.mul_one] at this
  rw [Nat.mul_one]; exact this
theorem seven0 : ∀ m, m < 7 → ([PV.int .i64 0, PV.int .i64 0, PV.int .i64 0, PV.int .i64 0, PV.int .i64 0, PV.int .i64 0, PV.int .i64 0] : List PV).getD m (.bool false) = PV.int .i64 0
  | 0, _ => rfl | 1, _ => rfl | 2, _ => rfl | 3, _ => rfl | 4, _ => rfl | 5, _ => rfl | 6, _ => rfl
theorem zeros7 (n : Nat) : zeros [PV.int .i64 0, PV.int .i64 0, PV.int .i64 0, PV.int .i64 0, PV.int .i64 0, PV.int .i64 0, PV.int .i64 0] n = (List.replicate (n * 7) (0 : Int)).map (PV.int .i64) := by
  have e : zeros [PV.int .i64 0, PV.int .i64 0, PV.int .i64 0, PV.int .i64 0, PV.int .i64 0, PV.int .i64 0, PV.int .i64 0] n = (List.range (n * 7)).map fun _ => PV.int .i64 0 := by
    unfold zeros
    apply List.map_congr_left
    intro j _
    exact seven0 _ (Nat.mod_lt _ (by decide))
  rw [e, List.map_const', List.length_range, List.map_replicate]
theorem w_div {j b : Nat} (h : b < 7) : (j * 7 + b) / 7 = j ∧ (j * 7 + b) % 7 = b := by omega
theorem wbt_at (n k : Int) (t : Nat) {j b : Nat} (h : b < 7) : wbt n k t (j * 7 + b) = bt1 (xrC n k t j) b := by
  unfold wbt; rw [(w_div h).1, (w_div h).2]

set_option maxRecDepth 8000 in
set_option maxHeartbeats 4000000 in
theorem spec_WearOf (n s k : Int) : PCalls Tryd.prog 20 [.int .i64 n, .int .i64 s, .int .i64 k] (· = [.own 0 43 7 (if Cn n k ∧ 0 ≤ s ∧ s ≤ 1000 then k.toNat else 0) ((if Cn n k ∧ 0 ≤ s ∧ s ≤ 1000 then fW n k s.toNat 0 else []).map (.int .i64)), .val (.bool (decide (Cn n k ∧ 0 ≤ s ∧ s ≤ 1000)))]) := by
  refine pcalls_of_code (n := 78) az Tryd.func20 (by kernel_rfl) rfl rfl (Nat.le_of_ble_eq_true rfl) (by intro t u h; simp [Tryd.f20] at h) ?_
  refine code_seq (fun K1 hK1 => ?_)
  refine code_region ?_
  refine list_cons rfl (op_q (q_assign rfl (by decide)) ?_)
  refine list_cons rfl (op_q (q_assign rfl (by decide)) ?_)
  refine list_nil ?_
  refine hK1 _ ?_; clear hK1 K1
  refine code_seq (fun K2 hK2 => ?_)
  refine code_seq (fun K3 hK3 => ?_)
  refine code_region ?_
  refine list_cons rfl (op_q (q_move rfl (by decide)) ?_)
  refine list_cons rfl (op_q (q_move rfl (by decide)) ?_)
  refine list_cons rfl (op_q (q_move rfl (by decide)) ?_)
  refine list_cons rfl (op_call _ (spec_l4Good _ _ _) rfl rfl (by decide) (by decide) (by decide) rfl ?_)
  rintro _ rfl
  refine list_cons rfl (op_q (by first | exact q_notd rfl (by decide) | exact q_not rfl (by decide)) ?_)
  refine list_nil ?_
  refine hK3 _ ?_; clear hK3 K3
  refine codeT.imp (σ' := [(0, _), (1, _), (2, _), (6, _), (7, _), (19, _)]) ?_ (imp_covers ⟨rfl, rfl, rfl, rfl, rfl, rfl, trivial⟩)
  refine code_cond_d rfl (fun h1 => ?_) (fun h1 => ?_)
  · skip
    (try simp only [Decidable.not_not] at h1)
    refine code_seq (fun K4 hK4 => ?_)
    refine code_region ?_
    refine list_cons rfl (op_buildSlice sl_28 (parts := []) rfl rfl rfl (by decide) (by decide) (by decide) rfl ?_)
    refine list_cons rfl (op_q (q_assign rfl (by decide)) ?_)
    refine list_cons rfl (op_q (q_assign rfl (by decide)) ?_)
    refine list_nil ?_
    refine hK4 _ ?_; clear hK4 K4
    refine code_ret ?_
    refine then_r ?_; clear hK2 K2
    refine ends_ret (cs := []) rfl rfl rfl rfl trivial ?_
    first
      | (have e : ¬ (Cn n k ∧ 0 ≤ s ∧ s ≤ 1000) := by unfold Cn; omega
         simp only [if_neg e, decide_eq_false e]; rfl)
      | (have e : Cn n k ∧ 0 ≤ s ∧ s ≤ 1000 := ⟨hc, by omega, by omega⟩
         simp only [if_pos e, decide_eq_true e]
         rw [show i.toNat = s.toNat by omega])
  (try simp only [Decidable.not_not] at h1)
  refine code_skip ?_
  refine hK2 _ ?_; clear hK2 K2
  refine code_seq (fun K5 hK5 => ?_)
  refine code_region ?_
  refine list_cons rfl (op_q (q_move rfl (by decide)) ?_)
  refine list_cons rfl (op_makeI sl_28 rfl rfl (by omega) (by omega) (by decide) (by decide) rfl ?_)
  refine list_cons rfl (op_q (q_assign rfl (by decide)) ?_)
  refine list_nil ?_
  refine hK5 _ ?_; clear hK5 K5
  refine code_seq (fun K6 hK6 => ?_)
  refine code_seq (fun K7 hK7 => ?_)
  refine code_region ?_
  refine list_cons rfl (op_q (q_assign rfl (by decide)) ?_)
  refine list_nil ?_
  refine hK7 _ ?_; clear hK7 K7
  refine code_block ?_
  refine code_loop (X := PV × Bool × Nat × List PV × Int) (fun x => [(0, .val (.int .i64 n)), (1, .val (.int .i64 s)), (2, .val (.int .i64 k)), (6, .val x.1), (7, .val (.bool x.2.1)), (8, .own 22 43 7 x.2.2.1 x.2.2.2.1), (9, .val (.int .i64 x.2.2.2.2))]) (fun x => 0 ≤ x.2.2.2.2 ∧ x.2.2.2.2 ≤ s ∧ Cn n k ∧ s ≤ 1000 ∧ x.2.2.1 = k.toNat ∧ x.2.2.2.1 = (fW n k x.2.2.2.2.toNat 0).map (.int .i64)) (fun x => (s - x.2.2.2.2).toNat) (_, _, _, _, _) (imp_covers ⟨rfl, rfl, rfl, rfl, rfl, rfl, rfl, trivial⟩) ?_ ?_
  · (try dsimp only)
    exact ⟨by omega, by omega, by unfold Cn; omega, by omega, rfl, (zeros7 k.toNat).trans (congrArg (List.map (PV.int .i64)) (fW_0 n k).symm)⟩
  · intro x hI
    obtain ⟨t6_p, t7, out_n, out_c, i⟩ := x
    replace hI : 0 ≤ i ∧ i ≤ s ∧ Cn n k ∧ s ≤ 1000 ∧ out_n = k.toNat ∧ out_c = (fW n k i.toNat 0).map (.int .i64) := hI
    show codeT _ _ _ [(0, .val (.int .i64 n)), (1, .val (.int .i64 s)), (2, .val (.int .i64 k)), (6, .val t6_p), (7, .val (.bool t7)), (8, .own 22 43 7 out_n out_c), (9, .val (.int .i64 i))] _
    obtain ⟨i1, i2, hc, i3, rfl, rfl⟩ := hI
    have hk := Cn_bd hc
    have ht := top4_le (k := k) (by omega) (by omega)
    have ha := atC_ok hc i.toNat
    have hb := nextC_ok ha
    have hi : atC n k i.toNat = (n + i) % top4 k := by unfold atC; rw [Int.toNat_of_nonneg i1]
    have har : (rowC (atC n k i.toNat) k).length = k.toNat := rowK_len _ _
    have hbr : (rowC (nextC (atC n k i.toNat) k) k).length = k.toNat := rowK_len _ _
    have ham := ha.2.2
    have ha0 := Cn_bd ha
    refine code_seq (fun K8 hK8 => ?_)
    refine code_seq (fun K9 hK9 => ?_)
    refine code_region ?_
    refine list_cons rfl (op_q (q_move rfl (by decide)) ?_)
    refine list_cons rfl (op_q (q_move rfl (by decide)) ?_)
    refine list_cons rfl (op_q (q_lt rfl rfl (by decide)) ?_)
    refine list_nil ?_
    refine hK9 _ ?_; clear hK9 K9
    refine code_cond_d rfl (fun h2 => ?_) (fun h2 => ?_)
    · skip
      (try simp only [Decidable.not_not] at h2)
      refine code_skip ?_
      refine hK8 _ ?_; clear hK8 K8
      refine code_seq (fun K10 hK10 => ?_)
      refine code_block ?_
      refine code_seq (fun K11 hK11 => ?_)
      refine code_region ?_
      refine list_cons rfl (op_q (q_move rfl (by decide)) ?_)
      refine list_cons rfl (op_q (q_move rfl (by decide)) ?_)
      refine list_cons rfl (op_q (by first | exact q_addI rfl rfl (by decide) (by omega) (by omega) | exact q_ib rfl rfl rfl (by decide)) ?_)
      refine list_cons rfl (op_q (q_move rfl (by decide)) ?_)
      refine list_cons rfl (op_call _ (spec_l4Top _ (by omega) (by omega)) rfl rfl (by decide) (by decide) (by decide) rfl ?_)
      rintro _ rfl
      refine list_cons rfl (op_q (by first | exact q_remI rfl rfl (by decide) (by omega) (by omega) | exact q_rem rfl rfl (by omega) (by decide)) ?_)
      refine list_cons rfl (op_q (q_assign rfl (by decide)) ?_)
      refine list_nil ?_
      refine hK11 _ ?_; clear hK11 K11
      refine codeT.imp (σ' := [(0, _), (1, _), (2, _), (6, _), (7, _), (8, _), (9, _), (10, _)]) ?_ (imp_covers ⟨rfl, rfl, rfl, rfl, rfl, rfl, rfl, rfl, trivial⟩)
      refine code_seq (fun K12 hK12 => ?_)
      refine code_region ?_
      refine list_cons rfl (op_q (q_move rfl (by decide)) ?_)
      refine list_cons rfl (op_q (q_move rfl (by decide)) ?_)
      refine list_cons rfl (op_call _ ((by rw [← hi]; exact spec_l4Row _ _ ha)) rfl rfl (by decide) (by decide) (by decide) rfl ?_)
      rintro _ rfl
      refine list_cons rfl (op_q (q_move rfl (by decide)) ?_)
      refine list_cons rfl (op_q (by first | exact q_addI rfl rfl (by decide) (by omega) (by omega) | exact q_ib rfl rfl rfl (by decide)) ?_)
      refine list_cons rfl (op_q (q_move rfl (by decide)) ?_)
      refine list_cons rfl (op_call _ (spec_l4Top _ (by omega) (by omega)) rfl rfl (by decide) (by decide) (by decide) rfl ?_)
      rintro _ rfl
      refine list_cons rfl (op_q (by first | exact q_remI rfl rfl (by decide) (by omega) (by omega) | exact q_rem rfl rfl (by omega) (by decide)) ?_)
      refine list_cons rfl (op_q (q_move rfl (by decide)) ?_)
      refine list_cons rfl (op_call _ ((by rw [← hi]; exact spec_l4Row (nextC (atC n k i.toNat) k) _ hb)) rfl rfl (by decide) (by decide) (by decide) rfl ?_)
      rintro _ rfl
      refine list_cons rfl (op_q (q_assign rfl (by decide)) ?_)
      refine list_cons rfl (op_q (q_assign rfl (by decide)) ?_)
      refine list_nil ?_
      refine hK12 _ ?_; clear hK12 K12
      refine codeT.imp (σ' := [(0, _), (1, _), (2, _), (6, _), (7, _), (8, _), (9, _), (10, _), (11, _), (12, _)]) ?_ (imp_covers ⟨rfl, rfl, rfl, rfl, rfl, rfl, rfl, rfl, rfl, rfl, trivial⟩)
      refine code_seq (fun K13 hK13 => ?_)
      refine code_region ?_
      refine list_cons rfl (op_q (q_assign rfl (by decide)) ?_)
      refine list_nil ?_
      refine hK13 _ ?_; clear hK13 K13
      refine code_block ?_
      refine code_loop (X := PV × Bool × Nat × List PV × Int × Nat × List PV × Nat × List PV × Int) (fun x => [(0, .val (.int .i64 n)), (1, .val (.int .i64 s)), (2, .val (.int .i64 k)), (6, .val x.1), (7, .val (.bool x.2.1)), (8, .own 22 43 7 x.2.2.1 x.2.2.2.1), (9, .val (.int .i64 i)), (10, .val (.int .i64 x.2.2.2.2.1)), (11, .own 36 3 1 x.2.2.2.2.2.1 x.2.2.2.2.2.2.1), (12, .own 43 3 1 x.2.2.2.2.2.2.2.1 x.2.2.2.2.2.2.2.2.1), (13, .val (.int .i64 x.2.2.2.2.2.2.2.2.2))]) (fun x => 0 ≤ x.2.2.2.2.2.2.2.2.2 ∧ x.2.2.2.2.2.2.2.2.2 ≤ k ∧ x.2.2.1 = k.toNat ∧ x.2.2.2.1 = (fW n k i.toNat (x.2.2.2.2.2.2.2.2.2.toNat * 7)).map (.int .i64) ∧ x.2.2.2.2.2.1 = k.toNat ∧ x.2.2.2.2.2.2.1 = (rowC (atC n k i.toNat) k).map (.int .i64) ∧ x.2.2.2.2.2.2.2.1 = k.toNat ∧ x.2.2.2.2.2.2.2.2.1 = (rowC (nextC (atC n k i.toNat) k) k).map (.int .i64)) (fun x => (k - x.2.2.2.2.2.2.2.2.2).toNat) (_, _, _, _, _, _, _, _, _, _) (imp_covers ⟨rfl, rfl, rfl, rfl, rfl, rfl, rfl, rfl, rfl, rfl, rfl, trivial⟩) ?_ ?_
      · (try dsimp only)
        exact ⟨by omega, by omega, rfl, rfl, har, rfl, hbr, rfl⟩
      · intro x hI
        obtain ⟨t6_p, t7, out_n, out_c, n_, a_n, a_c, b_n, b_c, x_⟩ := x
        replace hI : 0 ≤ x_ ∧ x_ ≤ k ∧ out_n = k.toNat ∧ out_c = (fW n k i.toNat (x_.toNat * 7)).map (.int .i64) ∧ a_n = k.toNat ∧ a_c = (rowC (atC n k i.toNat) k).map (.int .i64) ∧ b_n = k.toNat ∧ b_c = (rowC (nextC (atC n k i.toNat) k) k).map (.int .i64) := hI
        show codeT _ _ _ [(0, .val (.int .i64 n)), (1, .val (.int .i64 s)), (2, .val (.int .i64 k)), (6, .val t6_p), (7, .val (.bool t7)), (8, .own 22 43 7 out_n out_c), (9, .val (.int .i64 i)), (10, .val (.int .i64 n_)), (11, .own 36 3 1 a_n a_c), (12, .own 43 3 1 b_n b_c), (13, .val (.int .i64 x_))] _
        obtain ⟨j1, j2, rfl, rfl, rfl, rfl, rfl, rfl⟩ := hI
        refine code_seq (fun K14 hK14 => ?_)
        refine code_seq (fun K15 hK15 => ?_)
        refine code_region ?_
        refine list_cons rfl (op_q (q_move rfl (by decide)) ?_)
        refine list_cons rfl (op_q (q_move rfl (by decide)) ?_)
        refine list_cons rfl (op_q (q_lt rfl rfl (by decide)) ?_)
        refine list_nil ?_
        refine hK15 _ ?_; clear hK15 K15
        refine code_cond_d rfl (fun h3 => ?_) (fun h3 => ?_)
        · skip
          (try simp only [Decidable.not_not] at h3)
          refine code_skip ?_
          refine hK14 _ ?_; clear hK14 K14
          refine code_seq (fun K16 hK16 => ?_)
          refine code_block ?_
          refine code_seq (fun K17 hK17 => ?_)
          refine code_region ?_
          refine list_cons rfl (op_q (q_assign rfl (by decide)) ?_)
          refine list_nil ?_
          refine hK17 _ ?_; clear hK17 K17
          refine code_block ?_
          refine code_loop (X := PV × Bool × Nat × List PV × Int × Nat × List PV × Nat × List PV × Int) (fun x => [(0, .val (.int .i64 n)), (1, .val (.int .i64 s)), (2, .val (.int .i64 k)), (6, .val x.1), (7, .val (.bool x.2.1)), (8, .own 22 43 7 x.2.2.1 x.2.2.2.1), (9, .val (.int .i64 i)), (10, .val (.int .i64 x.2.2.2.2.1)), (11, .own 36 3 1 x.2.2.2.2.2.1 x.2.2.2.2.2.2.1), (12, .own 43 3 1 x.2.2.2.2.2.2.2.1 x.2.2.2.2.2.2.2.2.1), (13, .val (.int .i64 x_)), (14, .val (.int .i64 x.2.2.2.2.2.2.2.2.2))]) (fun x => 0 ≤ x.2.2.2.2.2.2.2.2.2 ∧ x.2.2.2.2.2.2.2.2.2 ≤ 7 ∧ x.2.2.1 = k.toNat ∧ x.2.2.2.1 = (fW n k i.toNat (x_.toNat * 7 + x.2.2.2.2.2.2.2.2.2.toNat)).map (.int .i64) ∧ x.2.2.2.2.2.1 = k.toNat ∧ x.2.2.2.2.2.2.1 = (rowC (atC n k i.toNat) k).map (.int .i64) ∧ x.2.2.2.2.2.2.2.1 = k.toNat ∧ x.2.2.2.2.2.2.2.2.1 = (rowC (nextC (atC n k i.toNat) k) k).map (.int .i64)) (fun x => (7 - x.2.2.2.2.2.2.2.2.2).toNat) (_, _, _, _, _, _, _, _, _, _) (imp_covers ⟨rfl, rfl, rfl, rfl, rfl, rfl, rfl, rfl, rfl, rfl, rfl, rfl, trivial⟩) ?_ ?_
          · (try dsimp only)
            exact ⟨by omega, by omega, rfl, rfl, rfl, rfl, rfl, rfl⟩
          · intro x hI
            obtain ⟨t6_p, t7, out_n, out_c, n_, a_n, a_c, b_n, b_c, bar⟩ := x
            replace hI : 0 ≤ bar ∧ bar ≤ 7 ∧ out_n = k.toNat ∧ out_c = (fW n k i.toNat (x_.toNat * 7 + bar.toNat)).map (.int .i64) ∧ a_n = k.toNat ∧ a_c = (rowC (atC n k i.toNat) k).map (.int .i64) ∧ b_n = k.toNat ∧ b_c = (rowC (nextC (atC n k i.toNat) k) k).map (.int .i64) := hI
            show codeT _ _ _ [(0, .val (.int .i64 n)), (1, .val (.int .i64 s)), (2, .val (.int .i64 k)), (6, .val t6_p), (7, .val (.bool t7)), (8, .own 22 43 7 out_n out_c), (9, .val (.int .i64 i)), (10, .val (.int .i64 n_)), (11, .own 36 3 1 a_n a_c), (12, .own 43 3 1 b_n b_c), (13, .val (.int .i64 x_)), (14, .val (.int .i64 bar))] _
            obtain ⟨l1, l2, rfl, rfl, rfl, rfl, rfl, rfl⟩ := hI
            have hx := xrC_lt n k i.toNat (j := x_.toNat) (by omega)
            have hra := rowC_at (n := atC n k i.toNat) (k := k) (j := x_.toNat) (by omega)
            have hrb := rowC_at (n := nextC (atC n k i.toNat) k) (k := k) (j := x_.toNat) (by omega)
            have hbt := bt1_le (((((rowC (atC n k i.toNat) k).getD x_.toNat 0).toNat ^^^ ((rowC (nextC (atC n k i.toNat) k) k).getD x_.toNat 0).toNat : Nat) : Int).toNat) bar.toNat
            have hsh : shN (((((rowC (atC n k i.toNat) k).getD x_.toNat 0).toNat ^^^ ((rowC (nextC (atC n k i.toNat) k) k).getD x_.toNat 0).toNat : Nat) : Int).toNat) bar.toNat ≤ 127 := Nat.le_trans (Nat.div_le_self _ _) (by show xrC n k i.toNat x_.toNat ≤ 127; omega)
            rw [← bt1_eq] at hbt
            have hfl := fW_le n k i.toNat (x_.toNat * 7 + bar.toNat) (x_.toNat * 7 + bar.toNat)
            refine code_seq (fun K18 hK18 => ?_)
            refine code_seq (fun K19 hK19 => ?_)
            refine code_region ?_
            refine list_cons rfl (op_q (q_move rfl (by decide)) ?_)
            refine list_cons rfl (op_q (q_lt rfl rfl (by decide)) ?_)
            refine list_nil ?_
            refine hK19 _ ?_; clear hK19 K19
            refine code_cond_d rfl (fun h4 => ?_) (fun h4 => ?_)
            · skip
              (try simp only [Decidable.not_not] at h4)
              refine code_skip ?_
              refine hK18 _ ?_; clear hK18 K18
              refine code_seq (fun K20 hK20 => ?_)
              refine code_block ?_
              refine any_start fun ob1_0 => ?_
              refine any_op (rd := [8]) ob1_0 rfl rfl rfl (anyT_quiet [(8, _)] ⟨rfl, trivial⟩ rfl (q_move rfl (by decide))) (fun ob1_1 => ?_)
              simp only [List.cons_append, List.nil_append] at ob1_1
              refine any_op (rd := [13]) ob1_1 rfl rfl rfl (anyT_quiet [(13, _)] ⟨rfl, trivial⟩ rfl (q_move rfl (by decide))) (fun ob1_2 => ?_)
              simp only [List.cons_append, List.nil_append] at ob1_2
              refine any_op (rd := [14]) ob1_2 rfl rfl rfl (anyT_quiet [(14, _)] ⟨rfl, trivial⟩ rfl (q_move rfl (by decide))) (fun ob1_3 => ?_)
              simp only [List.cons_append, List.nil_append] at ob1_3
              refine any_op (rd := [8]) ob1_3 rfl rfl rfl (anyT_quiet [(8, _)] ⟨rfl, trivial⟩ rfl (q_move rfl (by decide))) (fun ob1_4 => ?_)
              simp only [List.cons_append, List.nil_append] at ob1_4
              refine any_op (rd := [13]) ob1_4 rfl rfl rfl (anyT_quiet [(13, _)] ⟨rfl, trivial⟩ rfl (q_move rfl (by decide))) (fun ob1_5 => ?_)
              simp only [List.cons_append, List.nil_append] at ob1_5
              refine any_op (rd := [14]) ob1_5 rfl rfl rfl (anyT_quiet [(14, _)] ⟨rfl, trivial⟩ rfl (q_move rfl (by decide))) (fun ob1_6 => ?_)
              simp only [List.cons_append, List.nil_append] at ob1_6
              refine any_op (rd := [56, 57]) ob1_6 rfl rfl rfl (anyT_quiet [(56, _), (57, _)] ⟨rfl, rfl, trivial⟩ rfl (q_indexAddr_own sl_28 rfl rfl (by omega) (by omega) (by decide))) (fun ob1_7 => ?_)
              simp only [List.cons_append, List.nil_append] at ob1_7
              refine any_op (rd := [58, 59]) ob1_7 rfl rfl rfl (anyT_quiet [(58, _), (59, _)] ⟨rfl, rfl, trivial⟩ rfl (q_indexAddr_arr arr_43 rfl rfl rfl (by omega) (by omega) (by decide))) (fun ob1_8 => ?_)
              simp only [List.cons_append, List.nil_append] at ob1_8
              refine any_op (rd := [60, 8]) ob1_8 rfl rfl rfl (anyT_quiet [(60, _), (8, _)] ⟨rfl, rfl, trivial⟩ rfl (q_load one_3 8 rfl rfl rfl (by first | exact fW_ld (by omega) | exact get_map1 _ 0 _ (by first | omega | (simp; omega))) (by decide))) (fun ob1_9 => ?_)
              simp only [List.cons_append, List.nil_append] at ob1_9
              refine any_op (rd := [11]) ob1_9 rfl rfl rfl (anyT_quiet [(11, _)] ⟨rfl, trivial⟩ rfl (q_move rfl (by decide))) (fun ob1_10 => ?_)
              simp only [List.cons_append, List.nil_append] at ob1_10
              refine any_op (rd := [13]) ob1_10 rfl rfl rfl (anyT_quiet [(13, _)] ⟨rfl, trivial⟩ rfl (q_move rfl (by decide))) (fun ob1_11 => ?_)
              simp only [List.cons_append, List.nil_append] at ob1_11
              refine any_op (rd := [62, 63]) ob1_11 rfl rfl rfl (anyT_quiet [(62, _), (63, _)] ⟨rfl, rfl, trivial⟩ rfl (q_indexAddr_own sl_35 rfl rfl (by omega) (by omega) (by decide))) (fun ob1_12 => ?_)
              simp only [List.cons_append, List.nil_append] at ob1_12
              refine any_op (rd := [64, 11]) ob1_12 rfl rfl rfl (anyT_quiet [(64, _), (11, _)] ⟨rfl, rfl, trivial⟩ rfl (q_load one_3 11 rfl rfl rfl (by first | exact fW_ld (by omega) | exact get_map1 _ 0 _ (by first | omega | (simp; omega))) (by decide))) (fun ob1_13 => ?_)
              simp only [List.cons_append, List.nil_append] at ob1_13
              refine any_op (rd := [12]) ob1_13 rfl rfl rfl (anyT_quiet [(12, _)] ⟨rfl, trivial⟩ rfl (q_move rfl (by decide))) (fun ob1_14 => ?_)
              simp only [List.cons_append, List.nil_append] at ob1_14
              refine any_op (rd := [13]) ob1_14 rfl rfl rfl (anyT_quiet [(13, _)] ⟨rfl, trivial⟩ rfl (q_move rfl (by decide))) (fun ob1_15 => ?_)
              simp only [List.cons_append, List.nil_append] at ob1_15
              refine any_op (rd := [66, 67]) ob1_15 rfl rfl rfl (anyT_quiet [(66, _), (67, _)] ⟨rfl, rfl, trivial⟩ rfl (q_indexAddr_own sl_35 rfl rfl (by omega) (by omega) (by decide))) (fun ob1_16 => ?_)
              simp only [List.cons_append, List.nil_append] at ob1_16
              refine any_op (rd := [68, 12]) ob1_16 rfl rfl rfl (anyT_quiet [(68, _), (12, _)] ⟨rfl, rfl, trivial⟩ rfl (q_load one_3 12 rfl rfl rfl (by first | exact fW_ld (by omega) | exact get_map1 _ 0 _ (by first | omega | (simp; omega))) (by decide))) (fun ob1_17 => ?_)
              simp only [List.cons_append, List.nil_append] at ob1_17
              refine any_op (rd := [65, 69]) ob1_17 rfl rfl rfl (anyT_quiet [(65, _), (69, _)] ⟨rfl, rfl, trivial⟩ rfl (by first | exact q_xorI rfl rfl (by decide) (by omega) (by omega) (by omega) (by omega) | exact q_ib rfl rfl rfl (by decide))) (fun ob1_18 => ?_)
              simp only [List.cons_append, List.nil_append] at ob1_18
              refine any_op (rd := [14]) ob1_18 rfl rfl rfl (anyT_quiet [(14, _)] ⟨rfl, trivial⟩ rfl (q_move rfl (by decide))) (fun ob1_19 => ?_)
              simp only [List.cons_append, List.nil_append] at ob1_19
              refine any_op (rd := [70, 71]) ob1_19 rfl rfl rfl (anyT_quiet [(70, _), (71, _)] ⟨rfl, rfl, trivial⟩ rfl (by first | exact q_shrN rfl rfl (by decide) (by omega) (by omega) (by omega) | exact q_shrI rfl rfl (by decide) (by omega) (by omega) (by omega) | exact q_shr rfl rfl (by omega) (by decide))) (fun ob1_20 => ?_)
              simp only [List.cons_append, List.nil_append] at ob1_20
              refine any_op (rd := [72]) ob1_20 rfl rfl rfl (anyT_quiet [(72, _)] ⟨rfl, trivial⟩ rfl (by first | exact q_andI rfl rfl (by decide) (by omega) (by omega) (by omega) (by omega) | exact q_ib rfl rfl rfl (by decide))) (fun ob1_21 => ?_)
              simp only [List.cons_append, List.nil_append] at ob1_21
              refine any_op (rd := [61, 73]) ob1_21 rfl rfl rfl (anyT_quiet [(61, _), (73, _)] ⟨rfl, rfl, trivial⟩ rfl (by first | exact q_addI rfl rfl (by decide) (by omega) (by omega) | exact q_ib rfl rfl rfl (by decide))) (fun ob1_22 => ?_)
              simp only [List.cons_append, List.nil_append] at ob1_22
              refine any_op (rd := [53, 54]) ob1_22 rfl rfl rfl (anyT_quiet [(53, _), (54, _)] ⟨rfl, rfl, trivial⟩ rfl (q_indexAddr_own sl_28 rfl rfl (by omega) (by omega) (by decide))) (fun ob1_23 => ?_)
              simp only [List.cons_append, List.nil_append] at ob1_23
              refine any_end [[], [], [], [], [], [], [3, 4], [3, 4, 5, 6], [3, 4, 5, 6, 7], [], [], [9, 10], [9, 10, 11], [], [], [13, 14], [13, 14, 15], [9, 10, 11, 12, 13, 14, 15, 16], [], [9, 10, 11, 12, 13, 14, 15, 16, 17, 18], [9, 10, 11, 12, 13, 14, 15, 16, 17, 18, 19], [3, 4, 5, 6, 7, 8, 9, 10, 11, 12, 13, 14, 15, 16, 17, 18, 19, 20], [0, 1], [0, 1, 2, 3, 4, 5, 6, 7, 8, 9, 10, 11, 12, 13, 14, 15, 16, 17, 18, 19, 20, 21, 22], [0, 1, 2, 3, 4, 5, 6, 7, 8, 9, 10, 11, 12, 13, 14, 15, 16, 17, 18, 19, 20, 21, 22, 23]] ob1_23 (by kernel_rfl) (Nat.le_of_ble_eq_true rfl) (by decide) (by decide) (by kernel_rfl) (by kernel_rfl) (by kernel_rfl) (by kernel_rfl) (by kernel_rfl) ?_
              clear ob1_0 ob1_1 ob1_2 ob1_3 ob1_4 ob1_5 ob1_6 ob1_7 ob1_8 ob1_9 ob1_10 ob1_11 ob1_12 ob1_13 ob1_14 ob1_15 ob1_16 ob1_17 ob1_18 ob1_19 ob1_20 ob1_21 ob1_22 ob1_23
              refine listT.imp (σ' := ((0, _) :: (1, _) :: (2, _) :: (6, _) :: (7, _) :: (8, _) :: (9, _) :: (10, _) :: (11, _) :: (12, _) :: (13, _) :: (14, _) :: (49, _) :: (50, _) :: (53, _) :: (54, _) :: (55, _) :: (56, _) :: (57, _) :: (58, _) :: (59, _) :: (60, _) :: (61, _) :: (62, _) :: (63, _) :: (64, _) :: (65, _) :: (66, _) :: (67, _) :: (68, _) :: (69, _) :: (70, _) :: (71, _) :: (72, _) :: (73, _) :: (74, _) :: (75, _) :: [])) ?_ (imp_covers ⟨rfl, rfl, rfl, rfl, rfl, rfl, rfl, rfl, rfl, rfl, rfl, rfl, rfl, rfl, rfl, rfl, rfl, rfl, rfl, rfl, rfl, rfl, rfl, rfl, rfl, rfl, rfl, rfl, rfl, rfl, rfl, rfl, rfl, rfl, rfl, rfl, rfl, trivial⟩)
              refine list_cons rfl (op_q (q_indexAddr_arr arr_43 rfl rfl rfl (by omega) (by omega) (by decide)) ?_)
              refine list_cons rfl (op_store (one_3).2 8 [8, 53, 56] (by intro t ht; simp only [List.mem_cons, List.not_mem_nil, or_false] at ht; rcases ht with rfl | rfl | rfl <;> rfl) (.inl rfl) rfl rfl rfl rfl rfl rfl (by first | omega | (simp only [fW_len, List.length_map]; omega)) (by decide) rfl ?_)
              refine list_nil ?_
              refine blk_n ?_
              refine hK20 _ ?_; clear hK20 K20
              refine codeT.imp (σ' := [(0, _), (1, _), (2, _), (6, _), (7, _), (8, _), (9, _), (10, _), (11, _), (12, _), (13, _), (14, _)]) ?_ (imp_covers ⟨rfl, rfl, rfl, rfl, rfl, rfl, rfl, rfl, rfl, rfl, rfl, rfl, trivial⟩)
              refine code_region ?_
              refine list_cons rfl (op_q (q_move rfl (by decide)) ?_)
              refine list_cons rfl (op_q (by first | exact q_addI rfl rfl (by decide) (by omega) (by omega) | exact q_ib rfl rfl rfl (by decide)) ?_)
              refine list_cons rfl (op_q (q_assign rfl (by decide)) ?_)
              refine list_nil ?_
              refine then_n ⟨(_, _, _, _, _, _, _, _, _, _), imp_covers ⟨rfl, rfl, rfl, rfl, rfl, rfl, rfl, rfl, rfl, rfl, rfl, rfl, trivial⟩, ?_, ?_⟩
              · (try dsimp only)
                refine ⟨by omega, by omega, rfl, ?_, rfl, rfl, rfl, rfl⟩
                rw [show x_.toNat * 7 + (bar + 1).toNat = x_.toNat * 7 + bar.toNat + 1 by omega]
                exact fW_put (by omega) (by omega) (by rw [wbt_at n k _ (by omega), ← bt1_eq]; rfl)
              · (try dsimp only); omega
            (try simp only [Decidable.not_not] at h4)
            refine code_exit ?_
            refine then_x ?_; clear hK18 K18
            refine then_x ?_
            refine blk_hit ?_
            refine blk_n ?_
            refine hK16 _ ?_; clear hK16 K16
            refine code_region ?_
            refine list_cons rfl (op_q (q_move rfl (by decide)) ?_)
            refine list_cons rfl (op_q (by first | exact q_addI rfl rfl (by decide) (by omega) (by omega) | exact q_ib rfl rfl rfl (by decide)) ?_)
            refine list_cons rfl (op_q (q_assign rfl (by decide)) ?_)
            refine list_nil ?_
            refine then_n ⟨(_, _, _, _, _, _, _, _, _, _), imp_covers ⟨rfl, rfl, rfl, rfl, rfl, rfl, rfl, rfl, rfl, rfl, rfl, trivial⟩, ?_, ?_⟩
            · (try dsimp only)
              exact ⟨by omega, by omega, rfl, by rw [show (x_ + 1).toNat * 7 = x_.toNat * 7 + bar.toNat by omega], rfl, rfl, rfl, rfl⟩
            · (try dsimp only); omega
        (try simp only [Decidable.not_not] at h3)
        refine code_exit ?_
        refine then_x ?_; clear hK14 K14
        refine then_x ?_
        refine blk_hit ?_
        refine blk_n ?_
        refine hK10 _ ?_; clear hK10 K10
        refine code_region ?_
        refine list_cons rfl (op_q (q_move rfl (by decide)) ?_)
        refine list_cons rfl (op_q (by first | exact q_addI rfl rfl (by decide) (by omega) (by omega) | exact q_ib rfl rfl rfl (by decide)) ?_)
        refine list_cons rfl (op_q (q_assign rfl (by decide)) ?_)
        refine list_nil ?_
        refine then_n ⟨(_, _, _, _, _), imp_covers ⟨rfl, rfl, rfl, rfl, rfl, rfl, rfl, trivial⟩, ?_, ?_⟩
        · (try dsimp only)
          exact ⟨by omega, by omega, hc, i3, rfl, by rw [show (i + 1).toNat = i.toNat + 1 by omega, ← fW_next, show k.toNat * 7 = x_.toNat * 7 by omega]⟩
        · (try dsimp only); omega
    (try simp only [Decidable.not_not] at h2)
    refine code_exit ?_
    refine then_x ?_; clear hK8 K8
    refine then_x ?_
    refine blk_hit ?_
    refine hK6 _ ?_; clear hK6 K6
    refine code_seq (fun K21 hK21 => ?_)
    refine code_region ?_
    refine list_cons rfl (op_q (q_move rfl (by decide)) ?_)
    refine list_cons rfl (op_q (q_assign rfl (by decide)) ?_)
    refine list_cons rfl (op_q (q_assign rfl (by decide)) ?_)
    refine list_nil ?_
    refine hK21 _ ?_; clear hK21 K21
    refine code_ret ?_
    refine ends_ret (cs := []) rfl rfl rfl rfl trivial ?_
    first
      | (have e : ¬ (Cn n k ∧ 0 ≤ s ∧ s ≤ 1000) := by unfold Cn; omega
         simp only [if_neg e, decide_eq_false e]; rfl)
      | (have e : Cn n k ∧ 0 ≤ s ∧ s ≤ 1000 := ⟨hc, by omega, by omega⟩
         simp only [if_pos e, decide_eq_true e]
         rw [show i.toNat = s.toNat by omega])

set_option maxRecDepth 4000 in
theorem impl_greatestShown (k : Int) : PCalls Tryd.prog 100 [.int .i64 k] (· = [.val (.int .i64 (if 1 ≤ k ∧ k ≤ 6 then top4 k - 1 else 0)), .val (.bool (decide (1 ≤ k ∧ k ≤ 6)))]) := by
  refine pcalls_of_code (n := 19) az Tryd.func100 (by kernel_rfl) rfl rfl (Nat.le_of_ble_eq_true rfl) (by intro t u h; simp [Tryd.f100] at h) ?_
  refine code_seq (fun K1 hK1 => ?_)
  refine code_region ?_
  refine list_cons rfl (op_q (q_assign rfl (by decide)) ?_)
  refine list_cons rfl (op_q (q_assign rfl (by decide)) ?_)
  refine list_nil ?_
  refine hK1 _ ?_; clear hK1 K1
  refine code_seq (fun K2 hK2 => ?_)
  refine code_seq (fun K3 hK3 => ?_)
  refine code_region ?_
  refine list_cons rfl (op_q (q_move rfl (by decide)) ?_)
  refine list_cons rfl (op_q (q_lt rfl rfl (by decide)) ?_)
  refine list_cons rfl (op_q (q_move rfl (by decide)) ?_)
  refine list_guard_d rfl rfl rfl rfl (by decide) rfl (by decide) (fun h1 => ?_) (fun h1 => ?_)
  · simp only [Bool.false_eq_true, if_true, if_false, Decidable.not_not] at h1
    refine id (op_q (q_move rfl (by decide)) ?_)
    refine list_guard_y rfl rfl rfl rfl (by decide) rfl ?_
    refine id (op_q (q_gt rfl rfl (by decide)) ?_)
    refine list_cons rfl (op_q (q_pick rfl rfl (by decide)) ?_)
    refine list_nil ?_
    refine hK3 _ ?_; clear hK3 K3
    refine code_cond_d rfl (fun h2 => ?_) (fun h2 => ?_)
    · skip
      (try simp only [Decidable.not_not] at h2)
      refine code_seq (fun K4 hK4 => ?_)
      refine code_region ?_
      refine list_cons rfl (op_q (q_assign rfl (by decide)) ?_)
      refine list_cons rfl (op_q (q_assign rfl (by decide)) ?_)
      refine list_nil ?_
      refine hK4 _ ?_; clear hK4 K4
      refine code_ret ?_
      refine then_r ?_; clear hK2 K2
      refine ends_ret (cs := []) rfl rfl rfl rfl trivial ?_
      first | (have e : ¬ (1 ≤ k ∧ k ≤ 6) := (by omega); simp only [if_neg e, decide_eq_false e]) | (have e : 1 ≤ t11 ∧ t11 ≤ 6 := (by omega); simp only [if_pos e, decide_eq_true e]; rw [show t12 = t11 by omega])
    (try simp only [Decidable.not_not] at h2)
    refine code_skip ?_
    refine hK2 _ ?_; clear hK2 K2
    refine code_seq (fun K5 hK5 => ?_)
    refine code_region ?_
    refine list_cons rfl (op_q (q_assign rfl (by decide)) ?_)
    refine list_nil ?_
    refine hK5 _ ?_; clear hK5 K5
    refine code_seq (fun K6 hK6 => ?_)
    refine code_seq (fun K7 hK7 => ?_)
    refine code_region ?_
    refine list_cons rfl (op_q (q_move rfl (by decide)) ?_)
    refine list_cons rfl (op_q (q_move rfl (by decide)) ?_)
    refine list_nil ?_
    refine hK7 _ ?_; clear hK7 K7
    refine code_block ?_
    refine code_loop (X := Int × Bool × Int × Int × Int) (fun x => [(0, .val (.int .i64 k)), (2, .val (.int .i64 x.1)), (3, .val (.bool x.2.1)), (4, .val (.int .i64 x.2.2.1)), (11, .val (.int .i64 x.2.2.2.1)), (12, .val (.int .i64 x.2.2.2.2))]) (fun x => 0 ≤ x.2.2.2.2 ∧ x.2.2.2.2 ≤ k ∧ x.2.2.1 = top4 x.2.2.2.2 - 1 ∧ x.2.2.2.1 = k) (fun x => (k - x.2.2.2.2).toNat) (_, _, _, _, _) (imp_covers ⟨rfl, rfl, rfl, rfl, rfl, rfl, trivial⟩) ?_ ?_
    · (try dsimp only)
      exact ⟨by omega, by omega, rfl, rfl⟩
    · intro x hI
      obtain ⟨t2, t3, greatest, t11, t12⟩ := x
      replace hI : 0 ≤ t12 ∧ t12 ≤ k ∧ greatest = top4 t12 - 1 ∧ t11 = k := hI
      show codeT _ _ _ [(0, .val (.int .i64 k)), (2, .val (.int .i64 t2)), (3, .val (.bool t3)), (4, .val (.int .i64 greatest)), (11, .val (.int .i64 t11)), (12, .val (.int .i64 t12))] _
      obtain ⟨i1, i2, rfl, rfl⟩ := hI
      have ht := top4_le i1 (by omega)
      refine code_seq (fun K8 hK8 => ?_)
      refine code_region ?_
      refine list_cons rfl (op_q (q_lt rfl rfl (by decide)) ?_)
      refine list_nil ?_
      refine hK8 _ ?_; clear hK8 K8
      refine code_seq (fun K9 hK9 => ?_)
      refine code_cond_d rfl (fun h3 => ?_) (fun h3 => ?_)
      · skip
        (try simp only [Decidable.not_not] at h3)
        refine code_skip ?_
        refine hK9 _ ?_; clear hK9 K9
        refine code_seq (fun K10 hK10 => ?_)
        refine code_block ?_
        refine code_region ?_
        refine list_cons rfl (op_q (q_move rfl (by decide)) ?_)
        refine list_cons rfl (op_q (by first | exact q_mulI rfl rfl (by decide) (by omega) (by omega) | exact q_ib rfl rfl rfl (by decide)) ?_)
        refine list_cons rfl (op_q (by first | exact q_addI rfl rfl (by decide) (by omega) (by omega) | exact q_ib rfl rfl rfl (by decide)) ?_)
        refine list_cons rfl (op_q (q_assign rfl (by decide)) ?_)
        refine list_nil ?_
        refine blk_n ?_
        refine hK10 _ ?_; clear hK10 K10
        refine code_region ?_
        refine list_cons rfl (op_q (by first | exact q_addI rfl rfl (by decide) (by omega) (by omega) | exact q_ib rfl rfl rfl (by decide)) ?_)
        refine list_cons rfl (op_q (q_move rfl (by decide)) ?_)
        refine list_nil ?_
        refine then_n ⟨(_, _, _, _, _), imp_covers ⟨rfl, rfl, rfl, rfl, rfl, rfl, trivial⟩, ?_, ?_⟩
        · (try dsimp only)
          refine ⟨by omega, by omega, ?_, rfl⟩
          unfold top4
          rw [show (t12 + 1).toNat = t12.toNat + 1 by omega, Nat.pow_succ]; omega
        · (try dsimp only); omega
      (try simp only [Decidable.not_not] at h3)
      refine code_exit ?_
      refine then_x ?_; clear hK9 K9
      refine then_x ?_
      refine blk_hit ?_
      refine hK6 _ ?_; clear hK6 K6
      refine code_seq (fun K11 hK11 => ?_)
      refine code_region ?_
      refine list_cons rfl (op_q (q_move rfl (by decide)) ?_)
      refine list_cons rfl (op_q (q_assign rfl (by decide)) ?_)
      refine list_cons rfl (op_q (q_assign rfl (by decide)) ?_)
      refine list_nil ?_
      refine hK11 _ ?_; clear hK11 K11
      refine code_ret ?_
      refine ends_ret (cs := []) rfl rfl rfl rfl trivial ?_
      first | (have e : ¬ (1 ≤ k ∧ k ≤ 6) := (by omega); simp only [if_neg e, decide_eq_false e]) | (have e : 1 ≤ t11 ∧ t11 ≤ 6 := (by omega); simp only [if_pos e, decide_eq_true e]; rw [show t12 = t11 by omega])
  simp only [Bool.false_eq_true, if_true, if_false, Decidable.not_not] at h1
  refine list_guard_n rfl rfl rfl rfl (by decide) rfl ?_
  refine list_cons rfl (op_q (q_pick rfl rfl (by decide)) ?_)
  refine list_nil ?_
  refine hK3 _ ?_; clear hK3 K3
  refine code_cond_t rfl ?_
  refine code_seq (fun K12 hK12 => ?_)
  refine code_region ?_
  refine list_cons rfl (op_q (q_assign rfl (by decide)) ?_)
  refine list_cons rfl (op_q (q_assign rfl (by decide)) ?_)
  refine list_nil ?_
  refine hK12 _ ?_; clear hK12 K12
  refine code_ret ?_
  refine then_r ?_; clear hK2 K2
  refine ends_ret (cs := []) rfl rfl rfl rfl trivial ?_
  first | (have e : ¬ (1 ≤ k ∧ k ≤ 6) := (by omega); simp only [if_neg e, decide_eq_false e]) | (have e : 1 ≤ t11 ∧ t11 ≤ 6 := (by omega); simp only [if_pos e, decide_eq_true e]; rw [show t12 = t11 by omega])

set_option maxRecDepth 4000 in
theorem impl_isShown (n k : Int) : PCalls Tryd.prog 97 [.int .i64 n, .int .i64 k] (· = [.val (.bool (decide (Cn n k)))]) := by
  refine pcalls_of_code (n := 22) az Tryd.func97 (by kernel_rfl) rfl rfl (Nat.le_of_ble_eq_true rfl) (by intro t u h; simp [Tryd.f97] at h) ?_
  refine code_seq (fun K1 hK1 => ?_)
  refine code_region ?_
  refine list_cons rfl (op_q (q_assign rfl (by decide)) ?_)
  refine list_nil ?_
  refine hK1 _ ?_; clear hK1 K1
  refine code_seq (fun K2 hK2 => ?_)
  refine code_region ?_
  refine list_cons rfl (op_q (q_move rfl (by decide)) ?_)
  refine list_cons rfl (op_call _ (impl_greatestShown k) rfl rfl (by decide) (by decide) (by decide) rfl ?_)
  rintro _ rfl
  refine list_cons rfl (op_q (q_move rfl (by decide)) ?_)
  refine list_cons rfl (op_q (q_extract rfl rfl (by decide)) ?_)
  refine list_cons rfl (op_q (q_extract rfl rfl (by decide)) ?_)
  refine list_cons rfl (op_q (q_assign rfl (by decide)) ?_)
  refine list_cons rfl (op_q (q_assign rfl (by decide)) ?_)
  refine list_nil ?_
  refine hK2 _ ?_; clear hK2 K2
  refine codeT.imp (σ' := [(0, _), (1, _), (4, _), (5, _), (6, _)]) ?_ (imp_covers ⟨rfl, rfl, rfl, rfl, rfl, trivial⟩)
  refine code_seq (fun K3 hK3 => ?_)
  refine code_region ?_
  refine list_cons rfl (op_q (q_move rfl (by decide)) ?_)
  refine list_cons rfl (op_q (q_move rfl (by decide)) ?_)
  refine list_guard_d rfl rfl rfl rfl (by decide) rfl (by decide) (fun h1 => ?_) (fun h1 => ?_)
  · simp only [Bool.false_eq_true, if_true, if_false, Decidable.not_not] at h1
    refine id (op_q (q_move rfl (by decide)) ?_)
    refine list_guard_y rfl rfl rfl rfl (by decide) rfl ?_
    refine id (op_q (q_ge rfl rfl (by decide)) ?_)
    refine list_cons rfl (op_q (q_pick rfl rfl (by decide)) ?_)
    refine list_cons rfl (op_q (q_move rfl (by decide)) ?_)
    refine list_guard_d rfl rfl rfl rfl (by decide) rfl (by decide) (fun h2 => ?_) (fun h2 => ?_)
    · simp only [Bool.false_eq_true, if_true, if_false, Decidable.not_not] at h2
      refine id (op_q (q_move rfl (by decide)) ?_)
      refine list_guard_y rfl rfl rfl rfl (by decide) rfl ?_
      refine id (op_q (q_move rfl (by decide)) ?_)
      refine list_guard_y rfl rfl rfl rfl (by decide) rfl ?_
      refine id (op_q (q_le rfl rfl (by decide)) ?_)
      refine list_cons rfl (op_q (q_pick rfl rfl (by decide)) ?_)
      refine list_cons rfl (op_q (q_assign rfl (by decide)) ?_)
      refine list_nil ?_
      refine hK3 _ ?_; clear hK3 K3
      refine codeT.imp (σ' := [(0, _), (1, _), (4, _), (5, _), (6, _)]) ?_ (imp_covers ⟨rfl, rfl, rfl, rfl, rfl, trivial⟩)
      refine code_ret ?_
      refine ends_ret (cs := []) rfl rfl rfl rfl trivial ?_
      first | (have e : ¬ Cn n k := (by unfold Cn; omega); simp only [decide_eq_false e]) | (have h0 := h2; have e : 1 ≤ k ∧ k ≤ 6 := (by omega); simp only [if_pos e, List.cons.injEq, SV.val.injEq, PV.bool.injEq, and_true, decide_eq_decide]; unfold Cn; omega)
    simp only [Bool.false_eq_true, if_true, if_false, Decidable.not_not] at h2
    refine list_guard_n rfl rfl rfl rfl (by decide) rfl ?_
    refine list_guard_n rfl rfl rfl rfl (by decide) rfl ?_
    refine list_cons rfl (op_q (q_pick rfl rfl (by decide)) ?_)
    refine list_cons rfl (op_q (q_assign rfl (by decide)) ?_)
    refine list_nil ?_
    refine hK3 _ ?_; clear hK3 K3
    refine codeT.imp (σ' := [(0, _), (1, _), (4, _), (5, _), (6, _)]) ?_ (imp_covers ⟨rfl, rfl, rfl, rfl, rfl, trivial⟩)
    refine code_ret ?_
    refine ends_ret (cs := []) rfl rfl rfl rfl trivial ?_
    first | (have e : ¬ Cn n k := (by unfold Cn; omega); simp only [decide_eq_false e]) | (have h0 := h2; have e : 1 ≤ k ∧ k ≤ 6 := (by omega); simp only [if_pos e, List.cons.injEq, SV.val.injEq, PV.bool.injEq, and_true, decide_eq_decide]; unfold Cn; omega)
  simp only [Bool.false_eq_true, if_true, if_false, Decidable.not_not] at h1
  refine list_guard_n rfl rfl rfl rfl (by decide) rfl ?_
  refine list_cons rfl (op_q (q_pick rfl rfl (by decide)) ?_)
  refine list_cons rfl (op_q (q_move rfl (by decide)) ?_)
  refine list_guard_n rfl rfl rfl rfl (by decide) rfl ?_
  refine list_guard_n rfl rfl rfl rfl (by decide) rfl ?_
  refine list_guard_n rfl rfl rfl rfl (by decide) rfl ?_
  refine list_cons rfl (op_q (q_pick rfl rfl (by decide)) ?_)
  refine list_cons rfl (op_q (q_assign rfl (by decide)) ?_)
  refine list_nil ?_
  refine hK3 _ ?_; clear hK3 K3
  refine code_ret ?_
  refine ends_ret (cs := []) rfl rfl rfl rfl trivial ?_
  first | (have e : ¬ Cn n k := (by unfold Cn; omega); simp only [decide_eq_false e]) | (have h0 := h1; have e : 1 ≤ k ∧ k ≤ 6 := (by omega); simp only [if_pos e, List.cons.injEq, SV.val.injEq, PV.bool.injEq, and_true, decide_eq_decide]; unfold Cn; omega)

set_option maxRecDepth 4000 in
theorem impl_isRun (n s k : Int) : PCalls Tryd.prog 85 [.int .i64 n, .int .i64 s, .int .i64 k] (· = [.val (.bool (decide (Cn n k ∧ 0 ≤ s ∧ s ≤ 1000)))]) := by
  refine pcalls_of_code (n := 18) az Tryd.func85 (by kernel_rfl) rfl rfl (Nat.le_of_ble_eq_true rfl) (by intro t u h; simp [Tryd.f85] at h) ?_
  refine code_seq (fun K1 hK1 => ?_)
  refine code_region ?_
  refine list_cons rfl (op_q (q_assign rfl (by decide)) ?_)
  refine list_nil ?_
  refine hK1 _ ?_; clear hK1 K1
  refine code_seq (fun K2 hK2 => ?_)
  refine code_region ?_
  refine list_cons rfl (op_q (q_move rfl (by decide)) ?_)
  refine list_cons rfl (op_q (q_move rfl (by decide)) ?_)
  refine list_cons rfl (op_call _ (impl_isShown _ _) rfl rfl (by decide) (by decide) (by decide) rfl ?_)
  rintro _ rfl
  refine list_cons rfl (op_q (q_move rfl (by decide)) ?_)
  refine list_guard_d rfl rfl rfl rfl (by decide) rfl (by decide) (fun h1 => ?_) (fun h1 => ?_)
  · simp only [Bool.false_eq_true, if_true, if_false, Decidable.not_not] at h1
    refine id (op_q (q_move rfl (by decide)) ?_)
    refine list_guard_y rfl rfl rfl rfl (by decide) rfl ?_
    refine id (op_q (q_ge rfl rfl (by decide)) ?_)
    refine list_cons rfl (op_q (q_pick rfl rfl (by decide)) ?_)
    refine list_cons rfl (op_q (q_move rfl (by decide)) ?_)
    refine list_guard_d rfl rfl rfl rfl (by decide) rfl (by decide) (fun h2 => ?_) (fun h2 => ?_)
    · simp only [Bool.false_eq_true, if_true, if_false, Decidable.not_not] at h2
      refine id (op_q (q_move rfl (by decide)) ?_)
      refine list_guard_y rfl rfl rfl rfl (by decide) rfl ?_
      refine id (op_q (q_le rfl rfl (by decide)) ?_)
      refine list_cons rfl (op_q (q_pick rfl rfl (by decide)) ?_)
      refine list_cons rfl (op_q (q_assign rfl (by decide)) ?_)
      refine list_nil ?_
      refine hK2 _ ?_; clear hK2 K2
      refine codeT.imp (σ' := [(0, _), (1, _), (2, _), (6, _)]) ?_ (imp_covers ⟨rfl, rfl, rfl, rfl, trivial⟩)
      refine code_ret ?_
      refine ends_ret (cs := []) rfl rfl rfl rfl trivial ?_
      first | (have e : ¬ (Cn n k ∧ 0 ≤ s ∧ s ≤ 1000) := (by rintro ⟨a, b, c⟩; first | exact absurd a (by assumption) | omega); simp only [decide_eq_false e]) | (simp only [List.cons.injEq, SV.val.injEq, PV.bool.injEq, and_true, decide_eq_decide]; exact ⟨fun g => ⟨by assumption, by omega, g⟩, fun g => g.2.2⟩)
    simp only [Bool.false_eq_true, if_true, if_false, Decidable.not_not] at h2
    refine list_guard_n rfl rfl rfl rfl (by decide) rfl ?_
    refine list_cons rfl (op_q (q_pick rfl rfl (by decide)) ?_)
    refine list_cons rfl (op_q (q_assign rfl (by decide)) ?_)
    refine list_nil ?_
    refine hK2 _ ?_; clear hK2 K2
    refine codeT.imp (σ' := [(0, _), (1, _), (2, _), (6, _)]) ?_ (imp_covers ⟨rfl, rfl, rfl, rfl, trivial⟩)
    refine code_ret ?_
    refine ends_ret (cs := []) rfl rfl rfl rfl trivial ?_
    first | (have e : ¬ (Cn n k ∧ 0 ≤ s ∧ s ≤ 1000) := (by rintro ⟨a, b, c⟩; first | exact absurd a (by assumption) | omega); simp only [decide_eq_false e]) | (simp only [List.cons.injEq, SV.val.injEq, PV.bool.injEq, and_true, decide_eq_decide]; exact ⟨fun g => ⟨by assumption, by omega, g⟩, fun g => g.2.2⟩)
  simp only [Bool.false_eq_true, if_true, if_false, Decidable.not_not] at h1
  refine list_guard_n rfl rfl rfl rfl (by decide) rfl ?_
  refine list_cons rfl (op_q (q_pick rfl rfl (by decide)) ?_)
  refine list_cons rfl (op_q (q_move rfl (by decide)) ?_)
  refine list_guard_n rfl rfl rfl rfl (by decide) rfl ?_
  refine list_guard_n rfl rfl rfl rfl (by decide) rfl ?_
  refine list_cons rfl (op_q (q_pick rfl rfl (by decide)) ?_)
  refine list_cons rfl (op_q (q_assign rfl (by decide)) ?_)
  refine list_nil ?_
  refine hK2 _ ?_; clear hK2 K2
  refine codeT.imp (σ' := [(0, _), (1, _), (2, _), (6, _)]) ?_ (imp_covers ⟨rfl, rfl, rfl, rfl, trivial⟩)
  refine code_ret ?_
  refine ends_ret (cs := []) rfl rfl rfl rfl trivial ?_
  first | (have e : ¬ (Cn n k ∧ 0 ≤ s ∧ s ≤ 1000) := (by rintro ⟨a, b, c⟩; first | exact absurd a (by assumption) | omega); simp only [decide_eq_false e]) | (simp only [List.cons.injEq, SV.val.injEq, PV.bool.injEq, and_true, decide_eq_decide]; exact ⟨fun g => ⟨by assumption, by omega, g⟩, fun g => g.2.2⟩)

set_option maxRecDepth 4000 in
theorem impl_afterStep (n k : Int) (h : Cn n k) : PCalls Tryd.prog 145 [.int .i64 n, .int .i64 k] (· = [.val (.int .i64 (nextC n k))]) := by
  refine pcalls_of_code (n := 12) az Tryd.func145 (by kernel_rfl) rfl rfl (Nat.le_of_ble_eq_true rfl) (by intro t u h; simp [Tryd.f145] at h) ?_
  have g := h
  obtain ⟨⟨g1, g2⟩, g3, g4⟩ := g
  have ht := top4_le (k := k) (by omega) (by omega)
  refine code_seq (fun K1 hK1 => ?_)
  refine code_region ?_
  refine list_cons rfl (op_q (q_assign rfl (by decide)) ?_)
  refine list_nil ?_
  refine hK1 _ ?_; clear hK1 K1
  refine code_seq (fun K2 hK2 => ?_)
  refine code_seq (fun K3 hK3 => ?_)
  refine code_region ?_
  refine list_cons rfl (op_q (q_move rfl (by decide)) ?_)
  refine list_cons rfl (op_q (by first | exact q_addI rfl rfl (by decide) (by omega) (by omega) | exact q_ib rfl rfl rfl (by decide)) ?_)
  refine list_cons rfl (op_q (q_move rfl (by decide)) ?_)
  refine list_cons rfl (op_call _ (impl_isShown _ _) rfl rfl (by decide) (by decide) (by decide) rfl ?_)
  rintro _ rfl
  refine list_cons rfl (op_q (by first | exact q_notd rfl (by decide) | exact q_not rfl (by decide)) ?_)
  refine list_nil ?_
  refine hK3 _ ?_; clear hK3 K3
  refine codeT.imp (σ' := [(0, _), (1, _), (4, _), (9, _)]) ?_ (imp_covers ⟨rfl, rfl, rfl, rfl, trivial⟩)
  refine code_cond_d rfl (fun h1 => ?_) (fun h1 => ?_)
  · skip
    (try simp only [Decidable.not_not] at h1)
    refine code_seq (fun K4 hK4 => ?_)
    refine code_region ?_
    refine list_cons rfl (op_q (q_assign rfl (by decide)) ?_)
    refine list_nil ?_
    refine hK4 _ ?_; clear hK4 K4
    refine code_ret ?_
    refine then_r ?_; clear hK2 K2
    refine ends_ret (cs := []) rfl rfl rfl rfl trivial ?_
    have e : ¬ n + 1 < top4 k := by (intro e; exact h1 (by unfold Cn; omega))
    rw [nextC_top h e]
  (try simp only [Decidable.not_not] at h1)
  refine code_skip ?_
  refine hK2 _ ?_; clear hK2 K2
  refine code_seq (fun K5 hK5 => ?_)
  refine code_region ?_
  refine list_cons rfl (op_q (q_move rfl (by decide)) ?_)
  refine list_cons rfl (op_q (by first | exact q_addI rfl rfl (by decide) (by omega) (by omega) | exact q_ib rfl rfl rfl (by decide)) ?_)
  refine list_cons rfl (op_q (q_assign rfl (by decide)) ?_)
  refine list_nil ?_
  refine hK5 _ ?_; clear hK5 K5
  refine code_ret ?_
  refine ends_ret (cs := []) rfl rfl rfl rfl trivial ?_
  rw [nextC_in h (by have := h1.2.2; omega)]

set_option maxRecDepth 4000 in
theorem impl_CounterRow (n k : Int) : PCalls Tryd.prog 27 [.int .i64 n, .int .i64 k] (· = [.own 0 3 1 (if Cn n k then rowC n k else []).length ((if Cn n k then rowC n k else []).map (.int .i64)), .val (.bool (decide (Cn n k)))]) := by
  refine pcalls_of_code (n := 41) az Tryd.func27 (by kernel_rfl) rfl rfl (Nat.le_of_ble_eq_true rfl) (by intro t u h; simp [Tryd.f27] at h) ?_
  refine code_seq (fun K1 hK1 => ?_)
  refine code_region ?_
  refine list_cons rfl (op_q (q_assign rfl (by decide)) ?_)
  refine list_cons rfl (op_q (q_assign rfl (by decide)) ?_)
  refine list_nil ?_
  refine hK1 _ ?_; clear hK1 K1
  refine code_seq (fun K2 hK2 => ?_)
  refine code_seq (fun K3 hK3 => ?_)
  refine code_region ?_
  refine list_cons rfl (op_q (q_move rfl (by decide)) ?_)
  refine list_cons rfl (op_q (q_move rfl (by decide)) ?_)
  refine list_cons rfl (op_call _ (impl_isShown _ _) rfl rfl (by decide) (by decide) (by decide) rfl ?_)
  rintro _ rfl
  refine list_cons rfl (op_q (by first | exact q_notd rfl (by decide) | exact q_not rfl (by decide)) ?_)
  refine list_nil ?_
  refine hK3 _ ?_; clear hK3 K3
  refine codeT.imp (σ' := [(0, _), (1, _), (4, _), (5, _), (14, _)]) ?_ (imp_covers ⟨rfl, rfl, rfl, rfl, rfl, trivial⟩)
  refine code_cond_d rfl (fun h1 => ?_) (fun h1 => ?_)
  · skip
    (try simp only [Decidable.not_not] at h1)
    (try have hk := Cn_bd h1)
    refine code_seq (fun K4 hK4 => ?_)
    refine code_region ?_
    refine list_cons rfl (op_buildSlice sl_35 (parts := []) rfl rfl rfl (by decide) (by decide) (by decide) rfl ?_)
    refine list_cons rfl (op_q (q_assign rfl (by decide)) ?_)
    refine list_cons rfl (op_q (q_assign rfl (by decide)) ?_)
    refine list_nil ?_
    refine hK4 _ ?_; clear hK4 K4
    refine code_ret ?_
    refine then_r ?_; clear hK2 K2
    refine ends_ret (cs := []) rfl rfl rfl rfl trivial ?_
    first
      | (have e : ¬ (Cn n k) := by (first | assumption | (unfold Cn at *; omega))
         simp only [if_neg e, decide_eq_false e]; try rfl)
      | (have e : Cn n k := by (first | assumption | (unfold Cn at *; omega))
         simp only [if_pos e, decide_eq_true e]; try rfl)
  (try simp only [Decidable.not_not] at h1)
  (try have hk := Cn_bd h1)
  refine code_skip ?_
  refine hK2 _ ?_; clear hK2 K2
  refine code_seq (fun K5 hK5 => ?_)
  refine code_region ?_
  refine list_cons rfl (op_q (q_move rfl (by decide)) ?_)
  refine list_cons rfl (op_makeI sl_35 rfl rfl (by omega) (by omega) (by decide) (by decide) rfl ?_)
  refine list_cons rfl (op_q (q_assign rfl (by decide)) ?_)
  refine list_nil ?_
  refine hK5 _ ?_; clear hK5 K5
  refine code_seq (fun K6 hK6 => ?_)
  refine code_region ?_
  refine list_cons rfl (op_q (q_move rfl (by decide)) ?_)
  refine list_cons rfl (op_q (q_assign rfl (by decide)) ?_)
  refine list_nil ?_
  refine hK6 _ ?_; clear hK6 K6
  refine code_seq (fun K7 hK7 => ?_)
  refine code_seq (fun K8 hK8 => ?_)
  refine code_region ?_
  refine list_cons rfl (op_q (q_move rfl (by decide)) ?_)
  refine list_cons rfl (op_q (by first | exact q_subI rfl rfl (by decide) (by omega) (by omega) | exact q_ib rfl rfl rfl (by decide)) ?_)
  refine list_cons rfl (op_q (q_assign rfl (by decide)) ?_)
  refine list_nil ?_
  refine hK8 _ ?_; clear hK8 K8
  refine code_block ?_
  refine code_loop (X := PV × Bool × Nat × List PV × Int × Int) (fun x => [(0, .val (.int .i64 n)), (1, .val (.int .i64 k)), (4, .val x.1), (5, .val (.bool x.2.1)), (6, .own 17 3 1 x.2.2.1 x.2.2.2.1), (7, .val (.int .i64 x.2.2.2.2.1)), (8, .val (.int .i64 x.2.2.2.2.2))]) (fun x => -1 ≤ x.2.2.2.2.2 ∧ x.2.2.2.2.2 ≤ k - 1 ∧ Cn n k ∧ 0 ≤ x.2.2.2.2.1 ∧ x.2.2.2.2.1 ≤ 999999 ∧ x.2.2.1 = k.toNat ∧ ∃ l : List Int, x.2.2.2.1 = (List.replicate (x.2.2.2.2.2 + 1).toNat 0 ++ l).map (.int .i64) ∧ l.length = k.toNat - (x.2.2.2.2.2 + 1).toNat ∧ rowK (x.2.2.2.2.2 + 1).toNat x.2.2.2.2.1.toNat ++ l = rowC n k) (fun x => (x.2.2.2.2.2 + 1).toNat) (_, _, _, _, _, _) (imp_covers ⟨rfl, rfl, rfl, rfl, rfl, rfl, rfl, trivial⟩) ?_ ?_
  · (try dsimp only)
    have hc := h1
    have ht := top4_le (k := k) (by unfold Cn at hc; omega) (by unfold Cn at hc; omega)
    refine ⟨by have := hc.1; omega, by omega, hc, hc.2.1, by have := hc.2.2; omega, rfl, [], ?_, (by simp), ?_⟩
    · rw [show (k - 1 + 1).toNat = k.toNat by omega]; exact (zeros_map1 (PV.int .i64) 0 _).trans (by simp)
    · rw [show (k - 1 + 1).toNat = k.toNat by omega]
      try simp [rowC]
  · intro x hI
    obtain ⟨t4_p, t5, row_n, row_c, left, place⟩ := x
    replace hI : -1 ≤ place ∧ place ≤ k - 1 ∧ Cn n k ∧ 0 ≤ left ∧ left ≤ 999999 ∧ row_n = k.toNat ∧ ∃ l : List Int, row_c = (List.replicate (place + 1).toNat 0 ++ l).map (.int .i64) ∧ l.length = k.toNat - (place + 1).toNat ∧ rowK (place + 1).toNat left.toNat ++ l = rowC n k := hI
    show codeT _ _ _ [(0, .val (.int .i64 n)), (1, .val (.int .i64 k)), (4, .val t4_p), (5, .val (.bool t5)), (6, .own 17 3 1 row_n row_c), (7, .val (.int .i64 left)), (8, .val (.int .i64 place))] _
    obtain ⟨i1, i2, hc, i3, i4, rfl, l, rfl, i5, i6⟩ := hI
    have hk := hc.1
    have hp : ∀ c : Int, 0 ≤ place → putAt ((List.replicate (place + 1).toNat 0 ++ l).map (PV.int .i64)) (place.toNat * 1) [PV.int .i64 c] = (List.replicate place.toNat 0 ++ (c :: l)).map (PV.int .i64) := fun c hpl => by
      rw [put_map1 (PV.int .i64) _ (by simp; omega), List.set_append_left _ _ (by simp; omega), show (place + 1).toNat = place.toNat + 1 by omega, List.replicate_succ', List.set_append_right _ _ (by simp)]
      simp
    refine code_seq (fun K9 hK9 => ?_)
    refine code_seq (fun K10 hK10 => ?_)
    refine code_region ?_
    refine list_cons rfl (op_q (q_move rfl (by decide)) ?_)
    refine list_cons rfl (op_q (q_ge rfl rfl (by decide)) ?_)
    refine list_nil ?_
    refine hK10 _ ?_; clear hK10 K10
    refine code_cond_d rfl (fun h2 => ?_) (fun h2 => ?_)
    · skip
      (try simp only [Decidable.not_not] at h2)
      (try have hk := Cn_bd h2)
      refine code_skip ?_
      refine hK9 _ ?_; clear hK9 K9
      refine code_seq (fun K11 hK11 => ?_)
      refine code_block ?_
      refine code_seq (fun K12 hK12 => ?_)
      refine code_region ?_
      refine list_cons rfl (op_q (q_move rfl (by decide)) ?_)
      refine list_cons rfl (op_q (by first | exact q_remI rfl rfl (by decide) (by omega) (by omega) | exact q_rem rfl rfl (by omega) (by decide)) ?_)
      refine list_cons rfl (op_call _ (impl_CellOf _) rfl rfl (by decide) (by decide) (by decide) rfl ?_)
      rintro _ rfl
      refine list_cons rfl (op_q (q_move rfl (by decide)) ?_)
      refine list_cons rfl (op_q (q_extract rfl rfl (by decide)) ?_)
      refine list_cons rfl (op_q (q_extract rfl rfl (by decide)) ?_)
      refine list_cons rfl (op_q (q_assign rfl (by decide)) ?_)
      refine list_cons rfl (op_q (q_assign rfl (by decide)) ?_)
      refine list_nil ?_
      refine hK12 _ ?_; clear hK12 K12
      refine codeT.imp (σ' := [(0, _), (1, _), (4, _), (5, _), (6, _), (7, _), (8, _), (9, _), (10, _)]) ?_ (imp_covers ⟨rfl, rfl, rfl, rfl, rfl, rfl, rfl, rfl, rfl, trivial⟩)
      refine code_seq (fun K13 hK13 => ?_)
      refine code_seq (fun K14 hK14 => ?_)
      refine code_region ?_
      refine list_cons rfl (op_q (q_move rfl (by decide)) ?_)
      refine list_cons rfl (op_q (by first | exact q_notd rfl (by decide) | exact q_not rfl (by decide)) ?_)
      refine list_nil ?_
      refine hK14 _ ?_; clear hK14 K14
      refine code_cond_d rfl (fun h3 => ?_) (fun h3 => ?_)
      · skip
        (try simp only [Decidable.not_not] at h3)
        (try have hk := Cn_bd h3)
        refine code_seq (fun K15 hK15 => ?_)
        refine code_region ?_
        refine list_cons rfl (op_buildSlice sl_35 (parts := []) rfl rfl rfl (by decide) (by decide) (by decide) rfl ?_)
        refine list_cons rfl (op_q (q_assign rfl (by decide)) ?_)
        refine list_cons rfl (op_q (q_assign rfl (by decide)) ?_)
        refine list_nil ?_
        refine hK15 _ ?_; clear hK15 K15
        refine code_ret ?_
        refine then_r ?_; clear hK13 K13
        refine blk_r ?_
        refine then_r ?_; clear hK11 K11
        refine then_r ?_
        refine blk_r ?_
        refine then_r ?_; clear hK7 K7
        refine ends_ret (cs := []) rfl rfl rfl rfl trivial ?_
        exfalso; omega
      (try simp only [Decidable.not_not] at h3)
      (try have hk := Cn_bd h3)
      refine code_skip ?_
      refine hK13 _ ?_; clear hK13 K13
      refine code_seq (fun K16 hK16 => ?_)
      refine code_region ?_
      refine list_cons rfl (op_q (q_move rfl (by decide)) ?_)
      refine list_cons rfl (op_q (q_move rfl (by decide)) ?_)
      refine list_cons rfl (op_q (q_move rfl (by decide)) ?_)
      refine list_cons rfl (op_q (q_indexAddr_own sl_35 rfl rfl (by omega) (by omega) (by decide)) ?_)
      refine list_cons rfl (op_store (one_3).2 6 [6, 34] (by intro t ht; simp only [List.mem_cons, List.not_mem_nil, or_false] at ht; rcases ht with rfl | rfl <;> rfl) (.inl rfl) rfl rfl rfl rfl rfl rfl (by first | decide | omega | exact Nat.le_refl _ | (simp; done) | (simp; omega)) (by decide) rfl ?_)
      refine list_nil ?_
      refine hK16 _ ?_; clear hK16 K16
      refine codeT.imp (σ' := [(0, _), (1, _), (4, _), (5, _), (6, _), (7, _), (8, _), (9, _), (10, _)]) ?_ (imp_covers ⟨rfl, rfl, rfl, rfl, rfl, rfl, rfl, rfl, rfl, trivial⟩)
      refine code_region ?_
      refine list_cons rfl (op_q (q_move rfl (by decide)) ?_)
      refine list_cons rfl (op_q (by first | exact q_quoI rfl rfl (by decide) (by omega) (by omega) (by omega) | exact q_quoT rfl rfl (by omega) (by decide) (by omega) (by omega) | exact q_quo rfl rfl (by omega) (by decide)) ?_)
      refine list_cons rfl (op_q (q_assign rfl (by decide)) ?_)
      refine list_nil ?_
      refine blk_n ?_
      refine hK11 _ ?_; clear hK11 K11
      refine code_region ?_
      refine list_cons rfl (op_q (q_move rfl (by decide)) ?_)
      refine list_cons rfl (op_q (by first | exact q_subI rfl rfl (by decide) (by omega) (by omega) | exact q_ib rfl rfl rfl (by decide)) ?_)
      refine list_cons rfl (op_q (q_assign rfl (by decide)) ?_)
      refine list_nil ?_
      refine then_n ⟨(_, _, _, _, _, _), imp_covers ⟨rfl, rfl, rfl, rfl, rfl, rfl, rfl, trivial⟩, ?_, ?_⟩
      · (try dsimp only)
        refine ⟨by omega, by omega, hc, by omega, by omega, rfl, digT.getD (left % 10).toNat 0 :: l, ?_, ?_, ?_⟩
        · rw [show (place - 1 + 1).toNat = place.toNat by omega, if_pos (by omega)]; exact hp _ (by omega)
        · simp only [List.length_cons]; omega
        · rw [← i6, show (place - 1 + 1).toNat = place.toNat by omega, show (place + 1).toNat = place.toNat + 1 by omega, rowK, show (left / 10).toNat = left.toNat / 10 by omega, show (left % 10).toNat = left.toNat % 10 by omega]
          simp
      · (try dsimp only); omega
    (try simp only [Decidable.not_not] at h2)
    (try have hk := Cn_bd h2)
    refine code_exit ?_
    refine then_x ?_; clear hK9 K9
    refine then_x ?_
    refine blk_hit ?_
    refine hK7 _ ?_; clear hK7 K7
    refine code_seq (fun K17 hK17 => ?_)
    refine code_region ?_
    refine list_cons rfl (op_q (q_move rfl (by decide)) ?_)
    refine list_cons rfl (op_q (q_assign rfl (by decide)) ?_)
    refine list_cons rfl (op_q (q_assign rfl (by decide)) ?_)
    refine list_nil ?_
    refine hK17 _ ?_; clear hK17 K17
    refine code_ret ?_
    refine ends_ret (cs := []) rfl rfl rfl rfl trivial ?_
    have e0 : (place + 1).toNat = 0 := by omega
    rw [e0] at i5 i6
    have e6 : l = rowC n k := by simpa [rowK] using i6
    simp only [if_pos hc, decide_eq_true hc, e0, List.replicate_zero, List.nil_append, e6]
    rw [show (rowC n k).length = k.toNat from by unfold rowC; exact rowK_len _ _]

set_option maxRecDepth 4000 in
theorem impl_stepRows (n k : Int) (h : Cn n k) : PCalls Tryd.prog 89 [.int .i64 n, .int .i64 k] (· = [.own 0 3 1 (rowC n k).length ((rowC n k).map (.int .i64)), .own 1 3 1 (rowC (nextC n k) k).length ((rowC (nextC n k) k).map (.int .i64)), .val (.bool true)]) := by
  refine pcalls_of_code (n := 29) az Tryd.func89 (by kernel_rfl) rfl rfl (Nat.le_of_ble_eq_true rfl) (by intro t u h; simp [Tryd.f89] at h) ?_
  have hn := nextC_ok h
  refine code_seq (fun K1 hK1 => ?_)
  refine code_region ?_
  refine list_cons rfl (op_q (q_assign rfl (by decide)) ?_)
  refine list_cons rfl (op_q (q_assign rfl (by decide)) ?_)
  refine list_cons rfl (op_q (q_assign rfl (by decide)) ?_)
  refine list_nil ?_
  refine hK1 _ ?_; clear hK1 K1
  refine code_seq (fun K2 hK2 => ?_)
  refine code_region ?_
  refine list_cons rfl (op_q (q_move rfl (by decide)) ?_)
  refine list_cons rfl (op_q (q_move rfl (by decide)) ?_)
  refine list_cons rfl (op_call _ (impl_CounterRow n k) rfl rfl (by decide) (by decide) (by decide) rfl ?_)
  rintro _ rfl; simp only [if_pos h, decide_eq_true h]
  refine list_cons rfl (op_q (q_move rfl (by decide)) ?_)
  refine list_cons rfl (op_q (q_extract rfl rfl (by decide)) ?_)
  refine list_cons rfl (op_q (q_extract rfl rfl (by decide)) ?_)
  refine list_cons rfl (op_q (q_assign rfl (by decide)) ?_)
  refine list_cons rfl (op_q (q_assign rfl (by decide)) ?_)
  refine list_nil ?_
  refine hK2 _ ?_; clear hK2 K2
  refine codeT.imp (σ' := [(0, _), (1, _), (4, _), (5, _), (6, _), (7, _), (8, _)]) ?_ (imp_covers ⟨rfl, rfl, rfl, rfl, rfl, rfl, rfl, trivial⟩)
  refine code_seq (fun K3 hK3 => ?_)
  refine code_seq (fun K4 hK4 => ?_)
  refine code_region ?_
  refine list_cons rfl (op_q (q_move rfl (by decide)) ?_)
  refine list_cons rfl (op_q (by first | exact q_notd rfl (by decide) | exact q_not rfl (by decide)) ?_)
  refine list_nil ?_
  refine hK4 _ ?_; clear hK4 K4
  refine code_cond_f rfl ?_
  refine code_skip ?_
  refine hK3 _ ?_; clear hK3 K3
  refine code_seq (fun K5 hK5 => ?_)
  refine code_region ?_
  refine list_cons rfl (op_q (q_move rfl (by decide)) ?_)
  refine list_cons rfl (op_q (q_move rfl (by decide)) ?_)
  refine list_cons rfl (op_call _ (impl_afterStep _ _ (by assumption)) rfl rfl (by decide) (by decide) (by decide) rfl ?_)
  rintro _ rfl
  refine list_cons rfl (op_q (q_move rfl (by decide)) ?_)
  refine list_cons rfl (op_call _ (impl_CounterRow (nextC n k) k) rfl rfl (by decide) (by decide) (by decide) rfl ?_)
  rintro _ rfl; simp only [if_pos hn, decide_eq_true hn]
  refine list_cons rfl (op_q (q_move rfl (by decide)) ?_)
  refine list_cons rfl (op_q (q_extract rfl rfl (by decide)) ?_)
  refine list_cons rfl (op_q (q_extract rfl rfl (by decide)) ?_)
  refine list_cons rfl (op_q (q_assign rfl (by decide)) ?_)
  refine list_cons rfl (op_q (q_assign rfl (by decide)) ?_)
  refine list_nil ?_
  refine hK5 _ ?_; clear hK5 K5
  refine codeT.imp (σ' := [(0, _), (1, _), (4, _), (5, _), (6, _), (7, _), (8, _), (9, _)]) ?_ (imp_covers ⟨rfl, rfl, rfl, rfl, rfl, rfl, rfl, rfl, trivial⟩)
  refine code_seq (fun K6 hK6 => ?_)
  refine code_region ?_
  refine list_cons rfl (op_q (q_move rfl (by decide)) ?_)
  refine list_cons rfl (op_q (q_move rfl (by decide)) ?_)
  refine list_cons rfl (op_q (q_move rfl (by decide)) ?_)
  refine list_cons rfl (op_q (q_assign rfl (by decide)) ?_)
  refine list_cons rfl (op_q (q_assign rfl (by decide)) ?_)
  refine list_cons rfl (op_q (q_assign rfl (by decide)) ?_)
  refine list_nil ?_
  refine hK6 _ ?_; clear hK6 K6
  refine code_ret ?_
  refine ends_ret (cs := []) rfl rfl rfl rfl trivial ?_
  rfl

set_option maxRecDepth 4000 in
theorem impl_stepRowsN (n k : Int) (h : ¬ Cn n k) : PCalls Tryd.prog 89 [.int .i64 n, .int .i64 k] (· = [.val (.sl 0 []), .val (.sl 0 []), .val (.bool false)]) := by
  refine pcalls_of_code (n := 29) az Tryd.func89 (by kernel_rfl) rfl rfl (Nat.le_of_ble_eq_true rfl) (by intro t u h; simp [Tryd.f89] at h) ?_
  refine code_seq (fun K1 hK1 => ?_)
  refine code_region ?_
  refine list_cons rfl (op_q (q_assign rfl (by decide)) ?_)
  refine list_cons rfl (op_q (q_assign rfl (by decide)) ?_)
  refine list_cons rfl (op_q (q_assign rfl (by decide)) ?_)
  refine list_nil ?_
  refine hK1 _ ?_; clear hK1 K1
  refine code_seq (fun K2 hK2 => ?_)
  refine code_region ?_
  refine list_cons rfl (op_q (q_move rfl (by decide)) ?_)
  refine list_cons rfl (op_q (q_move rfl (by decide)) ?_)
  refine list_cons rfl (op_call _ (impl_CounterRow n k) rfl rfl (by decide) (by decide) (by decide) rfl ?_)
  rintro _ rfl; simp only [if_neg h, decide_eq_false h]
  refine list_cons rfl (op_q (q_move rfl (by decide)) ?_)
  refine list_cons rfl (op_q (q_extract rfl rfl (by decide)) ?_)
  refine list_cons rfl (op_q (q_extract rfl rfl (by decide)) ?_)
  refine list_cons rfl (op_q (q_assign rfl (by decide)) ?_)
  refine list_cons rfl (op_q (q_assign rfl (by decide)) ?_)
  refine list_nil ?_
  refine hK2 _ ?_; clear hK2 K2
  refine codeT.imp (σ' := [(0, _), (1, _), (4, _), (5, _), (6, _), (7, _), (8, _)]) ?_ (imp_covers ⟨rfl, rfl, rfl, rfl, rfl, rfl, rfl, trivial⟩)
  refine code_seq (fun K3 hK3 => ?_)
  refine code_seq (fun K4 hK4 => ?_)
  refine code_region ?_
  refine list_cons rfl (op_q (q_move rfl (by decide)) ?_)
  refine list_cons rfl (op_q (by first | exact q_notd rfl (by decide) | exact q_not rfl (by decide)) ?_)
  refine list_nil ?_
  refine hK4 _ ?_; clear hK4 K4
  refine code_cond_t rfl ?_
  refine code_seq (fun K5 hK5 => ?_)
  refine code_region ?_
  refine list_cons rfl (op_q (q_assign rfl (by decide)) ?_)
  refine list_cons rfl (op_q (q_assign rfl (by decide)) ?_)
  refine list_cons rfl (op_q (q_assign rfl (by decide)) ?_)
  refine list_nil ?_
  refine hK5 _ ?_; clear hK5 K5
  refine code_ret ?_
  refine then_r ?_; clear hK3 K3
  refine ends_ret (cs := []) rfl rfl rfl rfl trivial ?_
  rfl

set_option maxRecDepth 4000 in
theorem impl_StepChangesN (n k : Int) (h : ¬ Cn n k) : PCalls Tryd.prog 25 [.int .i64 n, .int .i64 k] (· = [.val (.int .i64 0), .val (.bool false)]) := by
  refine pcalls_of_code (n := 23) az Tryd.func25 (by kernel_rfl) rfl rfl (Nat.le_of_ble_eq_true rfl) (by intro t u h; simp [Tryd.f25] at h) ?_
  refine code_seq (fun K1 hK1 => ?_)
  refine code_region ?_
  refine list_cons rfl (op_q (q_assign rfl (by decide)) ?_)
  refine list_cons rfl (op_q (q_assign rfl (by decide)) ?_)
  refine list_nil ?_
  refine hK1 _ ?_; clear hK1 K1
  refine code_seq (fun K2 hK2 => ?_)
  refine code_region ?_
  refine list_cons rfl (op_q (q_move rfl (by decide)) ?_)
  refine list_cons rfl (op_q (q_move rfl (by decide)) ?_)
  refine list_cons rfl (op_call _ (impl_stepRowsN n k h) rfl rfl (by decide) (by decide) (by decide) rfl ?_)
  rintro _ rfl
  refine list_cons rfl (op_q (q_move rfl (by decide)) ?_)
  refine list_cons rfl (op_q (q_extract rfl rfl (by decide)) ?_)
  refine list_cons rfl (op_q (q_extract rfl rfl (by decide)) ?_)
  refine list_cons rfl (op_q (q_extract rfl rfl (by decide)) ?_)
  refine list_cons rfl (op_q (q_assign rfl (by decide)) ?_)
  refine list_cons rfl (op_q (q_assign rfl (by decide)) ?_)
  refine list_cons rfl (op_q (q_assign rfl (by decide)) ?_)
  refine list_nil ?_
  refine hK2 _ ?_; clear hK2 K2
  refine codeT.imp (σ' := [(0, _), (1, _), (4, _), (5, _), (6, _), (7, _), (8, _)]) ?_ (imp_covers ⟨rfl, rfl, rfl, rfl, rfl, rfl, rfl, trivial⟩)
  refine code_seq (fun K3 hK3 => ?_)
  refine code_seq (fun K4 hK4 => ?_)
  refine code_region ?_
  refine list_cons rfl (op_q (q_move rfl (by decide)) ?_)
  refine list_cons rfl (op_q (by first | exact q_notd rfl (by decide) | exact q_not rfl (by decide)) ?_)
  refine list_nil ?_
  refine hK4 _ ?_; clear hK4 K4
  refine code_cond_t rfl ?_
  refine code_seq (fun K5 hK5 => ?_)
  refine code_region ?_
  refine list_cons rfl (op_q (q_assign rfl (by decide)) ?_)
  refine list_cons rfl (op_q (q_assign rfl (by decide)) ?_)
  refine list_nil ?_
  refine hK5 _ ?_; clear hK5 K5
  refine code_ret ?_
  refine then_r ?_; clear hK3 K3
  refine ends_ret (cs := []) rfl rfl rfl rfl trivial ?_
  rfl

set_option maxRecDepth 4000 in
theorem impl_rowChanges (a b : List Int) (hl : a.length = b.length) (h6 : a.length ≤ 6) (ha : ∀ i, i < a.length → 0 ≤ a.getD i 0 ∧ a.getD i 0 ≤ 127) (hb : ∀ i, i < a.length → 0 ≤ b.getD i 0 ∧ b.getD i 0 ≤ 127) : PCalls Tryd.prog 95 [.sl a.length (a.map (.int .i64)), .sl b.length (b.map (.int .i64))] (· = [.val (.int .i64 (chgK a b a.length)), .val (.bool true)]) := by
  refine pcalls_of_code (n := 39) az Tryd.func95 (by kernel_rfl) rfl rfl (Nat.le_of_ble_eq_true rfl) (by intro t u h; simp [Tryd.f95] at h) ?_
  refine code_seq (fun K1 hK1 => ?_)
  refine code_region ?_
  refine list_cons rfl (op_q (q_assign rfl (by decide)) ?_)
  refine list_cons rfl (op_q (q_assign rfl (by decide)) ?_)
  refine list_nil ?_
  refine hK1 _ ?_; clear hK1 K1
  refine code_seq (fun K2 hK2 => ?_)
  refine code_seq (fun K3 hK3 => ?_)
  refine code_region ?_
  refine list_cons rfl (op_q (q_move rfl (by decide)) ?_)
  refine list_cons rfl (op_q (q_len_sl Tryd.underlying35 rfl rfl (by decide)) ?_)
  refine list_cons rfl (op_q (q_move rfl (by decide)) ?_)
  refine list_cons rfl (op_q (q_len_sl Tryd.underlying35 rfl rfl (by decide)) ?_)
  refine list_cons rfl (op_q (q_ne rfl rfl (by decide)) ?_)
  refine list_nil ?_
  refine hK3 _ ?_; clear hK3 K3
  refine code_cond_d rfl (fun h1 => ?_) (fun h1 => ?_)
  · skip
    (try simp only [Decidable.not_not] at h1)
    exfalso
    omega
  (try simp only [Decidable.not_not] at h1)
  refine code_skip ?_
  refine hK2 _ ?_; clear hK2 K2
  refine code_seq (fun K4 hK4 => ?_)
  refine code_region ?_
  refine list_cons rfl (op_q (q_assign rfl (by decide)) ?_)
  refine list_nil ?_
  refine hK4 _ ?_; clear hK4 K4
  refine code_seq (fun K5 hK5 => ?_)
  refine code_seq (fun K6 hK6 => ?_)
  refine code_region ?_
  refine list_cons rfl (op_q (q_move rfl (by decide)) ?_)
  refine list_cons rfl (op_q (q_len_sl Tryd.underlying35 rfl rfl (by decide)) ?_)
  refine list_cons rfl (op_q (q_move rfl (by decide)) ?_)
  refine list_nil ?_
  refine hK6 _ ?_; clear hK6 K6
  refine code_block ?_
  refine code_loop (X := Int × Bool × Int × Int) (fun x => [(0, .par 0 (.sl a.length (a.map (.int .i64)))), (1, .par 1 (.sl b.length (b.map (.int .i64)))), (4, .val (.int .i64 x.1)), (5, .val (.bool x.2.1)), (6, .val (.int .i64 x.2.2.1)), (16, .par 0 (.sl a.length (a.map (.int .i64)))), (17, .val (.int .i64 a.length)), (18, .val (.int .i64 x.2.2.2))]) (fun x => 0 ≤ x.2.2.2 ∧ x.2.2.2 ≤ a.length ∧ x.2.2.1 = chgK a b x.2.2.2.toNat) (fun x => (a.length - x.2.2.2).toNat) (_, _, _, _) (imp_covers ⟨rfl, rfl, rfl, rfl, rfl, rfl, rfl, rfl, trivial⟩) ?_ ?_
  · (try dsimp only)
    exact ⟨by omega, by omega, rfl⟩
  · intro x hI
    obtain ⟨t4, t5, total, t18⟩ := x
    replace hI : 0 ≤ t18 ∧ t18 ≤ a.length ∧ total = chgK a b t18.toNat := hI
    show codeT _ _ _ [(0, .par 0 (.sl a.length (a.map (.int .i64)))), (1, .par 1 (.sl b.length (b.map (.int .i64)))), (4, .val (.int .i64 t4)), (5, .val (.bool t5)), (6, .val (.int .i64 total)), (16, .par 0 (.sl a.length (a.map (.int .i64)))), (17, .val (.int .i64 a.length)), (18, .val (.int .i64 t18))] _
    obtain ⟨i1, i2, rfl⟩ := hI
    have hc := chgK_le a b t18.toNat
    have hd := cnt7_le ((a.getD t18.toNat 0).toNat ^^^ (b.getD t18.toNat 0).toNat)
    have ca : t18 < a.length → 0 ≤ a.getD t18.toNat 0 ∧ a.getD t18.toNat 0 ≤ 127 := fun h => ha _ (by omega)
    have cb : t18 < a.length → 0 ≤ b.getD t18.toNat 0 ∧ b.getD t18.toNat 0 ≤ 127 := fun h => hb _ (by omega)
    refine code_seq (fun K7 hK7 => ?_)
    refine code_region ?_
    refine list_cons rfl (op_q (q_lt rfl rfl (by decide)) ?_)
    refine list_nil ?_
    refine hK7 _ ?_; clear hK7 K7
    refine code_seq (fun K8 hK8 => ?_)
    refine code_cond_d rfl (fun h2 => ?_) (fun h2 => ?_)
    · skip
      (try simp only [Decidable.not_not] at h2)
      refine code_skip ?_
      refine hK8 _ ?_; clear hK8 K8
      refine code_seq (fun K9 hK9 => ?_)
      refine code_block ?_
      refine code_seq (fun K10 hK10 => ?_)
      refine code_region ?_
      refine list_cons rfl (op_q (q_move rfl (by decide)) ?_)
      refine list_cons rfl (op_q (q_indexAddr_rd sl_35 rfl (.inl ⟨_, rfl, rfl⟩) rfl (by omega) (by omega) (by decide)) ?_)
      refine list_cons rfl (op_q (q_load_rd one_3 rfl (.inl ⟨_, (by first | rfl | exact congrArg (SV.rpar _) (drop_map1 _ 0 _ (by first | omega | (simp; omega)))), rfl⟩) (by decide)) ?_)
      refine list_cons rfl (op_q (q_assign rfl (by decide)) ?_)
      refine list_cons rfl (op_q (q_assign rfl (by decide)) ?_)
      refine list_nil ?_
      refine hK10 _ ?_; clear hK10 K10
      refine code_seq (fun K11 hK11 => ?_)
      refine code_region ?_
      refine list_cons rfl (op_q (q_move rfl (by decide)) ?_)
      refine list_cons rfl (op_q (q_move rfl (by decide)) ?_)
      refine list_cons rfl (op_q (q_move rfl (by decide)) ?_)
      refine list_cons rfl (op_q (q_indexAddr_rd sl_35 rfl (.inl ⟨_, rfl, rfl⟩) rfl (by omega) (by omega) (by decide)) ?_)
      refine list_cons rfl (op_q (q_load_rd one_3 rfl (.inl ⟨_, (by first | rfl | exact congrArg (SV.rpar _) (drop_map1 _ 0 _ (by first | omega | (simp; omega)))), rfl⟩) (by decide)) ?_)
      refine list_cons rfl (op_call _ (impl_FarCells _ _) rfl rfl (by decide) (by decide) (by decide) rfl ?_)
      rintro _ rfl; simp only [if_pos (show _ ∧ _ from ⟨ca (by omega), cb (by omega)⟩), decide_eq_true (show _ ∧ _ from ⟨ca (by omega), cb (by omega)⟩)]
      refine list_cons rfl (op_q (q_move rfl (by decide)) ?_)
      refine list_cons rfl (op_q (q_extract rfl rfl (by decide)) ?_)
      refine list_cons rfl (op_q (q_extract rfl rfl (by decide)) ?_)
      refine list_cons rfl (op_q (q_assign rfl (by decide)) ?_)
      refine list_cons rfl (op_q (q_assign rfl (by decide)) ?_)
      refine list_nil ?_
      refine hK11 _ ?_; clear hK11 K11
      refine codeT.imp (σ' := [(0, _), (1, _), (4, _), (5, _), (6, _), (7, _), (8, _), (9, _), (10, _), (16, _), (17, _), (18, _)]) ?_ (imp_covers ⟨rfl, rfl, rfl, rfl, rfl, rfl, rfl, rfl, rfl, rfl, rfl, rfl, trivial⟩)
      refine code_seq (fun K12 hK12 => ?_)
      refine code_seq (fun K13 hK13 => ?_)
      refine code_region ?_
      refine list_cons rfl (op_q (q_move rfl (by decide)) ?_)
      refine list_cons rfl (op_q (by first | exact q_notd rfl (by decide) | exact q_not rfl (by decide)) ?_)
      refine list_nil ?_
      refine hK13 _ ?_; clear hK13 K13
      refine code_cond_f rfl ?_
      refine code_skip ?_
      refine hK12 _ ?_; clear hK12 K12
      refine code_region ?_
      refine list_cons rfl (op_q (q_move rfl (by decide)) ?_)
      refine list_cons rfl (op_q (q_move rfl (by decide)) ?_)
      refine list_cons rfl (op_q (by first | exact q_addI rfl rfl (by decide) (by omega) (by omega) | exact q_ib rfl rfl rfl (by decide)) ?_)
      refine list_cons rfl (op_q (q_assign rfl (by decide)) ?_)
      refine list_nil ?_
      refine blk_n ?_
      refine hK9 _ ?_; clear hK9 K9
      refine code_region ?_
      refine list_cons rfl (op_q (by first | exact q_addI rfl rfl (by decide) (by omega) (by omega) | exact q_ib rfl rfl rfl (by decide)) ?_)
      refine list_cons rfl (op_q (q_move rfl (by decide)) ?_)
      refine list_nil ?_
      refine then_n ⟨(_, _, _, _), imp_covers ⟨rfl, rfl, rfl, rfl, rfl, rfl, rfl, rfl, trivial⟩, ?_, ?_⟩
      · (try dsimp only)
        refine ⟨by omega, by omega, ?_⟩
        rw [show (t18 + 1).toNat = t18.toNat + 1 by omega, chgK]
      · (try dsimp only); omega
    (try simp only [Decidable.not_not] at h2)
    refine code_exit ?_
    refine then_x ?_; clear hK8 K8
    refine then_x ?_
    refine blk_hit ?_
    refine hK5 _ ?_; clear hK5 K5
    refine code_seq (fun K14 hK14 => ?_)
    refine code_region ?_
    refine list_cons rfl (op_q (q_move rfl (by decide)) ?_)
    refine list_cons rfl (op_q (q_assign rfl (by decide)) ?_)
    refine list_cons rfl (op_q (q_assign rfl (by decide)) ?_)
    refine list_nil ?_
    refine hK14 _ ?_; clear hK14 K14
    refine code_ret ?_
    refine ends_ret (cs := []) rfl rfl rfl rfl trivial ?_
    rw [show t18.toNat = a.length by omega]

set_option maxRecDepth 4000 in
theorem impl_StepChangesY (n k : Int) (h : Cn n k) : PCalls Tryd.prog 25 [.int .i64 n, .int .i64 k] (· = [.val (.int .i64 (stepC n k)), .val (.bool true)]) := by
  refine pcalls_of_code (n := 23) az Tryd.func25 (by kernel_rfl) rfl rfl (Nat.le_of_ble_eq_true rfl) (by intro t u h; simp [Tryd.f25] at h) ?_
  have hk := Cn_bd h
  have l1 : (rowC n k).length = k.toNat := rowK_len _ _
  have l2 : (rowC (nextC n k) k).length = k.toNat := rowK_len _ _
  refine code_seq (fun K1 hK1 => ?_)
  refine code_region ?_
  refine list_cons rfl (op_q (q_assign rfl (by decide)) ?_)
  refine list_cons rfl (op_q (q_assign rfl (by decide)) ?_)
  refine list_nil ?_
  refine hK1 _ ?_; clear hK1 K1
  refine code_seq (fun K2 hK2 => ?_)
  refine code_region ?_
  refine list_cons rfl (op_q (q_move rfl (by decide)) ?_)
  refine list_cons rfl (op_q (q_move rfl (by decide)) ?_)
  refine list_cons rfl (op_call _ (impl_stepRows n k h) rfl rfl (by decide) (by decide) (by decide) rfl ?_)
  rintro _ rfl
  refine list_cons rfl (op_q (q_move rfl (by decide)) ?_)
  refine list_cons rfl (op_q (q_extract rfl rfl (by decide)) ?_)
  refine list_cons rfl (op_q (q_extract rfl rfl (by decide)) ?_)
  refine list_cons rfl (op_q (q_extract rfl rfl (by decide)) ?_)
  refine list_cons rfl (op_q (q_assign rfl (by decide)) ?_)
  refine list_cons rfl (op_q (q_assign rfl (by decide)) ?_)
  refine list_cons rfl (op_q (q_assign rfl (by decide)) ?_)
  refine list_nil ?_
  refine hK2 _ ?_; clear hK2 K2
  refine codeT.imp (σ' := [(0, _), (1, _), (4, _), (5, _), (6, _), (7, _), (8, _)]) ?_ (imp_covers ⟨rfl, rfl, rfl, rfl, rfl, rfl, rfl, trivial⟩)
  refine code_seq (fun K3 hK3 => ?_)
  refine code_seq (fun K4 hK4 => ?_)
  refine code_region ?_
  refine list_cons rfl (op_q (q_move rfl (by decide)) ?_)
  refine list_cons rfl (op_q (by first | exact q_notd rfl (by decide) | exact q_not rfl (by decide)) ?_)
  refine list_nil ?_
  refine hK4 _ ?_; clear hK4 K4
  refine code_cond_f rfl ?_
  refine code_skip ?_
  refine hK3 _ ?_; clear hK3 K3
  refine code_seq (fun K5 hK5 => ?_)
  refine code_region ?_
  refine list_cons rfl (op_q (q_move rfl (by decide)) ?_)
  refine list_cons rfl (op_q (q_move rfl (by decide)) ?_)
  refine list_cons rfl (op_call _ (impl_rowChanges (rowC n k) (rowC (nextC n k) k) (by omega) (by omega) (fun i hi => rowK_at (by omega)) (fun i hi => rowK_at (by omega))) rfl rfl (by decide) (by decide) (by decide) rfl ?_)
  rintro _ rfl
  refine list_cons rfl (op_q (q_extract rfl rfl (by decide)) ?_)
  refine list_cons rfl (op_q (q_extract rfl rfl (by decide)) ?_)
  refine list_cons rfl (op_q (q_assign rfl (by decide)) ?_)
  refine list_cons rfl (op_q (q_assign rfl (by decide)) ?_)
  refine list_nil ?_
  refine hK5 _ ?_; clear hK5 K5
  refine codeT.imp (σ' := [(0, _), (1, _), (4, _), (5, _), (6, _), (7, _), (8, _)]) ?_ (imp_covers ⟨rfl, rfl, rfl, rfl, rfl, rfl, rfl, trivial⟩)
  refine code_ret ?_
  refine ends_ret (cs := []) rfl rfl rfl rfl trivial ?_
  unfold stepC
  rw [l1]

theorem impl_StepChanges (n k : Int) : PCalls Tryd.prog 25 [.int .i64 n, .int .i64 k] (· = [.val (.int .i64 (if Cn n k then stepC n k else 0)), .val (.bool (decide (Cn n k)))]) := by
  by_cases h : Cn n k
  · simp only [if_pos h, decide_eq_true h]; exact impl_StepChangesY n k h
  · simp only [if_neg h, decide_eq_false h]; exact impl_StepChangesN n k h

def celS (k : Nat) : List Int := filN 10 (fun d => digT.getD d 0) k
theorem celS_get {s : Nat} (h : s < 10) : ((celS 10).map (PV.int .i64))[s]? = some (.int .i64 (digT.getD s 0)) := by
  have h2 := get_map1 (PV.int .i64) 0 (celS 10) (k := s) (by unfold celS; rw [filN_len]; exact h)
  rw [Nat.mul_one] at h2
  rw [h2]
  have h1 := filN_at 10 (fun d => digT.getD d 0) 10 s h
  rw [if_pos h] at h1
  unfold celS
  rw [h1]
theorem row_get {a b : Nat} (ha : a < 10) (hb : b < 10) : ((((tabS 100).map (PV.int .i64)).drop (a * 10)).take 10)[b]? = some (.int .i64 (dgt a b)) := by
  rw [List.getElem?_take, if_pos hb, List.getElem?_drop]
  have h2 := get_map1 (PV.int .i64) 0 (tabS 100) (k := a * 10 + b) (by simp [tabS, filN_len]; omega)
  rw [Nat.mul_one] at h2
  rw [h2, tab_at ha hb]
theorem put_new {a b : List PV} {n : Nat} (ha : a.length = n) (hb : b.length = n) : putAt a 0 (PV.agg b).cells = b := by
  unfold putAt PV.cells
  simp only [List.take_zero, List.nil_append, Nat.zero_add]
  rw [List.drop_of_length_le (by omega), List.append_nil]
/-- Counts of bars to which the bars of a cell that light are added: the first k of them. -/
def wbK (l : List Int) (c : Nat) : Nat → List Int
  | 0 => l
  | k + 1 => if bitN c k then (wbK l c k).set k ((wbK l c k).getD k 0 + 1) else wbK l c k
theorem wbK_len (l : List Int) (c : Nat) : ∀ k, (wbK l c k).length = l.length
  | 0 => rfl
  | k + 1 => by unfold wbK; split <;> simp [wbK_len l c k]
theorem wbK_at (l : List Int) (c : Nat) : ∀ (k j : Nat), k ≤ j → (wbK l c k).getD j 0 = l.getD j 0
  | 0, j, _ => rfl
  | k + 1, j, h => by
    have ih := wbK_at l c k j (by omega)
    unfold wbK
    split
    · rw [List.getD_eq_getElem?_getD, List.getElem?_set, if_neg (by omega), ← List.getD_eq_getElem?_getD]; exact ih
    · exact ih
theorem wbK_le (l : List Int) (c : Nat) {m : Int} (h : ∀ j, 0 ≤ l.getD j 0 ∧ l.getD j 0 ≤ m) : ∀ (k j : Nat), 0 ≤ (wbK l c k).getD j 0 ∧ (wbK l c k).getD j 0 ≤ m + 1
  | 0, j => by have := h j; unfold wbK; omega
  | k + 1, j => by
    have ih := wbK_le l c h k j
    have hk := wbK_at l c k k (Nat.le_refl _)
    have hm := h k
    unfold wbK
    split
    · rw [List.getD_eq_getElem?_getD, List.getElem?_set]
      by_cases e : k = j
      · rw [if_pos e]
        split
        · simp only [Option.getD_some]; omega
        · simp only [Option.getD_none]; omega
      · rw [if_neg e, ← List.getD_eq_getElem?_getD]; exact ih
    · exact ih
theorem wbK_put {l : List Int} {c k o : Nat} {v : Int} (ho : o = k) (hk : k < l.length) (hb : bitN c k = true) (hv : v = (wbK l c k).getD k 0 + 1) : putAt ((wbK l c k).map (PV.int .i64)) o [PV.int .i64 v] = (wbK l c (k + 1)).map (PV.int .i64) := by
  subst ho; subst hv
  have h1 := put_map1 (PV.int .i64) (wbK l c o) (k := o) (by rw [wbK_len]; exact hk) ((wbK l c o).getD o 0 + 1)
  rw [Nat.mul_one] at h1
  rw [wbK, if_pos hb]
  exact h1
def wS : Nat → List Int
  | 0 => List.replicate 7 0
  | d + 1 => wbK (wS d) (digT.getD d 0).toNat 7
theorem wS_len : ∀ d, (wS d).length = 7
  | 0 => rfl
  | d + 1 => by rw [wS, wbK_len, wS_len d]
theorem wS_le : ∀ (d j : Nat), 0 ≤ (wS d).getD j 0 ∧ (wS d).getD j 0 ≤ d
  | 0, j => by
    have : (wS 0).getD j 0 = 0 := by
      unfold wS
      rw [List.getD_eq_getElem?_getD, List.getElem?_replicate]
      split <;> rfl
    rw [this]; omega
  | d + 1, j => by
    have := wbK_le (wS d) (digT.getD d 0).toNat (m := d) (wS_le d) 7 j
    rw [wS]; omega
set_option maxRecDepth 100000 in
theorem wS_sh : wS 10 = shS 70 := by decide
theorem celS_all : ((((celS 10).map (PV.int .i64)).drop 0).take 10) = (celS 10).map (PV.int .i64) := by
  rw [List.drop_zero, List.take_of_length_le (by simp [celS, filN_len])]

set_option maxRecDepth 4000 in
set_option maxHeartbeats 1000000 in
theorem impl_withBars (l : List Int) (c m : Int) (hl : l.length = 7) (hm : ∀ j, 0 ≤ l.getD j 0 ∧ l.getD j 0 ≤ m) (hm2 : m ≤ 1099511627776) (hc : 0 ≤ c ∧ c ≤ 127) : PCalls Tryd.prog 90 [.agg (l.map (.int .i64)), .int .i64 c] (· = [.val (.agg ((wbK l c.toNat 7).map (.int .i64)))]) := by
  refine pcalls_of_code (n := 19) az Tryd.func90 (by kernel_rfl) rfl rfl (Nat.le_of_ble_eq_true rfl) (by intro t u h; simp [Tryd.f90] at h; obtain ⟨_, rfl⟩ := h <;> first | exact resTy_agg agg_43 (by decide)) ?_
  have hfl := flat_map (PV.int .i64) (fun _ => rfl) l
  rw [show inits false 0 [.agg (l.map (.int .i64)), .int .i64 c] = [(0, SV.val (.agg (l.map (.int .i64)))), (1, SV.val (.int .i64 c))] from by simp [inits, PV.start, PV.flat, hfl]]
  refine code_seq (fun K1 hK1 => ?_)
  refine code_region ?_
  refine list_cons rfl (op_box rfl (.inl ⟨rfl, hfl⟩) (by decide) (by decide) rfl ?_)
  refine list_cons rfl (op_alloc zt_43 (by decide) (by decide) rfl ?_)
  refine list_nil ?_
  refine hK1 _ ?_; clear hK1 K1
  refine code_seq (fun K2 hK2 => ?_)
  refine code_seq (fun K3 hK3 => ?_)
  refine code_region ?_
  refine list_cons rfl (op_q (q_move rfl (by decide)) ?_)
  refine list_nil ?_
  refine hK3 _ ?_; clear hK3 K3
  refine code_block ?_
  refine code_loop (X := List PV × Int) (fun x => [(0, .val (.agg (l.map (.int .i64)))), (1, .val (.int .i64 c)), (2, .box 2 43 x.1), (4, .box 4 43 (List.replicate 7 (.int .i64 0))), (6, .val (.int .i64 x.2))]) (fun x => 0 ≤ x.2 ∧ x.2 ≤ 7 ∧ x.1 = (wbK l c.toNat x.2.toNat).map (.int .i64)) (fun x => (7 - x.2).toNat) (_, _) (imp_covers ⟨rfl, rfl, rfl, rfl, rfl, trivial⟩) ?_ ?_
  · (try dsimp only)
    exact ⟨by omega, by omega, rfl⟩
  · intro x hI
    obtain ⟨counts_2_c, t6⟩ := x
    replace hI : 0 ≤ t6 ∧ t6 ≤ 7 ∧ counts_2_c = (wbK l c.toNat t6.toNat).map (.int .i64) := hI
    show codeT _ _ _ [(0, .val (.agg (l.map (.int .i64)))), (1, .val (.int .i64 c)), (2, .box 2 43 counts_2_c), (4, .box 4 43 (List.replicate 7 (.int .i64 0))), (6, .val (.int .i64 t6))] _
    obtain ⟨i1, i2, rfl⟩ := hI
    have hle := wbK_le l c.toNat hm t6.toNat t6.toNat
    refine code_seq (fun K4 hK4 => ?_)
    refine code_region ?_
    refine list_cons rfl (op_q (q_lt rfl rfl (by decide)) ?_)
    refine list_nil ?_
    refine hK4 _ ?_; clear hK4 K4
    refine code_seq (fun K5 hK5 => ?_)
    refine code_cond_d rfl (fun h1 => ?_) (fun h1 => ?_)
    · skip
      (try simp only [Decidable.not_not] at h1)
      refine code_skip ?_
      refine hK5 _ ?_; clear hK5 K5
      refine code_seq (fun K6 hK6 => ?_)
      refine code_block ?_
      refine code_seq (fun K7 hK7 => ?_)
      refine code_region ?_
      refine list_cons rfl (op_q (q_move rfl (by decide)) ?_)
      refine list_cons rfl (op_q (q_assign rfl (by decide)) ?_)
      refine list_nil ?_
      refine hK7 _ ?_; clear hK7 K7
      refine code_seq (fun K8 hK8 => ?_)
      refine code_region ?_
      refine list_cons rfl (op_q (q_move rfl (by decide)) ?_)
      refine list_cons rfl (op_q (q_move rfl (by decide)) ?_)
      refine list_cons rfl (op_call _ (impl_hasBar _ _ (by omega) (by omega)) rfl rfl (by decide) (by decide) (by decide) rfl ?_)
      rintro _ rfl
      refine list_nil ?_
      refine hK8 _ ?_; clear hK8 K8
      refine codeT.imp (σ' := [(0, _), (1, _), (2, _), (4, _), (5, _), (6, _), (11, _)]) ?_ (imp_covers ⟨rfl, rfl, rfl, rfl, rfl, rfl, rfl, trivial⟩)
      refine code_cond_d rfl (fun h2 => ?_) (fun h2 => ?_)
      · skip
        (try simp only [Decidable.not_not] at h2)
        refine code_region ?_
        refine list_cons rfl (op_q (q_move rfl (by decide)) ?_)
        refine list_cons rfl (op_q (q_indexAddr_arr arr_43 rfl rfl rfl (by omega) (by omega) (by decide)) ?_)
        refine list_cons rfl (op_q (q_load one_3 2 rfl rfl rfl (by first | exact get_map1 (PV.int .i64) 0 (wbK l c.toNat t6.toNat) (by rw [wbK_len]; omega) | (simp only [wbK_len, List.length_map]; omega)) (by decide)) ?_)
        refine list_cons rfl (op_q (by first | exact q_addI rfl rfl (by decide) (by omega) (by omega) | exact q_ib rfl rfl rfl (by decide)) ?_)
        refine list_cons rfl (op_q (q_indexAddr_arr arr_43 rfl rfl rfl (by omega) (by omega) (by decide)) ?_)
        refine list_cons rfl (op_store (one_3).2 2 [2] (by intro t ht; simp only [List.mem_cons, List.not_mem_nil, or_false] at ht; subst ht; rfl) (.inl rfl) rfl rfl rfl rfl rfl rfl (by first | decide | omega | exact Nat.le_refl _ | (simp only [wbK_len, List.length_map]; omega) | (simp; done) | (simp; omega)) (by decide) rfl ?_)
        refine list_nil ?_
        refine blk_n ?_
        refine hK6 _ ?_; clear hK6 K6
        refine codeT.imp (σ' := [(0, _), (1, _), (2, _), (4, _), (5, _), (6, _)]) ?_ (imp_covers ⟨rfl, rfl, rfl, rfl, rfl, rfl, trivial⟩)
        refine code_region ?_
        refine list_cons rfl (op_q (by first | exact q_addI rfl rfl (by decide) (by omega) (by omega) | exact q_ib rfl rfl rfl (by decide)) ?_)
        refine list_cons rfl (op_q (q_move rfl (by decide)) ?_)
        refine list_nil ?_
        refine then_n ⟨(_, _), imp_covers ⟨rfl, rfl, rfl, rfl, rfl, trivial⟩, ?_, ?_⟩
        · (try dsimp only)
          refine ⟨by omega, by omega, ?_⟩
          rw [show (t6 + 1).toNat = t6.toNat + 1 by omega]
          exact wbK_put (by omega) (by omega) h2 rfl
        · (try dsimp only); omega
      (try simp only [Decidable.not_not] at h2)
      refine code_skip ?_
      refine blk_n ?_
      refine hK6 _ ?_; clear hK6 K6
      refine code_region ?_
      refine list_cons rfl (op_q (by first | exact q_addI rfl rfl (by decide) (by omega) (by omega) | exact q_ib rfl rfl rfl (by decide)) ?_)
      refine list_cons rfl (op_q (q_move rfl (by decide)) ?_)
      refine list_nil ?_
      refine then_n ⟨(_, _), imp_covers ⟨rfl, rfl, rfl, rfl, rfl, trivial⟩, ?_, ?_⟩
      · (try dsimp only)
        refine ⟨by omega, by omega, ?_⟩
        rw [show (t6 + 1).toNat = t6.toNat + 1 by omega, wbK, if_neg h2]
      · (try dsimp only); omega
    (try simp only [Decidable.not_not] at h1)
    refine code_exit ?_
    refine then_x ?_; clear hK5 K5
    refine then_x ?_
    refine blk_hit ?_
    refine hK2 _ ?_; clear hK2 K2
    refine code_seq (fun K9 hK9 => ?_)
    refine code_region ?_
    refine list_cons rfl (op_q (q_load_agg agg_43 2 (.inr ⟨rfl, _, rfl⟩) rfl rfl (by first | exact get_map1 (PV.int .i64) 0 (wbK l c.toNat t6.toNat) (by rw [wbK_len]; omega) | (simp only [wbK_len, List.length_map]; omega)) (by first | rfl | exact flat_part (flat_map _ (fun _ => rfl) _) _ _) (by decide)) ?_)
    refine list_cons rfl (op_store (agg_43).2 4 [4] (by intro t ht; simp only [List.mem_cons, List.not_mem_nil, or_false] at ht; subst ht; rfl) (.inr ⟨rfl, _, rfl⟩) rfl rfl rfl rfl (by first | rfl | exact flat_part (flat_map _ (fun _ => rfl) _) _ _ | exact flat_map _ (fun _ => rfl) _) (by first | rfl | (simp [PV.cells, wbK_len, hl]; done)) (by first | decide | omega | exact Nat.le_refl _ | (simp only [wbK_len, List.length_map]; omega) | (simp; done) | (simp; omega)) (by decide) rfl ?_)
    refine list_nil ?_
    refine hK9 _ ?_; clear hK9 K9
    refine codeT.imp (σ' := [(0, _), (1, _), (2, _), (4, _), (6, _)]) ?_ (imp_covers ⟨rfl, rfl, rfl, rfl, rfl, trivial⟩)
    refine code_ret ?_
    refine ends_ret (cs := []) (res_agg1 (cs := (wbK l c.toNat 7).map (.int .i64)) (congrArg (fun z => some (SV.box 4 43 z)) (by rw [show t6.toNat = 7 by omega]; exact put_all (n := 7) (by simp) (by simp [wbK_len, hl]))) rfl (flat_map _ (fun _ => rfl) _) (by simp [wbK_len, hl]; rfl)) rfl rfl rfl trivial ?_
    rfl

set_option maxRecDepth 4000 in
theorem numbersFrom_it (n c k : Int) (h : Cn n k) (h0 : 0 ≤ c) (h1 : c ≤ 1000) : ITer Tryd.prog 144 [.ptr [.int .i64 n], .ptr [.int .i64 c], .ptr [.int .i64 k]] (c.toNat) (fun i => [.int .i64 (atC n k i)]) := by
  refine iter_of_code (n := 18) Tryd.func144 (by kernel_rfl) rfl rfl (Nat.le_of_ble_eq_true rfl) rfl (fun Y hYN hYe => ?_)
  have hk := Cn_bd h
  refine codeY_imp (σ' := [(0, _), (1, _), (2, _), (3, _)]) rfl (imp_covers ⟨rfl, rfl, rfl, rfl, trivial⟩) ?_
  refine codeY_seq (fun K1 hK1 => ?_)
  refine codeY_of rfl rfl ?_
  refine code_region ?_
  refine list_cons rfl (op_q (q_load_rd one_3 rfl (.inl ⟨_, (by first | rfl | exact congrArg (SV.rpar _) (drop_map1 _ 0 _ (by first | omega | (simp; omega)))), rfl⟩) (by decide)) ?_)
  refine list_cons rfl (op_q (q_assign rfl (by decide)) ?_)
  refine list_nil ?_
  refine thy_n ?_
  refine hK1 _ _ ?_; clear hK1 K1
  refine codeY_imp (σ' := [(0, _), (1, _), (2, _), (3, _), (5, _)]) rfl (imp_covers ⟨rfl, rfl, rfl, rfl, rfl, trivial⟩) ?_
  refine codeY_seq (fun K2 hK2 => ?_)
  refine codeY_of rfl rfl ?_
  refine code_region ?_
  refine list_cons rfl (op_q (q_load_rd one_3 rfl (.inl ⟨_, (by first | rfl | exact congrArg (SV.rpar _) (drop_map1 _ 0 _ (by first | omega | (simp; omega)))), rfl⟩) (by decide)) ?_)
  refine list_cons rfl (op_q (q_move rfl (by decide)) ?_)
  refine list_nil ?_
  refine thy_n ?_
  refine hK2 _ _ ?_; clear hK2 K2
  refine codeY_imp (σ' := [(0, _), (1, _), (2, _), (3, _), (5, _), (7, _), (8, _)]) rfl (imp_covers ⟨rfl, rfl, rfl, rfl, rfl, rfl, rfl, trivial⟩) ?_
  refine codeY_block ?_
  refine codeY_loop (X := Int × Int × Int) (fun x => [(0, .yld Y.l), (1, .rpar 1 [.int .i64 n]), (2, .rpar 2 [.int .i64 c]), (3, .rpar 3 [.int .i64 k]), (5, .val (.int .i64 x.1)), (7, .val (.int .i64 x.2.1)), (8, .val (.int .i64 x.2.2))]) (fun x => (false, x.2.2.toNat)) (fun x => 0 ≤ x.2.2 ∧ x.2.2 ≤ c ∧ x.2.1 = c ∧ x.1 = atC n k x.2.2.toNat) (fun x => (c - x.2.2).toNat) (_, _, _) rfl (imp_covers ⟨rfl, rfl, rfl, rfl, rfl, rfl, rfl, trivial⟩) rfl ?_ ?_
  · (try dsimp only)
    exact ⟨by omega, by omega, rfl, (atC_0 h).symm⟩
  · intro x hI
    obtain ⟨n_, t7, t8⟩ := x
    replace hI : 0 ≤ t8 ∧ t8 ≤ c ∧ t7 = c ∧ n_ = atC n k t8.toNat := hI
    show codeY _ _ _ [(0, .yld Y.l), (1, .rpar 1 [.int .i64 n]), (2, .rpar 2 [.int .i64 c]), (3, .rpar 3 [.int .i64 k]), (5, .val (.int .i64 n_)), (7, .val (.int .i64 t7)), (8, .val (.int .i64 t8))] (false, t8.toNat) _
    obtain ⟨i1, i2, rfl, rfl⟩ := hI
    have ha := atC_ok h t8.toNat
    have hn := Cn_bd ha
    refine codeY_seq (fun K3 hK3 => ?_)
    refine codeY_of rfl rfl ?_
    refine code_region ?_
    refine list_cons rfl (op_q (q_lt rfl rfl (by decide)) ?_)
    refine list_nil ?_
    refine thy_n ?_
    refine hK3 _ _ ?_; clear hK3 K3
    refine codeY_imp (σ' := [(0, _), (1, _), (2, _), (3, _), (5, _), (7, _), (8, _), (9, _)]) rfl (imp_covers ⟨rfl, rfl, rfl, rfl, rfl, rfl, rfl, rfl, trivial⟩) ?_
    refine codeY_seq (fun K4 hK4 => ?_)
    refine codeY_of rfl rfl ?_
    refine code_cond_d rfl (fun h1 => ?_) (fun h1 => ?_)
    · skip
      (try simp only [Decidable.not_not] at h1)
      refine code_skip ?_
      refine thy_n ?_
      refine hK4 _ _ ?_; clear hK4 K4
      refine codeY_imp (σ' := [(0, _), (1, _), (2, _), (3, _), (5, _), (7, _), (8, _)]) rfl (imp_covers ⟨rfl, rfl, rfl, rfl, rfl, rfl, rfl, trivial⟩) ?_
      refine codeY_seq (fun K5 hK5 => ?_)
      refine codeY_block ?_
      refine codeY_seq (fun K6 hK6 => ?_)
      refine codeY_seq (fun K7 hK7 => ?_)
      refine codeY_region ?_
      refine listY_op rfl rfl (op_q (q_move rfl (by decide)) ?_)
      refine listY_op rfl rfl (op_q (q_move rfl (by decide)) ?_)
      refine listY_yield (k := t8.toNat) rfl rfl (by rw [hYe]; rfl) (by rw [hYe]; rfl) (by rw [hYN]; omega) rfl (by decide) (.inr trivial) ?_ ?_
      · skip
        refine listY_op rfl rfl (op_q (by first | exact q_notd rfl (by decide) | exact q_not rfl (by decide)) ?_)
        refine listY_nil ?_
        refine thy_n ?_
        refine hK7 _ _ ?_; clear hK7 K7
        refine codeY_imp (σ' := [(0, _), (1, _), (2, _), (3, _), (5, _), (7, _), (8, _), (13, _)]) rfl (imp_covers ⟨rfl, rfl, rfl, rfl, rfl, rfl, rfl, rfl, trivial⟩) ?_
        refine codeY_of rfl rfl ?_
        refine code_cond_f rfl ?_
        refine code_skip ?_
        refine thy_n ?_
        refine hK6 _ _ ?_; clear hK6 K6
        refine codeY_imp (σ' := [(0, _), (1, _), (2, _), (3, _), (5, _), (7, _), (8, _)]) rfl (imp_covers ⟨rfl, rfl, rfl, rfl, rfl, rfl, rfl, trivial⟩) ?_
        refine codeY_of rfl rfl ?_
        refine code_region ?_
        refine list_cons rfl (op_q (q_move rfl (by decide)) ?_)
        refine list_cons rfl (op_q (q_load_rd one_3 rfl (.inl ⟨_, (by first | rfl | exact congrArg (SV.rpar _) (drop_map1 _ 0 _ (by first | omega | (simp; omega)))), rfl⟩) (by decide)) ?_)
        refine list_cons rfl (op_call _ (impl_afterStep _ _ (by assumption)) rfl rfl (by decide) (by decide) (by decide) rfl ?_)
        rintro _ rfl
        refine list_cons rfl (op_q (q_assign rfl (by decide)) ?_)
        refine list_nil ?_
        refine bly_n ?_
        refine thy_n ?_
        refine hK5 _ _ ?_; clear hK5 K5
        refine codeY_imp (σ' := [(0, _), (1, _), (2, _), (3, _), (5, _), (7, _), (8, _)]) rfl (imp_covers ⟨rfl, rfl, rfl, rfl, rfl, rfl, rfl, trivial⟩) ?_
        refine codeY_of rfl rfl ?_
        refine code_region ?_
        refine list_cons rfl (op_q (by first | exact q_addI rfl rfl (by decide) (by omega) (by omega) | exact q_ib rfl rfl rfl (by decide)) ?_)
        refine list_cons rfl (op_q (q_move rfl (by decide)) ?_)
        refine list_nil ?_
        refine thy_n ⟨(_, _, _), rfl, imp_covers ⟨rfl, rfl, rfl, rfl, rfl, rfl, rfl, trivial⟩, ?_, ?_, ?_⟩
        · (try dsimp only); (first | rfl | (congr 1; omega) | (simp; omega))
        · (try dsimp only)
          exact ⟨by omega, by omega, rfl, by rw [show (t8 + 1).toNat = t8.toNat + 1 by omega]; exact (atC_succ n k _).symm⟩
        · (try dsimp only); omega
      · skip
        refine listY_op rfl rfl (op_q (by first | exact q_notd rfl (by decide) | exact q_not rfl (by decide)) ?_)
        refine listY_nil ?_
        refine thy_n ?_
        refine hK7 _ _ ?_; clear hK7 K7
        refine codeY_imp (σ' := [(0, _), (1, _), (2, _), (3, _), (5, _), (7, _), (8, _), (13, _)]) rfl (imp_covers ⟨rfl, rfl, rfl, rfl, rfl, rfl, rfl, rfl, trivial⟩) ?_
        refine codeY_of rfl rfl ?_
        refine code_cond_t rfl ?_
        refine code_ret ?_
        refine thy_r ?_
        refine bly_r ?_
        refine thy_r ?_
        refine thy_r ?_
        refine bly_r ?_
        exact ⟨.inr rfl, .inl ⟨rfl, by (try dsimp only); omega⟩⟩
    (try simp only [Decidable.not_not] at h1)
    refine code_exit ?_
    refine thy_x ?_; clear hK4 K4
    refine thy_x ?_
    refine bly_hit ?_
    exact ⟨.inl rfl, .inr (by simp; omega)⟩

set_option maxRecDepth 4000 in
theorem impl_numbersFrom (n c k : Int) : PCalls Tryd.prog 86 [.int .i64 n, .int .i64 c, .int .i64 k] (· = [.frz 0 (.clo 144 [.ptr [.int .i64 n], .ptr [.int .i64 c], .ptr [.int .i64 k]])]) := by
  refine pcalls_of_code (n := 8) az Tryd.func86 (by kernel_rfl) rfl rfl (Nat.le_of_ble_eq_true rfl) (by intro t u h; simp [Tryd.f86] at h) ?_
  refine code_seq (fun K1 hK1 => ?_)
  refine code_region ?_
  refine list_cons rfl (op_box rfl (.inl ⟨rfl, rfl⟩) (by decide) (by decide) rfl ?_)
  refine list_cons rfl (op_box rfl (.inl ⟨rfl, rfl⟩) (by decide) (by decide) rfl ?_)
  refine list_cons rfl (op_box rfl (.inl ⟨rfl, rfl⟩) (by decide) (by decide) rfl ?_)
  refine list_cons rfl (op_q (q_deadconst (by decide)) ?_)
  refine list_nil ?_
  refine hK1 _ ?_; clear hK1 K1
  refine code_seq (fun K2 hK2 => ?_)
  refine code_region ?_
  refine list_cons rfl (op_makeFunc (xs := [.tmp 3, .tmp 4, .tmp 5]) rfl rfl rfl (by decide) (by decide) rfl ?_)
  refine list_cons rfl (op_q (q_assign rfl (by decide)) ?_)
  refine list_nil ?_
  refine hK2 _ ?_; clear hK2 K2
  refine codeT.imp (σ' := [(0, _), (1, _), (2, _), (3, _), (4, _), (5, _), (6, _)]) ?_ (imp_covers ⟨rfl, rfl, rfl, rfl, rfl, rfl, rfl, trivial⟩)
  refine code_ret ?_
  refine ends_ret (cs := []) rfl rfl rfl rfl trivial ?_
  rfl

set_option maxRecDepth 4000 in
theorem impl_RunChanges (n s k : Int) : PCalls Tryd.prog 17 [.int .i64 n, .int .i64 s, .int .i64 k] (· = [.val (.int .i64 (if Cn n k ∧ 0 ≤ s ∧ s ≤ 1000 then runC n k s.toNat else 0)), .val (.bool (decide (Cn n k ∧ 0 ≤ s ∧ s ≤ 1000)))]) := by
  refine pcalls_of_code (n := 34) az Tryd.func17 (by kernel_rfl) rfl rfl (Nat.le_of_ble_eq_true rfl) (by intro t u h; simp [Tryd.f17] at h; rcases h with ⟨_, rfl⟩ | ⟨_, rfl⟩ <;> first | exact resTy_one (one_3).1 rfl | exact resTy_one (one_4).1 rfl) ?_
  refine code_seq (fun K1 hK1 => ?_)
  refine code_region ?_
  refine list_cons rfl (op_box rfl (.inl ⟨rfl, rfl⟩) (by decide) (by decide) rfl ?_)
  refine list_cons rfl (op_alloc zt_3 (by decide) (by decide) rfl ?_)
  refine list_cons rfl (op_alloc zt_4 (by decide) (by decide) rfl ?_)
  refine list_nil ?_
  refine hK1 _ ?_; clear hK1 K1
  refine code_seq (fun K2 hK2 => ?_)
  refine code_seq (fun K3 hK3 => ?_)
  refine code_region ?_
  refine list_cons rfl (op_q (q_move rfl (by decide)) ?_)
  refine list_cons rfl (op_q (q_move rfl (by decide)) ?_)
  refine list_cons rfl (op_q (q_load_box1 one_3 rfl rfl (by decide)) ?_)
  refine list_cons rfl (op_call _ (impl_isRun _ _ _) rfl rfl (by decide) (by decide) (by decide) rfl ?_)
  rintro _ rfl
  refine list_cons rfl (op_q (by first | exact q_notd rfl (by decide) | exact q_not rfl (by decide)) ?_)
  refine list_nil ?_
  refine hK3 _ ?_; clear hK3 K3
  refine codeT.imp (σ' := [(0, _), (1, _), (2, _), (5, _), (6, _), (7, _), (16, _)]) ?_ (imp_covers ⟨rfl, rfl, rfl, rfl, rfl, rfl, rfl, trivial⟩)
  refine code_cond_d rfl (fun h1 => ?_) (fun h1 => ?_)
  · skip
    (try simp only [Decidable.not_not] at h1)
    refine code_seq (fun K4 hK4 => ?_)
    refine code_region ?_
    refine list_cons rfl (op_store (one_3).2 6 [6] (by intro t ht; simp only [List.mem_cons, List.not_mem_nil, or_false] at ht; subst ht; rfl) (.inr ⟨rfl, _, rfl⟩) rfl rfl rfl rfl rfl rfl (by first | decide | omega | exact Nat.le_refl _ | (simp; done) | (simp; omega)) (by decide) rfl ?_)
    refine list_cons rfl (op_store (one_4).2 7 [7] (by intro t ht; simp only [List.mem_cons, List.not_mem_nil, or_false] at ht; subst ht; rfl) (.inr ⟨rfl, _, rfl⟩) rfl rfl rfl rfl rfl rfl (by first | decide | omega | exact Nat.le_refl _ | (simp; done) | (simp; omega)) (by decide) rfl ?_)
    refine list_nil ?_
    refine hK4 _ ?_; clear hK4 K4
    refine codeT.imp (σ' := [(0, _), (1, _), (2, _), (5, _), (6, _), (7, _)]) ?_ (imp_covers ⟨rfl, rfl, rfl, rfl, rfl, rfl, trivial⟩)
    refine code_ret ?_
    refine then_r ?_; clear hK2 K2
    refine ends_ret (cs := []) rfl rfl rfl rfl trivial ?_
    have e : ¬ (Cn n k ∧ 0 ≤ s ∧ s ≤ 1000) := by assumption
    simp only [if_neg e, decide_eq_false e]
  (try simp only [Decidable.not_not] at h1)
  refine code_skip ?_
  refine hK2 _ ?_; clear hK2 K2
  refine code_seq (fun K5 hK5 => ?_)
  refine code_region ?_
  refine list_cons rfl (op_alloc zt_3 (by decide) (by decide) rfl ?_)
  refine list_cons rfl (op_store (one_3).2 8 [8] (by intro t ht; simp only [List.mem_cons, List.not_mem_nil, or_false] at ht; subst ht; rfl) (.inr ⟨rfl, _, rfl⟩) rfl rfl rfl rfl rfl rfl (by first | decide | omega | exact Nat.le_refl _ | (simp; done) | (simp; omega)) (by decide) rfl ?_)
  refine list_nil ?_
  refine hK5 _ ?_; clear hK5 K5
  refine codeT.imp (σ' := [(0, _), (1, _), (2, _), (5, _), (6, _), (7, _), (8, _)]) ?_ (imp_covers ⟨rfl, rfl, rfl, rfl, rfl, rfl, rfl, trivial⟩)
  refine code_seq (fun K6 hK6 => ?_)
  refine code_seq (fun K7 hK7 => ?_)
  refine code_region ?_
  refine list_cons rfl (op_q (q_move rfl (by decide)) ?_)
  refine list_cons rfl (op_q (q_move rfl (by decide)) ?_)
  refine list_cons rfl (op_q (q_load_box1 one_3 rfl rfl (by decide)) ?_)
  refine list_cons rfl (op_call _ (impl_numbersFrom _ _ _) rfl rfl (by decide) (by decide) (by decide) rfl ?_)
  rintro _ rfl
  refine listT.imp ?_ imp_unfrz
  refine list_nil ?_
  refine hK7 _ ?_; clear hK7 K7
  refine codeT.imp (σ' := [(0, _), (1, _), (2, _), (5, _), (6, _), (7, _), (8, _), (20, _)]) ?_ (imp_covers ⟨rfl, rfl, rfl, rfl, rfl, rfl, rfl, rfl, trivial⟩)
  refine code_block ?_
  refine code_rangeFunc (numbersFrom_it n s k (by exact h1.1) (by exact h1.2.1) (by exact h1.2.2)) ((fun (s0 s1 s2 s5 s6 s7 : SV) (i : Nat) => ([(0, s0), (1, s1), (2, s2), (5, s5), (6, s6), (7, s7), (8, .box 8 3 [.int .i64 (runC n k i)])] : St)) _ _ _ _ _ _) (fun i => True) (trivial) rfl rfl rfl (by decide) rfl (fun _ _ => ⟨rfl, rfl⟩) (fun _ => rfl) rfl rfl (imp_covers ⟨rfl, rfl, rfl, rfl, rfl, rfl, rfl, trivial⟩) (fun i hi hIi => ?_) (fun hIi => ?_)
  · intro K8 hK8
    refine codeT.imp (σ' := [(21, .val (.int .i64 (atC n k i))), (0, _), (1, _), (2, _), (5, _), (6, _), (7, _), (8, _)]) ?_ (imp_covers ⟨rfl, rfl, rfl, rfl, rfl, rfl, rfl, rfl, trivial⟩)
    have hk := Cn_bd h1.1
    have hr := runC_le (n := n) (k := k) (by omega) i
    have ha := atC_ok h1.1 i
    have hs := stepC_le (n := atC n k i) (k := k) (by omega)
    refine code_region ?_
    refine list_cons rfl (op_q (q_assign rfl (by decide)) ?_)
    refine list_nil ?_
    refine hK8 _ rfl ?_; clear hK8 K8
    refine codeT.imp (σ' := [(0, _), (1, _), (2, _), (5, _), (6, _), (7, _), (8, _), (9, _), (21, _)]) ?_ (imp_covers ⟨rfl, rfl, rfl, rfl, rfl, rfl, rfl, rfl, rfl, trivial⟩)
    refine code_block ?_
    refine code_seq (fun K9 hK9 => ?_)
    refine code_region ?_
    refine list_cons rfl (op_q (q_move rfl (by decide)) ?_)
    refine list_cons rfl (op_q (q_load_box1 one_3 rfl rfl (by decide)) ?_)
    refine list_cons rfl (op_call _ (impl_StepChangesY (atC n k i) k ha) rfl rfl (by decide) (by decide) (by decide) rfl ?_)
    rintro _ rfl
    refine list_cons rfl (op_q (q_move rfl (by decide)) ?_)
    refine list_cons rfl (op_q (q_extract rfl rfl (by decide)) ?_)
    refine list_cons rfl (op_q (q_extract rfl rfl (by decide)) ?_)
    refine list_cons rfl (op_q (q_assign rfl (by decide)) ?_)
    refine list_cons rfl (op_q (q_assign rfl (by decide)) ?_)
    refine list_nil ?_
    refine hK9 _ ?_; clear hK9 K9
    refine codeT.imp (σ' := [(0, _), (1, _), (2, _), (5, _), (6, _), (7, _), (8, _), (9, _), (10, _), (11, _), (21, _)]) ?_ (imp_covers ⟨rfl, rfl, rfl, rfl, rfl, rfl, rfl, rfl, rfl, rfl, rfl, trivial⟩)
    refine code_seq (fun K10 hK10 => ?_)
    refine code_seq (fun K11 hK11 => ?_)
    refine code_region ?_
    refine list_cons rfl (op_q (q_move rfl (by decide)) ?_)
    refine list_cons rfl (op_q (by first | exact q_notd rfl (by decide) | exact q_not rfl (by decide)) ?_)
    refine list_nil ?_
    refine hK11 _ ?_; clear hK11 K11
    refine code_cond_f rfl ?_
    refine code_skip ?_
    refine hK10 _ ?_; clear hK10 K10
    refine code_region ?_
    refine list_cons rfl (op_q (q_load_box1 one_3 rfl rfl (by decide)) ?_)
    refine list_cons rfl (op_q (q_move rfl (by decide)) ?_)
    refine list_cons rfl (op_q (by first | exact q_addI rfl rfl (by decide) (by omega) (by omega) | exact q_ib rfl rfl rfl (by decide)) ?_)
    refine list_cons rfl (op_store (one_3).2 8 [8] (by intro t ht; simp only [List.mem_cons, List.not_mem_nil, or_false] at ht; subst ht; rfl) (.inr ⟨rfl, _, rfl⟩) rfl rfl rfl rfl rfl rfl (by first | decide | omega | exact Nat.le_refl _ | (simp; done) | (simp; omega)) (by decide) rfl ?_)
    refine list_nil ?_
    refine blk_n ?_
    refine rp_n ⟨trivial, imp_covers ⟨rfl, rfl, rfl, rfl, rfl, rfl, rfl, trivial⟩⟩
  · skip
    refine blk_n ?_
    refine hK6 _ ?_; clear hK6 K6
    refine codeT.imp (σ' := [(0, _), (1, _), (2, _), (5, _), (6, _), (7, _), (8, _)]) ?_ (imp_covers ⟨rfl, rfl, rfl, rfl, rfl, rfl, rfl, trivial⟩)
    refine code_seq (fun K12 hK12 => ?_)
    refine code_region ?_
    refine list_cons rfl (op_q (q_load_box1 one_3 rfl rfl (by decide)) ?_)
    refine list_cons rfl (op_store (one_3).2 6 [6] (by intro t ht; simp only [List.mem_cons, List.not_mem_nil, or_false] at ht; subst ht; rfl) (.inr ⟨rfl, _, rfl⟩) rfl rfl rfl rfl rfl rfl (by first | decide | omega | exact Nat.le_refl _ | (simp; done) | (simp; omega)) (by decide) rfl ?_)
    refine list_cons rfl (op_store (one_4).2 7 [7] (by intro t ht; simp only [List.mem_cons, List.not_mem_nil, or_false] at ht; subst ht; rfl) (.inr ⟨rfl, _, rfl⟩) rfl rfl rfl rfl rfl rfl (by first | decide | omega | exact Nat.le_refl _ | (simp; done) | (simp; omega)) (by decide) rfl ?_)
    refine list_nil ?_
    refine hK12 _ ?_; clear hK12 K12
    refine codeT.imp (σ' := [(0, _), (1, _), (2, _), (5, _), (6, _), (7, _), (8, _)]) ?_ (imp_covers ⟨rfl, rfl, rfl, rfl, rfl, rfl, rfl, trivial⟩)
    refine code_ret ?_
    refine ends_ret (cs := []) rfl rfl rfl rfl trivial ?_
    have e : Cn n k ∧ 0 ≤ s ∧ s ≤ 1000 := h1
    simp only [if_pos e, decide_eq_true e]

set_option maxRecDepth 4000 in
theorem impl_LightOf (n s k : Int) : PCalls Tryd.prog 22 [.int .i64 n, .int .i64 s, .int .i64 k] (· = [.val (.int .i64 (if (Cn n k ∧ 0 ≤ s ∧ s ≤ 1000) ∧ s ≠ 0 then lightC n k s.toNat else 0)), .val (.bool (decide ((Cn n k ∧ 0 ≤ s ∧ s ≤ 1000) ∧ s ≠ 0)))]) := by
  refine pcalls_of_code (n := 49) az Tryd.func22 (by kernel_rfl) rfl rfl (Nat.le_of_ble_eq_true rfl) (by intro t u h; simp [Tryd.f22] at h; rcases h with ⟨_, rfl⟩ | ⟨_, rfl⟩ <;> first | exact resTy_one (one_3).1 rfl | exact resTy_one (one_4).1 rfl) ?_
  refine code_seq (fun K1 hK1 => ?_)
  refine code_region ?_
  refine list_cons rfl (op_box rfl (.inl ⟨rfl, rfl⟩) (by decide) (by decide) rfl ?_)
  refine list_cons rfl (op_alloc zt_3 (by decide) (by decide) rfl ?_)
  refine list_cons rfl (op_alloc zt_4 (by decide) (by decide) rfl ?_)
  refine list_nil ?_
  refine hK1 _ ?_; clear hK1 K1
  refine code_seq (fun K2 hK2 => ?_)
  refine code_seq (fun K3 hK3 => ?_)
  refine code_region ?_
  refine list_cons rfl (op_q (q_move rfl (by decide)) ?_)
  refine list_cons rfl (op_q (q_move rfl (by decide)) ?_)
  refine list_cons rfl (op_q (q_load_box1 one_3 rfl rfl (by decide)) ?_)
  refine list_cons rfl (op_call _ (impl_isRun _ _ _) rfl rfl (by decide) (by decide) (by decide) rfl ?_)
  rintro _ rfl
  refine list_cons rfl (op_q (by first | exact q_notd rfl (by decide) | exact q_not rfl (by decide)) ?_)
  refine list_cons rfl (op_q (q_move rfl (by decide)) ?_)
  refine list_guard_d rfl rfl rfl rfl (by decide) rfl (by decide) (fun h1 => ?_) (fun h1 => ?_)
  · simp only [Bool.false_eq_true, if_true, if_false, Decidable.not_not] at h1
    refine id (op_q (q_move rfl (by decide)) ?_)
    refine list_guard_y rfl rfl rfl rfl (by decide) rfl ?_
    refine id (op_q (q_eq rfl rfl (by decide)) ?_)
    refine list_cons rfl (op_q (q_pick rfl rfl (by decide)) ?_)
    refine list_nil ?_
    refine hK3 _ ?_; clear hK3 K3
    refine codeT.imp (σ' := [(0, _), (1, _), (2, _), (5, _), (6, _), (7, _), (22, _)]) ?_ (imp_covers ⟨rfl, rfl, rfl, rfl, rfl, rfl, rfl, trivial⟩)
    refine code_cond_d rfl (fun h2 => ?_) (fun h2 => ?_)
    · skip
      (try simp only [Decidable.not_not] at h2)
      refine code_seq (fun K4 hK4 => ?_)
      refine code_region ?_
      refine list_cons rfl (op_store (one_3).2 6 [6] (by intro t ht; simp only [List.mem_cons, List.not_mem_nil, or_false] at ht; subst ht; rfl) (.inr ⟨rfl, _, rfl⟩) rfl rfl rfl rfl rfl rfl (by first | decide | omega | exact Nat.le_refl _ | (simp; done) | (simp; omega)) (by decide) rfl ?_)
      refine list_cons rfl (op_store (one_4).2 7 [7] (by intro t ht; simp only [List.mem_cons, List.not_mem_nil, or_false] at ht; subst ht; rfl) (.inr ⟨rfl, _, rfl⟩) rfl rfl rfl rfl rfl rfl (by first | decide | omega | exact Nat.le_refl _ | (simp; done) | (simp; omega)) (by decide) rfl ?_)
      refine list_nil ?_
      refine hK4 _ ?_; clear hK4 K4
      refine codeT.imp (σ' := [(0, _), (1, _), (2, _), (5, _), (6, _), (7, _)]) ?_ (imp_covers ⟨rfl, rfl, rfl, rfl, rfl, rfl, trivial⟩)
      refine code_ret ?_
      refine then_r ?_; clear hK2 K2
      refine ends_ret (cs := []) rfl rfl rfl rfl trivial ?_
      first
        | (have e : ¬ ((Cn n k ∧ 0 ≤ s ∧ s ≤ 1000) ∧ s ≠ 0) := by (first | exact fun h => h.2 (by assumption) | exact fun h => absurd h.1 (by assumption))
           simp only [if_neg e, decide_eq_false e]; done)
        | (have e : (Cn n k ∧ 0 ≤ s ∧ s ≤ 1000) ∧ s ≠ 0 := ⟨by assumption, by assumption⟩
           simp only [if_pos e, decide_eq_true e])
    (try simp only [Decidable.not_not] at h2)
    refine code_skip ?_
    refine hK2 _ ?_; clear hK2 K2
    refine code_seq (fun K5 hK5 => ?_)
    refine code_region ?_
    refine list_cons rfl (op_alloc zt_3 (by decide) (by decide) rfl ?_)
    refine list_cons rfl (op_store (one_3).2 8 [8] (by intro t ht; simp only [List.mem_cons, List.not_mem_nil, or_false] at ht; subst ht; rfl) (.inr ⟨rfl, _, rfl⟩) rfl rfl rfl rfl rfl rfl (by first | decide | omega | exact Nat.le_refl _ | (simp; done) | (simp; omega)) (by decide) rfl ?_)
    refine list_nil ?_
    refine hK5 _ ?_; clear hK5 K5
    refine codeT.imp (σ' := [(0, _), (1, _), (2, _), (5, _), (6, _), (7, _), (8, _)]) ?_ (imp_covers ⟨rfl, rfl, rfl, rfl, rfl, rfl, rfl, trivial⟩)
    refine code_seq (fun K6 hK6 => ?_)
    refine code_seq (fun K7 hK7 => ?_)
    refine code_region ?_
    refine list_cons rfl (op_q (q_move rfl (by decide)) ?_)
    refine list_cons rfl (op_q (q_move rfl (by decide)) ?_)
    refine list_cons rfl (op_q (q_load_box1 one_3 rfl rfl (by decide)) ?_)
    refine list_cons rfl (op_call _ (impl_numbersFrom _ _ _) rfl rfl (by decide) (by decide) (by decide) rfl ?_)
    rintro _ rfl
    refine listT.imp ?_ imp_unfrz
    refine list_nil ?_
    refine hK7 _ ?_; clear hK7 K7
    refine codeT.imp (σ' := [(0, _), (1, _), (2, _), (5, _), (6, _), (7, _), (8, _), (26, _)]) ?_ (imp_covers ⟨rfl, rfl, rfl, rfl, rfl, rfl, rfl, rfl, trivial⟩)
    refine code_block ?_
    refine code_rangeFunc (numbersFrom_it n s k (by exact h1.1) (by exact h1.2.1) (by exact h1.2.2)) ((fun (s0 s1 s2 s5 s6 s7 : SV) (i : Nat) => ([(0, s0), (1, s1), (2, s2), (5, s5), (6, s6), (7, s7), (8, .box 8 3 [.int .i64 (lightC n k i)])] : St)) _ _ _ _ _ _) (fun i => True) (trivial) rfl rfl rfl (by decide) rfl (fun _ _ => ⟨rfl, rfl⟩) (fun _ => rfl) rfl rfl (imp_covers ⟨rfl, rfl, rfl, rfl, rfl, rfl, rfl, trivial⟩) (fun i hi hIi => ?_) (fun hIi => ?_)
    · intro K8 hK8
      refine codeT.imp (σ' := [(27, .val (.int .i64 (atC n k i))), (0, _), (1, _), (2, _), (5, _), (6, _), (7, _), (8, _)]) ?_ (imp_covers ⟨rfl, rfl, rfl, rfl, rfl, rfl, rfl, rfl, trivial⟩)
      have hk := Cn_bd h1.1
      have hr := lightC_le (n := n) (k := k) (by omega) (by omega) i
      have ha := atC_ok h1.1 i
      have hs := litF_le (rowC (atC n k i) k)
      have hw : RowP (rowC (atC n k i) k) := rowC_row (by omega)
      have hwl : ((rowC (atC n k i) k).length : Int) = k := rowC_len _ (by omega)
      refine code_region ?_
      refine list_cons rfl (op_q (q_assign rfl (by decide)) ?_)
      refine list_nil ?_
      refine hK8 _ rfl ?_; clear hK8 K8
      refine codeT.imp (σ' := [(0, _), (1, _), (2, _), (5, _), (6, _), (7, _), (8, _), (9, _), (27, _)]) ?_ (imp_covers ⟨rfl, rfl, rfl, rfl, rfl, rfl, rfl, rfl, rfl, trivial⟩)
      refine code_block ?_
      refine code_seq (fun K9 hK9 => ?_)
      refine code_region ?_
      refine list_cons rfl (op_q (q_move rfl (by decide)) ?_)
      refine list_cons rfl (op_q (q_load_box1 one_3 rfl rfl (by decide)) ?_)
      refine list_cons rfl (op_call _ (impl_CounterRow (atC n k i) k) rfl rfl (by decide) (by decide) (by decide) rfl ?_)
      rintro _ rfl; simp only [if_pos ha, decide_eq_true ha]
      refine list_cons rfl (op_q (q_move rfl (by decide)) ?_)
      refine list_cons rfl (op_q (q_extract rfl rfl (by decide)) ?_)
      refine list_cons rfl (op_q (q_extract rfl rfl (by decide)) ?_)
      refine list_cons rfl (op_q (q_assign rfl (by decide)) ?_)
      refine list_cons rfl (op_q (q_assign rfl (by decide)) ?_)
      refine list_nil ?_
      refine hK9 _ ?_; clear hK9 K9
      refine codeT.imp (σ' := [(0, _), (1, _), (2, _), (5, _), (6, _), (7, _), (8, _), (9, _), (10, _), (11, _), (27, _)]) ?_ (imp_covers ⟨rfl, rfl, rfl, rfl, rfl, rfl, rfl, rfl, rfl, rfl, rfl, trivial⟩)
      refine code_seq (fun K10 hK10 => ?_)
      refine code_region ?_
      refine list_cons rfl (op_q (q_move rfl (by decide)) ?_)
      refine list_cons rfl (op_call _ (impl_LitOf (rowC (atC n k i) k) (by omega)) rfl rfl (by decide) (by decide) (by decide) rfl ?_)
      rintro _ rfl; simp only [if_pos hw, decide_eq_true hw]
      refine list_cons rfl (op_q (q_move rfl (by decide)) ?_)
      refine list_cons rfl (op_q (q_extract rfl rfl (by decide)) ?_)
      refine list_cons rfl (op_q (q_extract rfl rfl (by decide)) ?_)
      refine list_cons rfl (op_q (q_assign rfl (by decide)) ?_)
      refine list_cons rfl (op_q (q_assign rfl (by decide)) ?_)
      refine list_nil ?_
      refine hK10 _ ?_; clear hK10 K10
      refine codeT.imp (σ' := [(0, _), (1, _), (2, _), (5, _), (6, _), (7, _), (8, _), (9, _), (10, _), (11, _), (12, _), (13, _), (27, _)]) ?_ (imp_covers ⟨rfl, rfl, rfl, rfl, rfl, rfl, rfl, rfl, rfl, rfl, rfl, rfl, rfl, trivial⟩)
      refine code_seq (fun K11 hK11 => ?_)
      refine code_seq (fun K12 hK12 => ?_)
      refine code_region ?_
      refine list_cons rfl (op_q (q_move rfl (by decide)) ?_)
      refine list_cons rfl (op_q (by first | exact q_notd rfl (by decide) | exact q_not rfl (by decide)) ?_)
      refine list_cons rfl (op_q (q_move rfl (by decide)) ?_)
      refine list_guard_y rfl rfl rfl rfl (by decide) rfl ?_
      refine id (op_q (q_move rfl (by decide)) ?_)
      refine list_guard_y rfl rfl rfl rfl (by decide) rfl ?_
      refine id (op_q (by first | exact q_notd rfl (by decide) | exact q_not rfl (by decide)) ?_)
      refine list_cons rfl (op_q (q_pick rfl rfl (by decide)) ?_)
      refine list_nil ?_
      refine hK12 _ ?_; clear hK12 K12
      refine code_cond_f rfl ?_
      refine code_skip ?_
      refine hK11 _ ?_; clear hK11 K11
      refine code_region ?_
      refine list_cons rfl (op_q (q_load_box1 one_3 rfl rfl (by decide)) ?_)
      refine list_cons rfl (op_q (q_move rfl (by decide)) ?_)
      refine list_cons rfl (op_q (by first | exact q_addI rfl rfl (by decide) (by omega) (by omega) | exact q_ib rfl rfl rfl (by decide)) ?_)
      refine list_cons rfl (op_store (one_3).2 8 [8] (by intro t ht; simp only [List.mem_cons, List.not_mem_nil, or_false] at ht; subst ht; rfl) (.inr ⟨rfl, _, rfl⟩) rfl rfl rfl rfl rfl rfl (by first | decide | omega | exact Nat.le_refl _ | (simp; done) | (simp; omega)) (by decide) rfl ?_)
      refine list_nil ?_
      refine blk_n ?_
      refine rp_n ⟨trivial, imp_covers ⟨rfl, rfl, rfl, rfl, rfl, rfl, rfl, trivial⟩⟩
    · skip
      refine blk_n ?_
      refine hK6 _ ?_; clear hK6 K6
      refine codeT.imp (σ' := [(0, _), (1, _), (2, _), (5, _), (6, _), (7, _), (8, _)]) ?_ (imp_covers ⟨rfl, rfl, rfl, rfl, rfl, rfl, rfl, trivial⟩)
      refine code_seq (fun K13 hK13 => ?_)
      refine code_region ?_
      refine list_cons rfl (op_q (q_load_box1 one_3 rfl rfl (by decide)) ?_)
      refine list_cons rfl (op_store (one_3).2 6 [6] (by intro t ht; simp only [List.mem_cons, List.not_mem_nil, or_false] at ht; subst ht; rfl) (.inr ⟨rfl, _, rfl⟩) rfl rfl rfl rfl rfl rfl (by first | decide | omega | exact Nat.le_refl _ | (simp; done) | (simp; omega)) (by decide) rfl ?_)
      refine list_cons rfl (op_store (one_4).2 7 [7] (by intro t ht; simp only [List.mem_cons, List.not_mem_nil, or_false] at ht; subst ht; rfl) (.inr ⟨rfl, _, rfl⟩) rfl rfl rfl rfl rfl rfl (by first | decide | omega | exact Nat.le_refl _ | (simp; done) | (simp; omega)) (by decide) rfl ?_)
      refine list_nil ?_
      refine hK13 _ ?_; clear hK13 K13
      refine codeT.imp (σ' := [(0, _), (1, _), (2, _), (5, _), (6, _), (7, _), (8, _)]) ?_ (imp_covers ⟨rfl, rfl, rfl, rfl, rfl, rfl, rfl, trivial⟩)
      refine code_ret ?_
      refine ends_ret (cs := []) rfl rfl rfl rfl trivial ?_
      first
        | (have e : ¬ ((Cn n k ∧ 0 ≤ s ∧ s ≤ 1000) ∧ s ≠ 0) := by (first | exact fun h => h.2 (by assumption) | exact fun h => absurd h.1 (by assumption))
           simp only [if_neg e, decide_eq_false e]; done)
        | (have e : (Cn n k ∧ 0 ≤ s ∧ s ≤ 1000) ∧ s ≠ 0 := ⟨by assumption, by assumption⟩
           simp only [if_pos e, decide_eq_true e])
  simp only [Bool.false_eq_true, if_true, if_false, Decidable.not_not] at h1
  refine list_guard_n rfl rfl rfl rfl (by decide) rfl ?_
  refine list_cons rfl (op_q (q_pick rfl rfl (by decide)) ?_)
  refine list_nil ?_
  refine hK3 _ ?_; clear hK3 K3
  refine code_cond_t rfl ?_
  refine code_seq (fun K14 hK14 => ?_)
  refine code_region ?_
  refine list_cons rfl (op_store (one_3).2 6 [6] (by intro t ht; simp only [List.mem_cons, List.not_mem_nil, or_false] at ht; subst ht; rfl) (.inr ⟨rfl, _, rfl⟩) rfl rfl rfl rfl rfl rfl (by first | decide | omega | exact Nat.le_refl _ | (simp; done) | (simp; omega)) (by decide) rfl ?_)
  refine list_cons rfl (op_store (one_4).2 7 [7] (by intro t ht; simp only [List.mem_cons, List.not_mem_nil, or_false] at ht; subst ht; rfl) (.inr ⟨rfl, _, rfl⟩) rfl rfl rfl rfl rfl rfl (by first | decide | omega | exact Nat.le_refl _ | (simp; done) | (simp; omega)) (by decide) rfl ?_)
  refine list_nil ?_
  refine hK14 _ ?_; clear hK14 K14
  refine codeT.imp (σ' := [(0, _), (1, _), (2, _), (5, _), (6, _), (7, _)]) ?_ (imp_covers ⟨rfl, rfl, rfl, rfl, rfl, rfl, trivial⟩)
  refine code_ret ?_
  refine then_r ?_; clear hK2 K2
  refine ends_ret (cs := []) rfl rfl rfl rfl trivial ?_
  first
    | (have e : ¬ ((Cn n k ∧ 0 ≤ s ∧ s ≤ 1000) ∧ s ≠ 0) := by (first | exact fun h => h.2 (by assumption) | exact fun h => absurd h.1 (by assumption))
       simp only [if_neg e, decide_eq_false e]; done)
    | (have e : (Cn n k ∧ 0 ≤ s ∧ s ≤ 1000) ∧ s ≠ 0 := ⟨by assumption, by assumption⟩
       simp only [if_pos e, decide_eq_true e])

set_option maxRecDepth 4000 in
set_option maxHeartbeats 2000000 in
theorem impl_FirstOver (n k ch : Int) : PCalls Tryd.prog 34 [.int .i64 n, .int .i64 k, .int .i64 ch] (· = [.val (.int .i64 (if Cn n k ∧ 0 ≤ ch then overV (overC n k ch) else 0)), .val (.bool (decide (Cn n k ∧ 0 ≤ ch ∧ (overC n k ch).isSome = true)))]) := by
  refine pcalls_of_code (n := 45) az Tryd.func34 (by kernel_rfl) rfl rfl (Nat.le_of_ble_eq_true rfl) (by intro t u h; simp [Tryd.f34] at h; rcases h with ⟨_, rfl⟩ | ⟨_, rfl⟩ <;> first | exact resTy_one (one_3).1 rfl | exact resTy_one (one_4).1 rfl) ?_
  refine code_seq (fun K1 hK1 => ?_)
  refine code_region ?_
  refine list_cons rfl (op_box rfl (.inl ⟨rfl, rfl⟩) (by decide) (by decide) rfl ?_)
  refine list_cons rfl (op_box rfl (.inl ⟨rfl, rfl⟩) (by decide) (by decide) rfl ?_)
  refine list_cons rfl (op_alloc zt_3 (by decide) (by decide) rfl ?_)
  refine list_cons rfl (op_alloc zt_4 (by decide) (by decide) rfl ?_)
  refine list_nil ?_
  refine hK1 _ ?_; clear hK1 K1
  refine code_seq (fun K2 hK2 => ?_)
  refine code_seq (fun K3 hK3 => ?_)
  refine code_region ?_
  refine list_cons rfl (op_q (q_move rfl (by decide)) ?_)
  refine list_cons rfl (op_q (q_load_box1 one_3 rfl rfl (by decide)) ?_)
  refine list_cons rfl (op_call _ (impl_isShown _ _) rfl rfl (by decide) (by decide) (by decide) rfl ?_)
  rintro _ rfl
  refine list_cons rfl (op_q (by first | exact q_notd rfl (by decide) | exact q_not rfl (by decide)) ?_)
  refine list_cons rfl (op_q (q_move rfl (by decide)) ?_)
  refine list_guard_d rfl rfl rfl rfl (by decide) rfl (by decide) (fun h1 => ?_) (fun h1 => ?_)
  · simp only [Bool.false_eq_true, if_true, if_false, Decidable.not_not] at h1
    refine id (op_q (q_load_box1 one_3 rfl rfl (by decide)) ?_)
    refine list_guard_y rfl rfl rfl rfl (by decide) rfl ?_
    refine id (op_q (q_lt rfl rfl (by decide)) ?_)
    refine list_cons rfl (op_q (q_pick rfl rfl (by decide)) ?_)
    refine list_nil ?_
    refine hK3 _ ?_; clear hK3 K3
    refine codeT.imp (σ' := [(0, _), (1, _), (2, _), (4, _), (5, _), (6, _), (7, _), (20, _)]) ?_ (imp_covers ⟨rfl, rfl, rfl, rfl, rfl, rfl, rfl, rfl, trivial⟩)
    refine code_cond_d rfl (fun h2 => ?_) (fun h2 => ?_)
    · skip
      (try simp only [Decidable.not_not] at h2)
      refine code_seq (fun K4 hK4 => ?_)
      refine code_region ?_
      refine list_cons rfl (op_store (one_3).2 6 [6] (by intro t ht; simp only [List.mem_cons, List.not_mem_nil, or_false] at ht; subst ht; rfl) (.inr ⟨rfl, _, rfl⟩) rfl rfl rfl rfl rfl rfl (by first | decide | omega | exact Nat.le_refl _ | (simp; done) | (simp; omega)) (by decide) rfl ?_)
      refine list_cons rfl (op_store (one_4).2 7 [7] (by intro t ht; simp only [List.mem_cons, List.not_mem_nil, or_false] at ht; subst ht; rfl) (.inr ⟨rfl, _, rfl⟩) rfl rfl rfl rfl rfl rfl (by first | decide | omega | exact Nat.le_refl _ | (simp; done) | (simp; omega)) (by decide) rfl ?_)
      refine list_nil ?_
      refine hK4 _ ?_; clear hK4 K4
      refine codeT.imp (σ' := [(0, _), (1, _), (2, _), (4, _), (5, _), (6, _), (7, _)]) ?_ (imp_covers ⟨rfl, rfl, rfl, rfl, rfl, rfl, rfl, trivial⟩)
      refine code_ret ?_
      refine then_r ?_; clear hK2 K2
      refine ends_ret (cs := []) rfl rfl rfl rfl trivial ?_
      first
        | (have e : ¬ (Cn n k ∧ 0 ≤ ch) := by (first | exact fun h => absurd h.1 (by assumption) | (rintro ⟨_, h⟩; omega))
           have e2 : ¬ (Cn n k ∧ 0 ≤ ch ∧ (overC n k ch).isSome = true) := fun h => e ⟨h.1, h.2.1⟩
           rw [decide_eq_false e2, if_neg e]; done)
        | (exfalso; omega)
        | (have e := overC_some (n := n) (k := k) (i := i) (by omega) (by assumption) hIi.2
           have e3 : Cn n k ∧ 0 ≤ ch := ⟨h1, by omega⟩
           have e2 : Cn n k ∧ 0 ≤ ch ∧ (overC n k ch).isSome = true := ⟨h1, by omega, by rw [e]; rfl⟩
           rw [if_pos e3, decide_eq_true e2, e]; rfl)
        | (have e := overC_none (n := n) (k := k) (ch := ch) (fun j hj => by
             by_cases hjn : j < N1
             · exact hIi.2 j hjn
             · have : j = N1 := by omega
               subst this; omega)
           have e3 : Cn n k ∧ 0 ≤ ch := ⟨h1, by omega⟩
           have e2 : ¬ (Cn n k ∧ 0 ≤ ch ∧ (overC n k ch).isSome = true) := fun h => by rw [e] at h; exact absurd h.2.2 (by simp)
           rw [if_pos e3, decide_eq_false e2, e]; rfl)
        | (have e := overC_some (n := n) (k := k) (i := N1) (by omega) (by omega) hIi.2
           have e3 : Cn n k ∧ 0 ≤ ch := ⟨h1, by omega⟩
           have e2 : Cn n k ∧ 0 ≤ ch ∧ (overC n k ch).isSome = true := ⟨h1, by omega, by rw [e]; rfl⟩
           rw [if_pos e3, decide_eq_true e2, e]; rfl)
    (try simp only [Decidable.not_not] at h2)
    refine code_skip ?_
    refine hK2 _ ?_; clear hK2 K2
    refine code_seq (fun K5 hK5 => ?_)
    refine code_region ?_
    refine list_cons rfl (op_alloc zt_3 (by decide) (by decide) rfl ?_)
    refine list_cons rfl (op_alloc zt_3 (by decide) (by decide) rfl ?_)
    refine list_cons rfl (op_store (one_3).2 8 [8] (by intro t ht; simp only [List.mem_cons, List.not_mem_nil, or_false] at ht; subst ht; rfl) (.inr ⟨rfl, _, rfl⟩) rfl rfl rfl rfl rfl rfl (by first | decide | omega | exact Nat.le_refl _ | (simp; done) | (simp; omega)) (by decide) rfl ?_)
    refine list_cons rfl (op_store (one_3).2 9 [9] (by intro t ht; simp only [List.mem_cons, List.not_mem_nil, or_false] at ht; subst ht; rfl) (.inr ⟨rfl, _, rfl⟩) rfl rfl rfl rfl rfl rfl (by first | decide | omega | exact Nat.le_refl _ | (simp; done) | (simp; omega)) (by decide) rfl ?_)
    refine list_nil ?_
    refine hK5 _ ?_; clear hK5 K5
    refine codeT.imp (σ' := [(0, _), (1, _), (2, _), (4, _), (5, _), (6, _), (7, _), (8, _), (9, _)]) ?_ (imp_covers ⟨rfl, rfl, rfl, rfl, rfl, rfl, rfl, rfl, rfl, trivial⟩)
    refine code_seq (fun K6 hK6 => ?_)
    refine code_seq (fun K7 hK7 => ?_)
    refine code_region ?_
    refine list_cons rfl (op_q (q_move rfl (by decide)) ?_)
    refine list_cons rfl (op_q (q_load_box1 one_3 rfl rfl (by decide)) ?_)
    refine list_cons rfl (op_call _ (impl_numbersFrom _ _ _) rfl rfl (by decide) (by decide) (by decide) rfl ?_)
    rintro _ rfl
    refine listT.imp ?_ imp_unfrz
    refine list_nil ?_
    refine hK7 _ ?_; clear hK7 K7
    refine codeT.imp (σ' := [(0, _), (1, _), (2, _), (4, _), (5, _), (6, _), (7, _), (8, _), (9, _), (23, _)]) ?_ (imp_covers ⟨rfl, rfl, rfl, rfl, rfl, rfl, rfl, rfl, rfl, rfl, trivial⟩)
    refine code_block ?_
    obtain ⟨N1, hN1, hit⟩ : ∃ N1 : Nat, N1 = 1000 ∧ ITer Tryd.prog 144 [.ptr [.int .i64 n], .ptr [.int .i64 1000], .ptr [.int .i64 k]] N1 (fun i => [.int .i64 (atC n k i)]) := ⟨_, rfl, numbersFrom_it n 1000 k (by assumption) (by omega) (by omega)⟩
    refine code_rangeFunc (hit) ((fun (s0 s1 s2 s4 s5 s6 s7 : SV) (i : Nat) => ([(0, s0), (1, s1), (2, s2), (4, s4), (5, s5), (6, s6), (7, s7), (8, .box 8 3 [.int .i64 (runC n k i)]), (9, .box 9 3 [.int .i64 (i : Int)])] : St)) _ _ _ _ _ _ _) (fun i => (i : Nat) ≤ 1000 ∧ ∀ j, j < i → ¬ ch ≤ runC n k j) (⟨by omega, fun j hj => absurd hj (by omega)⟩) rfl rfl rfl (by decide) rfl (fun _ _ => ⟨rfl, rfl⟩) (fun _ => rfl) rfl rfl (imp_covers ⟨rfl, rfl, rfl, rfl, rfl, rfl, rfl, rfl, rfl, trivial⟩) (fun i hi hIi => ?_) (fun hIi => ?_)
    · intro K8 hK8
      refine codeT.imp (σ' := [(24, .val (.int .i64 (atC n k i))), (0, _), (1, _), (2, _), (4, _), (5, _), (6, _), (7, _), (8, _), (9, _)]) ?_ (imp_covers ⟨rfl, rfl, rfl, rfl, rfl, rfl, rfl, rfl, rfl, rfl, trivial⟩)
      have hi2 : (i : Int) < 1000 := by omega
      have hk := Cn_bd h1
      have hr := runC_le (n := n) (k := k) (by omega) i
      have ha := atC_ok h1 i
      have hs := stepC_le (n := atC n k i) (k := k) (by omega)
      refine code_region ?_
      refine list_cons rfl (op_q (q_assign rfl (by decide)) ?_)
      refine list_nil ?_
      refine hK8 _ rfl ?_; clear hK8 K8
      refine codeT.imp (σ' := [(0, _), (1, _), (2, _), (4, _), (5, _), (6, _), (7, _), (8, _), (9, _), (10, _), (24, _)]) ?_ (imp_covers ⟨rfl, rfl, rfl, rfl, rfl, rfl, rfl, rfl, rfl, rfl, rfl, trivial⟩)
      refine code_block ?_
      refine code_seq (fun K9 hK9 => ?_)
      refine code_seq (fun K10 hK10 => ?_)
      refine code_region ?_
      refine list_cons rfl (op_q (q_load_box1 one_3 rfl rfl (by decide)) ?_)
      refine list_cons rfl (op_q (q_load_box1 one_3 rfl rfl (by decide)) ?_)
      refine list_cons rfl (op_q (q_ge rfl rfl (by decide)) ?_)
      refine list_nil ?_
      refine hK10 _ ?_; clear hK10 K10
      refine code_cond_d rfl (fun h3 => ?_) (fun h3 => ?_)
      · skip
        (try simp only [Decidable.not_not] at h3)
        refine code_exit ?_
        refine then_x ?_; clear hK9 K9
        refine blk_miss (by decide) ?_
        refine rp_exit [(0, _), (1, _), (2, _), (4, _), (5, _), (6, _), (7, _), (8, _), (9, _)] (imp_covers ⟨rfl, rfl, rfl, rfl, rfl, rfl, rfl, rfl, rfl, trivial⟩) rfl ?_
        refine blk_hit ?_
        refine hK6 _ ?_; clear hK6 K6
        refine code_seq (fun K11 hK11 => ?_)
        refine code_seq (fun K12 hK12 => ?_)
        refine code_region ?_
        refine list_cons rfl (op_q (q_load_box1 one_3 rfl rfl (by decide)) ?_)
        refine list_cons rfl (op_q (q_load_box1 one_3 rfl rfl (by decide)) ?_)
        refine list_cons rfl (op_q (q_lt rfl rfl (by decide)) ?_)
        refine list_nil ?_
        refine hK12 _ ?_; clear hK12 K12
        refine code_cond_d rfl (fun h4 => ?_) (fun h4 => ?_)
        · skip
          (try simp only [Decidable.not_not] at h4)
          refine code_seq (fun K13 hK13 => ?_)
          refine code_region ?_
          refine list_cons rfl (op_store (one_3).2 6 [6] (by intro t ht; simp only [List.mem_cons, List.not_mem_nil, or_false] at ht; subst ht; rfl) (.inr ⟨rfl, _, rfl⟩) rfl rfl rfl rfl rfl rfl (by first | decide | omega | exact Nat.le_refl _ | (simp; done) | (simp; omega)) (by decide) rfl ?_)
          refine list_cons rfl (op_store (one_4).2 7 [7] (by intro t ht; simp only [List.mem_cons, List.not_mem_nil, or_false] at ht; subst ht; rfl) (.inr ⟨rfl, _, rfl⟩) rfl rfl rfl rfl rfl rfl (by first | decide | omega | exact Nat.le_refl _ | (simp; done) | (simp; omega)) (by decide) rfl ?_)
          refine list_nil ?_
          refine hK13 _ ?_; clear hK13 K13
          refine codeT.imp (σ' := [(0, _), (1, _), (2, _), (4, _), (5, _), (6, _), (7, _), (8, _), (9, _)]) ?_ (imp_covers ⟨rfl, rfl, rfl, rfl, rfl, rfl, rfl, rfl, rfl, trivial⟩)
          refine code_ret ?_
          refine then_r ?_; clear hK11 K11
          refine ends_ret (cs := []) rfl rfl rfl rfl trivial ?_
          first
            | (have e : ¬ (Cn n k ∧ 0 ≤ ch) := by (first | exact fun h => absurd h.1 (by assumption) | (rintro ⟨_, h⟩; omega))
               have e2 : ¬ (Cn n k ∧ 0 ≤ ch ∧ (overC n k ch).isSome = true) := fun h => e ⟨h.1, h.2.1⟩
               rw [decide_eq_false e2, if_neg e]; done)
            | (exfalso; omega)
            | (have e := overC_some (n := n) (k := k) (i := i) (by omega) (by assumption) hIi.2
               have e3 : Cn n k ∧ 0 ≤ ch := ⟨h1, by omega⟩
               have e2 : Cn n k ∧ 0 ≤ ch ∧ (overC n k ch).isSome = true := ⟨h1, by omega, by rw [e]; rfl⟩
               rw [if_pos e3, decide_eq_true e2, e]; rfl)
            | (have e := overC_none (n := n) (k := k) (ch := ch) (fun j hj => by
                 by_cases hjn : j < N1
                 · exact hIi.2 j hjn
                 · have : j = N1 := by omega
                   subst this; omega)
               have e3 : Cn n k ∧ 0 ≤ ch := ⟨h1, by omega⟩
               have e2 : ¬ (Cn n k ∧ 0 ≤ ch ∧ (overC n k ch).isSome = true) := fun h => by rw [e] at h; exact absurd h.2.2 (by simp)
               rw [if_pos e3, decide_eq_false e2, e]; rfl)
            | (have e := overC_some (n := n) (k := k) (i := N1) (by omega) (by omega) hIi.2
               have e3 : Cn n k ∧ 0 ≤ ch := ⟨h1, by omega⟩
               have e2 : Cn n k ∧ 0 ≤ ch ∧ (overC n k ch).isSome = true := ⟨h1, by omega, by rw [e]; rfl⟩
               rw [if_pos e3, decide_eq_true e2, e]; rfl)
        (try simp only [Decidable.not_not] at h4)
        refine code_skip ?_
        refine hK11 _ ?_; clear hK11 K11
        refine code_seq (fun K14 hK14 => ?_)
        refine code_region ?_
        refine list_cons rfl (op_q (q_load_box1 one_3 rfl rfl (by decide)) ?_)
        refine list_cons rfl (op_store (one_3).2 6 [6] (by intro t ht; simp only [List.mem_cons, List.not_mem_nil, or_false] at ht; subst ht; rfl) (.inr ⟨rfl, _, rfl⟩) rfl rfl rfl rfl rfl rfl (by first | decide | omega | exact Nat.le_refl _ | (simp; done) | (simp; omega)) (by decide) rfl ?_)
        refine list_cons rfl (op_store (one_4).2 7 [7] (by intro t ht; simp only [List.mem_cons, List.not_mem_nil, or_false] at ht; subst ht; rfl) (.inr ⟨rfl, _, rfl⟩) rfl rfl rfl rfl rfl rfl (by first | decide | omega | exact Nat.le_refl _ | (simp; done) | (simp; omega)) (by decide) rfl ?_)
        refine list_nil ?_
        refine hK14 _ ?_; clear hK14 K14
        refine codeT.imp (σ' := [(0, _), (1, _), (2, _), (4, _), (5, _), (6, _), (7, _), (8, _), (9, _)]) ?_ (imp_covers ⟨rfl, rfl, rfl, rfl, rfl, rfl, rfl, rfl, rfl, trivial⟩)
        refine code_ret ?_
        refine ends_ret (cs := []) rfl rfl rfl rfl trivial ?_
        first
          | (have e : ¬ (Cn n k ∧ 0 ≤ ch) := by (first | exact fun h => absurd h.1 (by assumption) | (rintro ⟨_, h⟩; omega))
             have e2 : ¬ (Cn n k ∧ 0 ≤ ch ∧ (overC n k ch).isSome = true) := fun h => e ⟨h.1, h.2.1⟩
             rw [decide_eq_false e2, if_neg e]; done)
          | (exfalso; omega)
          | (have e := overC_some (n := n) (k := k) (i := i) (by omega) (by assumption) hIi.2
             have e3 : Cn n k ∧ 0 ≤ ch := ⟨h1, by omega⟩
             have e2 : Cn n k ∧ 0 ≤ ch ∧ (overC n k ch).isSome = true := ⟨h1, by omega, by rw [e]; rfl⟩
             rw [if_pos e3, decide_eq_true e2, e]; rfl)
          | (have e := overC_none (n := n) (k := k) (ch := ch) (fun j hj => by
               by_cases hjn : j < N1
               · exact hIi.2 j hjn
               · have : j = N1 := by omega
                 subst this; omega)
             have e3 : Cn n k ∧ 0 ≤ ch := ⟨h1, by omega⟩
             have e2 : ¬ (Cn n k ∧ 0 ≤ ch ∧ (overC n k ch).isSome = true) := fun h => by rw [e] at h; exact absurd h.2.2 (by simp)
             rw [if_pos e3, decide_eq_false e2, e]; rfl)
          | (have e := overC_some (n := n) (k := k) (i := N1) (by omega) (by omega) hIi.2
             have e3 : Cn n k ∧ 0 ≤ ch := ⟨h1, by omega⟩
             have e2 : Cn n k ∧ 0 ≤ ch ∧ (overC n k ch).isSome = true := ⟨h1, by omega, by rw [e]; rfl⟩
             rw [if_pos e3, decide_eq_true e2, e]; rfl)
      (try simp only [Decidable.not_not] at h3)
      refine code_skip ?_
      refine hK9 _ ?_; clear hK9 K9
      refine code_seq (fun K15 hK15 => ?_)
      refine code_region ?_
      refine list_cons rfl (op_q (q_move rfl (by decide)) ?_)
      refine list_cons rfl (op_q (q_load_box1 one_3 rfl rfl (by decide)) ?_)
      refine list_cons rfl (op_call _ (impl_StepChangesY (atC n k i) k ha) rfl rfl (by decide) (by decide) (by decide) rfl ?_)
      rintro _ rfl
      refine list_cons rfl (op_q (q_move rfl (by decide)) ?_)
      refine list_cons rfl (op_q (q_extract rfl rfl (by decide)) ?_)
      refine list_cons rfl (op_q (q_extract rfl rfl (by decide)) ?_)
      refine list_cons rfl (op_q (q_assign rfl (by decide)) ?_)
      refine list_cons rfl (op_q (q_assign rfl (by decide)) ?_)
      refine list_nil ?_
      refine hK15 _ ?_; clear hK15 K15
      refine codeT.imp (σ' := [(0, _), (1, _), (2, _), (4, _), (5, _), (6, _), (7, _), (8, _), (9, _), (10, _), (11, _), (12, _), (24, _)]) ?_ (imp_covers ⟨rfl, rfl, rfl, rfl, rfl, rfl, rfl, rfl, rfl, rfl, rfl, rfl, rfl, trivial⟩)
      refine code_seq (fun K16 hK16 => ?_)
      refine code_seq (fun K17 hK17 => ?_)
      refine code_region ?_
      refine list_cons rfl (op_q (q_move rfl (by decide)) ?_)
      refine list_cons rfl (op_q (by first | exact q_notd rfl (by decide) | exact q_not rfl (by decide)) ?_)
      refine list_nil ?_
      refine hK17 _ ?_; clear hK17 K17
      refine code_cond_f rfl ?_
      refine code_skip ?_
      refine hK16 _ ?_; clear hK16 K16
      refine code_seq (fun K18 hK18 => ?_)
      refine code_region ?_
      refine list_cons rfl (op_q (q_load_box1 one_3 rfl rfl (by decide)) ?_)
      refine list_cons rfl (op_q (q_move rfl (by decide)) ?_)
      refine list_cons rfl (op_q (by first | exact q_addI rfl rfl (by decide) (by omega) (by omega) | exact q_ib rfl rfl rfl (by decide)) ?_)
      refine list_cons rfl (op_store (one_3).2 8 [8] (by intro t ht; simp only [List.mem_cons, List.not_mem_nil, or_false] at ht; subst ht; rfl) (.inr ⟨rfl, _, rfl⟩) rfl rfl rfl rfl rfl rfl (by first | decide | omega | exact Nat.le_refl _ | (simp; done) | (simp; omega)) (by decide) rfl ?_)
      refine list_nil ?_
      refine hK18 _ ?_; clear hK18 K18
      refine codeT.imp (σ' := [(0, _), (1, _), (2, _), (4, _), (5, _), (6, _), (7, _), (8, _), (9, _), (10, _), (11, _), (12, _), (24, _)]) ?_ (imp_covers ⟨rfl, rfl, rfl, rfl, rfl, rfl, rfl, rfl, rfl, rfl, rfl, rfl, rfl, trivial⟩)
      refine code_region ?_
      refine list_cons rfl (op_q (q_load_box1 one_3 rfl rfl (by decide)) ?_)
      refine list_cons rfl (op_q (by first | exact q_addI rfl rfl (by decide) (by omega) (by omega) | exact q_ib rfl rfl rfl (by decide)) ?_)
      refine list_cons rfl (op_store (one_3).2 9 [9] (by intro t ht; simp only [List.mem_cons, List.not_mem_nil, or_false] at ht; subst ht; rfl) (.inr ⟨rfl, _, rfl⟩) rfl rfl rfl rfl rfl rfl (by first | decide | omega | exact Nat.le_refl _ | (simp; done) | (simp; omega)) (by decide) rfl ?_)
      refine list_nil ?_
      refine blk_n ?_
      refine rp_n ⟨⟨by omega, fun j hj => by (rcases Nat.lt_succ_iff_lt_or_eq.1 hj with h | h; exact hIi.2 j h; subst h; omega)⟩, imp_covers ⟨rfl, rfl, rfl, rfl, rfl, rfl, rfl, rfl, rfl, trivial⟩⟩
    · skip
      have hk := Cn_bd h1
      have hr := runC_le (n := n) (k := k) (by omega) N1
      refine blk_n ?_
      refine hK6 _ ?_; clear hK6 K6
      refine codeT.imp (σ' := [(0, _), (1, _), (2, _), (4, _), (5, _), (6, _), (7, _), (8, _), (9, _)]) ?_ (imp_covers ⟨rfl, rfl, rfl, rfl, rfl, rfl, rfl, rfl, rfl, trivial⟩)
      refine code_seq (fun K19 hK19 => ?_)
      refine code_seq (fun K20 hK20 => ?_)
      refine code_region ?_
      refine list_cons rfl (op_q (q_load_box1 one_3 rfl rfl (by decide)) ?_)
      refine list_cons rfl (op_q (q_load_box1 one_3 rfl rfl (by decide)) ?_)
      refine list_cons rfl (op_q (q_lt rfl rfl (by decide)) ?_)
      refine list_nil ?_
      refine hK20 _ ?_; clear hK20 K20
      refine code_cond_d rfl (fun h5 => ?_) (fun h5 => ?_)
      · skip
        (try simp only [Decidable.not_not] at h5)
        refine code_seq (fun K21 hK21 => ?_)
        refine code_region ?_
        refine list_cons rfl (op_store (one_3).2 6 [6] (by intro t ht; simp only [List.mem_cons, List.not_mem_nil, or_false] at ht; subst ht; rfl) (.inr ⟨rfl, _, rfl⟩) rfl rfl rfl rfl rfl rfl (by first | decide | omega | exact Nat.le_refl _ | (simp; done) | (simp; omega)) (by decide) rfl ?_)
        refine list_cons rfl (op_store (one_4).2 7 [7] (by intro t ht; simp only [List.mem_cons, List.not_mem_nil, or_false] at ht; subst ht; rfl) (.inr ⟨rfl, _, rfl⟩) rfl rfl rfl rfl rfl rfl (by first | decide | omega | exact Nat.le_refl _ | (simp; done) | (simp; omega)) (by decide) rfl ?_)
        refine list_nil ?_
        refine hK21 _ ?_; clear hK21 K21
        refine codeT.imp (σ' := [(0, _), (1, _), (2, _), (4, _), (5, _), (6, _), (7, _), (8, _), (9, _)]) ?_ (imp_covers ⟨rfl, rfl, rfl, rfl, rfl, rfl, rfl, rfl, rfl, trivial⟩)
        refine code_ret ?_
        refine then_r ?_; clear hK19 K19
        refine ends_ret (cs := []) rfl rfl rfl rfl trivial ?_
        first
          | (have e : ¬ (Cn n k ∧ 0 ≤ ch) := by (first | exact fun h => absurd h.1 (by assumption) | (rintro ⟨_, h⟩; omega))
             have e2 : ¬ (Cn n k ∧ 0 ≤ ch ∧ (overC n k ch).isSome = true) := fun h => e ⟨h.1, h.2.1⟩
             rw [decide_eq_false e2, if_neg e]; done)
          | (exfalso; omega)
          | (have e := overC_some (n := n) (k := k) (i := i) (by omega) (by assumption) hIi.2
             have e3 : Cn n k ∧ 0 ≤ ch := ⟨h1, by omega⟩
             have e2 : Cn n k ∧ 0 ≤ ch ∧ (overC n k ch).isSome = true := ⟨h1, by omega, by rw [e]; rfl⟩
             rw [if_pos e3, decide_eq_true e2, e]; rfl)
          | (have e := overC_none (n := n) (k := k) (ch := ch) (fun j hj => by
               by_cases hjn : j < N1
               · exact hIi.2 j hjn
               · have : j = N1 := by omega
                 subst this; omega)
             have e3 : Cn n k ∧ 0 ≤ ch := ⟨h1, by omega⟩
             have e2 : ¬ (Cn n k ∧ 0 ≤ ch ∧ (overC n k ch).isSome = true) := fun h => by rw [e] at h; exact absurd h.2.2 (by simp)
             rw [if_pos e3, decide_eq_false e2, e]; rfl)
          | (have e := overC_some (n := n) (k := k) (i := N1) (by omega) (by omega) hIi.2
             have e3 : Cn n k ∧ 0 ≤ ch := ⟨h1, by omega⟩
             have e2 : Cn n k ∧ 0 ≤ ch ∧ (overC n k ch).isSome = true := ⟨h1, by omega, by rw [e]; rfl⟩
             rw [if_pos e3, decide_eq_true e2, e]; rfl)
      (try simp only [Decidable.not_not] at h5)
      refine code_skip ?_
      refine hK19 _ ?_; clear hK19 K19
      refine code_seq (fun K22 hK22 => ?_)
      refine code_region ?_
      refine list_cons rfl (op_q (q_load_box1 one_3 rfl rfl (by decide)) ?_)
      refine list_cons rfl (op_store (one_3).2 6 [6] (by intro t ht; simp only [List.mem_cons, List.not_mem_nil, or_false] at ht; subst ht; rfl) (.inr ⟨rfl, _, rfl⟩) rfl rfl rfl rfl rfl rfl (by first | decide | omega | exact Nat.le_refl _ | (simp; done) | (simp; omega)) (by decide) rfl ?_)
      refine list_cons rfl (op_store (one_4).2 7 [7] (by intro t ht; simp only [List.mem_cons, List.not_mem_nil, or_false] at ht; subst ht; rfl) (.inr ⟨rfl, _, rfl⟩) rfl rfl rfl rfl rfl rfl (by first | decide | omega | exact Nat.le_refl _ | (simp; done) | (simp; omega)) (by decide) rfl ?_)
      refine list_nil ?_
      refine hK22 _ ?_; clear hK22 K22
      refine codeT.imp (σ' := [(0, _), (1, _), (2, _), (4, _), (5, _), (6, _), (7, _), (8, _), (9, _)]) ?_ (imp_covers ⟨rfl, rfl, rfl, rfl, rfl, rfl, rfl, rfl, rfl, trivial⟩)
      refine code_ret ?_
      refine ends_ret (cs := []) rfl rfl rfl rfl trivial ?_
      first
        | (have e : ¬ (Cn n k ∧ 0 ≤ ch) := by (first | exact fun h => absurd h.1 (by assumption) | (rintro ⟨_, h⟩; omega))
           have e2 : ¬ (Cn n k ∧ 0 ≤ ch ∧ (overC n k ch).isSome = true) := fun h => e ⟨h.1, h.2.1⟩
           rw [decide_eq_false e2, if_neg e]; done)
        | (exfalso; omega)
        | (have e := overC_some (n := n) (k := k) (i := i) (by omega) (by assumption) hIi.2
           have e3 : Cn n k ∧ 0 ≤ ch := ⟨h1, by omega⟩
           have e2 : Cn n k ∧ 0 ≤ ch ∧ (overC n k ch).isSome = true := ⟨h1, by omega, by rw [e]; rfl⟩
           rw [if_pos e3, decide_eq_true e2, e]; rfl)
        | (have e := overC_none (n := n) (k := k) (ch := ch) (fun j hj => by
             by_cases hjn : j < N1
             · exact hIi.2 j hjn
             · have : j = N1 := by omega
               subst this; omega)
           have e3 : Cn n k ∧ 0 ≤ ch := ⟨h1, by omega⟩
           have e2 : ¬ (Cn n k ∧ 0 ≤ ch ∧ (overC n k ch).isSome = true) := fun h => by rw [e] at h; exact absurd h.2.2 (by simp)
           rw [if_pos e3, decide_eq_false e2, e]; rfl)
        | (have e := overC_some (n := n) (k := k) (i := N1) (by omega) (by omega) hIi.2
           have e3 : Cn n k ∧ 0 ≤ ch := ⟨h1, by omega⟩
           have e2 : Cn n k ∧ 0 ≤ ch ∧ (overC n k ch).isSome = true := ⟨h1, by omega, by rw [e]; rfl⟩
           rw [if_pos e3, decide_eq_true e2, e]; rfl)
  simp only [Bool.false_eq_true, if_true, if_false, Decidable.not_not] at h1
  refine list_guard_n rfl rfl rfl rfl (by decide) rfl ?_
  refine list_cons rfl (op_q (q_pick rfl rfl (by decide)) ?_)
  refine list_nil ?_
  refine hK3 _ ?_; clear hK3 K3
  refine code_cond_t rfl ?_
  refine code_seq (fun K23 hK23 => ?_)
  refine code_region ?_
  refine list_cons rfl (op_store (one_3).2 6 [6] (by intro t ht; simp only [List.mem_cons, List.not_mem_nil, or_false] at ht; subst ht; rfl) (.inr ⟨rfl, _, rfl⟩) rfl rfl rfl rfl rfl rfl (by first | decide | omega | exact Nat.le_refl _ | (simp; done) | (simp; omega)) (by decide) rfl ?_)
  refine list_cons rfl (op_store (one_4).2 7 [7] (by intro t ht; simp only [List.mem_cons, List.not_mem_nil, or_false] at ht; subst ht; rfl) (.inr ⟨rfl, _, rfl⟩) rfl rfl rfl rfl rfl rfl (by first | decide | omega | exact Nat.le_refl _ | (simp; done) | (simp; omega)) (by decide) rfl ?_)
  refine list_nil ?_
  refine hK23 _ ?_; clear hK23 K23
  refine codeT.imp (σ' := [(0, _), (1, _), (2, _), (4, _), (5, _), (6, _), (7, _)]) ?_ (imp_covers ⟨rfl, rfl, rfl, rfl, rfl, rfl, rfl, trivial⟩)
  refine code_ret ?_
  refine then_r ?_; clear hK2 K2
  refine ends_ret (cs := []) rfl rfl rfl rfl trivial ?_
  first
    | (have e : ¬ (Cn n k ∧ 0 ≤ ch) := by (first | exact fun h => absurd h.1 (by assumption) | (rintro ⟨_, h⟩; omega))
       have e2 : ¬ (Cn n k ∧ 0 ≤ ch ∧ (overC n k ch).isSome = true) := fun h => e ⟨h.1, h.2.1⟩
       rw [decide_eq_false e2, if_neg e]; done)
    | (exfalso; omega)
    | (have e := overC_some (n := n) (k := k) (i := i) (by omega) (by assumption) hIi.2
       have e3 : Cn n k ∧ 0 ≤ ch := ⟨h1, by omega⟩
       have e2 : Cn n k ∧ 0 ≤ ch ∧ (overC n k ch).isSome = true := ⟨h1, by omega, by rw [e]; rfl⟩
       rw [if_pos e3, decide_eq_true e2, e]; rfl)
    | (have e := overC_none (n := n) (k := k) (ch := ch) (fun j hj => by
         by_cases hjn : j < N1
         · exact hIi.2 j hjn
         · have : j = N1 := by omega
           subst this; omega)
       have e3 : Cn n k ∧ 0 ≤ ch := ⟨h1, by omega⟩
       have e2 : ¬ (Cn n k ∧ 0 ≤ ch ∧ (overC n k ch).isSome = true) := fun h => by rw [e] at h; exact absurd h.2.2 (by simp)
       rw [if_pos e3, decide_eq_false e2, e]; rfl)
    | (have e := overC_some (n := n) (k := k) (i := N1) (by omega) (by omega) hIi.2
       have e3 : Cn n k ∧ 0 ≤ ch := ⟨h1, by omega⟩
       have e2 : Cn n k ∧ 0 ≤ ch ∧ (overC n k ch).isSome = true := ⟨h1, by omega, by rw [e]; rfl⟩
       rw [if_pos e3, decide_eq_true e2, e]; rfl)

theorem wbK_get (l : List Int) (c : Nat) : ∀ (m j : Nat), m ≤ l.length → (wbK l c m).getD j 0 = l.getD j 0 + if j < m then bt1 c j else 0
  | 0, j, _ => by rw [if_neg (Nat.not_lt_zero j)]; unfold wbK; omega
  | m + 1, j, h => by
    have ih := wbK_get l c m j (by omega)
    have hm := wbK_at l c m m (Nat.le_refl _)
    have hl := wbK_len l c m
    unfold wbK
    by_cases e : j = m
    · subst e
      rw [if_pos (Nat.lt_succ_self j)]
      unfold bt1
      split
      · rw [List.getD_eq_getElem?_getD, List.getElem?_set, if_pos rfl, if_pos (by omega), Option.getD_some, hm]
      · rw [hm]; omega
    · have e2 : (j < m + 1) = (j < m) := propext (by omega)
      simp only [e2]
      split
      · rw [List.getD_eq_getElem?_getD, List.getElem?_set, if_neg (fun k => e k.symm), ← List.getD_eq_getElem?_getD]; exact ih
      · exact ih
theorem rowC_any (n k : Int) (j : Nat) : 0 ≤ (rowC n k).getD j 0 ∧ (rowC n k).getD j 0 ≤ 127 := by
  by_cases h : j < k.toNat
  · exact rowC_at h
  · rw [List.getD_eq_getElem?_getD, List.getElem?_eq_none (by unfold rowC; rw [rowK_len]; omega)]
    simp only [Option.getD_none]; omega
theorem xr_any {a b : Int} (ha : 0 ≤ a ∧ a ≤ 127) (hb : 0 ≤ b ∧ b ≤ 127) : ((a.toNat ^^^ b.toNat : Nat) : Int) ≤ 127 := by
  have := @Nat.xor_lt_two_pow a.toNat b.toNat 7 (by omega) (by omega)
  omega
/-- A row of seven of the counts. -/
def rw7 (l : List Int) (j : Nat) : List Int := (l.drop (j * 7)).take 7
theorem rw7_len {l : List Int} {j : Nat} (h : j * 7 + 7 ≤ l.length) : (rw7 l j).length = 7 := by simp [rw7]; omega
theorem rw7_get (l : List Int) (j : Nat) {b : Nat} (hb : b < 7) : (rw7 l j).getD b 0 = l.getD (j * 7 + b) 0 := by
  unfold rw7
  rw [List.getD_eq_getElem?_getD, List.getElem?_take, if_pos hb, List.getElem?_drop, ← List.getD_eq_getElem?_getD]
theorem rw7_le {l : List Int} {m : Int} (h : ∀ s, 0 ≤ l.getD s 0 ∧ l.getD s 0 ≤ m) (hm : 0 ≤ m) (j b : Nat) : 0 ≤ (rw7 l j).getD b 0 ∧ (rw7 l j).getD b 0 ≤ m := by
  by_cases hb : b < 7
  · rw [rw7_get l j hb]; exact h _
  · unfold rw7
    rw [List.getD_eq_getElem?_getD, List.getElem?_take, if_neg hb]
    simp only [Option.getD_none]; omega
theorem fW_row (n k : Int) (t : Nat) {j : Nat} (h : j < k.toNat) : putAt ((fW n k t (j * 7)).map (PV.int .i64)) (j * 7) ((wbK (rw7 (fW n k t (j * 7)) j) (xrC n k t j) 7).map (PV.int .i64)) = (fW n k t ((j + 1) * 7)).map (PV.int .i64) := by
  have hl : (wbK (rw7 (fW n k t (j * 7)) j) (xrC n k t j) 7).length = 7 := by rw [wbK_len, rw7_len (by rw [fW_len]; omega)]
  unfold putAt
  rw [← List.map_take, ← List.map_drop, ← List.map_append, ← List.map_append, List.length_map, hl]
  congr 1
  apply List.ext_getElem
  · simp only [List.length_append, List.length_take, List.length_drop, hl, fW_len]; omega
  · intro s h1 h2
    rw [fW_len] at h2
    have hg : ∀ (l : List Int) (h : s < l.length), l[s] = l.getD s 0 := fun l h => by simp [h]
    rw [hg, hg, fW_at n k t _ h2]
    by_cases a : s < j * 7
    · rw [if_pos (by omega), List.append_assoc, List.getD_eq_getElem?_getD, List.getElem?_append_left (by rw [List.length_take, fW_len]; omega), List.getElem?_take, if_pos a, ← List.getD_eq_getElem?_getD, fW_at n k t _ h2, if_pos a]
    · by_cases b : s < j * 7 + 7
      · obtain ⟨r, rfl⟩ : ∃ r, s = j * 7 + r := ⟨s - j * 7, by omega⟩
        have hr : r < 7 := by omega
        rw [if_pos (by omega), List.append_assoc, List.getD_eq_getElem?_getD, List.getElem?_append_right (by rw [List.length_take, fW_len]; omega), List.getElem?_append_left (by rw [List.length_take, fW_len, hl]; omega), List.length_take, fW_len, show j * 7 + r - min (j * 7) (k.toNat * 7) = r by omega, ← List.getD_eq_getElem?_getD, wbK_get _ _ 7 r (by rw [rw7_len (by rw [fW_len]; omega)]; exact Nat.le_refl _), if_pos hr, rw7_get _ j hr, fW_at n k t _ h2, if_neg a]
        rw [vW, wbt_at n k t hr]
      · rw [if_neg (by omega), List.getD_eq_getElem?_getD, List.getElem?_append_right (by rw [List.length_append, List.length_take, fW_len, hl]; omega), List.getElem?_drop, List.length_append, List.length_take, fW_len, hl, show j * 7 + 7 + (s - (min (j * 7) (k.toNat * 7) + 7)) = s by omega, ← List.getD_eq_getElem?_getD, fW_at n k t _ h2, if_neg a]

set_option maxRecDepth 8000 in
set_option maxHeartbeats 4000000 in
theorem impl_WearOf (n s k : Int) : PCalls Tryd.prog 19 [.int .i64 n, .int .i64 s, .int .i64 k] (· = [.own 0 43 7 (if Cn n k ∧ 0 ≤ s ∧ s ≤ 1000 then k.toNat else 0) ((if Cn n k ∧ 0 ≤ s ∧ s ≤ 1000 then fW n k s.toNat 0 else []).map (.int .i64)), .val (.bool (decide (Cn n k ∧ 0 ≤ s ∧ s ≤ 1000)))]) := by
  refine pcalls_of_code (n := 61) az Tryd.func19 (by kernel_rfl) rfl rfl (Nat.le_of_ble_eq_true rfl) (by intro t u h; simp [Tryd.f19] at h; rcases h with ⟨_, rfl⟩ | ⟨_, rfl⟩ <;> first | exact resTy_one (one_28).1 rfl | exact resTy_one (one_4).1 rfl) ?_
  refine code_seq (fun K1 hK1 => ?_)
  refine code_region ?_
  refine list_cons rfl (op_box rfl (.inl ⟨rfl, rfl⟩) (by decide) (by decide) rfl ?_)
  refine list_cons rfl (op_alloc zt_28 (by decide) (by decide) rfl ?_)
  refine list_cons rfl (op_alloc zt_4 (by decide) (by decide) rfl ?_)
  refine list_nil ?_
  refine hK1 _ ?_; clear hK1 K1
  refine code_seq (fun K2 hK2 => ?_)
  refine code_seq (fun K3 hK3 => ?_)
  refine code_region ?_
  refine list_cons rfl (op_q (q_move rfl (by decide)) ?_)
  refine list_cons rfl (op_q (q_move rfl (by decide)) ?_)
  refine list_cons rfl (op_q (q_load_box1 one_3 rfl rfl (by decide)) ?_)
  refine list_cons rfl (op_call _ (impl_isRun _ _ _) rfl rfl (by decide) (by decide) (by decide) rfl ?_)
  rintro _ rfl
  refine list_cons rfl (op_q (by first | exact q_notd rfl (by decide) | exact q_not rfl (by decide)) ?_)
  refine list_nil ?_
  refine hK3 _ ?_; clear hK3 K3
  refine codeT.imp (σ' := [(0, _), (1, _), (2, _), (5, _), (6, _), (7, _), (19, _)]) ?_ (imp_covers ⟨rfl, rfl, rfl, rfl, rfl, rfl, rfl, trivial⟩)
  refine code_cond_d rfl (fun h1 => ?_) (fun h1 => ?_)
  · skip
    (try simp only [Decidable.not_not] at h1)
    refine code_seq (fun K4 hK4 => ?_)
    refine code_region ?_
    refine list_cons rfl (op_buildSlice sl_28 (parts := []) rfl rfl rfl (by decide) (by decide) (by decide) rfl ?_)
    refine list_cons rfl (op_storeS (one_28).2 rfl rfl (by decide) rfl ?_)
    refine list_cons rfl (op_store (one_4).2 7 [7] (by intro t ht; simp only [List.mem_cons, List.not_mem_nil, or_false] at ht; subst ht; rfl) (.inr ⟨rfl, _, rfl⟩) rfl rfl rfl rfl rfl rfl (by first | decide | omega | exact Nat.le_refl _ | (simp; done) | (simp; omega)) (by decide) rfl ?_)
    refine list_nil ?_
    refine hK4 _ ?_; clear hK4 K4
    refine codeT.imp (σ' := [(0, _), (1, _), (2, _), (5, _), (6, _), (7, _)]) ?_ (imp_covers ⟨rfl, rfl, rfl, rfl, rfl, rfl, trivial⟩)
    refine code_ret ?_
    refine then_r ?_; clear hK2 K2
    refine ends_ret (cs := []) rfl rfl rfl rfl trivial ?_
    first
      | (have e : ¬ (Cn n k ∧ 0 ≤ s ∧ s ≤ 1000) := by assumption
         simp only [if_neg e, decide_eq_false e]; rfl)
      | (have e : Cn n k ∧ 0 ≤ s ∧ s ≤ 1000 := h1
         simp only [if_pos e, decide_eq_true e])
  (try simp only [Decidable.not_not] at h1)
  refine code_skip ?_
  refine hK2 _ ?_; clear hK2 K2
  refine code_seq (fun K5 hK5 => ?_)
  refine code_region ?_
  refine list_cons rfl (op_q (q_load_box1 one_3 rfl rfl (by decide)) ?_)
  refine list_cons rfl (op_makeI sl_28 rfl rfl (by have := Cn_bd h1.1; omega) (by have := Cn_bd h1.1; omega) (by decide) (by decide) rfl ?_)
  refine list_cons rfl (op_alloc zt_28 (by decide) (by decide) rfl ?_)
  refine list_cons rfl (op_storeS (one_28).2 rfl rfl (by decide) rfl ?_)
  refine list_nil ?_
  refine hK5 _ ?_; clear hK5 K5
  refine codeT.imp (σ' := [(0, _), (1, _), (2, _), (5, _), (6, _), (7, _), (8, .boxS 8 28 22 43 7 k.toNat ((fW n k 0 0).map (.int .i64)))]) ?_ (imp_covers ⟨rfl, rfl, rfl, rfl, rfl, rfl, (congrArg (fun z => some (SV.boxS 8 28 22 43 7 k.toNat z)) ((zeros7 k.toNat).trans (congrArg (List.map (PV.int .i64)) (fW_0 n k).symm))), trivial⟩)
  refine code_seq (fun K6 hK6 => ?_)
  refine code_seq (fun K7 hK7 => ?_)
  refine code_region ?_
  refine list_cons rfl (op_q (q_move rfl (by decide)) ?_)
  refine list_cons rfl (op_q (q_move rfl (by decide)) ?_)
  refine list_cons rfl (op_q (q_load_box1 one_3 rfl rfl (by decide)) ?_)
  refine list_cons rfl (op_call _ (impl_numbersFrom _ _ _) rfl rfl (by decide) (by decide) (by decide) rfl ?_)
  rintro _ rfl
  refine listT.imp ?_ imp_unfrz
  refine list_nil ?_
  refine hK7 _ ?_; clear hK7 K7
  refine codeT.imp (σ' := [(0, .val (.int .i64 n)), (1, .val (.int .i64 s)), (2, .val (.int .i64 k)), (5, .box 5 3 [.int .i64 k]), (6, .box 6 28 [.sl 0 []]), (7, .box 7 4 [.bool false]), (8, .boxS 8 28 22 43 7 k.toNat ((fW n k 0 0).map (.int .i64))), (26, _)]) ?_ (imp_covers ⟨rfl, rfl, rfl, rfl, rfl, rfl, rfl, rfl, trivial⟩)
  refine code_block ?_
  refine code_rangeFunc (numbersFrom_it n s k (by exact h1.1) (by exact h1.2.1) (by exact h1.2.2)) ((fun (s0 s1 s2 s5 s6 s7 : SV) (i : Nat) => ([(0, s0), (1, s1), (2, s2), (5, s5), (6, s6), (7, s7), (8, .boxS 8 28 22 43 7 k.toNat ((fW n k i 0).map (.int .i64)))] : St)) _ _ _ _ _ _) (fun i => True) (trivial) rfl rfl rfl (by decide) rfl (fun _ _ => ⟨rfl, rfl⟩) (fun _ => rfl) rfl rfl (imp_covers ⟨rfl, rfl, rfl, rfl, rfl, rfl, rfl, trivial⟩) (fun i hi hIi => ?_) (fun hIi => ?_)
  · intro K8 hK8
    refine codeT.imp (σ' := [(27, .val (.int .i64 (atC n k i))), (0, _), (1, _), (2, _), (5, _), (6, _), (7, _), (8, _)]) ?_ (imp_covers ⟨rfl, rfl, rfl, rfl, rfl, rfl, rfl, rfl, trivial⟩)
    have hi2 : (i : Int) < 1000 := by omega
    have hk := Cn_bd h1.1
    have ha := atC_ok h1.1 i
    have har : (rowC (atC n k i) k).length = k.toNat := rowK_len _ _
    have hbr : (rowC (nextC (atC n k i) k) k).length = k.toNat := rowK_len _ _
    refine code_region ?_
    refine list_cons rfl (op_q (q_assign rfl (by decide)) ?_)
    refine list_nil ?_
    refine hK8 _ rfl ?_; clear hK8 K8
    refine codeT.imp (σ' := [(0, _), (1, _), (2, _), (5, _), (6, _), (7, _), (8, _), (9, _), (27, _)]) ?_ (imp_covers ⟨rfl, rfl, rfl, rfl, rfl, rfl, rfl, rfl, rfl, trivial⟩)
    refine code_block ?_
    refine code_seq (fun K9 hK9 => ?_)
    refine code_region ?_
    refine list_cons rfl (op_q (q_move rfl (by decide)) ?_)
    refine list_cons rfl (op_q (q_load_box1 one_3 rfl rfl (by decide)) ?_)
    refine list_cons rfl (op_call _ (impl_stepRows (atC n k i) k ha) rfl rfl (by decide) (by decide) (by decide) rfl ?_)
    rintro _ rfl
    refine list_cons rfl (op_q (q_move rfl (by decide)) ?_)
    refine list_cons rfl (op_q (q_extract rfl rfl (by decide)) ?_)
    refine list_cons rfl (op_q (q_extract rfl rfl (by decide)) ?_)
    refine list_cons rfl (op_q (q_extract rfl rfl (by decide)) ?_)
    refine list_cons rfl (op_q (q_assign rfl (by decide)) ?_)
    refine list_cons rfl (op_q (q_assign rfl (by decide)) ?_)
    refine list_cons rfl (op_q (q_assign rfl (by decide)) ?_)
    refine list_nil ?_
    refine hK9 _ ?_; clear hK9 K9
    refine codeT.imp (σ' := [(0, .val (.int .i64 n)), (1, .val (.int .i64 s)), (2, .val (.int .i64 k)), (5, .box 5 3 [.int .i64 k]), (6, .box 6 28 [.sl 0 []]), (7, .box 7 4 [.bool false]), (8, .boxS 8 28 22 43 7 k.toNat ((fW n k i 0).map (.int .i64))), (9, _), (10, _), (11, _), (12, _), (27, _)]) ?_ (imp_covers ⟨rfl, rfl, rfl, rfl, rfl, rfl, rfl, rfl, rfl, rfl, rfl, rfl, trivial⟩)
    refine code_seq (fun K10 hK10 => ?_)
    refine code_seq (fun K11 hK11 => ?_)
    refine code_region ?_
    refine list_cons rfl (op_q (q_move rfl (by decide)) ?_)
    refine list_cons rfl (op_q (by first | exact q_notd rfl (by decide) | exact q_not rfl (by decide)) ?_)
    refine list_nil ?_
    refine hK11 _ ?_; clear hK11 K11
    refine code_cond_f rfl ?_
    refine code_skip ?_
    refine hK10 _ ?_; clear hK10 K10
    refine code_seq (fun K12 hK12 => ?_)
    refine code_region ?_
    refine list_cons rfl (op_q (q_move rfl (by decide)) ?_)
    refine list_cons rfl (op_q (q_len_sl Tryd.underlying35 rfl rfl (by decide)) ?_)
    refine list_cons rfl (op_q (q_move rfl (by decide)) ?_)
    refine list_nil ?_
    refine hK12 _ ?_; clear hK12 K12
    refine code_block ?_
    refine code_loop (X := Nat × List PV × Int × Nat × List PV × Nat × List PV × Bool × Int × Nat × List PV × Int) (fun x => [(0, .val (.int .i64 n)), (1, .val (.int .i64 s)), (2, .val (.int .i64 k)), (5, .box 5 3 [.int .i64 k]), (6, .box 6 28 [.sl 0 []]), (7, .box 7 4 [.bool false]), (8, .boxS 8 28 22 43 7 x.1 x.2.1), (9, .val (.int .i64 x.2.2.1)), (10, .own 31 3 1 x.2.2.2.1 x.2.2.2.2.1), (11, .own 1031 3 1 x.2.2.2.2.2.1 x.2.2.2.2.2.2.1), (12, .val (.bool x.2.2.2.2.2.2.2.1)), (27, .val (.int .i64 x.2.2.2.2.2.2.2.2.1)), (38, .own 31 3 1 x.2.2.2.2.2.2.2.2.2.1 x.2.2.2.2.2.2.2.2.2.2.1), (39, .val (.int .i64 ((rowC (atC n k i) k).length : Nat))), (40, .val (.int .i64 x.2.2.2.2.2.2.2.2.2.2.2))]) (fun x => 0 ≤ x.2.2.2.2.2.2.2.2.2.2.2 ∧ x.2.2.2.2.2.2.2.2.2.2.2 ≤ k ∧ x.2.2.2.2.2.2.2.2.2.1 = k.toNat ∧ x.2.2.2.2.2.2.2.2.2.2.1 = (rowC (atC n k i) k).map (.int .i64) ∧ x.1 = k.toNat ∧ x.2.1 = (fW n k i (x.2.2.2.2.2.2.2.2.2.2.2.toNat * 7)).map (.int .i64) ∧ x.2.2.2.1 = k.toNat ∧ x.2.2.2.2.1 = (rowC (atC n k i) k).map (.int .i64) ∧ x.2.2.2.2.2.1 = k.toNat ∧ x.2.2.2.2.2.2.1 = (rowC (nextC (atC n k i) k) k).map (.int .i64)) (fun x => (k - x.2.2.2.2.2.2.2.2.2.2.2).toNat) (_, _, _, _, _, _, _, _, _, _, _, _) (imp_covers ⟨rfl, rfl, rfl, rfl, rfl, rfl, rfl, rfl, rfl, rfl, rfl, rfl, rfl, rfl, rfl, trivial⟩) ?_ ?_
    · (try dsimp only)
      exact ⟨by omega, by omega, har, rfl, rfl, rfl, har, rfl, hbr, rfl⟩
    · intro x hI
      obtain ⟨wear_n, wear_c, n_, before_n, before_c, after_n, after_c, ok, t27, t38_n, t38_c, t40⟩ := x
      replace hI : 0 ≤ t40 ∧ t40 ≤ k ∧ t38_n = k.toNat ∧ t38_c = (rowC (atC n k i) k).map (.int .i64) ∧ wear_n = k.toNat ∧ wear_c = (fW n k i (t40.toNat * 7)).map (.int .i64) ∧ before_n = k.toNat ∧ before_c = (rowC (atC n k i) k).map (.int .i64) ∧ after_n = k.toNat ∧ after_c = (rowC (nextC (atC n k i) k) k).map (.int .i64) := hI
      show codeT _ _ _ [(0, .val (.int .i64 n)), (1, .val (.int .i64 s)), (2, .val (.int .i64 k)), (5, .box 5 3 [.int .i64 k]), (6, .box 6 28 [.sl 0 []]), (7, .box 7 4 [.bool false]), (8, .boxS 8 28 22 43 7 wear_n wear_c), (9, .val (.int .i64 n_)), (10, .own 31 3 1 before_n before_c), (11, .own 1031 3 1 after_n after_c), (12, .val (.bool ok)), (27, .val (.int .i64 t27)), (38, .own 31 3 1 t38_n t38_c), (39, .val (.int .i64 ((rowC (atC n k i) k).length : Nat))), (40, .val (.int .i64 t40))] _
      obtain ⟨j1, j2, rfl, rfl, rfl, rfl, rfl, rfl, rfl, rfl⟩ := hI
      have hra := rowC_any (atC n k i) k t40.toNat
      have hrb := rowC_any (nextC (atC n k i) k) k t40.toNat
      have hxr := xr_any hra hrb
      refine code_seq (fun K13 hK13 => ?_)
      refine code_region ?_
      refine list_cons rfl (op_q (q_lt rfl rfl (by decide)) ?_)
      refine list_nil ?_
      refine hK13 _ ?_; clear hK13 K13
      refine code_seq (fun K14 hK14 => ?_)
      refine code_cond_d rfl (fun h2 => ?_) (fun h2 => ?_)
      · skip
        (try simp only [Decidable.not_not] at h2)
        refine code_skip ?_
        refine hK14 _ ?_; clear hK14 K14
        refine code_seq (fun K15 hK15 => ?_)
        refine code_block ?_
        refine code_seq (fun K16 hK16 => ?_)
        refine code_region ?_
        refine list_cons rfl (op_q (q_move rfl (by decide)) ?_)
        refine list_cons rfl (op_q (q_indexAddr_own sl_35 rfl rfl (by omega) (by omega) (by decide)) ?_)
        refine list_cons rfl (op_q (q_load one_3 10 rfl rfl rfl (by first | rfl | exact get_map1 _ 0 _ (by first | omega | (simp; omega))) (by decide)) ?_)
        refine list_cons rfl (op_q (q_assign rfl (by decide)) ?_)
        refine list_cons rfl (op_q (q_assign rfl (by decide)) ?_)
        refine list_nil ?_
        refine hK16 _ ?_; clear hK16 K16
        refine any_start fun ob2_0 => ?_
        refine any_op (rd := [8]) ob2_0 rfl rfl rfl (anyT_quiet [(8, _)] ⟨rfl, trivial⟩ rfl (q_loadS one_28 rfl (by decide))) (fun ob2_1 => ?_)
        simp only [List.cons_append, List.nil_append] at ob2_1
        refine any_op (rd := [13]) ob2_1 rfl rfl rfl (anyT_quiet [(13, _)] ⟨rfl, trivial⟩ rfl (q_move rfl (by decide))) (fun ob2_2 => ?_)
        simp only [List.cons_append, List.nil_append] at ob2_2
        refine any_op (rd := [8]) ob2_2 rfl rfl rfl (anyT_quiet [(8, _)] ⟨rfl, trivial⟩ rfl (q_loadS one_28 rfl (by decide))) (fun ob2_3 => ?_)
        simp only [List.cons_append, List.nil_append] at ob2_3
        refine any_op (rd := [13]) ob2_3 rfl rfl rfl (anyT_quiet [(13, _)] ⟨rfl, trivial⟩ rfl (q_move rfl (by decide))) (fun ob2_4 => ?_)
        simp only [List.cons_append, List.nil_append] at ob2_4
        refine any_op (rd := [47, 48]) ob2_4 rfl rfl rfl (anyT_quiet [(47, _), (48, _)] ⟨rfl, rfl, trivial⟩ rfl (q_indexAddr_own sl_28 rfl rfl (by omega) (by omega) (by decide))) (fun ob2_5 => ?_)
        simp only [List.cons_append, List.nil_append] at ob2_5
        refine any_op (rd := [49, 47]) ob2_5 rfl rfl rfl (anyT_quiet [(49, _), (47, _)] ⟨rfl, rfl, trivial⟩ rfl (q_load_agg agg_43 47 (.inl rfl) rfl rfl (by first | omega | (simp only [List.length_map, fW_len]; omega) | exact get_map1 _ 0 _ (by first | omega | (simp; omega))) (by first | rfl | exact flat_part (flat_map _ (fun _ => rfl) _) _ _) (by decide))) (fun ob2_6 => ?_)
        simp only [List.cons_append, List.nil_append] at ob2_6
        refine any_op (rd := [14]) ob2_6 rfl rfl rfl (anyT_quiet [(14, _)] ⟨rfl, trivial⟩ rfl (q_move rfl (by decide))) (fun ob2_7 => ?_)
        simp only [List.cons_append, List.nil_append] at ob2_7
        refine any_op (rd := [11]) ob2_7 rfl rfl rfl (anyT_quiet [(11, _)] ⟨rfl, trivial⟩ rfl (q_move rfl (by decide))) (fun ob2_8 => ?_)
        simp only [List.cons_append, List.nil_append] at ob2_8
        refine any_op (rd := [13]) ob2_8 rfl rfl rfl (anyT_quiet [(13, _)] ⟨rfl, trivial⟩ rfl (q_move rfl (by decide))) (fun ob2_9 => ?_)
        simp only [List.cons_append, List.nil_append] at ob2_9
        refine any_op (rd := [52, 53]) ob2_9 rfl rfl rfl (anyT_quiet [(52, _), (53, _)] ⟨rfl, rfl, trivial⟩ rfl (q_indexAddr_own sl_35 rfl rfl (by omega) (by omega) (by decide))) (fun ob2_10 => ?_)
        simp only [List.cons_append, List.nil_append] at ob2_10
        refine any_op (rd := [54, 11]) ob2_10 rfl rfl rfl (anyT_quiet [(54, _), (11, _)] ⟨rfl, rfl, trivial⟩ rfl (q_load one_3 11 rfl rfl rfl (by first | omega | (simp only [List.length_map, fW_len]; omega) | exact get_map1 _ 0 _ (by first | omega | (simp; omega))) (by decide))) (fun ob2_11 => ?_)
        simp only [List.cons_append, List.nil_append] at ob2_11
        refine any_op (rd := [51, 55]) ob2_11 rfl rfl rfl (anyT_quiet [(51, _), (55, _)] ⟨rfl, rfl, trivial⟩ rfl (by first | exact q_xorI rfl rfl (by decide) (by omega) (by omega) (by omega) (by omega) | exact q_ib rfl rfl rfl (by decide))) (fun ob2_12 => ?_)
        simp only [List.cons_append, List.nil_append] at ob2_12
        refine any_op (rd := [50, 56]) ob2_12 rfl rfl rfl (fun σ hag hfr => by have e50 : σ.at 50 = some _ := (hag 50 (by decide)).trans rfl; have e56 : σ.at 56 = some _ := (hag 56 (by decide)).trans rfl; exact op_call _ ((by rw [← List.map_drop, ← List.map_take]; exact impl_withBars (rw7 (fW n k i (t40.toNat * 7)) t40.toNat) _ (i + 1) (rw7_len (by rw [fW_len]; omega)) (rw7_le (fW_le n k i _) (by omega) _) (by omega) (by omega))) (evs_cons e50 (evs_cons e56 evs_nil)) rfl (by decide) (by decide) (by decide) hfr (fun rs hR => by subst hR; rfl)) (fun ob2_13 => ?_)
        simp only [List.cons_append, List.nil_append] at ob2_13
        refine any_end [[], [], [], [], [2, 3], [2, 3, 4], [], [], [], [7, 8], [7, 8, 9], [6, 7, 8, 9, 10], [2, 3, 4, 5, 6, 7, 8, 9, 10, 11], [0, 1, 2, 3, 4, 5, 6, 7, 8, 9, 10, 11, 12], [0, 1, 2, 3, 4, 5, 6, 7, 8, 9, 10, 11, 12, 13]] ob2_13 (by kernel_rfl) (Nat.le_of_ble_eq_true rfl) (by decide) (by decide) (by kernel_rfl) (by kernel_rfl) (by kernel_rfl) (by kernel_rfl) (by kernel_rfl) ?_
        clear ob2_0 ob2_1 ob2_2 ob2_3 ob2_4 ob2_5 ob2_6 ob2_7 ob2_8 ob2_9 ob2_10 ob2_11 ob2_12 ob2_13
        refine listT.imp (σ' := ((0, _) :: (1, _) :: (2, _) :: (5, _) :: (6, _) :: (7, _) :: (8, _) :: (9, _) :: (10, _) :: (11, _) :: (12, _) :: (13, _) :: (14, _) :: (27, _) :: (38, _) :: (39, _) :: (40, _) :: (41, _) :: (42, _) :: (43, _) :: (44, _) :: (45, _) :: (46, _) :: (47, _) :: (48, _) :: (49, _) :: (50, _) :: (51, _) :: (52, _) :: (53, _) :: (54, _) :: (55, _) :: (56, _) :: (57, _) :: [])) ?_ (imp_covers ⟨rfl, rfl, rfl, rfl, rfl, rfl, rfl, rfl, rfl, rfl, rfl, rfl, rfl, rfl, rfl, rfl, rfl, rfl, rfl, rfl, rfl, rfl, rfl, rfl, rfl, rfl, rfl, rfl, rfl, rfl, rfl, rfl, rfl, rfl, trivial⟩)
        refine list_cons rfl (op_q (q_indexAddr_own sl_28 rfl rfl (by omega) (by omega) (by decide)) ?_)
        refine list_cons rfl (op_storeG (agg_43).2 45 [45, 47, 8] (by intro t ht; simp only [List.mem_cons, List.not_mem_nil, or_false] at ht; rcases ht with rfl | rfl | rfl <;> rfl) (.inl rfl) rfl rfl rfl (.inl ⟨rfl, (by first | rfl | exact flat_part (flat_map _ (fun _ => rfl) _) _ _ | exact flat_map _ (fun _ => rfl) _)⟩) (by first | rfl | (show ((wbK _ _ 7).map (PV.int .i64)).length = 7; rw [List.length_map, wbK_len, rw7_len (by rw [fW_len]; omega)])) (by simp only [List.length_map, fW_len]; omega) (by decide) rfl ?_)
        refine list_nil ?_
        refine blk_n ?_
        refine hK15 _ ?_; clear hK15 K15
        refine codeT.imp (σ' := [(0, _), (1, _), (2, _), (5, _), (6, _), (7, _), (8, _), (9, _), (10, _), (11, _), (12, _), (13, _), (14, _), (27, _), (38, _), (39, _), (40, _)]) ?_ (imp_covers ⟨rfl, rfl, rfl, rfl, rfl, rfl, rfl, rfl, rfl, rfl, rfl, rfl, rfl, rfl, rfl, rfl, rfl, trivial⟩)
        refine code_region ?_
        refine list_cons rfl (op_q (by first | exact q_addI rfl rfl (by decide) (by omega) (by omega) | exact q_ib rfl rfl rfl (by decide)) ?_)
        refine list_cons rfl (op_q (q_move rfl (by decide)) ?_)
        refine list_nil ?_
        refine then_n ⟨(_, _, _, _, _, _, _, _, _, _, _, _), imp_covers ⟨rfl, rfl, rfl, rfl, rfl, rfl, rfl, rfl, rfl, rfl, rfl, rfl, rfl, rfl, rfl, trivial⟩, ?_, ?_⟩
        · (try dsimp only)
          refine ⟨by omega, by omega, rfl, rfl, rfl, ?_, rfl, rfl, rfl, rfl⟩
          rw [show (t40 + 1).toNat = t40.toNat + 1 by omega]
          exact fW_row n k i (by omega)
        · (try dsimp only); omega
      (try simp only [Decidable.not_not] at h2)
      refine code_exit ?_
      refine then_x ?_; clear hK14 K14
      refine then_x ?_
      refine blk_hit ?_
      refine blk_n ?_
      refine rp_n ⟨trivial, imp_covers ⟨rfl, rfl, rfl, rfl, rfl, rfl, (congrArg (fun z => some (SV.boxS 8 28 22 43 7 k.toNat (List.map (PV.int .i64) z))) (by rw [← fW_next, show t40.toNat * 7 = k.toNat * 7 by omega])), trivial⟩⟩
  · skip
    refine blk_n ?_
    refine hK6 _ ?_; clear hK6 K6
    refine codeT.imp (σ' := [(0, _), (1, _), (2, _), (5, _), (6, _), (7, _), (8, _)]) ?_ (imp_covers ⟨rfl, rfl, rfl, rfl, rfl, rfl, rfl, trivial⟩)
    refine code_seq (fun K17 hK17 => ?_)
    refine code_region ?_
    refine list_cons rfl (op_q (q_loadS one_28 rfl (by decide)) ?_)
    refine list_cons rfl (op_storeS (one_28).2 rfl rfl (by decide) rfl ?_)
    refine list_cons rfl (op_store (one_4).2 7 [7] (by intro t ht; simp only [List.mem_cons, List.not_mem_nil, or_false] at ht; subst ht; rfl) (.inr ⟨rfl, _, rfl⟩) rfl rfl rfl rfl rfl rfl (by first | decide | omega | exact Nat.le_refl _ | (simp; done) | (simp; omega)) (by decide) rfl ?_)
    refine list_nil ?_
    refine hK17 _ ?_; clear hK17 K17
    refine codeT.imp (σ' := [(0, _), (1, _), (2, _), (5, _), (6, _), (7, _), (8, _)]) ?_ (imp_covers ⟨rfl, rfl, rfl, rfl, rfl, rfl, rfl, trivial⟩)
    refine code_ret ?_
    refine ends_ret (cs := []) rfl rfl rfl rfl trivial ?_
    first
      | (have e : ¬ (Cn n k ∧ 0 ≤ s ∧ s ≤ 1000) := by assumption
         simp only [if_neg e, decide_eq_false e]; rfl)
      | (have e : Cn n k ∧ 0 ≤ s ∧ s ≤ 1000 := h1
         simp only [if_pos e, decide_eq_true e])

/-- The contracts of what MostChanges calls, as the interpreter takes them. -/
def ext4 : CallF := fun f ps =>
  match ps with
  | [.int .i64 k] => bif Nat.beq f 91 && decide (0 ≤ k ∧ k ≤ 6) then some [.val (.int .i64 (top4 k))] else bif Nat.beq f 100 && decide (1 ≤ k ∧ k ≤ 6) then some [.val (.int .i64 (top4 k - 1)), .val (.bool true)] else none
  | [.int .i64 n, .int .i64 k] => bif decide (Cn n k) then (bif Nat.beq f 96 then some [.val (.int .i64 (stepC n k))] else bif Nat.beq f 25 then some [.val (.int .i64 (stepC n k)), .val (.bool true)] else none) else none
  | _ => none
theorem ext4_ok : ext4.ok Tryd.prog := by
  intro f ps rs h
  unfold ext4 at h
  split at h
  · rename_i k
    cases h1 : (Nat.beq f 91 && decide (0 ≤ k ∧ k ≤ 6)) with
    | true =>
      rw [h1] at h
      simp only [cond_true, Option.some.injEq] at h
      simp only [Bool.and_eq_true, decide_eq_true_eq] at h1
      rw [Nat.eq_of_beq_eq_true h1.1, ← h]
      exact spec_l4Top k h1.2.1 h1.2.2
    | false =>
      rw [h1] at h
      simp only [cond_false] at h
      cases h2 : (Nat.beq f 100 && decide (1 ≤ k ∧ k ≤ 6)) with
      | true =>
        rw [h2] at h
        simp only [cond_true, Option.some.injEq] at h
        simp only [Bool.and_eq_true, decide_eq_true_eq] at h2
        rw [Nat.eq_of_beq_eq_true h2.1, ← h]
        have := impl_greatestShown k
        simp only [if_pos h2.2, decide_eq_true h2.2] at this
        exact this
      | false => rw [h2] at h; cases h
  · rename_i n k
    cases h0 : decide (Cn n k) with
    | false => rw [h0] at h; cases h
    | true =>
      rw [h0] at h
      have hc := of_decide_eq_true h0
      simp only [cond_true] at h
      cases h1 : Nat.beq f 96 with
      | true =>
        rw [h1] at h
        simp only [cond_true, Option.some.injEq] at h
        rw [Nat.eq_of_beq_eq_true h1, ← h]
        exact spec_l4Step n k hc
      | false =>
        rw [h1] at h
        simp only [cond_false] at h
        cases h2 : Nat.beq f 25 with
        | true =>
          rw [h2] at h
          simp only [cond_true, Option.some.injEq] at h
          rw [Nat.eq_of_beq_eq_true h2, ← h]
          exact impl_StepChangesY n k hc
        | false => rw [h2] at h; cases h
  · cases h
def twoB (x : Option (List SV)) (a b : Int) : Bool := match x with
  | some [.val (.int .i64 p), .val (.int .i64 q), .val (.bool true)] => intEq p a && intEq q b
  | _ => false
theorem twoB_ok {x : Option (List SV)} {a b : Int} (h : twoB x a b = true) : x = some [.val (.int .i64 a), .val (.int .i64 b), .val (.bool true)] := by
  unfold twoB at h
  split at h
  · simp only [Bool.and_eq_true, intEq_eq, beq_iff_eq] at h
    rw [h.1, h.2]
  · cases h
def mostN (k : Nat) : Int := if k = 1 then 1 else 2 * (10 ^ (k - 1) : Nat) - 1
set_option maxRecDepth 100000 in
theorem most_spec (k : Int) (h0 : 1 ≤ k) (h1 : k ≤ 6) : PCalls Tryd.prog 32 [.int .i64 k] (· = [.val (.int .i64 (mostN k.toNat)), .val (.int .i64 ((2 * k.toNat + 3 : Nat) : Int)), .val (.bool true)]) := by
  have h := below_ok (p := fun i => twoB (crun Tf.tf ext4 200 3 32 [.int .i64 (Int.ofNat (i + 1))]) (mostN (i + 1)) ((2 * (i + 1) + 3 : Nat) : Int)) (k := 6) (by kernel_rfl) (k.toNat - 1) (by omega)
  rw [show k.toNat - 1 + 1 = k.toNat by omega, show Int.ofNat k.toNat = k from Int.toNat_of_nonneg (by omega)] at h
  exact pcalls_runX Tf.tf ext4_ok (twoB_ok h)
set_option maxRecDepth 100000 in
theorem most_impl (k : Int) (h0 : 1 ≤ k) (h1 : k ≤ 6) : PCalls Tryd.prog 31 [.int .i64 k] (· = [.val (.int .i64 (mostN k.toNat)), .val (.int .i64 ((2 * k.toNat + 3 : Nat) : Int)), .val (.bool true)]) := by
  have h := below_ok (p := fun i => twoB (crun Tf.tf ext4 200 3 31 [.int .i64 (Int.ofNat (i + 1))]) (mostN (i + 1)) ((2 * (i + 1) + 3 : Nat) : Int)) (k := 6) (by kernel_rfl) (k.toNat - 1) (by omega)
  rw [show k.toNat - 1 + 1 = k.toNat by omega, show Int.ofNat k.toNat = k from Int.toNat_of_nonneg (by omega)] at h
  exact pcalls_runX Tf.tf ext4_ok (twoB_ok h)

set_option maxRecDepth 4000 in
theorem spec_MostChangesN (k : Int) (h : ¬ (1 ≤ k ∧ k ≤ 6)) : PCalls Tryd.prog 32 [.int .i64 k] (· = [.val (.int .i64 0), .val (.int .i64 0), .val (.bool false)]) := by
  refine pcalls_of_code (n := 57) az Tryd.func32 (by kernel_rfl) rfl rfl (Nat.le_of_ble_eq_true rfl) (by intro t u h; simp [Tryd.f32] at h) ?_
  refine code_seq (fun K1 hK1 => ?_)
  refine code_region ?_
  refine list_cons rfl (op_q (q_assign rfl (by decide)) ?_)
  refine list_cons rfl (op_q (q_assign rfl (by decide)) ?_)
  refine list_cons rfl (op_q (q_assign rfl (by decide)) ?_)
  refine list_nil ?_
  refine hK1 _ ?_; clear hK1 K1
  refine code_seq (fun K2 hK2 => ?_)
  refine code_seq (fun K3 hK3 => ?_)
  refine code_region ?_
  refine list_cons rfl (op_q (q_move rfl (by decide)) ?_)
  refine list_cons rfl (op_call _ (spec_l1In k 1 6) rfl rfl (by decide) (by decide) (by decide) rfl ?_)
  rintro _ rfl; rw [decide_eq_false h]
  refine list_cons rfl (op_q (by first | exact q_notd rfl (by decide) | exact q_not rfl (by decide)) ?_)
  refine list_nil ?_
  refine hK3 _ ?_; clear hK3 K3
  refine codeT.imp (σ' := [(0, _), (2, _), (3, _), (4, _), (13, _)]) ?_ (imp_covers ⟨rfl, rfl, rfl, rfl, rfl, trivial⟩)
  refine code_cond_t rfl ?_
  refine code_seq (fun K4 hK4 => ?_)
  refine code_region ?_
  refine list_cons rfl (op_q (q_assign rfl (by decide)) ?_)
  refine list_cons rfl (op_q (q_assign rfl (by decide)) ?_)
  refine list_cons rfl (op_q (q_assign rfl (by decide)) ?_)
  refine list_nil ?_
  refine hK4 _ ?_; clear hK4 K4
  refine code_ret ?_
  refine then_r ?_; clear hK2 K2
  refine ends_ret (cs := []) rfl rfl rfl rfl trivial ?_
  rfl

theorem spec_MostChanges (k : Int) : PCalls Tryd.prog 32 [.int .i64 k] (· = [.val (.int .i64 (if 1 ≤ k ∧ k ≤ 6 then mostN k.toNat else 0)), .val (.int .i64 (if 1 ≤ k ∧ k ≤ 6 then ((2 * k.toNat + 3 : Nat) : Int) else 0)), .val (.bool (decide (1 ≤ k ∧ k ≤ 6)))]) := by
  by_cases h : 1 ≤ k ∧ k ≤ 6
  · simp only [if_pos h, decide_eq_true h]; exact most_spec k h.1 h.2
  · simp only [if_neg h, decide_eq_false h]; exact spec_MostChangesN k h

set_option maxRecDepth 4000 in
theorem impl_MostChangesN (k : Int) (h : ¬ (1 ≤ k ∧ k ≤ 6)) : PCalls Tryd.prog 31 [.int .i64 k] (· = [.val (.int .i64 0), .val (.int .i64 0), .val (.bool false)]) := by
  refine pcalls_of_code (n := 49) az Tryd.func31 (by kernel_rfl) rfl rfl (Nat.le_of_ble_eq_true rfl) (by intro t u h; simp [Tryd.f31] at h) ?_
  refine code_seq (fun K1 hK1 => ?_)
  refine code_region ?_
  refine list_cons rfl (op_q (q_assign rfl (by decide)) ?_)
  refine list_cons rfl (op_q (q_assign rfl (by decide)) ?_)
  refine list_cons rfl (op_q (q_assign rfl (by decide)) ?_)
  refine list_nil ?_
  refine hK1 _ ?_; clear hK1 K1
  refine code_seq (fun K2 hK2 => ?_)
  refine code_region ?_
  refine list_cons rfl (op_q (q_move rfl (by decide)) ?_)
  refine list_cons rfl (op_call _ (impl_greatestShown k) rfl rfl (by decide) (by decide) (by decide) rfl ?_)
  rintro _ rfl; simp only [if_neg h, decide_eq_false h]
  refine list_cons rfl (op_q (q_move rfl (by decide)) ?_)
  refine list_cons rfl (op_q (q_extract rfl rfl (by decide)) ?_)
  refine list_cons rfl (op_q (q_extract rfl rfl (by decide)) ?_)
  refine list_cons rfl (op_q (q_assign rfl (by decide)) ?_)
  refine list_cons rfl (op_q (q_assign rfl (by decide)) ?_)
  refine list_nil ?_
  refine hK2 _ ?_; clear hK2 K2
  refine codeT.imp (σ' := [(0, _), (2, _), (3, _), (4, _), (5, _), (6, _)]) ?_ (imp_covers ⟨rfl, rfl, rfl, rfl, rfl, rfl, trivial⟩)
  refine code_seq (fun K3 hK3 => ?_)
  refine code_seq (fun K4 hK4 => ?_)
  refine code_region ?_
  refine list_cons rfl (op_q (q_move rfl (by decide)) ?_)
  refine list_cons rfl (op_q (by first | exact q_notd rfl (by decide) | exact q_not rfl (by decide)) ?_)
  refine list_nil ?_
  refine hK4 _ ?_; clear hK4 K4
  refine code_cond_t rfl ?_
  refine code_seq (fun K5 hK5 => ?_)
  refine code_region ?_
  refine list_cons rfl (op_q (q_assign rfl (by decide)) ?_)
  refine list_cons rfl (op_q (q_assign rfl (by decide)) ?_)
  refine list_cons rfl (op_q (q_assign rfl (by decide)) ?_)
  refine list_nil ?_
  refine hK5 _ ?_; clear hK5 K5
  refine code_ret ?_
  refine then_r ?_; clear hK3 K3
  refine ends_ret (cs := []) rfl rfl rfl rfl trivial ?_
  rfl

theorem impl_MostChanges (k : Int) : PCalls Tryd.prog 31 [.int .i64 k] (· = [.val (.int .i64 (if 1 ≤ k ∧ k ≤ 6 then mostN k.toNat else 0)), .val (.int .i64 (if 1 ≤ k ∧ k ≤ 6 then ((2 * k.toNat + 3 : Nat) : Int) else 0)), .val (.bool (decide (1 ≤ k ∧ k ≤ 6)))]) := by
  by_cases h : 1 ≤ k ∧ k ≤ 6
  · simp only [if_pos h, decide_eq_true h]; exact most_impl k h.1 h.2
  · simp only [if_neg h, decide_eq_false h]; exact impl_MostChangesN k h

end Go.Proofs.YtdlckhdalbagmaaDoor
