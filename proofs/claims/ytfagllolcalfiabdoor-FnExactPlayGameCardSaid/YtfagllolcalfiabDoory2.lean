/- Contracts of functions, walked over the pure layer; each says for which arguments. -/
import Derived.Test.YtfagllolcalfiabDoory2Ty
import Derived.Test.YtfagllolcalfiabDoorTf
import Derived.Test.YtfagllolcalfiabDoory1
import Derived.Test.YtfagllolcalfiabDoorShelf
namespace Go.Proofs.YtfagllolcalfiabDoor
open Go.RowKit y2Ty
set_option linter.unusedVariables false
set_option linter.unusedSimpArgs false
def abcG : List UInt8 := [97, 98, 99, 100, 101, 102, 103]
def ixR (r : Int) : Int := if 97 ≤ r ∧ r ≤ 103 then r - 97 else -1
set_option maxRecDepth 100000 in
theorem ix_ascii (r : Int) (h0 : 0 ≤ r) (h1 : r < 128) : Lib.indexByte abcG r.toNat.toUInt8 = ixR r := by
  have k : below 128 (fun n => intEq (Lib.indexByte abcG n.toUInt8) (ixR (n : Int))) = true := by kernel_rfl
  have := below_ok k r.toNat (by omega)
  rw [intEq_eq, beq_iff_eq] at this
  rwa [Int.toNat_of_nonneg h0] at this
theorem ix_none (c : UInt8) (h : 128 ≤ c.toNat) (l : List UInt8) (hl : ∀ b ∈ l, b.toNat < 128) : Lib.indexByte l c = -1 := by
  induction l with
  | nil => rfl
  | cons b l ih =>
    have hb := hl b (by simp)
    have hne : (b == c) = false := by
      rw [beq_eq_false_iff_ne]; intro e; subst e; omega
    unfold Lib.indexByte
    rw [ih (fun x hx => hl x (by simp [hx])), hne]; rfl
theorem abcG_lt : ∀ b ∈ abcG, b.toNat < 128 := by decide
theorem indexByte_c (s : List UInt8) (b : UInt8) : PCalls Tryd.prog 87 [.str s, .int .u8 b.toNat] (· = [.val (.int .i64 (Lib.indexByte s b))]) := by
  refine pcalls_flat (enters_of Tryd.func87 (by kernel_rfl) rfl) fun w vs ha => ?_
  obtain ⟨v0, r0, rfl, ha0, ha⟩ := repArgs_cons ha
  obtain ⟨v1, r1, rfl, ha1, ha⟩ := repArgs_cons ha
  obtain rfl := repArgs_nil ha
  simp only [Rep] at ha0 ha1
  subst ha0; subst ha1
  refine (Tryd.strings_IndexByte (.mk s.toArray) b.toNat w).mono fun e w' ⟨he, hw⟩ => ⟨[.int .i64 (Lib.indexByte s b)], [.int .i64 (Lib.indexByte s b)], ?_, hw ▸ Below.refl _ _, ⟨_, _, rfl, by simp [Rep], rfl⟩, rfl⟩
  rw [he]; simp [packV]
theorem indexRune_ascii (r : Int) (h0 : 0 ≤ r) (h1 : r < 128) : PCalls Tryd.prog 86 [.str abcG, .int .i32 r] (· = [.val (.int .i64 (ixR r))]) := by
  refine pcalls_flat (enters_of Tryd.func86 (by kernel_rfl) rfl) fun w vs ha => ?_
  obtain ⟨v0, r0, rfl, ha0, ha⟩ := repArgs_cons ha
  obtain ⟨v1, r1, rfl, ha1, ha⟩ := repArgs_cons ha
  obtain rfl := repArgs_nil ha
  simp only [Rep] at ha0 ha1
  subst ha0; subst ha1
  refine (Tryd.strings_IndexRune_ascii (.mk abcG.toArray) r w h0 h1).mono fun e w' ⟨he, hw⟩ => ⟨[.int .i64 (ixR r)], [.int .i64 (ixR r)], ?_, hw ▸ Below.refl _ _, ⟨_, _, rfl, by simp [Rep], rfl⟩, rfl⟩
  rw [he, ix_ascii r h0 h1]; rfl
theorem validRune_c (r : Int) : PCalls Tryd.prog 88 [.int .i32 r] (· = [.val (.bool (decide ((0 ≤ r ∧ r < 0xD800) ∨ (0xDFFF < r ∧ r ≤ 0x10FFFF))))]) := by
  refine pcalls_flat (enters_of Tryd.func88 (by kernel_rfl) rfl) fun w vs ha => ?_
  obtain ⟨v0, r0, rfl, ha0, ha⟩ := repArgs_cons ha
  obtain rfl := repArgs_nil ha
  simp only [Rep] at ha0
  subst ha0
  exact (Tryd.utf8_ValidRune r w).mono fun e w' ⟨he, hw⟩ => ⟨[.bool (Lib.validRune r)], [.bool (Lib.validRune r)], he, hw ▸ Below.refl _ _, ⟨_, _, rfl, by simp [Rep], rfl⟩, rfl⟩
set_option maxRecDepth 4000 in
theorem indexRune_hi (r : Int) (h0 : 128 ≤ r) (h1 : r ≤ 1114111) : PCalls Tryd.prog 86 [.str abcG, .int .i32 r] (· = [.val (.int .i64 (-1))]) := by
  refine pcalls_of_code (n := 187) az Tryd.func86 (by kernel_rfl) rfl rfl (Nat.le_of_ble_eq_true rfl) (by intro t u h; simp [Tryd.f86] at h) ?_
  have hal : abcG.length = 7 := rfl
  have hab : ∀ j, j < abcG.length → (abcG.getD j 0).toNat < 128 := by decide
  have he := encode_hi h0
  have hel := he.1
  have hel2 := he.2.1
  refine code_seq (fun K1 hK1 => ?_)
  refine code_region ?_
  refine list_cons rfl (op_q (q_assign rfl (by decide)) ?_)
  refine list_nil ?_
  refine hK1 _ ?_; clear hK1 K1
  refine code_block ?_
  refine code_seq (fun K2 hK2 => ?_)
  refine code_region ?_
  refine list_cons rfl (op_q (q_move rfl (by decide)) ?_)
  refine list_cons rfl (op_q (q_le rfl rfl (by decide)) ?_)
  refine list_cons rfl (op_q (q_move rfl (by decide)) ?_)
  refine list_guard_d rfl rfl rfl rfl (by decide) rfl (by decide) (fun h1 => ?_) (fun h1 => ?_)
  · simp only [Bool.false_eq_true, if_true, if_false, Decidable.not_not] at h1
    refine id (op_q (q_move rfl (by decide)) ?_)
    refine list_guard_y rfl rfl rfl rfl (by decide) rfl ?_
    refine id (op_q (q_lt rfl rfl (by decide)) ?_)
    refine list_cons rfl (op_q (q_pick rfl rfl (by decide)) ?_)
    refine list_cons rfl (op_q (q_assign rfl (by decide)) ?_)
    refine list_nil ?_
    refine hK2 _ ?_; clear hK2 K2
    refine code_cond_d rfl (fun h2 => ?_) (fun h2 => ?_)
    · skip
      (try simp only [Decidable.not_not] at h2)
      exfalso
      omega
    (try simp only [Decidable.not_not] at h2)
    refine code_seq (fun K3 hK3 => ?_)
    refine code_region ?_
    refine list_cons rfl (op_q (q_move rfl (by decide)) ?_)
    refine list_cons rfl (op_q (q_eq rfl rfl (by decide)) ?_)
    refine list_cons rfl (op_q (q_assign rfl (by decide)) ?_)
    refine list_nil ?_
    refine hK3 _ ?_; clear hK3 K3
    refine codeT.imp (σ' := [(0, _), (1, _), (4, _), (171, _)]) ?_ (imp_covers ⟨rfl, rfl, rfl, rfl, trivial⟩)
    refine code_cond_d rfl (fun h3 => ?_) (fun h3 => ?_)
    · skip
      (try simp only [Decidable.not_not] at h3)
      refine code_seq (fun K4 hK4 => ?_)
      refine code_seq (fun K5 hK5 => ?_)
      refine code_region ?_
      refine list_cons rfl (op_q (q_move rfl (by decide)) ?_)
      refine list_cons rfl (op_range_str Tryd.underlying9 rfl (by decide) (by decide) rfl ?_)
      refine list_nil ?_
      refine hK5 _ ?_; clear hK5 K5
      refine code_block ?_
      refine code_loop (X := Int × Nat) (fun x => [(0, .val (.str abcG)), (1, .val (.int .i32 r)), (4, .val (.int .i64 x.1)), (175, .sit 175 (abcG) x.2)]) (fun x => x.2 ≤ 7) (fun x => 7 - x.2) (_, _) (imp_covers ⟨rfl, rfl, rfl, rfl, trivial⟩) ?_ ?_
      · (try dsimp only)
        omega
      · intro x hI
        obtain ⟨t4, t175_i⟩ := x
        replace hI : t175_i ≤ 7 := hI
        show codeT _ _ _ [(0, .val (.str abcG)), (1, .val (.int .i32 r)), (4, .val (.int .i64 t4)), (175, .sit 175 (abcG) t175_i)] _
        refine code_seq (fun K6 hK6 => ?_)
        refine code_region ?_
        refine list_cons rfl (op_nextA (h := 175) hab rfl rfl (by decide) (fun h4 => ?_) (fun h4 => ?_))
        · skip
          refine list_cons rfl (op_q (q_extract rfl rfl (by decide)) ?_)
          refine list_nil ?_
          refine hK6 _ ?_; clear hK6 K6
          refine code_seq (fun K7 hK7 => ?_)
          refine code_cond_f rfl ?_
          refine code_exit ?_
          refine then_x ?_; clear hK7 K7
          refine then_x ?_
          refine blk_hit ?_
          refine hK4 _ ?_; clear hK4 K4
          refine code_seq (fun K8 hK8 => ?_)
          refine code_region ?_
          refine list_cons rfl (op_q (q_assign rfl (by decide)) ?_)
          refine list_nil ?_
          refine hK8 _ ?_; clear hK8 K8
          refine code_ret ?_
          refine blk_r ?_
          refine ends_ret (cs := []) rfl rfl rfl rfl trivial ?_
          rfl
        · skip
          refine list_cons rfl (op_q (q_extract rfl rfl (by decide)) ?_)
          refine list_nil ?_
          refine hK6 _ ?_; clear hK6 K6
          refine code_seq (fun K9 hK9 => ?_)
          refine code_cond_t rfl ?_
          refine code_skip ?_
          refine hK9 _ ?_; clear hK9 K9
          refine code_block ?_
          refine code_seq (fun K10 hK10 => ?_)
          refine code_region ?_
          refine list_cons rfl (op_q (q_extract rfl rfl (by decide)) ?_)
          refine list_cons rfl (op_q (q_extract rfl rfl (by decide)) ?_)
          refine list_cons rfl (op_q (q_assign rfl (by decide)) ?_)
          refine list_cons rfl (op_q (q_assign rfl (by decide)) ?_)
          refine list_nil ?_
          refine hK10 _ ?_; clear hK10 K10
          refine code_seq (fun K11 hK11 => ?_)
          refine code_region ?_
          refine list_cons rfl (op_q (q_move rfl (by decide)) ?_)
          refine list_cons rfl (op_q (q_eq rfl rfl (by decide)) ?_)
          refine list_nil ?_
          refine hK11 _ ?_; clear hK11 K11
          refine code_cond_d rfl (fun h5 => ?_) (fun h5 => ?_)
          · skip
            (try simp only [Decidable.not_not] at h5)
            exfalso
            have := hab t175_i (by omega); omega
          (try simp only [Decidable.not_not] at h5)
          refine code_skip ?_
          refine blk_n ?_
          refine then_n ⟨(_, _), imp_covers ⟨rfl, rfl, rfl, rfl, trivial⟩, ?_, ?_⟩
          · (try dsimp only)
            omega
          · omega
    (try simp only [Decidable.not_not] at h3)
    refine code_seq (fun K12 hK12 => ?_)
    refine code_region ?_
    refine list_cons rfl (op_q (q_move rfl (by decide)) ?_)
    refine list_cons rfl (op_call _ (validRune_c _) rfl rfl (by decide) (by decide) (by decide) rfl ?_)
    rintro _ rfl
    refine list_cons rfl (op_q (by first | exact q_notd rfl (by decide) | exact q_not rfl (by decide)) ?_)
    refine list_cons rfl (op_q (q_assign rfl (by decide)) ?_)
    refine list_nil ?_
    refine hK12 _ ?_; clear hK12 K12
    refine codeT.imp (σ' := [(0, _), (1, _), (4, _), (183, _)]) ?_ (imp_covers ⟨rfl, rfl, rfl, rfl, trivial⟩)
    refine code_cond_d rfl (fun h6 => ?_) (fun h6 => ?_)
    · skip
      (try simp only [Decidable.not_not] at h6)
      refine code_seq (fun K13 hK13 => ?_)
      refine code_region ?_
      refine list_cons rfl (op_q (q_assign rfl (by decide)) ?_)
      refine list_nil ?_
      refine hK13 _ ?_; clear hK13 K13
      refine code_ret ?_
      refine blk_r ?_
      refine ends_ret (cs := []) rfl rfl rfl rfl trivial ?_
      rfl
    (try simp only [Decidable.not_not] at h6)
    refine code_scope ?_
    refine code_seq (fun K14 hK14 => ?_)
    refine code_region ?_
    refine list_cons rfl (op_q (q_move rfl (by decide)) ?_)
    refine list_cons rfl (op_q (q_runestr Tryd.underlying21 Tryd.underlying9 rfl (by decide)) ?_)
    refine list_cons rfl (op_q (q_assign rfl (by decide)) ?_)
    refine list_nil ?_
    refine hK14 _ ?_; clear hK14 K14
    refine code_seq (fun K15 hK15 => ?_)
    refine code_region ?_
    refine list_cons rfl (op_q (q_move rfl (by decide)) ?_)
    refine list_cons rfl (op_q (q_len_str Tryd.underlying9 rfl (by decide)) ?_)
    refine list_cons rfl (op_q (by first | exact q_subI rfl rfl (by decide) (by omega) (by omega) | exact q_ib rfl rfl rfl (by decide)) ?_)
    refine list_cons rfl (op_q (q_assign rfl (by decide)) ?_)
    refine list_nil ?_
    refine hK15 _ ?_; clear hK15 K15
    refine code_seq (fun K16 hK16 => ?_)
    refine code_region ?_
    refine list_cons rfl (op_q (q_move rfl (by decide)) ?_)
    refine list_cons rfl (op_q (q_assign rfl (by decide)) ?_)
    refine list_nil ?_
    refine hK16 _ ?_; clear hK16 K16
    refine codeT.imp (σ' := [(0, _), (1, _), (4, _), (7, _), (8, _), (9, _)]) ?_ (imp_covers ⟨rfl, rfl, rfl, rfl, rfl, rfl, trivial⟩)
    refine code_seq (fun K17 hK17 => ?_)
    refine code_region ?_
    refine list_cons rfl (op_q (q_assign rfl (by decide)) ?_)
    refine list_nil ?_
    refine hK17 _ ?_; clear hK17 K17
    refine code_seq (fun K18 hK18 => ?_)
    refine code_block ?_
    refine code_loop (X := Int × List UInt8 × Int × Int × Int) (fun x => [(0, .val (.str abcG)), (1, .val (.int .i32 r)), (4, .val (.int .i64 x.1)), (7, .val (.str x.2.1)), (8, .val (.int .i64 x.2.2.1)), (9, .val (.int .i64 x.2.2.2.1)), (10, .val (.int .i64 x.2.2.2.2))]) (fun x => x.2.1 = encL r ∧ x.2.2.1 = x.2.1.length - 1 ∧ x.2.2.2.1 = x.2.2.1) (fun x => 0) (_, _, _, _, _) (imp_covers ⟨rfl, rfl, rfl, rfl, rfl, rfl, rfl, trivial⟩) ?_ ?_
    · (try dsimp only)
      exact ⟨rfl, rfl, rfl⟩
    · intro x hI
      obtain ⟨t4, rs, last, i, fails⟩ := x
      replace hI : rs = encL r ∧ last = rs.length - 1 ∧ i = last := hI
      show codeT _ _ _ [(0, .val (.str abcG)), (1, .val (.int .i32 r)), (4, .val (.int .i64 t4)), (7, .val (.str rs)), (8, .val (.int .i64 last)), (9, .val (.int .i64 i)), (10, .val (.int .i64 fails))] _
      obtain ⟨rfl, i2, i3⟩ := hI
      have hlast : 128 ≤ ((encL r).getD last.toNat 0).toNat := by
            have hl : last.toNat < (encL r).length := by omega
            have : (encL r).getD last.toNat 0 = (encL r)[last.toNat] := by simp [hl]
            rw [this]; exact he.2.2 _ (List.getElem_mem hl)
      refine code_seq (fun K19 hK19 => ?_)
      refine code_seq (fun K20 hK20 => ?_)
      refine code_region ?_
      refine list_cons rfl (op_q (q_move rfl (by decide)) ?_)
      refine list_cons rfl (op_q (q_move rfl (by decide)) ?_)
      refine list_cons rfl (op_q (q_len_str Tryd.underlying9 rfl (by decide)) ?_)
      refine list_cons rfl (op_q (q_lt rfl rfl (by decide)) ?_)
      refine list_nil ?_
      refine hK20 _ ?_; clear hK20 K20
      refine code_cond_d rfl (fun h7 => ?_) (fun h7 => ?_)
      · skip
        (try simp only [Decidable.not_not] at h7)
        refine code_skip ?_
        refine hK19 _ ?_; clear hK19 K19
        refine code_block ?_
        refine code_scope ?_
        refine code_seq (fun K21 hK21 => ?_)
        refine code_seq (fun K22 hK22 => ?_)
        refine code_draw (by kernel_rfl) (by kernel_rfl) ?_
        refine draw_q rfl (q_move rfl (by decide)) ?_
        refine draw_q rfl (q_move rfl (by decide)) ?_
        refine draw_q rfl (q_index_str Tryd.underlying9 rfl rfl (by omega) (by omega) (by decide)) ?_
        refine draw_q rfl (q_move rfl (by decide)) ?_
        refine draw_q rfl (q_move rfl (by decide)) ?_
        refine draw_q rfl (q_index_str Tryd.underlying9 rfl rfl (by omega) (by omega) (by decide)) ?_
        refine draw_q rfl (q_ne rfl rfl (by decide)) ?_
        refine draw_nil ?_
        refine hK22 _ ?_; clear hK22 K22
        refine codeT.imp (σ' := [(0, _), (1, _), (4, _), (7, _), (8, _), (9, _), (10, _), (33, _)]) ?_ (imp_covers ⟨rfl, rfl, rfl, rfl, rfl, rfl, rfl, rfl, trivial⟩)
        refine code_cond_d rfl (fun h8 => ?_) (fun h8 => ?_)
        · skip
          (try simp only [Decidable.not_not] at h8)
          refine code_seq (fun K23 hK23 => ?_)
          refine code_draw (by kernel_rfl) (by kernel_rfl) ?_
          refine draw_q rfl (q_move rfl (by decide)) ?_
          refine draw_q rfl (q_move rfl (by decide)) ?_
          refine draw_q rfl (by first | exact q_addI rfl rfl (by decide) (by omega) (by omega) | exact q_ib rfl rfl rfl (by decide)) ?_
          refine draw_q rfl (q_slice_str Tryd.underlying9 rfl ⟨_, rfl⟩ rfl (by omega) (by omega) (by omega) (by decide)) ?_
          refine draw_q rfl (q_move rfl (by decide)) ?_
          refine draw_q rfl (q_move rfl (by decide)) ?_
          refine draw_q rfl (q_index_str Tryd.underlying9 rfl rfl (by omega) (by omega) (by decide)) ?_
          refine draw_call _ (indexByte_c _ _) rfl rfl rfl (by decide) ?_
          refine draw_q rfl (q_assign rfl (by decide)) ?_
          refine draw_nil ?_
          refine hK23 _ ?_; clear hK23 K23
          refine codeT.imp (σ' := [(0, _), (1, _), (4, _), (7, _), (8, _), (9, _), (10, _), (11, _)]) ?_ (imp_covers ⟨rfl, rfl, rfl, rfl, rfl, rfl, rfl, rfl, trivial⟩)
          refine code_seq (fun K24 hK24 => ?_)
          refine code_seq (fun K25 hK25 => ?_)
          refine code_region ?_
          refine list_cons rfl (op_q (q_move rfl (by decide)) ?_)
          refine list_cons rfl (op_q (q_lt rfl rfl (by decide)) ?_)
          refine list_nil ?_
          refine hK25 _ ?_; clear hK25 K25
          refine code_cond_d rfl (fun h9 => ?_) (fun h9 => ?_)
          · skip
            (try simp only [Decidable.not_not] at h9)
            refine code_seq (fun K26 hK26 => ?_)
            refine code_region ?_
            refine list_cons rfl (op_q (q_assign rfl (by decide)) ?_)
            refine list_nil ?_
            refine hK26 _ ?_; clear hK26 K26
            refine code_ret ?_
            refine then_r ?_; clear hK24 K24
            refine then_r ?_; clear hK21 K21
            refine sc_r ?_
            refine blk_r ?_
            refine then_r ?_
            refine blk_r ?_
            refine then_r ?_; clear hK18 K18
            refine sc_r ?_
            refine blk_r ?_
            refine ends_ret (cs := []) rfl rfl rfl rfl trivial ?_
            rfl
          (try simp only [Decidable.not_not] at h9)
          exfalso
          have g3 := ix_none ((encL r).getD last.toNat 0) hlast (((abcG.drop (i + 1).toNat).take (((abcG.length : Nat) : Int).toNat - (i + 1).toNat))) (fun b hb => abcG_lt b (List.mem_of_mem_drop (List.mem_of_mem_take hb)))
          rw [g3] at h9; omega
        (try simp only [Decidable.not_not] at h8)
        exfalso
        have g1 := hab i.toNat (by omega); have g2 := hlast; omega
      (try simp only [Decidable.not_not] at h7)
      refine code_exit ?_
      refine then_x ?_; clear hK19 K19
      refine then_x ?_
      refine blk_hit ?_
      refine hK18 _ ?_; clear hK18 K18
      refine code_seq (fun K27 hK27 => ?_)
      refine code_seq (fun K28 hK28 => ?_)
      refine code_region ?_
      refine list_cons rfl (op_q (q_assign rfl (by decide)) ?_)
      refine list_nil ?_
      refine hK28 _ ?_; clear hK28 K28
      refine code_ret ?_
      refine then_r ?_; clear hK27 K27
      refine sc_r ?_
      refine blk_r ?_
      refine ends_ret (cs := []) rfl rfl rfl rfl trivial ?_
      rfl
  simp only [Bool.false_eq_true, if_true, if_false, Decidable.not_not] at h1
  exfalso
  omega
theorem indexRune_c (r : Int) (h0 : 0 ≤ r) (h1 : r ≤ 1114111) : PCalls Tryd.prog 86 [.str abcG, .int .i32 r] (· = [.val (.int .i64 (ixR r))]) := by
  by_cases h : r < 128
  · exact indexRune_ascii r h0 h
  · rw [show ixR r = -1 by unfold ixR; rw [if_neg (by omega)]]
    exact indexRune_hi r (by omega) h1
theorem ixR_le (r : Int) : -1 ≤ ixR r ∧ ixR r ≤ 6 := by unfold ixR; split <;> omega
def OrdU (s : List UInt8) (i : Nat) : Prop := ∀ j, j < i → 97 ≤ (s.getD j 0).toNat ∧ (s.getD j 0).toNat ≤ 103 ∧ (0 < j → (s.getD (j - 1) 0).toNat < (s.getD j 0).toNat)
theorem p2_mono {a b : Nat} (h : a ≤ b) : p2 a ≤ p2 b := Nat.pow_le_pow_right (by omega) h
theorem orF_top (s : List UInt8) : ∀ i, i < s.length → OrdU s (i + 1) → p2 ((s.getD i 0).toNat - 97) ≤ orF (s.take (i + 1)) ∧ orF (s.take (i + 1)) < p2 ((s.getD i 0).toNat - 97 + 1)
  | 0, h, hu => by
    rw [orF_snoc s h, List.take_zero]
    have e : orF [] ||| 2 ^ ((s.getD 0 0).toNat - 97) = 2 ^ ((s.getD 0 0).toNat - 97) := by show 0 ||| _ = _; simp
    rw [e]
    exact ⟨Nat.le_refl _, Nat.pow_lt_pow_right (by omega) (by omega)⟩
  | i + 1, h, hu => by
    have ih := orF_top s i (by omega) (fun j hj => hu j (by omega))
    have h2 := (hu (i + 1) (by omega)).2.2 (by omega)
    rw [Nat.add_sub_cancel] at h2
    have h3 := (hu i (by omega)).1
    rw [orF_snoc s h]
    refine ⟨Nat.right_le_or, @Nat.or_lt_two_pow _ _ _ ?_ (Nat.pow_lt_pow_right (by omega) (by omega))⟩
    refine Nat.lt_of_lt_of_le ih.2 (Nat.pow_le_pow_right (by omega) (by omega))
theorem sh_zero {a k : Nat} : shN a k = 0 ↔ a < p2 k := by
  unfold shN
  rw [Nat.div_eq_zero_iff]
  have : 0 < p2 k := Nat.pow_pos (by omega)
  omega
theorem pb_at {s : List UInt8} {i : Nat} (h : i < s.length) (hr : 0 ≤ ixR ((runeAt s i).1 : Int)) : (runeAt s i).1 = (s.getD i 0).toNat ∧ (runeAt s i).2 = 1 ∧ 97 ≤ (s.getD i 0).toNat ∧ (s.getD i 0).toNat ≤ 103 ∧ ixR ((runeAt s i).1 : Int) = (((s.getD i 0).toNat - 97 : Nat) : Int) := by
  by_cases ha : (s.getD i 0).toNat < 128
  · have e := runeAt_ascii h ha
    rw [e] at hr ⊢
    simp only [] at hr ⊢
    unfold ixR at hr ⊢
    split at hr
    · rename_i h2; rw [if_pos h2]; exact ⟨by trivial, by trivial, by omega, by omega, by omega⟩
    · omega
  · have := runeAt_hi h (by omega)
    unfold ixR at hr
    rw [if_neg (by omega)] at hr
    omega
theorem pb_ord {s : List UInt8} {i : Nat} (h : i < s.length) (ho : OrdP s) : 0 ≤ ixR ((runeAt s i).1 : Int) := by
  have := ho i h
  rw [runeAt_ascii h (by omega)]
  simp only []
  unfold ixR; rw [if_pos (by omega)]; omega
theorem pb_step {s : List UInt8} {i : Nat} (h : i < s.length) (hu : OrdU s i) (hr : 0 ≤ ixR ((runeAt s i).1 : Int)) (hz : shN (orF (s.take i)) (ixR ((runeAt s i).1 : Int)).toNat = 0) : OrdU s (i + 1) := by
  obtain ⟨_, _, g3, g4, g5⟩ := pb_at h hr
  rw [g5, Int.toNat_natCast, sh_zero] at hz
  intro j hj
  by_cases e : j = i
  · subst e
    refine ⟨g3, g4, fun h0 => ?_⟩
    have h1 := orF_top s (j - 1) (by omega) (fun k hk => hu k (by omega))
    rw [show j - 1 + 1 = j by omega] at h1
    have h2 := (hu (j - 1) (by omega)).1
    have h3 : p2 ((s.getD (j - 1) 0).toNat - 97) < p2 ((s.getD j 0).toNat - 97) := by omega
    have h4 : (s.getD (j - 1) 0).toNat - 97 < (s.getD j 0).toNat - 97 := Nat.lt_of_not_le fun hle => by have := p2_mono hle; omega
    omega
  · exact hu j (by omega)
theorem pb_bad {s : List UInt8} {i : Nat} (h : i < s.length) (hu : OrdU s i) (hr : 0 ≤ ixR ((runeAt s i).1 : Int)) (hz : ¬ shN (orF (s.take i)) (ixR ((runeAt s i).1 : Int)).toNat = 0) : ¬ OrdP s := by
  intro ho
  obtain ⟨_, _, g3, g4, g5⟩ := pb_at h hr
  apply hz
  rw [g5, Int.toNat_natCast, sh_zero]
  by_cases h0 : 0 < i
  · have h1 := orF_top s (i - 1) (by omega) (fun k hk => hu k (by omega))
    rw [show i - 1 + 1 = i by omega] at h1
    have h2 := (ho i h).2.2 h0
    have h3 := (hu (i - 1) (by omega)).1
    exact Nat.lt_of_lt_of_le h1.2 (p2_mono (by omega))
  · rw [show i = 0 by omega, List.take_zero]
    show 0 < _
    exact Nat.pow_pos (by omega)
set_option maxRecDepth 4000 in
theorem impl_IsCell (c : Int) : PCalls Tryd.prog 80 [.int .i64 c] (· = [.val (.bool (decide (0 ≤ c ∧ c ≤ 127)))]) := by
  refine pcalls_of_code (n := 9) az Tryd.func80 (by kernel_rfl) rfl rfl (Nat.le_of_ble_eq_true rfl) (by intro t u h; simp [Tryd.f80] at h) ?_
  refine code_seq (fun K1 hK1 => ?_)
  refine code_region ?_
  refine list_cons rfl (op_q (q_assign rfl (by decide)) ?_)
  refine list_nil ?_
  refine hK1 _ ?_; clear hK1 K1
  refine code_seq (fun K2 hK2 => ?_)
  refine code_region ?_
  refine list_cons rfl (op_q (q_move rfl (by decide)) ?_)
  refine list_cons rfl (op_q (q_ge rfl rfl (by decide)) ?_)
  refine list_cons rfl (op_q (q_move rfl (by decide)) ?_)
  refine list_guard_d rfl rfl rfl rfl (by decide) rfl (by decide) (fun h1 => ?_) (fun h1 => ?_)
  · simp only [Bool.false_eq_true, if_true, if_false, Decidable.not_not] at h1
    refine id (op_q (q_move rfl (by decide)) ?_)
    refine list_guard_y rfl rfl rfl rfl (by decide) rfl ?_
    refine id (op_q (q_lt rfl rfl (by decide)) ?_)
    refine list_cons rfl (op_q (q_pick rfl rfl (by decide)) ?_)
    refine list_cons rfl (op_q (q_assign rfl (by decide)) ?_)
    refine list_nil ?_
    refine hK2 _ ?_; clear hK2 K2
    refine code_ret ?_
    refine ends_ret (cs := []) rfl rfl rfl rfl trivial ?_
    first | (congr 3; exact decide_eq_decide.mpr ⟨fun k => by omega, fun k => by omega⟩) | (rw [decide_eq_false (by omega)])
  simp only [Bool.false_eq_true, if_true, if_false, Decidable.not_not] at h1
  refine list_guard_n rfl rfl rfl rfl (by decide) rfl ?_
  refine list_cons rfl (op_q (q_pick rfl rfl (by decide)) ?_)
  refine list_cons rfl (op_q (q_assign rfl (by decide)) ?_)
  refine list_nil ?_
  refine hK2 _ ?_; clear hK2 K2
  refine code_ret ?_
  refine ends_ret (cs := []) rfl rfl rfl rfl trivial ?_
  first | (congr 3; exact decide_eq_decide.mpr ⟨fun k => by omega, fun k => by omega⟩) | (rw [decide_eq_false (by omega)])
set_option maxRecDepth 4000 in
theorem indexA_c (l : List Int) (f : FuncId) (p : Int → Prop) [DecidablePred p] (hl : l.length ≤ 4611686018427387904) (hf : ∀ j, j < l.length → PCalls Tryd.prog f [.int .i64 (l.getD j 0)] (· = [.val (.bool (decide (p (l.getD j 0))))])) : PCalls Tryd.prog 85 [.sl l.length (l.map (.int .i64)), .clo f []] (fun rs => ∃ i : Int, rs = [.val (.int .i64 i)] ∧ (0 ≤ i ↔ ∃ j, j < l.length ∧ p (l.getD j 0))) := by
  refine pcalls_of_code (n := 19) az Tryd.func85 (by kernel_rfl) rfl rfl (Nat.le_of_ble_eq_true rfl) (by intro t u h; simp [Tryd.f85] at h) ?_
  refine code_seq (fun K1 hK1 => ?_)
  refine code_region ?_
  refine list_cons rfl (op_q (q_assign rfl (by decide)) ?_)
  refine list_nil ?_
  refine hK1 _ ?_; clear hK1 K1
  refine code_seq (fun K2 hK2 => ?_)
  refine code_seq (fun K3 hK3 => ?_)
  refine code_region ?_
  refine list_cons rfl (op_q (q_move rfl (by decide)) ?_)
  refine list_cons rfl (op_q (q_len_sl Tryd.underlying22 rfl rfl (by decide)) ?_)
  refine list_cons rfl (op_q (q_move rfl (by decide)) ?_)
  refine list_nil ?_
  refine hK3 _ ?_; clear hK3 K3
  refine code_block ?_
  refine code_loop (X := Int × Int) (fun x => [(0, .par 0 (.sl l.length (l.map (.int .i64)))), (1, .val (.clo f [])), (4, .val (.int .i64 x.1)), (7, .val (.int .i64 l.length)), (8, .val (.int .i64 x.2))]) (fun x => 0 ≤ x.2 ∧ x.2 ≤ l.length ∧ ∀ j, j < x.2.toNat → ¬ p (l.getD j 0)) (fun x => (l.length - x.2).toNat) (_, _) (imp_covers ⟨rfl, rfl, rfl, rfl, rfl, trivial⟩) ?_ ?_
  · (try dsimp only)
    exact ⟨by omega, by omega, fun j hj => by simp at hj⟩
  · intro x hI
    obtain ⟨t4, t8⟩ := x
    replace hI : 0 ≤ t8 ∧ t8 ≤ l.length ∧ ∀ j, j < t8.toNat → ¬ p (l.getD j 0) := hI
    show codeT _ _ _ [(0, .par 0 (.sl l.length (l.map (.int .i64)))), (1, .val (.clo f [])), (4, .val (.int .i64 t4)), (7, .val (.int .i64 l.length)), (8, .val (.int .i64 t8))] _
    obtain ⟨i1, i2, i3⟩ := hI
    refine code_seq (fun K4 hK4 => ?_)
    refine code_region ?_
    refine list_cons rfl (op_q (q_lt rfl rfl (by decide)) ?_)
    refine list_nil ?_
    refine hK4 _ ?_; clear hK4 K4
    refine code_seq (fun K5 hK5 => ?_)
    refine code_cond_d rfl (fun h1 => ?_) (fun h1 => ?_)
    · skip
      (try simp only [Decidable.not_not] at h1)
      refine code_skip ?_
      refine hK5 _ ?_; clear hK5 K5
      refine code_seq (fun K6 hK6 => ?_)
      refine code_block ?_
      refine code_seq (fun K7 hK7 => ?_)
      refine code_region ?_
      refine list_cons rfl (op_q (q_move rfl (by decide)) ?_)
      refine list_cons rfl (op_q (q_assign rfl (by decide)) ?_)
      refine list_nil ?_
      refine hK7 _ ?_; clear hK7 K7
      refine code_seq (fun K8 hK8 => ?_)
      refine code_region ?_
      refine list_cons rfl (op_q (q_move rfl (by decide)) ?_)
      refine list_cons rfl (op_q (q_move rfl (by decide)) ?_)
      refine list_cons rfl (op_q (q_move rfl (by decide)) ?_)
      refine list_cons rfl (op_q (q_indexAddr_rd sl_22 rfl (.inl ⟨_, rfl, rfl⟩) rfl (by omega) (by omega) (by decide)) ?_)
      refine list_cons rfl (op_q (q_load_rd one_3 rfl (.inl ⟨_, (by first | rfl | exact congrArg (SV.rpar _) (drop_map1 _ 0 _ (by first | omega | (simp; omega)))), rfl⟩) (by decide)) ?_)
      refine list_cons rfl (op_callV _ rfl rfl rfl rfl (pcV (hf t8.toNat (by omega))) (by decide) ?_)
      rintro _ rfl
      refine list_nil ?_
      refine hK8 _ ?_; clear hK8 K8
      refine codeT.imp (σ' := [(0, _), (1, _), (4, _), (5, _), (7, _), (8, _), (16, _)]) ?_ (imp_covers ⟨rfl, rfl, rfl, rfl, rfl, rfl, rfl, trivial⟩)
      refine code_cond_d rfl (fun h2 => ?_) (fun h2 => ?_)
      · skip
        (try simp only [Decidable.not_not] at h2)
        refine code_seq (fun K9 hK9 => ?_)
        refine code_region ?_
        refine list_cons rfl (op_q (q_move rfl (by decide)) ?_)
        refine list_cons rfl (op_q (q_assign rfl (by decide)) ?_)
        refine list_nil ?_
        refine hK9 _ ?_; clear hK9 K9
        refine code_ret ?_
        refine blk_r ?_
        refine then_r ?_; clear hK6 K6
        refine then_r ?_
        refine blk_r ?_
        refine then_r ?_; clear hK2 K2
        refine ends_ret (cs := []) rfl rfl rfl rfl trivial ?_
        first
          | exact ⟨_, rfl, fun _ => ⟨t8.toNat, by omega, h2⟩, fun _ => by omega⟩
          | exact ⟨_, rfl, fun h => by omega, fun ⟨j, hj, hp⟩ => absurd hp (i3 j (by omega))⟩
      (try simp only [Decidable.not_not] at h2)
      refine code_skip ?_
      refine blk_n ?_
      refine hK6 _ ?_; clear hK6 K6
      refine code_region ?_
      refine list_cons rfl (op_q (by first | exact q_addI rfl rfl (by decide) (by omega) (by omega) | exact q_ib rfl rfl rfl (by decide)) ?_)
      refine list_cons rfl (op_q (q_move rfl (by decide)) ?_)
      refine list_nil ?_
      refine then_n ⟨(_, _), imp_covers ⟨rfl, rfl, rfl, rfl, rfl, trivial⟩, ?_, ?_⟩
      · (try dsimp only)
        refine ⟨by omega, by omega, fun j hj => ?_⟩
        by_cases e : j = t8.toNat
        · subst e; exact h2
        · exact i3 j (by omega)
      · (try dsimp only); omega
    (try simp only [Decidable.not_not] at h1)
    refine code_exit ?_
    refine then_x ?_; clear hK5 K5
    refine then_x ?_
    refine blk_hit ?_
    refine hK2 _ ?_; clear hK2 K2
    refine code_seq (fun K10 hK10 => ?_)
    refine code_region ?_
    refine list_cons rfl (op_q (q_assign rfl (by decide)) ?_)
    refine list_nil ?_
    refine hK10 _ ?_; clear hK10 K10
    refine code_ret ?_
    refine ends_ret (cs := []) rfl rfl rfl rfl trivial ?_
    first
      | exact ⟨_, rfl, fun _ => ⟨t8.toNat, by omega, h1⟩, fun _ => by omega⟩
      | exact ⟨_, rfl, fun h => by omega, fun ⟨j, hj, hp⟩ => absurd hp (i3 j (by omega))⟩
set_option maxRecDepth 4000 in
theorem containsA_c (l : List Int) (f : FuncId) (p : Int → Prop) [DecidablePred p] (hl : l.length ≤ 4611686018427387904) (hf : ∀ j, j < l.length → PCalls Tryd.prog f [.int .i64 (l.getD j 0)] (· = [.val (.bool (decide (p (l.getD j 0))))])) : PCalls Tryd.prog 78 [.sl l.length (l.map (.int .i64)), .clo f []] (fun rs => rs = [.val (.bool (decide (∃ j, j < l.length ∧ p (l.getD j 0))))]) := by
  refine pcalls_of_code (n := 9) az Tryd.func78 (by kernel_rfl) rfl rfl (Nat.le_of_ble_eq_true rfl) (by intro t u h; simp [Tryd.f78] at h) ?_
  refine code_seq (fun K1 hK1 => ?_)
  refine code_region ?_
  refine list_cons rfl (op_q (q_assign rfl (by decide)) ?_)
  refine list_nil ?_
  refine hK1 _ ?_; clear hK1 K1
  refine code_seq (fun K2 hK2 => ?_)
  refine code_region ?_
  refine list_cons rfl (op_q (q_move rfl (by decide)) ?_)
  refine list_cons rfl (op_q (q_move rfl (by decide)) ?_)
  refine list_cons rfl (op_call _ (indexA_c l f p hl hf) rfl rfl (by decide) (by decide) (by decide) rfl ?_)
  rintro _ ⟨ix, rfl, hix⟩
  refine list_cons rfl (op_q (q_ge rfl rfl (by decide)) ?_)
  refine list_cons rfl (op_q (q_assign rfl (by decide)) ?_)
  refine list_nil ?_
  refine hK2 _ ?_; clear hK2 K2
  refine codeT.imp (σ' := [(0, _), (1, _), (4, _)]) ?_ (imp_covers ⟨rfl, rfl, rfl, trivial⟩)
  refine code_ret ?_
  refine ends_ret (cs := []) rfl rfl rfl rfl trivial ?_
  congr 3
  exact decide_eq_decide.mpr hix
set_option maxRecDepth 4000 in
theorem areCells1_c (c : Int) : PCalls Tryd.prog 79 [.int .i64 c] (· = [.val (.bool (decide (¬ (0 ≤ c ∧ c ≤ 127))))]) := by
  refine pcalls_of_code (n := 6) az Tryd.func79 (by kernel_rfl) rfl rfl (Nat.le_of_ble_eq_true rfl) (by intro t u h; simp [Tryd.f79] at h) ?_
  refine code_seq (fun K1 hK1 => ?_)
  refine code_region ?_
  refine list_cons rfl (op_q (q_assign rfl (by decide)) ?_)
  refine list_nil ?_
  refine hK1 _ ?_; clear hK1 K1
  refine code_seq (fun K2 hK2 => ?_)
  refine code_region ?_
  refine list_cons rfl (op_q (q_move rfl (by decide)) ?_)
  refine list_cons rfl (op_call _ (impl_IsCell _) rfl rfl (by decide) (by decide) (by decide) rfl ?_)
  rintro _ rfl
  refine list_cons rfl (op_q (by first | exact q_notd rfl (by decide) | exact q_not rfl (by decide)) ?_)
  refine list_cons rfl (op_q (q_assign rfl (by decide)) ?_)
  refine list_nil ?_
  refine hK2 _ ?_; clear hK2 K2
  refine codeT.imp (σ' := [(0, _), (2, _)]) ?_ (imp_covers ⟨rfl, rfl, trivial⟩)
  refine code_ret ?_
  refine ends_ret (cs := []) rfl rfl rfl rfl trivial ?_
  rfl
set_option maxRecDepth 4000 in
theorem impl_areCells (l : List Int) (hl : l.length ≤ 4611686018427387904) : PCalls Tryd.prog 62 [.sl l.length (l.map (.int .i64))] (· = [.val (.bool (decide (∀ j, j < l.length → 0 ≤ l.getD j 0 ∧ l.getD j 0 ≤ 127)))]) := by
  refine pcalls_of_code (n := 6) az Tryd.func62 (by kernel_rfl) rfl rfl (Nat.le_of_ble_eq_true rfl) (by intro t u h; simp [Tryd.f62] at h) ?_
  refine code_seq (fun K1 hK1 => ?_)
  refine code_region ?_
  refine list_cons rfl (op_q (q_assign rfl (by decide)) ?_)
  refine list_nil ?_
  refine hK1 _ ?_; clear hK1 K1
  refine code_seq (fun K2 hK2 => ?_)
  refine code_region ?_
  refine list_cons rfl (op_q (q_move rfl (by decide)) ?_)
  refine list_cons rfl (op_call _ (containsA_c l 79 (fun c => ¬ (0 ≤ c ∧ c ≤ 127)) hl (fun j hj => areCells1_c _)) rfl rfl (by decide) (by decide) (by decide) rfl ?_)
  rintro _ rfl
  refine list_cons rfl (op_q (by first | exact q_notd rfl (by decide) | exact q_not rfl (by decide)) ?_)
  refine list_cons rfl (op_q (q_assign rfl (by decide)) ?_)
  refine list_nil ?_
  refine hK2 _ ?_; clear hK2 K2
  refine codeT.imp (σ' := [(0, _), (2, _)]) ?_ (imp_covers ⟨rfl, rfl, trivial⟩)
  refine code_ret ?_
  refine ends_ret (cs := []) rfl rfl rfl rfl trivial ?_
  congr 3
  exact decide_eq_decide.mpr ⟨fun k j hj => Decidable.not_not.1 (fun e => k ⟨j, hj, e⟩), fun k ⟨j, hj, e⟩ => e (k j hj)⟩
set_option maxRecDepth 4000 in
theorem impl_IsRow (l : List Int) (hl : l.length ≤ 4611686018427387904) : PCalls Tryd.prog 40 [.sl l.length (l.map (.int .i64))] (· = [.val (.bool (decide (RowP l)))]) := by
  refine pcalls_of_code (n := 10) az Tryd.func40 (by kernel_rfl) rfl rfl (Nat.le_of_ble_eq_true rfl) (by intro t u h; simp [Tryd.f40] at h) ?_
  refine code_seq (fun K1 hK1 => ?_)
  refine code_region ?_
  refine list_cons rfl (op_q (q_assign rfl (by decide)) ?_)
  refine list_nil ?_
  refine hK1 _ ?_; clear hK1 K1
  refine code_seq (fun K2 hK2 => ?_)
  refine code_region ?_
  refine list_cons rfl (op_q (q_move rfl (by decide)) ?_)
  refine list_cons rfl (op_q (q_len_sl Tryd.underlying22 rfl rfl (by decide)) ?_)
  refine list_cons rfl (op_q (q_le rfl rfl (by decide)) ?_)
  refine list_cons rfl (op_q (q_move rfl (by decide)) ?_)
  refine list_guard_d rfl rfl rfl rfl (by decide) rfl (by decide) (fun h1 => ?_) (fun h1 => ?_)
  · simp only [Bool.false_eq_true, if_true, if_false, Decidable.not_not] at h1
    refine id (op_q (q_move rfl (by decide)) ?_)
    refine list_guard_y rfl rfl rfl rfl (by decide) rfl ?_
    refine id (op_call _ (impl_areCells _ (by first | omega | (simp; omega))) rfl rfl (by decide) (by decide) (by decide) rfl ?_)
    rintro _ rfl
    refine list_cons rfl (op_q (q_pick rfl rfl (by decide)) ?_)
    refine list_cons rfl (op_q (q_assign rfl (by decide)) ?_)
    refine list_nil ?_
    refine hK2 _ ?_; clear hK2 K2
    refine codeT.imp (σ' := [(0, _), (2, _)]) ?_ (imp_covers ⟨rfl, rfl, trivial⟩)
    refine code_ret ?_
    refine ends_ret (cs := []) rfl rfl rfl rfl trivial ?_
    first
      | (rw [decide_eq_false (fun e : RowP l => by have := e.1; omega)]; done)
      | (congr 3; exact decide_eq_decide.mpr ⟨fun e => RowP.of (by omega) e, fun e j hj => e.at hj⟩)
  simp only [Bool.false_eq_true, if_true, if_false, Decidable.not_not] at h1
  refine list_guard_n rfl rfl rfl rfl (by decide) rfl ?_
  refine list_cons rfl (op_q (q_pick rfl rfl (by decide)) ?_)
  refine list_cons rfl (op_q (q_assign rfl (by decide)) ?_)
  refine list_nil ?_
  refine hK2 _ ?_; clear hK2 K2
  refine code_ret ?_
  refine ends_ret (cs := []) rfl rfl rfl rfl trivial ?_
  first
    | (rw [decide_eq_false (fun e : RowP l => by have := e.1; omega)]; done)
    | (congr 3; exact decide_eq_decide.mpr ⟨fun e => RowP.of (by omega) e, fun e j hj => e.at hj⟩)
def bitN (n k : Nat) : Bool := Nat.beq (shN n k % 2) 1
theorem bit_iff (c b : Nat) : ((shN c b &&& 1 : Nat) : Int) = 1 ↔ bitN c b = true := by
  rw [Nat.and_one_is_mod]
  unfold bitN
  constructor
  · intro h; have : shN c b % 2 = 1 := by omega
    rw [this]; rfl
  · intro h; have := Nat.eq_of_beq_eq_true h; omega
set_option maxRecDepth 4000 in
theorem impl_hasBar (c b : Int) (hc : 0 ≤ c ∧ c ≤ 127) (hb : 0 ≤ b ∧ b ≤ 62) : PCalls Tryd.prog 70 [.int .i64 c, .int .i64 b] (· = [.val (.bool (decide (bitN c.toNat b.toNat = true)))]) := by
  refine pcalls_of_code (n := 10) az Tryd.func70 (by kernel_rfl) rfl rfl (Nat.le_of_ble_eq_true rfl) (by intro t u h; simp [Tryd.f70] at h) ?_
  have hs := shN_le c.toNat b.toNat
  refine code_seq (fun K1 hK1 => ?_)
  refine code_region ?_
  refine list_cons rfl (op_q (q_assign rfl (by decide)) ?_)
  refine list_nil ?_
  refine hK1 _ ?_; clear hK1 K1
  refine code_seq (fun K2 hK2 => ?_)
  refine code_region ?_
  refine list_cons rfl (op_q (q_move rfl (by decide)) ?_)
  refine list_cons rfl (op_q (q_move rfl (by decide)) ?_)
  refine list_cons rfl (op_q (by first | exact q_shrN rfl rfl (by decide) (by omega) (by omega) (by omega) | exact q_shrI rfl rfl (by decide) (by omega) (by omega) (by omega) | exact q_shr rfl rfl (by omega) (by decide)) ?_)
  refine list_cons rfl (op_q (by first | exact q_andI rfl rfl (by decide) (by omega) (by omega) (by omega) (by omega) | exact q_ib rfl rfl rfl (by decide)) ?_)
  refine list_cons rfl (op_q (q_eq rfl rfl (by decide)) ?_)
  refine list_cons rfl (op_q (q_assign rfl (by decide)) ?_)
  refine list_nil ?_
  refine hK2 _ ?_; clear hK2 K2
  refine code_ret ?_
  refine ends_ret (cs := []) rfl rfl rfl rfl trivial ?_
  congr 3
  exact decide_eq_decide.mpr (bit_iff _ _)
set_option maxRecDepth 4000 in
theorem impl_ParseBars (s : List UInt8) (hs : s.length ≤ 4611686018427387904) : PCalls Tryd.prog 83 [.str s] (· = [.val (.int .i64 (if OrdP s then ((orF s : Nat) : Int) else 0)), .val (.bool (decide (OrdP s)))]) := by
  refine pcalls_of_code (n := 28) az Tryd.func83 (by kernel_rfl) rfl rfl (Nat.le_of_ble_eq_true rfl) (by intro t u h; simp [Tryd.f83] at h) ?_
  refine code_seq (fun K1 hK1 => ?_)
  refine code_region ?_
  refine list_cons rfl (op_q (q_assign rfl (by decide)) ?_)
  refine list_cons rfl (op_q (q_assign rfl (by decide)) ?_)
  refine list_nil ?_
  refine hK1 _ ?_; clear hK1 K1
  refine code_seq (fun K2 hK2 => ?_)
  refine code_region ?_
  refine list_cons rfl (op_q (q_assign rfl (by decide)) ?_)
  refine list_nil ?_
  refine hK2 _ ?_; clear hK2 K2
  refine code_seq (fun K3 hK3 => ?_)
  refine code_seq (fun K4 hK4 => ?_)
  refine code_region ?_
  refine list_cons rfl (op_q (q_move rfl (by decide)) ?_)
  refine list_cons rfl (op_range_str Tryd.underlying9 rfl (by decide) (by decide) rfl ?_)
  refine list_nil ?_
  refine hK4 _ ?_; clear hK4 K4
  refine code_block ?_
  refine code_loop (X := Int × Bool × Int × Nat) (fun x => [(0, .val (.str s)), (2, .val (.int .i64 x.1)), (3, .val (.bool x.2.1)), (4, .val (.int .i64 x.2.2.1)), (9, .sit 9 (s) x.2.2.2)]) (fun x => x.2.2.2 ≤ s.length ∧ x.2.2.1 = ((orF (s.take x.2.2.2) : Nat) : Int) ∧ orF (s.take x.2.2.2) < 128 ∧ OrdU s x.2.2.2) (fun x => s.length - x.2.2.2) (_, _, _, _) (imp_covers ⟨rfl, rfl, rfl, rfl, rfl, trivial⟩) ?_ ?_
  · (try dsimp only)
    exact ⟨by omega, by rw [List.take_zero]; rfl, by rw [List.take_zero]; decide, fun j hj => by omega⟩
  · intro x hI
    obtain ⟨t2, t3, cell, t9_i⟩ := x
    replace hI : t9_i ≤ s.length ∧ cell = ((orF (s.take t9_i) : Nat) : Int) ∧ orF (s.take t9_i) < 128 ∧ OrdU s t9_i := hI
    show codeT _ _ _ [(0, .val (.str s)), (2, .val (.int .i64 t2)), (3, .val (.bool t3)), (4, .val (.int .i64 cell)), (9, .sit 9 (s) t9_i)] _
    obtain ⟨i1, i2, i3, i4⟩ := hI
    have hix := ixR_le ((runeAt s t9_i).1 : Int)
    have hp2 := p2_le (k := (ixR ((runeAt s t9_i).1 : Int)).toNat) (by omega)
    refine code_seq (fun K5 hK5 => ?_)
    refine code_region ?_
    refine list_cons rfl (op_next (h := 9) rfl rfl (by decide) (fun h1 => ?_) (fun h1 => ?_))
    · skip
      refine list_cons rfl (op_q (q_extract rfl rfl (by decide)) ?_)
      refine list_nil ?_
      refine hK5 _ ?_; clear hK5 K5
      refine code_seq (fun K6 hK6 => ?_)
      refine code_cond_f rfl ?_
      refine code_exit ?_
      refine then_x ?_; clear hK6 K6
      refine then_x ?_
      refine blk_hit ?_
      refine hK3 _ ?_; clear hK3 K3
      refine code_seq (fun K7 hK7 => ?_)
      refine code_region ?_
      refine list_cons rfl (op_q (q_move rfl (by decide)) ?_)
      refine list_cons rfl (op_q (q_assign rfl (by decide)) ?_)
      refine list_cons rfl (op_q (q_assign rfl (by decide)) ?_)
      refine list_nil ?_
      refine hK7 _ ?_; clear hK7 K7
      refine code_ret ?_
      refine ends_ret (cs := []) rfl rfl rfl rfl trivial ?_
      have e0 : t9_i = s.length := by omega
      rw [e0] at i4
      have e : OrdP s := i4
      rw [if_pos e, decide_eq_true e, i2, e0, List.take_length]
    · skip
      refine list_cons rfl (op_q (q_extract rfl rfl (by decide)) ?_)
      refine list_nil ?_
      refine hK5 _ ?_; clear hK5 K5
      refine code_seq (fun K8 hK8 => ?_)
      refine code_cond_t rfl ?_
      refine code_skip ?_
      refine hK8 _ ?_; clear hK8 K8
      refine code_block ?_
      refine code_seq (fun K9 hK9 => ?_)
      refine code_region ?_
      refine list_cons rfl (op_q (q_extract rfl rfl (by decide)) ?_)
      refine list_cons rfl (op_q (q_assign rfl (by decide)) ?_)
      refine list_nil ?_
      refine hK9 _ ?_; clear hK9 K9
      refine code_seq (fun K10 hK10 => ?_)
      refine code_region ?_
      refine list_cons rfl (op_q (q_move rfl (by decide)) ?_)
      refine list_cons rfl (op_call _ (indexRune_c _ (by omega) (by have := runeAt_le (s := s) (i := t9_i) (by omega); omega)) rfl rfl (by decide) (by decide) (by decide) rfl ?_)
      rintro _ rfl
      refine list_cons rfl (op_q (q_assign rfl (by decide)) ?_)
      refine list_nil ?_
      refine hK10 _ ?_; clear hK10 K10
      refine codeT.imp (σ' := [(0, _), (2, _), (3, _), (4, _), (6, _), (7, _), (9, _), (10, _)]) ?_ (imp_covers ⟨rfl, rfl, rfl, rfl, rfl, rfl, rfl, rfl, trivial⟩)
      refine code_seq (fun K11 hK11 => ?_)
      refine code_seq (fun K12 hK12 => ?_)
      refine code_region ?_
      refine list_cons rfl (op_q (q_move rfl (by decide)) ?_)
      refine list_cons rfl (op_q (q_lt rfl rfl (by decide)) ?_)
      refine list_cons rfl (op_q (q_move rfl (by decide)) ?_)
      refine list_guard_d rfl rfl rfl rfl (by decide) rfl (by decide) (fun h2 => ?_) (fun h2 => ?_)
      · simp only [Bool.false_eq_true, if_true, if_false, Decidable.not_not] at h2
        refine id (op_q (q_move rfl (by decide)) ?_)
        refine list_guard_y rfl rfl rfl rfl (by decide) rfl ?_
        refine id (op_q (q_move rfl (by decide)) ?_)
        refine list_guard_y rfl rfl rfl rfl (by decide) rfl ?_
        refine id (op_q (by first | exact q_shrN rfl rfl (by decide) (by omega) (by omega) (by omega) | exact q_shrI rfl rfl (by decide) (by omega) (by omega) (by omega) | exact q_shr rfl rfl (by omega) (by decide)) ?_)
        refine list_guard_y rfl rfl rfl rfl (by decide) rfl ?_
        refine id (op_q (q_ne rfl rfl (by decide)) ?_)
        refine list_cons rfl (op_q (q_pick rfl rfl (by decide)) ?_)
        refine list_nil ?_
        refine hK12 _ ?_; clear hK12 K12
        refine codeT.imp (σ' := [(0, _), (2, _), (3, _), (4, _), (6, _), (7, _), (9, _), (10, _), (22, _)]) ?_ (imp_covers ⟨rfl, rfl, rfl, rfl, rfl, rfl, rfl, rfl, rfl, trivial⟩)
        refine code_cond_d rfl (fun h3 => ?_) (fun h3 => ?_)
        · skip
          (try simp only [Decidable.not_not] at h3)
          refine code_seq (fun K13 hK13 => ?_)
          refine code_region ?_
          refine list_cons rfl (op_q (q_assign rfl (by decide)) ?_)
          refine list_cons rfl (op_q (q_assign rfl (by decide)) ?_)
          refine list_nil ?_
          refine hK13 _ ?_; clear hK13 K13
          refine code_ret ?_
          refine then_r ?_; clear hK11 K11
          refine blk_r ?_
          refine then_r ?_
          refine blk_r ?_
          refine then_r ?_; clear hK3 K3
          refine ends_ret (cs := []) rfl rfl rfl rfl trivial ?_
          have e : ¬ OrdP s := pb_bad (i := t9_i) (by omega) i4 (by omega) (fun k => h3 (by rw [i2, Int.toNat_natCast, k]; rfl))
          rw [if_neg e, decide_eq_false e]
        (try simp only [Decidable.not_not] at h3)
        refine code_skip ?_
        refine hK11 _ ?_; clear hK11 K11
        refine code_region ?_
        refine list_cons rfl (op_q (q_move rfl (by decide)) ?_)
        refine list_cons rfl (op_q (q_move rfl (by decide)) ?_)
        refine list_cons rfl (op_q (by first | exact q_shl1 rfl rfl (by decide) (by omega) (by omega) | exact q_shlI rfl rfl (by decide) (by omega) (by omega) (by omega) | exact q_shl rfl rfl (by omega) (by decide)) ?_)
        refine list_cons rfl (op_q (by first | exact q_orI rfl rfl (by decide) (by omega) (by omega) (by omega) (by omega) | exact q_ib rfl rfl rfl (by decide)) ?_)
        refine list_cons rfl (op_q (q_assign rfl (by decide)) ?_)
        refine list_nil ?_
        refine blk_n ?_
        refine then_n ⟨(_, _, _, _), imp_covers ⟨rfl, rfl, rfl, rfl, rfl, trivial⟩, ?_, ?_⟩
        · (try dsimp only)
          have hr : 0 ≤ ixR ((runeAt s t9_i).1 : Int) := by omega
          have hz : shN (orF (s.take t9_i)) (ixR ((runeAt s t9_i).1 : Int)).toNat = 0 := by have := h3; rw [i2, Int.toNat_natCast] at this; omega
          obtain ⟨g1, g2, g3, g4, g5⟩ := pb_at (by omega) hr
          have e9 : orF (s.take (t9_i + 1)) = orF (s.take t9_i) ||| p2 (ixR ((runeAt s t9_i).1 : Int)).toNat := by
            rw [orF_snoc s (by omega), g5, Int.toNat_natCast]; rfl
          rw [g2]
          refine ⟨by omega, ?_, ?_, pb_step (by omega) i4 hr hz⟩
          · rw [e9, i2, Int.toNat_natCast, Int.toNat_natCast]
          · rw [e9]; exact or7 i3 (by omega)
        · (have hr : 0 ≤ ixR ((runeAt s t9_i).1 : Int) := by omega); (have := (pb_at (by omega) hr).2.1); (try dsimp only); omega
      simp only [Bool.false_eq_true, if_true, if_false, Decidable.not_not] at h2
      refine list_guard_n rfl rfl rfl rfl (by decide) rfl ?_
      refine list_guard_n rfl rfl rfl rfl (by decide) rfl ?_
      refine list_guard_n rfl rfl rfl rfl (by decide) rfl ?_
      refine list_cons rfl (op_q (q_pick rfl rfl (by decide)) ?_)
      refine list_nil ?_
      refine hK12 _ ?_; clear hK12 K12
      refine code_cond_t rfl ?_
      refine code_seq (fun K14 hK14 => ?_)
      refine code_region ?_
      refine list_cons rfl (op_q (q_assign rfl (by decide)) ?_)
      refine list_cons rfl (op_q (q_assign rfl (by decide)) ?_)
      refine list_nil ?_
      refine hK14 _ ?_; clear hK14 K14
      refine code_ret ?_
      refine then_r ?_; clear hK11 K11
      refine blk_r ?_
      refine then_r ?_
      refine blk_r ?_
      refine then_r ?_; clear hK3 K3
      refine ends_ret (cs := []) rfl rfl rfl rfl trivial ?_
      have e : ¬ OrdP s := fun k => by have := pb_ord (i := t9_i) (by omega) k; omega
      rw [if_neg e, decide_eq_false e]
theorem bars_dig : ∀ j, j < 10 → OrdP (([[97, 98, 99, 100, 101, 102], [98, 99], [97, 98, 100, 101, 103], [97, 98, 99, 100, 103], [98, 99, 102, 103], [97, 99, 100, 102, 103], [97, 99, 100, 101, 102, 103], [97, 98, 99], [97, 98, 99, 100, 101, 102, 103], [97, 98, 99, 100, 102, 103]] : List (List UInt8)).getD j []) ∧ ((orF (([[97, 98, 99, 100, 101, 102], [98, 99], [97, 98, 100, 101, 103], [97, 98, 99, 100, 103], [98, 99, 102, 103], [97, 99, 100, 102, 103], [97, 99, 100, 101, 102, 103], [97, 98, 99], [97, 98, 99, 100, 101, 102, 103], [97, 98, 99, 100, 102, 103]] : List (List UInt8)).getD j []) : Nat) : Int) = digT.getD j 0 := by
  intro j hj
  have : j = 0 ∨ j = 1 ∨ j = 2 ∨ j = 3 ∨ j = 4 ∨ j = 5 ∨ j = 6 ∨ j = 7 ∨ j = 8 ∨ j = 9 := by omega
  rcases this with rfl | rfl | rfl | rfl | rfl | rfl | rfl | rfl | rfl | rfl <;> exact ⟨by decide, by decide⟩
theorem tbl_len (j : Nat) : (([[97, 98, 99, 100, 101, 102], [98, 99], [97, 98, 100, 101, 103], [97, 98, 99, 100, 103], [98, 99, 102, 103], [97, 99, 100, 102, 103], [97, 99, 100, 101, 102, 103], [97, 98, 99], [97, 98, 99, 100, 101, 102, 103], [97, 98, 99, 100, 102, 103]] : List (List UInt8)).getD j []).length ≤ 7 := by
  by_cases hj : j < 10
  · have : j = 0 ∨ j = 1 ∨ j = 2 ∨ j = 3 ∨ j = 4 ∨ j = 5 ∨ j = 6 ∨ j = 7 ∨ j = 8 ∨ j = 9 := by omega
    rcases this with rfl | rfl | rfl | rfl | rfl | rfl | rfl | rfl | rfl | rfl <;> decide
  · unfold List.getD; rw [List.getElem?_eq_none (by simp; omega)]; simp
set_option maxRecDepth 4000 in
theorem impl_CellOf (d : Int) : PCalls Tryd.prog 71 [.int .i64 d] (· = [.val (.int .i64 (if 0 ≤ d ∧ d ≤ 9 then digT.getD d.toNat 0 else 0)), .val (.bool (decide (0 ≤ d ∧ d ≤ 9)))]) := by
  refine pcalls_of_code (n := 16) az Tryd.func71 (by kernel_rfl) rfl rfl (Nat.le_of_ble_eq_true rfl) (by intro t u h; simp [Tryd.f71] at h) ?_
  refine code_seq (fun K1 hK1 => ?_)
  refine code_region ?_
  refine list_cons rfl (op_q (q_assign rfl (by decide)) ?_)
  refine list_cons rfl (op_q (q_assign rfl (by decide)) ?_)
  refine list_nil ?_
  refine hK1 _ ?_; clear hK1 K1
  refine code_seq (fun K2 hK2 => ?_)
  refine code_seq (fun K3 hK3 => ?_)
  refine code_region ?_
  refine list_cons rfl (op_q (q_move rfl (by decide)) ?_)
  refine list_cons rfl (op_q (q_lt rfl rfl (by decide)) ?_)
  refine list_cons rfl (op_q (q_move rfl (by decide)) ?_)
  refine list_guard_d rfl rfl rfl rfl (by decide) rfl (by decide) (fun h1 => ?_) (fun h1 => ?_)
  · simp only [Bool.false_eq_true, if_true, if_false, Decidable.not_not] at h1
    refine id (op_q (q_move rfl (by decide)) ?_)
    refine list_guard_y rfl rfl rfl rfl (by decide) rfl ?_
    refine id (op_q (q_ge rfl rfl (by decide)) ?_)
    refine list_cons rfl (op_q (q_pick rfl rfl (by decide)) ?_)
    refine list_nil ?_
    refine hK3 _ ?_; clear hK3 K3
    refine code_cond_d rfl (fun h2 => ?_) (fun h2 => ?_)
    · skip
      (try simp only [Decidable.not_not] at h2)
      refine code_seq (fun K4 hK4 => ?_)
      refine code_region ?_
      refine list_cons rfl (op_q (q_assign rfl (by decide)) ?_)
      refine list_cons rfl (op_q (q_assign rfl (by decide)) ?_)
      refine list_nil ?_
      refine hK4 _ ?_; clear hK4 K4
      refine code_ret ?_
      refine then_r ?_; clear hK2 K2
      refine ends_ret (cs := []) rfl rfl rfl rfl trivial ?_
      first
        | (have e : ¬ (0 ≤ d ∧ d ≤ 9) := by omega
           simp only [if_neg e, decide_eq_false e])
        | (have e : 0 ≤ d ∧ d ≤ 9 := by omega
           have e2 := bars_dig d.toNat (by omega)
           simp only [if_pos e, decide_eq_true e, if_pos e2.1, decide_eq_true e2.1, e2.2])
    (try simp only [Decidable.not_not] at h2)
    refine code_skip ?_
    refine hK2 _ ?_; clear hK2 K2
    refine code_seq (fun K5 hK5 => ?_)
    refine code_region ?_
    refine list_cons rfl (op_q (q_move rfl (by decide)) ?_)
    refine list_cons rfl (op_q (q_indexAddr_g arr_95 rfl rfl (by omega) (by omega) (by decide)) ?_)
    refine list_cons rfl (op_q (q_load_rd one_9 rfl (.inr ⟨_, (by first | rfl | exact congrArg (SV.rbor _) (drop_map1 _ [] _ (by first | omega | (simp; omega)))), rfl⟩) (by decide)) ?_)
    refine list_cons rfl (op_call _ (impl_ParseBars _ (by have := tbl_len d.toNat; omega)) rfl rfl (by decide) (by decide) (by decide) rfl ?_)
    rintro _ rfl
    refine list_cons rfl (op_q (q_extract rfl rfl (by decide)) ?_)
    refine list_cons rfl (op_q (q_extract rfl rfl (by decide)) ?_)
    refine list_cons rfl (op_q (q_assign rfl (by decide)) ?_)
    refine list_cons rfl (op_q (q_assign rfl (by decide)) ?_)
    refine list_nil ?_
    refine hK5 _ ?_; clear hK5 K5
    refine codeT.imp (σ' := [(0, _), (2, _), (3, _)]) ?_ (imp_covers ⟨rfl, rfl, rfl, trivial⟩)
    refine code_ret ?_
    refine ends_ret (cs := []) rfl rfl rfl rfl trivial ?_
    first
      | (have e : ¬ (0 ≤ d ∧ d ≤ 9) := by omega
         simp only [if_neg e, decide_eq_false e])
      | (have e : 0 ≤ d ∧ d ≤ 9 := by omega
         have e2 := bars_dig d.toNat (by omega)
         simp only [if_pos e, decide_eq_true e, if_pos e2.1, decide_eq_true e2.1, e2.2])
  simp only [Bool.false_eq_true, if_true, if_false, Decidable.not_not] at h1
  refine list_guard_n rfl rfl rfl rfl (by decide) rfl ?_
  refine list_cons rfl (op_q (q_pick rfl rfl (by decide)) ?_)
  refine list_nil ?_
  refine hK3 _ ?_; clear hK3 K3
  refine code_cond_t rfl ?_
  refine code_seq (fun K6 hK6 => ?_)
  refine code_region ?_
  refine list_cons rfl (op_q (q_assign rfl (by decide)) ?_)
  refine list_cons rfl (op_q (q_assign rfl (by decide)) ?_)
  refine list_nil ?_
  refine hK6 _ ?_; clear hK6 K6
  refine code_ret ?_
  refine then_r ?_; clear hK2 K2
  refine ends_ret (cs := []) rfl rfl rfl rfl trivial ?_
  first
    | (have e : ¬ (0 ≤ d ∧ d ≤ 9) := by omega
       simp only [if_neg e, decide_eq_false e])
    | (have e : 0 ≤ d ∧ d ≤ 9 := by omega
       have e2 := bars_dig d.toNat (by omega)
       simp only [if_pos e, decide_eq_true e, if_pos e2.1, decide_eq_true e2.1, e2.2])
def usd (l : List Int) (k : Nat) : List PV := (List.range 10).map (fun (d : Nat) => PV.bool (decide (hasK l (d : Int) k = true)))
theorem usd_len (l : List Int) (k : Nat) : (usd l k).length = 10 := by simp [usd]
theorem usd_get (l : List Int) (k : Nat) {d : Int} (h0 : 0 ≤ d) (h1 : d < 10) : (usd l k)[d.toNat]? = some (.bool (decide (hasK l d k = true))) := by
  unfold usd
  rw [List.getElem?_map, List.getElem?_range (by omega), Option.map_some, Int.toNat_of_nonneg h0]
theorem usd_get1 (l : List Int) (k : Nat) {d : Int} (h0 : 0 ≤ d) (h1 : d < 10) : (usd l k)[d.toNat * 1]? = some (.bool (decide (hasK l d k = true))) := by
  rw [Nat.mul_one]; exact usd_get l k h0 h1
theorem usd_put (l : List Int) (k : Nat) {d : Int} {o : Nat} (h0 : 0 ≤ d) (h1 : d < 10) (hd : l.getD k 0 = d) (ho : o = d.toNat) : putAt (usd l k) o [PV.bool true] = usd l (k + 1) := by
  subst ho
  have hl := usd_len l k
  apply List.ext_getElem?
  intro j
  rw [putAt, List.append_assoc, List.getElem?_append, List.length_take, hl, show min d.toNat 10 = d.toNat by omega]
  by_cases hj : j < 10
  · have e2 := usd_get l (k + 1) (d := j) (by omega) (by omega)
    have e1 := usd_get l k (d := j) (by omega) (by omega)
    rw [Int.toNat_natCast] at e1 e2
    rw [e2, hasK, hd]
    by_cases c : j < d.toNat
    · rw [if_pos c, List.getElem?_take, if_pos c, e1, decide_eq_false (show ¬ d = (j : Int) by omega), Bool.or_false]
    · rw [if_neg c]
      by_cases c2 : j = d.toNat
      · rw [c2, Nat.sub_self, decide_eq_true (show d = ((d.toNat : Nat) : Int) by omega), Bool.or_true]; rfl
      · rw [List.getElem?_append, if_neg (by simp only [List.length_cons, List.length_nil]; omega), List.getElem?_drop, List.length_cons, List.length_nil, show d.toNat + (0 + 1) + (j - d.toNat - (0 + 1)) = j by omega, e1, decide_eq_false (show ¬ d = (j : Int) by omega), Bool.or_false]
  · have e2 : (usd l (k + 1))[j]? = none := List.getElem?_eq_none (by rw [usd_len]; omega)
    rw [e2, if_neg (by omega)]
    exact List.getElem?_eq_none (by simp only [List.length_append, List.length_cons, List.length_nil, List.length_drop, hl]; omega)
theorem usd_0 (l : List Int) : List.replicate 10 (PV.bool false) = usd l 0 := rfl
set_option maxRecDepth 4000 in
theorem impl_isOrder (l : List Int) (hl : l.length ≤ 4611686018427387904) : PCalls Tryd.prog 49 [.sl l.length (l.map (.int .i64))] (· = [.val (.bool (decide (ordK l l.length = true)))]) := by
  refine pcalls_of_code (n := 26) az Tryd.func49 (by kernel_rfl) rfl rfl (Nat.le_of_ble_eq_true rfl) (by intro t u h; simp [Tryd.f49] at h) ?_
  refine code_seq (fun K1 hK1 => ?_)
  refine code_region ?_
  refine list_cons rfl (op_q (q_assign rfl (by decide)) ?_)
  refine list_nil ?_
  refine hK1 _ ?_; clear hK1 K1
  refine code_seq (fun K2 hK2 => ?_)
  refine code_region ?_
  refine list_cons rfl (op_alloc zt_84 (by decide) (by decide) rfl ?_)
  refine list_nil ?_
  refine hK2 _ ?_; clear hK2 K2
  refine code_seq (fun K3 hK3 => ?_)
  refine code_seq (fun K4 hK4 => ?_)
  refine code_region ?_
  refine list_cons rfl (op_q (q_move rfl (by decide)) ?_)
  refine list_cons rfl (op_q (q_len_sl Tryd.underlying22 rfl rfl (by decide)) ?_)
  refine list_cons rfl (op_q (q_move rfl (by decide)) ?_)
  refine list_nil ?_
  refine hK4 _ ?_; clear hK4 K4
  refine code_block ?_
  refine code_loop (X := Bool × List PV × Int) (fun x => [(0, .par 0 (.sl l.length (l.map (.int .i64)))), (2, .val (.bool x.1)), (3, .box 3 84 x.2.1), (6, .par 0 (.sl l.length (l.map (.int .i64)))), (7, .val (.int .i64 l.length)), (8, .val (.int .i64 x.2.2))]) (fun x => 0 ≤ x.2.2 ∧ x.2.2 ≤ l.length ∧ ordK l x.2.2.toNat = true ∧ x.2.1 = usd l x.2.2.toNat) (fun x => (l.length - x.2.2).toNat) (_, _, _) (imp_covers ⟨rfl, rfl, rfl, rfl, rfl, rfl, trivial⟩) ?_ ?_
  · (try dsimp only)
    exact ⟨by omega, by omega, rfl, usd_0 l⟩
  · intro x hI
    obtain ⟨t2, used_c, t8⟩ := x
    replace hI : 0 ≤ t8 ∧ t8 ≤ l.length ∧ ordK l t8.toNat = true ∧ used_c = usd l t8.toNat := hI
    show codeT _ _ _ [(0, .par 0 (.sl l.length (l.map (.int .i64)))), (2, .val (.bool t2)), (3, .box 3 84 used_c), (6, .par 0 (.sl l.length (l.map (.int .i64)))), (7, .val (.int .i64 l.length)), (8, .val (.int .i64 t8))] _
    obtain ⟨i1, i2, i3, rfl⟩ := hI
    refine code_seq (fun K5 hK5 => ?_)
    refine code_region ?_
    refine list_cons rfl (op_q (q_lt rfl rfl (by decide)) ?_)
    refine list_nil ?_
    refine hK5 _ ?_; clear hK5 K5
    refine code_seq (fun K6 hK6 => ?_)
    refine code_cond_d rfl (fun h1 => ?_) (fun h1 => ?_)
    · skip
      (try simp only [Decidable.not_not] at h1)
      refine code_skip ?_
      refine hK6 _ ?_; clear hK6 K6
      refine code_seq (fun K7 hK7 => ?_)
      refine code_block ?_
      refine code_seq (fun K8 hK8 => ?_)
      refine code_region ?_
      refine list_cons rfl (op_q (q_indexAddr_rd sl_22 rfl (.inl ⟨_, rfl, rfl⟩) rfl (by omega) (by omega) (by decide)) ?_)
      refine list_cons rfl (op_q (q_load_rd one_3 rfl (.inl ⟨_, (by first | rfl | exact congrArg (SV.rpar _) (drop_map1 _ 0 _ (by first | omega | (simp; omega)))), rfl⟩) (by decide)) ?_)
      refine list_cons rfl (op_q (q_assign rfl (by decide)) ?_)
      refine list_nil ?_
      refine hK8 _ ?_; clear hK8 K8
      refine code_seq (fun K9 hK9 => ?_)
      refine code_seq (fun K10 hK10 => ?_)
      refine code_region ?_
      refine list_cons rfl (op_q (q_move rfl (by decide)) ?_)
      refine list_cons rfl (op_q (q_lt rfl rfl (by decide)) ?_)
      refine list_cons rfl (op_q (q_move rfl (by decide)) ?_)
      refine list_guard_d rfl rfl rfl rfl (by decide) rfl (by decide) (fun h2 => ?_) (fun h2 => ?_)
      · simp only [Bool.false_eq_true, if_true, if_false, Decidable.not_not] at h2
        refine id (op_q (q_move rfl (by decide)) ?_)
        refine list_guard_y rfl rfl rfl rfl (by decide) rfl ?_
        refine id (op_q (q_ge rfl rfl (by decide)) ?_)
        refine list_cons rfl (op_q (q_pick rfl rfl (by decide)) ?_)
        refine list_cons rfl (op_q (q_move rfl (by decide)) ?_)
        refine list_guard_d rfl rfl rfl rfl (by decide) rfl (by decide) (fun h3 => ?_) (fun h3 => ?_)
        · simp only [Bool.false_eq_true, if_true, if_false, Decidable.not_not] at h3
          refine id (op_q (q_move rfl (by decide)) ?_)
          refine list_guard_y rfl rfl rfl rfl (by decide) rfl ?_
          refine id (op_q (q_indexAddr_arr arr_84 rfl rfl rfl (by omega) (by omega) (by decide)) ?_)
          refine list_guard_y rfl rfl rfl rfl (by decide) rfl ?_
          refine id (op_q (q_load one_4 3 rfl rfl rfl (usd_get1 l t8.toNat (by omega) (by omega)) (by decide)) ?_)
          refine list_cons rfl (op_q (q_pick rfl rfl (by decide)) ?_)
          refine list_nil ?_
          refine hK10 _ ?_; clear hK10 K10
          refine codeT.imp (σ' := [(0, _), (2, _), (3, _), (5, _), (6, _), (7, _), (8, _), (22, _)]) ?_ (imp_covers ⟨rfl, rfl, rfl, rfl, rfl, rfl, rfl, rfl, trivial⟩)
          refine code_cond_d rfl (fun h4 => ?_) (fun h4 => ?_)
          · skip
            (try simp only [Decidable.not_not] at h4)
            refine code_seq (fun K11 hK11 => ?_)
            refine code_region ?_
            refine list_cons rfl (op_q (q_assign rfl (by decide)) ?_)
            refine list_nil ?_
            refine hK11 _ ?_; clear hK11 K11
            refine code_ret ?_
            refine then_r ?_; clear hK9 K9
            refine blk_r ?_
            refine then_r ?_; clear hK7 K7
            refine then_r ?_
            refine blk_r ?_
            refine then_r ?_; clear hK3 K3
            refine ends_ret (cs := []) rfl rfl rfl rfl trivial ?_
            first
              | (rw [ordK_not (l := l) (m := l.length) (j := t8.toNat) (by omega) (fun h => by have := h.1; omega)]; rfl)
              | (have hx := h4
                 rw [ordK_not (l := l) (m := l.length) (j := t8.toNat) (by omega) (fun h => by rw [h.2] at hx; exact absurd hx (by simp))]; rfl)
              | (rw [show l.length = t8.toNat by omega, i3]; rfl)
          (try simp only [Decidable.not_not] at h4)
          refine code_skip ?_
          refine hK9 _ ?_; clear hK9 K9
          refine code_region ?_
          refine list_cons rfl (op_q (q_move rfl (by decide)) ?_)
          refine list_cons rfl (op_q (q_indexAddr_arr arr_84 rfl rfl rfl (by omega) (by omega) (by decide)) ?_)
          refine list_cons rfl (op_store (one_4).2 3 [3] (by intro t ht; simp only [List.mem_cons, List.not_mem_nil, or_false] at ht; subst ht; rfl) (.inl rfl) rfl rfl rfl rfl rfl rfl (by rw [usd_len]; omega) (by decide) rfl ?_)
          refine list_nil ?_
          refine blk_n ?_
          refine hK7 _ ?_; clear hK7 K7
          refine codeT.imp (σ' := [(0, _), (2, _), (3, _), (5, _), (6, _), (7, _), (8, _)]) ?_ (imp_covers ⟨rfl, rfl, rfl, rfl, rfl, rfl, rfl, trivial⟩)
          refine code_region ?_
          refine list_cons rfl (op_q (by first | exact q_addI rfl rfl (by decide) (by omega) (by omega) | exact q_ib rfl rfl rfl (by decide)) ?_)
          refine list_cons rfl (op_q (q_move rfl (by decide)) ?_)
          refine list_nil ?_
          refine then_n ⟨(_, _, _), imp_covers ⟨rfl, rfl, rfl, rfl, rfl, rfl, trivial⟩, ?_, ?_⟩
          · (try dsimp only)
            refine ⟨by omega, by omega, ?_, ?_⟩
            · rw [show (t8 + 1).toNat = t8.toNat + 1 by omega]
              exact ordK_succ i3 ⟨by omega, by omega⟩ (by simpa using h4)
            · rw [show (t8 + 1).toNat = t8.toNat + 1 by omega]
              exact usd_put l t8.toNat (d := l.getD t8.toNat 0) (by omega) (by omega) rfl (by omega)
          · (try dsimp only); omega
        simp only [Bool.false_eq_true, if_true, if_false, Decidable.not_not] at h3
        refine list_guard_n rfl rfl rfl rfl (by decide) rfl ?_
        refine list_guard_n rfl rfl rfl rfl (by decide) rfl ?_
        refine list_cons rfl (op_q (q_pick rfl rfl (by decide)) ?_)
        refine list_nil ?_
        refine hK10 _ ?_; clear hK10 K10
        refine codeT.imp (σ' := [(0, _), (2, _), (3, _), (5, _), (6, _), (7, _), (8, _), (22, _)]) ?_ (imp_covers ⟨rfl, rfl, rfl, rfl, rfl, rfl, rfl, rfl, trivial⟩)
        refine code_cond_t rfl ?_
        refine code_seq (fun K12 hK12 => ?_)
        refine code_region ?_
        refine list_cons rfl (op_q (q_assign rfl (by decide)) ?_)
        refine list_nil ?_
        refine hK12 _ ?_; clear hK12 K12
        refine code_ret ?_
        refine then_r ?_; clear hK9 K9
        refine blk_r ?_
        refine then_r ?_; clear hK7 K7
        refine then_r ?_
        refine blk_r ?_
        refine then_r ?_; clear hK3 K3
        refine ends_ret (cs := []) rfl rfl rfl rfl trivial ?_
        first
          | (rw [ordK_not (l := l) (m := l.length) (j := t8.toNat) (by omega) (fun h => by have := h.1; omega)]; rfl)
          | (have hx := h3
             rw [ordK_not (l := l) (m := l.length) (j := t8.toNat) (by omega) (fun h => by rw [h.2] at hx; exact absurd hx (by simp))]; rfl)
          | (rw [show l.length = t8.toNat by omega, i3]; rfl)
      simp only [Bool.false_eq_true, if_true, if_false, Decidable.not_not] at h2
      refine list_guard_n rfl rfl rfl rfl (by decide) rfl ?_
      refine list_cons rfl (op_q (q_pick rfl rfl (by decide)) ?_)
      refine list_cons rfl (op_q (q_move rfl (by decide)) ?_)
      refine list_guard_n rfl rfl rfl rfl (by decide) rfl ?_
      refine list_guard_n rfl rfl rfl rfl (by decide) rfl ?_
      refine list_guard_n rfl rfl rfl rfl (by decide) rfl ?_
      refine list_cons rfl (op_q (q_pick rfl rfl (by decide)) ?_)
      refine list_nil ?_
      refine hK10 _ ?_; clear hK10 K10
      refine codeT.imp (σ' := [(0, _), (2, _), (3, _), (5, _), (6, _), (7, _), (8, _), (22, _)]) ?_ (imp_covers ⟨rfl, rfl, rfl, rfl, rfl, rfl, rfl, rfl, trivial⟩)
      refine code_cond_t rfl ?_
      refine code_seq (fun K13 hK13 => ?_)
      refine code_region ?_
      refine list_cons rfl (op_q (q_assign rfl (by decide)) ?_)
      refine list_nil ?_
      refine hK13 _ ?_; clear hK13 K13
      refine code_ret ?_
      refine then_r ?_; clear hK9 K9
      refine blk_r ?_
      refine then_r ?_; clear hK7 K7
      refine then_r ?_
      refine blk_r ?_
      refine then_r ?_; clear hK3 K3
      refine ends_ret (cs := []) rfl rfl rfl rfl trivial ?_
      first
        | (rw [ordK_not (l := l) (m := l.length) (j := t8.toNat) (by omega) (fun h => by have := h.1; omega)]; rfl)
        | (have hx := h2
           rw [ordK_not (l := l) (m := l.length) (j := t8.toNat) (by omega) (fun h => by rw [h.2] at hx; exact absurd hx (by simp))]; rfl)
        | (rw [show l.length = t8.toNat by omega, i3]; rfl)
    (try simp only [Decidable.not_not] at h1)
    refine code_exit ?_
    refine then_x ?_; clear hK6 K6
    refine then_x ?_
    refine blk_hit ?_
    refine hK3 _ ?_; clear hK3 K3
    refine code_seq (fun K14 hK14 => ?_)
    refine code_region ?_
    refine list_cons rfl (op_q (q_assign rfl (by decide)) ?_)
    refine list_nil ?_
    refine hK14 _ ?_; clear hK14 K14
    refine code_ret ?_
    refine ends_ret (cs := []) rfl rfl rfl rfl trivial ?_
    first
      | (rw [ordK_not (l := l) (m := l.length) (j := t8.toNat) (by omega) (fun h => by have := h.1; omega)]; rfl)
      | (have hx := h1
         rw [ordK_not (l := l) (m := l.length) (j := t8.toNat) (by omega) (fun h => by rw [h.2] at hx; exact absurd hx (by simp))]; rfl)
      | (rw [show l.length = t8.toNat by omega, i3]; rfl)
end Go.Proofs.YtfagllolcalfiabDoor
