/- Contracts of functions, walked over the pure layer; each says for which arguments. -/
import Derived.Test.YtppocfcopnaebaaDoorp2Ty
import Derived.Test.YtppocfcopnaebaaDoorTf
import Derived.Test.YtppocfcopnaebaaDoorp1
import Derived.Test.YtppocfcopnaebaaDoorShelf
namespace Go.Proofs.YtppocfcopnaebaaDoor
open Go.RowKit p2Ty
set_option linter.unusedVariables false
set_option linter.unusedSimpArgs false
def abcG : List UInt8 := [97, 98, 99, 100, 101, 102, 103]
def ixR (r : Int) : Int := if 97 ≤ r ∧ r ≤ 103 then r - 97 else -1
set_option maxRecDepth 100000 in
theorem ix_ascii (r : Int) (h0 : 0 ≤ r) (h1 : r < 128) : Lib.indexByte abcG r.toNat.toUInt8 = ixR r := by
  have k : below 128 (fun n => intEq (Lib.indexByte abcG n.toUInt8) (ixR (n : Int))) = true := by kernel_rfl
  have := below_ok k r.toNat (by omega)
  rw [intEq_eq, beq_iff_eq] at this
  rwa [Int.toNat_of_nonneg h0] at this
theorem ix_none (c : UInt8) (h : 128 ≤ c.toNat) (l : List UInt8) (hl : ∀ b ∈ l, b.toNat < 128) : Lib.indexByte l c = -1 := by
  induction l with
  | nil => rfl
  | cons b l ih =>
    have hb := hl b (by simp)
    have hne : (b == c) = false := by
      rw [beq_eq_false_iff_ne]; intro e; subst e; omega
    unfold Lib.indexByte
    rw [ih (fun x hx => hl x (by simp [hx])), hne]; rfl
theorem abcG_lt : ∀ b ∈ abcG, b.toNat < 128 := by decide
theorem indexByte_c (s : List UInt8) (b : UInt8) : PCalls Tryd.prog 60 [.str s, .int .u8 b.toNat] (· = [.val (.int .i64 (Lib.indexByte s b))]) := by
  refine pcalls_flat (enters_of Tryd.func60 (by kernel_rfl) rfl) fun w vs ha => ?_
  obtain ⟨v0, r0, rfl, ha0, ha⟩ := repArgs_cons ha
  obtain ⟨v1, r1, rfl, ha1, ha⟩ := repArgs_cons ha
  obtain rfl := repArgs_nil ha
  simp only [Rep] at ha0 ha1
  subst ha0; subst ha1
  refine (Tryd.strings_IndexByte (.mk s.toArray) b.toNat w).mono fun e w' ⟨he, hw⟩ => ⟨[.int .i64 (Lib.indexByte s b)], [.int .i64 (Lib.indexByte s b)], ?_, hw ▸ Below.refl _ _, ⟨_, _, rfl, by simp [Rep], rfl⟩, rfl⟩
  rw [he]; simp [packV]
theorem indexRune_ascii (r : Int) (h0 : 0 ≤ r) (h1 : r < 128) : PCalls Tryd.prog 50 [.str abcG, .int .i32 r] (· = [.val (.int .i64 (ixR r))]) := by
  refine pcalls_flat (enters_of Tryd.func50 (by kernel_rfl) rfl) fun w vs ha => ?_
  obtain ⟨v0, r0, rfl, ha0, ha⟩ := repArgs_cons ha
  obtain ⟨v1, r1, rfl, ha1, ha⟩ := repArgs_cons ha
  obtain rfl := repArgs_nil ha
  simp only [Rep] at ha0 ha1
  subst ha0; subst ha1
  refine (Tryd.strings_IndexRune_ascii (.mk abcG.toArray) r w h0 h1).mono fun e w' ⟨he, hw⟩ => ⟨[.int .i64 (ixR r)], [.int .i64 (ixR r)], ?_, hw ▸ Below.refl _ _, ⟨_, _, rfl, by simp [Rep], rfl⟩, rfl⟩
  rw [he, ix_ascii r h0 h1]; rfl
theorem validRune_c (r : Int) : PCalls Tryd.prog 61 [.int .i32 r] (· = [.val (.bool (decide ((0 ≤ r ∧ r < 0xD800) ∨ (0xDFFF < r ∧ r ≤ 0x10FFFF))))]) := by
  refine pcalls_flat (enters_of Tryd.func61 (by kernel_rfl) rfl) fun w vs ha => ?_
  obtain ⟨v0, r0, rfl, ha0, ha⟩ := repArgs_cons ha
  obtain rfl := repArgs_nil ha
  simp only [Rep] at ha0
  subst ha0
  exact (Tryd.utf8_ValidRune r w).mono fun e w' ⟨he, hw⟩ => ⟨[.bool (Lib.validRune r)], [.bool (Lib.validRune r)], he, hw ▸ Below.refl _ _, ⟨_, _, rfl, by simp [Rep], rfl⟩, rfl⟩
set_option maxRecDepth 4000 in
theorem indexRune_hi (r : Int) (h0 : 128 ≤ r) (h1 : r ≤ 1114111) : PCalls Tryd.prog 50 [.str abcG, .int .i32 r] (· = [.val (.int .i64 (-1))]) := by
  refine pcalls_of_code (n := 187) az Tryd.func50 (by kernel_rfl) rfl rfl (Nat.le_of_ble_eq_true rfl) (by intro t u h; simp [Tryd.f50] at h) ?_
  have hal : abcG.length = 7 := rfl
  have hab : ∀ j, j < abcG.length → (abcG.getD j 0).toNat < 128 := by decide
  have he := encode_hi h0
  have hel := he.1
  have hel2 := he.2.1
  refine code_seq (fun K1 hK1 => ?_)
  refine code_region ?_
  refine list_cons rfl (op_q (q_assign rfl (by decide)) ?_)
  refine list_nil ?_
  refine hK1 _ ?_; clear hK1 K1
  refine code_block ?_
  refine code_seq (fun K2 hK2 => ?_)
  refine code_region ?_
  refine list_cons rfl (op_q (q_move rfl (by decide)) ?_)
  refine list_cons rfl (op_q (q_le rfl rfl (by decide)) ?_)
  refine list_cons rfl (op_q (q_move rfl (by decide)) ?_)
  refine list_guard_d rfl rfl rfl rfl (by decide) rfl (by decide) (fun h1 => ?_) (fun h1 => ?_)
  · simp only [Bool.false_eq_true, if_true, if_false, Decidable.not_not] at h1
    refine id (op_q (q_move rfl (by decide)) ?_)
    refine list_guard_y rfl rfl rfl rfl (by decide) rfl ?_
    refine id (op_q (q_lt rfl rfl (by decide)) ?_)
    refine list_cons rfl (op_q (q_pick rfl rfl (by decide)) ?_)
    refine list_cons rfl (op_q (q_assign rfl (by decide)) ?_)
    refine list_nil ?_
    refine hK2 _ ?_; clear hK2 K2
    refine code_cond_d rfl (fun h2 => ?_) (fun h2 => ?_)
    · skip
      (try simp only [Decidable.not_not] at h2)
      exfalso
      omega
    (try simp only [Decidable.not_not] at h2)
    refine code_seq (fun K3 hK3 => ?_)
    refine code_region ?_
    refine list_cons rfl (op_q (q_move rfl (by decide)) ?_)
    refine list_cons rfl (op_q (q_eq rfl rfl (by decide)) ?_)
    refine list_cons rfl (op_q (q_assign rfl (by decide)) ?_)
    refine list_nil ?_
    refine hK3 _ ?_; clear hK3 K3
    refine codeT.imp (σ' := [(0, _), (1, _), (4, _), (171, _)]) ?_ (imp_covers ⟨rfl, rfl, rfl, rfl, trivial⟩)
    refine code_cond_d rfl (fun h3 => ?_) (fun h3 => ?_)
    · skip
      (try simp only [Decidable.not_not] at h3)
      refine code_seq (fun K4 hK4 => ?_)
      refine code_seq (fun K5 hK5 => ?_)
      refine code_region ?_
      refine list_cons rfl (op_q (q_move rfl (by decide)) ?_)
      refine list_cons rfl (op_range_str Tryd.underlying9 rfl (by decide) (by decide) rfl ?_)
      refine list_nil ?_
      refine hK5 _ ?_; clear hK5 K5
      refine code_block ?_
      refine code_loop (X := Int × Nat) (fun x => [(0, .val (.str abcG)), (1, .val (.int .i32 r)), (4, .val (.int .i64 x.1)), (175, .sit 175 (abcG) x.2)]) (fun x => x.2 ≤ 7) (fun x => 7 - x.2) (_, _) (imp_covers ⟨rfl, rfl, rfl, rfl, trivial⟩) ?_ ?_
      · (try dsimp only)
        omega
      · intro x hI
        obtain ⟨t4, t175_i⟩ := x
        replace hI : t175_i ≤ 7 := hI
        show codeT _ _ _ [(0, .val (.str abcG)), (1, .val (.int .i32 r)), (4, .val (.int .i64 t4)), (175, .sit 175 (abcG) t175_i)] _
        refine code_seq (fun K6 hK6 => ?_)
        refine code_region ?_
        refine list_cons rfl (op_nextA (h := 175) hab rfl rfl (by decide) (fun h4 => ?_) (fun h4 => ?_))
        · skip
          refine list_cons rfl (op_q (q_extract rfl rfl (by decide)) ?_)
          refine list_nil ?_
          refine hK6 _ ?_; clear hK6 K6
          refine code_seq (fun K7 hK7 => ?_)
          refine code_cond_f rfl ?_
          refine code_exit ?_
          refine then_x ?_; clear hK7 K7
          refine then_x ?_
          refine blk_hit ?_
          refine hK4 _ ?_; clear hK4 K4
          refine code_seq (fun K8 hK8 => ?_)
          refine code_region ?_
          refine list_cons rfl (op_q (q_assign rfl (by decide)) ?_)
          refine list_nil ?_
          refine hK8 _ ?_; clear hK8 K8
          refine code_ret ?_
          refine blk_r ?_
          refine ends_ret (cs := []) rfl rfl rfl rfl trivial ?_
          rfl
        · skip
          refine list_cons rfl (op_q (q_extract rfl rfl (by decide)) ?_)
          refine list_nil ?_
          refine hK6 _ ?_; clear hK6 K6
          refine code_seq (fun K9 hK9 => ?_)
          refine code_cond_t rfl ?_
          refine code_skip ?_
          refine hK9 _ ?_; clear hK9 K9
          refine code_block ?_
          refine code_seq (fun K10 hK10 => ?_)
          refine code_region ?_
          refine list_cons rfl (op_q (q_extract rfl rfl (by decide)) ?_)
          refine list_cons rfl (op_q (q_extract rfl rfl (by decide)) ?_)
          refine list_cons rfl (op_q (q_assign rfl (by decide)) ?_)
          refine list_cons rfl (op_q (q_assign rfl (by decide)) ?_)
          refine list_nil ?_
          refine hK10 _ ?_; clear hK10 K10
          refine code_seq (fun K11 hK11 => ?_)
          refine code_region ?_
          refine list_cons rfl (op_q (q_move rfl (by decide)) ?_)
          refine list_cons rfl (op_q (q_eq rfl rfl (by decide)) ?_)
          refine list_nil ?_
          refine hK11 _ ?_; clear hK11 K11
          refine code_cond_d rfl (fun h5 => ?_) (fun h5 => ?_)
          · skip
            (try simp only [Decidable.not_not] at h5)
            exfalso
            have := hab t175_i (by omega); omega
          (try simp only [Decidable.not_not] at h5)
          refine code_skip ?_
          refine blk_n ?_
          refine then_n ⟨(_, _), imp_covers ⟨rfl, rfl, rfl, rfl, trivial⟩, ?_, ?_⟩
          · (try dsimp only)
            omega
          · omega
    (try simp only [Decidable.not_not] at h3)
    refine code_seq (fun K12 hK12 => ?_)
    refine code_region ?_
    refine list_cons rfl (op_q (q_move rfl (by decide)) ?_)
    refine list_cons rfl (op_call _ (validRune_c _) rfl rfl (by decide) (by decide) (by decide) rfl ?_)
    rintro _ rfl
    refine list_cons rfl (op_q (by first | exact q_notd rfl (by decide) | exact q_not rfl (by decide)) ?_)
    refine list_cons rfl (op_q (q_assign rfl (by decide)) ?_)
    refine list_nil ?_
    refine hK12 _ ?_; clear hK12 K12
    refine codeT.imp (σ' := [(0, _), (1, _), (4, _), (183, _)]) ?_ (imp_covers ⟨rfl, rfl, rfl, rfl, trivial⟩)
    refine code_cond_d rfl (fun h6 => ?_) (fun h6 => ?_)
    · skip
      (try simp only [Decidable.not_not] at h6)
      refine code_seq (fun K13 hK13 => ?_)
      refine code_region ?_
      refine list_cons rfl (op_q (q_assign rfl (by decide)) ?_)
      refine list_nil ?_
      refine hK13 _ ?_; clear hK13 K13
      refine code_ret ?_
      refine blk_r ?_
      refine ends_ret (cs := []) rfl rfl rfl rfl trivial ?_
      rfl
    (try simp only [Decidable.not_not] at h6)
    refine code_scope ?_
    refine code_seq (fun K14 hK14 => ?_)
    refine code_region ?_
    refine list_cons rfl (op_q (q_move rfl (by decide)) ?_)
    refine list_cons rfl (op_q (q_runestr Tryd.underlying21 Tryd.underlying9 rfl (by decide)) ?_)
    refine list_cons rfl (op_q (q_assign rfl (by decide)) ?_)
    refine list_nil ?_
    refine hK14 _ ?_; clear hK14 K14
    refine code_seq (fun K15 hK15 => ?_)
    refine code_region ?_
    refine list_cons rfl (op_q (q_move rfl (by decide)) ?_)
    refine list_cons rfl (op_q (q_len_str Tryd.underlying9 rfl (by decide)) ?_)
    refine list_cons rfl (op_q (by first | exact q_subI rfl rfl (by decide) (by omega) (by omega) | exact q_ib rfl rfl rfl (by decide)) ?_)
    refine list_cons rfl (op_q (q_assign rfl (by decide)) ?_)
    refine list_nil ?_
    refine hK15 _ ?_; clear hK15 K15
    refine code_seq (fun K16 hK16 => ?_)
    refine code_region ?_
    refine list_cons rfl (op_q (q_move rfl (by decide)) ?_)
    refine list_cons rfl (op_q (q_assign rfl (by decide)) ?_)
    refine list_nil ?_
    refine hK16 _ ?_; clear hK16 K16
    refine codeT.imp (σ' := [(0, _), (1, _), (4, _), (7, _), (8, _), (9, _)]) ?_ (imp_covers ⟨rfl, rfl, rfl, rfl, rfl, rfl, trivial⟩)
    refine code_seq (fun K17 hK17 => ?_)
    refine code_region ?_
    refine list_cons rfl (op_q (q_assign rfl (by decide)) ?_)
    refine list_nil ?_
    refine hK17 _ ?_; clear hK17 K17
    refine code_seq (fun K18 hK18 => ?_)
    refine code_block ?_
    refine code_loop (X := Int × List UInt8 × Int × Int × Int) (fun x => [(0, .val (.str abcG)), (1, .val (.int .i32 r)), (4, .val (.int .i64 x.1)), (7, .val (.str x.2.1)), (8, .val (.int .i64 x.2.2.1)), (9, .val (.int .i64 x.2.2.2.1)), (10, .val (.int .i64 x.2.2.2.2))]) (fun x => x.2.1 = encL r ∧ x.2.2.1 = x.2.1.length - 1 ∧ x.2.2.2.1 = x.2.2.1) (fun x => 0) (_, _, _, _, _) (imp_covers ⟨rfl, rfl, rfl, rfl, rfl, rfl, rfl, trivial⟩) ?_ ?_
    · (try dsimp only)
      exact ⟨rfl, rfl, rfl⟩
    · intro x hI
      obtain ⟨t4, rs, last, i, fails⟩ := x
      replace hI : rs = encL r ∧ last = rs.length - 1 ∧ i = last := hI
      show codeT _ _ _ [(0, .val (.str abcG)), (1, .val (.int .i32 r)), (4, .val (.int .i64 t4)), (7, .val (.str rs)), (8, .val (.int .i64 last)), (9, .val (.int .i64 i)), (10, .val (.int .i64 fails))] _
      obtain ⟨rfl, i2, i3⟩ := hI
      have hlast : 128 ≤ ((encL r).getD last.toNat 0).toNat := by
            have hl : last.toNat < (encL r).length := by omega
            have : (encL r).getD last.toNat 0 = (encL r)[last.toNat] := by simp [hl]
            rw [this]; exact he.2.2 _ (List.getElem_mem hl)
      refine code_seq (fun K19 hK19 => ?_)
      refine code_seq (fun K20 hK20 => ?_)
      refine code_region ?_
      refine list_cons rfl (op_q (q_move rfl (by decide)) ?_)
      refine list_cons rfl (op_q (q_move rfl (by decide)) ?_)
      refine list_cons rfl (op_q (q_len_str Tryd.underlying9 rfl (by decide)) ?_)
      refine list_cons rfl (op_q (q_lt rfl rfl (by decide)) ?_)
      refine list_nil ?_
      refine hK20 _ ?_; clear hK20 K20
      refine code_cond_d rfl (fun h7 => ?_) (fun h7 => ?_)
      · skip
        (try simp only [Decidable.not_not] at h7)
        refine code_skip ?_
        refine hK19 _ ?_; clear hK19 K19
        refine code_block ?_
        refine code_scope ?_
        refine code_seq (fun K21 hK21 => ?_)
        refine code_seq (fun K22 hK22 => ?_)
        refine code_draw (by kernel_rfl) (by kernel_rfl) ?_
        refine draw_q rfl (q_move rfl (by decide)) ?_
        refine draw_q rfl (q_move rfl (by decide)) ?_
        refine draw_q rfl (q_index_str Tryd.underlying9 rfl rfl (by omega) (by omega) (by decide)) ?_
        refine draw_q rfl (q_move rfl (by decide)) ?_
        refine draw_q rfl (q_move rfl (by decide)) ?_
        refine draw_q rfl (q_index_str Tryd.underlying9 rfl rfl (by omega) (by omega) (by decide)) ?_
        refine draw_q rfl (q_ne rfl rfl (by decide)) ?_
        refine draw_nil ?_
        refine hK22 _ ?_; clear hK22 K22
        refine codeT.imp (σ' := [(0, _), (1, _), (4, _), (7, _), (8, _), (9, _), (10, _), (33, _)]) ?_ (imp_covers ⟨rfl, rfl, rfl, rfl, rfl, rfl, rfl, rfl, trivial⟩)
        refine code_cond_d rfl (fun h8 => ?_) (fun h8 => ?_)
        · skip
          (try simp only [Decidable.not_not] at h8)
          refine code_seq (fun K23 hK23 => ?_)
          refine code_draw (by kernel_rfl) (by kernel_rfl) ?_
          refine draw_q rfl (q_move rfl (by decide)) ?_
          refine draw_q rfl (q_move rfl (by decide)) ?_
          refine draw_q rfl (by first | exact q_addI rfl rfl (by decide) (by omega) (by omega) | exact q_ib rfl rfl rfl (by decide)) ?_
          refine draw_q rfl (q_slice_str Tryd.underlying9 rfl ⟨_, rfl⟩ rfl (by omega) (by omega) (by omega) (by decide)) ?_
          refine draw_q rfl (q_move rfl (by decide)) ?_
          refine draw_q rfl (q_move rfl (by decide)) ?_
          refine draw_q rfl (q_index_str Tryd.underlying9 rfl rfl (by omega) (by omega) (by decide)) ?_
          refine draw_call _ (indexByte_c _ _) rfl rfl rfl (by decide) ?_
          refine draw_q rfl (q_assign rfl (by decide)) ?_
          refine draw_nil ?_
          refine hK23 _ ?_; clear hK23 K23
          refine codeT.imp (σ' := [(0, _), (1, _), (4, _), (7, _), (8, _), (9, _), (10, _), (11, _)]) ?_ (imp_covers ⟨rfl, rfl, rfl, rfl, rfl, rfl, rfl, rfl, trivial⟩)
          refine code_seq (fun K24 hK24 => ?_)
          refine code_seq (fun K25 hK25 => ?_)
          refine code_region ?_
          refine list_cons rfl (op_q (q_move rfl (by decide)) ?_)
          refine list_cons rfl (op_q (q_lt rfl rfl (by decide)) ?_)
          refine list_nil ?_
          refine hK25 _ ?_; clear hK25 K25
          refine code_cond_d rfl (fun h9 => ?_) (fun h9 => ?_)
          · skip
            (try simp only [Decidable.not_not] at h9)
            refine code_seq (fun K26 hK26 => ?_)
            refine code_region ?_
            refine list_cons rfl (op_q (q_assign rfl (by decide)) ?_)
            refine list_nil ?_
            refine hK26 _ ?_; clear hK26 K26
            refine code_ret ?_
            refine then_r ?_; clear hK24 K24
            refine then_r ?_; clear hK21 K21
            refine sc_r ?_
            refine blk_r ?_
            refine then_r ?_
            refine blk_r ?_
            refine then_r ?_; clear hK18 K18
            refine sc_r ?_
            refine blk_r ?_
            refine ends_ret (cs := []) rfl rfl rfl rfl trivial ?_
            rfl
          (try simp only [Decidable.not_not] at h9)
          exfalso
          have g3 := ix_none ((encL r).getD last.toNat 0) hlast (((abcG.drop (i + 1).toNat).take (((abcG.length : Nat) : Int).toNat - (i + 1).toNat))) (fun b hb => abcG_lt b (List.mem_of_mem_drop (List.mem_of_mem_take hb)))
          rw [g3] at h9; omega
        (try simp only [Decidable.not_not] at h8)
        exfalso
        have g1 := hab i.toNat (by omega); have g2 := hlast; omega
      (try simp only [Decidable.not_not] at h7)
      refine code_exit ?_
      refine then_x ?_; clear hK19 K19
      refine then_x ?_
      refine blk_hit ?_
      refine hK18 _ ?_; clear hK18 K18
      refine code_seq (fun K27 hK27 => ?_)
      refine code_seq (fun K28 hK28 => ?_)
      refine code_region ?_
      refine list_cons rfl (op_q (q_assign rfl (by decide)) ?_)
      refine list_nil ?_
      refine hK28 _ ?_; clear hK28 K28
      refine code_ret ?_
      refine then_r ?_; clear hK27 K27
      refine sc_r ?_
      refine blk_r ?_
      refine ends_ret (cs := []) rfl rfl rfl rfl trivial ?_
      rfl
  simp only [Bool.false_eq_true, if_true, if_false, Decidable.not_not] at h1
  exfalso
  omega
theorem indexRune_c (r : Int) (h0 : 0 ≤ r) (h1 : r ≤ 1114111) : PCalls Tryd.prog 50 [.str abcG, .int .i32 r] (· = [.val (.int .i64 (ixR r))]) := by
  by_cases h : r < 128
  · exact indexRune_ascii r h0 h
  · rw [show ixR r = -1 by unfold ixR; rw [if_neg (by omega)]]
    exact indexRune_hi r (by omega) h1
theorem ixR_le (r : Int) : -1 ≤ ixR r ∧ ixR r ≤ 6 := by unfold ixR; split <;> omega
def OrdU (s : List UInt8) (i : Nat) : Prop := ∀ j, j < i → 97 ≤ (s.getD j 0).toNat ∧ (s.getD j 0).toNat ≤ 103 ∧ (0 < j → (s.getD (j - 1) 0).toNat < (s.getD j 0).toNat)
theorem p2_mono {a b : Nat} (h : a ≤ b) : p2 a ≤ p2 b := Nat.pow_le_pow_right (by omega) h
theorem orF_top (s : List UInt8) : ∀ i, i < s.length → OrdU s (i + 1) → p2 ((s.getD i 0).toNat - 97) ≤ orF (s.take (i + 1)) ∧ orF (s.take (i + 1)) < p2 ((s.getD i 0).toNat - 97 + 1)
  | 0, h, hu => by
    rw [orF_snoc s h, List.take_zero]
    have e : orF [] ||| 2 ^ ((s.getD 0 0).toNat - 97) = 2 ^ ((s.getD 0 0).toNat - 97) := by show 0 ||| _ = _; simp
    rw [e]
    exact ⟨Nat.le_refl _, Nat.pow_lt_pow_right (by omega) (by omega)⟩
  | i + 1, h, hu => by
    have ih := orF_top s i (by omega) (fun j hj => hu j (by omega))
    have h2 := (hu (i + 1) (by omega)).2.2 (by omega)
    rw [Nat.add_sub_cancel] at h2
    have h3 := (hu i (by omega)).1
    rw [orF_snoc s h]
    refine ⟨Nat.right_le_or, @Nat.or_lt_two_pow _ _ _ ?_ (Nat.pow_lt_pow_right (by omega) (by omega))⟩
    refine Nat.lt_of_lt_of_le ih.2 (Nat.pow_le_pow_right (by omega) (by omega))
theorem sh_zero {a k : Nat} : shN a k = 0 ↔ a < p2 k := by
  unfold shN
  rw [Nat.div_eq_zero_iff]
  have : 0 < p2 k := Nat.pow_pos (by omega)
  omega
theorem pb_at {s : List UInt8} {i : Nat} (h : i < s.length) (hr : 0 ≤ ixR ((runeAt s i).1 : Int)) : (runeAt s i).1 = (s.getD i 0).toNat ∧ (runeAt s i).2 = 1 ∧ 97 ≤ (s.getD i 0).toNat ∧ (s.getD i 0).toNat ≤ 103 ∧ ixR ((runeAt s i).1 : Int) = (((s.getD i 0).toNat - 97 : Nat) : Int) := by
  by_cases ha : (s.getD i 0).toNat < 128
  · have e := runeAt_ascii h ha
    rw [e] at hr ⊢
    simp only [] at hr ⊢
    unfold ixR at hr ⊢
    split at hr
    · rename_i h2; rw [if_pos h2]; exact ⟨by trivial, by trivial, by omega, by omega, by omega⟩
    · omega
  · have := runeAt_hi h (by omega)
    unfold ixR at hr
    rw [if_neg (by omega)] at hr
    omega
theorem pb_ord {s : List UInt8} {i : Nat} (h : i < s.length) (ho : OrdP s) : 0 ≤ ixR ((runeAt s i).1 : Int) := by
  have := ho i h
  rw [runeAt_ascii h (by omega)]
  simp only []
  unfold ixR; rw [if_pos (by omega)]; omega
theorem pb_step {s : List UInt8} {i : Nat} (h : i < s.length) (hu : OrdU s i) (hr : 0 ≤ ixR ((runeAt s i).1 : Int)) (hz : shN (orF (s.take i)) (ixR ((runeAt s i).1 : Int)).toNat = 0) : OrdU s (i + 1) := by
  obtain ⟨_, _, g3, g4, g5⟩ := pb_at h hr
  rw [g5, Int.toNat_natCast, sh_zero] at hz
  intro j hj
  by_cases e : j = i
  · subst e
    refine ⟨g3, g4, fun h0 => ?_⟩
    have h1 := orF_top s (j - 1) (by omega) (fun k hk => hu k (by omega))
    rw [show j - 1 + 1 = j by omega] at h1
    have h2 := (hu (j - 1) (by omega)).1
    have h3 : p2 ((s.getD (j - 1) 0).toNat - 97) < p2 ((s.getD j 0).toNat - 97) := by omega
    have h4 : (s.getD (j - 1) 0).toNat - 97 < (s.getD j 0).toNat - 97 := Nat.lt_of_not_le fun hle => by have := p2_mono hle; omega
    omega
  · exact hu j (by omega)
theorem pb_bad {s : List UInt8} {i : Nat} (h : i < s.length) (hu : OrdU s i) (hr : 0 ≤ ixR ((runeAt s i).1 : Int)) (hz : ¬ shN (orF (s.take i)) (ixR ((runeAt s i).1 : Int)).toNat = 0) : ¬ OrdP s := by
  intro ho
  obtain ⟨_, _, g3, g4, g5⟩ := pb_at h hr
  apply hz
  rw [g5, Int.toNat_natCast, sh_zero]
  by_cases h0 : 0 < i
  · have h1 := orF_top s (i - 1) (by omega) (fun k hk => hu k (by omega))
    rw [show i - 1 + 1 = i by omega] at h1
    have h2 := (ho i h).2.2 h0
    have h3 := (hu (i - 1) (by omega)).1
    exact Nat.lt_of_lt_of_le h1.2 (p2_mono (by omega))
  · rw [show i = 0 by omega, List.take_zero]
    show 0 < _
    exact Nat.pow_pos (by omega)
set_option maxRecDepth 100000 in
theorem onesCount_c (c : Int) (h0 : 0 ≤ c) (h1 : c ≤ 127) : PCalls Tryd.prog 42 [.int .u64 c] (· = [.val (.int .i64 (((cnt7 c.toNat : Nat) : Int)))]) := by
  have h := below_int (p := fun i => oneInt (crun Tf.tf noExt 200 6 42 [.int .u64 (Int.ofNat i)]) (((cnt7 i : Nat) : Int))) (k := 128) (by kernel_rfl) h0 (by omega)
  have e : Int.ofNat c.toNat = c := Int.toNat_of_nonneg h0
  rw [e] at h
  exact pcalls_run Tf.tf (oneInt_ok h)
set_option maxRecDepth 4000 in
theorem impl_IsCell (c : Int) : PCalls Tryd.prog 41 [.int .i64 c] (· = [.val (.bool (decide (0 ≤ c ∧ c ≤ 127)))]) := by
  refine pcalls_of_code (n := 9) az Tryd.func41 (by kernel_rfl) rfl rfl (Nat.le_of_ble_eq_true rfl) (by intro t u h; simp [Tryd.f41] at h) ?_
  refine code_seq (fun K1 hK1 => ?_)
  refine code_region ?_
  refine list_cons rfl (op_q (q_assign rfl (by decide)) ?_)
  refine list_nil ?_
  refine hK1 _ ?_; clear hK1 K1
  refine code_seq (fun K2 hK2 => ?_)
  refine code_region ?_
  refine list_cons rfl (op_q (q_move rfl (by decide)) ?_)
  refine list_cons rfl (op_q (q_ge rfl rfl (by decide)) ?_)
  refine list_cons rfl (op_q (q_move rfl (by decide)) ?_)
  refine list_guard_d rfl rfl rfl rfl (by decide) rfl (by decide) (fun h1 => ?_) (fun h1 => ?_)
  · simp only [Bool.false_eq_true, if_true, if_false, Decidable.not_not] at h1
    refine id (op_q (q_move rfl (by decide)) ?_)
    refine list_guard_y rfl rfl rfl rfl (by decide) rfl ?_
    refine id (op_q (q_lt rfl rfl (by decide)) ?_)
    refine list_cons rfl (op_q (q_pick rfl rfl (by decide)) ?_)
    refine list_cons rfl (op_q (q_assign rfl (by decide)) ?_)
    refine list_nil ?_
    refine hK2 _ ?_; clear hK2 K2
    refine code_ret ?_
    refine ends_ret (cs := []) rfl rfl rfl rfl trivial ?_
    first | (congr 3; exact decide_eq_decide.mpr ⟨fun k => by omega, fun k => by omega⟩) | (rw [decide_eq_false (by omega)])
  simp only [Bool.false_eq_true, if_true, if_false, Decidable.not_not] at h1
  refine list_guard_n rfl rfl rfl rfl (by decide) rfl ?_
  refine list_cons rfl (op_q (q_pick rfl rfl (by decide)) ?_)
  refine list_cons rfl (op_q (q_assign rfl (by decide)) ?_)
  refine list_nil ?_
  refine hK2 _ ?_; clear hK2 K2
  refine code_ret ?_
  refine ends_ret (cs := []) rfl rfl rfl rfl trivial ?_
  first | (congr 3; exact decide_eq_decide.mpr ⟨fun k => by omega, fun k => by omega⟩) | (rw [decide_eq_false (by omega)])
set_option maxRecDepth 4000 in
theorem impl_CountBars (c : Int) : PCalls Tryd.prog 21 [.int .i64 c] (· = [.val (.int .i64 (if 0 ≤ c ∧ c ≤ 127 then ((cnt7 c.toNat : Nat) : Int) else 0)), .val (.bool (decide (0 ≤ c ∧ c ≤ 127)))]) := by
  refine pcalls_of_code (n := 10) az Tryd.func21 (by kernel_rfl) rfl rfl (Nat.le_of_ble_eq_true rfl) (by intro t u h; simp [Tryd.f21] at h) ?_
  refine code_seq (fun K1 hK1 => ?_)
  refine code_region ?_
  refine list_cons rfl (op_q (q_assign rfl (by decide)) ?_)
  refine list_cons rfl (op_q (q_assign rfl (by decide)) ?_)
  refine list_nil ?_
  refine hK1 _ ?_; clear hK1 K1
  refine code_seq (fun K2 hK2 => ?_)
  refine code_seq (fun K3 hK3 => ?_)
  refine code_region ?_
  refine list_cons rfl (op_q (q_move rfl (by decide)) ?_)
  refine list_cons rfl (op_call _ (impl_IsCell _) rfl rfl (by decide) (by decide) (by decide) rfl ?_)
  rintro _ rfl
  refine list_cons rfl (op_q (by first | exact q_notd rfl (by decide) | exact q_not rfl (by decide)) ?_)
  refine list_nil ?_
  refine hK3 _ ?_; clear hK3 K3
  refine codeT.imp (σ' := [(0, _), (2, _), (3, _), (6, _)]) ?_ (imp_covers ⟨rfl, rfl, rfl, rfl, trivial⟩)
  refine code_cond_d rfl (fun h1 => ?_) (fun h1 => ?_)
  · skip
    (try simp only [Decidable.not_not] at h1)
    refine code_seq (fun K4 hK4 => ?_)
    refine code_region ?_
    refine list_cons rfl (op_q (q_assign rfl (by decide)) ?_)
    refine list_cons rfl (op_q (q_assign rfl (by decide)) ?_)
    refine list_nil ?_
    refine hK4 _ ?_; clear hK4 K4
    refine code_ret ?_
    refine then_r ?_; clear hK2 K2
    refine ends_ret (cs := []) rfl rfl rfl rfl trivial ?_
    simp only [if_neg h1, decide_eq_false h1]
  (try simp only [Decidable.not_not] at h1)
  refine code_skip ?_
  refine hK2 _ ?_; clear hK2 K2
  refine code_seq (fun K5 hK5 => ?_)
  refine code_region ?_
  refine list_cons rfl (op_q (q_move rfl (by decide)) ?_)
  refine list_cons rfl (op_q (by first | exact q_convU (by rw [Tryd.underlying3]; rfl) Tryd.underlying63 rfl (by decide) (by omega) (by omega) | exact q_conv (by rw [Tryd.underlying3]; rfl) Tryd.underlying63 rfl (by decide)) ?_)
  refine list_cons rfl (op_call _ (onesCount_c _ (by omega) (by omega)) rfl rfl (by decide) (by decide) (by decide) rfl ?_)
  rintro _ rfl
  refine list_cons rfl (op_q (q_assign rfl (by decide)) ?_)
  refine list_cons rfl (op_q (q_assign rfl (by decide)) ?_)
  refine list_nil ?_
  refine hK5 _ ?_; clear hK5 K5
  refine codeT.imp (σ' := [(0, _), (2, _), (3, _)]) ?_ (imp_covers ⟨rfl, rfl, rfl, trivial⟩)
  refine code_ret ?_
  refine ends_ret (cs := []) rfl rfl rfl rfl trivial ?_
  simp only [if_pos h1, decide_eq_true h1]
set_option maxRecDepth 4000 in
theorem impl_FarCells (a b : Int) : PCalls Tryd.prog 34 [.int .i64 a, .int .i64 b] (· = [.val (.int .i64 (if (0 ≤ a ∧ a ≤ 127) ∧ (0 ≤ b ∧ b ≤ 127) then ((cnt7 (a.toNat ^^^ b.toNat) : Nat) : Int) else 0)), .val (.bool (decide ((0 ≤ a ∧ a ≤ 127) ∧ (0 ≤ b ∧ b ≤ 127))))]) := by
  refine pcalls_of_code (n := 20) az Tryd.func34 (by kernel_rfl) rfl rfl (Nat.le_of_ble_eq_true rfl) (by intro t u h; simp [Tryd.f34] at h) ?_
  refine code_seq (fun K1 hK1 => ?_)
  refine code_region ?_
  refine list_cons rfl (op_q (q_assign rfl (by decide)) ?_)
  refine list_cons rfl (op_q (q_assign rfl (by decide)) ?_)
  refine list_nil ?_
  refine hK1 _ ?_; clear hK1 K1
  refine code_seq (fun K2 hK2 => ?_)
  refine code_seq (fun K3 hK3 => ?_)
  refine code_region ?_
  refine list_cons rfl (op_q (q_move rfl (by decide)) ?_)
  refine list_cons rfl (op_call _ (impl_IsCell _) rfl rfl (by decide) (by decide) (by decide) rfl ?_)
  rintro _ rfl
  refine list_cons rfl (op_q (by first | exact q_notd rfl (by decide) | exact q_not rfl (by decide)) ?_)
  refine list_cons rfl (op_q (q_move rfl (by decide)) ?_)
  refine list_guard_d rfl rfl rfl rfl (by decide) rfl (by decide) (fun h1 => ?_) (fun h1 => ?_)
  · simp only [Bool.false_eq_true, if_true, if_false, Decidable.not_not] at h1
    refine id (op_q (q_move rfl (by decide)) ?_)
    refine list_guard_y rfl rfl rfl rfl (by decide) rfl ?_
    refine id (op_call _ (impl_IsCell _) rfl rfl (by decide) (by decide) (by decide) rfl ?_)
    rintro _ rfl
    refine list_guard_y rfl rfl rfl rfl (by decide) rfl ?_
    refine id (op_q (by first | exact q_notd rfl (by decide) | exact q_not rfl (by decide)) ?_)
    refine list_cons rfl (op_q (q_pick rfl rfl (by decide)) ?_)
    refine list_nil ?_
    refine hK3 _ ?_; clear hK3 K3
    refine codeT.imp (σ' := [(0, _), (1, _), (4, _), (5, _), (13, _)]) ?_ (imp_covers ⟨rfl, rfl, rfl, rfl, rfl, trivial⟩)
    refine code_cond_d rfl (fun h2 => ?_) (fun h2 => ?_)
    · skip
      (try simp only [Decidable.not_not] at h2)
      refine code_seq (fun K4 hK4 => ?_)
      refine code_region ?_
      refine list_cons rfl (op_q (q_assign rfl (by decide)) ?_)
      refine list_cons rfl (op_q (q_assign rfl (by decide)) ?_)
      refine list_nil ?_
      refine hK4 _ ?_; clear hK4 K4
      refine code_ret ?_
      refine then_r ?_; clear hK2 K2
      refine ends_ret (cs := []) rfl rfl rfl rfl trivial ?_
      first
        | (have e : ¬ ((0 ≤ a ∧ a ≤ 127) ∧ (0 ≤ b ∧ b ≤ 127)) := by omega
           simp only [if_neg e, decide_eq_false e])
        | (have e : ((0 ≤ a ∧ a ≤ 127) ∧ (0 ≤ b ∧ b ≤ 127)) := by omega
           have e2 := xor7 e.1 e.2
           have e3 : 0 ≤ ((a.toNat ^^^ b.toNat : Nat) : Int) ∧ ((a.toNat ^^^ b.toNat : Nat) : Int) ≤ 127 := ⟨by omega, e2⟩
           simp only [if_pos e, decide_eq_true e, if_pos e3, decide_eq_true e3, Int.toNat_natCast])
    (try simp only [Decidable.not_not] at h2)
    refine code_skip ?_
    refine hK2 _ ?_; clear hK2 K2
    refine code_seq (fun K5 hK5 => ?_)
    refine code_region ?_
    refine list_cons rfl (op_q (q_move rfl (by decide)) ?_)
    refine list_cons rfl (op_q (q_move rfl (by decide)) ?_)
    refine list_cons rfl (op_q (by first | exact q_xorI rfl rfl (by decide) (by omega) (by omega) (by omega) (by omega) | exact q_ib rfl rfl rfl (by decide)) ?_)
    refine list_cons rfl (op_call _ (impl_CountBars _) rfl rfl (by decide) (by decide) (by decide) rfl ?_)
    rintro _ rfl
    refine list_cons rfl (op_q (q_extract rfl rfl (by decide)) ?_)
    refine list_cons rfl (op_q (q_extract rfl rfl (by decide)) ?_)
    refine list_cons rfl (op_q (q_assign rfl (by decide)) ?_)
    refine list_cons rfl (op_q (q_assign rfl (by decide)) ?_)
    refine list_nil ?_
    refine hK5 _ ?_; clear hK5 K5
    refine codeT.imp (σ' := [(0, _), (1, _), (4, _), (5, _)]) ?_ (imp_covers ⟨rfl, rfl, rfl, rfl, trivial⟩)
    refine code_ret ?_
    refine ends_ret (cs := []) rfl rfl rfl rfl trivial ?_
    first
      | (have e : ¬ ((0 ≤ a ∧ a ≤ 127) ∧ (0 ≤ b ∧ b ≤ 127)) := by omega
         simp only [if_neg e, decide_eq_false e])
      | (have e : ((0 ≤ a ∧ a ≤ 127) ∧ (0 ≤ b ∧ b ≤ 127)) := by omega
         have e2 := xor7 e.1 e.2
         have e3 : 0 ≤ ((a.toNat ^^^ b.toNat : Nat) : Int) ∧ ((a.toNat ^^^ b.toNat : Nat) : Int) ≤ 127 := ⟨by omega, e2⟩
         simp only [if_pos e, decide_eq_true e, if_pos e3, decide_eq_true e3, Int.toNat_natCast])
  simp only [Bool.false_eq_true, if_true, if_false, Decidable.not_not] at h1
  refine list_guard_n rfl rfl rfl rfl (by decide) rfl ?_
  refine list_guard_n rfl rfl rfl rfl (by decide) rfl ?_
  refine list_cons rfl (op_q (q_pick rfl rfl (by decide)) ?_)
  refine list_nil ?_
  refine hK3 _ ?_; clear hK3 K3
  refine code_cond_t rfl ?_
  refine code_seq (fun K6 hK6 => ?_)
  refine code_region ?_
  refine list_cons rfl (op_q (q_assign rfl (by decide)) ?_)
  refine list_cons rfl (op_q (q_assign rfl (by decide)) ?_)
  refine list_nil ?_
  refine hK6 _ ?_; clear hK6 K6
  refine code_ret ?_
  refine then_r ?_; clear hK2 K2
  refine ends_ret (cs := []) rfl rfl rfl rfl trivial ?_
  first
    | (have e : ¬ ((0 ≤ a ∧ a ≤ 127) ∧ (0 ≤ b ∧ b ≤ 127)) := by omega
       simp only [if_neg e, decide_eq_false e])
    | (have e : ((0 ≤ a ∧ a ≤ 127) ∧ (0 ≤ b ∧ b ≤ 127)) := by omega
       have e2 := xor7 e.1 e.2
       have e3 : 0 ≤ ((a.toNat ^^^ b.toNat : Nat) : Int) ∧ ((a.toNat ^^^ b.toNat : Nat) : Int) ≤ 127 := ⟨by omega, e2⟩
       simp only [if_pos e, decide_eq_true e, if_pos e3, decide_eq_true e3, Int.toNat_natCast])
def bitN (n k : Nat) : Bool := Nat.beq (shN n k % 2) 1
theorem bit_iff (c b : Nat) : ((shN c b &&& 1 : Nat) : Int) = 1 ↔ bitN c b = true := by
  rw [Nat.and_one_is_mod]
  unfold bitN
  constructor
  · intro h; have : shN c b % 2 = 1 := by omega
    rw [this]; rfl
  · intro h; have := Nat.eq_of_beq_eq_true h; omega
set_option maxRecDepth 4000 in
theorem impl_hasBar (c b : Int) (hc : 0 ≤ c ∧ c ≤ 127) (hb : 0 ≤ b ∧ b ≤ 62) : PCalls Tryd.prog 49 [.int .i64 c, .int .i64 b] (· = [.val (.bool (decide (bitN c.toNat b.toNat = true)))]) := by
  refine pcalls_of_code (n := 10) az Tryd.func49 (by kernel_rfl) rfl rfl (Nat.le_of_ble_eq_true rfl) (by intro t u h; simp [Tryd.f49] at h) ?_
  have hs := shN_le c.toNat b.toNat
  refine code_seq (fun K1 hK1 => ?_)
  refine code_region ?_
  refine list_cons rfl (op_q (q_assign rfl (by decide)) ?_)
  refine list_nil ?_
  refine hK1 _ ?_; clear hK1 K1
  refine code_seq (fun K2 hK2 => ?_)
  refine code_region ?_
  refine list_cons rfl (op_q (q_move rfl (by decide)) ?_)
  refine list_cons rfl (op_q (q_move rfl (by decide)) ?_)
  refine list_cons rfl (op_q (by first | exact q_shrN rfl rfl (by decide) (by omega) (by omega) (by omega) | exact q_shrI rfl rfl (by decide) (by omega) (by omega) (by omega) | exact q_shr rfl rfl (by omega) (by decide)) ?_)
  refine list_cons rfl (op_q (by first | exact q_andI rfl rfl (by decide) (by omega) (by omega) (by omega) (by omega) | exact q_ib rfl rfl rfl (by decide)) ?_)
  refine list_cons rfl (op_q (q_eq rfl rfl (by decide)) ?_)
  refine list_cons rfl (op_q (q_assign rfl (by decide)) ?_)
  refine list_nil ?_
  refine hK2 _ ?_; clear hK2 K2
  refine code_ret ?_
  refine ends_ret (cs := []) rfl rfl rfl rfl trivial ?_
  congr 3
  exact decide_eq_decide.mpr (bit_iff _ _)
set_option maxRecDepth 4000 in
theorem impl_ParseBars (s : List UInt8) (hs : s.length ≤ 4611686018427387904) : PCalls Tryd.prog 40 [.str s] (· = [.val (.int .i64 (if OrdP s then ((orF s : Nat) : Int) else 0)), .val (.bool (decide (OrdP s)))]) := by
  refine pcalls_of_code (n := 28) az Tryd.func40 (by kernel_rfl) rfl rfl (Nat.le_of_ble_eq_true rfl) (by intro t u h; simp [Tryd.f40] at h) ?_
  refine code_seq (fun K1 hK1 => ?_)
  refine code_region ?_
  refine list_cons rfl (op_q (q_assign rfl (by decide)) ?_)
  refine list_cons rfl (op_q (q_assign rfl (by decide)) ?_)
  refine list_nil ?_
  refine hK1 _ ?_; clear hK1 K1
  refine code_seq (fun K2 hK2 => ?_)
  refine code_region ?_
  refine list_cons rfl (op_q (q_assign rfl (by decide)) ?_)
  refine list_nil ?_
  refine hK2 _ ?_; clear hK2 K2
  refine code_seq (fun K3 hK3 => ?_)
  refine code_seq (fun K4 hK4 => ?_)
  refine code_region ?_
  refine list_cons rfl (op_q (q_move rfl (by decide)) ?_)
  refine list_cons rfl (op_range_str Tryd.underlying9 rfl (by decide) (by decide) rfl ?_)
  refine list_nil ?_
  refine hK4 _ ?_; clear hK4 K4
  refine code_block ?_
  refine code_loop (X := Int × Bool × Int × Nat) (fun x => [(0, .val (.str s)), (2, .val (.int .i64 x.1)), (3, .val (.bool x.2.1)), (4, .val (.int .i64 x.2.2.1)), (9, .sit 9 (s) x.2.2.2)]) (fun x => x.2.2.2 ≤ s.length ∧ x.2.2.1 = ((orF (s.take x.2.2.2) : Nat) : Int) ∧ orF (s.take x.2.2.2) < 128 ∧ OrdU s x.2.2.2) (fun x => s.length - x.2.2.2) (_, _, _, _) (imp_covers ⟨rfl, rfl, rfl, rfl, rfl, trivial⟩) ?_ ?_
  · (try dsimp only)
    exact ⟨by omega, by rw [List.take_zero]; rfl, by rw [List.take_zero]; decide, fun j hj => by omega⟩
  · intro x hI
    obtain ⟨t2, t3, cell, t9_i⟩ := x
    replace hI : t9_i ≤ s.length ∧ cell = ((orF (s.take t9_i) : Nat) : Int) ∧ orF (s.take t9_i) < 128 ∧ OrdU s t9_i := hI
    show codeT _ _ _ [(0, .val (.str s)), (2, .val (.int .i64 t2)), (3, .val (.bool t3)), (4, .val (.int .i64 cell)), (9, .sit 9 (s) t9_i)] _
    obtain ⟨i1, i2, i3, i4⟩ := hI
    have hix := ixR_le ((runeAt s t9_i).1 : Int)
    have hp2 := p2_le (k := (ixR ((runeAt s t9_i).1 : Int)).toNat) (by omega)
    refine code_seq (fun K5 hK5 => ?_)
    refine code_region ?_
    refine list_cons rfl (op_next (h := 9) rfl rfl (by decide) (fun h1 => ?_) (fun h1 => ?_))
    · skip
      refine list_cons rfl (op_q (q_extract rfl rfl (by decide)) ?_)
      refine list_nil ?_
      refine hK5 _ ?_; clear hK5 K5
      refine code_seq (fun K6 hK6 => ?_)
      refine code_cond_f rfl ?_
      refine code_exit ?_
      refine then_x ?_; clear hK6 K6
      refine then_x ?_
      refine blk_hit ?_
      refine hK3 _ ?_; clear hK3 K3
      refine code_seq (fun K7 hK7 => ?_)
      refine code_region ?_
      refine list_cons rfl (op_q (q_move rfl (by decide)) ?_)
      refine list_cons rfl (op_q (q_assign rfl (by decide)) ?_)
      refine list_cons rfl (op_q (q_assign rfl (by decide)) ?_)
      refine list_nil ?_
      refine hK7 _ ?_; clear hK7 K7
      refine code_ret ?_
      refine ends_ret (cs := []) rfl rfl rfl rfl trivial ?_
      have e0 : t9_i = s.length := by omega
      rw [e0] at i4
      have e : OrdP s := i4
      rw [if_pos e, decide_eq_true e, i2, e0, List.take_length]
    · skip
      refine list_cons rfl (op_q (q_extract rfl rfl (by decide)) ?_)
      refine list_nil ?_
      refine hK5 _ ?_; clear hK5 K5
      refine code_seq (fun K8 hK8 => ?_)
      refine code_cond_t rfl ?_
      refine code_skip ?_
      refine hK8 _ ?_; clear hK8 K8
      refine code_block ?_
      refine code_seq (fun K9 hK9 => ?_)
      refine code_region ?_
      refine list_cons rfl (op_q (q_extract rfl rfl (by decide)) ?_)
      refine list_cons rfl (op_q (q_assign rfl (by decide)) ?_)
      refine list_nil ?_
      refine hK9 _ ?_; clear hK9 K9
      refine code_seq (fun K10 hK10 => ?_)
      refine code_region ?_
      refine list_cons rfl (op_q (q_move rfl (by decide)) ?_)
      refine list_cons rfl (op_call _ (indexRune_c _ (by omega) (by have := runeAt_le (s := s) (i := t9_i) (by omega); omega)) rfl rfl (by decide) (by decide) (by decide) rfl ?_)
      rintro _ rfl
      refine list_cons rfl (op_q (q_assign rfl (by decide)) ?_)
      refine list_nil ?_
      refine hK10 _ ?_; clear hK10 K10
      refine codeT.imp (σ' := [(0, _), (2, _), (3, _), (4, _), (6, _), (7, _), (9, _), (10, _)]) ?_ (imp_covers ⟨rfl, rfl, rfl, rfl, rfl, rfl, rfl, rfl, trivial⟩)
      refine code_seq (fun K11 hK11 => ?_)
      refine code_seq (fun K12 hK12 => ?_)
      refine code_region ?_
      refine list_cons rfl (op_q (q_move rfl (by decide)) ?_)
      refine list_cons rfl (op_q (q_lt rfl rfl (by decide)) ?_)
      refine list_cons rfl (op_q (q_move rfl (by decide)) ?_)
      refine list_guard_d rfl rfl rfl rfl (by decide) rfl (by decide) (fun h2 => ?_) (fun h2 => ?_)
      · simp only [Bool.false_eq_true, if_true, if_false, Decidable.not_not] at h2
        refine id (op_q (q_move rfl (by decide)) ?_)
        refine list_guard_y rfl rfl rfl rfl (by decide) rfl ?_
        refine id (op_q (q_move rfl (by decide)) ?_)
        refine list_guard_y rfl rfl rfl rfl (by decide) rfl ?_
        refine id (op_q (by first | exact q_shrN rfl rfl (by decide) (by omega) (by omega) (by omega) | exact q_shrI rfl rfl (by decide) (by omega) (by omega) (by omega) | exact q_shr rfl rfl (by omega) (by decide)) ?_)
        refine list_guard_y rfl rfl rfl rfl (by decide) rfl ?_
        refine id (op_q (q_ne rfl rfl (by decide)) ?_)
        refine list_cons rfl (op_q (q_pick rfl rfl (by decide)) ?_)
        refine list_nil ?_
        refine hK12 _ ?_; clear hK12 K12
        refine codeT.imp (σ' := [(0, _), (2, _), (3, _), (4, _), (6, _), (7, _), (9, _), (10, _), (22, _)]) ?_ (imp_covers ⟨rfl, rfl, rfl, rfl, rfl, rfl, rfl, rfl, rfl, trivial⟩)
        refine code_cond_d rfl (fun h3 => ?_) (fun h3 => ?_)
        · skip
          (try simp only [Decidable.not_not] at h3)
          refine code_seq (fun K13 hK13 => ?_)
          refine code_region ?_
          refine list_cons rfl (op_q (q_assign rfl (by decide)) ?_)
          refine list_cons rfl (op_q (q_assign rfl (by decide)) ?_)
          refine list_nil ?_
          refine hK13 _ ?_; clear hK13 K13
          refine code_ret ?_
          refine then_r ?_; clear hK11 K11
          refine blk_r ?_
          refine then_r ?_
          refine blk_r ?_
          refine then_r ?_; clear hK3 K3
          refine ends_ret (cs := []) rfl rfl rfl rfl trivial ?_
          have e : ¬ OrdP s := pb_bad (i := t9_i) (by omega) i4 (by omega) (fun k => h3 (by rw [i2, Int.toNat_natCast, k]; rfl))
          rw [if_neg e, decide_eq_false e]
        (try simp only [Decidable.not_not] at h3)
        refine code_skip ?_
        refine hK11 _ ?_; clear hK11 K11
        refine code_region ?_
        refine list_cons rfl (op_q (q_move rfl (by decide)) ?_)
        refine list_cons rfl (op_q (q_move rfl (by decide)) ?_)
        refine list_cons rfl (op_q (by first | exact q_shl1 rfl rfl (by decide) (by omega) (by omega) | exact q_shlI rfl rfl (by decide) (by omega) (by omega) (by omega) | exact q_shl rfl rfl (by omega) (by decide)) ?_)
        refine list_cons rfl (op_q (by first | exact q_orI rfl rfl (by decide) (by omega) (by omega) (by omega) (by omega) | exact q_ib rfl rfl rfl (by decide)) ?_)
        refine list_cons rfl (op_q (q_assign rfl (by decide)) ?_)
        refine list_nil ?_
        refine blk_n ?_
        refine then_n ⟨(_, _, _, _), imp_covers ⟨rfl, rfl, rfl, rfl, rfl, trivial⟩, ?_, ?_⟩
        · (try dsimp only)
          have hr : 0 ≤ ixR ((runeAt s t9_i).1 : Int) := by omega
          have hz : shN (orF (s.take t9_i)) (ixR ((runeAt s t9_i).1 : Int)).toNat = 0 := by have := h3; rw [i2, Int.toNat_natCast] at this; omega
          obtain ⟨g1, g2, g3, g4, g5⟩ := pb_at (by omega) hr
          have e9 : orF (s.take (t9_i + 1)) = orF (s.take t9_i) ||| p2 (ixR ((runeAt s t9_i).1 : Int)).toNat := by
            rw [orF_snoc s (by omega), g5, Int.toNat_natCast]; rfl
          rw [g2]
          refine ⟨by omega, ?_, ?_, pb_step (by omega) i4 hr hz⟩
          · rw [e9, i2, Int.toNat_natCast, Int.toNat_natCast]
          · rw [e9]; exact or7 i3 (by omega)
        · (have hr : 0 ≤ ixR ((runeAt s t9_i).1 : Int) := by omega); (have := (pb_at (by omega) hr).2.1); (try dsimp only); omega
      simp only [Bool.false_eq_true, if_true, if_false, Decidable.not_not] at h2
      refine list_guard_n rfl rfl rfl rfl (by decide) rfl ?_
      refine list_guard_n rfl rfl rfl rfl (by decide) rfl ?_
      refine list_guard_n rfl rfl rfl rfl (by decide) rfl ?_
      refine list_cons rfl (op_q (q_pick rfl rfl (by decide)) ?_)
      refine list_nil ?_
      refine hK12 _ ?_; clear hK12 K12
      refine code_cond_t rfl ?_
      refine code_seq (fun K14 hK14 => ?_)
      refine code_region ?_
      refine list_cons rfl (op_q (q_assign rfl (by decide)) ?_)
      refine list_cons rfl (op_q (q_assign rfl (by decide)) ?_)
      refine list_nil ?_
      refine hK14 _ ?_; clear hK14 K14
      refine code_ret ?_
      refine then_r ?_; clear hK11 K11
      refine blk_r ?_
      refine then_r ?_
      refine blk_r ?_
      refine then_r ?_; clear hK3 K3
      refine ends_ret (cs := []) rfl rfl rfl rfl trivial ?_
      have e : ¬ OrdP s := fun k => by have := pb_ord (i := t9_i) (by omega) k; omega
      rw [if_neg e, decide_eq_false e]
theorem bars_dig : ∀ j, j < 10 → OrdP (([[97, 98, 99, 100, 101, 102], [98, 99], [97, 98, 100, 101, 103], [97, 98, 99, 100, 103], [98, 99, 102, 103], [97, 99, 100, 102, 103], [97, 99, 100, 101, 102, 103], [97, 98, 99], [97, 98, 99, 100, 101, 102, 103], [97, 98, 99, 100, 102, 103]] : List (List UInt8)).getD j []) ∧ ((orF (([[97, 98, 99, 100, 101, 102], [98, 99], [97, 98, 100, 101, 103], [97, 98, 99, 100, 103], [98, 99, 102, 103], [97, 99, 100, 102, 103], [97, 99, 100, 101, 102, 103], [97, 98, 99], [97, 98, 99, 100, 101, 102, 103], [97, 98, 99, 100, 102, 103]] : List (List UInt8)).getD j []) : Nat) : Int) = digT.getD j 0 := by
  intro j hj
  have : j = 0 ∨ j = 1 ∨ j = 2 ∨ j = 3 ∨ j = 4 ∨ j = 5 ∨ j = 6 ∨ j = 7 ∨ j = 8 ∨ j = 9 := by omega
  rcases this with rfl | rfl | rfl | rfl | rfl | rfl | rfl | rfl | rfl | rfl <;> exact ⟨by decide, by decide⟩
theorem tbl_len (j : Nat) : (([[97, 98, 99, 100, 101, 102], [98, 99], [97, 98, 100, 101, 103], [97, 98, 99, 100, 103], [98, 99, 102, 103], [97, 99, 100, 102, 103], [97, 99, 100, 101, 102, 103], [97, 98, 99], [97, 98, 99, 100, 101, 102, 103], [97, 98, 99, 100, 102, 103]] : List (List UInt8)).getD j []).length ≤ 7 := by
  by_cases hj : j < 10
  · have : j = 0 ∨ j = 1 ∨ j = 2 ∨ j = 3 ∨ j = 4 ∨ j = 5 ∨ j = 6 ∨ j = 7 ∨ j = 8 ∨ j = 9 := by omega
    rcases this with rfl | rfl | rfl | rfl | rfl | rfl | rfl | rfl | rfl | rfl <;> decide
  · unfold List.getD; rw [List.getElem?_eq_none (by simp; omega)]; simp
set_option maxRecDepth 4000 in
theorem impl_CellOf (d : Int) : PCalls Tryd.prog 20 [.int .i64 d] (· = [.val (.int .i64 (if 0 ≤ d ∧ d ≤ 9 then digT.getD d.toNat 0 else 0)), .val (.bool (decide (0 ≤ d ∧ d ≤ 9)))]) := by
  refine pcalls_of_code (n := 16) az Tryd.func20 (by kernel_rfl) rfl rfl (Nat.le_of_ble_eq_true rfl) (by intro t u h; simp [Tryd.f20] at h) ?_
  refine code_seq (fun K1 hK1 => ?_)
  refine code_region ?_
  refine list_cons rfl (op_q (q_assign rfl (by decide)) ?_)
  refine list_cons rfl (op_q (q_assign rfl (by decide)) ?_)
  refine list_nil ?_
  refine hK1 _ ?_; clear hK1 K1
  refine code_seq (fun K2 hK2 => ?_)
  refine code_seq (fun K3 hK3 => ?_)
  refine code_region ?_
  refine list_cons rfl (op_q (q_move rfl (by decide)) ?_)
  refine list_cons rfl (op_q (q_lt rfl rfl (by decide)) ?_)
  refine list_cons rfl (op_q (q_move rfl (by decide)) ?_)
  refine list_guard_d rfl rfl rfl rfl (by decide) rfl (by decide) (fun h1 => ?_) (fun h1 => ?_)
  · simp only [Bool.false_eq_true, if_true, if_false, Decidable.not_not] at h1
    refine id (op_q (q_move rfl (by decide)) ?_)
    refine list_guard_y rfl rfl rfl rfl (by decide) rfl ?_
    refine id (op_q (q_ge rfl rfl (by decide)) ?_)
    refine list_cons rfl (op_q (q_pick rfl rfl (by decide)) ?_)
    refine list_nil ?_
    refine hK3 _ ?_; clear hK3 K3
    refine code_cond_d rfl (fun h2 => ?_) (fun h2 => ?_)
    · skip
      (try simp only [Decidable.not_not] at h2)
      refine code_seq (fun K4 hK4 => ?_)
      refine code_region ?_
      refine list_cons rfl (op_q (q_assign rfl (by decide)) ?_)
      refine list_cons rfl (op_q (q_assign rfl (by decide)) ?_)
      refine list_nil ?_
      refine hK4 _ ?_; clear hK4 K4
      refine code_ret ?_
      refine then_r ?_; clear hK2 K2
      refine ends_ret (cs := []) rfl rfl rfl rfl trivial ?_
      first
        | (have e : ¬ (0 ≤ d ∧ d ≤ 9) := by omega
           simp only [if_neg e, decide_eq_false e])
        | (have e : 0 ≤ d ∧ d ≤ 9 := by omega
           have e2 := bars_dig d.toNat (by omega)
           simp only [if_pos e, decide_eq_true e, if_pos e2.1, decide_eq_true e2.1, e2.2])
    (try simp only [Decidable.not_not] at h2)
    refine code_skip ?_
    refine hK2 _ ?_; clear hK2 K2
    refine code_seq (fun K5 hK5 => ?_)
    refine code_region ?_
    refine list_cons rfl (op_q (q_move rfl (by decide)) ?_)
    refine list_cons rfl (op_q (q_indexAddr_g arr_61 rfl rfl (by omega) (by omega) (by decide)) ?_)
    refine list_cons rfl (op_q (q_load_rd one_9 rfl (.inr ⟨_, (by first | rfl | exact congrArg (SV.rbor _) (drop_map1 _ [] _ (by first | omega | (simp; omega)))), rfl⟩) (by decide)) ?_)
    refine list_cons rfl (op_call _ (impl_ParseBars _ (by have := tbl_len d.toNat; omega)) rfl rfl (by decide) (by decide) (by decide) rfl ?_)
    rintro _ rfl
    refine list_cons rfl (op_q (q_extract rfl rfl (by decide)) ?_)
    refine list_cons rfl (op_q (q_extract rfl rfl (by decide)) ?_)
    refine list_cons rfl (op_q (q_assign rfl (by decide)) ?_)
    refine list_cons rfl (op_q (q_assign rfl (by decide)) ?_)
    refine list_nil ?_
    refine hK5 _ ?_; clear hK5 K5
    refine codeT.imp (σ' := [(0, _), (2, _), (3, _)]) ?_ (imp_covers ⟨rfl, rfl, rfl, trivial⟩)
    refine code_ret ?_
    refine ends_ret (cs := []) rfl rfl rfl rfl trivial ?_
    first
      | (have e : ¬ (0 ≤ d ∧ d ≤ 9) := by omega
         simp only [if_neg e, decide_eq_false e])
      | (have e : 0 ≤ d ∧ d ≤ 9 := by omega
         have e2 := bars_dig d.toNat (by omega)
         simp only [if_pos e, decide_eq_true e, if_pos e2.1, decide_eq_true e2.1, e2.2])
  simp only [Bool.false_eq_true, if_true, if_false, Decidable.not_not] at h1
  refine list_guard_n rfl rfl rfl rfl (by decide) rfl ?_
  refine list_cons rfl (op_q (q_pick rfl rfl (by decide)) ?_)
  refine list_nil ?_
  refine hK3 _ ?_; clear hK3 K3
  refine code_cond_t rfl ?_
  refine code_seq (fun K6 hK6 => ?_)
  refine code_region ?_
  refine list_cons rfl (op_q (q_assign rfl (by decide)) ?_)
  refine list_cons rfl (op_q (q_assign rfl (by decide)) ?_)
  refine list_nil ?_
  refine hK6 _ ?_; clear hK6 K6
  refine code_ret ?_
  refine then_r ?_; clear hK2 K2
  refine ends_ret (cs := []) rfl rfl rfl rfl trivial ?_
  first
    | (have e : ¬ (0 ≤ d ∧ d ≤ 9) := by omega
       simp only [if_neg e, decide_eq_false e])
    | (have e : 0 ≤ d ∧ d ≤ 9 := by omega
       have e2 := bars_dig d.toNat (by omega)
       simp only [if_pos e, decide_eq_true e, if_pos e2.1, decide_eq_true e2.1, e2.2])
def celS (k : Nat) : List Int := filN 10 (fun d => digT.getD d 0) k
theorem celS_get {s : Nat} (h : s < 10) : ((celS 10).map (PV.int .i64))[s]? = some (.int .i64 (digT.getD s 0)) := by
  have h2 := get_map1 (PV.int .i64) 0 (celS 10) (k := s) (by unfold celS; rw [filN_len]; exact h)
  rw [Nat.mul_one] at h2
  rw [h2]
  have h1 := filN_at 10 (fun d => digT.getD d 0) 10 s h
  rw [if_pos h] at h1
  unfold celS
  rw [h1]
theorem row_get {a b : Nat} (ha : a < 10) (hb : b < 10) : ((((tabS 100).map (PV.int .i64)).drop (a * 10)).take 10)[b]? = some (.int .i64 (dgt a b)) := by
  rw [List.getElem?_take, if_pos hb, List.getElem?_drop]
  have h2 := get_map1 (PV.int .i64) 0 (tabS 100) (k := a * 10 + b) (by simp [tabS, filN_len]; omega)
  rw [Nat.mul_one] at h2
  rw [h2, tab_at ha hb]
theorem put_new {a b : List PV} {n : Nat} (ha : a.length = n) (hb : b.length = n) : putAt a 0 (PV.agg b).cells = b := by
  unfold putAt PV.cells
  simp only [List.take_zero, List.nil_append, Nat.zero_add]
  rw [List.drop_of_length_le (by omega), List.append_nil]
def wbK (l : List Int) (c : Nat) : Nat → List Int
  | 0 => l
  | k + 1 => if bitN c k then (wbK l c k).set k ((wbK l c k).getD k 0 + 1) else wbK l c k
theorem wbK_len (l : List Int) (c : Nat) : ∀ k, (wbK l c k).length = l.length
  | 0 => rfl
  | k + 1 => by unfold wbK; split <;> simp [wbK_len l c k]
theorem wbK_at (l : List Int) (c : Nat) : ∀ (k j : Nat), k ≤ j → (wbK l c k).getD j 0 = l.getD j 0
  | 0, j, _ => rfl
  | k + 1, j, h => by
    have ih := wbK_at l c k j (by omega)
    unfold wbK
    split
    · rw [List.getD_eq_getElem?_getD, List.getElem?_set, if_neg (by omega), ← List.getD_eq_getElem?_getD]; exact ih
    · exact ih
theorem wbK_le (l : List Int) (c : Nat) {m : Int} (h : ∀ j, 0 ≤ l.getD j 0 ∧ l.getD j 0 ≤ m) : ∀ (k j : Nat), 0 ≤ (wbK l c k).getD j 0 ∧ (wbK l c k).getD j 0 ≤ m + 1
  | 0, j => by have := h j; unfold wbK; omega
  | k + 1, j => by
    have ih := wbK_le l c h k j
    have hk := wbK_at l c k k (Nat.le_refl _)
    have hm := h k
    unfold wbK
    split
    · rw [List.getD_eq_getElem?_getD, List.getElem?_set]
      by_cases e : k = j
      · rw [if_pos e]
        split
        · simp only [Option.getD_some]; omega
        · simp only [Option.getD_none]; omega
      · rw [if_neg e, ← List.getD_eq_getElem?_getD]; exact ih
    · exact ih
theorem wbK_put {l : List Int} {c k o : Nat} {v : Int} (ho : o = k) (hk : k < l.length) (hb : bitN c k = true) (hv : v = (wbK l c k).getD k 0 + 1) : putAt ((wbK l c k).map (PV.int .i64)) o [PV.int .i64 v] = (wbK l c (k + 1)).map (PV.int .i64) := by
  subst ho; subst hv
  have h1 := put_map1 (PV.int .i64) (wbK l c o) (k := o) (by rw [wbK_len]; exact hk) ((wbK l c o).getD o 0 + 1)
  rw [Nat.mul_one] at h1
  rw [wbK, if_pos hb]
  exact h1
def wS : Nat → List Int
  | 0 => List.replicate 7 0
  | d + 1 => wbK (wS d) (digT.getD d 0).toNat 7
theorem wS_len : ∀ d, (wS d).length = 7
  | 0 => rfl
  | d + 1 => by rw [wS, wbK_len, wS_len d]
theorem wS_le : ∀ (d j : Nat), 0 ≤ (wS d).getD j 0 ∧ (wS d).getD j 0 ≤ d
  | 0, j => by
    have : (wS 0).getD j 0 = 0 := by
      unfold wS
      rw [List.getD_eq_getElem?_getD, List.getElem?_replicate]
      split <;> rfl
    rw [this]; omega
  | d + 1, j => by
    have := wbK_le (wS d) (digT.getD d 0).toNat (m := d) (wS_le d) 7 j
    rw [wS]; omega
set_option maxRecDepth 100000 in
theorem wS_sh : wS 10 = shS 70 := by decide
theorem celS_all : ((((celS 10).map (PV.int .i64)).drop 0).take 10) = (celS 10).map (PV.int .i64) := by
  rw [List.drop_zero, List.take_of_length_le (by simp [celS, filN_len])]
set_option maxRecDepth 20000 in
set_option maxHeartbeats 2000000 in
theorem impl_ChangeTable  : PCalls Tryd.prog 13 [] (· = [.val (.agg ((tabS 100).map (.int .i64)))]) := by
  refine pcalls_of_code (n := 50) az Tryd.func13 (by kernel_rfl) rfl rfl (Nat.le_of_ble_eq_true rfl) (by intro t u h; simp [Tryd.f13] at h; obtain ⟨_, rfl⟩ := h <;> first | exact resTy_agg agg_33 (by decide)) ?_
  refine code_seq (fun K1 hK1 => ?_)
  refine code_region ?_
  refine list_cons rfl (op_alloc zt_33 (by decide) (by decide) rfl ?_)
  refine list_nil ?_
  refine hK1 _ ?_; clear hK1 K1
  refine code_seq (fun K2 hK2 => ?_)
  refine code_region ?_
  refine list_cons rfl (op_alloc zt_32 (by decide) (by decide) rfl ?_)
  refine list_nil ?_
  refine hK2 _ ?_; clear hK2 K2
  refine code_seq (fun K3 hK3 => ?_)
  refine code_seq (fun K4 hK4 => ?_)
  refine code_region ?_
  refine list_cons rfl (op_q (q_move rfl (by decide)) ?_)
  refine list_nil ?_
  refine hK4 _ ?_; clear hK4 K4
  refine code_block ?_
  refine code_loop (X := List PV × Int) (fun x => [(0, .box 0 33 (List.replicate 100 (.int .i64 0))), (1, .box 1 32 x.1), (12, .val (.int .i64 x.2))]) (fun x => 0 ≤ x.2 ∧ x.2 ≤ 10 ∧ x.1 = (celS x.2.toNat).map (.int .i64)) (fun x => (10 - x.2).toNat) (_, _) (imp_covers ⟨rfl, rfl, rfl, trivial⟩) ?_ ?_
  · (try dsimp only)
    exact ⟨by omega, by omega, rfl⟩
  · intro x hI
    obtain ⟨cells_c, t12⟩ := x
    replace hI : 0 ≤ t12 ∧ t12 ≤ 10 ∧ cells_c = (celS t12.toNat).map (.int .i64) := hI
    show codeT _ _ _ [(0, .box 0 33 (List.replicate 100 (.int .i64 0))), (1, .box 1 32 cells_c), (12, .val (.int .i64 t12))] _
    obtain ⟨i1, i2, rfl⟩ := hI
    refine code_seq (fun K5 hK5 => ?_)
    refine code_region ?_
    refine list_cons rfl (op_q (q_lt rfl rfl (by decide)) ?_)
    refine list_nil ?_
    refine hK5 _ ?_; clear hK5 K5
    refine code_seq (fun K6 hK6 => ?_)
    refine code_cond_d rfl (fun h1 => ?_) (fun h1 => ?_)
    · skip
      (try simp only [Decidable.not_not] at h1)
      refine code_skip ?_
      refine hK6 _ ?_; clear hK6 K6
      refine code_seq (fun K7 hK7 => ?_)
      refine code_block ?_
      refine code_seq (fun K8 hK8 => ?_)
      refine code_region ?_
      refine list_cons rfl (op_q (q_move rfl (by decide)) ?_)
      refine list_cons rfl (op_q (q_assign rfl (by decide)) ?_)
      refine list_nil ?_
      refine hK8 _ ?_; clear hK8 K8
      refine code_seq (fun K9 hK9 => ?_)
      refine code_region ?_
      refine list_cons rfl (op_q (q_move rfl (by decide)) ?_)
      refine list_cons rfl (op_call _ (impl_CellOf t12) rfl rfl (by decide) (by decide) (by decide) rfl ?_)
      rintro _ rfl; simp only [if_pos (show 0 ≤ t12 ∧ t12 ≤ 9 by omega), decide_eq_true (show 0 ≤ t12 ∧ t12 ≤ 9 by omega)]
      refine list_cons rfl (op_q (q_move rfl (by decide)) ?_)
      refine list_cons rfl (op_q (q_extract rfl rfl (by decide)) ?_)
      refine list_cons rfl (op_q (q_extract rfl rfl (by decide)) ?_)
      refine list_cons rfl (op_q (q_assign rfl (by decide)) ?_)
      refine list_cons rfl (op_q (q_assign rfl (by decide)) ?_)
      refine list_nil ?_
      refine hK9 _ ?_; clear hK9 K9
      refine codeT.imp (σ' := [(0, _), (1, _), (2, _), (3, _), (4, _), (12, _)]) ?_ (imp_covers ⟨rfl, rfl, rfl, rfl, rfl, rfl, trivial⟩)
      refine code_seq (fun K10 hK10 => ?_)
      refine code_region ?_
      refine list_cons rfl (op_q (q_move rfl (by decide)) ?_)
      refine list_nil ?_
      refine hK10 _ ?_; clear hK10 K10
      refine code_cond_t rfl ?_
      refine code_region ?_
      refine list_cons rfl (op_q (q_move rfl (by decide)) ?_)
      refine list_cons rfl (op_q (q_move rfl (by decide)) ?_)
      refine list_cons rfl (op_q (q_indexAddr_arr arr_32 rfl rfl rfl (by omega) (by omega) (by decide)) ?_)
      refine list_cons rfl (op_store (one_3).2 1 [1] (by intro t ht; simp only [List.mem_cons, List.not_mem_nil, or_false] at ht; subst ht; rfl) (.inl rfl) rfl rfl rfl rfl rfl rfl (by first | decide | omega | exact Nat.le_refl _ | (simp only [tabS, celS, filN_len, List.length_map]; omega) | (simp; done) | (simp; omega)) (by decide) rfl ?_)
      refine list_nil ?_
      refine blk_n ?_
      refine hK7 _ ?_; clear hK7 K7
      refine codeT.imp (σ' := [(0, _), (1, _), (2, _), (3, _), (4, _), (12, _)]) ?_ (imp_covers ⟨rfl, rfl, rfl, rfl, rfl, rfl, trivial⟩)
      refine code_region ?_
      refine list_cons rfl (op_q (by first | exact q_addI rfl rfl (by decide) (by omega) (by omega) | exact q_ib rfl rfl rfl (by decide)) ?_)
      refine list_cons rfl (op_q (q_move rfl (by decide)) ?_)
      refine list_nil ?_
      refine then_n ⟨(_, _), imp_covers ⟨rfl, rfl, rfl, trivial⟩, ?_, ?_⟩
      · (try dsimp only)
        refine ⟨by omega, by omega, ?_⟩
        rw [show (t12 + 1).toNat = t12.toNat + 1 by omega]
        exact filN_put 10 (fun d => digT.getD d 0) (by omega) (by omega) rfl
      · (try dsimp only); omega
    (try simp only [Decidable.not_not] at h1)
    refine code_exit ?_
    refine then_x ?_; clear hK6 K6
    refine then_x ?_
    refine blk_hit ?_
    refine hK3 _ ?_; clear hK3 K3
    refine code_seq (fun K11 hK11 => ?_)
    refine code_region ?_
    refine list_cons rfl (op_alloc zt_33 (by decide) (by decide) rfl ?_)
    refine list_nil ?_
    refine hK11 _ ?_; clear hK11 K11
    refine code_seq (fun K12 hK12 => ?_)
    refine code_seq (fun K13 hK13 => ?_)
    refine code_region ?_
    refine list_cons rfl (op_q (q_load_agg agg_32 1 (.inr ⟨rfl, _, rfl⟩) rfl rfl (by first | decide | omega | exact Nat.le_refl _ | (simp only [tabS, celS, filN_len, List.length_map]; omega) | (simp; done) | (simp; omega)) (by first | rfl | exact flat_part (flat_map _ (fun _ => rfl) _) _ _) (by decide)) ?_)
    refine list_cons rfl (op_q (q_move rfl (by decide)) ?_)
    refine list_nil ?_
    refine hK13 _ ?_; clear hK13 K13
    refine code_block ?_
    refine code_loop (X := List PV × List PV × Int × List PV × Int) (fun x => [(0, .box 0 33 (List.replicate 100 (.int .i64 0))), (1, .box 1 32 x.1), (5, .box 5 33 x.2.1), (12, .val (.int .i64 x.2.2.1)), (25, .val (.agg x.2.2.2.1)), (26, .val (.int .i64 x.2.2.2.2))]) (fun x => 0 ≤ x.2.2.2.2 ∧ x.2.2.2.2 ≤ 10 ∧ x.1 = (celS 10).map (.int .i64) ∧ x.2.1 = (tabS (x.2.2.2.2.toNat * 10)).map (.int .i64) ∧ x.2.2.2.1 = (celS 10).map (.int .i64)) (fun x => (10 - x.2.2.2.2).toNat) (_, _, _, _, _) (imp_covers ⟨rfl, rfl, rfl, rfl, rfl, rfl, trivial⟩) ?_ ?_
    · (try dsimp only)
      have e : t12.toNat = 10 := by omega
      rw [e]
      exact ⟨by omega, by omega, rfl, rfl, celS_all⟩
    · intro x hI
      obtain ⟨cells_c, table_c, t12, t25_a, t26⟩ := x
      replace hI : 0 ≤ t26 ∧ t26 ≤ 10 ∧ cells_c = (celS 10).map (.int .i64) ∧ table_c = (tabS (t26.toNat * 10)).map (.int .i64) ∧ t25_a = (celS 10).map (.int .i64) := hI
      show codeT _ _ _ [(0, .box 0 33 (List.replicate 100 (.int .i64 0))), (1, .box 1 32 cells_c), (5, .box 5 33 table_c), (12, .val (.int .i64 t12)), (25, .val (.agg t25_a)), (26, .val (.int .i64 t26))] _
      obtain ⟨k1, k2, rfl, rfl, rfl⟩ := hI
      refine code_seq (fun K14 hK14 => ?_)
      refine code_region ?_
      refine list_cons rfl (op_q (q_lt rfl rfl (by decide)) ?_)
      refine list_nil ?_
      refine hK14 _ ?_; clear hK14 K14
      refine code_seq (fun K15 hK15 => ?_)
      refine code_cond_d rfl (fun h2 => ?_) (fun h2 => ?_)
      · skip
        (try simp only [Decidable.not_not] at h2)
        refine code_skip ?_
        refine hK15 _ ?_; clear hK15 K15
        refine code_seq (fun K16 hK16 => ?_)
        refine code_block ?_
        refine code_seq (fun K17 hK17 => ?_)
        refine code_region ?_
        refine list_cons rfl (op_q (q_move rfl (by decide)) ?_)
        refine list_cons rfl (op_q (q_index_arr (size := 1) Tryd.underlying32 one_3.2 one_3 rfl rfl (by omega) (by omega) (celS_get (by omega)) (by decide) rfl) ?_)
        refine list_cons rfl (op_q (q_assign rfl (by decide)) ?_)
        refine list_cons rfl (op_q (q_assign rfl (by decide)) ?_)
        refine list_nil ?_
        refine hK17 _ ?_; clear hK17 K17
        refine code_seq (fun K18 hK18 => ?_)
        refine code_region ?_
        refine list_cons rfl (op_q (q_load_agg agg_32 1 (.inr ⟨rfl, _, rfl⟩) rfl rfl (by first | decide | omega | exact Nat.le_refl _ | (simp only [tabS, celS, filN_len, List.length_map]; omega) | (simp; done) | (simp; omega)) (by first | rfl | exact flat_part (flat_map _ (fun _ => rfl) _) _ _) (by decide)) ?_)
        refine list_cons rfl (op_q (q_move rfl (by decide)) ?_)
        refine list_nil ?_
        refine hK18 _ ?_; clear hK18 K18
        refine code_block ?_
        refine code_loop (X := List PV × Int × List PV × Int) (fun x => [(0, .box 0 33 (List.replicate 100 (.int .i64 0))), (1, .box 1 32 ((celS 10).map (.int .i64))), (5, .box 5 33 x.1), (6, .val (.int .i64 t26)), (7, .val (.int .i64 (digT.getD t26.toNat 0))), (12, .val (.int .i64 x.2.1)), (25, .val (.agg ((celS 10).map (.int .i64)))), (26, .val (.int .i64 t26)), (30, .val (.agg x.2.2.1)), (31, .val (.int .i64 x.2.2.2))]) (fun x => 0 ≤ x.2.2.2 ∧ x.2.2.2 ≤ 10 ∧ x.1 = (tabS (t26.toNat * 10 + x.2.2.2.toNat)).map (.int .i64) ∧ x.2.2.1 = (celS 10).map (.int .i64)) (fun x => (10 - x.2.2.2).toNat) (_, _, _, _) (imp_covers ⟨rfl, rfl, rfl, rfl, rfl, rfl, rfl, rfl, rfl, rfl, trivial⟩) ?_ ?_
        · (try dsimp only)
          exact ⟨by omega, by omega, rfl, celS_all⟩
        · intro x hI
          obtain ⟨table_c, t12, t30_a, t31⟩ := x
          replace hI : 0 ≤ t31 ∧ t31 ≤ 10 ∧ table_c = (tabS (t26.toNat * 10 + t31.toNat)).map (.int .i64) ∧ t30_a = (celS 10).map (.int .i64) := hI
          show codeT _ _ _ [(0, .box 0 33 (List.replicate 100 (.int .i64 0))), (1, .box 1 32 ((celS 10).map (.int .i64))), (5, .box 5 33 table_c), (6, .val (.int .i64 t26)), (7, .val (.int .i64 (digT.getD t26.toNat 0))), (12, .val (.int .i64 t12)), (25, .val (.agg ((celS 10).map (.int .i64)))), (26, .val (.int .i64 t26)), (30, .val (.agg t30_a)), (31, .val (.int .i64 t31))] _
          obtain ⟨j1, j2, rfl, rfl⟩ := hI
          have d1 := digT_cell t26.toNat
          have d2 := digT_cell t31.toNat
          refine code_seq (fun K19 hK19 => ?_)
          refine code_region ?_
          refine list_cons rfl (op_q (q_lt rfl rfl (by decide)) ?_)
          refine list_nil ?_
          refine hK19 _ ?_; clear hK19 K19
          refine code_seq (fun K20 hK20 => ?_)
          refine code_cond_d rfl (fun h3 => ?_) (fun h3 => ?_)
          · skip
            (try simp only [Decidable.not_not] at h3)
            refine code_skip ?_
            refine hK20 _ ?_; clear hK20 K20
            refine code_seq (fun K21 hK21 => ?_)
            refine code_block ?_
            refine code_seq (fun K22 hK22 => ?_)
            refine code_region ?_
            refine list_cons rfl (op_q (q_move rfl (by decide)) ?_)
            refine list_cons rfl (op_q (q_index_arr (size := 1) Tryd.underlying32 one_3.2 one_3 rfl rfl (by omega) (by omega) (celS_get (by omega)) (by decide) rfl) ?_)
            refine list_cons rfl (op_q (q_assign rfl (by decide)) ?_)
            refine list_cons rfl (op_q (q_assign rfl (by decide)) ?_)
            refine list_nil ?_
            refine hK22 _ ?_; clear hK22 K22
            refine code_seq (fun K23 hK23 => ?_)
            refine code_region ?_
            refine list_cons rfl (op_q (q_move rfl (by decide)) ?_)
            refine list_cons rfl (op_q (q_move rfl (by decide)) ?_)
            refine list_cons rfl (op_call _ (impl_FarCells _ _) rfl rfl (by decide) (by decide) (by decide) rfl ?_)
            rintro _ rfl; simp only [if_pos (show _ ∧ _ from ⟨d1, d2⟩), decide_eq_true (show _ ∧ _ from ⟨d1, d2⟩)]
            refine list_cons rfl (op_q (q_move rfl (by decide)) ?_)
            refine list_cons rfl (op_q (q_extract rfl rfl (by decide)) ?_)
            refine list_cons rfl (op_q (q_extract rfl rfl (by decide)) ?_)
            refine list_cons rfl (op_q (q_assign rfl (by decide)) ?_)
            refine list_cons rfl (op_q (q_assign rfl (by decide)) ?_)
            refine list_nil ?_
            refine hK23 _ ?_; clear hK23 K23
            refine codeT.imp (σ' := [(0, _), (1, _), (5, _), (6, _), (7, _), (8, _), (9, _), (10, _), (11, _), (12, _), (25, _), (26, _), (30, _), (31, _)]) ?_ (imp_covers ⟨rfl, rfl, rfl, rfl, rfl, rfl, rfl, rfl, rfl, rfl, rfl, rfl, rfl, rfl, trivial⟩)
            refine code_seq (fun K24 hK24 => ?_)
            refine code_region ?_
            refine list_cons rfl (op_q (q_move rfl (by decide)) ?_)
            refine list_nil ?_
            refine hK24 _ ?_; clear hK24 K24
            refine code_cond_t rfl ?_
            refine code_region ?_
            refine list_cons rfl (op_q (q_move rfl (by decide)) ?_)
            refine list_cons rfl (op_q (q_move rfl (by decide)) ?_)
            refine list_cons rfl (op_q (q_move rfl (by decide)) ?_)
            refine list_cons rfl (op_q (q_indexAddr_arr arr_33 rfl rfl rfl (by omega) (by omega) (by decide)) ?_)
            refine list_cons rfl (op_q (q_indexAddr_arr arr_32 rfl rfl rfl (by omega) (by omega) (by decide)) ?_)
            refine list_cons rfl (op_store (one_3).2 5 [5] (by intro t ht; simp only [List.mem_cons, List.not_mem_nil, or_false] at ht; subst ht; rfl) (.inl rfl) rfl rfl rfl rfl rfl rfl (by first | decide | omega | exact Nat.le_refl _ | (simp only [tabS, celS, filN_len, List.length_map]; omega) | (simp; done) | (simp; omega)) (by decide) rfl ?_)
            refine list_nil ?_
            refine blk_n ?_
            refine hK21 _ ?_; clear hK21 K21
            refine codeT.imp (σ' := [(0, _), (1, _), (5, _), (6, _), (7, _), (8, _), (9, _), (10, _), (11, _), (12, _), (25, _), (26, _), (30, _), (31, _)]) ?_ (imp_covers ⟨rfl, rfl, rfl, rfl, rfl, rfl, rfl, rfl, rfl, rfl, rfl, rfl, rfl, rfl, trivial⟩)
            refine code_region ?_
            refine list_cons rfl (op_q (by first | exact q_addI rfl rfl (by decide) (by omega) (by omega) | exact q_ib rfl rfl rfl (by decide)) ?_)
            refine list_cons rfl (op_q (q_move rfl (by decide)) ?_)
            refine list_nil ?_
            refine then_n ⟨(_, _, _, _), imp_covers ⟨rfl, rfl, rfl, rfl, rfl, rfl, rfl, rfl, rfl, rfl, trivial⟩, ?_, ?_⟩
            · (try dsimp only)
              refine ⟨by omega, by omega, ?_, rfl⟩
              rw [show (t31 + 1).toNat = t31.toNat + 1 by omega]
              exact filN_put 100 tabF (by omega) (by omega) (by unfold tabF; rw [show (t26.toNat * 10 + t31.toNat) / 10 = t26.toNat by omega, show (t26.toNat * 10 + t31.toNat) % 10 = t31.toNat by omega]; rfl)
            · (try dsimp only); omega
          (try simp only [Decidable.not_not] at h3)
          refine code_exit ?_
          refine then_x ?_; clear hK20 K20
          refine then_x ?_
          refine blk_hit ?_
          refine blk_n ?_
          refine hK16 _ ?_; clear hK16 K16
          refine code_region ?_
          refine list_cons rfl (op_q (by first | exact q_addI rfl rfl (by decide) (by omega) (by omega) | exact q_ib rfl rfl rfl (by decide)) ?_)
          refine list_cons rfl (op_q (q_move rfl (by decide)) ?_)
          refine list_nil ?_
          refine then_n ⟨(_, _, _, _, _), imp_covers ⟨rfl, rfl, rfl, rfl, rfl, rfl, trivial⟩, ?_, ?_⟩
          · (try dsimp only)
            exact ⟨by omega, by omega, rfl, by rw [show (t26 + 1).toNat * 10 = t26.toNat * 10 + t31.toNat by omega], rfl⟩
          · (try dsimp only); omega
      (try simp only [Decidable.not_not] at h2)
      refine code_exit ?_
      refine then_x ?_; clear hK15 K15
      refine then_x ?_
      refine blk_hit ?_
      refine hK12 _ ?_; clear hK12 K12
      refine code_seq (fun K25 hK25 => ?_)
      refine code_region ?_
      refine list_cons rfl (op_q (q_load_agg agg_33 5 (.inr ⟨rfl, _, rfl⟩) rfl rfl (by first | decide | omega | exact Nat.le_refl _ | (simp only [tabS, celS, filN_len, List.length_map]; omega) | (simp; done) | (simp; omega)) (by first | rfl | exact flat_part (flat_map _ (fun _ => rfl) _) _ _) (by decide)) ?_)
      refine list_cons rfl (op_store (agg_33).2 0 [0] (by intro t ht; simp only [List.mem_cons, List.not_mem_nil, or_false] at ht; subst ht; rfl) (.inr ⟨rfl, _, rfl⟩) rfl rfl rfl rfl (by first | rfl | exact flat_part (flat_map _ (fun _ => rfl) _) _ _ | exact flat_map _ (fun _ => rfl) _) (by first | rfl | (simp [PV.cells, tabS, filN_len]; done)) (by first | decide | omega | exact Nat.le_refl _ | (simp only [tabS, celS, filN_len, List.length_map]; omega) | (simp; done) | (simp; omega)) (by decide) rfl ?_)
      refine list_nil ?_
      refine hK25 _ ?_; clear hK25 K25
      refine codeT.imp (σ' := [(0, _), (1, _), (5, _), (12, _), (25, _), (26, _)]) ?_ (imp_covers ⟨rfl, rfl, rfl, rfl, rfl, rfl, trivial⟩)
      refine code_ret ?_
      refine ends_ret (cs := []) (res_agg1 (cs := (tabS 100).map (.int .i64)) (congrArg (fun z => some (SV.box 0 33 z)) (by rw [show t26.toNat * 10 = 100 by omega]; exact put_all (n := 100) (by simp) (by simp [tabS, filN_len]))) rfl (flat_map _ (fun _ => rfl) _) (by simp [tabS, filN_len]; rfl)) rfl rfl rfl trivial ?_
      rfl
set_option maxRecDepth 20000 in
set_option maxHeartbeats 2000000 in
theorem impl_NearestDigits (digit : Int) : PCalls Tryd.prog 18 [.int .i64 digit] (· = [.own 0 3 1 (if 0 ≤ digit ∧ digit ≤ 9 then (nearK digit.toNat 8 10).1 else []).length ((if 0 ≤ digit ∧ digit ≤ 9 then (nearK digit.toNat 8 10).1 else []).map (.int .i64)), .val (.int .i64 (if 0 ≤ digit ∧ digit ≤ 9 then (nearK digit.toNat 8 10).2 else 0)), .val (.bool (decide (0 ≤ digit ∧ digit ≤ 9)))]) := by
  refine pcalls_of_code (n := 46) az Tryd.func18 (by kernel_rfl) rfl rfl (Nat.le_of_ble_eq_true rfl) (by intro t u h; simp [Tryd.f18] at h) ?_
  refine code_seq (fun K1 hK1 => ?_)
  refine code_region ?_
  refine list_cons rfl (op_q (q_assign rfl (by decide)) ?_)
  refine list_cons rfl (op_q (q_assign rfl (by decide)) ?_)
  refine list_cons rfl (op_q (q_assign rfl (by decide)) ?_)
  refine list_nil ?_
  refine hK1 _ ?_; clear hK1 K1
  refine code_seq (fun K2 hK2 => ?_)
  refine code_region ?_
  refine list_cons rfl (op_call _ (impl_ChangeTable) rfl rfl (by decide) (by decide) (by decide) rfl ?_)
  rintro _ rfl
  refine list_cons rfl (op_alloc zt_33 (by decide) (by decide) rfl ?_)
  refine list_cons rfl (op_store (agg_33).2 5 [5] (by intro t ht; simp only [List.mem_cons, List.not_mem_nil, or_false] at ht; subst ht; rfl) (.inr ⟨rfl, _, rfl⟩) rfl rfl rfl rfl (by first | rfl | exact flat_part (flat_map _ (fun _ => rfl) _) _ _ | exact flat_map _ (fun _ => rfl) _) (by first | rfl | (simp [PV.cells, tabS, filN_len]; done)) (by simp [PV.cells]; done) (by decide) rfl ?_)
  refine list_nil ?_
  refine hK2 _ ?_; clear hK2 K2
  refine codeT.imp (σ' := [(0, _), (2, _), (3, _), (4, _), (5, .box 5 33 ((tabS 100).map (.int .i64)))]) ?_ (imp_covers ⟨rfl, rfl, rfl, rfl, (congrArg (fun z => some (SV.box 5 33 z)) (put_new (n := 100) (by rfl) (by simp [tabS, filN_len]))), trivial⟩)
  refine code_seq (fun K3 hK3 => ?_)
  refine code_seq (fun K4 hK4 => ?_)
  refine code_region ?_
  refine list_cons rfl (op_q (q_move rfl (by decide)) ?_)
  refine list_cons rfl (op_q (q_lt rfl rfl (by decide)) ?_)
  refine list_cons rfl (op_q (q_move rfl (by decide)) ?_)
  refine list_guard_d rfl rfl rfl rfl (by decide) rfl (by decide) (fun h1 => ?_) (fun h1 => ?_)
  · simp only [Bool.false_eq_true, if_true, if_false, Decidable.not_not] at h1
    refine id (op_q (q_move rfl (by decide)) ?_)
    refine list_guard_y rfl rfl rfl rfl (by decide) rfl ?_
    refine id (op_q (q_ge rfl rfl (by decide)) ?_)
    refine list_cons rfl (op_q (q_pick rfl rfl (by decide)) ?_)
    refine list_nil ?_
    refine hK4 _ ?_; clear hK4 K4
    refine code_cond_d rfl (fun h2 => ?_) (fun h2 => ?_)
    · skip
      (try simp only [Decidable.not_not] at h2)
      refine code_seq (fun K5 hK5 => ?_)
      refine code_region ?_
      refine list_cons rfl (op_buildSlice sl_24 (parts := []) rfl rfl rfl (by decide) (by decide) (by decide) rfl ?_)
      refine list_cons rfl (op_q (q_assign rfl (by decide)) ?_)
      refine list_cons rfl (op_q (q_assign rfl (by decide)) ?_)
      refine list_cons rfl (op_q (q_assign rfl (by decide)) ?_)
      refine list_nil ?_
      refine hK5 _ ?_; clear hK5 K5
      refine codeT.imp (σ' := [(0, _), (2, _), (3, _), (4, _), (5, _)]) ?_ (imp_covers ⟨rfl, rfl, rfl, rfl, rfl, trivial⟩)
      refine code_ret ?_
      refine then_r ?_; clear hK3 K3
      refine ends_ret (cs := []) rfl rfl rfl rfl trivial ?_
      first
        | (have e : ¬ (0 ≤ digit ∧ digit ≤ 9) := by omega
           simp only [if_neg e, decide_eq_false e]; rfl)
        | (have e : 0 ≤ digit ∧ digit ≤ 9 := ⟨g1, g2⟩
           have e2 : nearK digit.toNat 8 10 = (l, fewest) := by rw [← near_87 _ (by omega), hk, show t22.toNat = 10 by omega]
           simp only [if_pos e, decide_eq_true e, e2])
    (try simp only [Decidable.not_not] at h2)
    refine code_skip ?_
    refine hK3 _ ?_; clear hK3 K3
    refine code_seq (fun K6 hK6 => ?_)
    refine code_region ?_
    refine list_cons rfl (op_buildSlice sl_24 (parts := []) rfl rfl rfl (by decide) (by decide) (by decide) rfl ?_)
    refine list_cons rfl (op_q (q_assign rfl (by decide)) ?_)
    refine list_cons rfl (op_q (q_assign rfl (by decide)) ?_)
    refine list_nil ?_
    refine hK6 _ ?_; clear hK6 K6
    refine codeT.imp (σ' := [(0, _), (2, _), (3, _), (4, _), (5, _), (6, _), (7, _)]) ?_ (imp_covers ⟨rfl, rfl, rfl, rfl, rfl, rfl, rfl, trivial⟩)
    refine code_seq (fun K7 hK7 => ?_)
    refine code_seq (fun K8 hK8 => ?_)
    refine code_region ?_
    refine list_cons rfl (op_q (q_move rfl (by decide)) ?_)
    refine list_cons rfl (op_q (q_indexAddr_arr arr_33 rfl rfl rfl (by omega) (by omega) (by decide)) ?_)
    refine list_cons rfl (op_q (q_load_agg agg_32 5 (.inl rfl) rfl rfl (by simp [PV.cells, tabS, filN_len]; omega) (by first | rfl | exact flat_part (flat_map _ (fun _ => rfl) _) _ _) (by decide)) ?_)
    refine list_cons rfl (op_q (q_move rfl (by decide)) ?_)
    refine list_nil ?_
    refine hK8 _ ?_; clear hK8 K8
    refine code_block ?_
    refine code_loop (X := PV × Int × Bool × List PV × Nat × List PV × Int × List PV × Int) (fun x => [(0, .val (.int .i64 digit)), (2, .val x.1), (3, .val (.int .i64 x.2.1)), (4, .val (.bool x.2.2.1)), (5, .box 5 33 x.2.2.2.1), (6, .own 18 3 1 x.2.2.2.2.1 x.2.2.2.2.2.1), (7, .val (.int .i64 x.2.2.2.2.2.2.1)), (21, .val (.agg x.2.2.2.2.2.2.2.1)), (22, .val (.int .i64 x.2.2.2.2.2.2.2.2))]) (fun x => 0 ≤ x.2.2.2.2.2.2.2.2 ∧ x.2.2.2.2.2.2.2.2 ≤ 10 ∧ 0 ≤ digit ∧ digit ≤ 9 ∧ x.2.2.2.2.2.2.2.1 = (((tabS 100).map (PV.int .i64)).drop (digit.toNat * 10)).take 10 ∧ ∃ l : List Int, x.2.2.2.2.1 = l.length ∧ x.2.2.2.2.2.1 = l.map (.int .i64) ∧ (l, x.2.2.2.2.2.2.1) = nearK digit.toNat 7 x.2.2.2.2.2.2.2.2.toNat) (fun x => (10 - x.2.2.2.2.2.2.2.2).toNat) (_, _, _, _, _, _, _, _, _) (imp_covers ⟨rfl, rfl, rfl, rfl, rfl, rfl, rfl, rfl, rfl, trivial⟩) ?_ ?_
    · (try dsimp only)
      exact ⟨by omega, by omega, by omega, by omega, rfl, [], rfl, rfl, rfl⟩
    · intro x hI
      obtain ⟨t2_p, t3, t4, table_c, nearest_n, nearest_c, fewest, t21_a, t22⟩ := x
      replace hI : 0 ≤ t22 ∧ t22 ≤ 10 ∧ 0 ≤ digit ∧ digit ≤ 9 ∧ t21_a = (((tabS 100).map (PV.int .i64)).drop (digit.toNat * 10)).take 10 ∧ ∃ l : List Int, nearest_n = l.length ∧ nearest_c = l.map (.int .i64) ∧ (l, fewest) = nearK digit.toNat 7 t22.toNat := hI
      show codeT _ _ _ [(0, .val (.int .i64 digit)), (2, .val t2_p), (3, .val (.int .i64 t3)), (4, .val (.bool t4)), (5, .box 5 33 table_c), (6, .own 18 3 1 nearest_n nearest_c), (7, .val (.int .i64 fewest)), (21, .val (.agg t21_a)), (22, .val (.int .i64 t22))] _
      obtain ⟨i1, i2, g1, g2, rfl, l, rfl, rfl, hk⟩ := hI
      have hd : ((t22.toNat : Nat) : Int) = t22 := Int.toNat_of_nonneg i1
      have hn := nearK_le digit.toNat (m := 7) (by omega) t22.toNat
      rw [← hk] at hn
      simp only [] at hn
      have hdl := dgt_le digit.toNat t22.toNat
      refine code_seq (fun K9 hK9 => ?_)
      refine code_region ?_
      refine list_cons rfl (op_q (q_lt rfl rfl (by decide)) ?_)
      refine list_nil ?_
      refine hK9 _ ?_; clear hK9 K9
      refine code_seq (fun K10 hK10 => ?_)
      refine code_cond_d rfl (fun h3 => ?_) (fun h3 => ?_)
      · skip
        (try simp only [Decidable.not_not] at h3)
        refine code_skip ?_
        refine hK10 _ ?_; clear hK10 K10
        refine code_seq (fun K11 hK11 => ?_)
        refine code_block ?_
        refine code_seq (fun K12 hK12 => ?_)
        refine code_region ?_
        refine list_cons rfl (op_q (q_move rfl (by decide)) ?_)
        refine list_cons rfl (op_q (q_index_arr (size := 1) Tryd.underlying32 one_3.2 one_3 rfl rfl (by omega) (by omega) (row_get (by omega) (by omega)) (by decide) rfl) ?_)
        refine list_cons rfl (op_q (q_assign rfl (by decide)) ?_)
        refine list_cons rfl (op_q (q_assign rfl (by decide)) ?_)
        refine list_nil ?_
        refine hK12 _ ?_; clear hK12 K12
        refine code_seq (fun K13 hK13 => ?_)
        refine code_seq (fun K14 hK14 => ?_)
        refine code_region ?_
        refine list_cons rfl (op_q (q_move rfl (by decide)) ?_)
        refine list_cons rfl (op_q (q_move rfl (by decide)) ?_)
        refine list_cons rfl (op_q (q_eq rfl rfl (by decide)) ?_)
        refine list_cons rfl (op_q (q_move rfl (by decide)) ?_)
        refine list_guard_d rfl rfl rfl rfl (by decide) rfl (by decide) (fun h4 => ?_) (fun h4 => ?_)
        · simp only [Bool.false_eq_true, if_true, if_false, Decidable.not_not] at h4
          refine id (op_q (q_move rfl (by decide)) ?_)
          refine list_guard_y rfl rfl rfl rfl (by decide) rfl ?_
          refine id (op_q (q_move rfl (by decide)) ?_)
          refine list_guard_y rfl rfl rfl rfl (by decide) rfl ?_
          refine id (op_q (q_gt rfl rfl (by decide)) ?_)
          refine list_cons rfl (op_q (q_pick rfl rfl (by decide)) ?_)
          refine list_nil ?_
          refine hK14 _ ?_; clear hK14 K14
          refine codeT.imp (σ' := [(0, _), (2, _), (3, _), (4, _), (5, _), (6, _), (7, _), (8, _), (9, _), (21, _), (22, _), (33, _)]) ?_ (imp_covers ⟨rfl, rfl, rfl, rfl, rfl, rfl, rfl, rfl, rfl, rfl, rfl, rfl, trivial⟩)
          refine code_cond_d rfl (fun h5 => ?_) (fun h5 => ?_)
          · skip
            (try simp only [Decidable.not_not] at h5)
            refine code_exit ?_
            refine then_x ?_; clear hK13 K13
            refine blk_hit ?_
            refine hK11 _ ?_; clear hK11 K11
            refine code_region ?_
            refine list_cons rfl (op_q (by first | exact q_addI rfl rfl (by decide) (by omega) (by omega) | exact q_ib rfl rfl rfl (by decide)) ?_)
            refine list_cons rfl (op_q (q_move rfl (by decide)) ?_)
            refine list_nil ?_
            refine then_n ⟨(_, _, _, _, _, _, _, _, _), imp_covers ⟨rfl, rfl, rfl, rfl, rfl, rfl, rfl, rfl, rfl, trivial⟩, ?_, ?_⟩
            · (try dsimp only)
              refine ⟨by omega, by omega, g1, g2, rfl, l, rfl, rfl, ?_⟩
              rw [show (t22 + 1).toNat = t22.toNat + 1 by omega, nearK, ← hk]
              unfold near1
              simp only [hd]
              first
                | (rw [if_pos (by omega)]; done)
                | (rw [if_neg (by omega), if_pos (by omega)]; done)
                | (rw [if_neg (by omega), if_pos (by omega)]; rfl)
                | (rw [if_neg (by omega), if_neg (by omega)]; done)
            · (try dsimp only); omega
          (try simp only [Decidable.not_not] at h5)
          refine code_skip ?_
          refine hK13 _ ?_; clear hK13 K13
          refine code_seq (fun K15 hK15 => ?_)
          refine code_seq (fun K16 hK16 => ?_)
          refine code_region ?_
          refine list_cons rfl (op_q (q_move rfl (by decide)) ?_)
          refine list_cons rfl (op_q (q_move rfl (by decide)) ?_)
          refine list_cons rfl (op_q (q_lt rfl rfl (by decide)) ?_)
          refine list_nil ?_
          refine hK16 _ ?_; clear hK16 K16
          refine code_cond_d rfl (fun h6 => ?_) (fun h6 => ?_)
          · skip
            (try simp only [Decidable.not_not] at h6)
            refine code_region ?_
            refine list_cons rfl (op_buildSlice sl_24 (parts := []) rfl rfl rfl (by decide) (by decide) (by decide) rfl ?_)
            refine list_cons rfl (op_q (q_move rfl (by decide)) ?_)
            refine list_cons rfl (op_q (q_assign rfl (by decide)) ?_)
            refine list_cons rfl (op_q (q_assign rfl (by decide)) ?_)
            refine list_nil ?_
            refine hK15 _ ?_; clear hK15 K15
            refine code_region ?_
            refine list_cons rfl (op_q (q_move rfl (by decide)) ?_)
            refine list_cons rfl (op_q (q_move rfl (by decide)) ?_)
            refine list_cons rfl (op_buildSlice sl_24 (parts := [(0, .tmp 40)]) rfl rfl rfl (by decide) (by decide) (by decide) rfl ?_)
            refine list_cons rfl (op_append_gen sl_24 (l := 37) (.inl rfl) rfl rfl (l2 := none) (.inl ⟨rfl, (by first | rfl | exact flat_map _ (fun _ => rfl) _)⟩) (by first | rfl | simp | omega) (by omega) (by decide) (by decide) (by decide) ?_)
            refine list_cons rfl (op_q (q_assign rfl (by decide)) ?_)
            refine list_nil ?_
            refine blk_n ?_
            refine hK11 _ ?_; clear hK11 K11
            refine codeT.imp (σ' := [(0, _), (2, _), (3, _), (4, _), (5, _), (6, _), (7, _), (8, _), (9, _), (21, _), (22, _)]) ?_ (imp_covers ⟨rfl, rfl, rfl, rfl, rfl, rfl, rfl, rfl, rfl, rfl, rfl, trivial⟩)
            refine code_region ?_
            refine list_cons rfl (op_q (by first | exact q_addI rfl rfl (by decide) (by omega) (by omega) | exact q_ib rfl rfl rfl (by decide)) ?_)
            refine list_cons rfl (op_q (q_move rfl (by decide)) ?_)
            refine list_nil ?_
            refine then_n ⟨(_, _, _, _, _, _, _, _, _), (imp_covers (σ' := [(0, _), (2, _), (3, _), (4, _), (5, _), (6, _), (7, _), (21, _), (22, _)]) ⟨rfl, rfl, rfl, rfl, rfl, rfl, rfl, rfl, rfl, trivial⟩).trans ((imp_ren 37 18 (by decide) (by decide) rfl).trans (imp_covers ⟨rfl, rfl, rfl, rfl, rfl, rfl, rfl, rfl, rfl, trivial⟩)), ?_, ?_⟩
            · (try dsimp only)
              refine ⟨by omega, by omega, g1, g2, rfl, [t22], rfl, rfl, ?_⟩
              rw [show (t22 + 1).toNat = t22.toNat + 1 by omega, nearK, ← hk]
              unfold near1
              simp only [hd]
              first
                | (rw [if_pos (by omega)]; done)
                | (rw [if_neg (by omega), if_pos (by omega)]; done)
                | (rw [if_neg (by omega), if_pos (by omega)]; rfl)
                | (rw [if_neg (by omega), if_neg (by omega)]; done)
            · (try dsimp only); omega
          (try simp only [Decidable.not_not] at h6)
          refine code_skip ?_
          refine hK15 _ ?_; clear hK15 K15
          refine code_region ?_
          refine list_cons rfl (op_q (q_move rfl (by decide)) ?_)
          refine list_cons rfl (op_q (q_move rfl (by decide)) ?_)
          refine list_cons rfl (op_buildSlice sl_24 (parts := [(0, .tmp 40)]) rfl rfl rfl (by decide) (by decide) (by decide) rfl ?_)
          refine list_cons rfl (op_append_gen sl_24 (l := 18) (.inl rfl) rfl rfl (l2 := none) (.inl ⟨rfl, (by first | rfl | exact flat_map _ (fun _ => rfl) _)⟩) (by first | rfl | simp | omega) (by omega) (by decide) (by decide) (by decide) ?_)
          refine list_cons rfl (op_q (q_assign rfl (by decide)) ?_)
          refine list_nil ?_
          refine blk_n ?_
          refine hK11 _ ?_; clear hK11 K11
          refine codeT.imp (σ' := [(0, _), (2, _), (3, _), (4, _), (5, _), (6, _), (7, _), (8, _), (9, _), (21, _), (22, _)]) ?_ (imp_covers ⟨rfl, rfl, rfl, rfl, rfl, rfl, rfl, rfl, rfl, rfl, rfl, trivial⟩)
          refine code_region ?_
          refine list_cons rfl (op_q (by first | exact q_addI rfl rfl (by decide) (by omega) (by omega) | exact q_ib rfl rfl rfl (by decide)) ?_)
          refine list_cons rfl (op_q (q_move rfl (by decide)) ?_)
          refine list_nil ?_
          refine then_n ⟨(_, _, _, _, _, _, _, _, _), imp_covers ⟨rfl, rfl, rfl, rfl, rfl, rfl, rfl, rfl, rfl, trivial⟩, ?_, ?_⟩
          · (try dsimp only)
            refine ⟨by omega, by omega, g1, g2, rfl, l ++ [t22], by simp, by simp; rfl, ?_⟩
            rw [show (t22 + 1).toNat = t22.toNat + 1 by omega, nearK, ← hk]
            unfold near1
            simp only [hd]
            first
              | (rw [if_pos (by omega)]; done)
              | (rw [if_neg (by omega), if_pos (by omega)]; done)
              | (rw [if_neg (by omega), if_pos (by omega)]; rfl)
              | (rw [if_neg (by omega), if_neg (by omega)]; done)
          · (try dsimp only); omega
        simp only [Bool.false_eq_true, if_true, if_false, Decidable.not_not] at h4
        refine list_guard_n rfl rfl rfl rfl (by decide) rfl ?_
        refine list_guard_n rfl rfl rfl rfl (by decide) rfl ?_
        refine list_cons rfl (op_q (q_pick rfl rfl (by decide)) ?_)
        refine list_nil ?_
        refine hK14 _ ?_; clear hK14 K14
        refine codeT.imp (σ' := [(0, _), (2, _), (3, _), (4, _), (5, _), (6, _), (7, _), (8, _), (9, _), (21, _), (22, _), (33, _)]) ?_ (imp_covers ⟨rfl, rfl, rfl, rfl, rfl, rfl, rfl, rfl, rfl, rfl, rfl, rfl, trivial⟩)
        refine code_cond_t rfl ?_
        refine code_exit ?_
        refine then_x ?_; clear hK13 K13
        refine blk_hit ?_
        refine hK11 _ ?_; clear hK11 K11
        refine code_region ?_
        refine list_cons rfl (op_q (by first | exact q_addI rfl rfl (by decide) (by omega) (by omega) | exact q_ib rfl rfl rfl (by decide)) ?_)
        refine list_cons rfl (op_q (q_move rfl (by decide)) ?_)
        refine list_nil ?_
        refine then_n ⟨(_, _, _, _, _, _, _, _, _), imp_covers ⟨rfl, rfl, rfl, rfl, rfl, rfl, rfl, rfl, rfl, trivial⟩, ?_, ?_⟩
        · (try dsimp only)
          refine ⟨by omega, by omega, g1, g2, rfl, l, rfl, rfl, ?_⟩
          rw [show (t22 + 1).toNat = t22.toNat + 1 by omega, nearK, ← hk]
          unfold near1
          simp only [hd]
          first
            | (rw [if_pos (by omega)]; done)
            | (rw [if_neg (by omega), if_pos (by omega)]; done)
            | (rw [if_neg (by omega), if_pos (by omega)]; rfl)
            | (rw [if_neg (by omega), if_neg (by omega)]; done)
        · (try dsimp only); omega
      (try simp only [Decidable.not_not] at h3)
      refine code_exit ?_
      refine then_x ?_; clear hK10 K10
      refine then_x ?_
      refine blk_hit ?_
      refine hK7 _ ?_; clear hK7 K7
      refine code_seq (fun K17 hK17 => ?_)
      refine code_region ?_
      refine list_cons rfl (op_q (q_move rfl (by decide)) ?_)
      refine list_cons rfl (op_q (q_move rfl (by decide)) ?_)
      refine list_cons rfl (op_q (q_assign rfl (by decide)) ?_)
      refine list_cons rfl (op_q (q_assign rfl (by decide)) ?_)
      refine list_cons rfl (op_q (q_assign rfl (by decide)) ?_)
      refine list_nil ?_
      refine hK17 _ ?_; clear hK17 K17
      refine code_ret ?_
      refine ends_ret (cs := []) rfl rfl rfl rfl trivial ?_
      first
        | (have e : ¬ (0 ≤ digit ∧ digit ≤ 9) := by omega
           simp only [if_neg e, decide_eq_false e]; rfl)
        | (have e : 0 ≤ digit ∧ digit ≤ 9 := ⟨g1, g2⟩
           have e2 : nearK digit.toNat 8 10 = (l, fewest) := by rw [← near_87 _ (by omega), hk, show t22.toNat = 10 by omega]
           simp only [if_pos e, decide_eq_true e, e2])
  simp only [Bool.false_eq_true, if_true, if_false, Decidable.not_not] at h1
  refine list_guard_n rfl rfl rfl rfl (by decide) rfl ?_
  refine list_cons rfl (op_q (q_pick rfl rfl (by decide)) ?_)
  refine list_nil ?_
  refine hK4 _ ?_; clear hK4 K4
  refine code_cond_t rfl ?_
  refine code_seq (fun K18 hK18 => ?_)
  refine code_region ?_
  refine list_cons rfl (op_buildSlice sl_24 (parts := []) rfl rfl rfl (by decide) (by decide) (by decide) rfl ?_)
  refine list_cons rfl (op_q (q_assign rfl (by decide)) ?_)
  refine list_cons rfl (op_q (q_assign rfl (by decide)) ?_)
  refine list_cons rfl (op_q (q_assign rfl (by decide)) ?_)
  refine list_nil ?_
  refine hK18 _ ?_; clear hK18 K18
  refine code_ret ?_
  refine then_r ?_; clear hK3 K3
  refine ends_ret (cs := []) rfl rfl rfl rfl trivial ?_
  first
    | (have e : ¬ (0 ≤ digit ∧ digit ≤ 9) := by omega
       simp only [if_neg e, decide_eq_false e]; rfl)
    | (have e : 0 ≤ digit ∧ digit ≤ 9 := ⟨g1, g2⟩
       have e2 : nearK digit.toNat 8 10 = (l, fewest) := by rw [← near_87 _ (by omega), hk, show t22.toNat = 10 by omega]
       simp only [if_pos e, decide_eq_true e, e2])
set_option maxRecDepth 4000 in
set_option maxHeartbeats 1000000 in
theorem impl_withBars (l : List Int) (c m : Int) (hl : l.length = 7) (hm : ∀ j, 0 ≤ l.getD j 0 ∧ l.getD j 0 ≤ m) (hm2 : m ≤ 1099511627776) (hc : 0 ≤ c ∧ c ≤ 127) : PCalls Tryd.prog 36 [.agg (l.map (.int .i64)), .int .i64 c] (· = [.val (.agg ((wbK l c.toNat 7).map (.int .i64)))]) := by
  refine pcalls_of_code (n := 19) az Tryd.func36 (by kernel_rfl) rfl rfl (Nat.le_of_ble_eq_true rfl) (by intro t u h; simp [Tryd.f36] at h; obtain ⟨_, rfl⟩ := h <;> first | exact resTy_agg agg_35 (by decide)) ?_
  have hfl := flat_map (PV.int .i64) (fun _ => rfl) l
  rw [show inits false 0 [.agg (l.map (.int .i64)), .int .i64 c] = [(0, SV.val (.agg (l.map (.int .i64)))), (1, SV.val (.int .i64 c))] from by simp [inits, PV.start, PV.flat, hfl]]
  refine code_seq (fun K1 hK1 => ?_)
  refine code_region ?_
  refine list_cons rfl (op_box rfl (.inl ⟨rfl, hfl⟩) (by decide) (by decide) rfl ?_)
  refine list_cons rfl (op_alloc zt_35 (by decide) (by decide) rfl ?_)
  refine list_nil ?_
  refine hK1 _ ?_; clear hK1 K1
  refine code_seq (fun K2 hK2 => ?_)
  refine code_seq (fun K3 hK3 => ?_)
  refine code_region ?_
  refine list_cons rfl (op_q (q_move rfl (by decide)) ?_)
  refine list_nil ?_
  refine hK3 _ ?_; clear hK3 K3
  refine code_block ?_
  refine code_loop (X := List PV × Int) (fun x => [(0, .val (.agg (l.map (.int .i64)))), (1, .val (.int .i64 c)), (2, .box 2 35 x.1), (4, .box 4 35 (List.replicate 7 (.int .i64 0))), (6, .val (.int .i64 x.2))]) (fun x => 0 ≤ x.2 ∧ x.2 ≤ 7 ∧ x.1 = (wbK l c.toNat x.2.toNat).map (.int .i64)) (fun x => (7 - x.2).toNat) (_, _) (imp_covers ⟨rfl, rfl, rfl, rfl, rfl, trivial⟩) ?_ ?_
  · (try dsimp only)
    exact ⟨by omega, by omega, rfl⟩
  · intro x hI
    obtain ⟨counts_2_c, t6⟩ := x
    replace hI : 0 ≤ t6 ∧ t6 ≤ 7 ∧ counts_2_c = (wbK l c.toNat t6.toNat).map (.int .i64) := hI
    show codeT _ _ _ [(0, .val (.agg (l.map (.int .i64)))), (1, .val (.int .i64 c)), (2, .box 2 35 counts_2_c), (4, .box 4 35 (List.replicate 7 (.int .i64 0))), (6, .val (.int .i64 t6))] _
    obtain ⟨i1, i2, rfl⟩ := hI
    have hle := wbK_le l c.toNat hm t6.toNat t6.toNat
    refine code_seq (fun K4 hK4 => ?_)
    refine code_region ?_
    refine list_cons rfl (op_q (q_lt rfl rfl (by decide)) ?_)
    refine list_nil ?_
    refine hK4 _ ?_; clear hK4 K4
    refine code_seq (fun K5 hK5 => ?_)
    refine code_cond_d rfl (fun h1 => ?_) (fun h1 => ?_)
    · skip
      (try simp only [Decidable.not_not] at h1)
      refine code_skip ?_
      refine hK5 _ ?_; clear hK5 K5
      refine code_seq (fun K6 hK6 => ?_)
      refine code_block ?_
      refine code_seq (fun K7 hK7 => ?_)
      refine code_region ?_
      refine list_cons rfl (op_q (q_move rfl (by decide)) ?_)
      refine list_cons rfl (op_q (q_assign rfl (by decide)) ?_)
      refine list_nil ?_
      refine hK7 _ ?_; clear hK7 K7
      refine code_seq (fun K8 hK8 => ?_)
      refine code_region ?_
      refine list_cons rfl (op_q (q_move rfl (by decide)) ?_)
      refine list_cons rfl (op_q (q_move rfl (by decide)) ?_)
      refine list_cons rfl (op_call _ (impl_hasBar _ _ (by omega) (by omega)) rfl rfl (by decide) (by decide) (by decide) rfl ?_)
      rintro _ rfl
      refine list_nil ?_
      refine hK8 _ ?_; clear hK8 K8
      refine codeT.imp (σ' := [(0, _), (1, _), (2, _), (4, _), (5, _), (6, _), (11, _)]) ?_ (imp_covers ⟨rfl, rfl, rfl, rfl, rfl, rfl, rfl, trivial⟩)
      refine code_cond_d rfl (fun h2 => ?_) (fun h2 => ?_)
      · skip
        (try simp only [Decidable.not_not] at h2)
        refine code_region ?_
        refine list_cons rfl (op_q (q_move rfl (by decide)) ?_)
        refine list_cons rfl (op_q (q_indexAddr_arr arr_35 rfl rfl rfl (by omega) (by omega) (by decide)) ?_)
        refine list_cons rfl (op_q (q_load one_3 2 rfl rfl rfl (by first | exact get_map1 (PV.int .i64) 0 (wbK l c.toNat t6.toNat) (by rw [wbK_len]; omega) | (simp only [wbK_len, List.length_map]; omega)) (by decide)) ?_)
        refine list_cons rfl (op_q (by first | exact q_addI rfl rfl (by decide) (by omega) (by omega) | exact q_ib rfl rfl rfl (by decide)) ?_)
        refine list_cons rfl (op_q (q_indexAddr_arr arr_35 rfl rfl rfl (by omega) (by omega) (by decide)) ?_)
        refine list_cons rfl (op_store (one_3).2 2 [2] (by intro t ht; simp only [List.mem_cons, List.not_mem_nil, or_false] at ht; subst ht; rfl) (.inl rfl) rfl rfl rfl rfl rfl rfl (by first | decide | omega | exact Nat.le_refl _ | (simp only [wbK_len, List.length_map]; omega) | (simp; done) | (simp; omega)) (by decide) rfl ?_)
        refine list_nil ?_
        refine blk_n ?_
        refine hK6 _ ?_; clear hK6 K6
        refine codeT.imp (σ' := [(0, _), (1, _), (2, _), (4, _), (5, _), (6, _)]) ?_ (imp_covers ⟨rfl, rfl, rfl, rfl, rfl, rfl, trivial⟩)
        refine code_region ?_
        refine list_cons rfl (op_q (by first | exact q_addI rfl rfl (by decide) (by omega) (by omega) | exact q_ib rfl rfl rfl (by decide)) ?_)
        refine list_cons rfl (op_q (q_move rfl (by decide)) ?_)
        refine list_nil ?_
        refine then_n ⟨(_, _), imp_covers ⟨rfl, rfl, rfl, rfl, rfl, trivial⟩, ?_, ?_⟩
        · (try dsimp only)
          refine ⟨by omega, by omega, ?_⟩
          rw [show (t6 + 1).toNat = t6.toNat + 1 by omega]
          exact wbK_put (by omega) (by omega) h2 rfl
        · (try dsimp only); omega
      (try simp only [Decidable.not_not] at h2)
      refine code_skip ?_
      refine blk_n ?_
      refine hK6 _ ?_; clear hK6 K6
      refine code_region ?_
      refine list_cons rfl (op_q (by first | exact q_addI rfl rfl (by decide) (by omega) (by omega) | exact q_ib rfl rfl rfl (by decide)) ?_)
      refine list_cons rfl (op_q (q_move rfl (by decide)) ?_)
      refine list_nil ?_
      refine then_n ⟨(_, _), imp_covers ⟨rfl, rfl, rfl, rfl, rfl, trivial⟩, ?_, ?_⟩
      · (try dsimp only)
        refine ⟨by omega, by omega, ?_⟩
        rw [show (t6 + 1).toNat = t6.toNat + 1 by omega, wbK, if_neg h2]
      · (try dsimp only); omega
    (try simp only [Decidable.not_not] at h1)
    refine code_exit ?_
    refine then_x ?_; clear hK5 K5
    refine then_x ?_
    refine blk_hit ?_
    refine hK2 _ ?_; clear hK2 K2
    refine code_seq (fun K9 hK9 => ?_)
    refine code_region ?_
    refine list_cons rfl (op_q (q_load_agg agg_35 2 (.inr ⟨rfl, _, rfl⟩) rfl rfl (by first | exact get_map1 (PV.int .i64) 0 (wbK l c.toNat t6.toNat) (by rw [wbK_len]; omega) | (simp only [wbK_len, List.length_map]; omega)) (by first | rfl | exact flat_part (flat_map _ (fun _ => rfl) _) _ _) (by decide)) ?_)
    refine list_cons rfl (op_store (agg_35).2 4 [4] (by intro t ht; simp only [List.mem_cons, List.not_mem_nil, or_false] at ht; subst ht; rfl) (.inr ⟨rfl, _, rfl⟩) rfl rfl rfl rfl (by first | rfl | exact flat_part (flat_map _ (fun _ => rfl) _) _ _ | exact flat_map _ (fun _ => rfl) _) (by first | rfl | (simp [PV.cells, wbK_len, hl]; done)) (by first | decide | omega | exact Nat.le_refl _ | (simp only [wbK_len, List.length_map]; omega) | (simp; done) | (simp; omega)) (by decide) rfl ?_)
    refine list_nil ?_
    refine hK9 _ ?_; clear hK9 K9
    refine codeT.imp (σ' := [(0, _), (1, _), (2, _), (4, _), (6, _)]) ?_ (imp_covers ⟨rfl, rfl, rfl, rfl, rfl, trivial⟩)
    refine code_ret ?_
    refine ends_ret (cs := []) (res_agg1 (cs := (wbK l c.toNat 7).map (.int .i64)) (congrArg (fun z => some (SV.box 4 35 z)) (by rw [show t6.toNat = 7 by omega]; exact put_all (n := 7) (by simp) (by simp [wbK_len, hl]))) rfl (flat_map _ (fun _ => rfl) _) (by simp [wbK_len, hl]; rfl)) rfl rfl rfl trivial ?_
    rfl
set_option maxRecDepth 4000 in
set_option maxHeartbeats 1000000 in
theorem impl_BarShares  : PCalls Tryd.prog 15 [] (· = [.val (.agg ((shS 70).map (.int .i64)))]) := by
  refine pcalls_of_code (n := 19) az Tryd.func15 (by kernel_rfl) rfl rfl (Nat.le_of_ble_eq_true rfl) (by intro t u h; simp [Tryd.f15] at h; obtain ⟨_, rfl⟩ := h <;> first | exact resTy_agg agg_35 (by decide)) ?_
  refine code_seq (fun K1 hK1 => ?_)
  refine code_region ?_
  refine list_cons rfl (op_alloc zt_35 (by decide) (by decide) rfl ?_)
  refine list_nil ?_
  refine hK1 _ ?_; clear hK1 K1
  refine code_seq (fun K2 hK2 => ?_)
  refine code_region ?_
  refine list_cons rfl (op_alloc zt_35 (by decide) (by decide) rfl ?_)
  refine list_nil ?_
  refine hK2 _ ?_; clear hK2 K2
  refine code_seq (fun K3 hK3 => ?_)
  refine code_seq (fun K4 hK4 => ?_)
  refine code_region ?_
  refine list_cons rfl (op_q (q_move rfl (by decide)) ?_)
  refine list_nil ?_
  refine hK4 _ ?_; clear hK4 K4
  refine code_block ?_
  refine code_loop (X := List PV × Int) (fun x => [(0, .box 0 35 (List.replicate 7 (.int .i64 0))), (1, .box 1 35 x.1), (5, .val (.int .i64 x.2))]) (fun x => 0 ≤ x.2 ∧ x.2 ≤ 10 ∧ x.1 = (wS x.2.toNat).map (.int .i64)) (fun x => (10 - x.2).toNat) (_, _) (imp_covers ⟨rfl, rfl, rfl, trivial⟩) ?_ ?_
  · (try dsimp only)
    exact ⟨by omega, by omega, rfl⟩
  · intro x hI
    obtain ⟨shares_c, t5⟩ := x
    replace hI : 0 ≤ t5 ∧ t5 ≤ 10 ∧ shares_c = (wS t5.toNat).map (.int .i64) := hI
    show codeT _ _ _ [(0, .box 0 35 (List.replicate 7 (.int .i64 0))), (1, .box 1 35 shares_c), (5, .val (.int .i64 t5))] _
    obtain ⟨i1, i2, rfl⟩ := hI
    have hdc := digT_cell t5.toNat
    have hw : List.take 7 (List.drop 0 ((wS t5.toNat).map (PV.int .i64))) = (wS t5.toNat).map (PV.int .i64) := by rw [List.drop_zero, List.take_of_length_le (by simp [wS_len])]
    refine code_seq (fun K5 hK5 => ?_)
    refine code_region ?_
    refine list_cons rfl (op_q (q_lt rfl rfl (by decide)) ?_)
    refine list_nil ?_
    refine hK5 _ ?_; clear hK5 K5
    refine code_seq (fun K6 hK6 => ?_)
    refine code_cond_d rfl (fun h1 => ?_) (fun h1 => ?_)
    · skip
      (try simp only [Decidable.not_not] at h1)
      refine code_skip ?_
      refine hK6 _ ?_; clear hK6 K6
      refine code_seq (fun K7 hK7 => ?_)
      refine code_block ?_
      refine code_seq (fun K8 hK8 => ?_)
      refine code_region ?_
      refine list_cons rfl (op_q (q_move rfl (by decide)) ?_)
      refine list_cons rfl (op_q (q_assign rfl (by decide)) ?_)
      refine list_nil ?_
      refine hK8 _ ?_; clear hK8 K8
      refine code_seq (fun K9 hK9 => ?_)
      refine code_region ?_
      refine list_cons rfl (op_q (q_move rfl (by decide)) ?_)
      refine list_cons rfl (op_call _ (impl_CellOf t5) rfl rfl (by decide) (by decide) (by decide) rfl ?_)
      rintro _ rfl; simp only [if_pos (show 0 ≤ t5 ∧ t5 ≤ 9 by omega), decide_eq_true (show 0 ≤ t5 ∧ t5 ≤ 9 by omega)]
      refine list_cons rfl (op_q (q_move rfl (by decide)) ?_)
      refine list_cons rfl (op_q (q_extract rfl rfl (by decide)) ?_)
      refine list_cons rfl (op_q (q_extract rfl rfl (by decide)) ?_)
      refine list_cons rfl (op_q (q_assign rfl (by decide)) ?_)
      refine list_cons rfl (op_q (q_assign rfl (by decide)) ?_)
      refine list_nil ?_
      refine hK9 _ ?_; clear hK9 K9
      refine codeT.imp (σ' := [(0, _), (1, _), (2, _), (3, _), (4, _), (5, _)]) ?_ (imp_covers ⟨rfl, rfl, rfl, rfl, rfl, rfl, trivial⟩)
      refine code_seq (fun K10 hK10 => ?_)
      refine code_region ?_
      refine list_cons rfl (op_q (q_move rfl (by decide)) ?_)
      refine list_nil ?_
      refine hK10 _ ?_; clear hK10 K10
      refine code_cond_t rfl ?_
      refine code_region ?_
      refine list_cons rfl (op_q (q_load_agg agg_35 1 (.inr ⟨rfl, _, rfl⟩) rfl rfl (by simp [wS_len]) (by first | rfl | exact flat_part (flat_map _ (fun _ => rfl) _) _ _) (by decide)) ?_)
      refine list_cons rfl (op_q (q_move rfl (by decide)) ?_)
      refine list_cons rfl (op_call _ ((by rw [hw]; exact impl_withBars (wS t5.toNat) _ t5.toNat (wS_len _) (wS_le _) (by omega) hdc)) rfl rfl (by decide) (by decide) (by decide) rfl ?_)
      rintro _ rfl
      refine list_cons rfl (op_store (agg_35).2 1 [1] (by intro t ht; simp only [List.mem_cons, List.not_mem_nil, or_false] at ht; subst ht; rfl) (.inr ⟨rfl, _, rfl⟩) rfl rfl rfl rfl (by first | rfl | exact flat_part (flat_map _ (fun _ => rfl) _) _ _ | exact flat_map _ (fun _ => rfl) _) (by first | rfl | (simp [PV.cells, wbK_len, wS_len]; done)) (by first | decide | omega | exact Nat.le_refl _ | (simp only [wS_len, List.length_map]; omega) | (simp; done) | (simp; omega)) (by decide) rfl ?_)
      refine list_nil ?_
      refine blk_n ?_
      refine hK7 _ ?_; clear hK7 K7
      refine codeT.imp (σ' := [(0, _), (1, _), (2, _), (3, _), (4, _), (5, _)]) ?_ (imp_covers ⟨rfl, rfl, rfl, rfl, rfl, rfl, trivial⟩)
      refine code_region ?_
      refine list_cons rfl (op_q (by first | exact q_addI rfl rfl (by decide) (by omega) (by omega) | exact q_ib rfl rfl rfl (by decide)) ?_)
      refine list_cons rfl (op_q (q_move rfl (by decide)) ?_)
      refine list_nil ?_
      refine then_n ⟨(_, _), imp_covers ⟨rfl, rfl, rfl, trivial⟩, ?_, ?_⟩
      · (try dsimp only)
        refine ⟨by omega, by omega, ?_⟩
        rw [show (t5 + 1).toNat = t5.toNat + 1 by omega]
        exact put_new (n := 7) (by simp [wS_len]) (by simp [wbK_len, wS_len])
      · (try dsimp only); omega
    (try simp only [Decidable.not_not] at h1)
    refine code_exit ?_
    refine then_x ?_; clear hK6 K6
    refine then_x ?_
    refine blk_hit ?_
    refine hK3 _ ?_; clear hK3 K3
    refine code_seq (fun K11 hK11 => ?_)
    refine code_region ?_
    refine list_cons rfl (op_q (q_load_agg agg_35 1 (.inr ⟨rfl, _, rfl⟩) rfl rfl (by simp [wS_len]) (by first | rfl | exact flat_part (flat_map _ (fun _ => rfl) _) _ _) (by decide)) ?_)
    refine list_cons rfl (op_store (agg_35).2 0 [0] (by intro t ht; simp only [List.mem_cons, List.not_mem_nil, or_false] at ht; subst ht; rfl) (.inr ⟨rfl, _, rfl⟩) rfl rfl rfl rfl (by first | rfl | exact flat_part (flat_map _ (fun _ => rfl) _) _ _ | exact flat_map _ (fun _ => rfl) _) (by first | rfl | (simp [PV.cells, wbK_len, wS_len]; done)) (by first | decide | omega | exact Nat.le_refl _ | (simp only [wS_len, List.length_map]; omega) | (simp; done) | (simp; omega)) (by decide) rfl ?_)
    refine list_nil ?_
    refine hK11 _ ?_; clear hK11 K11
    refine codeT.imp (σ' := [(0, _), (1, _), (5, _)]) ?_ (imp_covers ⟨rfl, rfl, rfl, trivial⟩)
    refine code_ret ?_
    refine ends_ret (cs := []) (res_agg1 (cs := (shS 70).map (.int .i64)) (congrArg (fun z => some (SV.box 0 35 z)) (by rw [show t5.toNat = 10 by omega, wS_sh]; exact put_all (n := 7) (by simp) (by simp [shS_len]))) rfl (flat_map _ (fun _ => rfl) _) (by simp [shS_len]; rfl)) rfl rfl rfl trivial ?_
    rfl
def usd (l : List Int) (k : Nat) : List PV := (List.range 10).map (fun (d : Nat) => PV.bool (decide (hasK l (d : Int) k = true)))
theorem usd_len (l : List Int) (k : Nat) : (usd l k).length = 10 := by simp [usd]
theorem usd_get (l : List Int) (k : Nat) {d : Int} (h0 : 0 ≤ d) (h1 : d < 10) : (usd l k)[d.toNat]? = some (.bool (decide (hasK l d k = true))) := by
  unfold usd
  rw [List.getElem?_map, List.getElem?_range (by omega), Option.map_some, Int.toNat_of_nonneg h0]
theorem usd_get1 (l : List Int) (k : Nat) {d : Int} (h0 : 0 ≤ d) (h1 : d < 10) : (usd l k)[d.toNat * 1]? = some (.bool (decide (hasK l d k = true))) := by
  rw [Nat.mul_one]; exact usd_get l k h0 h1
theorem usd_put (l : List Int) (k : Nat) {d : Int} {o : Nat} (h0 : 0 ≤ d) (h1 : d < 10) (hd : l.getD k 0 = d) (ho : o = d.toNat) : putAt (usd l k) o [PV.bool true] = usd l (k + 1) := by
  subst ho
  have hl := usd_len l k
  apply List.ext_getElem?
  intro j
  rw [putAt, List.append_assoc, List.getElem?_append, List.length_take, hl, show min d.toNat 10 = d.toNat by omega]
  by_cases hj : j < 10
  · have e2 := usd_get l (k + 1) (d := j) (by omega) (by omega)
    have e1 := usd_get l k (d := j) (by omega) (by omega)
    rw [Int.toNat_natCast] at e1 e2
    rw [e2, hasK, hd]
    by_cases c : j < d.toNat
    · rw [if_pos c, List.getElem?_take, if_pos c, e1, decide_eq_false (show ¬ d = (j : Int) by omega), Bool.or_false]
    · rw [if_neg c]
      by_cases c2 : j = d.toNat
      · rw [c2, Nat.sub_self, decide_eq_true (show d = ((d.toNat : Nat) : Int) by omega), Bool.or_true]; rfl
      · rw [List.getElem?_append, if_neg (by simp only [List.length_cons, List.length_nil]; omega), List.getElem?_drop, List.length_cons, List.length_nil, show d.toNat + (0 + 1) + (j - d.toNat - (0 + 1)) = j by omega, e1, decide_eq_false (show ¬ d = (j : Int) by omega), Bool.or_false]
  · have e2 : (usd l (k + 1))[j]? = none := List.getElem?_eq_none (by rw [usd_len]; omega)
    rw [e2, if_neg (by omega)]
    exact List.getElem?_eq_none (by simp only [List.length_append, List.length_cons, List.length_nil, List.length_drop, hl]; omega)
theorem usd_0 (l : List Int) : List.replicate 10 (PV.bool false) = usd l 0 := rfl
def lnk (l : List Int) (r : Bool) : Nat := if r then l.length else l.length - 1
theorem tab_get {a b : Nat} (ha : a < 10) (hb : b < 10) : ((tabS 100).map (PV.int .i64))[a * 10 + b * 1]? = some (.int .i64 (dgt a b)) := by
  have h2 := get_map1 (PV.int .i64) 0 (tabS 100) (k := a * 10 + b) (by simp [tabS, filN_len]; omega)
  rw [Nat.mul_one] at h2
  rw [Nat.mul_one, h2, tab_at ha hb]
theorem lnk_le (l : List Int) (r : Bool) : lnk l r ≤ l.length := by unfold lnk; split <;> omega
set_option maxRecDepth 4000 in
theorem impl_isOrder (l : List Int) (hl : l.length ≤ 4611686018427387904) : PCalls Tryd.prog 25 [.sl l.length (l.map (.int .i64))] (· = [.val (.bool (decide (ordK l l.length = true)))]) := by
  refine pcalls_of_code (n := 26) az Tryd.func25 (by kernel_rfl) rfl rfl (Nat.le_of_ble_eq_true rfl) (by intro t u h; simp [Tryd.f25] at h) ?_
  refine code_seq (fun K1 hK1 => ?_)
  refine code_region ?_
  refine list_cons rfl (op_q (q_assign rfl (by decide)) ?_)
  refine list_nil ?_
  refine hK1 _ ?_; clear hK1 K1
  refine code_seq (fun K2 hK2 => ?_)
  refine code_region ?_
  refine list_cons rfl (op_alloc zt_64 (by decide) (by decide) rfl ?_)
  refine list_nil ?_
  refine hK2 _ ?_; clear hK2 K2
  refine code_seq (fun K3 hK3 => ?_)
  refine code_seq (fun K4 hK4 => ?_)
  refine code_region ?_
  refine list_cons rfl (op_q (q_move rfl (by decide)) ?_)
  refine list_cons rfl (op_q (q_len_sl Tryd.underlying24 rfl rfl (by decide)) ?_)
  refine list_cons rfl (op_q (q_move rfl (by decide)) ?_)
  refine list_nil ?_
  refine hK4 _ ?_; clear hK4 K4
  refine code_block ?_
  refine code_loop (X := Bool × List PV × Int) (fun x => [(0, .par 0 (.sl l.length (l.map (.int .i64)))), (2, .val (.bool x.1)), (3, .box 3 64 x.2.1), (6, .par 0 (.sl l.length (l.map (.int .i64)))), (7, .val (.int .i64 l.length)), (8, .val (.int .i64 x.2.2))]) (fun x => 0 ≤ x.2.2 ∧ x.2.2 ≤ l.length ∧ ordK l x.2.2.toNat = true ∧ x.2.1 = usd l x.2.2.toNat) (fun x => (l.length - x.2.2).toNat) (_, _, _) (imp_covers ⟨rfl, rfl, rfl, rfl, rfl, rfl, trivial⟩) ?_ ?_
  · (try dsimp only)
    exact ⟨by omega, by omega, rfl, usd_0 l⟩
  · intro x hI
    obtain ⟨t2, used_c, t8⟩ := x
    replace hI : 0 ≤ t8 ∧ t8 ≤ l.length ∧ ordK l t8.toNat = true ∧ used_c = usd l t8.toNat := hI
    show codeT _ _ _ [(0, .par 0 (.sl l.length (l.map (.int .i64)))), (2, .val (.bool t2)), (3, .box 3 64 used_c), (6, .par 0 (.sl l.length (l.map (.int .i64)))), (7, .val (.int .i64 l.length)), (8, .val (.int .i64 t8))] _
    obtain ⟨i1, i2, i3, rfl⟩ := hI
    refine code_seq (fun K5 hK5 => ?_)
    refine code_region ?_
    refine list_cons rfl (op_q (q_lt rfl rfl (by decide)) ?_)
    refine list_nil ?_
    refine hK5 _ ?_; clear hK5 K5
    refine code_seq (fun K6 hK6 => ?_)
    refine code_cond_d rfl (fun h1 => ?_) (fun h1 => ?_)
    · skip
      (try simp only [Decidable.not_not] at h1)
      refine code_skip ?_
      refine hK6 _ ?_; clear hK6 K6
      refine code_seq (fun K7 hK7 => ?_)
      refine code_block ?_
      refine code_seq (fun K8 hK8 => ?_)
      refine code_region ?_
      refine list_cons rfl (op_q (q_indexAddr_rd sl_24 rfl (.inl ⟨_, rfl, rfl⟩) rfl (by omega) (by omega) (by decide)) ?_)
      refine list_cons rfl (op_q (q_load_rd one_3 rfl (.inl ⟨_, (by first | rfl | exact congrArg (SV.rpar _) (drop_map1 _ 0 _ (by first | omega | (simp; omega)))), rfl⟩) (by decide)) ?_)
      refine list_cons rfl (op_q (q_assign rfl (by decide)) ?_)
      refine list_nil ?_
      refine hK8 _ ?_; clear hK8 K8
      refine code_seq (fun K9 hK9 => ?_)
      refine code_seq (fun K10 hK10 => ?_)
      refine code_region ?_
      refine list_cons rfl (op_q (q_move rfl (by decide)) ?_)
      refine list_cons rfl (op_q (q_lt rfl rfl (by decide)) ?_)
      refine list_cons rfl (op_q (q_move rfl (by decide)) ?_)
      refine list_guard_d rfl rfl rfl rfl (by decide) rfl (by decide) (fun h2 => ?_) (fun h2 => ?_)
      · simp only [Bool.false_eq_true, if_true, if_false, Decidable.not_not] at h2
        refine id (op_q (q_move rfl (by decide)) ?_)
        refine list_guard_y rfl rfl rfl rfl (by decide) rfl ?_
        refine id (op_q (q_ge rfl rfl (by decide)) ?_)
        refine list_cons rfl (op_q (q_pick rfl rfl (by decide)) ?_)
        refine list_cons rfl (op_q (q_move rfl (by decide)) ?_)
        refine list_guard_d rfl rfl rfl rfl (by decide) rfl (by decide) (fun h3 => ?_) (fun h3 => ?_)
        · simp only [Bool.false_eq_true, if_true, if_false, Decidable.not_not] at h3
          refine id (op_q (q_move rfl (by decide)) ?_)
          refine list_guard_y rfl rfl rfl rfl (by decide) rfl ?_
          refine id (op_q (q_indexAddr_arr arr_64 rfl rfl rfl (by omega) (by omega) (by decide)) ?_)
          refine list_guard_y rfl rfl rfl rfl (by decide) rfl ?_
          refine id (op_q (q_load one_4 3 rfl rfl rfl (usd_get1 l t8.toNat (by omega) (by omega)) (by decide)) ?_)
          refine list_cons rfl (op_q (q_pick rfl rfl (by decide)) ?_)
          refine list_nil ?_
          refine hK10 _ ?_; clear hK10 K10
          refine codeT.imp (σ' := [(0, _), (2, _), (3, _), (5, _), (6, _), (7, _), (8, _), (22, _)]) ?_ (imp_covers ⟨rfl, rfl, rfl, rfl, rfl, rfl, rfl, rfl, trivial⟩)
          refine code_cond_d rfl (fun h4 => ?_) (fun h4 => ?_)
          · skip
            (try simp only [Decidable.not_not] at h4)
            refine code_seq (fun K11 hK11 => ?_)
            refine code_region ?_
            refine list_cons rfl (op_q (q_assign rfl (by decide)) ?_)
            refine list_nil ?_
            refine hK11 _ ?_; clear hK11 K11
            refine code_ret ?_
            refine then_r ?_; clear hK9 K9
            refine blk_r ?_
            refine then_r ?_; clear hK7 K7
            refine then_r ?_
            refine blk_r ?_
            refine then_r ?_; clear hK3 K3
            refine ends_ret (cs := []) rfl rfl rfl rfl trivial ?_
            first
              | (rw [ordK_not (l := l) (m := l.length) (j := t8.toNat) (by omega) (fun h => by have := h.1; omega)]; rfl)
              | (have hx := h4
                 rw [ordK_not (l := l) (m := l.length) (j := t8.toNat) (by omega) (fun h => by rw [h.2] at hx; exact absurd hx (by simp))]; rfl)
              | (rw [show l.length = t8.toNat by omega, i3]; rfl)
          (try simp only [Decidable.not_not] at h4)
          refine code_skip ?_
          refine hK9 _ ?_; clear hK9 K9
          refine code_region ?_
          refine list_cons rfl (op_q (q_move rfl (by decide)) ?_)
          refine list_cons rfl (op_q (q_indexAddr_arr arr_64 rfl rfl rfl (by omega) (by omega) (by decide)) ?_)
          refine list_cons rfl (op_store (one_4).2 3 [3] (by intro t ht; simp only [List.mem_cons, List.not_mem_nil, or_false] at ht; subst ht; rfl) (.inl rfl) rfl rfl rfl rfl rfl rfl (by rw [usd_len]; omega) (by decide) rfl ?_)
          refine list_nil ?_
          refine blk_n ?_
          refine hK7 _ ?_; clear hK7 K7
          refine codeT.imp (σ' := [(0, _), (2, _), (3, _), (5, _), (6, _), (7, _), (8, _)]) ?_ (imp_covers ⟨rfl, rfl, rfl, rfl, rfl, rfl, rfl, trivial⟩)
          refine code_region ?_
          refine list_cons rfl (op_q (by first | exact q_addI rfl rfl (by decide) (by omega) (by omega) | exact q_ib rfl rfl rfl (by decide)) ?_)
          refine list_cons rfl (op_q (q_move rfl (by decide)) ?_)
          refine list_nil ?_
          refine then_n ⟨(_, _, _), imp_covers ⟨rfl, rfl, rfl, rfl, rfl, rfl, trivial⟩, ?_, ?_⟩
          · (try dsimp only)
            refine ⟨by omega, by omega, ?_, ?_⟩
            · rw [show (t8 + 1).toNat = t8.toNat + 1 by omega]
              exact ordK_succ i3 ⟨by omega, by omega⟩ (by simpa using h4)
            · rw [show (t8 + 1).toNat = t8.toNat + 1 by omega]
              exact usd_put l t8.toNat (d := l.getD t8.toNat 0) (by omega) (by omega) rfl (by omega)
          · (try dsimp only); omega
        simp only [Bool.false_eq_true, if_true, if_false, Decidable.not_not] at h3
        refine list_guard_n rfl rfl rfl rfl (by decide) rfl ?_
        refine list_guard_n rfl rfl rfl rfl (by decide) rfl ?_
        refine list_cons rfl (op_q (q_pick rfl rfl (by decide)) ?_)
        refine list_nil ?_
        refine hK10 _ ?_; clear hK10 K10
        refine codeT.imp (σ' := [(0, _), (2, _), (3, _), (5, _), (6, _), (7, _), (8, _), (22, _)]) ?_ (imp_covers ⟨rfl, rfl, rfl, rfl, rfl, rfl, rfl, rfl, trivial⟩)
        refine code_cond_t rfl ?_
        refine code_seq (fun K12 hK12 => ?_)
        refine code_region ?_
        refine list_cons rfl (op_q (q_assign rfl (by decide)) ?_)
        refine list_nil ?_
        refine hK12 _ ?_; clear hK12 K12
        refine code_ret ?_
        refine then_r ?_; clear hK9 K9
        refine blk_r ?_
        refine then_r ?_; clear hK7 K7
        refine then_r ?_
        refine blk_r ?_
        refine then_r ?_; clear hK3 K3
        refine ends_ret (cs := []) rfl rfl rfl rfl trivial ?_
        first
          | (rw [ordK_not (l := l) (m := l.length) (j := t8.toNat) (by omega) (fun h => by have := h.1; omega)]; rfl)
          | (have hx := h3
             rw [ordK_not (l := l) (m := l.length) (j := t8.toNat) (by omega) (fun h => by rw [h.2] at hx; exact absurd hx (by simp))]; rfl)
          | (rw [show l.length = t8.toNat by omega, i3]; rfl)
      simp only [Bool.false_eq_true, if_true, if_false, Decidable.not_not] at h2
      refine list_guard_n rfl rfl rfl rfl (by decide) rfl ?_
      refine list_cons rfl (op_q (q_pick rfl rfl (by decide)) ?_)
      refine list_cons rfl (op_q (q_move rfl (by decide)) ?_)
      refine list_guard_n rfl rfl rfl rfl (by decide) rfl ?_
      refine list_guard_n rfl rfl rfl rfl (by decide) rfl ?_
      refine list_guard_n rfl rfl rfl rfl (by decide) rfl ?_
      refine list_cons rfl (op_q (q_pick rfl rfl (by decide)) ?_)
      refine list_nil ?_
      refine hK10 _ ?_; clear hK10 K10
      refine codeT.imp (σ' := [(0, _), (2, _), (3, _), (5, _), (6, _), (7, _), (8, _), (22, _)]) ?_ (imp_covers ⟨rfl, rfl, rfl, rfl, rfl, rfl, rfl, rfl, trivial⟩)
      refine code_cond_t rfl ?_
      refine code_seq (fun K13 hK13 => ?_)
      refine code_region ?_
      refine list_cons rfl (op_q (q_assign rfl (by decide)) ?_)
      refine list_nil ?_
      refine hK13 _ ?_; clear hK13 K13
      refine code_ret ?_
      refine then_r ?_; clear hK9 K9
      refine blk_r ?_
      refine then_r ?_; clear hK7 K7
      refine then_r ?_
      refine blk_r ?_
      refine then_r ?_; clear hK3 K3
      refine ends_ret (cs := []) rfl rfl rfl rfl trivial ?_
      first
        | (rw [ordK_not (l := l) (m := l.length) (j := t8.toNat) (by omega) (fun h => by have := h.1; omega)]; rfl)
        | (have hx := h2
           rw [ordK_not (l := l) (m := l.length) (j := t8.toNat) (by omega) (fun h => by rw [h.2] at hx; exact absurd hx (by simp))]; rfl)
        | (rw [show l.length = t8.toNat by omega, i3]; rfl)
    (try simp only [Decidable.not_not] at h1)
    refine code_exit ?_
    refine then_x ?_; clear hK6 K6
    refine then_x ?_
    refine blk_hit ?_
    refine hK3 _ ?_; clear hK3 K3
    refine code_seq (fun K14 hK14 => ?_)
    refine code_region ?_
    refine list_cons rfl (op_q (q_assign rfl (by decide)) ?_)
    refine list_nil ?_
    refine hK14 _ ?_; clear hK14 K14
    refine code_ret ?_
    refine ends_ret (cs := []) rfl rfl rfl rfl trivial ?_
    first
      | (rw [ordK_not (l := l) (m := l.length) (j := t8.toNat) (by omega) (fun h => by have := h.1; omega)]; rfl)
      | (have hx := h1
         rw [ordK_not (l := l) (m := l.length) (j := t8.toNat) (by omega) (fun h => by rw [h.2] at hx; exact absurd hx (by simp))]; rfl)
      | (rw [show l.length = t8.toNat by omega, i3]; rfl)
set_option maxRecDepth 4000 in
theorem impl_linksOf_true (n : Nat) (h : n ≤ 4611686018427387904) : PCalls Tryd.prog 46 [.int .i64 n, .bool true] (· = [.val (.int .i64 (if true then n else n - 1 : Nat))]) := by
  refine pcalls_of_code (n := 10) az Tryd.func46 (by kernel_rfl) rfl rfl (Nat.le_of_ble_eq_true rfl) (by intro t u h; simp [Tryd.f46] at h) ?_
  refine code_seq (fun K1 hK1 => ?_)
  refine code_region ?_
  refine list_cons rfl (op_q (q_assign rfl (by decide)) ?_)
  refine list_nil ?_
  refine hK1 _ ?_; clear hK1 K1
  refine code_seq (fun K2 hK2 => ?_)
  refine code_seq (fun K3 hK3 => ?_)
  refine code_region ?_
  refine list_cons rfl (op_q (q_move rfl (by decide)) ?_)
  refine list_nil ?_
  refine hK3 _ ?_; clear hK3 K3
  refine code_cond_t rfl ?_
  refine code_seq (fun K4 hK4 => ?_)
  refine code_region ?_
  refine list_cons rfl (op_q (q_move rfl (by decide)) ?_)
  refine list_cons rfl (op_q (q_assign rfl (by decide)) ?_)
  refine list_nil ?_
  refine hK4 _ ?_; clear hK4 K4
  refine code_ret ?_
  refine then_r ?_; clear hK2 K2
  refine ends_ret (cs := []) rfl rfl rfl rfl trivial ?_
  first
    | rfl
    | (split
       · rw [show n - 1 = 0 by omega]; rfl
       · rw [if_neg (by simp), show ((n - 1 : Nat) : Int) = n - 1 by omega])
set_option maxRecDepth 4000 in
theorem impl_linksOf_false (n : Nat) (h : n ≤ 4611686018427387904) : PCalls Tryd.prog 46 [.int .i64 n, .bool false] (· = [.val (.int .i64 (if false then n else n - 1 : Nat))]) := by
  refine pcalls_of_code (n := 10) az Tryd.func46 (by kernel_rfl) rfl rfl (Nat.le_of_ble_eq_true rfl) (by intro t u h; simp [Tryd.f46] at h) ?_
  refine code_seq (fun K1 hK1 => ?_)
  refine code_region ?_
  refine list_cons rfl (op_q (q_assign rfl (by decide)) ?_)
  refine list_nil ?_
  refine hK1 _ ?_; clear hK1 K1
  refine code_seq (fun K2 hK2 => ?_)
  refine code_seq (fun K3 hK3 => ?_)
  refine code_region ?_
  refine list_cons rfl (op_q (q_move rfl (by decide)) ?_)
  refine list_nil ?_
  refine hK3 _ ?_; clear hK3 K3
  refine code_cond_f rfl ?_
  refine code_skip ?_
  refine hK2 _ ?_; clear hK2 K2
  refine code_seq (fun K4 hK4 => ?_)
  refine code_region ?_
  refine list_cons rfl (op_q (q_move rfl (by decide)) ?_)
  refine list_cons rfl (op_q (by first | exact q_subI rfl rfl (by decide) (by omega) (by omega) | exact q_ib rfl rfl rfl (by decide)) ?_)
  refine list_cons rfl (op_q (q_max rfl rfl (by decide)) ?_)
  refine list_cons rfl (op_q (q_assign rfl (by decide)) ?_)
  refine list_nil ?_
  refine hK4 _ ?_; clear hK4 K4
  refine code_ret ?_
  refine ends_ret (cs := []) rfl rfl rfl rfl trivial ?_
  first
    | rfl
    | (split
       · rw [show n - 1 = 0 by omega]; rfl
       · rw [if_neg (by simp), show ((n - 1 : Nat) : Int) = n - 1 by omega])
theorem impl_linksOf (l : List Int) (r : Bool) (h : l.length ≤ 4611686018427387904) : PCalls Tryd.prog 46 [.int .i64 l.length, .bool r] (· = [.val (.int .i64 (lnk l r))]) := by
  cases r
  · exact impl_linksOf_false l.length h
  · exact impl_linksOf_true l.length h
set_option maxRecDepth 20000 in
set_option maxHeartbeats 2000000 in
theorem impl_costOf (l : List Int) (r : Bool) (hl : l.length ≤ 10) (hT : ∀ j, j < l.length → 0 ≤ l.getD j 0 ∧ l.getD j 0 ≤ 9) : PCalls Tryd.prog 26 [.sl l.length (l.map (.int .i64)), .bool r] (· = [.val (.int .i64 (cstK l (lnk l r)))]) := by
  refine pcalls_of_code (n := 35) az Tryd.func26 (by kernel_rfl) rfl rfl (Nat.le_of_ble_eq_true rfl) (by intro t u h; simp [Tryd.f26] at h) ?_
  refine code_seq (fun K1 hK1 => ?_)
  refine code_region ?_
  refine list_cons rfl (op_q (q_assign rfl (by decide)) ?_)
  refine list_nil ?_
  refine hK1 _ ?_; clear hK1 K1
  refine code_seq (fun K2 hK2 => ?_)
  refine code_region ?_
  refine list_cons rfl (op_call _ (impl_ChangeTable) rfl rfl (by decide) (by decide) (by decide) rfl ?_)
  rintro _ rfl
  refine list_cons rfl (op_alloc zt_33 (by decide) (by decide) rfl ?_)
  refine list_cons rfl (op_store (agg_33).2 5 [5] (by intro t ht; simp only [List.mem_cons, List.not_mem_nil, or_false] at ht; subst ht; rfl) (.inr ⟨rfl, _, rfl⟩) rfl rfl rfl rfl (by first | rfl | exact flat_part (flat_map _ (fun _ => rfl) _) _ _ | exact flat_map _ (fun _ => rfl) _) (by first | rfl | (simp [PV.cells, tabS, filN_len]; done)) (by simp [PV.cells]; done) (by decide) rfl ?_)
  refine list_nil ?_
  refine hK2 _ ?_; clear hK2 K2
  refine codeT.imp (σ' := [(0, _), (1, _), (4, _), (5, .box 5 33 ((tabS 100).map (.int .i64)))]) ?_ (imp_covers ⟨rfl, rfl, rfl, (congrArg (fun z => some (SV.box 5 33 z)) (put_new (n := 100) (by rfl) (by simp [tabS, filN_len]))), trivial⟩)
  refine code_seq (fun K3 hK3 => ?_)
  refine code_region ?_
  refine list_cons rfl (op_q (q_assign rfl (by decide)) ?_)
  refine list_nil ?_
  refine hK3 _ ?_; clear hK3 K3
  refine code_seq (fun K4 hK4 => ?_)
  refine code_seq (fun K5 hK5 => ?_)
  refine code_region ?_
  refine list_cons rfl (op_q (q_move rfl (by decide)) ?_)
  refine list_cons rfl (op_q (q_len_sl Tryd.underlying24 rfl rfl (by decide)) ?_)
  refine list_cons rfl (op_q (q_move rfl (by decide)) ?_)
  refine list_cons rfl (op_call _ (impl_linksOf l _ (by omega)) rfl rfl (by decide) (by decide) (by decide) rfl ?_)
  rintro _ rfl
  refine list_cons rfl (op_q (q_move rfl (by decide)) ?_)
  refine list_nil ?_
  refine hK5 _ ?_; clear hK5 K5
  refine codeT.imp (σ' := [(0, _), (1, _), (4, _), (5, _), (6, _), (12, _), (13, _)]) ?_ (imp_covers ⟨rfl, rfl, rfl, rfl, rfl, rfl, rfl, trivial⟩)
  refine code_block ?_
  refine code_loop (X := Int × List PV × Int × Int) (fun x => [(0, .par 0 (.sl l.length (l.map (.int .i64)))), (1, .val (.bool r)), (4, .val (.int .i64 x.1)), (5, .box 5 33 x.2.1), (6, .val (.int .i64 x.2.2.1)), (12, .val (.int .i64 (lnk l r))), (13, .val (.int .i64 x.2.2.2))]) (fun x => 0 ≤ x.2.2.2 ∧ x.2.2.2 ≤ lnk l r ∧ x.2.1 = (tabS 100).map (.int .i64) ∧ x.2.2.1 = cstK l x.2.2.2.toNat) (fun x => (lnk l r - x.2.2.2).toNat) (_, _, _, _) (imp_covers ⟨rfl, rfl, rfl, rfl, rfl, rfl, rfl, trivial⟩) ?_ ?_
  · (try dsimp only)
    exact ⟨by omega, by omega, rfl, rfl⟩
  · intro x hI
    obtain ⟨t4, table_c, cost, t13⟩ := x
    replace hI : 0 ≤ t13 ∧ t13 ≤ lnk l r ∧ table_c = (tabS 100).map (.int .i64) ∧ cost = cstK l t13.toNat := hI
    show codeT _ _ _ [(0, .par 0 (.sl l.length (l.map (.int .i64)))), (1, .val (.bool r)), (4, .val (.int .i64 t4)), (5, .box 5 33 table_c), (6, .val (.int .i64 cost)), (12, .val (.int .i64 (lnk l r))), (13, .val (.int .i64 t13))] _
    obtain ⟨i1, i2, rfl, rfl⟩ := hI
    have hk := lnk_le l r
    have hc := cstK_le l t13.toNat
    have hg := dgt_le (l.getD t13.toNat 0).toNat (l.getD ((t13 + 1) % (l.length : Int)).toNat 0).toNat
    have hm : 0 < l.length → 0 ≤ (t13 + 1) % (l.length : Int) ∧ (t13 + 1) % (l.length : Int) < l.length := fun h => ⟨Int.emod_nonneg _ (by omega), Int.emod_lt_of_pos _ (by omega)⟩
    have hmt : ((t13 + 1) % (l.length : Int)).toNat = (t13.toNat + 1) % l.length := by rw [show t13 + 1 = ((t13.toNat + 1 : Nat) : Int) by omega, ← Int.natCast_emod, Int.toNat_natCast]
    have d1 : t13 < l.length → 0 ≤ l.getD t13.toNat 0 ∧ l.getD t13.toNat 0 ≤ 9 := fun h => hT _ (by omega)
    have d2 : t13 < l.length → 0 ≤ l.getD ((t13 + 1) % (l.length : Int)).toNat 0 ∧ l.getD ((t13 + 1) % (l.length : Int)).toNat 0 ≤ 9 := fun h => hT _ (by omega)
    refine code_seq (fun K6 hK6 => ?_)
    refine code_region ?_
    refine list_cons rfl (op_q (q_lt rfl rfl (by decide)) ?_)
    refine list_nil ?_
    refine hK6 _ ?_; clear hK6 K6
    refine code_seq (fun K7 hK7 => ?_)
    refine code_cond_d rfl (fun h1 => ?_) (fun h1 => ?_)
    · skip
      (try simp only [Decidable.not_not] at h1)
      refine code_skip ?_
      refine hK7 _ ?_; clear hK7 K7
      refine code_seq (fun K8 hK8 => ?_)
      refine code_block ?_
      refine code_seq (fun K9 hK9 => ?_)
      refine code_region ?_
      refine list_cons rfl (op_q (q_move rfl (by decide)) ?_)
      refine list_cons rfl (op_q (q_assign rfl (by decide)) ?_)
      refine list_nil ?_
      refine hK9 _ ?_; clear hK9 K9
      refine code_draw (by kernel_rfl) (by kernel_rfl) ?_
      refine draw_q rfl (q_move rfl (by decide)) ?_
      refine draw_q rfl (q_move rfl (by decide)) ?_
      refine draw_q rfl (q_move rfl (by decide)) ?_
      refine draw_q rfl (q_indexAddr_rd sl_24 rfl (.inl ⟨_, rfl, rfl⟩) rfl (by omega) (by omega) (by decide)) ?_
      refine draw_q rfl (q_load_rd one_3 rfl (.inl ⟨_, (by first | rfl | exact congrArg (SV.rpar _) (drop_map1 (PV.int .i64) 0 _ (by omega)) | exact tab_get (by omega) (by omega)), rfl⟩) (by decide)) ?_
      refine draw_q rfl (q_move rfl (by decide)) ?_
      refine draw_q rfl (q_move rfl (by decide)) ?_
      refine draw_q rfl (by first | exact q_addI rfl rfl (by decide) (by omega) (by omega) | exact q_ib rfl rfl rfl (by decide)) ?_
      refine draw_q rfl (q_move rfl (by decide)) ?_
      refine draw_q rfl (q_len_sl Tryd.underlying24 rfl rfl (by decide)) ?_
      refine draw_q rfl (by first | exact q_remI rfl rfl (by decide) (by omega) (by omega) | exact q_rem rfl rfl (by omega) (by decide)) ?_
      refine draw_q rfl (q_indexAddr_rd sl_24 rfl (.inl ⟨_, rfl, rfl⟩) rfl (by omega) (by omega) (by decide)) ?_
      refine draw_q rfl (q_load_rd one_3 rfl (.inl ⟨_, (by first | rfl | exact congrArg (SV.rpar _) (drop_map1 (PV.int .i64) 0 _ (by omega)) | exact tab_get (by omega) (by omega)), rfl⟩) (by decide)) ?_
      refine draw_q rfl (q_indexAddr_arr arr_33 rfl rfl rfl (by omega) (by omega) (by decide)) ?_
      refine draw_q rfl (q_indexAddr_arr arr_32 rfl rfl rfl (by omega) (by omega) (by decide)) ?_
      refine draw_q rfl (q_load one_3 5 rfl rfl rfl (by first | rfl | exact congrArg (SV.rpar _) (drop_map1 (PV.int .i64) 0 _ (by omega)) | exact tab_get (by omega) (by omega)) (by decide)) ?_
      refine draw_q rfl (by first | exact q_addI rfl rfl (by decide) (by omega) (by omega) | exact q_ib rfl rfl rfl (by decide)) ?_
      refine draw_q rfl (q_assign rfl (by decide)) ?_
      refine draw_nil ?_
      refine blk_n ?_
      refine hK8 _ ?_; clear hK8 K8
      refine codeT.imp (σ' := [(0, _), (1, _), (4, _), (5, _), (6, _), (7, _), (12, _), (13, _)]) ?_ (imp_covers ⟨rfl, rfl, rfl, rfl, rfl, rfl, rfl, rfl, trivial⟩)
      refine code_region ?_
      refine list_cons rfl (op_q (by first | exact q_addI rfl rfl (by decide) (by omega) (by omega) | exact q_ib rfl rfl rfl (by decide)) ?_)
      refine list_cons rfl (op_q (q_move rfl (by decide)) ?_)
      refine list_nil ?_
      refine then_n ⟨(_, _, _, _), imp_covers ⟨rfl, rfl, rfl, rfl, rfl, rfl, rfl, trivial⟩, ?_, ?_⟩
      · (try dsimp only)
        refine ⟨by omega, by omega, rfl, ?_⟩
        rw [show (t13 + 1).toNat = t13.toNat + 1 by omega, cstK, hmt]
      · (try dsimp only); omega
    (try simp only [Decidable.not_not] at h1)
    refine code_exit ?_
    refine then_x ?_; clear hK7 K7
    refine then_x ?_
    refine blk_hit ?_
    refine hK4 _ ?_; clear hK4 K4
    refine code_seq (fun K10 hK10 => ?_)
    refine code_region ?_
    refine list_cons rfl (op_q (q_move rfl (by decide)) ?_)
    refine list_cons rfl (op_q (q_assign rfl (by decide)) ?_)
    refine list_nil ?_
    refine hK10 _ ?_; clear hK10 K10
    refine code_ret ?_
    refine ends_ret (cs := []) rfl rfl rfl rfl trivial ?_
    rw [show t13.toNat = lnk l r by omega]
set_option maxRecDepth 4000 in
theorem impl_OrderCost (l : List Int) (r : Bool) (hl : l.length ≤ 4611686018427387904) : PCalls Tryd.prog 6 [.sl l.length (l.map (.int .i64)), .bool r] (· = [.val (.int .i64 (if ordK l l.length = true then costO l r else 0)), .val (.bool (decide (ordK l l.length = true)))]) := by
  refine pcalls_of_code (n := 12) az Tryd.func6 (by kernel_rfl) rfl rfl (Nat.le_of_ble_eq_true rfl) (by intro t u h; simp [Tryd.f6] at h) ?_
  refine code_seq (fun K1 hK1 => ?_)
  refine code_region ?_
  refine list_cons rfl (op_q (q_assign rfl (by decide)) ?_)
  refine list_cons rfl (op_q (q_assign rfl (by decide)) ?_)
  refine list_nil ?_
  refine hK1 _ ?_; clear hK1 K1
  refine code_seq (fun K2 hK2 => ?_)
  refine code_seq (fun K3 hK3 => ?_)
  refine code_region ?_
  refine list_cons rfl (op_q (q_move rfl (by decide)) ?_)
  refine list_cons rfl (op_call _ (impl_isOrder _ (by omega)) rfl rfl (by decide) (by decide) (by decide) rfl ?_)
  rintro _ rfl
  refine list_cons rfl (op_q (by first | exact q_notd rfl (by decide) | exact q_not rfl (by decide)) ?_)
  refine list_nil ?_
  refine hK3 _ ?_; clear hK3 K3
  refine codeT.imp (σ' := [(0, _), (1, _), (4, _), (5, _), (8, _)]) ?_ (imp_covers ⟨rfl, rfl, rfl, rfl, rfl, trivial⟩)
  refine code_cond_d rfl (fun h1 => ?_) (fun h1 => ?_)
  · skip
    (try simp only [Decidable.not_not] at h1); (try have hO := (h1 : ordK l l.length = true)); (try have hOl := ord_len hO)
    refine code_seq (fun K4 hK4 => ?_)
    refine code_region ?_
    refine list_cons rfl (op_q (q_assign rfl (by decide)) ?_)
    refine list_cons rfl (op_q (q_assign rfl (by decide)) ?_)
    refine list_nil ?_
    refine hK4 _ ?_; clear hK4 K4
    refine code_ret ?_
    refine then_r ?_; clear hK2 K2
    refine ends_ret (cs := []) rfl rfl rfl rfl trivial ?_
    first
      | (rw [if_neg (by assumption), decide_eq_false (by assumption)]; done)
      | (rw [if_pos hO, decide_eq_true hO]; rfl)
  (try simp only [Decidable.not_not] at h1); (try have hO := (h1 : ordK l l.length = true)); (try have hOl := ord_len hO)
  refine code_skip ?_
  refine hK2 _ ?_; clear hK2 K2
  refine code_seq (fun K5 hK5 => ?_)
  refine code_region ?_
  refine list_cons rfl (op_q (q_move rfl (by decide)) ?_)
  refine list_cons rfl (op_q (q_move rfl (by decide)) ?_)
  refine list_cons rfl (op_call _ (impl_costOf l r (by omega) (fun j hj => (ordK_at hO hj).1)) rfl rfl (by decide) (by decide) (by decide) rfl ?_)
  rintro _ rfl
  refine list_cons rfl (op_q (q_assign rfl (by decide)) ?_)
  refine list_cons rfl (op_q (q_assign rfl (by decide)) ?_)
  refine list_nil ?_
  refine hK5 _ ?_; clear hK5 K5
  refine codeT.imp (σ' := [(0, _), (1, _), (4, _), (5, _)]) ?_ (imp_covers ⟨rfl, rfl, rfl, rfl, trivial⟩)
  refine code_ret ?_
  refine ends_ret (cs := []) rfl rfl rfl rfl trivial ?_
  first
    | (rw [if_neg (by assumption), decide_eq_false (by assumption)]; done)
    | (rw [if_pos hO, decide_eq_true hO]; rfl)
def llt : List Int → List Int → Prop
  | a :: ar, b :: bs => a < b ∨ (a = b ∧ llt ar bs)
  | _, _ => False
instance lltDec : ∀ (a b : List Int), Decidable (llt a b)
  | a :: ar, b :: bs => by unfold llt; have := lltDec ar bs; exact inferInstance
  | [], _ => .isFalse (by simp [llt])
  | _ :: _, [] => .isFalse (by simp [llt])
theorem llt_irr : ∀ a : List Int, ¬ llt a a
  | [], h => h
  | a :: ar, h => by
    rcases h with h | ⟨_, h⟩
    · omega
    · exact llt_irr ar h
theorem llt_trans : ∀ {a b c : List Int}, llt a b → llt b c → llt a c
  | a :: ar, b :: bs, c :: cs, h, k => by
    rcases h with h | ⟨h1, h⟩ <;> rcases k with k | ⟨k1, k⟩
    · exact .inl (by omega)
    · exact .inl (by omega)
    · exact .inl (by omega)
    · exact .inr ⟨by omega, llt_trans h k⟩
  | [], _, _, h, _ => h.elim
  | _ :: _, [], _, h, _ => h.elim
  | _ :: _, _ :: _, [], _, k => k.elim
theorem llt_tri : ∀ {a b : List Int}, a.length = b.length → a = b ∨ llt a b ∨ llt b a
  | [], [], _ => .inl rfl
  | a :: ar, b :: bs, h => by
    rcases llt_tri (a := ar) (b := bs) (by simpa using h) with e | e | e
    · subst e
      rcases Int.lt_trichotomy a b with k | k | k
      · exact .inr (.inl (.inl k))
      · subst k; exact .inl rfl
      · exact .inr (.inr (.inl k))
    · rcases Int.lt_trichotomy a b with k | k | k
      · exact .inr (.inl (.inl k))
      · exact .inr (.inl (.inr ⟨k, e⟩))
      · exact .inr (.inr (.inl k))
    · rcases Int.lt_trichotomy a b with k | k | k
      · exact .inr (.inl (.inl k))
      · exact .inr (.inr (.inr ⟨k.symm, e⟩))
      · exact .inr (.inr (.inl k))
  | [], _ :: _, h => by simp at h
  | _ :: _, [], h => by simp at h
theorem llt_pre : ∀ (p : List Int) {a b : List Int}, llt (p ++ a) (p ++ b) ↔ llt a b
  | [], _, _ => Iff.rfl
  | x :: p, a, b => by
    show (x < x ∨ (x = x ∧ llt (p ++ a) (p ++ b))) ↔ _
    rw [llt_pre p]
    exact ⟨fun h => h.elim (fun z => absurd z (by omega)) (fun z => z.2), fun h => .inr ⟨rfl, h⟩⟩
def Asc (l : List Int) : Prop := l.Pairwise (· ≤ ·)
def Dsc (l : List Int) : Prop := l.Pairwise (fun a b => b ≤ a)
theorem dsc_max : ∀ {t r : List Int}, Dsc t → r.Perm t → ¬ llt t r
  | [], _, _, _, h => h
  | _ :: _, [], _, _, h => h
  | x :: t, y :: r, hd, hp, h => by
    have hd' := List.pairwise_cons.1 hd
    rcases h with h | ⟨h1, h⟩
    · have : y ∈ x :: t := hp.mem_iff.1 List.mem_cons_self
      rcases List.mem_cons.1 this with e | e
      · omega
      · have := hd'.1 y e; omega
    · subst h1
      exact dsc_max hd'.2 hp.cons_inv h
theorem asc_min : ∀ {s r : List Int}, Asc s → r.Perm s → r = s ∨ llt s r
  | [], r, _, hp => .inl (List.Perm.eq_nil hp)
  | x :: s, [], _, hp => by simp at hp
  | x :: s, y :: r, hd, hp => by
    have hd' := List.pairwise_cons.1 hd
    have : y ∈ x :: s := hp.mem_iff.1 List.mem_cons_self
    have hxy : x ≤ y := by
      rcases List.mem_cons.1 this with e | e
      · omega
      · exact hd'.1 y e
    by_cases e : x = y
    · subst e
      rcases asc_min hd'.2 hp.cons_inv with k | k
      · exact .inl (by rw [k])
      · exact .inr (.inr ⟨rfl, k⟩)
    · exact .inr (.inl (by omega))
theorem asc_rev {l : List Int} (h : Dsc l) : Asc l.reverse := by
  unfold Asc; rw [List.pairwise_reverse]; exact h
theorem next_min {P T1 T2 : List Int} {x y : Int} (hT : Dsc (T1 ++ y :: T2)) (hxy : x < y) (h2 : ∀ z ∈ T2, z ≤ x) {b : List Int} (hb : b.Perm (P ++ x :: (T1 ++ y :: T2))) (hl : llt (P ++ x :: (T1 ++ y :: T2)) b) :
    b = P ++ y :: (T1 ++ x :: T2).reverse ∨ llt (P ++ y :: (T1 ++ x :: T2).reverse) b := by
  induction P generalizing b with
  | cons p P ih =>
    cases b with
    | nil => exact hl.elim
    | cons c b =>
      rcases hl with hl | ⟨he, hl⟩
      · exact .inr (.inl hl)
      · subst he
        rcases ih (b := b) hb.cons_inv hl with k | k
        · exact .inl (by rw [k]; rfl)
        · exact .inr (.inr ⟨rfl, k⟩)
  | nil =>
    cases b with
    | nil => exact hl.elim
    | cons z R =>
      simp only [List.nil_append] at *
      rcases hl with hl | ⟨he, hl⟩
      · have hz : z ∈ x :: (T1 ++ y :: T2) := hb.mem_iff.1 List.mem_cons_self
        have hT' := List.pairwise_append.1 hT
        have hyz : y ≤ z := by
          rcases List.mem_cons.1 hz with e | e
          · omega
          · rcases List.mem_append.1 e with e | e
            · exact hT'.2.2 z e y List.mem_cons_self
            · rcases List.mem_cons.1 e with e | e
              · omega
              · have := h2 z e; omega
        by_cases e : y = z
        · subst e
          have hp : R.Perm (T1 ++ x :: T2) := by
            have h1 : (y :: R).Perm (y :: (T1 ++ x :: T2)) := hb.trans (by
              have a1 : (x :: (T1 ++ y :: T2)).Perm (x :: y :: (T1 ++ T2)) := List.Perm.cons x List.perm_middle
              have a2 : (y :: (T1 ++ x :: T2)).Perm (y :: x :: (T1 ++ T2)) := List.Perm.cons y List.perm_middle
              exact a1.trans ((List.Perm.swap y x _).trans a2.symm))
            exact h1.cons_inv
          have hdT : Dsc (T1 ++ x :: T2) := by
            have hy2 := List.pairwise_cons.1 hT'.2.1
            refine List.pairwise_append.2 ⟨hT'.1, List.pairwise_cons.2 ⟨h2, hy2.2⟩, fun a ha c hc => ?_⟩
            have hay := hT'.2.2 a ha y List.mem_cons_self
            rcases List.mem_cons.1 hc with e | e
            · omega
            · have := h2 c e; omega
          rcases asc_min (asc_rev hdT) (hp.trans (List.reverse_perm _).symm) with k | k
          · exact .inl (by rw [k])
          · exact .inr (.inr ⟨rfl, k⟩)
        · exact .inr (.inl (by omega))
      · subst he
        exact absurd hl (dsc_max hT hb.cons_inv)
theorem next_perm {P T1 T2 : List Int} {x y : Int} : (P ++ y :: (T1 ++ x :: T2).reverse).Perm (P ++ x :: (T1 ++ y :: T2)) := by
  refine List.Perm.append_left P ?_
  have a0 : (y :: (T1 ++ x :: T2).reverse).Perm (y :: (T1 ++ x :: T2)) := List.Perm.cons y (List.reverse_perm _)
  have a1 : (x :: (T1 ++ y :: T2)).Perm (x :: y :: (T1 ++ T2)) := List.Perm.cons x List.perm_middle
  have a2 : (y :: (T1 ++ x :: T2)).Perm (y :: x :: (T1 ++ T2)) := List.Perm.cons y List.perm_middle
  exact a0.trans (a2.trans ((List.Perm.swap x y _).trans a1.symm))
theorem next_gt {P T1 T2 : List Int} {x y : Int} (hxy : x < y) : llt (P ++ x :: (T1 ++ y :: T2)) (P ++ y :: (T1 ++ x :: T2).reverse) := by
  rw [llt_pre]; exact .inl hxy
theorem gmid (p q : List Int) (x : Int) : (p ++ x :: q).getD p.length 0 = x := by
  rw [List.getD_eq_getElem?_getD, List.getElem?_append_right (Nat.le_refl _), Nat.sub_self]; rfl
theorem gmid' (p q : List Int) (x : Int) {n : Nat} (h : p.length = n) : (p ++ x :: q).getD n 0 = x := by subst h; exact gmid p q x
theorem smid (p q : List Int) (x v : Int) {n : Nat} (h : p.length = n) : (p ++ x :: q).set n v = p ++ v :: q := by
  subst h
  rw [List.set_append_right _ _ (Nat.le_refl _), Nat.sub_self, List.set_cons_zero]
def swpL (L : List Int) (p q : Nat) : List Int := (L.set p (L.getD q 0)).set q (L.getD p 0)
theorem swpL_len (L : List Int) (p q : Nat) : (swpL L p q).length = L.length := by simp [swpL]
theorem put_mapk (l : List Int) {k : Nat} (h : k < l.length) (v : Int) : putAt (l.map (PV.int .i64)) k [PV.int .i64 v] = (l.set k v).map (PV.int .i64) := by
  have := put_map1 (PV.int .i64) l h v
  rwa [Nat.mul_one] at this
theorem put2_swp {L : List Int} {p q p' q' : Nat} {v1 v2 : Int} (hp : p < L.length) (hq : q < L.length) (ep : p' = p) (eq : q' = q) (h1 : v1 = L.getD q 0) (h2 : v2 = L.getD p 0) : putAt (putAt (L.map (PV.int .i64)) p' [PV.int .i64 v1]) q' [PV.int .i64 v2] = (swpL L p q).map (PV.int .i64) := by
  subst ep; subst eq; subst h1; subst h2
  rw [put_mapk _ hp, put_mapk _ (by rw [List.length_set]; exact hq)]; rfl
theorem rev_len (l : List Int) : l.reverse.length = l.length := List.length_reverse
def srt (l : List Int) : List Int := l.mergeSort fun x y => decide (x ≤ y)
theorem srt_len (l : List Int) : (srt l).length = l.length := List.length_mergeSort l
theorem srt_perm (l : List Int) : (srt l).Perm l := List.mergeSort_perm l _
theorem srt_asc (l : List Int) : Asc (srt l) := by
  have := List.pairwise_mergeSort (le := fun x y : Int => decide (x ≤ y)) (fun a b c h1 h2 => by simp at *; omega) (fun a b => by simp; omega) l
  exact this.imp (fun h => by simpa using h)
theorem reverse_row (zs : List Int) (h : zs.length ≤ 1000) : RowFn Tryd.prog 67 zs (List.reverse zs) := ⟨fun w b off cap hH hb => (Tryd.slices_Reverse_int b off cap zs w hH (by omega)).mono fun e w2 ⟨he, n, hw⟩ => ⟨he, n, #[], by rw [Sort.grow_empty]; exact hw⟩, fun hl a cap w => Tryd.slices_Reverse_int_empty a cap w⟩
theorem reverse_V (T o m : Nat) (L : List Int) (hn : o + m ≤ L.length) (hb : L.length ≤ 1000) : MCalls Tryd.prog 67 false (some (.vw T o m (L.map (.int .i64)))) [] fun rs cs => rs = [] ∧ cs = (L.take o ++ List.reverse ((L.drop o).take m) ++ L.drop (o + m)).map (.int .i64) :=
  mcalls_vw (enters_of Tryd.func67 (by kernel_rfl) rfl) hn (by rw [rev_len, List.length_take, List.length_drop]; omega) (reverse_row _ (by rw [List.length_take, List.length_drop]; omega))
theorem sort_row (zs : List Int) (h : zs.length ≤ 1000) : RowFn Tryd.prog 65 zs (srt zs) := ⟨fun w b off cap hH hb => (Tryd.slices_Sort_int b off cap zs w hH hb (by omega)).mono fun e w2 ⟨he, n, os, hw⟩ => ⟨he, n, os, hw⟩, fun hl a cap w => Tryd.slices_Sort_int_none a cap w⟩
theorem sort_V (T o m : Nat) (L : List Int) (hn : o + m ≤ L.length) (hb : L.length ≤ 1000) : MCalls Tryd.prog 65 false (some (.vw T o m (L.map (.int .i64)))) [] fun rs cs => rs = [] ∧ cs = (L.take o ++ srt ((L.drop o).take m) ++ L.drop (o + m)).map (.int .i64) :=
  mcalls_vw (enters_of Tryd.func65 (by kernel_rfl) rfl) hn (by rw [srt_len, List.length_take, List.length_drop]; omega) (sort_row _ (by rw [List.length_take, List.length_drop]; omega))
theorem sort_O (L : List Int) (hb : L.length ≤ 1000) : MCalls Tryd.prog 65 false (some (.own 3 1 L.length (L.map (.int .i64)))) [] fun rs cs => rs = [] ∧ cs = (srt L).map (.int .i64) :=
  mcalls_row (enters_of Tryd.func65 (by kernel_rfl) rfl) (srt_len _) (sort_row _ hb)
theorem res_agg8 {az : TypeId → Nat} {σ : St} {t u l e : Nat} {cs : List PV} (h : σ.at t = some (.box l e cs)) (haz : (az u == 0) = false) (hf : PV.flatL cs = true) (hl : cs.length = az u) : St.res az σ [.cell t u] = some [.val (.agg cs)] := by
  unfold St.res
  rw [h, show St.res az σ [] = some [] from rfl]
  simp only [haz, Bool.false_eq_true, if_false]
  rw [hf, hl]
  simp
theorem put_all8 {a b : List PV} {n : Nat} (ha : a.length = n) (hb : b.length = n) : putAt a 0 (PV.agg b).cells = b := by
  unfold putAt PV.cells
  simp only [List.take_zero, List.nil_append, Nat.zero_add]
  rw [List.drop_of_length_le (by omega), List.append_nil]
def arr (a : List Int) : List Int := a ++ List.replicate (10 - a.length) 0
theorem arr_len {a : List Int} (h : a.length ≤ 10) : (arr a).length = 10 := by simp [arr]; omega
theorem arr_at {a : List Int} {j : Nat} (h : j < a.length) : (arr a).getD j 0 = a.getD j 0 := by
  unfold arr
  rw [List.getD_eq_getElem?_getD, List.getElem?_append_left h, ← List.getD_eq_getElem?_getD]
def NextOf (a b : List Int) : Prop := (Dsc a ∧ b = a.reverse) ∨ ∃ (P T1 T2 : List Int) (x y : Int), a = P ++ x :: (T1 ++ y :: T2) ∧ Dsc (T1 ++ y :: T2) ∧ x < y ∧ (∀ z ∈ T2, z ≤ x) ∧ b = P ++ y :: (T1 ++ x :: T2).reverse
theorem NextOf.perm {a b : List Int} (h : NextOf a b) : b.Perm a := by
  rcases h with ⟨_, rfl⟩ | ⟨P, T1, T2, x, y, rfl, _, _, _, rfl⟩
  · exact List.reverse_perm _
  · exact next_perm
theorem swpL_mid (P T1 R : List Int) (x y : Int) {p q : Nat} (hp : P.length = p) (hq : p + 1 + T1.length = q) : swpL (P ++ x :: (T1 ++ y :: R)) p q = P ++ y :: (T1 ++ x :: R) := by
  have e1 := gmid' P (T1 ++ y :: R) x hp
  have e2 : (P ++ x :: (T1 ++ y :: R)).getD q 0 = y := by
    rw [show P ++ x :: (T1 ++ y :: R) = (P ++ x :: T1) ++ y :: R by simp]
    exact gmid' _ _ _ (by simp [hp]; omega)
  unfold swpL
  rw [e1, e2, smid _ _ _ _ hp, show P ++ y :: (T1 ++ y :: R) = (P ++ y :: T1) ++ y :: R by simp, smid _ _ _ _ (by simp [hp]; omega)]
  simp
theorem dsc_step {a : List Int} {t : Nat} (h1 : 0 < t) (h2 : t < a.length) (hd : Dsc (a.drop t)) (hge : a.getD t 0 ≤ a.getD (t - 1) 0) : Dsc (a.drop (t - 1)) := by
  have e : a.drop (t - 1) = a.getD (t - 1) 0 :: a.drop t := by
    rw [List.drop_eq_getElem_cons (show t - 1 < a.length by omega), show t - 1 + 1 = t by omega, List.getD_eq_getElem?_getD, List.getElem?_eq_getElem (show t - 1 < a.length by omega)]; rfl
  have e2 : a.drop t = a.getD t 0 :: a.drop (t + 1) := by
    rw [List.drop_eq_getElem_cons h2, List.getD_eq_getElem?_getD, List.getElem?_eq_getElem h2]; rfl
  rw [e]
  refine List.pairwise_cons.2 ⟨fun z hz => ?_, hd⟩
  rw [e2] at hz hd
  rcases List.mem_cons.1 hz with e3 | e3
  · omega
  · have := (List.pairwise_cons.1 hd).1 z e3; omega
theorem dsc_last (a : List Int) : Dsc (a.drop (a.length - 1)) := by
  have : (a.drop (a.length - 1)).length ≤ 1 := by rw [List.length_drop]; omega
  rcases h : a.drop (a.length - 1) with _ | ⟨x, _ | ⟨y, r⟩⟩
  · exact List.Pairwise.nil
  · exact List.pairwise_cons.2 ⟨fun z hz => by simp at hz, List.Pairwise.nil⟩
  · rw [h] at this; simp at this
theorem ld10 {l : List Int} (h : l.length = 10) : List.take 10 (List.drop 0 (l.map (PV.int .i64))) = l.map (PV.int .i64) := List.take_of_length_le (by rw [List.drop_zero, List.length_map, h]; exact Nat.le_refl _)
theorem aft_end0 {a : List Int} (hd : Dsc a) {o m : Nat} (ho : o = 0) (hm : m = a.length) : ∃ b, NextOf a b ∧ ((arr a).take o ++ (((arr a).drop o).take m).reverse ++ (arr a).drop (o + m)) = arr b := by
  subst ho; subst hm
  refine ⟨a.reverse, .inl ⟨hd, rfl⟩, ?_⟩
  unfold arr
  rw [List.take_zero, List.nil_append, List.drop_zero, Nat.zero_add, List.take_left, List.drop_left, List.length_reverse]
theorem aft_gt {a : List Int} {t g o m : Nat} (ht : 0 < t) (htn : t < a.length) (hd : Dsc (a.drop t)) (hg1 : t ≤ g) (hg2 : g < a.length) (hgt : a.getD (t - 1) 0 < a.getD g 0) (hle : ∀ j, g < j → j < a.length → a.getD j 0 ≤ a.getD (t - 1) 0) (ho : o = t) (hm : m = a.length - t) :
    ∃ b, NextOf a b ∧ ((swpL (arr a) (t - 1) g).take o ++ (((swpL (arr a) (t - 1) g).drop o).take m).reverse ++ (swpL (arr a) (t - 1) g).drop (o + m)) = arr b := by
  subst ho; subst hm
  obtain ⟨P, x, T1, y, T2, ha, hP, hT1⟩ : ∃ P x T1 y T2, a = P ++ x :: (T1 ++ y :: T2) ∧ P.length = o - 1 ∧ T1.length = g - o := by
    refine ⟨a.take (o - 1), a.getD (o - 1) 0, (a.drop o).take (g - o), a.getD g 0, a.drop (g + 1), ?_, by rw [List.length_take]; omega, by rw [List.length_take, List.length_drop]; omega⟩
    have e1 : a.drop g = a.getD g 0 :: a.drop (g + 1) := by
      rw [List.drop_eq_getElem_cons hg2, List.getD_eq_getElem?_getD, List.getElem?_eq_getElem hg2]; rfl
    have e2 : a.drop o = (a.drop o).take (g - o) ++ a.drop g := by
      conv => lhs; rw [← List.take_append_drop (g - o) (a.drop o)]
      rw [List.drop_drop, show o + (g - o) = g by omega]
    have e3 : a.drop (o - 1) = a.getD (o - 1) 0 :: a.drop o := by
      rw [List.drop_eq_getElem_cons (show o - 1 < a.length by omega), show o - 1 + 1 = o by omega, List.getD_eq_getElem?_getD, List.getElem?_eq_getElem (show o - 1 < a.length by omega)]; rfl
    rw [← e1, ← e2, ← e3, List.take_append_drop]
  have hx : a.getD (o - 1) 0 = x := by rw [ha]; exact gmid' P _ x hP
  have hy : a.getD g 0 = y := by
    rw [ha, show P ++ x :: (T1 ++ y :: T2) = (P ++ x :: T1) ++ y :: T2 by simp]
    exact gmid' _ _ _ (by simp [hP, hT1]; omega)
  have hdr : a.drop o = T1 ++ y :: T2 := by
    rw [ha, show P ++ x :: (T1 ++ y :: T2) = (P ++ [x]) ++ (T1 ++ y :: T2) by simp, List.drop_left' (by simp [hP]; omega)]
  have hal : a.length = P.length + 1 + (T1.length + 1 + T2.length) := by rw [ha]; simp; omega
  have hT2 : ∀ z ∈ T2, z ≤ x := fun z hz => by
    obtain ⟨i, hi, rfl⟩ := List.getElem_of_mem hz
    have h1 := hle (g + 1 + i) (by omega) (by omega)
    have h2 : a.getD (g + 1 + i) 0 = T2[i] := by
      rw [ha, show P ++ x :: (T1 ++ y :: T2) = (P ++ x :: T1 ++ [y]) ++ T2 by simp, List.getD_eq_getElem?_getD, List.getElem?_append_right (by simp [hP, hT1]; omega)]
      rw [show g + 1 + i - (P ++ x :: T1 ++ [y]).length = i by simp [hP, hT1]; omega, List.getElem?_eq_getElem hi]; rfl
    rw [h2, hx] at h1; exact h1
  refine ⟨P ++ y :: (T1 ++ x :: T2).reverse, .inr ⟨P, T1, T2, x, y, ha, by rw [← hdr]; exact hd, by rw [← hx, ← hy]; exact hgt, hT2, rfl⟩, ?_⟩
  have hs : swpL (arr a) (o - 1) g = P ++ y :: (T1 ++ x :: (T2 ++ List.replicate (10 - a.length) 0)) := by
    have hap : ∀ z : List Int, a ++ z = P ++ x :: (T1 ++ y :: (T2 ++ z)) := fun z => by rw [ha]; simp
    unfold arr
    rw [hap]
    exact swpL_mid P T1 _ x y hP (by omega)
  rw [hs, show P ++ y :: (T1 ++ x :: (T2 ++ List.replicate (10 - a.length) (0 : Int))) = (P ++ [y]) ++ ((T1 ++ x :: T2) ++ List.replicate (10 - a.length) 0) by simp]
  have l1 : (P ++ [y]).length = o := by simp [hP]; omega
  have l2 : (T1 ++ x :: T2).length = a.length - o := by simp; omega
  rw [List.take_left' l1, List.drop_left' l1, List.take_left' l2, ← List.drop_drop, List.drop_left' l1, List.drop_left' l2]
  unfold arr
  simp [hal]
  congr 1
  omega
set_option maxRecDepth 8000 in
set_option maxHeartbeats 4000000 in
theorem impl_afterSequence (a : List Int) (h10 : a.length ≤ 10) : PCalls Tryd.prog 56 [.agg ((arr a).map (.int .i64)), .int .i64 (a.length : Nat)] (fun rs => ∃ b, NextOf a b ∧ rs = [.val (.agg ((arr b).map (.int .i64)))]) := by
  refine pcalls_of_code (n := 55) az Tryd.func56 (by kernel_rfl) rfl rfl (Nat.le_of_ble_eq_true rfl) (by intro t u h; simp [Tryd.f56] at h; obtain ⟨_, rfl⟩ := h <;> first | exact resTy_agg agg_77 (by decide)) ?_
  have hfl := flat_map (PV.int .i64) (fun _ => rfl) (arr a)
  rw [show inits false 0 [.agg ((arr a).map (.int .i64)), .int .i64 (a.length : Nat)] = [(0, SV.val (.agg ((arr a).map (.int .i64)))), (1, SV.val (.int .i64 (a.length : Nat)))] from by simp [inits, PV.start, PV.flat, hfl]]
  refine code_seq (fun K1 hK1 => ?_)
  refine code_region ?_
  refine list_cons rfl (op_box rfl (.inl ⟨rfl, hfl⟩) (by decide) (by decide) rfl ?_)
  refine list_cons rfl (op_alloc zt_77 (by decide) (by decide) rfl ?_)
  refine list_nil ?_
  refine hK1 _ ?_; clear hK1 K1
  refine code_seq (fun K2 hK2 => ?_)
  refine code_region ?_
  refine list_cons rfl (op_q (q_move rfl (by decide)) ?_)
  refine list_cons rfl (op_q (by first | exact q_subI rfl rfl (by decide) (by omega) (by omega) | exact q_ib rfl rfl rfl (by decide)) ?_)
  refine list_cons rfl (op_q (q_max rfl rfl (by decide)) ?_)
  refine list_cons rfl (op_q (q_assign rfl (by decide)) ?_)
  refine list_nil ?_
  refine hK2 _ ?_; clear hK2 K2
  refine code_seq (fun K3 hK3 => ?_)
  refine code_block ?_
  refine code_loop (X := Int) (fun x => [(0, .val (.agg ((arr a).map (.int .i64)))), (1, .val (.int .i64 (a.length : Nat))), (2, .box 2 77 ((arr a).map (.int .i64))), (4, .box 4 77 ((List.replicate 10 0).map (.int .i64))), (5, .val (.int .i64 x))]) (fun x => 0 ≤ x ∧ (x + 1 ≤ a.length ∨ x = 0) ∧ Dsc (a.drop x.toNat)) (fun x => x.toNat) (_) (imp_covers ⟨rfl, rfl, rfl, rfl, rfl, trivial⟩) ?_ ?_
  · (try dsimp only)
    have hm : (if (0 : Int) > (a.length : Int) - 1 then (0 : Int) else (a.length : Int) - 1) = ((a.length - 1 : Nat) : Int) := by split <;> omega
    rw [hm]
    exact ⟨by omega, by omega, by rw [Int.toNat_natCast]; exact dsc_last a⟩
  · intro x hI
    revert hI; revert x; intro tail hI
    replace hI : 0 ≤ tail ∧ (tail + 1 ≤ a.length ∨ tail = 0) ∧ Dsc (a.drop tail.toNat) := hI
    show codeT _ _ _ [(0, .val (.agg ((arr a).map (.int .i64)))), (1, .val (.int .i64 (a.length : Nat))), (2, .box 2 77 ((arr a).map (.int .i64))), (4, .box 4 77 ((List.replicate 10 0).map (.int .i64))), (5, .val (.int .i64 tail))] _
    obtain ⟨i1, i2, i3⟩ := hI
    have hv1 := fun h : 0 < tail => arr_at (a := a) (j := (tail - 1).toNat) (by omega)
    have hv2 := fun h : 0 < tail => arr_at (a := a) (j := tail.toNat) (by omega)
    refine code_seq (fun K4 hK4 => ?_)
    refine code_seq (fun K5 hK5 => ?_)
    refine code_draw (by kernel_rfl) (by kernel_rfl) ?_
    refine draw_q rfl (q_move rfl (by decide)) ?_
    refine draw_q rfl (q_gt rfl rfl (by decide)) ?_
    refine draw_q rfl (q_move rfl (by decide)) ?_
    refine draw_guard_d rfl rfl rfl rfl (by decide) rfl (by decide) (fun h1 => q_move rfl (by decide)) (fun h1 => ?_) (fun h1 => ?_)
    · simp only [Bool.false_eq_true, if_true, if_false, Decidable.not_not] at h1
      refine draw_guard_y rfl rfl rfl rfl (by decide) rfl (by first | exact q_subI rfl rfl (by decide) (by omega) (by omega) | exact q_ib rfl rfl rfl (by decide)) ?_
      refine draw_guard_y rfl rfl rfl rfl (by decide) rfl (q_indexAddr_arr arr_77 rfl rfl rfl (by omega) (by omega) (by decide)) ?_
      refine draw_guard_y rfl rfl rfl rfl (by decide) rfl (q_load one_3 2 rfl rfl rfl (by first | exact get_map1 (PV.int .i64) 0 (arr a) (k := (tail - 1).toNat) (by rw [arr_len h10]; omega) | exact get_map1 (PV.int .i64) 0 (arr a) (k := tail.toNat) (by rw [arr_len h10]; omega)) (by decide)) ?_
      refine draw_guard_y rfl rfl rfl rfl (by decide) rfl (q_move rfl (by decide)) ?_
      refine draw_guard_y rfl rfl rfl rfl (by decide) rfl (q_indexAddr_arr arr_77 rfl rfl rfl (by omega) (by omega) (by decide)) ?_
      refine draw_guard_y rfl rfl rfl rfl (by decide) rfl (q_load one_3 2 rfl rfl rfl (by first | exact get_map1 (PV.int .i64) 0 (arr a) (k := (tail - 1).toNat) (by rw [arr_len h10]; omega) | exact get_map1 (PV.int .i64) 0 (arr a) (k := tail.toNat) (by rw [arr_len h10]; omega)) (by decide)) ?_
      refine draw_guard_y rfl rfl rfl rfl (by decide) rfl (q_ge rfl rfl (by decide)) ?_
      refine draw_q rfl (q_pick rfl rfl (by decide)) ?_
      refine draw_nil ?_
      refine hK5 _ ?_; clear hK5 K5
      refine codeT.imp (σ' := [(0, _), (1, _), (2, _), (4, _), (5, _), (21, _)]) ?_ (imp_covers ⟨rfl, rfl, rfl, rfl, rfl, rfl, trivial⟩)
      refine code_cond_d rfl (fun h2 => ?_) (fun h2 => ?_)
      · skip
        (try simp only [Decidable.not_not] at h2)
        refine code_skip ?_
        refine hK4 _ ?_; clear hK4 K4
        refine code_block ?_
        refine code_region ?_
        refine list_cons rfl (op_q (q_move rfl (by decide)) ?_)
        refine list_cons rfl (op_q (by first | exact q_subI rfl rfl (by decide) (by omega) (by omega) | exact q_ib rfl rfl rfl (by decide)) ?_)
        refine list_cons rfl (op_q (q_assign rfl (by decide)) ?_)
        refine list_nil ?_
        refine blk_n ?_
        refine then_n ⟨(_), imp_covers ⟨rfl, rfl, rfl, rfl, rfl, trivial⟩, ?_, ?_⟩
        · (try dsimp only)
          (have e1 := hv1 (by omega); have e2 := hv2 (by omega); have hx := h2; rw [e1, e2] at hx; exact ⟨by omega, by omega, by rw [show (tail - 1).toNat = tail.toNat - 1 by omega] at hx ⊢; exact dsc_step (by omega) (by omega) i3 (by omega)⟩)
        · (try dsimp only); omega
      (try simp only [Decidable.not_not] at h2)
      refine code_exit ?_
      refine then_x ?_; clear hK4 K4
      refine then_x ?_
      refine blk_hit ?_
      refine hK3 _ ?_; clear hK3 K3
      refine code_seq (fun K6 hK6 => ?_)
      refine code_seq (fun K7 hK7 => ?_)
      refine code_region ?_
      refine list_cons rfl (op_q (q_move rfl (by decide)) ?_)
      refine list_cons rfl (op_q (q_gt rfl rfl (by decide)) ?_)
      refine list_nil ?_
      refine hK7 _ ?_; clear hK7 K7
      refine code_cond_d rfl (fun h3 => ?_) (fun h3 => ?_)
      · skip
        (try simp only [Decidable.not_not] at h3)
        refine code_seq (fun K8 hK8 => ?_)
        refine code_region ?_
        refine list_cons rfl (op_q (q_move rfl (by decide)) ?_)
        refine list_cons rfl (op_q (by first | exact q_subI rfl rfl (by decide) (by omega) (by omega) | exact q_ib rfl rfl rfl (by decide)) ?_)
        refine list_cons rfl (op_q (q_assign rfl (by decide)) ?_)
        refine list_nil ?_
        refine hK8 _ ?_; clear hK8 K8
        refine code_seq (fun K9 hK9 => ?_)
        refine code_block ?_
        refine code_loop (X := Int) (fun x => [(0, .val (.agg ((arr a).map (.int .i64)))), (1, .val (.int .i64 (a.length : Nat))), (2, .box 2 77 ((arr a).map (.int .i64))), (4, .box 4 77 ((List.replicate 10 0).map (.int .i64))), (5, .val (.int .i64 tail)), (6, .val (.int .i64 x))]) (fun x => 0 < tail ∧ tail ≤ x ∧ x + 1 ≤ a.length ∧ a.getD (tail.toNat - 1) 0 < a.getD tail.toNat 0 ∧ ∀ j, x.toNat < j → j < a.length → a.getD j 0 ≤ a.getD (tail.toNat - 1) 0) (fun x => x.toNat) (_) (imp_covers ⟨rfl, rfl, rfl, rfl, rfl, rfl, trivial⟩) ?_ ?_
        · (try dsimp only)
          first
            | (exfalso; omega)
            | (have e1 := hv1 (by omega); have e2 := hv2 (by omega)
               have hx : ¬ (arr a).getD (tail - 1).toNat 0 ≥ (arr a).getD tail.toNat 0 := (by assumption)
               rw [e1, e2, show (tail - 1).toNat = tail.toNat - 1 by omega] at hx
               exact ⟨by omega, by omega, by omega, by omega, fun j h1 h2 => by omega⟩)
        · intro x hI
          revert hI; revert x; intro greater hI
          replace hI : 0 < tail ∧ tail ≤ greater ∧ greater + 1 ≤ a.length ∧ a.getD (tail.toNat - 1) 0 < a.getD tail.toNat 0 ∧ ∀ j, greater.toNat < j → j < a.length → a.getD j 0 ≤ a.getD (tail.toNat - 1) 0 := hI
          show codeT _ _ _ [(0, .val (.agg ((arr a).map (.int .i64)))), (1, .val (.int .i64 (a.length : Nat))), (2, .box 2 77 ((arr a).map (.int .i64))), (4, .box 4 77 ((List.replicate 10 0).map (.int .i64))), (5, .val (.int .i64 tail)), (6, .val (.int .i64 greater))] _
          obtain ⟨g1, g2, g3, g4, g5⟩ := hI
          have hv3 := arr_at (a := a) (j := greater.toNat) (by omega)
          have hv4 := arr_at (a := a) (j := (tail - 1).toNat) (by omega)
          refine code_seq (fun K10 hK10 => ?_)
          refine code_seq (fun K11 hK11 => ?_)
          refine code_draw (by kernel_rfl) (by kernel_rfl) ?_
          refine draw_q rfl (q_move rfl (by decide)) ?_
          refine draw_q rfl (q_indexAddr_arr arr_77 rfl rfl rfl (by omega) (by omega) (by decide)) ?_
          refine draw_q rfl (q_load one_3 2 rfl rfl rfl (by first | exact get_map1 (PV.int .i64) 0 (arr a) (k := greater.toNat) (by rw [arr_len h10]; omega) | exact get_map1 (PV.int .i64) 0 (arr a) (k := (tail - 1).toNat) (by rw [arr_len h10]; omega)) (by decide)) ?_
          refine draw_q rfl (q_move rfl (by decide)) ?_
          refine draw_q rfl (by first | exact q_subI rfl rfl (by decide) (by omega) (by omega) | exact q_ib rfl rfl rfl (by decide)) ?_
          refine draw_q rfl (q_indexAddr_arr arr_77 rfl rfl rfl (by omega) (by omega) (by decide)) ?_
          refine draw_q rfl (q_load one_3 2 rfl rfl rfl (by first | exact get_map1 (PV.int .i64) 0 (arr a) (k := greater.toNat) (by rw [arr_len h10]; omega) | exact get_map1 (PV.int .i64) 0 (arr a) (k := (tail - 1).toNat) (by rw [arr_len h10]; omega)) (by decide)) ?_
          refine draw_q rfl (q_le rfl rfl (by decide)) ?_
          refine draw_nil ?_
          refine hK11 _ ?_; clear hK11 K11
          refine codeT.imp (σ' := [(0, _), (1, _), (2, _), (4, _), (5, _), (6, _), (35, _)]) ?_ (imp_covers ⟨rfl, rfl, rfl, rfl, rfl, rfl, rfl, trivial⟩)
          refine code_cond_d rfl (fun h4 => ?_) (fun h4 => ?_)
          · skip
            (try simp only [Decidable.not_not] at h4)
            refine code_skip ?_
            refine hK10 _ ?_; clear hK10 K10
            refine code_block ?_
            refine code_region ?_
            refine list_cons rfl (op_q (q_move rfl (by decide)) ?_)
            refine list_cons rfl (op_q (by first | exact q_subI rfl rfl (by decide) (by omega) (by omega) | exact q_ib rfl rfl rfl (by decide)) ?_)
            refine list_cons rfl (op_q (q_assign rfl (by decide)) ?_)
            refine list_nil ?_
            refine blk_n ?_
            refine then_n ⟨(_), imp_covers ⟨rfl, rfl, rfl, rfl, rfl, rfl, trivial⟩, ?_, ?_⟩
            · (try dsimp only)
              have hx := h4
              rw [hv3, hv4, show (tail - 1).toNat = tail.toNat - 1 by omega] at hx
              have hne : greater ≠ tail := fun e => by rw [e] at hx; omega
              refine ⟨g1, by omega, by omega, g4, fun j h1 h2 => ?_⟩
              by_cases e : j = greater.toNat
              · subst e; exact hx
              · exact g5 j (by omega) h2
            · (try dsimp only); omega
          (try simp only [Decidable.not_not] at h4)
          refine code_exit ?_
          refine then_x ?_; clear hK10 K10
          refine then_x ?_
          refine blk_hit ?_
          refine hK9 _ ?_; clear hK9 K9
          refine any_start fun ob1_0 => ?_
          refine any_op (rd := [5]) ob1_0 rfl rfl rfl (anyT_quiet [(5, _)] ⟨rfl, trivial⟩ rfl (q_move rfl (by decide))) (fun ob1_1 => ?_)
          simp only [List.cons_append, List.nil_append] at ob1_1
          refine any_op (rd := [38]) ob1_1 rfl rfl rfl (anyT_quiet [(38, _)] ⟨rfl, trivial⟩ rfl (by first | exact q_subI rfl rfl (by decide) (by omega) (by omega) | exact q_ib rfl rfl rfl (by decide))) (fun ob1_2 => ?_)
          simp only [List.cons_append, List.nil_append] at ob1_2
          refine any_op (rd := [6]) ob1_2 rfl rfl rfl (anyT_quiet [(6, _)] ⟨rfl, trivial⟩ rfl (q_move rfl (by decide))) (fun ob1_3 => ?_)
          simp only [List.cons_append, List.nil_append] at ob1_3
          refine any_op (rd := [6]) ob1_3 rfl rfl rfl (anyT_quiet [(6, _)] ⟨rfl, trivial⟩ rfl (q_move rfl (by decide))) (fun ob1_4 => ?_)
          simp only [List.cons_append, List.nil_append] at ob1_4
          refine any_op (rd := [2, 41]) ob1_4 rfl rfl rfl (anyT_quiet [(2, _), (41, _)] ⟨rfl, rfl, trivial⟩ rfl (q_indexAddr_arr arr_77 rfl rfl rfl (by omega) (by omega) (by decide))) (fun ob1_5 => ?_)
          simp only [List.cons_append, List.nil_append] at ob1_5
          refine any_op (rd := [42, 2]) ob1_5 rfl rfl rfl (anyT_quiet [(42, _), (2, _)] ⟨rfl, rfl, trivial⟩ rfl (q_load one_3 2 rfl rfl rfl (by first | exact get_map1 (PV.int .i64) 0 (arr a) (k := greater.toNat) (by rw [arr_len h10]; omega) | exact get_map1 (PV.int .i64) 0 (arr a) (k := (tail - 1).toNat) (by rw [arr_len h10]; omega)) (by decide))) (fun ob1_6 => ?_)
          simp only [List.cons_append, List.nil_append] at ob1_6
          refine any_op (rd := [5]) ob1_6 rfl rfl rfl (anyT_quiet [(5, _)] ⟨rfl, trivial⟩ rfl (q_move rfl (by decide))) (fun ob1_7 => ?_)
          simp only [List.cons_append, List.nil_append] at ob1_7
          refine any_op (rd := [44]) ob1_7 rfl rfl rfl (anyT_quiet [(44, _)] ⟨rfl, trivial⟩ rfl (by first | exact q_subI rfl rfl (by decide) (by omega) (by omega) | exact q_ib rfl rfl rfl (by decide))) (fun ob1_8 => ?_)
          simp only [List.cons_append, List.nil_append] at ob1_8
          refine any_op (rd := [2, 45]) ob1_8 rfl rfl rfl (anyT_quiet [(2, _), (45, _)] ⟨rfl, rfl, trivial⟩ rfl (q_indexAddr_arr arr_77 rfl rfl rfl (by omega) (by omega) (by decide))) (fun ob1_9 => ?_)
          simp only [List.cons_append, List.nil_append] at ob1_9
          refine any_op (rd := [46, 2]) ob1_9 rfl rfl rfl (anyT_quiet [(46, _), (2, _)] ⟨rfl, rfl, trivial⟩ rfl (q_load one_3 2 rfl rfl rfl (by first | exact get_map1 (PV.int .i64) 0 (arr a) (k := greater.toNat) (by rw [arr_len h10]; omega) | exact get_map1 (PV.int .i64) 0 (arr a) (k := (tail - 1).toNat) (by rw [arr_len h10]; omega)) (by decide))) (fun ob1_10 => ?_)
          simp only [List.cons_append, List.nil_append] at ob1_10
          refine any_op (rd := [2, 39]) ob1_10 rfl rfl rfl (anyT_quiet [(2, _), (39, _)] ⟨rfl, rfl, trivial⟩ rfl (q_indexAddr_arr arr_77 rfl rfl rfl (by omega) (by omega) (by decide))) (fun ob1_11 => ?_)
          simp only [List.cons_append, List.nil_append] at ob1_11
          refine any_st (rd := [2, 42, 43, 46, 48]) ob1_11 rfl rfl (fun σ hag hfr => by have e2 : σ.at 2 = some _ := (hag 2 (by decide)).trans rfl; have e42 : σ.at 42 = some _ := (hag 42 (by decide)).trans rfl; have e43 : σ.at 43 = some _ := (hag 43 (by decide)).trans rfl; have e46 : σ.at 46 = some _ := (hag 46 (by decide)).trans rfl; have e48 : σ.at 48 = some _ := (hag 48 (by decide)).trans rfl; exact opT.mono (op_store (one_3).2 2 [2] (by intro t ht; simp only [List.mem_cons, List.not_mem_nil, or_false] at ht; subst ht; exact e2) (.inl e48) e2 rfl e43 rfl rfl rfl (by first | (rw [List.length_map, arr_len h10]; omega) | (unfold putAt; simp [arr_len h10]; omega)) (by decide) rfl rfl) (fun σ2 h2 => by subst h2; exact post_updA (L := 2) [42, 46, 48] e2 (by intro h hm; simp only [List.mem_cons, List.not_mem_nil, or_false] at hm; rcases hm with rfl | rfl | rfl <;> exact ⟨_, by assumption⟩) rfl hfr)) (fun ob1_12 => ?_)
          simp only [List.cons_append, List.nil_append] at ob1_12
          refine any_end [[], [0], [], [], [3], [3, 4], [], [6], [6, 7], [6, 7, 8], [0, 1, 3, 4, 5, 6, 7, 8, 9], [0, 1, 3, 4, 5, 6, 7, 8, 9, 10], [0, 1, 2, 3, 4, 5, 6, 7, 8, 9, 10, 11], [0, 1, 2, 3, 4, 5, 6, 7, 8, 9, 10, 11, 12]] ob1_12 (by kernel_rfl) (Nat.le_of_ble_eq_true rfl) (by decide) (by decide) (by kernel_rfl) (by kernel_rfl) (by kernel_rfl) (by kernel_rfl) (by kernel_rfl) ?_
          clear ob1_0 ob1_1 ob1_2 ob1_3 ob1_4 ob1_5 ob1_6 ob1_7 ob1_8 ob1_9 ob1_10 ob1_11 ob1_12
          refine listT.imp (σ' := [(0, _), (1, _), (2, _), (4, _), (5, _), (6, _), (35, _), (38, _), (39, _), (40, _), (41, _), (42, _), (43, _), (44, _), (45, _), (46, _), (47, _), (48, _)]) ?_ (imp_covers ⟨rfl, rfl, rfl, rfl, rfl, rfl, rfl, rfl, rfl, rfl, rfl, rfl, rfl, rfl, rfl, rfl, rfl, rfl, trivial⟩)
          refine list_cons rfl (op_q (q_indexAddr_arr arr_77 rfl rfl rfl (by omega) (by omega) (by decide)) ?_)
          refine list_cons rfl (op_store (one_3).2 2 [2] (by intro t ht; simp only [List.mem_cons, List.not_mem_nil, or_false] at ht; subst ht; rfl) (.inl rfl) rfl rfl rfl rfl rfl rfl (by first | (rw [List.length_map, arr_len h10]; omega) | (unfold putAt; simp [arr_len h10]; omega)) (by decide) rfl ?_)
          refine list_nil ?_
          refine hK6 _ ?_; clear hK6 K6
          refine codeT.imp (σ' := [(0, _), (1, _), (2, .box 2 77 ((swpL (arr a) (tail - 1).toNat greater.toNat).map (.int .i64))), (4, _), (5, _), (6, _)]) ?_ (imp_covers ⟨rfl, rfl, (congrArg (fun z => some (SV.box 2 77 z)) (put2_swp (by rw [arr_len h10]; omega) (by rw [arr_len h10]; omega) (Nat.mul_one _) (Nat.mul_one _) rfl rfl)), rfl, rfl, rfl, trivial⟩)
          refine code_seq (fun K12 hK12 => ?_)
          refine code_region ?_
          refine list_cons rfl (op_q (q_move rfl (by decide)) ?_)
          refine list_cons rfl (op_q (q_move rfl (by decide)) ?_)
          refine list_cons rfl (op_q (q_sliceBox Tryd.underlying77 one_3.2 rfl ⟨_, rfl⟩ ⟨_, rfl⟩ (by omega) (by omega) (by omega) (by decide)) ?_)
          refine listT.imp ?_ (imp_vbox (h := 2) (x := 52) rfl rfl)
          refine list_cons rfl (op_callM (reverse_V _ _ _ _ ?_ ?_) (.tmp 52) 2 [52] [] _ rfl rfl (by intro y hy; cases hy; exact ⟨rfl, (by intro t ht; simp only [List.mem_cons, List.not_mem_nil, or_false] at ht; subst ht; rfl), (by intro s hs; simp only [List.mem_cons, List.not_mem_nil, or_false] at hs; (try cases hs))⟩) (by decide) (by decide) (by decide) rfl (fun _ => rfl) ?_)
          · (simp [swpL_len, arr_len h10]; omega)
          · (simp [swpL_len, arr_len h10])
          rintro _ _ ⟨rfl, rfl⟩
          refine listT.imp ?_ (imp_unvbox (h := 2) (x := 52) rfl rfl)
          refine list_nil ?_
          refine hK12 _ ?_; clear hK12 K12
          refine codeT.imp (σ' := [(0, _), (1, _), (2, _), (4, _), (5, _), (6, _)]) ?_ (imp_covers ⟨rfl, rfl, rfl, rfl, rfl, rfl, trivial⟩)
          refine code_seq (fun K13 hK13 => ?_)
          refine code_region ?_
          refine list_cons rfl (op_q (q_cast (q_load_agg agg_77 2 (.inr ⟨rfl, _, rfl⟩) rfl rfl (by simp [swpL_len, arr_len h10]; omega) (by first | rfl | exact flat_part (flat_map _ (fun _ => rfl) _) _ _) (by decide)) (congrArg (fun z => SV.val (PV.agg z)) (ld10 (by simp [swpL_len, arr_len h10]; omega)))) ?_)
          refine list_cons rfl (op_store (agg_77).2 4 [4] (by intro t ht; simp only [List.mem_cons, List.not_mem_nil, or_false] at ht; subst ht; rfl) (.inr ⟨rfl, _, rfl⟩) rfl rfl rfl rfl (by first | rfl | exact flat_part (flat_map _ (fun _ => rfl) _) _ _ | exact flat_map _ (fun _ => rfl) _) (by first | rfl | (simp [PV.cells, swpL_len, arr_len h10]; omega)) (by decide) (by decide) rfl ?_)
          refine list_nil ?_
          refine hK13 _ ?_; clear hK13 K13
          refine codeT.imp (σ' := [(0, _), (1, _), (2, _), (4, .box 4 77 _), (5, _), (6, _)]) ?_ (imp_covers ⟨rfl, rfl, rfl, (congrArg (fun z => some (SV.box 4 77 z)) (put_all8 (n := 10) rfl (by simp [swpL_len, arr_len h10]; omega))), rfl, rfl, trivial⟩)
          refine code_ret ?_
          refine ends_ret (cs := []) (res_agg8 rfl rfl (flat_map _ (fun _ => rfl) _) (by show _ = 10; simp [swpL_len, arr_len h10]; omega)) rfl rfl rfl trivial ?_
          first
            | (have hx : ¬ (arr a).getD greater.toNat 0 ≤ (arr a).getD (tail - 1).toNat 0 := (by assumption)
               rw [hv3, hv4] at hx
               have e0 : (tail - 1).toNat = tail.toNat - 1 := by omega
               obtain ⟨b, hb1, hb2⟩ := aft_gt (a := a) (t := tail.toNat) (g := greater.toNat) (o := tail.toNat) (m := (a.length : Int).toNat - tail.toNat) (by omega) (by omega) i3 (by omega) (by omega) (by rw [← e0]; omega) g5 rfl (by omega)
               rw [← e0] at hb2
               exact ⟨b, hb1, by rw [hb2]⟩)
            | (have ht : tail.toNat = 0 := by omega
               obtain ⟨b, hb1, hb2⟩ := aft_end0 (a := a) (o := tail.toNat) (m := (a.length : Int).toNat - tail.toNat) (by rw [ht] at i3; exact i3) ht (by omega)
               exact ⟨b, hb1, by rw [hb2]⟩)
            | (exfalso
               have hx : ¬ (arr a).getD (tail - 1).toNat 0 ≥ (arr a).getD tail.toNat 0 := (by assumption)
               omega)
      (try simp only [Decidable.not_not] at h3)
      refine code_skip ?_
      refine hK6 _ ?_; clear hK6 K6
      refine code_seq (fun K14 hK14 => ?_)
      refine code_region ?_
      refine list_cons rfl (op_q (q_move rfl (by decide)) ?_)
      refine list_cons rfl (op_q (q_move rfl (by decide)) ?_)
      refine list_cons rfl (op_q (q_sliceBox Tryd.underlying77 one_3.2 rfl ⟨_, rfl⟩ ⟨_, rfl⟩ (by omega) (by omega) (by omega) (by decide)) ?_)
      refine listT.imp ?_ (imp_vbox (h := 2) (x := 52) rfl rfl)
      refine list_cons rfl (op_callM (reverse_V _ _ _ _ ?_ ?_) (.tmp 52) 2 [52] [] _ rfl rfl (by intro y hy; cases hy; exact ⟨rfl, (by intro t ht; simp only [List.mem_cons, List.not_mem_nil, or_false] at ht; subst ht; rfl), (by intro s hs; simp only [List.mem_cons, List.not_mem_nil, or_false] at hs; (try cases hs))⟩) (by decide) (by decide) (by decide) rfl (fun _ => rfl) ?_)
      · (simp [swpL_len, arr_len h10]; omega)
      · (simp [swpL_len, arr_len h10])
      rintro _ _ ⟨rfl, rfl⟩
      refine listT.imp ?_ (imp_unvbox (h := 2) (x := 52) rfl rfl)
      refine list_nil ?_
      refine hK14 _ ?_; clear hK14 K14
      refine codeT.imp (σ' := [(0, _), (1, _), (2, _), (4, _), (5, _)]) ?_ (imp_covers ⟨rfl, rfl, rfl, rfl, rfl, trivial⟩)
      refine code_seq (fun K15 hK15 => ?_)
      refine code_region ?_
      refine list_cons rfl (op_q (q_cast (q_load_agg agg_77 2 (.inr ⟨rfl, _, rfl⟩) rfl rfl (by simp [swpL_len, arr_len h10]; omega) (by first | rfl | exact flat_part (flat_map _ (fun _ => rfl) _) _ _) (by decide)) (congrArg (fun z => SV.val (PV.agg z)) (ld10 (by simp [swpL_len, arr_len h10]; omega)))) ?_)
      refine list_cons rfl (op_store (agg_77).2 4 [4] (by intro t ht; simp only [List.mem_cons, List.not_mem_nil, or_false] at ht; subst ht; rfl) (.inr ⟨rfl, _, rfl⟩) rfl rfl rfl rfl (by first | rfl | exact flat_part (flat_map _ (fun _ => rfl) _) _ _ | exact flat_map _ (fun _ => rfl) _) (by first | rfl | (simp [PV.cells, swpL_len, arr_len h10]; omega)) (by decide) (by decide) rfl ?_)
      refine list_nil ?_
      refine hK15 _ ?_; clear hK15 K15
      refine codeT.imp (σ' := [(0, _), (1, _), (2, _), (4, .box 4 77 _), (5, _)]) ?_ (imp_covers ⟨rfl, rfl, rfl, (congrArg (fun z => some (SV.box 4 77 z)) (put_all8 (n := 10) rfl (by simp [swpL_len, arr_len h10]; omega))), rfl, trivial⟩)
      refine code_ret ?_
      refine ends_ret (cs := []) (res_agg8 rfl rfl (flat_map _ (fun _ => rfl) _) (by show _ = 10; simp [swpL_len, arr_len h10]; omega)) rfl rfl rfl trivial ?_
      first
        | (have hx : ¬ (arr a).getD greater.toNat 0 ≤ (arr a).getD (tail - 1).toNat 0 := (by assumption)
           rw [hv3, hv4] at hx
           have e0 : (tail - 1).toNat = tail.toNat - 1 := by omega
           obtain ⟨b, hb1, hb2⟩ := aft_gt (a := a) (t := tail.toNat) (g := greater.toNat) (o := tail.toNat) (m := (a.length : Int).toNat - tail.toNat) (by omega) (by omega) i3 (by omega) (by omega) (by rw [← e0]; omega) g5 rfl (by omega)
           rw [← e0] at hb2
           exact ⟨b, hb1, by rw [hb2]⟩)
        | (have ht : tail.toNat = 0 := by omega
           obtain ⟨b, hb1, hb2⟩ := aft_end0 (a := a) (o := tail.toNat) (m := (a.length : Int).toNat - tail.toNat) (by rw [ht] at i3; exact i3) ht (by omega)
           exact ⟨b, hb1, by rw [hb2]⟩)
        | (exfalso
           have hx : ¬ (arr a).getD (tail - 1).toNat 0 ≥ (arr a).getD tail.toNat 0 := (by assumption)
           omega)
    simp only [Bool.false_eq_true, if_true, if_false, Decidable.not_not] at h1
    refine draw_guard_n rfl rfl rfl rfl (by decide) rfl ?_
    refine draw_guard_n rfl rfl rfl rfl (by decide) rfl ?_
    refine draw_guard_n rfl rfl rfl rfl (by decide) rfl ?_
    refine draw_guard_n rfl rfl rfl rfl (by decide) rfl ?_
    refine draw_guard_n rfl rfl rfl rfl (by decide) rfl ?_
    refine draw_guard_n rfl rfl rfl rfl (by decide) rfl ?_
    refine draw_guard_n rfl rfl rfl rfl (by decide) rfl ?_
    refine draw_q rfl (q_pick rfl rfl (by decide)) ?_
    refine draw_nil ?_
    refine hK5 _ ?_; clear hK5 K5
    refine code_cond_f rfl ?_
    refine code_exit ?_
    refine then_x ?_; clear hK4 K4
    refine then_x ?_
    refine blk_hit ?_
    refine hK3 _ ?_; clear hK3 K3
    refine code_seq (fun K16 hK16 => ?_)
    refine code_seq (fun K17 hK17 => ?_)
    refine code_region ?_
    refine list_cons rfl (op_q (q_move rfl (by decide)) ?_)
    refine list_cons rfl (op_q (q_gt rfl rfl (by decide)) ?_)
    refine list_nil ?_
    refine hK17 _ ?_; clear hK17 K17
    refine code_cond_d rfl (fun h5 => ?_) (fun h5 => ?_)
    · skip
      (try simp only [Decidable.not_not] at h5)
      refine code_seq (fun K18 hK18 => ?_)
      refine code_region ?_
      refine list_cons rfl (op_q (q_move rfl (by decide)) ?_)
      refine list_cons rfl (op_q (by first | exact q_subI rfl rfl (by decide) (by omega) (by omega) | exact q_ib rfl rfl rfl (by decide)) ?_)
      refine list_cons rfl (op_q (q_assign rfl (by decide)) ?_)
      refine list_nil ?_
      refine hK18 _ ?_; clear hK18 K18
      refine codeT.imp (σ' := [(0, _), (1, _), (2, _), (4, _), (5, _), (6, _)]) ?_ (imp_covers ⟨rfl, rfl, rfl, rfl, rfl, rfl, trivial⟩)
      refine code_seq (fun K19 hK19 => ?_)
      refine code_block ?_
      refine code_loop (X := Int) (fun x => [(0, .val (.agg ((arr a).map (.int .i64)))), (1, .val (.int .i64 (a.length : Nat))), (2, .box 2 77 ((arr a).map (.int .i64))), (4, .box 4 77 ((List.replicate 10 0).map (.int .i64))), (5, .val (.int .i64 tail)), (6, .val (.int .i64 x))]) (fun x => 0 < tail ∧ tail ≤ x ∧ x + 1 ≤ a.length ∧ a.getD (tail.toNat - 1) 0 < a.getD tail.toNat 0 ∧ ∀ j, x.toNat < j → j < a.length → a.getD j 0 ≤ a.getD (tail.toNat - 1) 0) (fun x => x.toNat) (_) (imp_covers ⟨rfl, rfl, rfl, rfl, rfl, rfl, trivial⟩) ?_ ?_
      · (try dsimp only)
        first
          | (exfalso; omega)
          | (have e1 := hv1 (by omega); have e2 := hv2 (by omega)
             have hx : ¬ (arr a).getD (tail - 1).toNat 0 ≥ (arr a).getD tail.toNat 0 := (by assumption)
             rw [e1, e2, show (tail - 1).toNat = tail.toNat - 1 by omega] at hx
             exact ⟨by omega, by omega, by omega, by omega, fun j h1 h2 => by omega⟩)
      · intro x hI
        revert hI; revert x; intro greater hI
        replace hI : 0 < tail ∧ tail ≤ greater ∧ greater + 1 ≤ a.length ∧ a.getD (tail.toNat - 1) 0 < a.getD tail.toNat 0 ∧ ∀ j, greater.toNat < j → j < a.length → a.getD j 0 ≤ a.getD (tail.toNat - 1) 0 := hI
        show codeT _ _ _ [(0, .val (.agg ((arr a).map (.int .i64)))), (1, .val (.int .i64 (a.length : Nat))), (2, .box 2 77 ((arr a).map (.int .i64))), (4, .box 4 77 ((List.replicate 10 0).map (.int .i64))), (5, .val (.int .i64 tail)), (6, .val (.int .i64 greater))] _
        obtain ⟨g1, g2, g3, g4, g5⟩ := hI
        have hv3 := arr_at (a := a) (j := greater.toNat) (by omega)
        have hv4 := arr_at (a := a) (j := (tail - 1).toNat) (by omega)
        refine code_seq (fun K20 hK20 => ?_)
        refine code_seq (fun K21 hK21 => ?_)
        refine code_draw (by kernel_rfl) (by kernel_rfl) ?_
        refine draw_q rfl (q_move rfl (by decide)) ?_
        refine draw_q rfl (q_indexAddr_arr arr_77 rfl rfl rfl (by omega) (by omega) (by decide)) ?_
        refine draw_q rfl (q_load one_3 2 rfl rfl rfl (by first | exact get_map1 (PV.int .i64) 0 (arr a) (k := greater.toNat) (by rw [arr_len h10]; omega) | exact get_map1 (PV.int .i64) 0 (arr a) (k := (tail - 1).toNat) (by rw [arr_len h10]; omega)) (by decide)) ?_
        refine draw_q rfl (q_move rfl (by decide)) ?_
        refine draw_q rfl (by first | exact q_subI rfl rfl (by decide) (by omega) (by omega) | exact q_ib rfl rfl rfl (by decide)) ?_
        refine draw_q rfl (q_indexAddr_arr arr_77 rfl rfl rfl (by omega) (by omega) (by decide)) ?_
        refine draw_q rfl (q_load one_3 2 rfl rfl rfl (by first | exact get_map1 (PV.int .i64) 0 (arr a) (k := greater.toNat) (by rw [arr_len h10]; omega) | exact get_map1 (PV.int .i64) 0 (arr a) (k := (tail - 1).toNat) (by rw [arr_len h10]; omega)) (by decide)) ?_
        refine draw_q rfl (q_le rfl rfl (by decide)) ?_
        refine draw_nil ?_
        refine hK21 _ ?_; clear hK21 K21
        refine codeT.imp (σ' := [(0, _), (1, _), (2, _), (4, _), (5, _), (6, _), (35, _)]) ?_ (imp_covers ⟨rfl, rfl, rfl, rfl, rfl, rfl, rfl, trivial⟩)
        refine code_cond_d rfl (fun h6 => ?_) (fun h6 => ?_)
        · skip
          (try simp only [Decidable.not_not] at h6)
          refine code_skip ?_
          refine hK20 _ ?_; clear hK20 K20
          refine code_block ?_
          refine code_region ?_
          refine list_cons rfl (op_q (q_move rfl (by decide)) ?_)
          refine list_cons rfl (op_q (by first | exact q_subI rfl rfl (by decide) (by omega) (by omega) | exact q_ib rfl rfl rfl (by decide)) ?_)
          refine list_cons rfl (op_q (q_assign rfl (by decide)) ?_)
          refine list_nil ?_
          refine blk_n ?_
          refine then_n ⟨(_), imp_covers ⟨rfl, rfl, rfl, rfl, rfl, rfl, trivial⟩, ?_, ?_⟩
          · (try dsimp only)
            have hx := h6
            rw [hv3, hv4, show (tail - 1).toNat = tail.toNat - 1 by omega] at hx
            have hne : greater ≠ tail := fun e => by rw [e] at hx; omega
            refine ⟨g1, by omega, by omega, g4, fun j h1 h2 => ?_⟩
            by_cases e : j = greater.toNat
            · subst e; exact hx
            · exact g5 j (by omega) h2
          · (try dsimp only); omega
        (try simp only [Decidable.not_not] at h6)
        refine code_exit ?_
        refine then_x ?_; clear hK20 K20
        refine then_x ?_
        refine blk_hit ?_
        refine hK19 _ ?_; clear hK19 K19
        refine any_start fun ob2_0 => ?_
        refine any_op (rd := [5]) ob2_0 rfl rfl rfl (anyT_quiet [(5, _)] ⟨rfl, trivial⟩ rfl (q_move rfl (by decide))) (fun ob2_1 => ?_)
        simp only [List.cons_append, List.nil_append] at ob2_1
        refine any_op (rd := [38]) ob2_1 rfl rfl rfl (anyT_quiet [(38, _)] ⟨rfl, trivial⟩ rfl (by first | exact q_subI rfl rfl (by decide) (by omega) (by omega) | exact q_ib rfl rfl rfl (by decide))) (fun ob2_2 => ?_)
        simp only [List.cons_append, List.nil_append] at ob2_2
        refine any_op (rd := [6]) ob2_2 rfl rfl rfl (anyT_quiet [(6, _)] ⟨rfl, trivial⟩ rfl (q_move rfl (by decide))) (fun ob2_3 => ?_)
        simp only [List.cons_append, List.nil_append] at ob2_3
        refine any_op (rd := [6]) ob2_3 rfl rfl rfl (anyT_quiet [(6, _)] ⟨rfl, trivial⟩ rfl (q_move rfl (by decide))) (fun ob2_4 => ?_)
        simp only [List.cons_append, List.nil_append] at ob2_4
        refine any_op (rd := [2, 41]) ob2_4 rfl rfl rfl (anyT_quiet [(2, _), (41, _)] ⟨rfl, rfl, trivial⟩ rfl (q_indexAddr_arr arr_77 rfl rfl rfl (by omega) (by omega) (by decide))) (fun ob2_5 => ?_)
        simp only [List.cons_append, List.nil_append] at ob2_5
        refine any_op (rd := [42, 2]) ob2_5 rfl rfl rfl (anyT_quiet [(42, _), (2, _)] ⟨rfl, rfl, trivial⟩ rfl (q_load one_3 2 rfl rfl rfl (by first | exact get_map1 (PV.int .i64) 0 (arr a) (k := greater.toNat) (by rw [arr_len h10]; omega) | exact get_map1 (PV.int .i64) 0 (arr a) (k := (tail - 1).toNat) (by rw [arr_len h10]; omega)) (by decide))) (fun ob2_6 => ?_)
        simp only [List.cons_append, List.nil_append] at ob2_6
        refine any_op (rd := [5]) ob2_6 rfl rfl rfl (anyT_quiet [(5, _)] ⟨rfl, trivial⟩ rfl (q_move rfl (by decide))) (fun ob2_7 => ?_)
        simp only [List.cons_append, List.nil_append] at ob2_7
        refine any_op (rd := [44]) ob2_7 rfl rfl rfl (anyT_quiet [(44, _)] ⟨rfl, trivial⟩ rfl (by first | exact q_subI rfl rfl (by decide) (by omega) (by omega) | exact q_ib rfl rfl rfl (by decide))) (fun ob2_8 => ?_)
        simp only [List.cons_append, List.nil_append] at ob2_8
        refine any_op (rd := [2, 45]) ob2_8 rfl rfl rfl (anyT_quiet [(2, _), (45, _)] ⟨rfl, rfl, trivial⟩ rfl (q_indexAddr_arr arr_77 rfl rfl rfl (by omega) (by omega) (by decide))) (fun ob2_9 => ?_)
        simp only [List.cons_append, List.nil_append] at ob2_9
        refine any_op (rd := [46, 2]) ob2_9 rfl rfl rfl (anyT_quiet [(46, _), (2, _)] ⟨rfl, rfl, trivial⟩ rfl (q_load one_3 2 rfl rfl rfl (by first | exact get_map1 (PV.int .i64) 0 (arr a) (k := greater.toNat) (by rw [arr_len h10]; omega) | exact get_map1 (PV.int .i64) 0 (arr a) (k := (tail - 1).toNat) (by rw [arr_len h10]; omega)) (by decide))) (fun ob2_10 => ?_)
        simp only [List.cons_append, List.nil_append] at ob2_10
        refine any_op (rd := [2, 39]) ob2_10 rfl rfl rfl (anyT_quiet [(2, _), (39, _)] ⟨rfl, rfl, trivial⟩ rfl (q_indexAddr_arr arr_77 rfl rfl rfl (by omega) (by omega) (by decide))) (fun ob2_11 => ?_)
        simp only [List.cons_append, List.nil_append] at ob2_11
        refine any_st (rd := [2, 42, 43, 46, 48]) ob2_11 rfl rfl (fun σ hag hfr => by have e2 : σ.at 2 = some _ := (hag 2 (by decide)).trans rfl; have e42 : σ.at 42 = some _ := (hag 42 (by decide)).trans rfl; have e43 : σ.at 43 = some _ := (hag 43 (by decide)).trans rfl; have e46 : σ.at 46 = some _ := (hag 46 (by decide)).trans rfl; have e48 : σ.at 48 = some _ := (hag 48 (by decide)).trans rfl; exact opT.mono (op_store (one_3).2 2 [2] (by intro t ht; simp only [List.mem_cons, List.not_mem_nil, or_false] at ht; subst ht; exact e2) (.inl e48) e2 rfl e43 rfl rfl rfl (by first | (rw [List.length_map, arr_len h10]; omega) | (unfold putAt; simp [arr_len h10]; omega)) (by decide) rfl rfl) (fun σ2 h2 => by subst h2; exact post_updA (L := 2) [42, 46, 48] e2 (by intro h hm; simp only [List.mem_cons, List.not_mem_nil, or_false] at hm; rcases hm with rfl | rfl | rfl <;> exact ⟨_, by assumption⟩) rfl hfr)) (fun ob2_12 => ?_)
        simp only [List.cons_append, List.nil_append] at ob2_12
        refine any_end [[], [0], [], [], [3], [3, 4], [], [6], [6, 7], [6, 7, 8], [0, 1, 3, 4, 5, 6, 7, 8, 9], [0, 1, 3, 4, 5, 6, 7, 8, 9, 10], [0, 1, 2, 3, 4, 5, 6, 7, 8, 9, 10, 11], [0, 1, 2, 3, 4, 5, 6, 7, 8, 9, 10, 11, 12]] ob2_12 (by kernel_rfl) (Nat.le_of_ble_eq_true rfl) (by decide) (by decide) (by kernel_rfl) (by kernel_rfl) (by kernel_rfl) (by kernel_rfl) (by kernel_rfl) ?_
        clear ob2_0 ob2_1 ob2_2 ob2_3 ob2_4 ob2_5 ob2_6 ob2_7 ob2_8 ob2_9 ob2_10 ob2_11 ob2_12
        refine listT.imp (σ' := [(0, _), (1, _), (2, _), (4, _), (5, _), (6, _), (35, _), (38, _), (39, _), (40, _), (41, _), (42, _), (43, _), (44, _), (45, _), (46, _), (47, _), (48, _)]) ?_ (imp_covers ⟨rfl, rfl, rfl, rfl, rfl, rfl, rfl, rfl, rfl, rfl, rfl, rfl, rfl, rfl, rfl, rfl, rfl, rfl, trivial⟩)
        refine list_cons rfl (op_q (q_indexAddr_arr arr_77 rfl rfl rfl (by omega) (by omega) (by decide)) ?_)
        refine list_cons rfl (op_store (one_3).2 2 [2] (by intro t ht; simp only [List.mem_cons, List.not_mem_nil, or_false] at ht; subst ht; rfl) (.inl rfl) rfl rfl rfl rfl rfl rfl (by first | (rw [List.length_map, arr_len h10]; omega) | (unfold putAt; simp [arr_len h10]; omega)) (by decide) rfl ?_)
        refine list_nil ?_
        refine hK16 _ ?_; clear hK16 K16
        refine codeT.imp (σ' := [(0, _), (1, _), (2, .box 2 77 ((swpL (arr a) (tail - 1).toNat greater.toNat).map (.int .i64))), (4, _), (5, _), (6, _)]) ?_ (imp_covers ⟨rfl, rfl, (congrArg (fun z => some (SV.box 2 77 z)) (put2_swp (by rw [arr_len h10]; omega) (by rw [arr_len h10]; omega) (Nat.mul_one _) (Nat.mul_one _) rfl rfl)), rfl, rfl, rfl, trivial⟩)
        refine code_seq (fun K22 hK22 => ?_)
        refine code_region ?_
        refine list_cons rfl (op_q (q_move rfl (by decide)) ?_)
        refine list_cons rfl (op_q (q_move rfl (by decide)) ?_)
        refine list_cons rfl (op_q (q_sliceBox Tryd.underlying77 one_3.2 rfl ⟨_, rfl⟩ ⟨_, rfl⟩ (by omega) (by omega) (by omega) (by decide)) ?_)
        refine listT.imp ?_ (imp_vbox (h := 2) (x := 52) rfl rfl)
        refine list_cons rfl (op_callM (reverse_V _ _ _ _ ?_ ?_) (.tmp 52) 2 [52] [] _ rfl rfl (by intro y hy; cases hy; exact ⟨rfl, (by intro t ht; simp only [List.mem_cons, List.not_mem_nil, or_false] at ht; subst ht; rfl), (by intro s hs; simp only [List.mem_cons, List.not_mem_nil, or_false] at hs; (try cases hs))⟩) (by decide) (by decide) (by decide) rfl (fun _ => rfl) ?_)
        · (simp [swpL_len, arr_len h10]; omega)
        · (simp [swpL_len, arr_len h10])
        rintro _ _ ⟨rfl, rfl⟩
        refine listT.imp ?_ (imp_unvbox (h := 2) (x := 52) rfl rfl)
        refine list_nil ?_
        refine hK22 _ ?_; clear hK22 K22
        refine codeT.imp (σ' := [(0, _), (1, _), (2, _), (4, _), (5, _), (6, _)]) ?_ (imp_covers ⟨rfl, rfl, rfl, rfl, rfl, rfl, trivial⟩)
        refine code_seq (fun K23 hK23 => ?_)
        refine code_region ?_
        refine list_cons rfl (op_q (q_cast (q_load_agg agg_77 2 (.inr ⟨rfl, _, rfl⟩) rfl rfl (by simp [swpL_len, arr_len h10]; omega) (by first | rfl | exact flat_part (flat_map _ (fun _ => rfl) _) _ _) (by decide)) (congrArg (fun z => SV.val (PV.agg z)) (ld10 (by simp [swpL_len, arr_len h10]; omega)))) ?_)
        refine list_cons rfl (op_store (agg_77).2 4 [4] (by intro t ht; simp only [List.mem_cons, List.not_mem_nil, or_false] at ht; subst ht; rfl) (.inr ⟨rfl, _, rfl⟩) rfl rfl rfl rfl (by first | rfl | exact flat_part (flat_map _ (fun _ => rfl) _) _ _ | exact flat_map _ (fun _ => rfl) _) (by first | rfl | (simp [PV.cells, swpL_len, arr_len h10]; omega)) (by decide) (by decide) rfl ?_)
        refine list_nil ?_
        refine hK23 _ ?_; clear hK23 K23
        refine codeT.imp (σ' := [(0, _), (1, _), (2, _), (4, .box 4 77 _), (5, _), (6, _)]) ?_ (imp_covers ⟨rfl, rfl, rfl, (congrArg (fun z => some (SV.box 4 77 z)) (put_all8 (n := 10) rfl (by simp [swpL_len, arr_len h10]; omega))), rfl, rfl, trivial⟩)
        refine code_ret ?_
        refine ends_ret (cs := []) (res_agg8 rfl rfl (flat_map _ (fun _ => rfl) _) (by show _ = 10; simp [swpL_len, arr_len h10]; omega)) rfl rfl rfl trivial ?_
        first
          | (have hx : ¬ (arr a).getD greater.toNat 0 ≤ (arr a).getD (tail - 1).toNat 0 := (by assumption)
             rw [hv3, hv4] at hx
             have e0 : (tail - 1).toNat = tail.toNat - 1 := by omega
             obtain ⟨b, hb1, hb2⟩ := aft_gt (a := a) (t := tail.toNat) (g := greater.toNat) (o := tail.toNat) (m := (a.length : Int).toNat - tail.toNat) (by omega) (by omega) i3 (by omega) (by omega) (by rw [← e0]; omega) g5 rfl (by omega)
             rw [← e0] at hb2
             exact ⟨b, hb1, by rw [hb2]⟩)
          | (have ht : tail.toNat = 0 := by omega
             obtain ⟨b, hb1, hb2⟩ := aft_end0 (a := a) (o := tail.toNat) (m := (a.length : Int).toNat - tail.toNat) (by rw [ht] at i3; exact i3) ht (by omega)
             exact ⟨b, hb1, by rw [hb2]⟩)
          | (exfalso
             have hx : ¬ (arr a).getD (tail - 1).toNat 0 ≥ (arr a).getD tail.toNat 0 := (by assumption)
             omega)
    (try simp only [Decidable.not_not] at h5)
    refine code_skip ?_
    refine hK16 _ ?_; clear hK16 K16
    refine code_seq (fun K24 hK24 => ?_)
    refine code_region ?_
    refine list_cons rfl (op_q (q_move rfl (by decide)) ?_)
    refine list_cons rfl (op_q (q_move rfl (by decide)) ?_)
    refine list_cons rfl (op_q (q_sliceBox Tryd.underlying77 one_3.2 rfl ⟨_, rfl⟩ ⟨_, rfl⟩ (by omega) (by omega) (by omega) (by decide)) ?_)
    refine listT.imp ?_ (imp_vbox (h := 2) (x := 52) rfl rfl)
    refine list_cons rfl (op_callM (reverse_V _ _ _ _ ?_ ?_) (.tmp 52) 2 [52] [] _ rfl rfl (by intro y hy; cases hy; exact ⟨rfl, (by intro t ht; simp only [List.mem_cons, List.not_mem_nil, or_false] at ht; subst ht; rfl), (by intro s hs; simp only [List.mem_cons, List.not_mem_nil, or_false] at hs; (try cases hs))⟩) (by decide) (by decide) (by decide) rfl (fun _ => rfl) ?_)
    · (simp [swpL_len, arr_len h10]; omega)
    · (simp [swpL_len, arr_len h10])
    rintro _ _ ⟨rfl, rfl⟩
    refine listT.imp ?_ (imp_unvbox (h := 2) (x := 52) rfl rfl)
    refine list_nil ?_
    refine hK24 _ ?_; clear hK24 K24
    refine codeT.imp (σ' := [(0, _), (1, _), (2, _), (4, _), (5, _)]) ?_ (imp_covers ⟨rfl, rfl, rfl, rfl, rfl, trivial⟩)
    refine code_seq (fun K25 hK25 => ?_)
    refine code_region ?_
    refine list_cons rfl (op_q (q_cast (q_load_agg agg_77 2 (.inr ⟨rfl, _, rfl⟩) rfl rfl (by simp [swpL_len, arr_len h10]; omega) (by first | rfl | exact flat_part (flat_map _ (fun _ => rfl) _) _ _) (by decide)) (congrArg (fun z => SV.val (PV.agg z)) (ld10 (by simp [swpL_len, arr_len h10]; omega)))) ?_)
    refine list_cons rfl (op_store (agg_77).2 4 [4] (by intro t ht; simp only [List.mem_cons, List.not_mem_nil, or_false] at ht; subst ht; rfl) (.inr ⟨rfl, _, rfl⟩) rfl rfl rfl rfl (by first | rfl | exact flat_part (flat_map _ (fun _ => rfl) _) _ _ | exact flat_map _ (fun _ => rfl) _) (by first | rfl | (simp [PV.cells, swpL_len, arr_len h10]; omega)) (by decide) (by decide) rfl ?_)
    refine list_nil ?_
    refine hK25 _ ?_; clear hK25 K25
    refine codeT.imp (σ' := [(0, _), (1, _), (2, _), (4, .box 4 77 _), (5, _)]) ?_ (imp_covers ⟨rfl, rfl, rfl, (congrArg (fun z => some (SV.box 4 77 z)) (put_all8 (n := 10) rfl (by simp [swpL_len, arr_len h10]; omega))), rfl, trivial⟩)
    refine code_ret ?_
    refine ends_ret (cs := []) (res_agg8 rfl rfl (flat_map _ (fun _ => rfl) _) (by show _ = 10; simp [swpL_len, arr_len h10]; omega)) rfl rfl rfl trivial ?_
    first
      | (have hx : ¬ (arr a).getD greater.toNat 0 ≤ (arr a).getD (tail - 1).toNat 0 := (by assumption)
         rw [hv3, hv4] at hx
         have e0 : (tail - 1).toNat = tail.toNat - 1 := by omega
         obtain ⟨b, hb1, hb2⟩ := aft_gt (a := a) (t := tail.toNat) (g := greater.toNat) (o := tail.toNat) (m := (a.length : Int).toNat - tail.toNat) (by omega) (by omega) i3 (by omega) (by omega) (by rw [← e0]; omega) g5 rfl (by omega)
         rw [← e0] at hb2
         exact ⟨b, hb1, by rw [hb2]⟩)
      | (have ht : tail.toNat = 0 := by omega
         obtain ⟨b, hb1, hb2⟩ := aft_end0 (a := a) (o := tail.toNat) (m := (a.length : Int).toNat - tail.toNat) (by rw [ht] at i3; exact i3) ht (by omega)
         exact ⟨b, hb1, by rw [hb2]⟩)
      | (exfalso
         have hx : ¬ (arr a).getD (tail - 1).toNat 0 ≥ (arr a).getD tail.toNat 0 := (by assumption)
         omega)
end Go.Proofs.YtppocfcopnaebaaDoor
