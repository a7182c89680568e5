/- Contracts of functions, walked over the pure layer; each says for which arguments. -/
import Derived.Test.YtgpgjaebhfhjoaaDoors2Ty
import Derived.Shelf.Strings.BuilderRune
import Derived.Shelf.Spec.SlicesGrow
import Derived.Lib.AppendIntMem
import Derived.Test.YtgpgjaebhfhjoaaDoorTf
import Derived.Test.YtgpgjaebhfhjoaaDoors1
import Derived.Test.YtgpgjaebhfhjoaaDoorPwBr
import Derived.Test.YtgpgjaebhfhjoaaDoorShelf
namespace Go.Proofs.YtgpgjaebhfhjoaaDoor
open Go.RowKit s2Ty
set_option linter.unusedVariables false
set_option linter.unusedSimpArgs false

open Go.Shelf in
theorem cells_app (a b : List UInt8) : Lib.byteCells (a ++ b) = Lib.byteCells a ++ Lib.byteCells b := by simp [Lib.byteCells]
theorem cells_str (s : List UInt8) : Lib.strCells ⟨s.toArray⟩ = Lib.byteCells s := by simp [Lib.strCells, Lib.byteCells]
theorem enc1 (r : Int) (h0 : 0 ≤ r) (h1 : r < 128) : Lib.encodeRune r = [r.toNat.toUInt8] := by
  unfold Lib.encodeRune Lib.encodeRuneZ
  first | (rw [if_pos (by omega)]; rfl) | (rw [if_pos ⟨by omega, by omega⟩]; rfl) | (simp; omega)

open Go.Shelf in
def bl166_ren : Go.Shelf.Ren := ⟨fun | 166 => 56 | 240 => 76 | 276 => 87 | n => n, fun | 0 => 0 | 3 => 3 | 4 => 4 | 5 => 5 | 9 => 9 | 20 => 20 | 21 => 21 | 37 => 55 | 46 => 79 | 51 => 89 | 70 => 54 | 72 => 57 | 75 => 59 | 127 => 77 | 164 => 86 | 80 => 62 | n => n, fun | n => n⟩
open Go.Shelf in
theorem bl166 : Go.Proofs.Lays.n166 Tryd.prog bl166_ren := { mixed := by kernel_rfl, f166 := Tryd.func56.trans (congrArg some (by kernel_rfl)), f240 := Tryd.func76.trans (congrArg some (by kernel_rfl)), f276 := Tryd.func87.trans (congrArg some (by kernel_rfl)), t0 := Tryd.underlying0, a0 := Tryd.isAgg0, z0 := Tryd.sizeOf0, v0 := Tryd.zeroValue0, t3 := Tryd.underlying3, a3 := Tryd.isAgg3, z3 := Tryd.sizeOf3, v3 := Tryd.zeroValue3, t4 := Tryd.underlying4, a4 := Tryd.isAgg4, z4 := Tryd.sizeOf4, v4 := Tryd.zeroValue4, t9 := Tryd.underlying9, a9 := Tryd.isAgg9, z9 := Tryd.sizeOf9, v9 := Tryd.zeroValue9, t20 := Tryd.underlying20, a20 := Tryd.isAgg20, z20 := Tryd.sizeOf20, v20 := Tryd.zeroValue20, t37 := Tryd.underlying55, a37 := Tryd.isAgg55, z37 := Tryd.sizeOf55, v37 := Tryd.zeroValue55, t70 := Tryd.underlying54, a70 := Tryd.isAgg54, z70 := Tryd.sizeOf54, v70 := Tryd.zeroValue54, t72 := Tryd.underlying57, a72 := Tryd.isAgg57, z72 := Tryd.sizeOf57, v72 := Tryd.zeroValue57, t75 := Tryd.underlying59, a75 := Tryd.isAgg59, z75 := Tryd.sizeOf59, v75 := Tryd.zeroValue59, t164 := Tryd.underlying86, a164 := Tryd.isAgg86, z164 := Tryd.sizeOf86, v164 := Tryd.zeroValue86 }
open Go.Shelf in
theorem blx166 : Builder.Extra Tryd.prog bl166_ren := { sizeBuilder := by kernel_rfl, liesBuilder := by kernel_rfl, t5 := Tryd.underlying5, a5 := Tryd.isAgg5, z5 := Tryd.sizeOf5, v5 := Tryd.zeroValue5, infoByte := by kernel_rfl, cellsByte := by kernel_rfl, sizeByte := by kernel_rfl, neB5 := by decide }

theorem bWriteString_c (s x : List UInt8) (hl : s.length + x.length ≤ 140737488355328) : BCalls Tryd.prog 56 57 5 [.str x] s (s ++ x) [.val (.int .i64 x.length), .dead] :=
  ⟨enters_of Tryd.func56 (by kernel_rfl) rfl, fun w B b vs h hB ha => by
  obtain ⟨v0, r0, rfl, ha0, ha⟩ := repArgs_cons ha
  obtain rfl := repArgs_nil ha
  simp only [Rep] at ha0
  subst ha0
  refine (Any.Builder_WriteString_k bl166 blx166 B b (Lib.byteCells s) ⟨x.toArray⟩ w h (by rw [Lib.byteCells_length]; simpa [ByteArray.size] using hl) hB).mono fun e w' ⟨he, hb, h2, h3⟩ => ⟨[.int .i64 x.length, .nilIface], ?_, ⟨_, _, rfl, by simp [Rep], _, _, rfl, rfl⟩, ?_, h2, h3⟩
  · rw [he]; simp [packV, ByteArray.size]
  · rw [cells_app, ← cells_str]; exact .inr hb⟩

open Go.Shelf in
def bl169_ren : Go.Shelf.Ren := ⟨fun | 169 => 57 | n => n, fun | 0 => 0 | 3 => 3 | 4 => 4 | 5 => 5 | 9 => 9 | 20 => 20 | 21 => 21 | 37 => 55 | 46 => 79 | 51 => 89 | 70 => 54 | 72 => 57 | 75 => 59 | 127 => 77 | 164 => 86 | 80 => 62 | n => n, fun | n => n⟩
open Go.Shelf in
theorem bl169 : Go.Proofs.Lays.n169 Tryd.prog bl169_ren := { mixed := by kernel_rfl, f169 := Tryd.func57.trans (congrArg some (by kernel_rfl)), t0 := Tryd.underlying0, a0 := Tryd.isAgg0, z0 := Tryd.sizeOf0, v0 := Tryd.zeroValue0, t3 := Tryd.underlying3, a3 := Tryd.isAgg3, z3 := Tryd.sizeOf3, v3 := Tryd.zeroValue3, t9 := Tryd.underlying9, a9 := Tryd.isAgg9, z9 := Tryd.sizeOf9, v9 := Tryd.zeroValue9, t37 := Tryd.underlying55, a37 := Tryd.isAgg55, z37 := Tryd.sizeOf55, v37 := Tryd.zeroValue55, t70 := Tryd.underlying54, a70 := Tryd.isAgg54, z70 := Tryd.sizeOf54, v70 := Tryd.zeroValue54, t72 := Tryd.underlying57, a72 := Tryd.isAgg57, z72 := Tryd.sizeOf57, v72 := Tryd.zeroValue57, t127 := Tryd.underlying77, a127 := Tryd.isAgg77, z127 := Tryd.sizeOf77, v127 := Tryd.zeroValue77 }
open Go.Shelf in
theorem blx169 : Builder.Extra Tryd.prog bl169_ren := { sizeBuilder := by kernel_rfl, liesBuilder := by kernel_rfl, t5 := Tryd.underlying5, a5 := Tryd.isAgg5, z5 := Tryd.sizeOf5, v5 := Tryd.zeroValue5, infoByte := by kernel_rfl, cellsByte := by kernel_rfl, sizeByte := by kernel_rfl, neB5 := by decide }

theorem bString_c (s : List UInt8) : BCalls Tryd.prog 57 57 5 [] s s [.val (.str s)] :=
  ⟨enters_of Tryd.func57 (by kernel_rfl) rfl, fun w B b vs h hB ha => by
  obtain rfl := repArgs_nil ha
  exact (Any.Builder_String_any_k bl169 blx169 B b s w h hB).mono fun e w' ⟨he, hb, h2, h3⟩ => ⟨[.string ⟨s.toArray⟩], he, ⟨_, _, rfl, by simp [Rep], rfl⟩, hb, h2, h3⟩⟩

def abcG : List UInt8 := [97, 98, 99, 100, 101, 102, 103]
def ixR (r : Int) : Int := if 97 ≤ r ∧ r ≤ 103 then r - 97 else -1
set_option maxRecDepth 100000 in
theorem ix_ascii (r : Int) (h0 : 0 ≤ r) (h1 : r < 128) : Lib.indexByte abcG r.toNat.toUInt8 = ixR r := by
  have k : below 128 (fun n => intEq (Lib.indexByte abcG n.toUInt8) (ixR (n : Int))) = true := by kernel_rfl
  have := below_ok k r.toNat (by omega)
  rw [intEq_eq, beq_iff_eq] at this
  rwa [Int.toNat_of_nonneg h0] at this
theorem ix_none (c : UInt8) (h : 128 ≤ c.toNat) (l : List UInt8) (hl : ∀ b ∈ l, b.toNat < 128) : Lib.indexByte l c = -1 := by
  induction l with
  | nil => rfl
  | cons b l ih =>
    have hb := hl b (by simp)
    have hne : (b == c) = false := by
      rw [beq_eq_false_iff_ne]; intro e; subst e; omega
    unfold Lib.indexByte
    rw [ih (fun x hx => hl x (by simp [hx])), hne]; rfl
theorem abcG_lt : ∀ b ∈ abcG, b.toNat < 128 := by decide


theorem indexByte_c (s : List UInt8) (b : UInt8) : PCalls Tryd.prog 95 [.str s, .int .u8 b.toNat] (· = [.val (.int .i64 (Lib.indexByte s b))]) := by
  refine pcalls_flat (enters_of Tryd.func95 (by kernel_rfl) rfl) fun w vs ha => ?_
  obtain ⟨v0, r0, rfl, ha0, ha⟩ := repArgs_cons ha
  obtain ⟨v1, r1, rfl, ha1, ha⟩ := repArgs_cons ha
  obtain rfl := repArgs_nil ha
  simp only [Rep] at ha0 ha1
  subst ha0; subst ha1
  refine (Tryd.strings_IndexByte (.mk s.toArray) b.toNat w).mono fun e w' ⟨he, hw⟩ => ⟨[.int .i64 (Lib.indexByte s b)], [.int .i64 (Lib.indexByte s b)], ?_, hw ▸ Below.refl _ _, ⟨_, _, rfl, by simp [Rep], rfl⟩, rfl⟩
  rw [he]; simp [packV]
theorem indexRune_ascii (r : Int) (h0 : 0 ≤ r) (h1 : r < 128) : PCalls Tryd.prog 92 [.str abcG, .int .i32 r] (· = [.val (.int .i64 (ixR r))]) := by
  refine pcalls_flat (enters_of Tryd.func92 (by kernel_rfl) rfl) fun w vs ha => ?_
  obtain ⟨v0, r0, rfl, ha0, ha⟩ := repArgs_cons ha
  obtain ⟨v1, r1, rfl, ha1, ha⟩ := repArgs_cons ha
  obtain rfl := repArgs_nil ha
  simp only [Rep] at ha0 ha1
  subst ha0; subst ha1
  refine (Tryd.strings_IndexRune_ascii (.mk abcG.toArray) r w h0 h1).mono fun e w' ⟨he, hw⟩ => ⟨[.int .i64 (ixR r)], [.int .i64 (ixR r)], ?_, hw ▸ Below.refl _ _, ⟨_, _, rfl, by simp [Rep], rfl⟩, rfl⟩
  rw [he, ix_ascii r h0 h1]; rfl

theorem validRune_c (r : Int) : PCalls Tryd.prog 96 [.int .i32 r] (· = [.val (.bool (decide ((0 ≤ r ∧ r < 0xD800) ∨ (0xDFFF < r ∧ r ≤ 0x10FFFF))))]) := by
  refine pcalls_flat (enters_of Tryd.func96 (by kernel_rfl) rfl) fun w vs ha => ?_
  obtain ⟨v0, r0, rfl, ha0, ha⟩ := repArgs_cons ha
  obtain rfl := repArgs_nil ha
  simp only [Rep] at ha0
  subst ha0
  exact (Tryd.utf8_ValidRune r w).mono fun e w' ⟨he, hw⟩ => ⟨[.bool (Lib.validRune r)], [.bool (Lib.validRune r)], he, hw ▸ Below.refl _ _, ⟨_, _, rfl, by simp [Rep], rfl⟩, rfl⟩

set_option maxRecDepth 4000 in
theorem indexRune_hi (r : Int) (h0 : 128 ≤ r) (h1 : r ≤ 1114111) : PCalls Tryd.prog 92 [.str abcG, .int .i32 r] (· = [.val (.int .i64 (-1))]) := by
  refine pcalls_of_code (n := 187) az Tryd.func92 (by kernel_rfl) rfl rfl (Nat.le_of_ble_eq_true rfl) (by intro t u h; simp [Tryd.f92] at h) ?_
  have hal : abcG.length = 7 := rfl
  have hab : ∀ j, j < abcG.length → (abcG.getD j 0).toNat < 128 := by decide
  have he := encode_hi h0
  have hel := he.1
  have hel2 := he.2.1
  refine code_seq (fun K1 hK1 => ?_)
  refine code_region ?_
  refine list_cons rfl (op_q (q_assign rfl (by decide)) ?_)
  refine list_nil ?_
  refine hK1 _ ?_; clear hK1 K1
  refine code_block ?_
  refine code_seq (fun K2 hK2 => ?_)
  refine code_region ?_
  refine list_cons rfl (op_q (q_move rfl (by decide)) ?_)
  refine list_cons rfl (op_q (q_le rfl rfl (by decide)) ?_)
  refine list_cons rfl (op_q (q_move rfl (by decide)) ?_)
  refine list_guard_d rfl rfl rfl rfl (by decide) rfl (by decide) (fun h1 => ?_) (fun h1 => ?_)
  · simp only [Bool.false_eq_true, if_true, if_false, Decidable.not_not] at h1
    refine id (op_q (q_move rfl (by decide)) ?_)
    refine list_guard_y rfl rfl rfl rfl (by decide) rfl ?_
    refine id (op_q (q_lt rfl rfl (by decide)) ?_)
    refine list_cons rfl (op_q (q_pick rfl rfl (by decide)) ?_)
    refine list_cons rfl (op_q (q_assign rfl (by decide)) ?_)
    refine list_nil ?_
    refine hK2 _ ?_; clear hK2 K2
    refine code_cond_d rfl (fun h2 => ?_) (fun h2 => ?_)
    · skip
      (try simp only [Decidable.not_not] at h2)
      exfalso
      omega
    (try simp only [Decidable.not_not] at h2)
    refine code_seq (fun K3 hK3 => ?_)
    refine code_region ?_
    refine list_cons rfl (op_q (q_move rfl (by decide)) ?_)
    refine list_cons rfl (op_q (q_eq rfl rfl (by decide)) ?_)
    refine list_cons rfl (op_q (q_assign rfl (by decide)) ?_)
    refine list_nil ?_
    refine hK3 _ ?_; clear hK3 K3
    refine codeT.imp (σ' := [(0, _), (1, _), (4, _), (171, _)]) ?_ (imp_covers ⟨rfl, rfl, rfl, rfl, trivial⟩)
    refine code_cond_d rfl (fun h3 => ?_) (fun h3 => ?_)
    · skip
      (try simp only [Decidable.not_not] at h3)
      refine code_seq (fun K4 hK4 => ?_)
      refine code_seq (fun K5 hK5 => ?_)
      refine code_region ?_
      refine list_cons rfl (op_q (q_move rfl (by decide)) ?_)
      refine list_cons rfl (op_range_str Tryd.underlying9 rfl (by decide) (by decide) rfl ?_)
      refine list_nil ?_
      refine hK5 _ ?_; clear hK5 K5
      refine code_block ?_
      refine code_loop (X := Int × Nat) (fun x => [(0, .val (.str abcG)), (1, .val (.int .i32 r)), (4, .val (.int .i64 x.1)), (175, .sit 175 (abcG) x.2)]) (fun x => x.2 ≤ 7) (fun x => 7 - x.2) (_, _) (imp_covers ⟨rfl, rfl, rfl, rfl, trivial⟩) ?_ ?_
      · (try dsimp only)
        omega
      · intro x hI
        obtain ⟨t4, t175_i⟩ := x
        replace hI : t175_i ≤ 7 := hI
        show codeT _ _ _ [(0, .val (.str abcG)), (1, .val (.int .i32 r)), (4, .val (.int .i64 t4)), (175, .sit 175 (abcG) t175_i)] _
        refine code_seq (fun K6 hK6 => ?_)
        refine code_region ?_
        refine list_cons rfl (op_nextA (h := 175) hab rfl rfl (by decide) (fun h4 => ?_) (fun h4 => ?_))
        · skip
          refine list_cons rfl (op_q (q_extract rfl rfl (by decide)) ?_)
          refine list_nil ?_
          refine hK6 _ ?_; clear hK6 K6
          refine code_seq (fun K7 hK7 => ?_)
          refine code_cond_f rfl ?_
          refine code_exit ?_
          refine then_x ?_; clear hK7 K7
          refine then_x ?_
          refine blk_hit ?_
          refine hK4 _ ?_; clear hK4 K4
          refine code_seq (fun K8 hK8 => ?_)
          refine code_region ?_
          refine list_cons rfl (op_q (q_assign rfl (by decide)) ?_)
          refine list_nil ?_
          refine hK8 _ ?_; clear hK8 K8
          refine code_ret ?_
          refine blk_r ?_
          refine ends_ret (cs := []) rfl rfl rfl rfl trivial ?_
          rfl
        · skip
          refine list_cons rfl (op_q (q_extract rfl rfl (by decide)) ?_)
          refine list_nil ?_
          refine hK6 _ ?_; clear hK6 K6
          refine code_seq (fun K9 hK9 => ?_)
          refine code_cond_t rfl ?_
          refine code_skip ?_
          refine hK9 _ ?_; clear hK9 K9
          refine code_block ?_
          refine code_seq (fun K10 hK10 => ?_)
          refine code_region ?_
          refine list_cons rfl (op_q (q_extract rfl rfl (by decide)) ?_)
          refine list_cons rfl (op_q (q_extract rfl rfl (by decide)) ?_)
          refine list_cons rfl (op_q (q_assign rfl (by decide)) ?_)
          refine list_cons rfl (op_q (q_assign rfl (by decide)) ?_)
          refine list_nil ?_
          refine hK10 _ ?_; clear hK10 K10
          refine code_seq (fun K11 hK11 => ?_)
          refine code_region ?_
          refine list_cons rfl (op_q (q_move rfl (by decide)) ?_)
          refine list_cons rfl (op_q (q_eq rfl rfl (by decide)) ?_)
          refine list_nil ?_
          refine hK11 _ ?_; clear hK11 K11
          refine code_cond_d rfl (fun h5 => ?_) (fun h5 => ?_)
          · skip
            (try simp only [Decidable.not_not] at h5)
            exfalso
            have := hab t175_i (by omega); omega
          (try simp only [Decidable.not_not] at h5)
          refine code_skip ?_
          refine blk_n ?_
          refine then_n ⟨(_, _), imp_covers ⟨rfl, rfl, rfl, rfl, trivial⟩, ?_, ?_⟩
          · (try dsimp only)
            omega
          · omega
    (try simp only [Decidable.not_not] at h3)
    refine code_seq (fun K12 hK12 => ?_)
    refine code_region ?_
    refine list_cons rfl (op_q (q_move rfl (by decide)) ?_)
    refine list_cons rfl (op_call _ (validRune_c _) rfl rfl (by decide) (by decide) (by decide) rfl ?_)
    rintro _ rfl
    refine list_cons rfl (op_q (by first | exact q_notd rfl (by decide) | exact q_not rfl (by decide)) ?_)
    refine list_cons rfl (op_q (q_assign rfl (by decide)) ?_)
    refine list_nil ?_
    refine hK12 _ ?_; clear hK12 K12
    refine codeT.imp (σ' := [(0, _), (1, _), (4, _), (183, _)]) ?_ (imp_covers ⟨rfl, rfl, rfl, rfl, trivial⟩)
    refine code_cond_d rfl (fun h6 => ?_) (fun h6 => ?_)
    · skip
      (try simp only [Decidable.not_not] at h6)
      refine code_seq (fun K13 hK13 => ?_)
      refine code_region ?_
      refine list_cons rfl (op_q (q_assign rfl (by decide)) ?_)
      refine list_nil ?_
      refine hK13 _ ?_; clear hK13 K13
      refine code_ret ?_
      refine blk_r ?_
      refine ends_ret (cs := []) rfl rfl rfl rfl trivial ?_
      rfl
    (try simp only [Decidable.not_not] at h6)
    refine code_scope ?_
    refine code_seq (fun K14 hK14 => ?_)
    refine code_region ?_
    refine list_cons rfl (op_q (q_move rfl (by decide)) ?_)
    refine list_cons rfl (op_q (q_runestr Tryd.underlying21 Tryd.underlying9 rfl (by decide)) ?_)
    refine list_cons rfl (op_q (q_assign rfl (by decide)) ?_)
    refine list_nil ?_
    refine hK14 _ ?_; clear hK14 K14
    refine code_seq (fun K15 hK15 => ?_)
    refine code_region ?_
    refine list_cons rfl (op_q (q_move rfl (by decide)) ?_)
    refine list_cons rfl (op_q (q_len_str Tryd.underlying9 rfl (by decide)) ?_)
    refine list_cons rfl (op_q (by first | exact q_subI rfl rfl (by decide) (by omega) (by omega) | exact q_ib rfl rfl rfl (by decide)) ?_)
    refine list_cons rfl (op_q (q_assign rfl (by decide)) ?_)
    refine list_nil ?_
    refine hK15 _ ?_; clear hK15 K15
    refine code_seq (fun K16 hK16 => ?_)
    refine code_region ?_
    refine list_cons rfl (op_q (q_move rfl (by decide)) ?_)
    refine list_cons rfl (op_q (q_assign rfl (by decide)) ?_)
    refine list_nil ?_
    refine hK16 _ ?_; clear hK16 K16
    refine codeT.imp (σ' := [(0, _), (1, _), (4, _), (7, _), (8, _), (9, _)]) ?_ (imp_covers ⟨rfl, rfl, rfl, rfl, rfl, rfl, trivial⟩)
    refine code_seq (fun K17 hK17 => ?_)
    refine code_region ?_
    refine list_cons rfl (op_q (q_assign rfl (by decide)) ?_)
    refine list_nil ?_
    refine hK17 _ ?_; clear hK17 K17
    refine code_seq (fun K18 hK18 => ?_)
    refine code_block ?_
    refine code_loop (X := Int × List UInt8 × Int × Int × Int) (fun x => [(0, .val (.str abcG)), (1, .val (.int .i32 r)), (4, .val (.int .i64 x.1)), (7, .val (.str x.2.1)), (8, .val (.int .i64 x.2.2.1)), (9, .val (.int .i64 x.2.2.2.1)), (10, .val (.int .i64 x.2.2.2.2))]) (fun x => x.2.1 = encL r ∧ x.2.2.1 = x.2.1.length - 1 ∧ x.2.2.2.1 = x.2.2.1) (fun x => 0) (_, _, _, _, _) (imp_covers ⟨rfl, rfl, rfl, rfl, rfl, rfl, rfl, trivial⟩) ?_ ?_
    · (try dsimp only)
      exact ⟨rfl, rfl, rfl⟩
    · intro x hI
      obtain ⟨t4, rs, last, i, fails⟩ := x
      replace hI : rs = encL r ∧ last = rs.length - 1 ∧ i = last := hI
      show codeT _ _ _ [(0, .val (.str abcG)), (1, .val (.int .i32 r)), (4, .val (.int .i64 t4)), (7, .val (.str rs)), (8, .val (.int .i64 last)), (9, .val (.int .i64 i)), (10, .val (.int .i64 fails))] _
      obtain ⟨rfl, i2, i3⟩ := hI
      have hlast : 128 ≤ ((encL r).getD last.toNat 0).toNat := by
            have hl : last.toNat < (encL r).length := by omega
            have : (encL r).getD last.toNat 0 = (encL r)[last.toNat] := by simp [hl]
            rw [this]; exact he.2.2 _ (List.getElem_mem hl)
      refine code_seq (fun K19 hK19 => ?_)
      refine code_seq (fun K20 hK20 => ?_)
      refine code_region ?_
      refine list_cons rfl (op_q (q_move rfl (by decide)) ?_)
      refine list_cons rfl (op_q (q_move rfl (by decide)) ?_)
      refine list_cons rfl (op_q (q_len_str Tryd.underlying9 rfl (by decide)) ?_)
      refine list_cons rfl (op_q (q_lt rfl rfl (by decide)) ?_)
      refine list_nil ?_
      refine hK20 _ ?_; clear hK20 K20
      refine code_cond_d rfl (fun h7 => ?_) (fun h7 => ?_)
      · skip
        (try simp only [Decidable.not_not] at h7)
        refine code_skip ?_
        refine hK19 _ ?_; clear hK19 K19
        refine code_block ?_
        refine code_scope ?_
        refine code_seq (fun K21 hK21 => ?_)
        refine code_seq (fun K22 hK22 => ?_)
        refine code_draw (by kernel_rfl) (by kernel_rfl) ?_
        refine draw_q rfl (q_move rfl (by decide)) ?_
        refine draw_q rfl (q_move rfl (by decide)) ?_
        refine draw_q rfl (q_index_str Tryd.underlying9 rfl rfl (by omega) (by omega) (by decide)) ?_
        refine draw_q rfl (q_move rfl (by decide)) ?_
        refine draw_q rfl (q_move rfl (by decide)) ?_
        refine draw_q rfl (q_index_str Tryd.underlying9 rfl rfl (by omega) (by omega) (by decide)) ?_
        refine draw_q rfl (q_ne rfl rfl (by decide)) ?_
        refine draw_nil ?_
        refine hK22 _ ?_; clear hK22 K22
        refine codeT.imp (σ' := [(0, _), (1, _), (4, _), (7, _), (8, _), (9, _), (10, _), (33, _)]) ?_ (imp_covers ⟨rfl, rfl, rfl, rfl, rfl, rfl, rfl, rfl, trivial⟩)
        refine code_cond_d rfl (fun h8 => ?_) (fun h8 => ?_)
        · skip
          (try simp only [Decidable.not_not] at h8)
          refine code_seq (fun K23 hK23 => ?_)
          refine code_draw (by kernel_rfl) (by kernel_rfl) ?_
          refine draw_q rfl (q_move rfl (by decide)) ?_
          refine draw_q rfl (q_move rfl (by decide)) ?_
          refine draw_q rfl (by first | exact q_addI rfl rfl (by decide) (by omega) (by omega) | exact q_ib rfl rfl rfl (by decide)) ?_
          refine draw_q rfl (q_slice_str Tryd.underlying9 rfl ⟨_, rfl⟩ rfl (by omega) (by omega) (by omega) (by decide)) ?_
          refine draw_q rfl (q_move rfl (by decide)) ?_
          refine draw_q rfl (q_move rfl (by decide)) ?_
          refine draw_q rfl (q_index_str Tryd.underlying9 rfl rfl (by omega) (by omega) (by decide)) ?_
          refine draw_call _ (indexByte_c _ _) rfl rfl rfl (by decide) ?_
          refine draw_q rfl (q_assign rfl (by decide)) ?_
          refine draw_nil ?_
          refine hK23 _ ?_; clear hK23 K23
          refine codeT.imp (σ' := [(0, _), (1, _), (4, _), (7, _), (8, _), (9, _), (10, _), (11, _)]) ?_ (imp_covers ⟨rfl, rfl, rfl, rfl, rfl, rfl, rfl, rfl, trivial⟩)
          refine code_seq (fun K24 hK24 => ?_)
          refine code_seq (fun K25 hK25 => ?_)
          refine code_region ?_
          refine list_cons rfl (op_q (q_move rfl (by decide)) ?_)
          refine list_cons rfl (op_q (q_lt rfl rfl (by decide)) ?_)
          refine list_nil ?_
          refine hK25 _ ?_; clear hK25 K25
          refine code_cond_d rfl (fun h9 => ?_) (fun h9 => ?_)
          · skip
            (try simp only [Decidable.not_not] at h9)
            refine code_seq (fun K26 hK26 => ?_)
            refine code_region ?_
            refine list_cons rfl (op_q (q_assign rfl (by decide)) ?_)
            refine list_nil ?_
            refine hK26 _ ?_; clear hK26 K26
            refine code_ret ?_
            refine then_r ?_; clear hK24 K24
            refine then_r ?_; clear hK21 K21
            refine sc_r ?_
            refine blk_r ?_
            refine then_r ?_
            refine blk_r ?_
            refine then_r ?_; clear hK18 K18
            refine sc_r ?_
            refine blk_r ?_
            refine ends_ret (cs := []) rfl rfl rfl rfl trivial ?_
            rfl
          (try simp only [Decidable.not_not] at h9)
          exfalso
          have g3 := ix_none ((encL r).getD last.toNat 0) hlast (((abcG.drop (i + 1).toNat).take (((abcG.length : Nat) : Int).toNat - (i + 1).toNat))) (fun b hb => abcG_lt b (List.mem_of_mem_drop (List.mem_of_mem_take hb)))
          rw [g3] at h9; omega
        (try simp only [Decidable.not_not] at h8)
        exfalso
        have g1 := hab i.toNat (by omega); have g2 := hlast; omega
      (try simp only [Decidable.not_not] at h7)
      refine code_exit ?_
      refine then_x ?_; clear hK19 K19
      refine then_x ?_
      refine blk_hit ?_
      refine hK18 _ ?_; clear hK18 K18
      refine code_seq (fun K27 hK27 => ?_)
      refine code_seq (fun K28 hK28 => ?_)
      refine code_region ?_
      refine list_cons rfl (op_q (q_assign rfl (by decide)) ?_)
      refine list_nil ?_
      refine hK28 _ ?_; clear hK28 K28
      refine code_ret ?_
      refine then_r ?_; clear hK27 K27
      refine sc_r ?_
      refine blk_r ?_
      refine ends_ret (cs := []) rfl rfl rfl rfl trivial ?_
      rfl
  simp only [Bool.false_eq_true, if_true, if_false, Decidable.not_not] at h1
  exfalso
  omega

theorem indexRune_c (r : Int) (h0 : 0 ≤ r) (h1 : r ≤ 1114111) : PCalls Tryd.prog 92 [.str abcG, .int .i32 r] (· = [.val (.int .i64 (ixR r))]) := by
  by_cases h : r < 128
  · exact indexRune_ascii r h0 h
  · rw [show ixR r = -1 by unfold ixR; rw [if_neg (by omega)]]
    exact indexRune_hi r (by omega) h1
theorem ixR_le (r : Int) : -1 ≤ ixR r ∧ ixR r ≤ 6 := by unfold ixR; split <;> omega
def OrdU (s : List UInt8) (i : Nat) : Prop := ∀ j, j < i → 97 ≤ (s.getD j 0).toNat ∧ (s.getD j 0).toNat ≤ 103 ∧ (0 < j → (s.getD (j - 1) 0).toNat < (s.getD j 0).toNat)
theorem p2_mono {a b : Nat} (h : a ≤ b) : p2 a ≤ p2 b := Nat.pow_le_pow_right (by omega) h
theorem orF_top (s : List UInt8) : ∀ i, i < s.length → OrdU s (i + 1) → p2 ((s.getD i 0).toNat - 97) ≤ orF (s.take (i + 1)) ∧ orF (s.take (i + 1)) < p2 ((s.getD i 0).toNat - 97 + 1)
  | 0, h, hu => by
    rw [orF_snoc s h, List.take_zero]
    have e : orF [] ||| 2 ^ ((s.getD 0 0).toNat - 97) = 2 ^ ((s.getD 0 0).toNat - 97) := by show 0 ||| _ = _; simp
    rw [e]
    exact ⟨Nat.le_refl _, Nat.pow_lt_pow_right (by omega) (by omega)⟩
  | i + 1, h, hu => by
    have ih := orF_top s i (by omega) (fun j hj => hu j (by omega))
    have h2 := (hu (i + 1) (by omega)).2.2 (by omega)
    rw [Nat.add_sub_cancel] at h2
    have h3 := (hu i (by omega)).1
    rw [orF_snoc s h]
    refine ⟨Nat.right_le_or, @Nat.or_lt_two_pow _ _ _ ?_ (Nat.pow_lt_pow_right (by omega) (by omega))⟩
    refine Nat.lt_of_lt_of_le ih.2 (Nat.pow_le_pow_right (by omega) (by omega))
theorem sh_zero {a k : Nat} : shN a k = 0 ↔ a < p2 k := by
  unfold shN
  rw [Nat.div_eq_zero_iff]
  have : 0 < p2 k := Nat.pow_pos (by omega)
  omega
theorem pb_at {s : List UInt8} {i : Nat} (h : i < s.length) (hr : 0 ≤ ixR ((runeAt s i).1 : Int)) : (runeAt s i).1 = (s.getD i 0).toNat ∧ (runeAt s i).2 = 1 ∧ 97 ≤ (s.getD i 0).toNat ∧ (s.getD i 0).toNat ≤ 103 ∧ ixR ((runeAt s i).1 : Int) = (((s.getD i 0).toNat - 97 : Nat) : Int) := by
  by_cases ha : (s.getD i 0).toNat < 128
  · have e := runeAt_ascii h ha
    rw [e] at hr ⊢
    simp only [] at hr ⊢
    unfold ixR at hr ⊢
    split at hr
    · rename_i h2; rw [if_pos h2]; exact ⟨by trivial, by trivial, by omega, by omega, by omega⟩
    · omega
  · have := runeAt_hi h (by omega)
    unfold ixR at hr
    rw [if_neg (by omega)] at hr
    omega
theorem pb_ord {s : List UInt8} {i : Nat} (h : i < s.length) (ho : OrdP s) : 0 ≤ ixR ((runeAt s i).1 : Int) := by
  have := ho i h
  rw [runeAt_ascii h (by omega)]
  simp only []
  unfold ixR; rw [if_pos (by omega)]; omega
theorem pb_step {s : List UInt8} {i : Nat} (h : i < s.length) (hu : OrdU s i) (hr : 0 ≤ ixR ((runeAt s i).1 : Int)) (hz : shN (orF (s.take i)) (ixR ((runeAt s i).1 : Int)).toNat = 0) : OrdU s (i + 1) := by
  obtain ⟨_, _, g3, g4, g5⟩ := pb_at h hr
  rw [g5, Int.toNat_natCast, sh_zero] at hz
  intro j hj
  by_cases e : j = i
  · subst e
    refine ⟨g3, g4, fun h0 => ?_⟩
    have h1 := orF_top s (j - 1) (by omega) (fun k hk => hu k (by omega))
    rw [show j - 1 + 1 = j by omega] at h1
    have h2 := (hu (j - 1) (by omega)).1
    have h3 : p2 ((s.getD (j - 1) 0).toNat - 97) < p2 ((s.getD j 0).toNat - 97) := by omega
    have h4 : (s.getD (j - 1) 0).toNat - 97 < (s.getD j 0).toNat - 97 := Nat.lt_of_not_le fun hle => by have := p2_mono hle; omega
    omega
  · exact hu j (by omega)
theorem pb_bad {s : List UInt8} {i : Nat} (h : i < s.length) (hu : OrdU s i) (hr : 0 ≤ ixR ((runeAt s i).1 : Int)) (hz : ¬ shN (orF (s.take i)) (ixR ((runeAt s i).1 : Int)).toNat = 0) : ¬ OrdP s := by
  intro ho
  obtain ⟨_, _, g3, g4, g5⟩ := pb_at h hr
  apply hz
  rw [g5, Int.toNat_natCast, sh_zero]
  by_cases h0 : 0 < i
  · have h1 := orF_top s (i - 1) (by omega) (fun k hk => hu k (by omega))
    rw [show i - 1 + 1 = i by omega] at h1
    have h2 := (ho i h).2.2 h0
    have h3 := (hu (i - 1) (by omega)).1
    exact Nat.lt_of_lt_of_le h1.2 (p2_mono (by omega))
  · rw [show i = 0 by omega, List.take_zero]
    show 0 < _
    exact Nat.pow_pos (by omega)


set_option maxRecDepth 100000 in
theorem onesCount_c (c : Int) (h0 : 0 ≤ c) (h1 : c ≤ 127) : PCalls Tryd.prog 78 [.int .u64 c] (· = [.val (.int .i64 (((cnt7 c.toNat : Nat) : Int)))]) := by
  have h := below_int (p := fun i => oneInt (crun Tf.tf noExt 200 6 78 [.int .u64 (Int.ofNat i)]) (((cnt7 i : Nat) : Int))) (k := 128) (by kernel_rfl) h0 (by omega)
  have e : Int.ofNat c.toNat = c := Int.toNat_of_nonneg h0
  rw [e] at h
  exact pcalls_run Tf.tf (oneInt_ok h)

set_option maxRecDepth 4000 in
theorem impl_IsCell (c : Int) : PCalls Tryd.prog 77 [.int .i64 c] (· = [.val (.bool (decide (0 ≤ c ∧ c ≤ 127)))]) := by
  refine pcalls_of_code (n := 9) az Tryd.func77 (by kernel_rfl) rfl rfl (Nat.le_of_ble_eq_true rfl) (by intro t u h; simp [Tryd.f77] at h) ?_
  refine code_seq (fun K1 hK1 => ?_)
  refine code_region ?_
  refine list_cons rfl (op_q (q_assign rfl (by decide)) ?_)
  refine list_nil ?_
  refine hK1 _ ?_; clear hK1 K1
  refine code_seq (fun K2 hK2 => ?_)
  refine code_region ?_
  refine list_cons rfl (op_q (q_move rfl (by decide)) ?_)
  refine list_cons rfl (op_q (q_ge rfl rfl (by decide)) ?_)
  refine list_cons rfl (op_q (q_move rfl (by decide)) ?_)
  refine list_guard_d rfl rfl rfl rfl (by decide) rfl (by decide) (fun h1 => ?_) (fun h1 => ?_)
  · simp only [Bool.false_eq_true, if_true, if_false, Decidable.not_not] at h1
    refine id (op_q (q_move rfl (by decide)) ?_)
    refine list_guard_y rfl rfl rfl rfl (by decide) rfl ?_
    refine id (op_q (q_lt rfl rfl (by decide)) ?_)
    refine list_cons rfl (op_q (q_pick rfl rfl (by decide)) ?_)
    refine list_cons rfl (op_q (q_assign rfl (by decide)) ?_)
    refine list_nil ?_
    refine hK2 _ ?_; clear hK2 K2
    refine code_ret ?_
    refine ends_ret (cs := []) rfl rfl rfl rfl trivial ?_
    first | (congr 3; exact decide_eq_decide.mpr ⟨fun k => by omega, fun k => by omega⟩) | (rw [decide_eq_false (by omega)])
  simp only [Bool.false_eq_true, if_true, if_false, Decidable.not_not] at h1
  refine list_guard_n rfl rfl rfl rfl (by decide) rfl ?_
  refine list_cons rfl (op_q (q_pick rfl rfl (by decide)) ?_)
  refine list_cons rfl (op_q (q_assign rfl (by decide)) ?_)
  refine list_nil ?_
  refine hK2 _ ?_; clear hK2 K2
  refine code_ret ?_
  refine ends_ret (cs := []) rfl rfl rfl rfl trivial ?_
  first | (congr 3; exact decide_eq_decide.mpr ⟨fun k => by omega, fun k => by omega⟩) | (rw [decide_eq_false (by omega)])

set_option maxRecDepth 4000 in
theorem impl_CountBars (c : Int) : PCalls Tryd.prog 59 [.int .i64 c] (· = [.val (.int .i64 (if 0 ≤ c ∧ c ≤ 127 then ((cnt7 c.toNat : Nat) : Int) else 0)), .val (.bool (decide (0 ≤ c ∧ c ≤ 127)))]) := by
  refine pcalls_of_code (n := 10) az Tryd.func59 (by kernel_rfl) rfl rfl (Nat.le_of_ble_eq_true rfl) (by intro t u h; simp [Tryd.f59] at h) ?_
  refine code_seq (fun K1 hK1 => ?_)
  refine code_region ?_
  refine list_cons rfl (op_q (q_assign rfl (by decide)) ?_)
  refine list_cons rfl (op_q (q_assign rfl (by decide)) ?_)
  refine list_nil ?_
  refine hK1 _ ?_; clear hK1 K1
  refine code_seq (fun K2 hK2 => ?_)
  refine code_seq (fun K3 hK3 => ?_)
  refine code_region ?_
  refine list_cons rfl (op_q (q_move rfl (by decide)) ?_)
  refine list_cons rfl (op_call _ (impl_IsCell _) rfl rfl (by decide) (by decide) (by decide) rfl ?_)
  rintro _ rfl
  refine list_cons rfl (op_q (by first | exact q_notd rfl (by decide) | exact q_not rfl (by decide)) ?_)
  refine list_nil ?_
  refine hK3 _ ?_; clear hK3 K3
  refine codeT.imp (σ' := [(0, _), (2, _), (3, _), (6, _)]) ?_ (imp_covers ⟨rfl, rfl, rfl, rfl, trivial⟩)
  refine code_cond_d rfl (fun h1 => ?_) (fun h1 => ?_)
  · skip
    (try simp only [Decidable.not_not] at h1)
    refine code_seq (fun K4 hK4 => ?_)
    refine code_region ?_
    refine list_cons rfl (op_q (q_assign rfl (by decide)) ?_)
    refine list_cons rfl (op_q (q_assign rfl (by decide)) ?_)
    refine list_nil ?_
    refine hK4 _ ?_; clear hK4 K4
    refine code_ret ?_
    refine then_r ?_; clear hK2 K2
    refine ends_ret (cs := []) rfl rfl rfl rfl trivial ?_
    simp only [if_neg h1, decide_eq_false h1]
  (try simp only [Decidable.not_not] at h1)
  refine code_skip ?_
  refine hK2 _ ?_; clear hK2 K2
  refine code_seq (fun K5 hK5 => ?_)
  refine code_region ?_
  refine list_cons rfl (op_q (q_move rfl (by decide)) ?_)
  refine list_cons rfl (op_q (by first | exact q_convU (by rw [Tryd.underlying3]; rfl) Tryd.underlying79 rfl (by decide) (by omega) (by omega) | exact q_conv (by rw [Tryd.underlying3]; rfl) Tryd.underlying79 rfl (by decide)) ?_)
  refine list_cons rfl (op_call _ (onesCount_c _ (by omega) (by omega)) rfl rfl (by decide) (by decide) (by decide) rfl ?_)
  rintro _ rfl
  refine list_cons rfl (op_q (q_assign rfl (by decide)) ?_)
  refine list_cons rfl (op_q (q_assign rfl (by decide)) ?_)
  refine list_nil ?_
  refine hK5 _ ?_; clear hK5 K5
  refine codeT.imp (σ' := [(0, _), (2, _), (3, _)]) ?_ (imp_covers ⟨rfl, rfl, rfl, trivial⟩)
  refine code_ret ?_
  refine ends_ret (cs := []) rfl rfl rfl rfl trivial ?_
  simp only [if_pos h1, decide_eq_true h1]

set_option maxRecDepth 4000 in
theorem impl_FarCells (a b : Int) : PCalls Tryd.prog 82 [.int .i64 a, .int .i64 b] (· = [.val (.int .i64 (if (0 ≤ a ∧ a ≤ 127) ∧ (0 ≤ b ∧ b ≤ 127) then ((cnt7 (a.toNat ^^^ b.toNat) : Nat) : Int) else 0)), .val (.bool (decide ((0 ≤ a ∧ a ≤ 127) ∧ (0 ≤ b ∧ b ≤ 127))))]) := by
  refine pcalls_of_code (n := 20) az Tryd.func82 (by kernel_rfl) rfl rfl (Nat.le_of_ble_eq_true rfl) (by intro t u h; simp [Tryd.f82] at h) ?_
  refine code_seq (fun K1 hK1 => ?_)
  refine code_region ?_
  refine list_cons rfl (op_q (q_assign rfl (by decide)) ?_)
  refine list_cons rfl (op_q (q_assign rfl (by decide)) ?_)
  refine list_nil ?_
  refine hK1 _ ?_; clear hK1 K1
  refine code_seq (fun K2 hK2 => ?_)
  refine code_seq (fun K3 hK3 => ?_)
  refine code_region ?_
  refine list_cons rfl (op_q (q_move rfl (by decide)) ?_)
  refine list_cons rfl (op_call _ (impl_IsCell _) rfl rfl (by decide) (by decide) (by decide) rfl ?_)
  rintro _ rfl
  refine list_cons rfl (op_q (by first | exact q_notd rfl (by decide) | exact q_not rfl (by decide)) ?_)
  refine list_cons rfl (op_q (q_move rfl (by decide)) ?_)
  refine list_guard_d rfl rfl rfl rfl (by decide) rfl (by decide) (fun h1 => ?_) (fun h1 => ?_)
  · simp only [Bool.false_eq_true, if_true, if_false, Decidable.not_not] at h1
    refine id (op_q (q_move rfl (by decide)) ?_)
    refine list_guard_y rfl rfl rfl rfl (by decide) rfl ?_
    refine id (op_call _ (impl_IsCell _) rfl rfl (by decide) (by decide) (by decide) rfl ?_)
    rintro _ rfl
    refine list_guard_y rfl rfl rfl rfl (by decide) rfl ?_
    refine id (op_q (by first | exact q_notd rfl (by decide) | exact q_not rfl (by decide)) ?_)
    refine list_cons rfl (op_q (q_pick rfl rfl (by decide)) ?_)
    refine list_nil ?_
    refine hK3 _ ?_; clear hK3 K3
    refine codeT.imp (σ' := [(0, _), (1, _), (4, _), (5, _), (13, _)]) ?_ (imp_covers ⟨rfl, rfl, rfl, rfl, rfl, trivial⟩)
    refine code_cond_d rfl (fun h2 => ?_) (fun h2 => ?_)
    · skip
      (try simp only [Decidable.not_not] at h2)
      refine code_seq (fun K4 hK4 => ?_)
      refine code_region ?_
      refine list_cons rfl (op_q (q_assign rfl (by decide)) ?_)
      refine list_cons rfl (op_q (q_assign rfl (by decide)) ?_)
      refine list_nil ?_
      refine hK4 _ ?_; clear hK4 K4
      refine code_ret ?_
      refine then_r ?_; clear hK2 K2
      refine ends_ret (cs := []) rfl rfl rfl rfl trivial ?_
      first
        | (have e : ¬ ((0 ≤ a ∧ a ≤ 127) ∧ (0 ≤ b ∧ b ≤ 127)) := by omega
           simp only [if_neg e, decide_eq_false e])
        | (have e : ((0 ≤ a ∧ a ≤ 127) ∧ (0 ≤ b ∧ b ≤ 127)) := by omega
           have e2 := xor7 e.1 e.2
           have e3 : 0 ≤ ((a.toNat ^^^ b.toNat : Nat) : Int) ∧ ((a.toNat ^^^ b.toNat : Nat) : Int) ≤ 127 := ⟨by omega, e2⟩
           simp only [if_pos e, decide_eq_true e, if_pos e3, decide_eq_true e3, Int.toNat_natCast])
    (try simp only [Decidable.not_not] at h2)
    refine code_skip ?_
    refine hK2 _ ?_; clear hK2 K2
    refine code_seq (fun K5 hK5 => ?_)
    refine code_region ?_
    refine list_cons rfl (op_q (q_move rfl (by decide)) ?_)
    refine list_cons rfl (op_q (q_move rfl (by decide)) ?_)
    refine list_cons rfl (op_q (by first | exact q_xorI rfl rfl (by decide) (by omega) (by omega) (by omega) (by omega) | exact q_ib rfl rfl rfl (by decide)) ?_)
    refine list_cons rfl (op_call _ (impl_CountBars _) rfl rfl (by decide) (by decide) (by decide) rfl ?_)
    rintro _ rfl
    refine list_cons rfl (op_q (q_extract rfl rfl (by decide)) ?_)
    refine list_cons rfl (op_q (q_extract rfl rfl (by decide)) ?_)
    refine list_cons rfl (op_q (q_assign rfl (by decide)) ?_)
    refine list_cons rfl (op_q (q_assign rfl (by decide)) ?_)
    refine list_nil ?_
    refine hK5 _ ?_; clear hK5 K5
    refine codeT.imp (σ' := [(0, _), (1, _), (4, _), (5, _)]) ?_ (imp_covers ⟨rfl, rfl, rfl, rfl, trivial⟩)
    refine code_ret ?_
    refine ends_ret (cs := []) rfl rfl rfl rfl trivial ?_
    first
      | (have e : ¬ ((0 ≤ a ∧ a ≤ 127) ∧ (0 ≤ b ∧ b ≤ 127)) := by omega
         simp only [if_neg e, decide_eq_false e])
      | (have e : ((0 ≤ a ∧ a ≤ 127) ∧ (0 ≤ b ∧ b ≤ 127)) := by omega
         have e2 := xor7 e.1 e.2
         have e3 : 0 ≤ ((a.toNat ^^^ b.toNat : Nat) : Int) ∧ ((a.toNat ^^^ b.toNat : Nat) : Int) ≤ 127 := ⟨by omega, e2⟩
         simp only [if_pos e, decide_eq_true e, if_pos e3, decide_eq_true e3, Int.toNat_natCast])
  simp only [Bool.false_eq_true, if_true, if_false, Decidable.not_not] at h1
  refine list_guard_n rfl rfl rfl rfl (by decide) rfl ?_
  refine list_guard_n rfl rfl rfl rfl (by decide) rfl ?_
  refine list_cons rfl (op_q (q_pick rfl rfl (by decide)) ?_)
  refine list_nil ?_
  refine hK3 _ ?_; clear hK3 K3
  refine code_cond_t rfl ?_
  refine code_seq (fun K6 hK6 => ?_)
  refine code_region ?_
  refine list_cons rfl (op_q (q_assign rfl (by decide)) ?_)
  refine list_cons rfl (op_q (q_assign rfl (by decide)) ?_)
  refine list_nil ?_
  refine hK6 _ ?_; clear hK6 K6
  refine code_ret ?_
  refine then_r ?_; clear hK2 K2
  refine ends_ret (cs := []) rfl rfl rfl rfl trivial ?_
  first
    | (have e : ¬ ((0 ≤ a ∧ a ≤ 127) ∧ (0 ≤ b ∧ b ≤ 127)) := by omega
       simp only [if_neg e, decide_eq_false e])
    | (have e : ((0 ≤ a ∧ a ≤ 127) ∧ (0 ≤ b ∧ b ≤ 127)) := by omega
       have e2 := xor7 e.1 e.2
       have e3 : 0 ≤ ((a.toNat ^^^ b.toNat : Nat) : Int) ∧ ((a.toNat ^^^ b.toNat : Nat) : Int) ≤ 127 := ⟨by omega, e2⟩
       simp only [if_pos e, decide_eq_true e, if_pos e3, decide_eq_true e3, Int.toNat_natCast])

set_option maxRecDepth 4000 in
theorem impl_ParseBars (s : List UInt8) (hs : s.length ≤ 4611686018427387904) : PCalls Tryd.prog 84 [.str s] (· = [.val (.int .i64 (if OrdP s then ((orF s : Nat) : Int) else 0)), .val (.bool (decide (OrdP s)))]) := by
  refine pcalls_of_code (n := 28) az Tryd.func84 (by kernel_rfl) rfl rfl (Nat.le_of_ble_eq_true rfl) (by intro t u h; simp [Tryd.f84] at h) ?_
  refine code_seq (fun K1 hK1 => ?_)
  refine code_region ?_
  refine list_cons rfl (op_q (q_assign rfl (by decide)) ?_)
  refine list_cons rfl (op_q (q_assign rfl (by decide)) ?_)
  refine list_nil ?_
  refine hK1 _ ?_; clear hK1 K1
  refine code_seq (fun K2 hK2 => ?_)
  refine code_region ?_
  refine list_cons rfl (op_q (q_assign rfl (by decide)) ?_)
  refine list_nil ?_
  refine hK2 _ ?_; clear hK2 K2
  refine code_seq (fun K3 hK3 => ?_)
  refine code_seq (fun K4 hK4 => ?_)
  refine code_region ?_
  refine list_cons rfl (op_q (q_move rfl (by decide)) ?_)
  refine list_cons rfl (op_range_str Tryd.underlying9 rfl (by decide) (by decide) rfl ?_)
  refine list_nil ?_
  refine hK4 _ ?_; clear hK4 K4
  refine code_block ?_
  refine code_loop (X := Int × Bool × Int × Nat) (fun x => [(0, .val (.str s)), (2, .val (.int .i64 x.1)), (3, .val (.bool x.2.1)), (4, .val (.int .i64 x.2.2.1)), (9, .sit 9 (s) x.2.2.2)]) (fun x => x.2.2.2 ≤ s.length ∧ x.2.2.1 = ((orF (s.take x.2.2.2) : Nat) : Int) ∧ orF (s.take x.2.2.2) < 128 ∧ OrdU s x.2.2.2) (fun x => s.length - x.2.2.2) (_, _, _, _) (imp_covers ⟨rfl, rfl, rfl, rfl, rfl, trivial⟩) ?_ ?_
  · (try dsimp only)
    exact ⟨by omega, by rw [List.take_zero]; rfl, by rw [List.take_zero]; decide, fun j hj => by omega⟩
  · intro x hI
    obtain ⟨t2, t3, cell, t9_i⟩ := x
    replace hI : t9_i ≤ s.length ∧ cell = ((orF (s.take t9_i) : Nat) : Int) ∧ orF (s.take t9_i) < 128 ∧ OrdU s t9_i := hI
    show codeT _ _ _ [(0, .val (.str s)), (2, .val (.int .i64 t2)), (3, .val (.bool t3)), (4, .val (.int .i64 cell)), (9, .sit 9 (s) t9_i)] _
    obtain ⟨i1, i2, i3, i4⟩ := hI
    have hix := ixR_le ((runeAt s t9_i).1 : Int)
    have hp2 := p2_le (k := (ixR ((runeAt s t9_i).1 : Int)).toNat) (by omega)
    refine code_seq (fun K5 hK5 => ?_)
    refine code_region ?_
    refine list_cons rfl (op_next (h := 9) rfl rfl (by decide) (fun h1 => ?_) (fun h1 => ?_))
    · skip
      refine list_cons rfl (op_q (q_extract rfl rfl (by decide)) ?_)
      refine list_nil ?_
      refine hK5 _ ?_; clear hK5 K5
      refine code_seq (fun K6 hK6 => ?_)
      refine code_cond_f rfl ?_
      refine code_exit ?_
      refine then_x ?_; clear hK6 K6
      refine then_x ?_
      refine blk_hit ?_
      refine hK3 _ ?_; clear hK3 K3
      refine code_seq (fun K7 hK7 => ?_)
      refine code_region ?_
      refine list_cons rfl (op_q (q_move rfl (by decide)) ?_)
      refine list_cons rfl (op_q (q_assign rfl (by decide)) ?_)
      refine list_cons rfl (op_q (q_assign rfl (by decide)) ?_)
      refine list_nil ?_
      refine hK7 _ ?_; clear hK7 K7
      refine code_ret ?_
      refine ends_ret (cs := []) rfl rfl rfl rfl trivial ?_
      have e0 : t9_i = s.length := by omega
      rw [e0] at i4
      have e : OrdP s := i4
      rw [if_pos e, decide_eq_true e, i2, e0, List.take_length]
    · skip
      refine list_cons rfl (op_q (q_extract rfl rfl (by decide)) ?_)
      refine list_nil ?_
      refine hK5 _ ?_; clear hK5 K5
      refine code_seq (fun K8 hK8 => ?_)
      refine code_cond_t rfl ?_
      refine code_skip ?_
      refine hK8 _ ?_; clear hK8 K8
      refine code_block ?_
      refine code_seq (fun K9 hK9 => ?_)
      refine code_region ?_
      refine list_cons rfl (op_q (q_extract rfl rfl (by decide)) ?_)
      refine list_cons rfl (op_q (q_assign rfl (by decide)) ?_)
      refine list_nil ?_
      refine hK9 _ ?_; clear hK9 K9
      refine code_seq (fun K10 hK10 => ?_)
      refine code_region ?_
      refine list_cons rfl (op_q (q_move rfl (by decide)) ?_)
      refine list_cons rfl (op_call _ (indexRune_c _ (by omega) (by have := runeAt_le (s := s) (i := t9_i) (by omega); omega)) rfl rfl (by decide) (by decide) (by decide) rfl ?_)
      rintro _ rfl
      refine list_cons rfl (op_q (q_assign rfl (by decide)) ?_)
      refine list_nil ?_
      refine hK10 _ ?_; clear hK10 K10
      refine codeT.imp (σ' := [(0, _), (2, _), (3, _), (4, _), (6, _), (7, _), (9, _), (10, _)]) ?_ (imp_covers ⟨rfl, rfl, rfl, rfl, rfl, rfl, rfl, rfl, trivial⟩)
      refine code_seq (fun K11 hK11 => ?_)
      refine code_seq (fun K12 hK12 => ?_)
      refine code_region ?_
      refine list_cons rfl (op_q (q_move rfl (by decide)) ?_)
      refine list_cons rfl (op_q (q_lt rfl rfl (by decide)) ?_)
      refine list_cons rfl (op_q (q_move rfl (by decide)) ?_)
      refine list_guard_d rfl rfl rfl rfl (by decide) rfl (by decide) (fun h2 => ?_) (fun h2 => ?_)
      · simp only [Bool.false_eq_true, if_true, if_false, Decidable.not_not] at h2
        refine id (op_q (q_move rfl (by decide)) ?_)
        refine list_guard_y rfl rfl rfl rfl (by decide) rfl ?_
        refine id (op_q (q_move rfl (by decide)) ?_)
        refine list_guard_y rfl rfl rfl rfl (by decide) rfl ?_
        refine id (op_q (by first | exact q_shrN rfl rfl (by decide) (by omega) (by omega) (by omega) | exact q_shrI rfl rfl (by decide) (by omega) (by omega) (by omega) | exact q_shr rfl rfl (by omega) (by decide)) ?_)
        refine list_guard_y rfl rfl rfl rfl (by decide) rfl ?_
        refine id (op_q (q_ne rfl rfl (by decide)) ?_)
        refine list_cons rfl (op_q (q_pick rfl rfl (by decide)) ?_)
        refine list_nil ?_
        refine hK12 _ ?_; clear hK12 K12
        refine codeT.imp (σ' := [(0, _), (2, _), (3, _), (4, _), (6, _), (7, _), (9, _), (10, _), (22, _)]) ?_ (imp_covers ⟨rfl, rfl, rfl, rfl, rfl, rfl, rfl, rfl, rfl, trivial⟩)
        refine code_cond_d rfl (fun h3 => ?_) (fun h3 => ?_)
        · skip
          (try simp only [Decidable.not_not] at h3)
          refine code_seq (fun K13 hK13 => ?_)
          refine code_region ?_
          refine list_cons rfl (op_q (q_assign rfl (by decide)) ?_)
          refine list_cons rfl (op_q (q_assign rfl (by decide)) ?_)
          refine list_nil ?_
          refine hK13 _ ?_; clear hK13 K13
          refine code_ret ?_
          refine then_r ?_; clear hK11 K11
          refine blk_r ?_
          refine then_r ?_
          refine blk_r ?_
          refine then_r ?_; clear hK3 K3
          refine ends_ret (cs := []) rfl rfl rfl rfl trivial ?_
          have e : ¬ OrdP s := pb_bad (i := t9_i) (by omega) i4 (by omega) (fun k => h3 (by rw [i2, Int.toNat_natCast, k]; rfl))
          rw [if_neg e, decide_eq_false e]
        (try simp only [Decidable.not_not] at h3)
        refine code_skip ?_
        refine hK11 _ ?_; clear hK11 K11
        refine code_region ?_
        refine list_cons rfl (op_q (q_move rfl (by decide)) ?_)
        refine list_cons rfl (op_q (q_move rfl (by decide)) ?_)
        refine list_cons rfl (op_q (by first | exact q_shl1 rfl rfl (by decide) (by omega) (by omega) | exact q_shlI rfl rfl (by decide) (by omega) (by omega) (by omega) | exact q_shl rfl rfl (by omega) (by decide)) ?_)
        refine list_cons rfl (op_q (by first | exact q_orI rfl rfl (by decide) (by omega) (by omega) (by omega) (by omega) | exact q_ib rfl rfl rfl (by decide)) ?_)
        refine list_cons rfl (op_q (q_assign rfl (by decide)) ?_)
        refine list_nil ?_
        refine blk_n ?_
        refine then_n ⟨(_, _, _, _), imp_covers ⟨rfl, rfl, rfl, rfl, rfl, trivial⟩, ?_, ?_⟩
        · (try dsimp only)
          have hr : 0 ≤ ixR ((runeAt s t9_i).1 : Int) := by omega
          have hz : shN (orF (s.take t9_i)) (ixR ((runeAt s t9_i).1 : Int)).toNat = 0 := by have := h3; rw [i2, Int.toNat_natCast] at this; omega
          obtain ⟨g1, g2, g3, g4, g5⟩ := pb_at (by omega) hr
          have e9 : orF (s.take (t9_i + 1)) = orF (s.take t9_i) ||| p2 (ixR ((runeAt s t9_i).1 : Int)).toNat := by
            rw [orF_snoc s (by omega), g5, Int.toNat_natCast]; rfl
          rw [g2]
          refine ⟨by omega, ?_, ?_, pb_step (by omega) i4 hr hz⟩
          · rw [e9, i2, Int.toNat_natCast, Int.toNat_natCast]
          · rw [e9]; exact or7 i3 (by omega)
        · (have hr : 0 ≤ ixR ((runeAt s t9_i).1 : Int) := by omega); (have := (pb_at (by omega) hr).2.1); (try dsimp only); omega
      simp only [Bool.false_eq_true, if_true, if_false, Decidable.not_not] at h2
      refine list_guard_n rfl rfl rfl rfl (by decide) rfl ?_
      refine list_guard_n rfl rfl rfl rfl (by decide) rfl ?_
      refine list_guard_n rfl rfl rfl rfl (by decide) rfl ?_
      refine list_cons rfl (op_q (q_pick rfl rfl (by decide)) ?_)
      refine list_nil ?_
      refine hK12 _ ?_; clear hK12 K12
      refine code_cond_t rfl ?_
      refine code_seq (fun K14 hK14 => ?_)
      refine code_region ?_
      refine list_cons rfl (op_q (q_assign rfl (by decide)) ?_)
      refine list_cons rfl (op_q (q_assign rfl (by decide)) ?_)
      refine list_nil ?_
      refine hK14 _ ?_; clear hK14 K14
      refine code_ret ?_
      refine then_r ?_; clear hK11 K11
      refine blk_r ?_
      refine then_r ?_
      refine blk_r ?_
      refine then_r ?_; clear hK3 K3
      refine ends_ret (cs := []) rfl rfl rfl rfl trivial ?_
      have e : ¬ OrdP s := fun k => by have := pb_ord (i := t9_i) (by omega) k; omega
      rw [if_neg e, decide_eq_false e]

def gr_ren : Go.Shelf.Ren := ⟨fun | 4 => 83 | n => n, fun | 0 => 0 | 3 => 3 | 4 => 4 | 9 => 9 | 20 => 20 | 22 => 28 | 25 => 3 | n => n, fun | n => n⟩
open Go.Shelf in
theorem gr_lay : Go.Proofs.Lays8.n4 Tryd.prog gr_ren := { mixed := by kernel_rfl, f4 := ⟨"slices.Grow[[]int,int]", rfl, Tryd.func83.trans (congrArg some (by kernel_rfl))⟩, t0 := Tryd.underlying0, a0 := Tryd.isAgg0, z0 := Tryd.sizeOf0, v0 := Tryd.zeroValue0, t3 := Tryd.underlying3, a3 := Tryd.isAgg3, z3 := Tryd.sizeOf3, v3 := Tryd.zeroValue3, t4 := Tryd.underlying4, a4 := Tryd.isAgg4, z4 := Tryd.sizeOf4, v4 := Tryd.zeroValue4, t9 := Tryd.underlying9, a9 := Tryd.isAgg9, z9 := Tryd.sizeOf9, v9 := Tryd.zeroValue9, t20 := Tryd.underlying20, a20 := Tryd.isAgg20, z20 := Tryd.sizeOf20, v20 := Tryd.zeroValue20, t22 := Tryd.underlying28, a22 := Tryd.isAgg28, z22 := Tryd.sizeOf28, v22 := Tryd.zeroValue28 }
theorem below_da (w : World) (o : Obj) : Below w.heap.size w (w.drew.alloc o) := ⟨rfl, rfl, rfl, by
  have e : (w.drew.alloc o).heap = w.heap.push o := rfl
  rw [e]; simp, fun k hk => by
  have e : (w.drew.alloc o).heap = w.heap.push o := rfl
  rw [e, Array.getElem?_push, if_neg (by omega)]⟩
theorem grow_nil (n : Nat) (h : n ≤ 1000000) : PCalls Tryd.prog 83 [.cst 0, .int .i64 (n : Int)] (· = [.own 0 3 1 0 []]) := by
  refine pcalls_own (enters_of Tryd.func83 (by kernel_rfl) rfl) fun w vs ha => ?_
  obtain ⟨v0, r0, rfl, ha0, ha⟩ := repArgs_cons ha
  obtain ⟨v1, r1, rfl, ha1, ha⟩ := repArgs_cons ha
  obtain rfl := repArgs_nil ha
  simp only [Rep] at ha0 ha1
  subst ha0; subst ha1
  by_cases h0 : n = 0
  · subst h0
    refine (Any8.slices_Grow_room gr_lay none 0 0 0 w (by decide) (by decide) (by decide) (by decide)).mono fun e w' ⟨he, hw⟩ => ⟨_, [], [], 3, 1, 0, [], [], he, hw ▸ Below.refl _ _, rfl, World.ownsRow_nil _ _ _ _, rfl, rfl⟩
  · obtain ⟨_, i, z, h2, h3, h4, h5, h6, _, _, h9⟩ := sl_28
    refine (Any8.slices_Grow_grow gr_lay i z h2 h3 (by omega) none 0 0 n [] w (by decide) (by omega) (by rw [h5]; omega) (by omega) (by simp) (fun _ => rfl) (fun a h => by cases h)).mono fun e w' ⟨he, hw⟩ => ⟨_, [], [], 3, 1, 0, [], [], he, hw ▸ below_da w _, rfl, ?_, rfl, rfl⟩
    subst hw
    have hge := grownCap_ge w (0 + n) 0 3
    have hle := grownCap_le_maxLen w (0 + n) 0 3 (by simp only [maxLen]; omega)
    unfold World.ownsRow
    refine ⟨rfl, Or.inr ⟨w.heap.size, grownCap w (0 + n) 0 3, Builtin.zeroCells z.cells (0 + n - 0) ++ Builtin.zeroCells z.cells (grownCap w (0 + n) 0 3 - (0 + n)), rfl, Nat.le_refl _, ?_, Nat.zero_le _, hle, ?_, rfl⟩⟩
    · have : ∀ o, (w.drew.alloc o).heap = w.heap.push o := fun _ => rfl
      rw [this]
      refine Array.getElem?_push_size.trans ?_
      rw [Array.empty_append]; rfl
    · show _ = grownCap w (0 + n) 0 3 * 1
      simp only [Nat.zero_add] at hge
      simp [Builtin.zeroCells, h6]; omega
theorem flatL_take {L : List (List Int)} {k : Nat} (h : k < L.length) : (L.take (k + 1)).flatten = (L.take k).flatten ++ L.getD k [] := by
  rw [take_snocI [] L k h, List.flatten_append]; simp
theorem flatL_le (L : List (List Int)) (k : Nat) : (L.take k).flatten.length ≤ L.flatten.length := by
  have h := congrArg (fun z => z.flatten.length) (List.take_append_drop k L)
  simp only [List.flatten_append, List.length_append] at h
  omega

set_option maxRecDepth 4000 in
theorem concat_c (L : List (List Int)) (hL : L.length ≤ 1000) (hT : L.flatten.length ≤ 100000) : PCalls Tryd.prog 71 [.sl L.length (L.map fun r => .sl r.length (r.map (.int .i64)))] (· = [.own 0 3 1 L.flatten.length (L.flatten.map (.int .i64))]) := by
  refine pcalls_of_code (n := 36) az Tryd.func71 (by kernel_rfl) rfl rfl (Nat.le_of_ble_eq_true rfl) (by intro t u h; simp [Tryd.f71] at h) ?_
  refine code_seq (fun K1 hK1 => ?_)
  refine code_region ?_
  refine list_cons rfl (op_q (q_assign rfl (by decide)) ?_)
  refine list_nil ?_
  refine hK1 _ ?_; clear hK1 K1
  refine code_seq (fun K2 hK2 => ?_)
  refine code_region ?_
  refine list_cons rfl (op_q (q_assign rfl (by decide)) ?_)
  refine list_nil ?_
  refine hK2 _ ?_; clear hK2 K2
  refine code_seq (fun K3 hK3 => ?_)
  refine code_seq (fun K4 hK4 => ?_)
  refine code_region ?_
  refine list_cons rfl (op_q (q_move rfl (by decide)) ?_)
  refine list_cons rfl (op_q (q_len_sl Tryd.underlying42 rfl rfl (by decide)) ?_)
  refine list_cons rfl (op_q (q_move rfl (by decide)) ?_)
  refine list_nil ?_
  refine hK4 _ ?_; clear hK4 K4
  refine code_block ?_
  refine code_loop (X := PV × Int × Int) (fun x => [(0, .par 0 (.sl L.length (L.map fun r => .sl r.length (r.map (.int .i64))))), (2, .val x.1), (3, .val (.int .i64 x.2.1)), (9, .par 0 (.sl L.length (L.map fun r => .sl r.length (r.map (.int .i64))))), (10, .val (.int .i64 L.length)), (11, .val (.int .i64 x.2.2))]) (fun x => 0 ≤ x.2.2 ∧ x.2.2 ≤ L.length ∧ x.2.1 = (((L.take x.2.2.toNat).flatten.length : Nat) : Int)) (fun x => (L.length - x.2.2).toNat) (_, _, _) (imp_covers ⟨rfl, rfl, rfl, rfl, rfl, rfl, trivial⟩) ?_ ?_
  · (try dsimp only)
    exact ⟨by omega, by omega, rfl⟩
  · intro x hI
    obtain ⟨t2_p, size, t11⟩ := x
    replace hI : 0 ≤ t11 ∧ t11 ≤ L.length ∧ size = (((L.take t11.toNat).flatten.length : Nat) : Int) := hI
    show codeT _ _ _ [(0, .par 0 (.sl L.length (L.map fun r => .sl r.length (r.map (.int .i64))))), (2, .val t2_p), (3, .val (.int .i64 size)), (9, .par 0 (.sl L.length (L.map fun r => .sl r.length (r.map (.int .i64))))), (10, .val (.int .i64 L.length)), (11, .val (.int .i64 t11))] _
    obtain ⟨i1, i2, rfl⟩ := hI
    have hft := flatL_le L t11.toNat
    have hfs := fun e : t11 < L.length => flatL_take (L := L) (k := t11.toNat) (by omega)
    have hfl := flatL_le L (t11.toNat + 1)
    have hfn : t11 < L.length → (L.take (t11.toNat + 1)).flatten.length = (L.take t11.toNat).flatten.length + (L.getD t11.toNat []).length := fun e => by rw [hfs e, List.length_append]
    refine code_seq (fun K5 hK5 => ?_)
    refine code_region ?_
    refine list_cons rfl (op_q (q_lt rfl rfl (by decide)) ?_)
    refine list_nil ?_
    refine hK5 _ ?_; clear hK5 K5
    refine code_seq (fun K6 hK6 => ?_)
    refine code_cond_d rfl (fun h1 => ?_) (fun h1 => ?_)
    · skip
      (try simp only [Decidable.not_not] at h1)
      refine code_skip ?_
      refine hK6 _ ?_; clear hK6 K6
      refine code_seq (fun K7 hK7 => ?_)
      refine code_block ?_
      refine code_seq (fun K8 hK8 => ?_)
      refine code_region ?_
      refine list_cons rfl (op_q (q_indexAddr_rd sl_42 rfl (.inl ⟨_, rfl, rfl⟩) rfl (by omega) (by omega) (by decide)) ?_)
      refine list_cons rfl (op_q (q_load_rd one_28 rfl (.inl ⟨_, (by first | exact congrArg (SV.rpar _) (drop_map1 (fun r : List Int => PV.sl r.length (r.map (.int .i64))) [] _ (by omega))), rfl⟩) (by decide)) ?_)
      refine list_cons rfl (op_q (q_assign rfl (by decide)) ?_)
      refine list_nil ?_
      refine hK8 _ ?_; clear hK8 K8
      refine code_seq (fun K9 hK9 => ?_)
      refine code_region ?_
      refine list_cons rfl (op_q (q_move rfl (by decide)) ?_)
      refine list_cons rfl (op_q (q_move rfl (by decide)) ?_)
      refine list_cons rfl (op_q (q_len_sl Tryd.underlying28 rfl rfl (by decide)) ?_)
      refine list_cons rfl (op_q (by first | exact q_addI rfl rfl (by decide) (by omega) (by omega) | exact q_ib rfl rfl rfl (by decide)) ?_)
      refine list_cons rfl (op_q (q_assign rfl (by decide)) ?_)
      refine list_nil ?_
      refine hK9 _ ?_; clear hK9 K9
      refine codeT.imp (σ' := [(0, _), (2, _), (3, _), (5, _), (9, _), (10, _), (11, _)]) ?_ (imp_covers ⟨rfl, rfl, rfl, rfl, rfl, rfl, rfl, trivial⟩)
      refine code_seq (fun K10 hK10 => ?_)
      refine code_region ?_
      refine list_cons rfl (op_q (q_move rfl (by decide)) ?_)
      refine list_cons rfl (op_q (q_lt rfl rfl (by decide)) ?_)
      refine list_nil ?_
      refine hK10 _ ?_; clear hK10 K10
      refine code_cond_d rfl (fun h2 => ?_) (fun h2 => ?_)
      · skip
        (try simp only [Decidable.not_not] at h2)
        exfalso
        omega
      (try simp only [Decidable.not_not] at h2)
      refine code_skip ?_
      refine blk_n ?_
      refine hK7 _ ?_; clear hK7 K7
      refine code_region ?_
      refine list_cons rfl (op_q (by first | exact q_addI rfl rfl (by decide) (by omega) (by omega) | exact q_ib rfl rfl rfl (by decide)) ?_)
      refine list_cons rfl (op_q (q_move rfl (by decide)) ?_)
      refine list_nil ?_
      refine then_n ⟨(_, _, _), imp_covers ⟨rfl, rfl, rfl, rfl, rfl, rfl, trivial⟩, ?_, ?_⟩
      · (try dsimp only)
        exact ⟨by omega, by omega, by rw [show (t11 + 1).toNat = t11.toNat + 1 by omega, hfn (by omega)]; omega⟩
      · (try dsimp only); omega
    (try simp only [Decidable.not_not] at h1)
    refine code_exit ?_
    refine then_x ?_; clear hK6 K6
    refine then_x ?_
    refine blk_hit ?_
    refine hK3 _ ?_; clear hK3 K3
    refine code_seq (fun K11 hK11 => ?_)
    refine code_region ?_
    refine list_cons rfl (op_q (q_move rfl (by decide)) ?_)
    refine list_cons rfl (op_callN (ss := [.val (.cst 0), _]) (grow_nil _ (by omega)) (pvsN_c (pvsN_x rfl rfl pvsN_nil)) (by decide) (by decide) (by decide) rfl ?_)
    rintro _ _ rfl
    refine list_cons rfl (op_q (q_assign rfl (by decide)) ?_)
    refine list_nil ?_
    refine hK11 _ ?_; clear hK11 K11
    refine codeT.imp (σ' := [(0, _), (2, _), (3, _), (6, _), (9, _), (10, _), (11, _)]) ?_ (imp_covers ⟨rfl, rfl, rfl, rfl, rfl, rfl, rfl, trivial⟩)
    refine code_seq (fun K12 hK12 => ?_)
    refine code_seq (fun K13 hK13 => ?_)
    refine code_region ?_
    refine list_cons rfl (op_q (q_move rfl (by decide)) ?_)
    refine list_cons rfl (op_q (q_len_sl Tryd.underlying42 rfl rfl (by decide)) ?_)
    refine list_cons rfl (op_q (q_move rfl (by decide)) ?_)
    refine list_nil ?_
    refine hK13 _ ?_; clear hK13 K13
    refine code_block ?_
    refine code_loop (X := PV × Int × Nat × List PV × PV × Int × Int × Int) (fun x => [(0, .par 0 (.sl L.length (L.map fun r => .sl r.length (r.map (.int .i64))))), (2, .val x.1), (3, .val (.int .i64 x.2.1)), (6, .own 24 3 1 x.2.2.1 x.2.2.2.1), (9, .par 0 x.2.2.2.2.1), (10, .val (.int .i64 x.2.2.2.2.2.1)), (11, .val (.int .i64 x.2.2.2.2.2.2.1)), (25, .par 0 (.sl L.length (L.map fun r => .sl r.length (r.map (.int .i64))))), (26, .val (.int .i64 L.length)), (27, .val (.int .i64 x.2.2.2.2.2.2.2))]) (fun x => 0 ≤ x.2.2.2.2.2.2.2 ∧ x.2.2.2.2.2.2.2 ≤ L.length ∧ x.2.2.1 = (L.take x.2.2.2.2.2.2.2.toNat).flatten.length ∧ x.2.2.2.1 = (L.take x.2.2.2.2.2.2.2.toNat).flatten.map (.int .i64)) (fun x => (L.length - x.2.2.2.2.2.2.2).toNat) (_, _, _, _, _, _, _, _) (imp_covers ⟨rfl, rfl, rfl, rfl, rfl, rfl, rfl, rfl, rfl, rfl, trivial⟩) ?_ ?_
    · (try dsimp only)
      exact ⟨by omega, by omega, rfl, rfl⟩
    · intro x hI
      obtain ⟨t2_p, size, newslice_n, newslice_c, t9_p, t10, t11, t27⟩ := x
      replace hI : 0 ≤ t27 ∧ t27 ≤ L.length ∧ newslice_n = (L.take t27.toNat).flatten.length ∧ newslice_c = (L.take t27.toNat).flatten.map (.int .i64) := hI
      show codeT _ _ _ [(0, .par 0 (.sl L.length (L.map fun r => .sl r.length (r.map (.int .i64))))), (2, .val t2_p), (3, .val (.int .i64 size)), (6, .own 24 3 1 newslice_n newslice_c), (9, .par 0 t9_p), (10, .val (.int .i64 t10)), (11, .val (.int .i64 t11)), (25, .par 0 (.sl L.length (L.map fun r => .sl r.length (r.map (.int .i64))))), (26, .val (.int .i64 L.length)), (27, .val (.int .i64 t27))] _
      obtain ⟨i3, i4, rfl, rfl⟩ := hI
      have hft := flatL_le L t27.toNat
      have hfs := fun e : t27 < L.length => flatL_take (L := L) (k := t27.toNat) (by omega)
      have hfl := flatL_le L (t27.toNat + 1)
      have hfn : t27 < L.length → (L.take (t27.toNat + 1)).flatten.length = (L.take t27.toNat).flatten.length + (L.getD t27.toNat []).length := fun e => by rw [hfs e, List.length_append]
      refine code_seq (fun K14 hK14 => ?_)
      refine code_region ?_
      refine list_cons rfl (op_q (q_lt rfl rfl (by decide)) ?_)
      refine list_nil ?_
      refine hK14 _ ?_; clear hK14 K14
      refine code_seq (fun K15 hK15 => ?_)
      refine code_cond_d rfl (fun h3 => ?_) (fun h3 => ?_)
      · skip
        (try simp only [Decidable.not_not] at h3)
        refine code_skip ?_
        refine hK15 _ ?_; clear hK15 K15
        refine code_seq (fun K16 hK16 => ?_)
        refine code_block ?_
        refine code_seq (fun K17 hK17 => ?_)
        refine code_region ?_
        refine list_cons rfl (op_q (q_indexAddr_rd sl_42 rfl (.inl ⟨_, rfl, rfl⟩) rfl (by omega) (by omega) (by decide)) ?_)
        refine list_cons rfl (op_q (q_load_rd one_28 rfl (.inl ⟨_, (by first | exact congrArg (SV.rpar _) (drop_map1 (fun r : List Int => PV.sl r.length (r.map (.int .i64))) [] _ (by omega))), rfl⟩) (by decide)) ?_)
        refine list_cons rfl (op_q (q_assign rfl (by decide)) ?_)
        refine list_nil ?_
        refine hK17 _ ?_; clear hK17 K17
        refine code_region ?_
        refine list_cons rfl (op_q (q_move rfl (by decide)) ?_)
        refine list_cons rfl (op_q (q_move rfl (by decide)) ?_)
        refine list_cons rfl (op_append_gen sl_28 (l := 24) (.inl rfl) rfl rfl (l2 := none) (.inl ⟨rfl, (by first | exact flat_map _ (fun _ => rfl) _)⟩) (by first | (rw [List.length_map, Nat.mul_one]; done) | (simp; done)) (by omega) (by decide) (by decide) (by decide) ?_)
        refine list_cons rfl (op_q (q_assign rfl (by decide)) ?_)
        refine list_nil ?_
        refine blk_n ?_
        refine hK16 _ ?_; clear hK16 K16
        refine codeT.imp (σ' := [(0, _), (2, _), (3, _), (6, _), (8, _), (9, _), (10, _), (11, _), (25, _), (26, _), (27, _)]) ?_ (imp_covers ⟨rfl, rfl, rfl, rfl, rfl, rfl, rfl, rfl, rfl, rfl, rfl, trivial⟩)
        refine code_region ?_
        refine list_cons rfl (op_q (by first | exact q_addI rfl rfl (by decide) (by omega) (by omega) | exact q_ib rfl rfl rfl (by decide)) ?_)
        refine list_cons rfl (op_q (q_move rfl (by decide)) ?_)
        refine list_nil ?_
        refine then_n ⟨(_, _, _, _, _, _, _, _), imp_covers ⟨rfl, rfl, rfl, rfl, rfl, rfl, rfl, rfl, rfl, rfl, trivial⟩, ?_, ?_⟩
        · (try dsimp only)
          exact ⟨by omega, by omega, by rw [show (t27 + 1).toNat = t27.toNat + 1 by omega, hfn (by omega)], by rw [show (t27 + 1).toNat = t27.toNat + 1 by omega, hfs (by omega), List.map_append]⟩
        · (try dsimp only); omega
      (try simp only [Decidable.not_not] at h3)
      refine code_exit ?_
      refine then_x ?_; clear hK15 K15
      refine then_x ?_
      refine blk_hit ?_
      refine hK12 _ ?_; clear hK12 K12
      refine code_seq (fun K18 hK18 => ?_)
      refine code_region ?_
      refine list_cons rfl (op_q (q_move rfl (by decide)) ?_)
      refine list_cons rfl (op_q (q_assign rfl (by decide)) ?_)
      refine list_nil ?_
      refine hK18 _ ?_; clear hK18 K18
      refine code_ret ?_
      refine ends_ret (cs := []) rfl rfl rfl rfl trivial ?_
      rw [show t27.toNat = L.length by omega, List.take_length]

abbrev ltrB : List (List UInt8) := [[97, 98, 99, 101, 102, 103], [99, 100, 101, 102, 103], [97, 100, 101, 102], [98, 99, 100, 101, 103], [97, 100, 101, 102, 103], [97, 101, 102, 103], [99, 101, 102, 103], [98, 99, 100, 101], [100, 101, 102], [99, 101, 103], [99, 100, 101, 103], [97, 98, 101, 102, 103], [101, 103], [100, 101, 102, 103], [99, 100, 101], [98, 99, 100, 102, 103]]
theorem bars_ltr : ∀ j, j < 16 → OrdP (ltrB.getD j []) ∧ ((orF (ltrB.getD j []) : Nat) : Int) = ltrT.getD j 0 := by
  intro j hj
  have : j = 0 ∨ j = 1 ∨ j = 2 ∨ j = 3 ∨ j = 4 ∨ j = 5 ∨ j = 6 ∨ j = 7 ∨ j = 8 ∨ j = 9 ∨ j = 10 ∨ j = 11 ∨ j = 12 ∨ j = 13 ∨ j = 14 ∨ j = 15 := by omega
  rcases this with rfl | rfl | rfl | rfl | rfl | rfl | rfl | rfl | rfl | rfl | rfl | rfl | rfl | rfl | rfl | rfl <;> exact ⟨by decide, by decide⟩
theorem ltrB_len (j : Nat) : (ltrB.getD j []).length ≤ 7 := by
  by_cases hj : j < 16
  · have : j = 0 ∨ j = 1 ∨ j = 2 ∨ j = 3 ∨ j = 4 ∨ j = 5 ∨ j = 6 ∨ j = 7 ∨ j = 8 ∨ j = 9 ∨ j = 10 ∨ j = 11 ∨ j = 12 ∨ j = 13 ∨ j = 14 ∨ j = 15 := by omega
    rcases this with rfl | rfl | rfl | rfl | rfl | rfl | rfl | rfl | rfl | rfl | rfl | rfl | rfl | rfl | rfl | rfl <;> decide
  · unfold List.getD; rw [List.getElem?_eq_none (by simp [ltrB]; omega)]; simp
theorem ltrS_lt (j : Nat) : 0 ≤ ((ltrS.getD j 0).toNat : Int) ∧ (ltrS.getD j 0).toNat < 128 := by
  by_cases hj : j < 16
  · have : j = 0 ∨ j = 1 ∨ j = 2 ∨ j = 3 ∨ j = 4 ∨ j = 5 ∨ j = 6 ∨ j = 7 ∨ j = 8 ∨ j = 9 ∨ j = 10 ∨ j = 11 ∨ j = 12 ∨ j = 13 ∨ j = 14 ∨ j = 15 := by omega
    rcases this with rfl | rfl | rfl | rfl | rfl | rfl | rfl | rfl | rfl | rfl | rfl | rfl | rfl | rfl | rfl | rfl <;> decide
  · unfold List.getD; rw [List.getElem?_eq_none (by simp [ltrS]; omega)]; simp
theorem encL_ltr (j : Nat) (hj : j < 16) : encL ((ltrS.getD j 0).toNat : Int) = [ltrS.getD j 0] := by
  have k : below 16 (fun n => encL ((ltrS.getD n 0).toNat : Int) == [ltrS.getD n 0]) = true := by kernel_rfl
  have := below_ok k j hj
  rwa [beq_iff_eq] at this
/-- The cells by their letters, and the letters by their cells. -/
def ltE (k : Nat) : List (PV × PV) := (List.range k).map fun j => (.int .i32 ((ltrS.getD j 0).toNat : Int), .int .i64 (ltrT.getD j 0))
def ltC (k : Nat) : List (PV × PV) := (List.range k).map fun j => (.int .i64 (ltrT.getD j 0), .str [ltrS.getD j 0])
theorem ltE_succ (k : Nat) : ltE (k + 1) = ltE k ++ [(.int .i32 ((ltrS.getD k 0).toNat : Int), .int .i64 (ltrT.getD k 0))] := by
  unfold ltE; rw [List.range_succ, List.map_append]; rfl
theorem ltC_succ (k : Nat) : ltC (k + 1) = ltC k ++ [(.int .i64 (ltrT.getD k 0), .str [ltrS.getD k 0])] := by
  unfold ltC; rw [List.range_succ, List.map_append]; rfl
theorem ltE_new : ∀ k : Nat, k < 16 → findE (.int .i32) (.int .i32 ((ltrS.getD k 0).toNat : Int)) (ltE k) 0 = some none := by
  intro j hj
  have : j = 0 ∨ j = 1 ∨ j = 2 ∨ j = 3 ∨ j = 4 ∨ j = 5 ∨ j = 6 ∨ j = 7 ∨ j = 8 ∨ j = 9 ∨ j = 10 ∨ j = 11 ∨ j = 12 ∨ j = 13 ∨ j = 14 ∨ j = 15 := by omega
  rcases this with rfl | rfl | rfl | rfl | rfl | rfl | rfl | rfl | rfl | rfl | rfl | rfl | rfl | rfl | rfl | rfl <;> rfl
theorem ltC_new : ∀ k : Nat, k < 16 → findE (.int .i64) (.int .i64 (ltrT.getD k 0)) (ltC k) 0 = some none := by
  intro j hj
  have : j = 0 ∨ j = 1 ∨ j = 2 ∨ j = 3 ∨ j = 4 ∨ j = 5 ∨ j = 6 ∨ j = 7 ∨ j = 8 ∨ j = 9 ∨ j = 10 ∨ j = 11 ∨ j = 12 ∨ j = 13 ∨ j = 14 ∨ j = 15 := by omega
  rcases this with rfl | rfl | rfl | rfl | rfl | rfl | rfl | rfl | rfl | rfl | rfl | rfl | rfl | rfl | rfl | rfl <;> rfl
theorem ltE_ix (j : Nat) (hj : j < 16) : findE (.int .i32) (.int .i32 ((ltrS.getD j 0).toNat : Int)) (ltE 16) 0 = some (some (j, .int .i64 (ltrT.getD j 0))) := by
  have : j = 0 ∨ j = 1 ∨ j = 2 ∨ j = 3 ∨ j = 4 ∨ j = 5 ∨ j = 6 ∨ j = 7 ∨ j = 8 ∨ j = 9 ∨ j = 10 ∨ j = 11 ∨ j = 12 ∨ j = 13 ∨ j = 14 ∨ j = 15 := by omega
  rcases this with rfl | rfl | rfl | rfl | rfl | rfl | rfl | rfl | rfl | rfl | rfl | rfl | rfl | rfl | rfl | rfl <;> rfl
theorem ltC_ix (j : Nat) (hj : j < 16) : findE (.int .i64) (.int .i64 (ltrT.getD j 0)) (ltC 16) 0 = some (some (j, .str [ltrS.getD j 0])) := by
  have : j = 0 ∨ j = 1 ∨ j = 2 ∨ j = 3 ∨ j = 4 ∨ j = 5 ∨ j = 6 ∨ j = 7 ∨ j = 8 ∨ j = 9 ∨ j = 10 ∨ j = 11 ∨ j = 12 ∨ j = 13 ∨ j = 14 ∨ j = 15 := by omega
  rcases this with rfl | rfl | rfl | rfl | rfl | rfl | rfl | rfl | rfl | rfl | rfl | rfl | rfl | rfl | rfl | rfl <;> rfl
theorem ltE_hit (r : Int) (h : 0 ≤ plR r) : findE (.int .i32) (.int .i32 r) (ltE 16) 0 = some (some ((plR r).toNat, .int .i64 (ltrT.getD (plR r).toNat 0))) := by
  have h2 := plR_le r
  have := ltE_ix (plR r).toNat (by omega)
  rw [pl_back h] at this; exact this
theorem ltC_hit (c : Int) (h : 0 ≤ rdC c) : findE (.int .i64) (.int .i64 c) (ltC 16) 0 = some (some ((rdC c).toNat, .str [letC c])) := by
  have h2 := rdC_le c
  have := ltC_ix (rdC c).toNat (by omega)
  rw [rd_back h] at this; exact this
theorem findE_none {t : TK} {k : PV} : ∀ (es : List (PV × PV)) (i : Nat), (∀ e ∈ es, keyEq t k e.1 = some false) → findE t k es i = some none
  | [], i, _ => rfl
  | (k', p) :: r, i, h => by
    have h1 := h (k', p) List.mem_cons_self
    unfold findE
    rw [h1]
    exact findE_none r (i + 1) fun e he => h e (List.mem_cons_of_mem _ he)
theorem ltE_miss (r : Int) (h : ¬ 0 ≤ plR r) : findE (.int .i32) (.int .i32 r) (ltE 16) 0 = some none := by
  refine findE_none _ _ fun e he => ?_
  obtain ⟨j, hj, rfl⟩ := List.mem_map.1 he
  have hj := List.mem_range.1 hj
  have hne : r ≠ ((ltrS.getD j 0).toNat : Int) := fun e => h (by rw [e]; have := ltr_pl (k := j) (by omega) (by omega); rw [Int.toNat_natCast] at this; omega)
  have : intEq r ((ltrS.getD j 0).toNat : Int) = false := by rw [intEq_eq, beq_eq_false_iff_ne]; exact hne
  simp only [keyEq, kEq, this]; rfl
theorem ltC_miss (c : Int) (h : ¬ 0 ≤ rdC c) : findE (.int .i64) (.int .i64 c) (ltC 16) 0 = some none := by
  refine findE_none _ _ fun e he => ?_
  obtain ⟨j, hj, rfl⟩ := List.mem_map.1 he
  have hj := List.mem_range.1 hj
  have hne : c ≠ ltrT.getD j 0 := fun e => h (by rw [e]; have := ltr_rd (k := j) (by omega) (by omega); rw [Int.toNat_natCast] at this; omega)
  have : intEq c (ltrT.getD j 0) = false := by rw [intEq_eq, beq_eq_false_iff_ne]; exact hne
  simp only [keyEq, kEq, this]; rfl
/-- A letter is one byte. -/
theorem pl_rune {s : List UInt8} {i : Nat} (h : i < s.length) (hr : 0 ≤ plR ((runeAt s i).1 : Int)) : (runeAt s i).2 = 1 ∧ ((runeAt s i).1 : Int) = (s.getD i 0).toNat := by
  by_cases ha : (s.getD i 0).toNat < 128
  · rw [runeAt_ascii h ha]; exact ⟨rfl, rfl⟩
  · have h1 := runeAt_hi h (by omega)
    have h2 := pl_back hr
    have h3 := ltrS_lt (plR ((runeAt s i).1 : Int)).toNat
    omega
theorem pl_byte {s : List UInt8} {i : Nat} (h : i < s.length) : 0 ≤ plB (s.getD i 0) ↔ 0 ≤ plR ((runeAt s i).1 : Int) := by
  constructor
  · intro hb
    have h2 := pl_back (r := ((s.getD i 0).toNat : Int)) hb
    have h3 := ltrS_lt (plR ((s.getD i 0).toNat : Int)).toNat
    rw [runeAt_ascii h (by omega)]; exact hb
  · intro hr
    have := (pl_rune h hr).2
    unfold plB; rw [← this]; exact hr


set_option maxRecDepth 4000 in
theorem impl_cellsBy  : PCalls Tryd.prog 73 [] (· = [.map 0 (ltE 16)]) := by
  refine pcalls_of_code (n := 24) az Tryd.func73 (by kernel_rfl) rfl rfl (Nat.le_of_ble_eq_true rfl) (by intro t u h; simp [Tryd.f73] at h) ?_
  refine code_seq (fun K1 hK1 => ?_)
  refine code_region ?_
  refine list_cons rfl (op_q (q_deadconst (by decide)) ?_)
  refine list_nil ?_
  refine hK1 _ ?_; clear hK1 K1
  refine code_seq (fun K2 hK2 => ?_)
  refine code_region ?_
  refine list_cons rfl (op_makeMap Tryd.underlying75 (.inr ⟨_, _, rfl, rfl⟩) (by decide) (by decide) rfl ?_)
  refine list_cons rfl (op_q (q_assign rfl (by decide)) ?_)
  refine list_nil ?_
  refine hK2 _ ?_; clear hK2 K2
  refine codeT.imp (σ' := [(0, _), (1, _)]) ?_ (imp_covers ⟨rfl, rfl, trivial⟩)
  refine code_seq (fun K3 hK3 => ?_)
  refine code_seq (fun K4 hK4 => ?_)
  refine code_region ?_
  refine list_cons rfl (op_range_str Tryd.underlying9 rfl (by decide) (by decide) rfl ?_)
  refine list_nil ?_
  refine hK4 _ ?_; clear hK4 K4
  refine code_block ?_
  refine code_loop (X := List (PV × PV) × Nat) (fun x => [(1, .map 6 x.1), (7, .sit 7 ([97, 98, 99, 100, 101, 102, 104, 106, 108, 110, 111, 112, 114, 116, 117, 121]) x.2)]) (fun x => x.2 ≤ 16 ∧ x.1 = ltE x.2) (fun x => 16 - x.2) (_, _) (imp_covers ⟨rfl, rfl, trivial⟩) ?_ ?_
  · (try dsimp only)
    exact ⟨by omega, rfl⟩
  · intro x hI
    obtain ⟨cells_m, t7_i⟩ := x
    replace hI : t7_i ≤ 16 ∧ cells_m = ltE t7_i := hI
    show codeT _ _ _ [(1, .map 6 cells_m), (7, .sit 7 ([97, 98, 99, 100, 101, 102, 104, 106, 108, 110, 111, 112, 114, 116, 117, 121]) t7_i)] _
    obtain ⟨i1, rfl⟩ := hI
    have hL : ([97, 98, 99, 100, 101, 102, 104, 106, 108, 110, 111, 112, 114, 116, 117, 121] : List UInt8).length = 16 := rfl
    have hlt := ltrS_lt t7_i
    have hbl := ltrB_len t7_i
    refine code_seq (fun K5 hK5 => ?_)
    refine code_region ?_
    refine list_cons rfl (op_nextA (h := 7) (by decide) rfl rfl (by decide) (fun h1 => ?_) (fun h1 => ?_))
    · skip
      refine list_cons rfl (op_q (q_extract rfl rfl (by decide)) ?_)
      refine list_nil ?_
      refine hK5 _ ?_; clear hK5 K5
      refine code_seq (fun K6 hK6 => ?_)
      refine code_cond_f rfl ?_
      refine code_exit ?_
      refine then_x ?_; clear hK6 K6
      refine then_x ?_
      refine blk_hit ?_
      refine hK3 _ ?_; clear hK3 K3
      refine code_seq (fun K7 hK7 => ?_)
      refine code_region ?_
      refine list_cons rfl (op_q (q_move rfl (by decide)) ?_)
      refine list_cons rfl (op_q (q_assign rfl (by decide)) ?_)
      refine list_nil ?_
      refine hK7 _ ?_; clear hK7 K7
      refine code_ret ?_
      refine ends_ret (cs := []) rfl rfl rfl rfl trivial ?_
      rw [show t7_i = 16 by omega]
    · skip
      refine list_cons rfl (op_q (q_extract rfl rfl (by decide)) ?_)
      refine list_nil ?_
      refine hK5 _ ?_; clear hK5 K5
      refine code_seq (fun K8 hK8 => ?_)
      refine code_cond_t rfl ?_
      refine code_skip ?_
      refine hK8 _ ?_; clear hK8 K8
      refine code_block ?_
      refine code_seq (fun K9 hK9 => ?_)
      refine code_region ?_
      refine list_cons rfl (op_q (q_extract rfl rfl (by decide)) ?_)
      refine list_cons rfl (op_q (q_extract rfl rfl (by decide)) ?_)
      refine list_cons rfl (op_q (q_assign rfl (by decide)) ?_)
      refine list_cons rfl (op_q (q_assign rfl (by decide)) ?_)
      refine list_nil ?_
      refine hK9 _ ?_; clear hK9 K9
      refine code_seq (fun K10 hK10 => ?_)
      refine code_region ?_
      refine list_cons rfl (op_q (q_move rfl (by decide)) ?_)
      refine list_cons rfl (op_q (q_indexAddr_g arr_84 rfl rfl (by omega) (by omega) (by decide)) ?_)
      refine list_cons rfl (op_q (q_load_rd one_9 rfl (.inr ⟨_, (by first | rfl | exact congrArg (SV.rbor _) (drop_map1 _ [] _ (by first | omega | (simp; omega)))), rfl⟩) (by decide)) ?_)
      refine list_cons rfl (op_call _ (impl_ParseBars _ (by first | (have := hbl; omega) | exact Nat.le_trans hbl (by decide))) rfl rfl (by decide) (by decide) (by decide) rfl ?_)
      rintro _ rfl
      refine list_cons rfl (op_q (q_move rfl (by decide)) ?_)
      refine list_cons rfl (op_q (q_extract rfl rfl (by decide)) ?_)
      refine list_cons rfl (op_q (q_extract rfl rfl (by decide)) ?_)
      refine list_cons rfl (op_q (q_assign rfl (by decide)) ?_)
      refine list_cons rfl (op_q (q_assign rfl (by decide)) ?_)
      refine list_nil ?_
      refine hK10 _ ?_; clear hK10 K10
      refine codeT.imp (σ' := [(1, _), (2, _), (3, _), (4, _), (5, _), (7, _), (8, _)]) ?_ (imp_covers ⟨rfl, rfl, rfl, rfl, rfl, rfl, rfl, trivial⟩)
      refine code_seq (fun K11 hK11 => ?_)
      refine code_region ?_
      refine list_cons rfl (op_q (q_move rfl (by decide)) ?_)
      refine list_nil ?_
      refine hK11 _ ?_; clear hK11 K11
      refine code_cond_d rfl (fun h2 => ?_) (fun h2 => ?_)
      · skip
        (try simp only [Decidable.not_not] at h2)
        refine code_region ?_
        refine list_cons rfl (op_q (q_move rfl (by decide)) ?_)
        refine list_cons rfl (op_q (q_move rfl (by decide)) ?_)
        refine list_cons rfl (op_q (q_move rfl (by decide)) ?_)
        refine list_cons rfl (op_mapset (h := 1) (tk := .int .i32) (.inl rfl) rfl Tryd.underlying75 Tryd.underlying21 rfl rfl rfl rfl rfl rfl rfl (show findE (.int .i32) (.int .i32 ((ltrS.getD t7_i 0).toNat : Int)) (ltE t7_i) 0 = some none from ltE_new _ (by omega)) ?_)
        refine list_nil ?_
        refine blk_n ?_
        refine then_n ⟨(_, _), imp_covers ⟨rfl, rfl, trivial⟩, ?_, ?_⟩
        · (try dsimp only)
          refine ⟨by omega, ?_⟩
          have hb := bars_ltr t7_i (by omega)
          have hh := h2
          rw [ltE_succ, if_pos hh, ← hb.2]; rfl
        · (try dsimp only); omega
      (try simp only [Decidable.not_not] at h2)
      refine code_skip ?_
      refine blk_n ?_
      refine then_n ⟨(_, _), imp_covers ⟨rfl, rfl, trivial⟩, ?_, ?_⟩
      · (try dsimp only)
        exact absurd (bars_ltr t7_i (by omega)).1 h2
      · (try dsimp only); omega

set_option maxRecDepth 4000 in
theorem impl_cellsOfWord (s : List UInt8) (hs : s.length ≤ 4611686018427387904) : PCalls Tryd.prog 47 [.str s] (· = [.own 0 3 1 (if WrdP s 12 then rowW s else []).length ((if WrdP s 12 then rowW s else []).map (.int .i64)), .val (.bool (decide (WrdP s 12)))]) := by
  refine pcalls_of_code (n := 37) az Tryd.func47 (by kernel_rfl) rfl rfl (Nat.le_of_ble_eq_true rfl) (by intro t u h; simp [Tryd.f47] at h) ?_
  refine code_seq (fun K1 hK1 => ?_)
  refine code_region ?_
  refine list_cons rfl (op_q (q_assign rfl (by decide)) ?_)
  refine list_cons rfl (op_q (q_assign rfl (by decide)) ?_)
  refine list_nil ?_
  refine hK1 _ ?_; clear hK1 K1
  refine codeT.imp (σ' := [(0, _), (2, _), (3, _)]) ?_ (imp_covers ⟨rfl, rfl, rfl, trivial⟩)
  refine code_seq (fun K2 hK2 => ?_)
  refine code_seq (fun K3 hK3 => ?_)
  refine code_region ?_
  refine list_cons rfl (op_q (q_move rfl (by decide)) ?_)
  refine list_cons rfl (op_q (q_len_str Tryd.underlying9 rfl (by decide)) ?_)
  refine list_cons rfl (op_q (q_gt rfl rfl (by decide)) ?_)
  refine list_nil ?_
  refine hK3 _ ?_; clear hK3 K3
  refine code_cond_d rfl (fun h1 => ?_) (fun h1 => ?_)
  · skip
    (try simp only [Decidable.not_not] at h1)
    refine code_seq (fun K4 hK4 => ?_)
    refine code_region ?_
    refine list_cons rfl (op_buildSlice sl_28 (parts := []) rfl rfl rfl (by decide) (by decide) (by decide) rfl ?_)
    refine list_cons rfl (op_q (q_assign rfl (by decide)) ?_)
    refine list_cons rfl (op_q (q_assign rfl (by decide)) ?_)
    refine list_nil ?_
    refine hK4 _ ?_; clear hK4 K4
    refine code_ret ?_
    refine then_r ?_; clear hK2 K2
    refine ends_ret (cs := []) rfl rfl rfl rfl trivial ?_
    first
      | (have e : ¬ WrdP s 12 := fun e => by have := e.1; omega
         simp only [if_neg e, decide_eq_false e]; rfl)
      | (have e : ¬ WrdP s 12 := fun e => absurd ((pl_byte (i := t19_i) (by omega)).1 (e.2.at (by omega))) (by assumption)
         simp only [if_neg e, decide_eq_false e]; rfl)
      | (have e : WrdP s 12 := ⟨by omega, LtP.of fun j hj => i2 j (by omega)⟩
         have e0 : t19_i = s.length := by omega
         simp only [if_pos e, decide_eq_true e, rowW_len, e0, List.take_length]; done)
  (try simp only [Decidable.not_not] at h1)
  refine code_skip ?_
  refine hK2 _ ?_; clear hK2 K2
  refine code_seq (fun K5 hK5 => ?_)
  refine code_region ?_
  refine list_cons rfl (op_call _ (impl_cellsBy) rfl rfl (by decide) (by decide) (by decide) rfl ?_)
  rintro _ rfl
  refine list_cons rfl (op_q (q_assign rfl (by decide)) ?_)
  refine list_nil ?_
  refine hK5 _ ?_; clear hK5 K5
  refine codeT.imp (σ' := [(0, _), (2, _), (3, _), (4, _)]) ?_ (imp_covers ⟨rfl, rfl, rfl, rfl, trivial⟩)
  refine code_seq (fun K6 hK6 => ?_)
  refine code_region ?_
  refine list_cons rfl (op_q (q_move rfl (by decide)) ?_)
  refine list_cons rfl (op_q (q_len_str Tryd.underlying9 rfl (by decide)) ?_)
  refine list_cons rfl (op_make0 sl_28 rfl rfl (by omega) (by decide) (by decide) rfl ?_)
  refine list_cons rfl (op_q (q_assign rfl (by decide)) ?_)
  refine list_nil ?_
  refine hK6 _ ?_; clear hK6 K6
  refine code_seq (fun K7 hK7 => ?_)
  refine code_seq (fun K8 hK8 => ?_)
  refine code_region ?_
  refine list_cons rfl (op_q (q_move rfl (by decide)) ?_)
  refine list_cons rfl (op_range_str Tryd.underlying9 rfl (by decide) (by decide) rfl ?_)
  refine list_nil ?_
  refine hK8 _ ?_; clear hK8 K8
  refine code_block ?_
  refine code_loop (X := PV × Bool × List (PV × PV) × Nat × List PV × Nat) (fun x => [(0, .val (.str s)), (2, .val x.1), (3, .val (.bool x.2.1)), (4, .map 14 x.2.2.1), (5, .own 17 3 1 x.2.2.2.1 x.2.2.2.2.1), (19, .sit 19 (s) x.2.2.2.2.2)]) (fun x => s.length ≤ 12 ∧ x.2.2.1 = ltE 16 ∧ x.2.2.2.2.2 ≤ s.length ∧ x.2.2.2.2.2 = x.2.2.2.1 ∧ x.2.2.2.2.1 = (rowW (s.take x.2.2.2.2.2)).map (.int .i64) ∧ ∀ j, j < x.2.2.2.2.2 → 0 ≤ plB (s.getD j 0)) (fun x => s.length - x.2.2.2.2.2) (_, _, _, _, _, _) (imp_covers ⟨rfl, rfl, rfl, rfl, rfl, rfl, trivial⟩) ?_ ?_
  · (try dsimp only)
    exact ⟨by omega, rfl, by omega, rfl, rfl, fun j hj => by omega⟩
  · intro x hI
    obtain ⟨t2_p, t3, byLetter_m, cells_n, cells_c, t19_i⟩ := x
    replace hI : s.length ≤ 12 ∧ byLetter_m = ltE 16 ∧ t19_i ≤ s.length ∧ t19_i = cells_n ∧ cells_c = (rowW (s.take t19_i)).map (.int .i64) ∧ ∀ j, j < t19_i → 0 ≤ plB (s.getD j 0) := hI
    show codeT _ _ _ [(0, .val (.str s)), (2, .val t2_p), (3, .val (.bool t3)), (4, .map 14 byLetter_m), (5, .own 17 3 1 cells_n cells_c), (19, .sit 19 (s) t19_i)] _
    obtain ⟨i0, rfl, i1, rfl, rfl, i2⟩ := hI
    have hlw : (rowW (s.take t19_i)).length = t19_i := by rw [rowW_len, List.length_take]; omega
    refine code_seq (fun K9 hK9 => ?_)
    refine code_region ?_
    refine list_cons rfl (op_next (h := 19) rfl rfl (by decide) (fun h2 => ?_) (fun h2 => ?_))
    · skip
      refine list_cons rfl (op_q (q_extract rfl rfl (by decide)) ?_)
      refine list_nil ?_
      refine hK9 _ ?_; clear hK9 K9
      refine code_seq (fun K10 hK10 => ?_)
      refine code_cond_f rfl ?_
      refine code_exit ?_
      refine then_x ?_; clear hK10 K10
      refine then_x ?_
      refine blk_hit ?_
      refine hK7 _ ?_; clear hK7 K7
      refine code_seq (fun K11 hK11 => ?_)
      refine code_region ?_
      refine list_cons rfl (op_q (q_move rfl (by decide)) ?_)
      refine list_cons rfl (op_q (q_assign rfl (by decide)) ?_)
      refine list_cons rfl (op_q (q_assign rfl (by decide)) ?_)
      refine list_nil ?_
      refine hK11 _ ?_; clear hK11 K11
      refine code_ret ?_
      refine ends_ret (cs := []) rfl rfl rfl rfl trivial ?_
      first
        | (have e : ¬ WrdP s 12 := fun e => by have := e.1; omega
           simp only [if_neg e, decide_eq_false e]; rfl)
        | (have e : ¬ WrdP s 12 := fun e => absurd ((pl_byte (i := t19_i) (by omega)).1 (e.2.at (by omega))) (by assumption)
           simp only [if_neg e, decide_eq_false e]; rfl)
        | (have e : WrdP s 12 := ⟨by omega, LtP.of fun j hj => i2 j (by omega)⟩
           have e0 : t19_i = s.length := by omega
           simp only [if_pos e, decide_eq_true e, rowW_len, e0, List.take_length]; done)
    · skip
      refine list_cons rfl (op_q (q_extract rfl rfl (by decide)) ?_)
      refine list_nil ?_
      refine hK9 _ ?_; clear hK9 K9
      refine code_seq (fun K12 hK12 => ?_)
      refine code_cond_t rfl ?_
      refine code_skip ?_
      refine hK12 _ ?_; clear hK12 K12
      refine code_block ?_
      refine code_seq (fun K13 hK13 => ?_)
      refine code_region ?_
      refine list_cons rfl (op_q (q_extract rfl rfl (by decide)) ?_)
      refine list_cons rfl (op_q (q_assign rfl (by decide)) ?_)
      refine list_nil ?_
      refine hK13 _ ?_; clear hK13 K13
      refine code_seq (fun K14 hK14 => ?_)
      refine code_region ?_
      refine list_cons rfl (op_q (q_move rfl (by decide)) ?_)
      refine list_cons rfl (op_q (q_move rfl (by decide)) ?_)
      by_cases h3 : 0 ≤ plR ((runeAt s t19_i).1 : Int)
      · skip
        refine list_cons rfl (op_q (q_lookup (tk := .int .i32) Tryd.underlying75 Tryd.underlying21 zvt_3 rfl rfl rfl (ltE_hit _ h3) (by decide)) ?_)
        refine list_cons rfl (op_q (q_move rfl (by decide)) ?_)
        refine list_cons rfl (op_q (q_extract rfl rfl (by decide)) ?_)
        refine list_cons rfl (op_q (q_extract rfl rfl (by decide)) ?_)
        refine list_cons rfl (op_q (q_assign rfl (by decide)) ?_)
        refine list_cons rfl (op_q (q_assign rfl (by decide)) ?_)
        refine list_nil ?_
        refine hK14 _ ?_; clear hK14 K14
        refine codeT.imp (σ' := [(0, _), (2, _), (3, _), (4, _), (5, _), (7, _), (8, _), (9, _), (19, _), (20, _)]) ?_ (imp_covers ⟨rfl, rfl, rfl, rfl, rfl, rfl, rfl, rfl, rfl, rfl, trivial⟩)
        refine code_seq (fun K15 hK15 => ?_)
        refine code_seq (fun K16 hK16 => ?_)
        refine code_region ?_
        refine list_cons rfl (op_q (q_move rfl (by decide)) ?_)
        refine list_cons rfl (op_q (by first | exact q_notd rfl (by decide) | exact q_not rfl (by decide)) ?_)
        refine list_nil ?_
        refine hK16 _ ?_; clear hK16 K16
        refine code_cond_f rfl ?_
        refine code_skip ?_
        refine hK15 _ ?_; clear hK15 K15
        refine code_region ?_
        refine list_cons rfl (op_q (q_move rfl (by decide)) ?_)
        refine list_cons rfl (op_q (q_move rfl (by decide)) ?_)
        refine list_cons rfl (op_buildSlice sl_28 (parts := [(0, .tmp 33)]) rfl rfl rfl (by decide) (by decide) (by decide) rfl ?_)
        refine list_cons rfl (op_append_gen sl_28 (l := 17) (.inl rfl) rfl rfl (l2 := none) (.inl ⟨rfl, (by first | rfl | exact flat_map _ (fun _ => rfl) _)⟩) (by first | rfl | (simp; done) | (simp; omega)) (by omega) (by decide) (by decide) (by decide) ?_)
        refine list_cons rfl (op_q (q_assign rfl (by decide)) ?_)
        refine list_nil ?_
        refine blk_n ?_
        refine then_n ⟨(_, _, _, _, _, _), imp_covers ⟨rfl, rfl, rfl, rfl, rfl, rfl, trivial⟩, ?_, ?_⟩
        · (try dsimp only)
          have hr := pl_rune (by omega) (by assumption : 0 ≤ plR ((runeAt s t19_i).1 : Int))
          rw [hr.1]
          have hcw : cellW (s.getD t19_i 0) = ltrT.getD (plR ((runeAt s t19_i).1 : Int)).toNat 0 := by unfold cellW plB; rw [hr.2]
          refine ⟨i0, rfl, by omega, rfl, ?_, fun j hj => ?_⟩
          · rw [take_snocI 0 s t19_i (by omega), ← hcw]
            unfold rowW
            rw [List.map_append, List.map_append]; rfl
          · by_cases e : j = t19_i
            · subst e; exact (pl_byte (by omega)).2 (by assumption)
            · exact i2 j (by omega)
        · (have hr := pl_rune (by omega) (by assumption : 0 ≤ plR ((runeAt s t19_i).1 : Int))); (try dsimp only); omega
      · skip
        refine list_cons rfl (op_q (q_lookup (tk := .int .i32) Tryd.underlying75 Tryd.underlying21 zvt_3 rfl rfl rfl (ltE_miss _ h3) (by decide)) ?_)
        refine list_cons rfl (op_q (q_move rfl (by decide)) ?_)
        refine list_cons rfl (op_q (q_extract rfl rfl (by decide)) ?_)
        refine list_cons rfl (op_q (q_extract rfl rfl (by decide)) ?_)
        refine list_cons rfl (op_q (q_assign rfl (by decide)) ?_)
        refine list_cons rfl (op_q (q_assign rfl (by decide)) ?_)
        refine list_nil ?_
        refine hK14 _ ?_; clear hK14 K14
        refine codeT.imp (σ' := [(0, _), (2, _), (3, _), (4, _), (5, _), (7, _), (8, _), (9, _), (19, _), (20, _)]) ?_ (imp_covers ⟨rfl, rfl, rfl, rfl, rfl, rfl, rfl, rfl, rfl, rfl, trivial⟩)
        refine code_seq (fun K17 hK17 => ?_)
        refine code_seq (fun K18 hK18 => ?_)
        refine code_region ?_
        refine list_cons rfl (op_q (q_move rfl (by decide)) ?_)
        refine list_cons rfl (op_q (by first | exact q_notd rfl (by decide) | exact q_not rfl (by decide)) ?_)
        refine list_nil ?_
        refine hK18 _ ?_; clear hK18 K18
        refine code_cond_t rfl ?_
        refine code_seq (fun K19 hK19 => ?_)
        refine code_region ?_
        refine list_cons rfl (op_buildSlice sl_28 (parts := []) rfl rfl rfl (by decide) (by decide) (by decide) rfl ?_)
        refine list_cons rfl (op_q (q_assign rfl (by decide)) ?_)
        refine list_cons rfl (op_q (q_assign rfl (by decide)) ?_)
        refine list_nil ?_
        refine hK19 _ ?_; clear hK19 K19
        refine code_ret ?_
        refine then_r ?_; clear hK17 K17
        refine blk_r ?_
        refine then_r ?_
        refine blk_r ?_
        refine then_r ?_; clear hK7 K7
        refine ends_ret (cs := []) rfl rfl rfl rfl trivial ?_
        first
          | (have e : ¬ WrdP s 12 := fun e => by have := e.1; omega
             simp only [if_neg e, decide_eq_false e]; rfl)
          | (have e : ¬ WrdP s 12 := fun e => absurd ((pl_byte (i := t19_i) (by omega)).1 (e.2.at (by omega))) (by assumption)
             simp only [if_neg e, decide_eq_false e]; rfl)
          | (have e : WrdP s 12 := ⟨by omega, LtP.of fun j hj => i2 j (by omega)⟩
             have e0 : t19_i = s.length := by omega
             simp only [if_pos e, decide_eq_true e, rowW_len, e0, List.take_length]; done)

theorem impl_cellsOfWordY (s : List UInt8) (hs : s.length ≤ 4611686018427387904) (hW : WrdP s 12) : PCalls Tryd.prog 47 [.str s] (· = [.own 0 3 1 (rowW s).length ((rowW s).map (.int .i64)), .val (.bool true)]) := (impl_cellsOfWord s hs).mono fun rs h => by rw [h]; simp only [if_pos hW, decide_eq_true hW]

theorem impl_cellsOfWordN (s : List UInt8) (hs : s.length ≤ 4611686018427387904) (hW : ¬ (WrdP s 12)) : PCalls Tryd.prog 47 [.str s] (· = [.own 0 3 1 0 [], .val (.bool false)]) := (impl_cellsOfWord s hs).mono fun rs h => by rw [h]; simp only [if_neg hW, decide_eq_false hW]; rfl

set_option maxRecDepth 4000 in
theorem impl_rowChanges (a b : List Int) (hl : a.length = b.length) (h6 : a.length ≤ 6) (ha : ∀ i, i < a.length → 0 ≤ a.getD i 0 ∧ a.getD i 0 ≤ 127) (hb : ∀ i, i < a.length → 0 ≤ b.getD i 0 ∧ b.getD i 0 ≤ 127) : PCalls Tryd.prog 64 [.sl a.length (a.map (.int .i64)), .sl b.length (b.map (.int .i64))] (· = [.val (.int .i64 (chgK a b a.length)), .val (.bool true)]) := by
  refine pcalls_of_code (n := 39) az Tryd.func64 (by kernel_rfl) rfl rfl (Nat.le_of_ble_eq_true rfl) (by intro t u h; simp [Tryd.f64] at h) ?_
  refine code_seq (fun K1 hK1 => ?_)
  refine code_region ?_
  refine list_cons rfl (op_q (q_assign rfl (by decide)) ?_)
  refine list_cons rfl (op_q (q_assign rfl (by decide)) ?_)
  refine list_nil ?_
  refine hK1 _ ?_; clear hK1 K1
  refine code_seq (fun K2 hK2 => ?_)
  refine code_seq (fun K3 hK3 => ?_)
  refine code_region ?_
  refine list_cons rfl (op_q (q_move rfl (by decide)) ?_)
  refine list_cons rfl (op_q (q_len_sl Tryd.underlying28 rfl rfl (by decide)) ?_)
  refine list_cons rfl (op_q (q_move rfl (by decide)) ?_)
  refine list_cons rfl (op_q (q_len_sl Tryd.underlying28 rfl rfl (by decide)) ?_)
  refine list_cons rfl (op_q (q_ne rfl rfl (by decide)) ?_)
  refine list_nil ?_
  refine hK3 _ ?_; clear hK3 K3
  refine code_cond_d rfl (fun h1 => ?_) (fun h1 => ?_)
  · skip
    (try simp only [Decidable.not_not] at h1)
    exfalso
    omega
  (try simp only [Decidable.not_not] at h1)
  refine code_skip ?_
  refine hK2 _ ?_; clear hK2 K2
  refine code_seq (fun K4 hK4 => ?_)
  refine code_region ?_
  refine list_cons rfl (op_q (q_assign rfl (by decide)) ?_)
  refine list_nil ?_
  refine hK4 _ ?_; clear hK4 K4
  refine code_seq (fun K5 hK5 => ?_)
  refine code_seq (fun K6 hK6 => ?_)
  refine code_region ?_
  refine list_cons rfl (op_q (q_move rfl (by decide)) ?_)
  refine list_cons rfl (op_q (q_len_sl Tryd.underlying28 rfl rfl (by decide)) ?_)
  refine list_cons rfl (op_q (q_move rfl (by decide)) ?_)
  refine list_nil ?_
  refine hK6 _ ?_; clear hK6 K6
  refine code_block ?_
  refine code_loop (X := Int × Bool × Int × Int) (fun x => [(0, .par 0 (.sl a.length (a.map (.int .i64)))), (1, .par 1 (.sl b.length (b.map (.int .i64)))), (4, .val (.int .i64 x.1)), (5, .val (.bool x.2.1)), (6, .val (.int .i64 x.2.2.1)), (16, .par 0 (.sl a.length (a.map (.int .i64)))), (17, .val (.int .i64 a.length)), (18, .val (.int .i64 x.2.2.2))]) (fun x => 0 ≤ x.2.2.2 ∧ x.2.2.2 ≤ a.length ∧ x.2.2.1 = chgK a b x.2.2.2.toNat) (fun x => (a.length - x.2.2.2).toNat) (_, _, _, _) (imp_covers ⟨rfl, rfl, rfl, rfl, rfl, rfl, rfl, rfl, trivial⟩) ?_ ?_
  · (try dsimp only)
    exact ⟨by omega, by omega, rfl⟩
  · intro x hI
    obtain ⟨t4, t5, total, t18⟩ := x
    replace hI : 0 ≤ t18 ∧ t18 ≤ a.length ∧ total = chgK a b t18.toNat := hI
    show codeT _ _ _ [(0, .par 0 (.sl a.length (a.map (.int .i64)))), (1, .par 1 (.sl b.length (b.map (.int .i64)))), (4, .val (.int .i64 t4)), (5, .val (.bool t5)), (6, .val (.int .i64 total)), (16, .par 0 (.sl a.length (a.map (.int .i64)))), (17, .val (.int .i64 a.length)), (18, .val (.int .i64 t18))] _
    obtain ⟨i1, i2, rfl⟩ := hI
    have hc := chgK_le a b t18.toNat
    have hd := cnt7_le ((a.getD t18.toNat 0).toNat ^^^ (b.getD t18.toNat 0).toNat)
    have ca : t18 < a.length → 0 ≤ a.getD t18.toNat 0 ∧ a.getD t18.toNat 0 ≤ 127 := fun h => ha _ (by omega)
    have cb : t18 < a.length → 0 ≤ b.getD t18.toNat 0 ∧ b.getD t18.toNat 0 ≤ 127 := fun h => hb _ (by omega)
    refine code_seq (fun K7 hK7 => ?_)
    refine code_region ?_
    refine list_cons rfl (op_q (q_lt rfl rfl (by decide)) ?_)
    refine list_nil ?_
    refine hK7 _ ?_; clear hK7 K7
    refine code_seq (fun K8 hK8 => ?_)
    refine code_cond_d rfl (fun h2 => ?_) (fun h2 => ?_)
    · skip
      (try simp only [Decidable.not_not] at h2)
      refine code_skip ?_
      refine hK8 _ ?_; clear hK8 K8
      refine code_seq (fun K9 hK9 => ?_)
      refine code_block ?_
      refine code_seq (fun K10 hK10 => ?_)
      refine code_region ?_
      refine list_cons rfl (op_q (q_move rfl (by decide)) ?_)
      refine list_cons rfl (op_q (q_indexAddr_rd sl_28 rfl (.inl ⟨_, rfl, rfl⟩) rfl (by omega) (by omega) (by decide)) ?_)
      refine list_cons rfl (op_q (q_load_rd one_3 rfl (.inl ⟨_, (by first | rfl | exact congrArg (SV.rpar _) (drop_map1 _ 0 _ (by first | omega | (simp; omega)))), rfl⟩) (by decide)) ?_)
      refine list_cons rfl (op_q (q_assign rfl (by decide)) ?_)
      refine list_cons rfl (op_q (q_assign rfl (by decide)) ?_)
      refine list_nil ?_
      refine hK10 _ ?_; clear hK10 K10
      refine code_seq (fun K11 hK11 => ?_)
      refine code_region ?_
      refine list_cons rfl (op_q (q_move rfl (by decide)) ?_)
      refine list_cons rfl (op_q (q_move rfl (by decide)) ?_)
      refine list_cons rfl (op_q (q_move rfl (by decide)) ?_)
      refine list_cons rfl (op_q (q_indexAddr_rd sl_28 rfl (.inl ⟨_, rfl, rfl⟩) rfl (by omega) (by omega) (by decide)) ?_)
      refine list_cons rfl (op_q (q_load_rd one_3 rfl (.inl ⟨_, (by first | rfl | exact congrArg (SV.rpar _) (drop_map1 _ 0 _ (by first | omega | (simp; omega)))), rfl⟩) (by decide)) ?_)
      refine list_cons rfl (op_call _ (impl_FarCells _ _) rfl rfl (by decide) (by decide) (by decide) rfl ?_)
      rintro _ rfl; simp only [if_pos (show _ ∧ _ from ⟨ca (by omega), cb (by omega)⟩), decide_eq_true (show _ ∧ _ from ⟨ca (by omega), cb (by omega)⟩)]
      refine list_cons rfl (op_q (q_move rfl (by decide)) ?_)
      refine list_cons rfl (op_q (q_extract rfl rfl (by decide)) ?_)
      refine list_cons rfl (op_q (q_extract rfl rfl (by decide)) ?_)
      refine list_cons rfl (op_q (q_assign rfl (by decide)) ?_)
      refine list_cons rfl (op_q (q_assign rfl (by decide)) ?_)
      refine list_nil ?_
      refine hK11 _ ?_; clear hK11 K11
      refine codeT.imp (σ' := [(0, _), (1, _), (4, _), (5, _), (6, _), (7, _), (8, _), (9, _), (10, _), (16, _), (17, _), (18, _)]) ?_ (imp_covers ⟨rfl, rfl, rfl, rfl, rfl, rfl, rfl, rfl, rfl, rfl, rfl, rfl, trivial⟩)
      refine code_seq (fun K12 hK12 => ?_)
      refine code_seq (fun K13 hK13 => ?_)
      refine code_region ?_
      refine list_cons rfl (op_q (q_move rfl (by decide)) ?_)
      refine list_cons rfl (op_q (by first | exact q_notd rfl (by decide) | exact q_not rfl (by decide)) ?_)
      refine list_nil ?_
      refine hK13 _ ?_; clear hK13 K13
      refine code_cond_f rfl ?_
      refine code_skip ?_
      refine hK12 _ ?_; clear hK12 K12
      refine code_region ?_
      refine list_cons rfl (op_q (q_move rfl (by decide)) ?_)
      refine list_cons rfl (op_q (q_move rfl (by decide)) ?_)
      refine list_cons rfl (op_q (by first | exact q_addI rfl rfl (by decide) (by omega) (by omega) | exact q_ib rfl rfl rfl (by decide)) ?_)
      refine list_cons rfl (op_q (q_assign rfl (by decide)) ?_)
      refine list_nil ?_
      refine blk_n ?_
      refine hK9 _ ?_; clear hK9 K9
      refine code_region ?_
      refine list_cons rfl (op_q (by first | exact q_addI rfl rfl (by decide) (by omega) (by omega) | exact q_ib rfl rfl rfl (by decide)) ?_)
      refine list_cons rfl (op_q (q_move rfl (by decide)) ?_)
      refine list_nil ?_
      refine then_n ⟨(_, _, _, _), imp_covers ⟨rfl, rfl, rfl, rfl, rfl, rfl, rfl, rfl, trivial⟩, ?_, ?_⟩
      · (try dsimp only)
        refine ⟨by omega, by omega, ?_⟩
        rw [show (t18 + 1).toNat = t18.toNat + 1 by omega, chgK]
      · (try dsimp only); omega
    (try simp only [Decidable.not_not] at h2)
    refine code_exit ?_
    refine then_x ?_; clear hK8 K8
    refine then_x ?_
    refine blk_hit ?_
    refine hK5 _ ?_; clear hK5 K5
    refine code_seq (fun K14 hK14 => ?_)
    refine code_region ?_
    refine list_cons rfl (op_q (q_move rfl (by decide)) ?_)
    refine list_cons rfl (op_q (q_assign rfl (by decide)) ?_)
    refine list_cons rfl (op_q (q_assign rfl (by decide)) ?_)
    refine list_nil ?_
    refine hK14 _ ?_; clear hK14 K14
    refine code_ret ?_
    refine ends_ret (cs := []) rfl rfl rfl rfl trivial ?_
    rw [show t18.toNat = a.length by omega]



set_option maxRecDepth 4000 in
theorem impl_isDisplay (k : Int) : PCalls Tryd.prog 70 [.int .i64 k] (· = [.val (.bool (decide (1 ≤ k ∧ k ≤ 6)))]) := by
  refine pcalls_of_code (n := 9) az Tryd.func70 (by kernel_rfl) rfl rfl (Nat.le_of_ble_eq_true rfl) (by intro t u h; simp [Tryd.f70] at h) ?_
  refine code_seq (fun K1 hK1 => ?_)
  refine code_region ?_
  refine list_cons rfl (op_q (q_assign rfl (by decide)) ?_)
  refine list_nil ?_
  refine hK1 _ ?_; clear hK1 K1
  refine code_seq (fun K2 hK2 => ?_)
  refine code_region ?_
  refine list_cons rfl (op_q (q_move rfl (by decide)) ?_)
  refine list_cons rfl (op_q (q_ge rfl rfl (by decide)) ?_)
  refine list_cons rfl (op_q (q_move rfl (by decide)) ?_)
  refine list_guard_d rfl rfl rfl rfl (by decide) rfl (by decide) (fun h1 => ?_) (fun h1 => ?_)
  · simp only [Bool.false_eq_true, if_true, if_false, Decidable.not_not] at h1
    refine id (op_q (q_move rfl (by decide)) ?_)
    refine list_guard_y rfl rfl rfl rfl (by decide) rfl ?_
    refine id (op_q (q_le rfl rfl (by decide)) ?_)
    refine list_cons rfl (op_q (q_pick rfl rfl (by decide)) ?_)
    refine list_cons rfl (op_q (q_assign rfl (by decide)) ?_)
    refine list_nil ?_
    refine hK2 _ ?_; clear hK2 K2
    refine code_ret ?_
    refine ends_ret (cs := []) rfl rfl rfl rfl trivial ?_
    first | (congr 3; exact decide_eq_decide.mpr ⟨fun e => by omega, fun e => by omega⟩) | (rw [decide_eq_false (by omega)]; done) | (congr 3; exact (decide_eq_true (by omega)).symm)
  simp only [Bool.false_eq_true, if_true, if_false, Decidable.not_not] at h1
  refine list_guard_n rfl rfl rfl rfl (by decide) rfl ?_
  refine list_cons rfl (op_q (q_pick rfl rfl (by decide)) ?_)
  refine list_cons rfl (op_q (q_assign rfl (by decide)) ?_)
  refine list_nil ?_
  refine hK2 _ ?_; clear hK2 K2
  refine code_ret ?_
  refine ends_ret (cs := []) rfl rfl rfl rfl trivial ?_
  first | (congr 3; exact decide_eq_decide.mpr ⟨fun e => by omega, fun e => by omega⟩) | (rw [decide_eq_false (by omega)]; done) | (congr 3; exact (decide_eq_true (by omega)).symm)

set_option maxRecDepth 4000 in
theorem clone10_c (l : List Int) (hl : l.length ≤ 1000) : PCalls Tryd.prog 72 [.sl l.length (l.map (.int .i64))] (· = [.own 0 3 1 (l).length ((l).map (.int .i64))]) := by
  refine pcalls_of_code (n := 8) az Tryd.func72 (by kernel_rfl) rfl rfl (Nat.le_of_ble_eq_true rfl) (by intro t u h; simp [Tryd.f72] at h) ?_
  refine code_seq (fun K1 hK1 => ?_)
  refine code_region ?_
  refine list_cons rfl (op_q (q_assign rfl (by decide)) ?_)
  refine list_nil ?_
  refine hK1 _ ?_; clear hK1 K1
  refine code_seq (fun K2 hK2 => ?_)
  refine code_seq (fun K3 hK3 => ?_)
  refine code_region ?_
  refine list_cons rfl (op_q (q_move rfl (by decide)) ?_)
  refine list_cons rfl (op_eqnil Tryd.underlying28 rfl rfl (by decide) (fun h1 hzh1 => ?_) ?_)
  · skip
    refine list_nil ?_
    refine hK3 _ ?_; clear hK3 K3
    refine code_cond_t rfl ?_
    refine code_seq (fun K4 hK4 => ?_)
    refine code_region ?_
    refine list_cons rfl (op_q (q_assign rfl (by decide)) ?_)
    refine list_nil ?_
    refine hK4 _ ?_; clear hK4 K4
    refine codeT.imp ?_ (imp_nil (s := 2) (l := 902) (e := 3) (size := 1) (by first | exact .inl rfl | exact .inr rfl))
    refine code_ret ?_
    refine then_r ?_; clear hK2 K2
    refine ends_ret (cs := []) rfl rfl rfl rfl trivial ?_
    first
      | rfl
      | (have e : l = [] := List.eq_nil_of_length_eq_zero h1
         subst e; rfl)
      | (rw [show zeros [PV.int IntKind.i64 0] 0 = [] from rfl, List.nil_append, Nat.zero_add]; done)
  · skip
    refine list_nil ?_
    refine hK3 _ ?_; clear hK3 K3
    refine code_cond_f rfl ?_
    refine code_skip ?_
    refine hK2 _ ?_; clear hK2 K2
    refine code_seq (fun K5 hK5 => ?_)
    refine code_region ?_
    refine list_cons rfl (op_buildSlice sl_28 (parts := []) rfl rfl rfl (by decide) (by decide) (by decide) rfl ?_)
    refine list_cons rfl (op_q (q_move rfl (by decide)) ?_)
    refine list_cons rfl (op_append_gen sl_28 (l := 5) (.inl rfl) rfl rfl (l2 := none) (.inl ⟨rfl, (by first | rfl | exact flat_map _ (fun _ => rfl) _)⟩) (by first | rfl | simp | omega) (by omega) (by decide) (by decide) (by decide) ?_)
    refine list_cons rfl (op_q (q_assign rfl (by decide)) ?_)
    refine list_nil ?_
    refine hK5 _ ?_; clear hK5 K5
    refine codeT.imp (σ' := [(0, _), (2, _)]) ?_ (imp_covers ⟨rfl, rfl, trivial⟩)
    refine code_ret ?_
    refine ends_ret (cs := []) rfl rfl rfl rfl trivial ?_
    first
      | rfl
      | (have e : l = [] := List.eq_nil_of_length_eq_zero h1
         subst e; rfl)
      | (rw [show zeros [PV.int IntKind.i64 0] 0 = [] from rfl, List.nil_append, Nat.zero_add]; done)

theorem clone10_E (n : Nat) (cs : List PV) (l : List Int) (h1 : n = l.length) (h2 : cs = l.map (.int .i64)) (hl : l.length ≤ 1000) : PCalls Tryd.prog 72 [.sl n cs] (· = [.own 0 3 1 (l).length ((l).map (.int .i64))]) := by
  subst h1; subst h2; exact clone10_c l hl
theorem concat3 (a b : List Int) (na nb : Nat) (ca cb : List PV) (h1 : na = a.length) (h2 : ca = a.map (.int .i64)) (h3 : nb = b.length) (h4 : cb = b.map (.int .i64)) (ha : a.length ≤ 100) (hb : b.length ≤ 100) : PCalls Tryd.prog 71 [.sl 3 [.sl na ca, .sl nb cb, .sl na ca]] (· = [.own 0 3 1 (a ++ b ++ a).length ((a ++ b ++ a).map (.int .i64))]) := by
  subst h1; subst h2; subst h3; subst h4
  have e : [a, b, a].flatten = a ++ b ++ a := by simp
  have := concat_c [a, b, a] (by show 3 ≤ _; omega) (by rw [e]; simp; omega)
  rw [e] at this
  exact this
/-- The word between dark cells, and each row of it. -/
def bndW (s : List UInt8) (k : Nat) : List Int := zeK (k - 1) ++ rowW s ++ zeK (k - 1)
theorem bnd_len (s : List UInt8) (k : Nat) : (bndW s k).length = s.length + 2 * (k - 1) := by unfold bndW; rw [List.length_append, List.length_append, rowW_len, zeK_len]; omega
theorem bnd_at (s : List UInt8) {k : Nat} (hk : 1 ≤ k) (j : Nat) : (bndW s k).getD j 0 = scC (rowW s) ((j : Int) - ((k : Int) - 1)) := by
  have hr := rowW_len s
  unfold bndW scC
  rw [List.append_assoc]
  by_cases h1 : j < k - 1
  · rw [List.getD_eq_getElem?_getD, List.getElem?_append_left (by rw [zeK_len]; exact h1), if_neg (by omega)]
    unfold zeK
    rw [List.getElem?_replicate, if_pos h1]; rfl
  · rw [List.getD_eq_getElem?_getD, List.getElem?_append_right (by rw [zeK_len]; omega), zeK_len]
    by_cases h2 : j - (k - 1) < (rowW s).length
    · rw [List.getElem?_append_left h2, ← List.getD_eq_getElem?_getD, if_pos (by omega), show ((j : Int) - ((k : Int) - 1)).toNat = j - (k - 1) by omega]
    · rw [List.getElem?_append_right (by omega), if_neg (by omega)]
      unfold zeK
      rw [List.getElem?_replicate]
      split <;> rfl
theorem bnd_row {s : List UInt8} {k m : Nat} (hk : 1 ≤ k) (h : m + k ≤ (bndW s k).length) : ((bndW s k).drop m).take k = scR (rowW s) k ((k : Int) - 1 - m) := by
  apply List.ext_getElem
  · rw [List.length_take, List.length_drop, scR_len]; omega
  · intro j h1 h2
    have hj : j < k := by rw [scR_len] at h2; exact h2
    have e1 : (((bndW s k).drop m).take k)[j] = (bndW s k).getD (m + j) 0 := by
      rw [List.getD_eq_getElem?_getD, List.getElem?_eq_getElem (by omega)]; simp
    have e2 : (scR (rowW s) k ((k : Int) - 1 - m))[j] = scC (rowW s) ((j : Int) - ((k : Int) - 1 - m)) := by simp [scR]
    rw [e1, e2, bnd_at s hk]
    congr 1
    omega
def rwZ (r : List Int) (k n m : Nat) : List PV := qR (sT r k m) ++ List.replicate (n - m) (.sl 0 [])
theorem rwZ_len (r : List Int) (k n m : Nat) (h : m ≤ n) : (rwZ r k n m).length = n := by unfold rwZ; rw [List.length_append, qR_len, sT_len, List.length_replicate]; omega
theorem rwZ_put {r : List Int} {k n m : Nat} (h : m < n) : putAt (rwZ r k n m) (m * 1) [PV.sl (scR r k ((k : Int) - 1 - m)).length ((scR r k ((k : Int) - 1 - m)).map (.int .i64))] = rwZ r k n (m + 1) := by
  unfold rwZ putAt
  rw [Nat.mul_one, List.take_append_of_le_length (by rw [qR_len, sT_len]; exact Nat.le_refl _), List.take_of_length_le (by rw [qR_len, sT_len]; exact Nat.le_refl _), sT_succ, ← qR_snoc]
  congr 1
  rw [List.drop_append]
  rw [List.drop_eq_nil_of_le (by rw [qR_len, sT_len]; simp), List.nil_append, qR_len, sT_len, List.drop_replicate]
  congr 1
  simp
  omega
theorem rwZ_0 (r : List Int) (k n : Nat) : zeros [PV.sl 0 []] n = rwZ r k n 0 := by
  have := zeros_map1 (fun l : List Int => PV.sl l.length (l.map (.int .i64))) [] n
  refine Eq.trans this ?_
  unfold rwZ sT qR
  simp
theorem rwZ_end (r : List Int) (k n : Nat) : rwZ r k n n = qR (sT r k n) := by unfold rwZ; rw [Nat.sub_self]; exact List.append_nil _
theorem rwZ_ne (r : List Int) (k : Nat) {n m : Nat} (h : m ≤ n) (h0 : 0 < n) : rwZ r k n m ≠ [] := fun e => by have := congrArg List.length e; rw [rwZ_len r k n m h] at this; simp at this; omega

set_option maxRecDepth 8000 in
set_option maxHeartbeats 2000000 in
theorem impl_ScrollRows (s : List UInt8) (k : Int) (hs : s.length ≤ 4611686018427387904) : PCalls Tryd.prog 40 [.str s, .int .i64 k] (· = [.own 0 28 1 (if WrdP s 12 ∧ 1 ≤ k ∧ k ≤ 6 then scW s k.toNat else []).length (qR (if WrdP s 12 ∧ 1 ≤ k ∧ k ≤ 6 then scW s k.toNat else [])), .val (.bool (decide (WrdP s 12 ∧ 1 ≤ k ∧ k ≤ 6)))]) := by
  refine pcalls_of_code (n := 60) az Tryd.func40 (by kernel_rfl) rfl rfl (Nat.le_of_ble_eq_true rfl) (by intro t u h; simp [Tryd.f40] at h) ?_
  have hrl := rowW_len s
  refine code_seq (fun K1 hK1 => ?_)
  refine code_region ?_
  refine list_cons rfl (op_q (q_assign rfl (by decide)) ?_)
  refine list_cons rfl (op_q (q_assign rfl (by decide)) ?_)
  refine list_nil ?_
  refine hK1 _ ?_; clear hK1 K1
  refine code_seq (fun K2 hK2 => ?_)
  refine code_region ?_
  refine list_cons rfl (op_q (q_move rfl (by decide)) ?_)
  by_cases h1 : WrdP s 12
  · skip
    refine list_cons rfl (op_call _ (impl_cellsOfWordY s (by omega) h1) rfl rfl (by decide) (by decide) (by decide) rfl ?_)
    rintro _ rfl
    refine list_cons rfl (op_q (q_move rfl (by decide)) ?_)
    refine list_cons rfl (op_q (q_extract rfl rfl (by decide)) ?_)
    refine list_cons rfl (op_q (q_extract rfl rfl (by decide)) ?_)
    refine list_cons rfl (op_q (q_assign rfl (by decide)) ?_)
    refine list_cons rfl (op_q (q_assign rfl (by decide)) ?_)
    refine list_nil ?_
    refine hK2 _ ?_; clear hK2 K2
    refine codeT.imp (σ' := [(0, _), (1, _), (4, _), (5, _), (6, _), (7, _)]) ?_ (imp_covers ⟨rfl, rfl, rfl, rfl, rfl, rfl, trivial⟩)
    refine code_seq (fun K3 hK3 => ?_)
    refine code_seq (fun K4 hK4 => ?_)
    refine code_region ?_
    refine list_cons rfl (op_q (q_move rfl (by decide)) ?_)
    refine list_cons rfl (op_q (by first | exact q_notd rfl (by decide) | exact q_not rfl (by decide)) ?_)
    refine list_cons rfl (op_q (q_move rfl (by decide)) ?_)
    refine list_guard_y rfl rfl rfl rfl (by decide) rfl ?_
    refine id (op_q (q_move rfl (by decide)) ?_)
    refine list_guard_y rfl rfl rfl rfl (by decide) rfl ?_
    refine id (op_call _ (impl_isDisplay _) rfl rfl (by decide) (by decide) (by decide) rfl ?_)
    rintro _ rfl
    refine list_guard_y rfl rfl rfl rfl (by decide) rfl ?_
    refine id (op_q (by first | exact q_notd rfl (by decide) | exact q_not rfl (by decide)) ?_)
    refine list_cons rfl (op_q (q_pick rfl rfl (by decide)) ?_)
    refine list_nil ?_
    refine hK4 _ ?_; clear hK4 K4
    refine codeT.imp (σ' := [(0, _), (1, _), (4, _), (5, _), (6, _), (7, _), (23, _)]) ?_ (imp_covers ⟨rfl, rfl, rfl, rfl, rfl, rfl, rfl, trivial⟩)
    refine code_cond_d rfl (fun h2 => ?_) (fun h2 => ?_)
    · skip
      (try simp only [Decidable.not_not] at h2)
      refine code_seq (fun K5 hK5 => ?_)
      refine code_region ?_
      refine list_cons rfl (op_buildSlice sl_42 (parts := []) rfl rfl rfl (by decide) (by decide) (by decide) rfl ?_)
      refine list_cons rfl (op_q (q_assign rfl (by decide)) ?_)
      refine list_cons rfl (op_q (q_assign rfl (by decide)) ?_)
      refine list_nil ?_
      refine hK5 _ ?_; clear hK5 K5
      refine code_ret ?_
      refine then_r ?_; clear hK3 K3
      refine ends_ret (cs := []) rfl rfl rfl rfl trivial ?_
      first
        | (have e : ¬ (WrdP s 12 ∧ 1 ≤ k ∧ k ≤ 6) := fun z => absurd z.1 (by assumption)
           simp only [if_neg e, decide_eq_false e]; rfl)
        | (have e : ¬ (WrdP s 12 ∧ 1 ≤ k ∧ k ≤ 6) := fun z => by omega
           simp only [if_neg e, decide_eq_false e]; rfl)
        | (have e : WrdP s 12 ∧ 1 ≤ k ∧ k ≤ 6 := ⟨by assumption, by omega, by omega⟩
           have e0 : s = [] := List.eq_nil_of_length_eq_zero (by omega)
           simp only [if_pos e, decide_eq_true e, scW, if_pos e0]; rfl)
        | (have e0 : s ≠ [] := fun e => by rw [e] at h0; simp at h0
           simp only [if_pos hW, decide_eq_true hW, scW, if_neg e0, sT_len, show t45.toNat = (s.length + k.toNat - 1) by omega, rwZ_end]; done)
    (try simp only [Decidable.not_not] at h2)
    refine code_skip ?_
    refine hK3 _ ?_; clear hK3 K3
    refine code_seq (fun K6 hK6 => ?_)
    refine code_seq (fun K7 hK7 => ?_)
    refine code_region ?_
    refine list_cons rfl (op_q (q_move rfl (by decide)) ?_)
    refine list_cons rfl (op_q (q_len_sl Tryd.underlying28 rfl rfl (by decide)) ?_)
    refine list_cons rfl (op_q (q_eq rfl rfl (by decide)) ?_)
    refine list_nil ?_
    refine hK7 _ ?_; clear hK7 K7
    refine code_cond_d rfl (fun h3 => ?_) (fun h3 => ?_)
    · skip
      (try simp only [Decidable.not_not] at h3)
      refine code_seq (fun K8 hK8 => ?_)
      refine code_region ?_
      refine list_cons rfl (op_buildSlice sl_42 (parts := []) rfl rfl rfl (by decide) (by decide) (by decide) rfl ?_)
      refine list_cons rfl (op_q (q_assign rfl (by decide)) ?_)
      refine list_cons rfl (op_q (q_assign rfl (by decide)) ?_)
      refine list_nil ?_
      refine hK8 _ ?_; clear hK8 K8
      refine code_ret ?_
      refine then_r ?_; clear hK6 K6
      refine ends_ret (cs := []) rfl rfl rfl rfl trivial ?_
      first
        | (have e : ¬ (WrdP s 12 ∧ 1 ≤ k ∧ k ≤ 6) := fun z => absurd z.1 (by assumption)
           simp only [if_neg e, decide_eq_false e]; rfl)
        | (have e : ¬ (WrdP s 12 ∧ 1 ≤ k ∧ k ≤ 6) := fun z => by omega
           simp only [if_neg e, decide_eq_false e]; rfl)
        | (have e : WrdP s 12 ∧ 1 ≤ k ∧ k ≤ 6 := ⟨by assumption, by omega, by omega⟩
           have e0 : s = [] := List.eq_nil_of_length_eq_zero (by omega)
           simp only [if_pos e, decide_eq_true e, scW, if_pos e0]; rfl)
        | (have e0 : s ≠ [] := fun e => by rw [e] at h0; simp at h0
           simp only [if_pos hW, decide_eq_true hW, scW, if_neg e0, sT_len, show t45.toNat = (s.length + k.toNat - 1) by omega, rwZ_end]; done)
    (try simp only [Decidable.not_not] at h3)
    refine code_skip ?_
    refine hK6 _ ?_; clear hK6 K6
    refine code_seq (fun K9 hK9 => ?_)
    refine code_region ?_
    refine list_cons rfl (op_q (q_move rfl (by decide)) ?_)
    refine list_cons rfl (op_q (by first | exact q_subI rfl rfl (by decide) (by omega) (by omega) | exact q_ib rfl rfl rfl (by decide)) ?_)
    refine list_cons rfl (op_makeI sl_28 rfl rfl (by omega) (by have := (show WrdP s 12 by assumption).1; omega) (by decide) (by decide) rfl ?_)
    refine list_cons rfl (op_q (q_assign rfl (by decide)) ?_)
    refine list_nil ?_
    refine hK9 _ ?_; clear hK9 K9
    refine codeT.imp (σ' := [(0, _), (1, _), (4, _), (5, _), (6, _), (7, _), (8, _)]) ?_ (imp_covers ⟨rfl, rfl, rfl, rfl, rfl, rfl, rfl, trivial⟩)
    refine code_seq (fun K10 hK10 => ?_)
    refine codeT.imp ?_ (imp_reb (q := 14) (l := 31) (by decide) (by decide) (by decide))
    refine code_region ?_
    refine list_cons rfl (op_q (q_move rfl (by decide)) ?_)
    refine list_cons rfl (op_q (q_move rfl (by decide)) ?_)
    refine list_cons rfl (op_q (q_move rfl (by decide)) ?_)
    refine list_cons rfl (op_buildSliceB sl_42 (l := 31) (parts := [(0, .tmp 32), (1, .tmp 33), (2, .tmp 34)]) rfl rfl rfl (by decide) (by decide) (by decide) ?_)
    refine list_cons rfl (op_call _ (concat3 (zeK (k.toNat - 1)) (rowW s) _ _ _ _ (by rw [zeK_len]; omega) (by rw [← zeK_map]; congr 1; omega) rfl rfl (by rw [zeK_len]; omega) (by have := (show WrdP s 12 by assumption).1; omega)) rfl rfl (by decide) (by decide) (by decide) rfl ?_)
    rintro _ rfl
    refine list_cons rfl (op_q (q_assign rfl (by decide)) ?_)
    refine list_nil ?_
    refine hK10 _ ?_; clear hK10 K10
    refine codeT.imp (σ' := [(0, _), (1, _), (4, _), (5, _), (6, _), (7, _), (8, _), (9, _)]) ?_ (imp_covers ⟨rfl, rfl, rfl, rfl, rfl, rfl, rfl, rfl, trivial⟩)
    refine code_seq (fun K11 hK11 => ?_)
    refine code_region ?_
    refine list_cons rfl (op_q (q_move rfl (by decide)) ?_)
    refine list_cons rfl (op_q (q_len_sl Tryd.underlying28 rfl rfl (by decide)) ?_)
    refine list_cons rfl (op_q (q_move rfl (by decide)) ?_)
    refine list_cons rfl (op_q (by first | exact q_addI rfl rfl (by decide) (by omega) (by omega) | exact q_ib rfl rfl rfl (by decide)) ?_)
    refine list_cons rfl (op_q (by first | exact q_subI rfl rfl (by decide) (by omega) (by omega) | exact q_ib rfl rfl rfl (by decide)) ?_)
    refine list_cons rfl (op_makeI sl_42 rfl rfl (by omega) (by have := (show WrdP s 12 by assumption).1; omega) (by decide) (by decide) rfl ?_)
    refine list_cons rfl (op_q (q_assign rfl (by decide)) ?_)
    refine list_nil ?_
    refine hK11 _ ?_; clear hK11 K11
    refine code_seq (fun K12 hK12 => ?_)
    refine code_seq (fun K13 hK13 => ?_)
    refine code_region ?_
    refine list_cons rfl (op_q (q_move rfl (by decide)) ?_)
    refine list_cons rfl (op_q (q_len_sl Tryd.underlying42 rfl rfl (by decide)) ?_)
    refine list_cons rfl (op_q (q_move rfl (by decide)) ?_)
    refine list_nil ?_
    refine hK13 _ ?_; clear hK13 K13
    refine codeT.imp (σ' := [(0, _), (1, _), (4, _), (5, _), (6, _), (7, _), (8, _), (9, _), (10, _), (44, _), (45, _)]) ?_ (imp_covers ⟨rfl, rfl, rfl, rfl, rfl, rfl, rfl, rfl, rfl, rfl, rfl, trivial⟩)
    refine code_block ?_
    refine code_loop (X := PV × Bool × Bool × Nat × List PV × Nat × List PV × Int × Int) (fun x => [(0, .val (.str s)), (1, .val (.int .i64 k)), (4, .val x.1), (5, .val (.bool x.2.1)), (7, .val (.bool x.2.2.1)), (9, .own 36 3 1 x.2.2.2.1 x.2.2.2.2.1), (10, .own 42 28 1 x.2.2.2.2.2.1 x.2.2.2.2.2.2.1), (44, .val (.int .i64 x.2.2.2.2.2.2.2.1)), (45, .val (.int .i64 x.2.2.2.2.2.2.2.2))]) (fun x => ((WrdP s 12 ∧ 1 ≤ k ∧ k ≤ 6) ∧ 0 < s.length) ∧ 0 ≤ x.2.2.2.2.2.2.2.2 ∧ x.2.2.2.2.2.2.2.2 ≤ (s.length + k.toNat - 1) ∧ x.2.2.2.2.2.2.2.1 = (((s.length + k.toNat - 1) : Nat) : Int) ∧ x.2.2.2.2.2.1 = (s.length + k.toNat - 1) ∧ x.2.2.2.2.2.2.1 = rwZ (rowW s) k.toNat (s.length + k.toNat - 1) x.2.2.2.2.2.2.2.2.toNat ∧ x.2.2.2.1 = (bndW s k.toNat).length ∧ x.2.2.2.2.1 = (bndW s k.toNat).map (.int .i64)) (fun x => ((s.length + k.toNat - 1) - x.2.2.2.2.2.2.2.2).toNat) (_, _, _, _, _, _, _, _, _) (imp_covers ⟨rfl, rfl, rfl, rfl, rfl, rfl, rfl, rfl, rfl, trivial⟩) ?_ ?_
    · (try dsimp only)
      exact ⟨⟨⟨by assumption, by omega, by omega⟩, by omega⟩, by omega, by omega, (congrArg (fun z : Nat => (z : Int)) (show (((rowW s).length : Int) + k - 1).toNat = (s.length + k.toNat - 1) by rw [hrl]; omega)), (show (((rowW s).length : Int) + k - 1).toNat = (s.length + k.toNat - 1) by rw [hrl]; omega), (show zeros [PV.sl 0 []] (((rowW s).length : Int) + k - 1).toNat = _ by rw [show (((rowW s).length : Int) + k - 1).toNat = (s.length + k.toNat - 1) by rw [hrl]; omega]; exact rwZ_0 _ _ _), rfl, rfl⟩
    · intro x hI
      obtain ⟨t4_p, t5, ok, band_n, band_c, rows_n, rows_c, t44, t45⟩ := x
      replace hI : ((WrdP s 12 ∧ 1 ≤ k ∧ k ≤ 6) ∧ 0 < s.length) ∧ 0 ≤ t45 ∧ t45 ≤ (s.length + k.toNat - 1) ∧ t44 = (((s.length + k.toNat - 1) : Nat) : Int) ∧ rows_n = (s.length + k.toNat - 1) ∧ rows_c = rwZ (rowW s) k.toNat (s.length + k.toNat - 1) t45.toNat ∧ band_n = (bndW s k.toNat).length ∧ band_c = (bndW s k.toNat).map (.int .i64) := hI
      show codeT _ _ _ [(0, .val (.str s)), (1, .val (.int .i64 k)), (4, .val t4_p), (5, .val (.bool t5)), (7, .val (.bool ok)), (9, .own 36 3 1 band_n band_c), (10, .own 42 28 1 rows_n rows_c), (44, .val (.int .i64 t44)), (45, .val (.int .i64 t45))] _
      obtain ⟨⟨hW, h0⟩, i1, i2, rfl, rfl, rfl, rfl, rfl⟩ := hI
      have hk6 := hW.2
      have hl12 := hW.1.1
      have hbl := bnd_len s k.toNat
      have hzl := rwZ_len (rowW s) k.toNat (s.length + k.toNat - 1) t45.toNat (by omega)
      refine code_seq (fun K14 hK14 => ?_)
      refine code_region ?_
      refine list_cons rfl (op_q (q_lt rfl rfl (by decide)) ?_)
      refine list_nil ?_
      refine hK14 _ ?_; clear hK14 K14
      refine code_seq (fun K15 hK15 => ?_)
      refine code_cond_d rfl (fun h4 => ?_) (fun h4 => ?_)
      · skip
        (try simp only [Decidable.not_not] at h4)
        refine code_skip ?_
        refine hK15 _ ?_; clear hK15 K15
        refine code_seq (fun K16 hK16 => ?_)
        refine code_block ?_
        refine code_seq (fun K17 hK17 => ?_)
        refine code_region ?_
        refine list_cons rfl (op_q (q_move rfl (by decide)) ?_)
        refine list_cons rfl (op_q (q_assign rfl (by decide)) ?_)
        refine list_nil ?_
        refine hK17 _ ?_; clear hK17 K17
        refine code_region ?_
        refine list_cons rfl (op_q (q_move rfl (by decide)) ?_)
        refine list_cons rfl (op_q (q_move rfl (by decide)) ?_)
        refine list_cons rfl (op_q (q_move rfl (by decide)) ?_)
        refine list_cons rfl (op_q (q_move rfl (by decide)) ?_)
        refine list_cons rfl (op_q (q_move rfl (by decide)) ?_)
        refine list_cons rfl (op_q (q_move rfl (by decide)) ?_)
        refine list_cons rfl (op_q (by first | exact q_addI rfl rfl (by decide) (by omega) (by omega) | exact q_ib rfl rfl rfl (by decide)) ?_)
        refine list_cons rfl (op_q (q_slice_sl sl_28 rfl rfl ⟨_, rfl⟩ ⟨_, rfl⟩ (by first | omega | (show _ ≤ (((bndW s k.toNat).length : Nat) : Int); omega)) (by first | omega | (show _ ≤ (((bndW s k.toNat).length : Nat) : Int); omega)) (by first | omega | (show _ ≤ (((bndW s k.toNat).length : Nat) : Int); omega)) rfl (by decide)) ?_)
        refine list_cons rfl (op_call _ (clone10_E _ _ (scR (rowW s) k.toNat ((k.toNat : Int) - 1 - t45.toNat)) (by rw [scR_len]; omega) (by rw [← bnd_row (s := s) (by omega) (by omega), List.map_take, List.map_drop, Nat.mul_one, Nat.mul_one, show (t45 + k).toNat - t45.toNat = k.toNat by omega]) (by rw [scR_len]; omega)) rfl rfl (by decide) (by decide) (by decide) rfl ?_)
        rintro _ rfl
        refine list_cons rfl (op_q (q_indexAddr_own sl_42 rfl rfl (by first | omega) (by first | omega) (by decide)) ?_)
        refine list_cons rfl (opT.impY ?_ (imp_absorb (l := 42) (q := 56) (h := 10) (y := 56) (by decide) (by decide) rfl rfl (rwZ_ne _ _ (by omega) (by omega)) rfl))
        refine op_storeI (one_28).2 10 [10, 48] (by intro t ht; simp only [List.mem_cons, List.not_mem_nil, or_false] at ht; rcases ht with rfl | rfl <;> rfl) (.inl rfl) rfl rfl rfl (.inr rfl) rfl (by rw [hzl]; omega) (by decide) rfl ?_
        refine list_nil ?_
        refine blk_n ?_
        refine hK16 _ ?_; clear hK16 K16
        refine codeT.imp (σ' := [(0, _), (1, _), (4, _), (5, _), (7, _), (9, _), (10, _), (11, _), (44, _), (45, _)]) ?_ (imp_covers ⟨rfl, rfl, rfl, rfl, rfl, rfl, rfl, rfl, rfl, rfl, trivial⟩)
        refine code_region ?_
        refine list_cons rfl (op_q (by first | exact q_addI rfl rfl (by decide) (by omega) (by omega) | exact q_ib rfl rfl rfl (by decide)) ?_)
        refine list_cons rfl (op_q (q_move rfl (by decide)) ?_)
        refine list_nil ?_
        refine then_n ⟨(_, _, _, _, _, _, _, _, _), imp_covers ⟨rfl, rfl, rfl, rfl, rfl, rfl, rfl, rfl, rfl, trivial⟩, ?_, ?_⟩
        · (try dsimp only)
          refine ⟨⟨hW, h0⟩, by omega, by omega, rfl, rfl, ?_, rfl, rfl⟩
          rw [show (t45 + 1).toNat = t45.toNat + 1 by omega]
          exact rwZ_put (by omega)
        · (try dsimp only); omega
      (try simp only [Decidable.not_not] at h4)
      refine code_exit ?_
      refine then_x ?_; clear hK15 K15
      refine then_x ?_
      refine blk_hit ?_
      refine hK12 _ ?_; clear hK12 K12
      refine code_seq (fun K18 hK18 => ?_)
      refine code_region ?_
      refine list_cons rfl (op_q (q_move rfl (by decide)) ?_)
      refine list_cons rfl (op_q (q_assign rfl (by decide)) ?_)
      refine list_cons rfl (op_q (q_assign rfl (by decide)) ?_)
      refine list_nil ?_
      refine hK18 _ ?_; clear hK18 K18
      refine code_ret ?_
      refine ends_ret (cs := []) rfl rfl rfl rfl trivial ?_
      first
        | (have e : ¬ (WrdP s 12 ∧ 1 ≤ k ∧ k ≤ 6) := fun z => absurd z.1 (by assumption)
           simp only [if_neg e, decide_eq_false e]; rfl)
        | (have e : ¬ (WrdP s 12 ∧ 1 ≤ k ∧ k ≤ 6) := fun z => by omega
           simp only [if_neg e, decide_eq_false e]; rfl)
        | (have e : WrdP s 12 ∧ 1 ≤ k ∧ k ≤ 6 := ⟨by assumption, by omega, by omega⟩
           have e0 : s = [] := List.eq_nil_of_length_eq_zero (by omega)
           simp only [if_pos e, decide_eq_true e, scW, if_pos e0]; rfl)
        | (have e0 : s ≠ [] := fun e => by rw [e] at h0; simp at h0
           simp only [if_pos hW, decide_eq_true hW, scW, if_neg e0, sT_len, show t45.toNat = (s.length + k.toNat - 1) by omega, rwZ_end]; done)
  · skip
    refine list_cons rfl (op_call _ (impl_cellsOfWordN s (by omega) h1) rfl rfl (by decide) (by decide) (by decide) rfl ?_)
    rintro _ rfl
    refine list_cons rfl (op_q (q_move rfl (by decide)) ?_)
    refine list_cons rfl (op_q (q_extract rfl rfl (by decide)) ?_)
    refine list_cons rfl (op_q (q_extract rfl rfl (by decide)) ?_)
    refine list_cons rfl (op_q (q_assign rfl (by decide)) ?_)
    refine list_cons rfl (op_q (q_assign rfl (by decide)) ?_)
    refine list_nil ?_
    refine hK2 _ ?_; clear hK2 K2
    refine codeT.imp (σ' := [(0, _), (1, _), (4, _), (5, _), (6, _), (7, _)]) ?_ (imp_covers ⟨rfl, rfl, rfl, rfl, rfl, rfl, trivial⟩)
    refine code_seq (fun K19 hK19 => ?_)
    refine code_seq (fun K20 hK20 => ?_)
    refine code_region ?_
    refine list_cons rfl (op_q (q_move rfl (by decide)) ?_)
    refine list_cons rfl (op_q (by first | exact q_notd rfl (by decide) | exact q_not rfl (by decide)) ?_)
    refine list_cons rfl (op_q (q_move rfl (by decide)) ?_)
    refine list_guard_nT rfl rfl rfl rfl (by decide) (by decide) ?_
    refine list_guard_nT rfl rfl rfl rfl (by decide) (by decide) ?_
    refine list_guard_nT rfl rfl rfl rfl (by decide) (by decide) ?_
    refine list_cons rfl (op_q (q_pick rfl rfl (by decide)) ?_)
    refine list_nil ?_
    refine hK20 _ ?_; clear hK20 K20
    refine code_cond_t rfl ?_
    refine code_seq (fun K21 hK21 => ?_)
    refine code_region ?_
    refine list_cons rfl (op_buildSlice sl_42 (parts := []) rfl rfl rfl (by decide) (by decide) (by decide) rfl ?_)
    refine list_cons rfl (op_q (q_assign rfl (by decide)) ?_)
    refine list_cons rfl (op_q (q_assign rfl (by decide)) ?_)
    refine list_nil ?_
    refine hK21 _ ?_; clear hK21 K21
    refine codeT.imp (σ' := [(0, _), (1, _), (4, _), (5, _), (6, _), (7, _)]) ?_ (imp_covers ⟨rfl, rfl, rfl, rfl, rfl, rfl, trivial⟩)
    refine code_ret ?_
    refine then_r ?_; clear hK19 K19
    refine ends_ret (cs := []) rfl rfl rfl rfl trivial ?_
    first
      | (have e : ¬ (WrdP s 12 ∧ 1 ≤ k ∧ k ≤ 6) := fun z => absurd z.1 (by assumption)
         simp only [if_neg e, decide_eq_false e]; rfl)
      | (have e : ¬ (WrdP s 12 ∧ 1 ≤ k ∧ k ≤ 6) := fun z => by omega
         simp only [if_neg e, decide_eq_false e]; rfl)
      | (have e : WrdP s 12 ∧ 1 ≤ k ∧ k ≤ 6 := ⟨by assumption, by omega, by omega⟩
         have e0 : s = [] := List.eq_nil_of_length_eq_zero (by omega)
         simp only [if_pos e, decide_eq_true e, scW, if_pos e0]; rfl)
      | (have e0 : s ≠ [] := fun e => by rw [e] at h0; simp at h0
         simp only [if_pos hW, decide_eq_true hW, scW, if_neg e0, sT_len, show t45.toNat = (s.length + k.toNat - 1) by omega, rwZ_end]; done)

theorem impl_ScrollRowsY (s : List UInt8) (k : Int) (hs : s.length ≤ 4611686018427387904) (hW : (WrdP s 12 ∧ 1 ≤ k ∧ k ≤ 6)) : PCalls Tryd.prog 40 [.str s, .int .i64 k] (· = [.own 0 28 1 (scW s k.toNat).length (qR (scW s k.toNat)), .val (.bool true)]) := (impl_ScrollRows s k hs).mono fun rs h => by rw [h]; simp only [if_pos hW, decide_eq_true hW]

theorem impl_ScrollRowsN (s : List UInt8) (k : Int) (hs : s.length ≤ 4611686018427387904) (hW : ¬ (WrdP s 12 ∧ 1 ≤ k ∧ k ≤ 6)) : PCalls Tryd.prog 40 [.str s, .int .i64 k] (· = [.own 0 28 1 0 [], .val (.bool false)]) := (impl_ScrollRows s k hs).mono fun rs h => by rw [h]; simp only [if_neg hW, decide_eq_false hW]; rfl

theorem rowChR (a b : List Int) (k n1 n2 : Nat) (ca cb : List PV) (hn1 : n1 = a.length) (hn2 : n2 = b.length) (hca : ca = a.map (.int .i64)) (hcb : cb = b.map (.int .i64)) (ha : a.length = k ∧ ∀ j, 0 ≤ a.getD j 0 ∧ a.getD j 0 ≤ 127) (hb : b.length = k ∧ ∀ j, 0 ≤ b.getD j 0 ∧ b.getD j 0 ≤ 127) (h6 : k ≤ 6) : PCalls Tryd.prog 64 [.sl n1 ca, .sl n2 cb] (· = [.val (.int .i64 (chgK a b k)), .val (.bool true)]) := by
  subst hn1; subst hn2; subst hca; subst hcb
  have := impl_rowChanges a b (by omega) (by omega) (fun i _ => ha.2 i) (fun i _ => hb.2 i)
  rw [ha.1] at this
  rw [ha.1]; exact this
/-- The rows and a dark one behind them. -/
def scX (s : List UInt8) (k : Nat) : List (List Int) := scW s k ++ [zeK k]
theorem scX_len (s : List UInt8) (k : Nat) : (scX s k).length = (scW s k).length + 1 := by simp [scX]
theorem scX_row {s : List UInt8} {k j : Nat} (h : j < (scX s k).length) : ((scX s k).getD j []).length = k ∧ ∀ i, 0 ≤ ((scX s k).getD j []).getD i 0 ∧ ((scX s k).getD j []).getD i 0 ≤ 127 := by
  rw [scX_len] at h
  unfold scX
  by_cases h1 : j < (scW s k).length
  · rw [List.getD_eq_getElem?_getD, List.getElem?_append_left h1, ← List.getD_eq_getElem?_getD]; exact scW_row h1
  · rw [List.getD_eq_getElem?_getD, List.getElem?_append_right (by omega), show j - (scW s k).length = 0 by omega]
    exact ⟨zeK_len k, zeK_cell k⟩
theorem scX_prv {s : List UInt8} {k i : Nat} (h : i ≤ (scX s k).length) : (prv (scX s k) (zeK k) i).length = k ∧ ∀ j, 0 ≤ (prv (scX s k) (zeK k) i).getD j 0 ∧ (prv (scX s k) (zeK k) i).getD j 0 ≤ 127 := by
  unfold prv
  split
  · exact ⟨zeK_len k, zeK_cell k⟩
  · exact scX_row (by omega)
theorem scX_at {s : List UInt8} {k j : Nat} (h : j < (scW s k).length) : (scX s k).getD j [] = (scW s k).getD j [] := by
  unfold scX
  rw [List.getD_eq_getElem?_getD, List.getElem?_append_left h, ← List.getD_eq_getElem?_getD]
theorem scX_S {s : List UInt8} {k : Nat} : ∀ i, i ≤ (scW s k).length → scS (scX s k) (zeK k) k i = scS (scW s k) (zeK k) k i ∧ prv (scX s k) (zeK k) i = prv (scW s k) (zeK k) i
  | 0, _ => ⟨rfl, rfl⟩
  | i + 1, h => by
    have ih := scX_S (s := s) (k := k) i (by omega)
    refine ⟨?_, by rw [prv_next, prv_next, scX_at (by omega)]⟩
    show scS _ _ _ i + chgK _ _ _ = scS _ _ _ i + chgK _ _ _
    rw [ih.1, ih.2, scX_at (by omega)]
theorem scX_V (s : List UInt8) (k : Nat) : scS (scX s k) (zeK k) k ((scW s k).length + 1) = scV s k := by
  have h := scX_S (s := s) (k := k) (scW s k).length (Nat.le_refl _)
  show scS _ _ _ _ + chgK _ _ _ = _
  rw [h.1, h.2]
  have e : (scX s k).getD (scW s k).length [] = zeK k := by
    unfold scX
    rw [List.getD_eq_getElem?_getD, List.getElem?_append_right (Nat.le_refl _), Nat.sub_self]; rfl
  rw [e]; rfl
theorem scX_cells (s : List UInt8) (k n : Nat) (hn : n = k) : qR (scW s k) ++ [PV.sl n (zeros [PV.int .i64 0] n)] = qR (scX s k) := by
  subst hn
  unfold scX
  rw [zeK_map, ← qR_snoc, zeK_len]

set_option maxRecDepth 8000 in
set_option maxHeartbeats 2000000 in
theorem impl_ScrollChanges (s : List UInt8) (k : Int) (hs : s.length ≤ 4611686018427387904) : PCalls Tryd.prog 45 [.str s, .int .i64 k] (· = [.val (.int .i64 (if WrdP s 12 ∧ 1 ≤ k ∧ k ≤ 6 then scV s k.toNat else 0)), .val (.bool (decide (WrdP s 12 ∧ 1 ≤ k ∧ k ≤ 6)))]) := by
  refine pcalls_of_code (n := 49) az Tryd.func45 (by kernel_rfl) rfl rfl (Nat.le_of_ble_eq_true rfl) (by intro t u h; simp [Tryd.f45] at h) ?_
  refine code_seq (fun K1 hK1 => ?_)
  refine code_region ?_
  refine list_cons rfl (op_q (q_assign rfl (by decide)) ?_)
  refine list_cons rfl (op_q (q_assign rfl (by decide)) ?_)
  refine list_nil ?_
  refine hK1 _ ?_; clear hK1 K1
  refine code_seq (fun K2 hK2 => ?_)
  refine code_region ?_
  refine list_cons rfl (op_q (q_move rfl (by decide)) ?_)
  refine list_cons rfl (op_q (q_move rfl (by decide)) ?_)
  by_cases h1 : WrdP s 12 ∧ 1 ≤ k ∧ k ≤ 6
  · skip
    refine list_cons rfl (op_call _ (impl_ScrollRowsY s k (by omega) h1) rfl rfl (by decide) (by decide) (by decide) rfl ?_)
    rintro _ rfl
    refine list_cons rfl (op_q (q_move rfl (by decide)) ?_)
    refine list_cons rfl (op_q (q_extract rfl rfl (by decide)) ?_)
    refine list_cons rfl (op_q (q_extract rfl rfl (by decide)) ?_)
    refine list_cons rfl (op_q (q_assign rfl (by decide)) ?_)
    refine list_cons rfl (op_q (q_assign rfl (by decide)) ?_)
    refine list_nil ?_
    refine hK2 _ ?_; clear hK2 K2
    refine codeT.imp (σ' := [(0, _), (1, _), (4, _), (5, _), (6, _), (7, _)]) ?_ (imp_covers ⟨rfl, rfl, rfl, rfl, rfl, rfl, trivial⟩)
    refine code_seq (fun K3 hK3 => ?_)
    refine code_seq (fun K4 hK4 => ?_)
    refine code_region ?_
    refine list_cons rfl (op_q (q_move rfl (by decide)) ?_)
    refine list_cons rfl (op_q (by first | exact q_notd rfl (by decide) | exact q_not rfl (by decide)) ?_)
    refine list_nil ?_
    refine hK4 _ ?_; clear hK4 K4
    refine code_cond_f rfl ?_
    refine code_skip ?_
    refine hK3 _ ?_; clear hK3 K3
    refine code_seq (fun K5 hK5 => ?_)
    refine code_region ?_
    refine list_cons rfl (op_q (q_move rfl (by decide)) ?_)
    refine list_cons rfl (op_makeI sl_28 rfl rfl (by omega) (by omega) (by decide) (by decide) rfl ?_)
    refine list_cons rfl (op_q (q_assign rfl (by decide)) ?_)
    refine list_nil ?_
    refine hK5 _ ?_; clear hK5 K5
    refine code_seq (fun K6 hK6 => ?_)
    refine code_region ?_
    refine list_cons rfl (op_q (q_move rfl (by decide)) ?_)
    refine list_cons rfl (op_q (q_assign rfl (by decide)) ?_)
    refine list_cons rfl (op_q (q_assign rfl (by decide)) ?_)
    refine list_nil ?_
    refine hK6 _ ?_; clear hK6 K6
    refine code_seq (fun K7 hK7 => ?_)
    refine code_seq (fun K8 hK8 => ?_)
    refine code_region ?_
    refine list_cons rfl (op_q (q_move rfl (by decide)) ?_)
    refine list_cons rfl (op_q (q_move rfl (by decide)) ?_)
    refine list_cons rfl (op_buildSlice_ownB sl_42 rfl (by decide) (by decide) (by decide) rfl ?_)
    refine list_cons rfl (op_append_genB sl_42 (l := 18) (.inl rfl) rfl rfl (l2 := some 28) (.inr ⟨_, _, _, rfl, by decide, rfl⟩) (by first | rfl | (simp; done) | (simp; omega)) (by have := scW_len s k.toNat; have := (show WrdP s 12 ∧ 1 ≤ k ∧ k ≤ 6 by assumption).1.1; omega) (by decide) (by decide) (by decide) ?_)
    refine list_cons rfl (op_q (q_len_sl Tryd.underlying42 rfl rfl (by decide)) ?_)
    refine list_cons rfl (op_q (q_move rfl (by decide)) ?_)
    refine list_nil ?_
    refine hK8 _ ?_; clear hK8 K8
    refine codeT.imp (σ' := [(0, _), (1, _), (4, _), (5, _), (6, _), (7, _), (8, _), (9, _), (10, _), (29, _), (30, _), (31, _)]) ?_ (imp_covers ⟨rfl, rfl, rfl, rfl, rfl, rfl, rfl, rfl, rfl, rfl, rfl, rfl, trivial⟩)
    refine code_block ?_
    refine code_loop (X := Int × Bool × Bool × Int × PV × Nat × List PV × Int × Int) (fun x => [(0, .val (.str s)), (1, .val (.int .i64 k)), (4, .val (.int .i64 x.1)), (5, .val (.bool x.2.1)), (7, .val (.bool x.2.2.1)), (9, .val (.int .i64 x.2.2.2.1)), (10, .bor 18 x.2.2.2.2.1), (29, .own 18 28 1 x.2.2.2.2.2.1 x.2.2.2.2.2.2.1), (30, .val (.int .i64 x.2.2.2.2.2.2.2.1)), (31, .val (.int .i64 x.2.2.2.2.2.2.2.2))]) (fun x => (WrdP s 12 ∧ 1 ≤ k ∧ k ≤ 6) ∧ 0 ≤ x.2.2.2.2.2.2.2.2 ∧ x.2.2.2.2.2.2.2.2 ≤ (scX s k.toNat).length ∧ x.2.2.2.2.2.2.2.1 = (scX s k.toNat).length ∧ x.2.2.2.2.2.1 = (scX s k.toNat).length ∧ x.2.2.2.2.2.2.1 = qR (scX s k.toNat) ∧ x.2.2.2.1 = scS (scX s k.toNat) (zeK k.toNat) k.toNat x.2.2.2.2.2.2.2.2.toNat ∧ x.2.2.2.2.1 = .sl k.toNat ((prv (scX s k.toNat) (zeK k.toNat) x.2.2.2.2.2.2.2.2.toNat).map (.int .i64))) (fun x => ((scX s k.toNat).length - x.2.2.2.2.2.2.2.2).toNat) (_, _, _, _, _, _, _, _, _) (imp_covers ⟨rfl, rfl, rfl, rfl, rfl, rfl, rfl, rfl, rfl, rfl, trivial⟩) ?_ ?_
    · (try dsimp only)
      exact ⟨by assumption, by omega, by omega, by rw [scX_len], by rw [scX_len], scX_cells s _ _ rfl, rfl, by rw [zeK_map]; rfl⟩
    · intro x hI
      obtain ⟨t4, t5, ok, total, before_p, t29_n, t29_c, t30, t31⟩ := x
      replace hI : (WrdP s 12 ∧ 1 ≤ k ∧ k ≤ 6) ∧ 0 ≤ t31 ∧ t31 ≤ (scX s k.toNat).length ∧ t30 = (scX s k.toNat).length ∧ t29_n = (scX s k.toNat).length ∧ t29_c = qR (scX s k.toNat) ∧ total = scS (scX s k.toNat) (zeK k.toNat) k.toNat t31.toNat ∧ before_p = .sl k.toNat ((prv (scX s k.toNat) (zeK k.toNat) t31.toNat).map (.int .i64)) := hI
      show codeT _ _ _ [(0, .val (.str s)), (1, .val (.int .i64 k)), (4, .val (.int .i64 t4)), (5, .val (.bool t5)), (7, .val (.bool ok)), (9, .val (.int .i64 total)), (10, .bor 18 before_p), (29, .own 18 28 1 t29_n t29_c), (30, .val (.int .i64 t30)), (31, .val (.int .i64 t31))] _
      obtain ⟨hW, i1, i2, rfl, rfl, rfl, rfl, rfl⟩ := hI
      have hk6 := hW.2
      have hl12 := hW.1.1
      have hp1 := scX_prv (s := s) (k := k.toNat) (i := t31.toNat) (by omega)
      have hsl := scS_le (scX s k.toNat) (zeK k.toNat) k.toNat t31.toNat
      have hsw := scW_len s k.toNat
      have hxl := scX_len s k.toNat
      have hsb : scS (scX s k.toNat) (zeK k.toNat) k.toNat t31.toNat ≤ 1000000 := by
            refine Int.le_trans hsl.2 ?_
            have h1 : 7 * ((k.toNat : Nat) : Int) * ((t31.toNat : Nat) : Int) ≤ 7 * 6 * 19 := Int.mul_le_mul (by omega) (by omega) (by omega) (by omega)
            omega
      have hc1 := chgK_le (prv (scX s k.toNat) (zeK k.toNat) t31.toNat) ((scX s k.toNat).getD t31.toNat []) k.toNat
      refine code_seq (fun K9 hK9 => ?_)
      refine code_region ?_
      refine list_cons rfl (op_q (q_lt rfl rfl (by decide)) ?_)
      refine list_nil ?_
      refine hK9 _ ?_; clear hK9 K9
      refine code_seq (fun K10 hK10 => ?_)
      refine code_cond_d rfl (fun h2 => ?_) (fun h2 => ?_)
      · skip
        (try simp only [Decidable.not_not] at h2)
        refine code_skip ?_
        refine hK10 _ ?_; clear hK10 K10
        refine code_seq (fun K11 hK11 => ?_)
        refine code_block ?_
        refine code_seq (fun K12 hK12 => ?_)
        refine code_region ?_
        refine list_cons rfl (op_q (q_indexAddr_own sl_42 rfl rfl (by omega) (by omega) (by decide)) ?_)
        refine list_cons rfl (op_q (q_load one_28 29 rfl rfl rfl (by first | rfl | exact get_map1 _ [] _ (by first | omega | (simp; omega))) (by decide)) ?_)
        refine list_cons rfl (op_q (q_assign rfl (by decide)) ?_)
        refine list_nil ?_
        refine hK12 _ ?_; clear hK12 K12
        refine code_seq (fun K13 hK13 => ?_)
        refine code_region ?_
        refine list_cons rfl (op_q (q_move rfl (by decide)) ?_)
        refine list_cons rfl (op_q (q_move rfl (by decide)) ?_)
        refine list_cons rfl (op_call _ (rowChR (prv (scX s k.toNat) (zeK k.toNat) t31.toNat) ((scX s k.toNat).getD t31.toNat []) k.toNat _ _ _ _ hp1.1.symm rfl rfl rfl hp1 (scX_row (by omega)) (by omega)) rfl rfl (by decide) (by decide) (by decide) rfl ?_)
        rintro _ rfl
        refine list_cons rfl (op_q (q_move rfl (by decide)) ?_)
        refine list_cons rfl (op_q (q_extract rfl rfl (by decide)) ?_)
        refine list_cons rfl (op_q (q_extract rfl rfl (by decide)) ?_)
        refine list_cons rfl (op_q (q_assign rfl (by decide)) ?_)
        refine list_cons rfl (op_q (q_assign rfl (by decide)) ?_)
        refine list_nil ?_
        refine hK13 _ ?_; clear hK13 K13
        refine codeT.imp (σ' := [(0, _), (1, _), (4, _), (5, _), (7, _), (9, _), (10, _), (12, _), (13, _), (14, _), (29, _), (30, _), (31, _)]) ?_ (imp_covers ⟨rfl, rfl, rfl, rfl, rfl, rfl, rfl, rfl, rfl, rfl, rfl, rfl, rfl, trivial⟩)
        refine code_seq (fun K14 hK14 => ?_)
        refine code_seq (fun K15 hK15 => ?_)
        refine code_region ?_
        refine list_cons rfl (op_q (q_move rfl (by decide)) ?_)
        refine list_cons rfl (op_q (by first | exact q_notd rfl (by decide) | exact q_not rfl (by decide)) ?_)
        refine list_nil ?_
        refine hK15 _ ?_; clear hK15 K15
        refine code_cond_f rfl ?_
        refine code_skip ?_
        refine hK14 _ ?_; clear hK14 K14
        refine code_seq (fun K16 hK16 => ?_)
        refine code_region ?_
        refine list_cons rfl (op_q (q_move rfl (by decide)) ?_)
        refine list_cons rfl (op_q (q_move rfl (by decide)) ?_)
        refine list_cons rfl (op_q (by first | exact q_addI rfl rfl (by decide) (by omega) (by omega) | exact q_ib rfl rfl rfl (by decide)) ?_)
        refine list_cons rfl (op_q (q_assign rfl (by decide)) ?_)
        refine list_nil ?_
        refine hK16 _ ?_; clear hK16 K16
        refine code_region ?_
        refine list_cons rfl (op_q (q_move rfl (by decide)) ?_)
        refine list_cons rfl (op_q (q_assign rfl (by decide)) ?_)
        refine list_nil ?_
        refine blk_n ?_
        refine hK11 _ ?_; clear hK11 K11
        refine code_region ?_
        refine list_cons rfl (op_q (by first | exact q_addI rfl rfl (by decide) (by omega) (by omega) | exact q_ib rfl rfl rfl (by decide)) ?_)
        refine list_cons rfl (op_q (q_move rfl (by decide)) ?_)
        refine list_nil ?_
        refine then_n ⟨(_, _, _, _, _, _, _, _, _), imp_covers ⟨rfl, rfl, rfl, rfl, rfl, rfl, rfl, rfl, rfl, rfl, trivial⟩, ?_, ?_⟩
        · (try dsimp only)
          refine ⟨hW, by omega, by omega, rfl, rfl, rfl, ?_, ?_⟩
          · rw [show (t31 + 1).toNat = t31.toNat + 1 by omega]; rfl
          · rw [show (t31 + 1).toNat = t31.toNat + 1 by omega, prv_next, (scX_row (by omega)).1]
        · (try dsimp only); omega
      (try simp only [Decidable.not_not] at h2)
      refine code_exit ?_
      refine then_x ?_; clear hK10 K10
      refine then_x ?_
      refine blk_hit ?_
      refine hK7 _ ?_; clear hK7 K7
      refine code_seq (fun K17 hK17 => ?_)
      refine code_region ?_
      refine list_cons rfl (op_q (q_move rfl (by decide)) ?_)
      refine list_cons rfl (op_q (q_assign rfl (by decide)) ?_)
      refine list_cons rfl (op_q (q_assign rfl (by decide)) ?_)
      refine list_nil ?_
      refine hK17 _ ?_; clear hK17 K17
      refine code_ret ?_
      refine ends_ret (cs := []) rfl rfl rfl rfl trivial ?_
      first
        | (have e : ¬ (WrdP s 12 ∧ 1 ≤ k ∧ k ≤ 6) := by assumption
           simp only [if_neg e, decide_eq_false e]; done)
        | (rw [show t31.toNat = (scW s k.toNat).length + 1 by omega, scX_V]
           simp only [if_pos hW, decide_eq_true hW]; done)
  · skip
    refine list_cons rfl (op_call _ (impl_ScrollRowsN s k (by omega) h1) rfl rfl (by decide) (by decide) (by decide) rfl ?_)
    rintro _ rfl
    refine list_cons rfl (op_q (q_move rfl (by decide)) ?_)
    refine list_cons rfl (op_q (q_extract rfl rfl (by decide)) ?_)
    refine list_cons rfl (op_q (q_extract rfl rfl (by decide)) ?_)
    refine list_cons rfl (op_q (q_assign rfl (by decide)) ?_)
    refine list_cons rfl (op_q (q_assign rfl (by decide)) ?_)
    refine list_nil ?_
    refine hK2 _ ?_; clear hK2 K2
    refine codeT.imp (σ' := [(0, _), (1, _), (4, _), (5, _), (6, _), (7, _)]) ?_ (imp_covers ⟨rfl, rfl, rfl, rfl, rfl, rfl, trivial⟩)
    refine code_seq (fun K18 hK18 => ?_)
    refine code_seq (fun K19 hK19 => ?_)
    refine code_region ?_
    refine list_cons rfl (op_q (q_move rfl (by decide)) ?_)
    refine list_cons rfl (op_q (by first | exact q_notd rfl (by decide) | exact q_not rfl (by decide)) ?_)
    refine list_nil ?_
    refine hK19 _ ?_; clear hK19 K19
    refine code_cond_t rfl ?_
    refine code_seq (fun K20 hK20 => ?_)
    refine code_region ?_
    refine list_cons rfl (op_q (q_assign rfl (by decide)) ?_)
    refine list_cons rfl (op_q (q_assign rfl (by decide)) ?_)
    refine list_nil ?_
    refine hK20 _ ?_; clear hK20 K20
    refine code_ret ?_
    refine then_r ?_; clear hK18 K18
    refine ends_ret (cs := []) rfl rfl rfl rfl trivial ?_
    first
      | (have e : ¬ (WrdP s 12 ∧ 1 ≤ k ∧ k ≤ 6) := by assumption
         simp only [if_neg e, decide_eq_false e]; done)
      | (rw [show t31.toNat = (scW s k.toNat).length + 1 by omega, scX_V]
         simp only [if_pos hW, decide_eq_true hW]; done)

end Go.Proofs.YtgpgjaebhfhjoaaDoor
