/- The tables of this translation for the interpreter, each fact closed by the kernel. No conditions. -/
import Derived.Test.YtgpgjaebhfhjoaaDoorRows
import Derived.Test.YtgpgjaebhfhjoaaDoorPwQ
namespace Go.Proofs.YtgpgjaebhfhjoaaDoor.Tf
open Go.RowKit
set_option maxRecDepth 20000

theorem zv_2 : ZvTy Tryd.prog 2 (.int .i64 0) := zvTy_of (z := .int .i64 0) (by kernel_rfl) rfl
theorem one_2 : OneTy Tryd.prog 2 := oneTy_of Tryd.underlying2 rfl (by kernel_rfl)
theorem zt_2 : ZeroTy Tryd.prog 2 [.int .i64 0] := zeroTy_of (z := .int .i64 0) (by kernel_rfl) rfl
theorem zv_3 : ZvTy Tryd.prog 3 (.int .i64 0) := zvTy_of (z := .int .i64 0) (by kernel_rfl) rfl
theorem one_3 : OneTy Tryd.prog 3 := oneTy_of Tryd.underlying3 rfl (by kernel_rfl)
theorem zt_3 : ZeroTy Tryd.prog 3 [.int .i64 0] := zeroTy_of (z := .int .i64 0) (by kernel_rfl) rfl
theorem zv_4 : ZvTy Tryd.prog 4 (.bool false) := zvTy_of (z := .bool false) (by kernel_rfl) rfl
theorem one_4 : OneTy Tryd.prog 4 := oneTy_of Tryd.underlying4 rfl (by kernel_rfl)
theorem zt_4 : ZeroTy Tryd.prog 4 [.bool false] := zeroTy_of (z := .bool false) (by kernel_rfl) rfl
theorem zv_5 : ZvTy Tryd.prog 5 (.int .u8 0) := zvTy_of (z := .int .u8 0) (by kernel_rfl) rfl
theorem one_5 : OneTy Tryd.prog 5 := oneTy_of Tryd.underlying5 rfl (by kernel_rfl)
theorem zt_5 : ZeroTy Tryd.prog 5 [.int .u8 0] := zeroTy_of (z := .int .u8 0) (by kernel_rfl) rfl
theorem zv_6 : ZvTy Tryd.prog 6 (.int .u8 0) := zvTy_of (z := .int .u8 0) (by kernel_rfl) rfl
theorem one_6 : OneTy Tryd.prog 6 := oneTy_of Tryd.underlying6 rfl (by kernel_rfl)
theorem zt_6 : ZeroTy Tryd.prog 6 [.int .u8 0] := zeroTy_of (z := .int .u8 0) (by kernel_rfl) rfl
theorem zv_7 : ZvTy Tryd.prog 7 (.agg [.int .i64 0, .int .i64 0, .bool false, .int .u8 0]) := zvTy_of (z := .agg #[.int .i64 0, .int .i64 0, .bool false, .int .u8 0]) (by kernel_rfl) rfl
theorem agg_7 : AggTy Tryd.prog 7 4 := aggTy_of Tryd.underlying7 rfl (by kernel_rfl)
theorem fi_7_0 : FiTy Tryd.prog 7 0 0 := fiTy_of (k := 1) Tryd.underlying7 rfl rfl (by kernel_rfl) (by decide)
theorem fi_7_1 : FiTy Tryd.prog 7 1 1 := fiTy_of (k := 1) Tryd.underlying7 rfl rfl (by kernel_rfl) (by decide)
theorem fi_7_2 : FiTy Tryd.prog 7 2 2 := fiTy_of (k := 1) Tryd.underlying7 rfl rfl (by kernel_rfl) (by decide)
theorem fi_7_3 : FiTy Tryd.prog 7 3 3 := fiTy_of (k := 1) Tryd.underlying7 rfl rfl (by kernel_rfl) (by decide)
theorem zt_7 : ZeroTy Tryd.prog 7 [.int .i64 0, .int .i64 0, .bool false, .int .u8 0] := zeroTy_of (z := .agg #[.int .i64 0, .int .i64 0, .bool false, .int .u8 0]) (by kernel_rfl) rfl
theorem bt_7 : BuildTy Tryd.prog 7 (fun i => match i with | 0 => some (0, 1) | 1 => some (1, 1) | 2 => some (2, 1) | 3 => some (3, 1) | _ => none) [.int .i64 0, .int .i64 0, .bool false, .int .u8 0] := ⟨.agg #[.int .i64 0, .int .i64 0, .bool false, .int .u8 0], rfl, fun parts => by
  have h : Tryd.prog.built 7 parts = Instr.fill (#[(0, 1), (1, 1), (2, 1), (3, 1)][·]?) ((.agg #[.int .i64 0, .int .i64 0, .bool false, .int .u8 0] : Value)).cells parts := by kernel_rfl
  have hp : (fun i => (#[(0, 1), (1, 1), (2, 1), (3, 1)] : Array (Nat × Nat))[i]?) = (fun i => match i with | 0 => some (0, 1) | 1 => some (1, 1) | 2 => some (2, 1) | 3 => some (3, 1) | _ => none) := by
    funext i
    rcases i with _ | _ | _ | _ | _ <;> rfl
  rw [h, hp]⟩
theorem zv_8 : ZvTy Tryd.prog 8 (.agg [.int .i64 0, .int .i64 0, .bool false, .int .u8 0]) := zvTy_of (z := .agg #[.int .i64 0, .int .i64 0, .bool false, .int .u8 0]) (by kernel_rfl) rfl
theorem agg_8 : AggTy Tryd.prog 8 4 := aggTy_of Tryd.underlying8 rfl (by kernel_rfl)
theorem fi_8_0 : FiTy Tryd.prog 8 0 0 := fiTy_of (k := 1) Tryd.underlying8 rfl rfl (by kernel_rfl) (by decide)
theorem fi_8_1 : FiTy Tryd.prog 8 1 1 := fiTy_of (k := 1) Tryd.underlying8 rfl rfl (by kernel_rfl) (by decide)
theorem fi_8_2 : FiTy Tryd.prog 8 2 2 := fiTy_of (k := 1) Tryd.underlying8 rfl rfl (by kernel_rfl) (by decide)
theorem fi_8_3 : FiTy Tryd.prog 8 3 3 := fiTy_of (k := 1) Tryd.underlying8 rfl rfl (by kernel_rfl) (by decide)
theorem zt_8 : ZeroTy Tryd.prog 8 [.int .i64 0, .int .i64 0, .bool false, .int .u8 0] := zeroTy_of (z := .agg #[.int .i64 0, .int .i64 0, .bool false, .int .u8 0]) (by kernel_rfl) rfl
theorem bt_8 : BuildTy Tryd.prog 8 (fun i => match i with | 0 => some (0, 1) | 1 => some (1, 1) | 2 => some (2, 1) | 3 => some (3, 1) | _ => none) [.int .i64 0, .int .i64 0, .bool false, .int .u8 0] := ⟨.agg #[.int .i64 0, .int .i64 0, .bool false, .int .u8 0], rfl, fun parts => by
  have h : Tryd.prog.built 8 parts = Instr.fill (#[(0, 1), (1, 1), (2, 1), (3, 1)][·]?) ((.agg #[.int .i64 0, .int .i64 0, .bool false, .int .u8 0] : Value)).cells parts := by kernel_rfl
  have hp : (fun i => (#[(0, 1), (1, 1), (2, 1), (3, 1)] : Array (Nat × Nat))[i]?) = (fun i => match i with | 0 => some (0, 1) | 1 => some (1, 1) | 2 => some (2, 1) | 3 => some (3, 1) | _ => none) := by
    funext i
    rcases i with _ | _ | _ | _ | _ <;> rfl
  rw [h, hp]⟩
theorem zv_9 : ZvTy Tryd.prog 9 (.str []) := zvTy_of (z := .string ByteArray.empty) (by kernel_rfl) rfl
theorem one_9 : OneTy Tryd.prog 9 := oneTy_of Tryd.underlying9 rfl (by kernel_rfl)
theorem zt_9 : ZeroTy Tryd.prog 9 [.str []] := zeroTy_of (z := .string ByteArray.empty) (by kernel_rfl) rfl
theorem zv_10 : ZvTy Tryd.prog 10 (.str []) := zvTy_of (z := .string ByteArray.empty) (by kernel_rfl) rfl
theorem one_10 : OneTy Tryd.prog 10 := oneTy_of Tryd.underlying10 rfl (by kernel_rfl)
theorem zt_10 : ZeroTy Tryd.prog 10 [.str []] := zeroTy_of (z := .string ByteArray.empty) (by kernel_rfl) rfl
theorem zv_11 : ZvTy Tryd.prog 11 (.str []) := zvTy_of (z := .string ByteArray.empty) (by kernel_rfl) rfl
theorem one_11 : OneTy Tryd.prog 11 := oneTy_of Tryd.underlying11 rfl (by kernel_rfl)
theorem zt_11 : ZeroTy Tryd.prog 11 [.str []] := zeroTy_of (z := .string ByteArray.empty) (by kernel_rfl) rfl
theorem zv_12 : ZvTy Tryd.prog 12 (.int .u64 0) := zvTy_of (z := .int .u64 0) (by kernel_rfl) rfl
theorem one_12 : OneTy Tryd.prog 12 := oneTy_of Tryd.underlying12 rfl (by kernel_rfl)
theorem zt_12 : ZeroTy Tryd.prog 12 [.int .u64 0] := zeroTy_of (z := .int .u64 0) (by kernel_rfl) rfl
theorem zv_13 : ZvTy Tryd.prog 13 (.agg [.str [], .int .u64 0]) := zvTy_of (z := .agg #[.string ByteArray.empty, .int .u64 0]) (by kernel_rfl) rfl
theorem agg_13 : AggTy Tryd.prog 13 2 := aggTy_of Tryd.underlying13 rfl (by kernel_rfl)
theorem fi_13_0 : FiTy Tryd.prog 13 0 0 := fiTy_of (k := 1) Tryd.underlying13 rfl rfl (by kernel_rfl) (by decide)
theorem fi_13_1 : FiTy Tryd.prog 13 1 1 := fiTy_of (k := 1) Tryd.underlying13 rfl rfl (by kernel_rfl) (by decide)
theorem zt_13 : ZeroTy Tryd.prog 13 [.str [], .int .u64 0] := zeroTy_of (z := .agg #[.string ByteArray.empty, .int .u64 0]) (by kernel_rfl) rfl
theorem bt_13 : BuildTy Tryd.prog 13 (fun i => match i with | 0 => some (0, 1) | 1 => some (1, 1) | _ => none) [.str [], .int .u64 0] := ⟨.agg #[.string ByteArray.empty, .int .u64 0], rfl, fun parts => by
  have h : Tryd.prog.built 13 parts = Instr.fill (#[(0, 1), (1, 1)][·]?) ((.agg #[.string ByteArray.empty, .int .u64 0] : Value)).cells parts := by kernel_rfl
  have hp : (fun i => (#[(0, 1), (1, 1)] : Array (Nat × Nat))[i]?) = (fun i => match i with | 0 => some (0, 1) | 1 => some (1, 1) | _ => none) := by
    funext i
    rcases i with _ | _ | _ <;> rfl
  rw [h, hp]⟩
theorem zv_14 : ZvTy Tryd.prog 14 (.agg [.str [], .int .u64 0]) := zvTy_of (z := .agg #[.string ByteArray.empty, .int .u64 0]) (by kernel_rfl) rfl
theorem agg_14 : AggTy Tryd.prog 14 2 := aggTy_of Tryd.underlying14 rfl (by kernel_rfl)
theorem fi_14_0 : FiTy Tryd.prog 14 0 0 := fiTy_of (k := 1) Tryd.underlying14 rfl rfl (by kernel_rfl) (by decide)
theorem fi_14_1 : FiTy Tryd.prog 14 1 1 := fiTy_of (k := 1) Tryd.underlying14 rfl rfl (by kernel_rfl) (by decide)
theorem zt_14 : ZeroTy Tryd.prog 14 [.str [], .int .u64 0] := zeroTy_of (z := .agg #[.string ByteArray.empty, .int .u64 0]) (by kernel_rfl) rfl
theorem bt_14 : BuildTy Tryd.prog 14 (fun i => match i with | 0 => some (0, 1) | 1 => some (1, 1) | _ => none) [.str [], .int .u64 0] := ⟨.agg #[.string ByteArray.empty, .int .u64 0], rfl, fun parts => by
  have h : Tryd.prog.built 14 parts = Instr.fill (#[(0, 1), (1, 1)][·]?) ((.agg #[.string ByteArray.empty, .int .u64 0] : Value)).cells parts := by kernel_rfl
  have hp : (fun i => (#[(0, 1), (1, 1)] : Array (Nat × Nat))[i]?) = (fun i => match i with | 0 => some (0, 1) | 1 => some (1, 1) | _ => none) := by
    funext i
    rcases i with _ | _ | _ <;> rfl
  rw [h, hp]⟩
theorem zv_21 : ZvTy Tryd.prog 21 (.int .i32 0) := zvTy_of (z := .int .i32 0) (by kernel_rfl) rfl
theorem one_21 : OneTy Tryd.prog 21 := oneTy_of Tryd.underlying21 rfl (by kernel_rfl)
theorem zt_21 : ZeroTy Tryd.prog 21 [.int .i32 0] := zeroTy_of (z := .int .i32 0) (by kernel_rfl) rfl
theorem zv_28 : ZvTy Tryd.prog 28 (.sl 0 []) := zvTy_of (z := .slice none 0 0) (by kernel_rfl) rfl
theorem sl_28 : SlTy Tryd.prog 28 3 1 8 [.int .i64 0] := slTy_of Tryd.underlying28 (z := .int .i64 0) (by kernel_rfl) rfl (by decide) (by decide) rfl
theorem one_28 : OneTy Tryd.prog 28 := oneTy_of Tryd.underlying28 rfl (by kernel_rfl)
theorem zt_28 : ZeroTy Tryd.prog 28 [.sl 0 []] := zeroTy_of (z := .slice none 0 0) (by kernel_rfl) rfl
theorem zv_42 : ZvTy Tryd.prog 42 (.sl 0 []) := zvTy_of (z := .slice none 0 0) (by kernel_rfl) rfl
theorem sl_42 : SlTy Tryd.prog 42 28 1 24 [.sl 0 []] := slTy_of Tryd.underlying42 (z := .slice none 0 0) (by kernel_rfl) rfl (by decide) (by decide) rfl
theorem one_42 : OneTy Tryd.prog 42 := oneTy_of Tryd.underlying42 rfl (by kernel_rfl)
theorem zt_42 : ZeroTy Tryd.prog 42 [.sl 0 []] := zeroTy_of (z := .slice none 0 0) (by kernel_rfl) rfl
theorem zv_55 : ZvTy Tryd.prog 55 (.sl 0 []) := zvTy_of (z := .slice none 0 0) (by kernel_rfl) rfl
theorem sl_55 : SlTy Tryd.prog 55 5 1 1 [.int .u8 0] := slTy_of Tryd.underlying55 (z := .int .u8 0) (by kernel_rfl) rfl (by decide) (by decide) rfl
theorem one_55 : OneTy Tryd.prog 55 := oneTy_of Tryd.underlying55 rfl (by kernel_rfl)
theorem zt_55 : ZeroTy Tryd.prog 55 [.sl 0 []] := zeroTy_of (z := .slice none 0 0) (by kernel_rfl) rfl
theorem zv_68 : ZvTy Tryd.prog 68 (.sl 0 []) := zvTy_of (z := .slice none 0 0) (by kernel_rfl) rfl
theorem sl_68 : SlTy Tryd.prog 68 9 1 16 [.str []] := slTy_of Tryd.underlying68 (z := .string ByteArray.empty) (by kernel_rfl) rfl (by decide) (by decide) rfl
theorem one_68 : OneTy Tryd.prog 68 := oneTy_of Tryd.underlying68 rfl (by kernel_rfl)
theorem zt_68 : ZeroTy Tryd.prog 68 [.sl 0 []] := zeroTy_of (z := .slice none 0 0) (by kernel_rfl) rfl
theorem zv_79 : ZvTy Tryd.prog 79 (.int .u64 0) := zvTy_of (z := .int .u64 0) (by kernel_rfl) rfl
theorem one_79 : OneTy Tryd.prog 79 := oneTy_of Tryd.underlying79 rfl (by kernel_rfl)
theorem zt_79 : ZeroTy Tryd.prog 79 [.int .u64 0] := zeroTy_of (z := .int .u64 0) (by kernel_rfl) rfl
theorem zv_84 : ZvTy Tryd.prog 84 (.agg [.str [], .str [], .str [], .str [], .str [], .str [], .str [], .str [], .str [], .str [], .str [], .str [], .str [], .str [], .str [], .str []]) := zvTy_of (z := .agg #[.string ByteArray.empty, .string ByteArray.empty, .string ByteArray.empty, .string ByteArray.empty, .string ByteArray.empty, .string ByteArray.empty, .string ByteArray.empty, .string ByteArray.empty, .string ByteArray.empty, .string ByteArray.empty, .string ByteArray.empty, .string ByteArray.empty, .string ByteArray.empty, .string ByteArray.empty, .string ByteArray.empty, .string ByteArray.empty]) (by kernel_rfl) rfl
theorem agg_84 : AggTy Tryd.prog 84 16 := aggTy_of Tryd.underlying84 rfl (by kernel_rfl)
theorem arr_84 : ArTy Tryd.prog 84 16 1 := arTy_of Tryd.underlying84 (by kernel_rfl)
theorem zt_84 : ZeroTy Tryd.prog 84 [.str [], .str [], .str [], .str [], .str [], .str [], .str [], .str [], .str [], .str [], .str [], .str [], .str [], .str [], .str [], .str []] := zeroTy_of (z := .agg #[.string ByteArray.empty, .string ByteArray.empty, .string ByteArray.empty, .string ByteArray.empty, .string ByteArray.empty, .string ByteArray.empty, .string ByteArray.empty, .string ByteArray.empty, .string ByteArray.empty, .string ByteArray.empty, .string ByteArray.empty, .string ByteArray.empty, .string ByteArray.empty, .string ByteArray.empty, .string ByteArray.empty, .string ByteArray.empty]) (by kernel_rfl) rfl
theorem bt_84 : BuildTy Tryd.prog 84 (fun i => some (i * 1, 1)) [.str [], .str [], .str [], .str [], .str [], .str [], .str [], .str [], .str [], .str [], .str [], .str [], .str [], .str [], .str [], .str []] := ⟨.agg #[.string ByteArray.empty, .string ByteArray.empty, .string ByteArray.empty, .string ByteArray.empty, .string ByteArray.empty, .string ByteArray.empty, .string ByteArray.empty, .string ByteArray.empty, .string ByteArray.empty, .string ByteArray.empty, .string ByteArray.empty, .string ByteArray.empty, .string ByteArray.empty, .string ByteArray.empty, .string ByteArray.empty, .string ByteArray.empty], rfl, fun parts => by kernel_rfl⟩
theorem zv_89 : ZvTy Tryd.prog 89 (.int .u32 0) := zvTy_of (z := .int .u32 0) (by kernel_rfl) rfl
theorem one_89 : OneTy Tryd.prog 89 := oneTy_of Tryd.underlying89 rfl (by kernel_rfl)
theorem zt_89 : ZeroTy Tryd.prog 89 [.int .u32 0] := zeroTy_of (z := .int .u32 0) (by kernel_rfl) rfl
theorem zv_91 : ZvTy Tryd.prog 91 (.int .u64 0) := zvTy_of (z := .int .u64 0) (by kernel_rfl) rfl
theorem one_91 : OneTy Tryd.prog 91 := oneTy_of Tryd.underlying91 rfl (by kernel_rfl)
theorem zt_91 : ZeroTy Tryd.prog 91 [.int .u64 0] := zeroTy_of (z := .int .u64 0) (by kernel_rfl) rfl
theorem zv_106 : ZvTy Tryd.prog 106 (.int .u8 0) := zvTy_of (z := .int .u8 0) (by kernel_rfl) rfl
theorem one_106 : OneTy Tryd.prog 106 := oneTy_of Tryd.underlying106 rfl (by kernel_rfl)
theorem zt_106 : ZeroTy Tryd.prog 106 [.int .u8 0] := zeroTy_of (z := .int .u8 0) (by kernel_rfl) rfl
theorem zv_107 : ZvTy Tryd.prog 107 (.int .u8 0) := zvTy_of (z := .int .u8 0) (by kernel_rfl) rfl
theorem one_107 : OneTy Tryd.prog 107 := oneTy_of Tryd.underlying107 rfl (by kernel_rfl)
theorem zt_107 : ZeroTy Tryd.prog 107 [.int .u8 0] := zeroTy_of (z := .int .u8 0) (by kernel_rfl) rfl
theorem zv_109 : ZvTy Tryd.prog 109 (.int .i32 0) := zvTy_of (z := .int .i32 0) (by kernel_rfl) rfl
theorem one_109 : OneTy Tryd.prog 109 := oneTy_of Tryd.underlying109 rfl (by kernel_rfl)
theorem zt_109 : ZeroTy Tryd.prog 109 [.int .i32 0] := zeroTy_of (z := .int .i32 0) (by kernel_rfl) rfl
theorem zv_110 : ZvTy Tryd.prog 110 (.int .i32 0) := zvTy_of (z := .int .i32 0) (by kernel_rfl) rfl
theorem one_110 : OneTy Tryd.prog 110 := oneTy_of Tryd.underlying110 rfl (by kernel_rfl)
theorem zt_110 : ZeroTy Tryd.prog 110 [.int .i32 0] := zeroTy_of (z := .int .i32 0) (by kernel_rfl) rfl

theorem flp_7 : ∃ fs, Tryd.prog.underlying 7 = some (.struct fs) ∧ ∀ (f : Nat) (off ft : Nat), ([(0, 2), (1, 3), (2, 4), (3, 6)] : List (Nat × Nat))[f]? = some (off, ft) → (∃ fd : Field, fs[f]? = some fd ∧ fd.offset = off ∧ fd.type = ft) ∧ FiTy Tryd.prog 7 f off := by
  refine ⟨_, Tryd.underlying7, fun f off ft h => ?_⟩
  rcases f with _ | _ | _ | _ | f
  · simp at h; obtain ⟨rfl, rfl⟩ := h; exact ⟨⟨_, rfl, rfl, rfl⟩, fi_7_0⟩
  · simp at h; obtain ⟨rfl, rfl⟩ := h; exact ⟨⟨_, rfl, rfl, rfl⟩, fi_7_1⟩
  · simp at h; obtain ⟨rfl, rfl⟩ := h; exact ⟨⟨_, rfl, rfl, rfl⟩, fi_7_2⟩
  · simp at h; obtain ⟨rfl, rfl⟩ := h; exact ⟨⟨_, rfl, rfl, rfl⟩, fi_7_3⟩
  · simp at h

def pl_7 : Nat → Option (Nat × Nat) := (fun i => match i with | 0 => some (0, 1) | 1 => some (1, 1) | 2 => some (2, 1) | 3 => some (3, 1) | _ => none)

theorem flp_8 : ∃ fs, Tryd.prog.underlying 8 = some (.struct fs) ∧ ∀ (f : Nat) (off ft : Nat), ([(0, 2), (1, 3), (2, 4), (3, 6)] : List (Nat × Nat))[f]? = some (off, ft) → (∃ fd : Field, fs[f]? = some fd ∧ fd.offset = off ∧ fd.type = ft) ∧ FiTy Tryd.prog 8 f off := by
  refine ⟨_, Tryd.underlying8, fun f off ft h => ?_⟩
  rcases f with _ | _ | _ | _ | f
  · simp at h; obtain ⟨rfl, rfl⟩ := h; exact ⟨⟨_, rfl, rfl, rfl⟩, fi_8_0⟩
  · simp at h; obtain ⟨rfl, rfl⟩ := h; exact ⟨⟨_, rfl, rfl, rfl⟩, fi_8_1⟩
  · simp at h; obtain ⟨rfl, rfl⟩ := h; exact ⟨⟨_, rfl, rfl, rfl⟩, fi_8_2⟩
  · simp at h; obtain ⟨rfl, rfl⟩ := h; exact ⟨⟨_, rfl, rfl, rfl⟩, fi_8_3⟩
  · simp at h

def pl_8 : Nat → Option (Nat × Nat) := (fun i => match i with | 0 => some (0, 1) | 1 => some (1, 1) | 2 => some (2, 1) | 3 => some (3, 1) | _ => none)

theorem flp_13 : ∃ fs, Tryd.prog.underlying 13 = some (.struct fs) ∧ ∀ (f : Nat) (off ft : Nat), ([(0, 9), (1, 12)] : List (Nat × Nat))[f]? = some (off, ft) → (∃ fd : Field, fs[f]? = some fd ∧ fd.offset = off ∧ fd.type = ft) ∧ FiTy Tryd.prog 13 f off := by
  refine ⟨_, Tryd.underlying13, fun f off ft h => ?_⟩
  rcases f with _ | _ | f
  · simp at h; obtain ⟨rfl, rfl⟩ := h; exact ⟨⟨_, rfl, rfl, rfl⟩, fi_13_0⟩
  · simp at h; obtain ⟨rfl, rfl⟩ := h; exact ⟨⟨_, rfl, rfl, rfl⟩, fi_13_1⟩
  · simp at h

def pl_13 : Nat → Option (Nat × Nat) := (fun i => match i with | 0 => some (0, 1) | 1 => some (1, 1) | _ => none)

theorem flp_14 : ∃ fs, Tryd.prog.underlying 14 = some (.struct fs) ∧ ∀ (f : Nat) (off ft : Nat), ([(0, 9), (1, 12)] : List (Nat × Nat))[f]? = some (off, ft) → (∃ fd : Field, fs[f]? = some fd ∧ fd.offset = off ∧ fd.type = ft) ∧ FiTy Tryd.prog 14 f off := by
  refine ⟨_, Tryd.underlying14, fun f off ft h => ?_⟩
  rcases f with _ | _ | f
  · simp at h; obtain ⟨rfl, rfl⟩ := h; exact ⟨⟨_, rfl, rfl, rfl⟩, fi_14_0⟩
  · simp at h; obtain ⟨rfl, rfl⟩ := h; exact ⟨⟨_, rfl, rfl, rfl⟩, fi_14_1⟩
  · simp at h

def pl_14 : Nat → Option (Nat × Nat) := (fun i => match i with | 0 => some (0, 1) | 1 => some (1, 1) | _ => none)

def pl_84 : Nat → Option (Nat × Nat) := (fun i => some (i * 1, 1))


def kdL : List (Nat × (TK)) := [(2, .int .i64), (3, .int .i64), (4, .bool), (5, .int .u8), (6, .int .u8), (9, .str), (10, .str), (11, .str), (12, .int .u64), (21, .int .i32), (79, .int .u64), (89, .int .u32), (91, .int .u64), (106, .int .u8), (107, .int .u8), (109, .int .i32), (110, .int .i32)]
def slL : List (Nat × (Nat × Nat × Nat × List PV)) := [(28, 3, 1, 8, [.int .i64 0]), (42, 28, 1, 24, [.sl 0 []]), (55, 5, 1, 1, [.int .u8 0]), (68, 9, 1, 16, [.str []])]
def oneL : List (Nat × (Unit)) := [(2, ()), (3, ()), (4, ()), (5, ()), (6, ()), (9, ()), (10, ()), (11, ()), (12, ()), (21, ()), (28, ()), (42, ()), (55, ()), (68, ()), (79, ()), (89, ()), (91, ()), (106, ()), (107, ()), (109, ()), (110, ())]
def aggL : List (Nat × (Nat)) := [(7, 4), (8, 4), (13, 2), (14, 2), (84, 16)]
def arrL : List (Nat × (Nat × Nat)) := [(84, 16, 1)]
def areL : List (Nat × (Nat × Nat)) := [(84, 16, 9)]
def flL : List (Nat × (List (Nat × Nat))) := [(7, [(0, 2), (1, 3), (2, 4), (3, 6)]), (8, [(0, 2), (1, 3), (2, 4), (3, 6)]), (13, [(0, 9), (1, 12)]), (14, [(0, 9), (1, 12)])]
def ztL : List (Nat × (List PV)) := [(2, [.int .i64 0]), (3, [.int .i64 0]), (4, [.bool false]), (5, [.int .u8 0]), (6, [.int .u8 0]), (7, [.int .i64 0, .int .i64 0, .bool false, .int .u8 0]), (8, [.int .i64 0, .int .i64 0, .bool false, .int .u8 0]), (9, [.str []]), (10, [.str []]), (11, [.str []]), (12, [.int .u64 0]), (13, [.str [], .int .u64 0]), (14, [.str [], .int .u64 0]), (21, [.int .i32 0]), (28, [.sl 0 []]), (42, [.sl 0 []]), (55, [.sl 0 []]), (68, [.sl 0 []]), (79, [.int .u64 0]), (84, [.str [], .str [], .str [], .str [], .str [], .str [], .str [], .str [], .str [], .str [], .str [], .str [], .str [], .str [], .str [], .str []]), (89, [.int .u32 0]), (91, [.int .u64 0]), (106, [.int .u8 0]), (107, [.int .u8 0]), (109, [.int .i32 0]), (110, [.int .i32 0])]
def btL : List (Nat × ((Nat → Option (Nat × Nat)) × List PV)) := [(7, pl_7, [.int .i64 0, .int .i64 0, .bool false, .int .u8 0]), (8, pl_8, [.int .i64 0, .int .i64 0, .bool false, .int .u8 0]), (13, pl_13, [.str [], .int .u64 0]), (14, pl_14, [.str [], .int .u64 0]), (84, pl_84, [.str [], .str [], .str [], .str [], .str [], .str [], .str [], .str [], .str [], .str [], .str [], .str [], .str [], .str [], .str [], .str []])]
def mpL : List (Nat × (Nat × Nat)) := [(51, 3, 9), (75, 21, 3)]
def zvL : List (Nat × (PV)) := [(2, .int .i64 0), (3, .int .i64 0), (4, .bool false), (5, .int .u8 0), (6, .int .u8 0), (7, .agg [.int .i64 0, .int .i64 0, .bool false, .int .u8 0]), (8, .agg [.int .i64 0, .int .i64 0, .bool false, .int .u8 0]), (9, .str []), (10, .str []), (11, .str []), (12, .int .u64 0), (13, .agg [.str [], .int .u64 0]), (14, .agg [.str [], .int .u64 0]), (21, .int .i32 0), (28, .sl 0 []), (42, .sl 0 []), (55, .sl 0 []), (68, .sl 0 []), (79, .int .u64 0), (84, .agg [.str [], .str [], .str [], .str [], .str [], .str [], .str [], .str [], .str [], .str [], .str [], .str [], .str [], .str [], .str [], .str []]), (89, .int .u32 0), (91, .int .u64 0), (106, .int .u8 0), (107, .int .u8 0), (109, .int .i32 0), (110, .int .i32 0)]
def tf : TF Tryd.prog where
  kd := kdL
  sl := slL
  one := oneL
  agg := aggL
  arr := arrL
  are := areL
  fl := flL
  zt := ztL
  bt := btL
  mp := mpL
  zv := zvL
  mix := by kernel_rfl
  kd_ok := ⟨Tryd.underlying2, Tryd.underlying3, Tryd.underlying4, Tryd.underlying5, Tryd.underlying6, Tryd.underlying9, Tryd.underlying10, Tryd.underlying11, Tryd.underlying12, Tryd.underlying21, Tryd.underlying79, Tryd.underlying89, Tryd.underlying91, Tryd.underlying106, Tryd.underlying107, Tryd.underlying109, Tryd.underlying110, trivial⟩
  sl_ok := ⟨sl_28, sl_42, sl_55, sl_68, trivial⟩
  one_ok := ⟨one_2, one_3, one_4, one_5, one_6, one_9, one_10, one_11, one_12, one_21, one_28, one_42, one_55, one_68, one_79, one_89, one_91, one_106, one_107, one_109, one_110, trivial⟩
  agg_ok := ⟨agg_7, agg_8, agg_13, agg_14, agg_84, trivial⟩
  arr_ok := ⟨arr_84, trivial⟩
  are_ok := ⟨Tryd.underlying84, trivial⟩
  fl_ok := ⟨flp_7, flp_8, flp_13, flp_14, trivial⟩
  zt_ok := ⟨zt_2, zt_3, zt_4, zt_5, zt_6, zt_7, zt_8, zt_9, zt_10, zt_11, zt_12, zt_13, zt_14, zt_21, zt_28, zt_42, zt_55, zt_68, zt_79, zt_84, zt_89, zt_91, zt_106, zt_107, zt_109, zt_110, trivial⟩
  bt_ok := ⟨bt_7, bt_8, bt_13, bt_14, bt_84, trivial⟩
  mp_ok := ⟨Tryd.underlying51, Tryd.underlying75, trivial⟩
  zv_ok := ⟨zv_2, zv_3, zv_4, zv_5, zv_6, zv_7, zv_8, zv_9, zv_10, zv_11, zv_12, zv_13, zv_14, zv_21, zv_28, zv_42, zv_55, zv_68, zv_79, zv_84, zv_89, zv_91, zv_106, zv_107, zv_109, zv_110, trivial⟩

end Go.Proofs.YtgpgjaebhfhjoaaDoor.Tf
