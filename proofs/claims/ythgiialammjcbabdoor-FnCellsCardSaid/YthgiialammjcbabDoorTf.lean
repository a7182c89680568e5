/- The tables of this translation for the interpreter, each fact closed by the kernel. No conditions. -/
import Derived.Test.YthgiialammjcbabDoorRows
import Derived.Test.YthgiialammjcbabDoorPwQ
namespace Go.Proofs.YthgiialammjcbabDoor.Tf
open Go.RowKit
set_option maxRecDepth 20000

theorem zv_2 : ZvTy Tryd.prog 2 (.int .i64 0) := zvTy_of (z := .int .i64 0) (by kernel_rfl) rfl
theorem one_2 : OneTy Tryd.prog 2 := oneTy_of Tryd.underlying2 rfl (by kernel_rfl)
theorem zt_2 : ZeroTy Tryd.prog 2 [.int .i64 0] := zeroTy_of (z := .int .i64 0) (by kernel_rfl) rfl
theorem zv_3 : ZvTy Tryd.prog 3 (.int .i64 0) := zvTy_of (z := .int .i64 0) (by kernel_rfl) rfl
theorem one_3 : OneTy Tryd.prog 3 := oneTy_of Tryd.underlying3 rfl (by kernel_rfl)
theorem zt_3 : ZeroTy Tryd.prog 3 [.int .i64 0] := zeroTy_of (z := .int .i64 0) (by kernel_rfl) rfl
theorem zv_4 : ZvTy Tryd.prog 4 (.bool false) := zvTy_of (z := .bool false) (by kernel_rfl) rfl
theorem one_4 : OneTy Tryd.prog 4 := oneTy_of Tryd.underlying4 rfl (by kernel_rfl)
theorem zt_4 : ZeroTy Tryd.prog 4 [.bool false] := zeroTy_of (z := .bool false) (by kernel_rfl) rfl
theorem zv_5 : ZvTy Tryd.prog 5 (.int .u8 0) := zvTy_of (z := .int .u8 0) (by kernel_rfl) rfl
theorem one_5 : OneTy Tryd.prog 5 := oneTy_of Tryd.underlying5 rfl (by kernel_rfl)
theorem zt_5 : ZeroTy Tryd.prog 5 [.int .u8 0] := zeroTy_of (z := .int .u8 0) (by kernel_rfl) rfl
theorem zv_6 : ZvTy Tryd.prog 6 (.int .u8 0) := zvTy_of (z := .int .u8 0) (by kernel_rfl) rfl
theorem one_6 : OneTy Tryd.prog 6 := oneTy_of Tryd.underlying6 rfl (by kernel_rfl)
theorem zt_6 : ZeroTy Tryd.prog 6 [.int .u8 0] := zeroTy_of (z := .int .u8 0) (by kernel_rfl) rfl
theorem zv_7 : ZvTy Tryd.prog 7 (.agg [.int .i64 0, .int .i64 0, .bool false, .int .u8 0]) := zvTy_of (z := .agg #[.int .i64 0, .int .i64 0, .bool false, .int .u8 0]) (by kernel_rfl) rfl
theorem agg_7 : AggTy Tryd.prog 7 4 := aggTy_of Tryd.underlying7 rfl (by kernel_rfl)
theorem fi_7_0 : FiTy Tryd.prog 7 0 0 := fiTy_of (k := 1) Tryd.underlying7 rfl rfl (by kernel_rfl) (by decide)
theorem fi_7_1 : FiTy Tryd.prog 7 1 1 := fiTy_of (k := 1) Tryd.underlying7 rfl rfl (by kernel_rfl) (by decide)
theorem fi_7_2 : FiTy Tryd.prog 7 2 2 := fiTy_of (k := 1) Tryd.underlying7 rfl rfl (by kernel_rfl) (by decide)
theorem fi_7_3 : FiTy Tryd.prog 7 3 3 := fiTy_of (k := 1) Tryd.underlying7 rfl rfl (by kernel_rfl) (by decide)
theorem zt_7 : ZeroTy Tryd.prog 7 [.int .i64 0, .int .i64 0, .bool false, .int .u8 0] := zeroTy_of (z := .agg #[.int .i64 0, .int .i64 0, .bool false, .int .u8 0]) (by kernel_rfl) rfl
theorem bt_7 : BuildTy Tryd.prog 7 (fun i => match i with | 0 => some (0, 1) | 1 => some (1, 1) | 2 => some (2, 1) | 3 => some (3, 1) | _ => none) [.int .i64 0, .int .i64 0, .bool false, .int .u8 0] := ⟨.agg #[.int .i64 0, .int .i64 0, .bool false, .int .u8 0], rfl, fun parts => by
  have h : Tryd.prog.built 7 parts = Instr.fill (#[(0, 1), (1, 1), (2, 1), (3, 1)][·]?) ((.agg #[.int .i64 0, .int .i64 0, .bool false, .int .u8 0] : Value)).cells parts := by kernel_rfl
  have hp : (fun i => (#[(0, 1), (1, 1), (2, 1), (3, 1)] : Array (Nat × Nat))[i]?) = (fun i => match i with | 0 => some (0, 1) | 1 => some (1, 1) | 2 => some (2, 1) | 3 => some (3, 1) | _ => none) := by
    funext i
    rcases i with _ | _ | _ | _ | _ <;> rfl
  rw [h, hp]⟩
theorem zv_8 : ZvTy Tryd.prog 8 (.agg [.int .i64 0, .int .i64 0, .bool false, .int .u8 0]) := zvTy_of (z := .agg #[.int .i64 0, .int .i64 0, .bool false, .int .u8 0]) (by kernel_rfl) rfl
theorem agg_8 : AggTy Tryd.prog 8 4 := aggTy_of Tryd.underlying8 rfl (by kernel_rfl)
theorem fi_8_0 : FiTy Tryd.prog 8 0 0 := fiTy_of (k := 1) Tryd.underlying8 rfl rfl (by kernel_rfl) (by decide)
theorem fi_8_1 : FiTy Tryd.prog 8 1 1 := fiTy_of (k := 1) Tryd.underlying8 rfl rfl (by kernel_rfl) (by decide)
theorem fi_8_2 : FiTy Tryd.prog 8 2 2 := fiTy_of (k := 1) Tryd.underlying8 rfl rfl (by kernel_rfl) (by decide)
theorem fi_8_3 : FiTy Tryd.prog 8 3 3 := fiTy_of (k := 1) Tryd.underlying8 rfl rfl (by kernel_rfl) (by decide)
theorem zt_8 : ZeroTy Tryd.prog 8 [.int .i64 0, .int .i64 0, .bool false, .int .u8 0] := zeroTy_of (z := .agg #[.int .i64 0, .int .i64 0, .bool false, .int .u8 0]) (by kernel_rfl) rfl
theorem bt_8 : BuildTy Tryd.prog 8 (fun i => match i with | 0 => some (0, 1) | 1 => some (1, 1) | 2 => some (2, 1) | 3 => some (3, 1) | _ => none) [.int .i64 0, .int .i64 0, .bool false, .int .u8 0] := ⟨.agg #[.int .i64 0, .int .i64 0, .bool false, .int .u8 0], rfl, fun parts => by
  have h : Tryd.prog.built 8 parts = Instr.fill (#[(0, 1), (1, 1), (2, 1), (3, 1)][·]?) ((.agg #[.int .i64 0, .int .i64 0, .bool false, .int .u8 0] : Value)).cells parts := by kernel_rfl
  have hp : (fun i => (#[(0, 1), (1, 1), (2, 1), (3, 1)] : Array (Nat × Nat))[i]?) = (fun i => match i with | 0 => some (0, 1) | 1 => some (1, 1) | 2 => some (2, 1) | 3 => some (3, 1) | _ => none) := by
    funext i
    rcases i with _ | _ | _ | _ | _ <;> rfl
  rw [h, hp]⟩
theorem zv_9 : ZvTy Tryd.prog 9 (.str []) := zvTy_of (z := .string ByteArray.empty) (by kernel_rfl) rfl
theorem one_9 : OneTy Tryd.prog 9 := oneTy_of Tryd.underlying9 rfl (by kernel_rfl)
theorem zt_9 : ZeroTy Tryd.prog 9 [.str []] := zeroTy_of (z := .string ByteArray.empty) (by kernel_rfl) rfl
theorem zv_10 : ZvTy Tryd.prog 10 (.str []) := zvTy_of (z := .string ByteArray.empty) (by kernel_rfl) rfl
theorem one_10 : OneTy Tryd.prog 10 := oneTy_of Tryd.underlying10 rfl (by kernel_rfl)
theorem zt_10 : ZeroTy Tryd.prog 10 [.str []] := zeroTy_of (z := .string ByteArray.empty) (by kernel_rfl) rfl
theorem zv_11 : ZvTy Tryd.prog 11 (.str []) := zvTy_of (z := .string ByteArray.empty) (by kernel_rfl) rfl
theorem one_11 : OneTy Tryd.prog 11 := oneTy_of Tryd.underlying11 rfl (by kernel_rfl)
theorem zt_11 : ZeroTy Tryd.prog 11 [.str []] := zeroTy_of (z := .string ByteArray.empty) (by kernel_rfl) rfl
theorem zv_12 : ZvTy Tryd.prog 12 (.int .u64 0) := zvTy_of (z := .int .u64 0) (by kernel_rfl) rfl
theorem one_12 : OneTy Tryd.prog 12 := oneTy_of Tryd.underlying12 rfl (by kernel_rfl)
theorem zt_12 : ZeroTy Tryd.prog 12 [.int .u64 0] := zeroTy_of (z := .int .u64 0) (by kernel_rfl) rfl
theorem zv_13 : ZvTy Tryd.prog 13 (.agg [.str [], .int .u64 0]) := zvTy_of (z := .agg #[.string ByteArray.empty, .int .u64 0]) (by kernel_rfl) rfl
theorem agg_13 : AggTy Tryd.prog 13 2 := aggTy_of Tryd.underlying13 rfl (by kernel_rfl)
theorem fi_13_0 : FiTy Tryd.prog 13 0 0 := fiTy_of (k := 1) Tryd.underlying13 rfl rfl (by kernel_rfl) (by decide)
theorem fi_13_1 : FiTy Tryd.prog 13 1 1 := fiTy_of (k := 1) Tryd.underlying13 rfl rfl (by kernel_rfl) (by decide)
theorem zt_13 : ZeroTy Tryd.prog 13 [.str [], .int .u64 0] := zeroTy_of (z := .agg #[.string ByteArray.empty, .int .u64 0]) (by kernel_rfl) rfl
theorem bt_13 : BuildTy Tryd.prog 13 (fun i => match i with | 0 => some (0, 1) | 1 => some (1, 1) | _ => none) [.str [], .int .u64 0] := ⟨.agg #[.string ByteArray.empty, .int .u64 0], rfl, fun parts => by
  have h : Tryd.prog.built 13 parts = Instr.fill (#[(0, 1), (1, 1)][·]?) ((.agg #[.string ByteArray.empty, .int .u64 0] : Value)).cells parts := by kernel_rfl
  have hp : (fun i => (#[(0, 1), (1, 1)] : Array (Nat × Nat))[i]?) = (fun i => match i with | 0 => some (0, 1) | 1 => some (1, 1) | _ => none) := by
    funext i
    rcases i with _ | _ | _ <;> rfl
  rw [h, hp]⟩
theorem zv_14 : ZvTy Tryd.prog 14 (.agg [.str [], .int .u64 0]) := zvTy_of (z := .agg #[.string ByteArray.empty, .int .u64 0]) (by kernel_rfl) rfl
theorem agg_14 : AggTy Tryd.prog 14 2 := aggTy_of Tryd.underlying14 rfl (by kernel_rfl)
theorem fi_14_0 : FiTy Tryd.prog 14 0 0 := fiTy_of (k := 1) Tryd.underlying14 rfl rfl (by kernel_rfl) (by decide)
theorem fi_14_1 : FiTy Tryd.prog 14 1 1 := fiTy_of (k := 1) Tryd.underlying14 rfl rfl (by kernel_rfl) (by decide)
theorem zt_14 : ZeroTy Tryd.prog 14 [.str [], .int .u64 0] := zeroTy_of (z := .agg #[.string ByteArray.empty, .int .u64 0]) (by kernel_rfl) rfl
theorem bt_14 : BuildTy Tryd.prog 14 (fun i => match i with | 0 => some (0, 1) | 1 => some (1, 1) | _ => none) [.str [], .int .u64 0] := ⟨.agg #[.string ByteArray.empty, .int .u64 0], rfl, fun parts => by
  have h : Tryd.prog.built 14 parts = Instr.fill (#[(0, 1), (1, 1)][·]?) ((.agg #[.string ByteArray.empty, .int .u64 0] : Value)).cells parts := by kernel_rfl
  have hp : (fun i => (#[(0, 1), (1, 1)] : Array (Nat × Nat))[i]?) = (fun i => match i with | 0 => some (0, 1) | 1 => some (1, 1) | _ => none) := by
    funext i
    rcases i with _ | _ | _ <;> rfl
  rw [h, hp]⟩
theorem zv_21 : ZvTy Tryd.prog 21 (.int .i32 0) := zvTy_of (z := .int .i32 0) (by kernel_rfl) rfl
theorem one_21 : OneTy Tryd.prog 21 := oneTy_of Tryd.underlying21 rfl (by kernel_rfl)
theorem zt_21 : ZeroTy Tryd.prog 21 [.int .i32 0] := zeroTy_of (z := .int .i32 0) (by kernel_rfl) rfl
theorem zv_22 : ZvTy Tryd.prog 22 (.sl 0 []) := zvTy_of (z := .slice none 0 0) (by kernel_rfl) rfl
theorem sl_22 : SlTy Tryd.prog 22 5 1 1 [.int .u8 0] := slTy_of Tryd.underlying22 (z := .int .u8 0) (by kernel_rfl) rfl (by decide) (by decide) rfl
theorem one_22 : OneTy Tryd.prog 22 := oneTy_of Tryd.underlying22 rfl (by kernel_rfl)
theorem zt_22 : ZeroTy Tryd.prog 22 [.sl 0 []] := zeroTy_of (z := .slice none 0 0) (by kernel_rfl) rfl
theorem zv_37 : ZvTy Tryd.prog 37 (.int .u64 0) := zvTy_of (z := .int .u64 0) (by kernel_rfl) rfl
theorem one_37 : OneTy Tryd.prog 37 := oneTy_of Tryd.underlying37 rfl (by kernel_rfl)
theorem zt_37 : ZeroTy Tryd.prog 37 [.int .u64 0] := zeroTy_of (z := .int .u64 0) (by kernel_rfl) rfl
theorem zv_38 : ZvTy Tryd.prog 38 (.agg [.sl 0 [], .int .i64 0, .int .u64 0]) := zvTy_of (z := .agg #[.slice none 0 0, .int .i64 0, .int .u64 0]) (by kernel_rfl) rfl
theorem agg_38 : AggTy Tryd.prog 38 3 := aggTy_of Tryd.underlying38 rfl (by kernel_rfl)
theorem fi_38_0 : FiTy Tryd.prog 38 0 0 := fiTy_of (k := 1) Tryd.underlying38 rfl rfl (by kernel_rfl) (by decide)
theorem fi_38_1 : FiTy Tryd.prog 38 1 1 := fiTy_of (k := 1) Tryd.underlying38 rfl rfl (by kernel_rfl) (by decide)
theorem fi_38_2 : FiTy Tryd.prog 38 2 2 := fiTy_of (k := 1) Tryd.underlying38 rfl rfl (by kernel_rfl) (by decide)
theorem zt_38 : ZeroTy Tryd.prog 38 [.sl 0 [], .int .i64 0, .int .u64 0] := zeroTy_of (z := .agg #[.slice none 0 0, .int .i64 0, .int .u64 0]) (by kernel_rfl) rfl
theorem bt_38 : BuildTy Tryd.prog 38 (fun i => match i with | 0 => some (0, 1) | 1 => some (1, 1) | 2 => some (2, 1) | _ => none) [.sl 0 [], .int .i64 0, .int .u64 0] := ⟨.agg #[.slice none 0 0, .int .i64 0, .int .u64 0], rfl, fun parts => by
  have h : Tryd.prog.built 38 parts = Instr.fill (#[(0, 1), (1, 1), (2, 1)][·]?) ((.agg #[.slice none 0 0, .int .i64 0, .int .u64 0] : Value)).cells parts := by kernel_rfl
  have hp : (fun i => (#[(0, 1), (1, 1), (2, 1)] : Array (Nat × Nat))[i]?) = (fun i => match i with | 0 => some (0, 1) | 1 => some (1, 1) | 2 => some (2, 1) | _ => none) := by
    funext i
    rcases i with _ | _ | _ | _ <;> rfl
  rw [h, hp]⟩
theorem zv_39 : ZvTy Tryd.prog 39 (.agg [.sl 0 [], .int .i64 0, .int .u64 0]) := zvTy_of (z := .agg #[.slice none 0 0, .int .i64 0, .int .u64 0]) (by kernel_rfl) rfl
theorem agg_39 : AggTy Tryd.prog 39 3 := aggTy_of Tryd.underlying39 rfl (by kernel_rfl)
theorem fi_39_0 : FiTy Tryd.prog 39 0 0 := fiTy_of (k := 1) Tryd.underlying39 rfl rfl (by kernel_rfl) (by decide)
theorem fi_39_1 : FiTy Tryd.prog 39 1 1 := fiTy_of (k := 1) Tryd.underlying39 rfl rfl (by kernel_rfl) (by decide)
theorem fi_39_2 : FiTy Tryd.prog 39 2 2 := fiTy_of (k := 1) Tryd.underlying39 rfl rfl (by kernel_rfl) (by decide)
theorem zt_39 : ZeroTy Tryd.prog 39 [.sl 0 [], .int .i64 0, .int .u64 0] := zeroTy_of (z := .agg #[.slice none 0 0, .int .i64 0, .int .u64 0]) (by kernel_rfl) rfl
theorem bt_39 : BuildTy Tryd.prog 39 (fun i => match i with | 0 => some (0, 1) | 1 => some (1, 1) | 2 => some (2, 1) | _ => none) [.sl 0 [], .int .i64 0, .int .u64 0] := ⟨.agg #[.slice none 0 0, .int .i64 0, .int .u64 0], rfl, fun parts => by
  have h : Tryd.prog.built 39 parts = Instr.fill (#[(0, 1), (1, 1), (2, 1)][·]?) ((.agg #[.slice none 0 0, .int .i64 0, .int .u64 0] : Value)).cells parts := by kernel_rfl
  have hp : (fun i => (#[(0, 1), (1, 1), (2, 1)] : Array (Nat × Nat))[i]?) = (fun i => match i with | 0 => some (0, 1) | 1 => some (1, 1) | 2 => some (2, 1) | _ => none) := by
    funext i
    rcases i with _ | _ | _ | _ <;> rfl
  rw [h, hp]⟩
theorem zv_41 : ZvTy Tryd.prog 41 (.agg [.str [], .str [], .str [], .str [], .str [], .str [], .str [], .str [], .str [], .str []]) := zvTy_of (z := .agg #[.string ByteArray.empty, .string ByteArray.empty, .string ByteArray.empty, .string ByteArray.empty, .string ByteArray.empty, .string ByteArray.empty, .string ByteArray.empty, .string ByteArray.empty, .string ByteArray.empty, .string ByteArray.empty]) (by kernel_rfl) rfl
theorem agg_41 : AggTy Tryd.prog 41 10 := aggTy_of Tryd.underlying41 rfl (by kernel_rfl)
theorem arr_41 : ArTy Tryd.prog 41 10 1 := arTy_of Tryd.underlying41 (by kernel_rfl)
theorem zt_41 : ZeroTy Tryd.prog 41 [.str [], .str [], .str [], .str [], .str [], .str [], .str [], .str [], .str [], .str []] := zeroTy_of (z := .agg #[.string ByteArray.empty, .string ByteArray.empty, .string ByteArray.empty, .string ByteArray.empty, .string ByteArray.empty, .string ByteArray.empty, .string ByteArray.empty, .string ByteArray.empty, .string ByteArray.empty, .string ByteArray.empty]) (by kernel_rfl) rfl
theorem bt_41 : BuildTy Tryd.prog 41 (fun i => some (i * 1, 1)) [.str [], .str [], .str [], .str [], .str [], .str [], .str [], .str [], .str [], .str []] := ⟨.agg #[.string ByteArray.empty, .string ByteArray.empty, .string ByteArray.empty, .string ByteArray.empty, .string ByteArray.empty, .string ByteArray.empty, .string ByteArray.empty, .string ByteArray.empty, .string ByteArray.empty, .string ByteArray.empty], rfl, fun parts => by kernel_rfl⟩
theorem zv_48 : ZvTy Tryd.prog 48 (.int .u64 0) := zvTy_of (z := .int .u64 0) (by kernel_rfl) rfl
theorem one_48 : OneTy Tryd.prog 48 := oneTy_of Tryd.underlying48 rfl (by kernel_rfl)
theorem zt_48 : ZeroTy Tryd.prog 48 [.int .u64 0] := zeroTy_of (z := .int .u64 0) (by kernel_rfl) rfl
theorem zv_63 : ZvTy Tryd.prog 63 (.sl 0 []) := zvTy_of (z := .slice none 0 0) (by kernel_rfl) rfl
theorem sl_63 : SlTy Tryd.prog 63 3 1 8 [.int .i64 0] := slTy_of Tryd.underlying63 (z := .int .i64 0) (by kernel_rfl) rfl (by decide) (by decide) rfl
theorem one_63 : OneTy Tryd.prog 63 := oneTy_of Tryd.underlying63 rfl (by kernel_rfl)
theorem zt_63 : ZeroTy Tryd.prog 63 [.sl 0 []] := zeroTy_of (z := .slice none 0 0) (by kernel_rfl) rfl
theorem zv_66 : ZvTy Tryd.prog 66 (.int .u32 0) := zvTy_of (z := .int .u32 0) (by kernel_rfl) rfl
theorem one_66 : OneTy Tryd.prog 66 := oneTy_of Tryd.underlying66 rfl (by kernel_rfl)
theorem zt_66 : ZeroTy Tryd.prog 66 [.int .u32 0] := zeroTy_of (z := .int .u32 0) (by kernel_rfl) rfl
theorem zv_77 : ZvTy Tryd.prog 77 (.int .i64 0) := zvTy_of (z := .int .i64 0) (by kernel_rfl) rfl
theorem one_77 : OneTy Tryd.prog 77 := oneTy_of Tryd.underlying77 rfl (by kernel_rfl)
theorem zt_77 : ZeroTy Tryd.prog 77 [.int .i64 0] := zeroTy_of (z := .int .i64 0) (by kernel_rfl) rfl
theorem zv_92 : ZvTy Tryd.prog 92 (.agg [.str []]) := zvTy_of (z := .agg #[.string ByteArray.empty]) (by kernel_rfl) rfl
theorem agg_92 : AggTy Tryd.prog 92 1 := aggTy_of Tryd.underlying92 rfl (by kernel_rfl)
theorem fi_92_0 : FiTy Tryd.prog 92 0 0 := fiTy_of (k := 1) Tryd.underlying92 rfl rfl (by kernel_rfl) (by decide)
theorem zt_92 : ZeroTy Tryd.prog 92 [.str []] := zeroTy_of (z := .agg #[.string ByteArray.empty]) (by kernel_rfl) rfl
theorem bt_92 : BuildTy Tryd.prog 92 (fun i => match i with | 0 => some (0, 1) | _ => none) [.str []] := ⟨.agg #[.string ByteArray.empty], rfl, fun parts => by
  have h : Tryd.prog.built 92 parts = Instr.fill (#[(0, 1)][·]?) ((.agg #[.string ByteArray.empty] : Value)).cells parts := by kernel_rfl
  have hp : (fun i => (#[(0, 1)] : Array (Nat × Nat))[i]?) = (fun i => match i with | 0 => some (0, 1) | _ => none) := by
    funext i
    rcases i with _ | _ <;> rfl
  rw [h, hp]⟩
theorem zv_93 : ZvTy Tryd.prog 93 (.agg [.str []]) := zvTy_of (z := .agg #[.string ByteArray.empty]) (by kernel_rfl) rfl
theorem agg_93 : AggTy Tryd.prog 93 1 := aggTy_of Tryd.underlying93 rfl (by kernel_rfl)
theorem fi_93_0 : FiTy Tryd.prog 93 0 0 := fiTy_of (k := 1) Tryd.underlying93 rfl rfl (by kernel_rfl) (by decide)
theorem zt_93 : ZeroTy Tryd.prog 93 [.str []] := zeroTy_of (z := .agg #[.string ByteArray.empty]) (by kernel_rfl) rfl
theorem bt_93 : BuildTy Tryd.prog 93 (fun i => match i with | 0 => some (0, 1) | _ => none) [.str []] := ⟨.agg #[.string ByteArray.empty], rfl, fun parts => by
  have h : Tryd.prog.built 93 parts = Instr.fill (#[(0, 1)][·]?) ((.agg #[.string ByteArray.empty] : Value)).cells parts := by kernel_rfl
  have hp : (fun i => (#[(0, 1)] : Array (Nat × Nat))[i]?) = (fun i => match i with | 0 => some (0, 1) | _ => none) := by
    funext i
    rcases i with _ | _ <;> rfl
  rw [h, hp]⟩
theorem zv_94 : ZvTy Tryd.prog 94 (.agg [.int .u8 0, .int .u8 0, .int .u8 0, .int .u8 0, .int .u8 0, .int .u8 0, .int .u8 0, .int .u8 0, .int .u8 0, .int .u8 0, .int .u8 0, .int .u8 0, .int .u8 0, .int .u8 0, .int .u8 0, .int .u8 0, .int .u8 0, .int .u8 0, .int .u8 0, .int .u8 0, .int .u8 0, .int .u8 0, .int .u8 0, .int .u8 0]) := zvTy_of (z := .agg #[.int .u8 0, .int .u8 0, .int .u8 0, .int .u8 0, .int .u8 0, .int .u8 0, .int .u8 0, .int .u8 0, .int .u8 0, .int .u8 0, .int .u8 0, .int .u8 0, .int .u8 0, .int .u8 0, .int .u8 0, .int .u8 0, .int .u8 0, .int .u8 0, .int .u8 0, .int .u8 0, .int .u8 0, .int .u8 0, .int .u8 0, .int .u8 0]) (by kernel_rfl) rfl
theorem agg_94 : AggTy Tryd.prog 94 24 := aggTy_of Tryd.underlying94 rfl (by kernel_rfl)
theorem arr_94 : ArTy Tryd.prog 94 24 1 := arTy_of Tryd.underlying94 (by kernel_rfl)
theorem zt_94 : ZeroTy Tryd.prog 94 [.int .u8 0, .int .u8 0, .int .u8 0, .int .u8 0, .int .u8 0, .int .u8 0, .int .u8 0, .int .u8 0, .int .u8 0, .int .u8 0, .int .u8 0, .int .u8 0, .int .u8 0, .int .u8 0, .int .u8 0, .int .u8 0, .int .u8 0, .int .u8 0, .int .u8 0, .int .u8 0, .int .u8 0, .int .u8 0, .int .u8 0, .int .u8 0] := zeroTy_of (z := .agg #[.int .u8 0, .int .u8 0, .int .u8 0, .int .u8 0, .int .u8 0, .int .u8 0, .int .u8 0, .int .u8 0, .int .u8 0, .int .u8 0, .int .u8 0, .int .u8 0, .int .u8 0, .int .u8 0, .int .u8 0, .int .u8 0, .int .u8 0, .int .u8 0, .int .u8 0, .int .u8 0, .int .u8 0, .int .u8 0, .int .u8 0, .int .u8 0]) (by kernel_rfl) rfl
theorem bt_94 : BuildTy Tryd.prog 94 (fun i => some (i * 1, 1)) [.int .u8 0, .int .u8 0, .int .u8 0, .int .u8 0, .int .u8 0, .int .u8 0, .int .u8 0, .int .u8 0, .int .u8 0, .int .u8 0, .int .u8 0, .int .u8 0, .int .u8 0, .int .u8 0, .int .u8 0, .int .u8 0, .int .u8 0, .int .u8 0, .int .u8 0, .int .u8 0, .int .u8 0, .int .u8 0, .int .u8 0, .int .u8 0] := ⟨.agg #[.int .u8 0, .int .u8 0, .int .u8 0, .int .u8 0, .int .u8 0, .int .u8 0, .int .u8 0, .int .u8 0, .int .u8 0, .int .u8 0, .int .u8 0, .int .u8 0, .int .u8 0, .int .u8 0, .int .u8 0, .int .u8 0, .int .u8 0, .int .u8 0, .int .u8 0, .int .u8 0, .int .u8 0, .int .u8 0, .int .u8 0, .int .u8 0], rfl, fun parts => by kernel_rfl⟩
theorem zv_99 : ZvTy Tryd.prog 99 (.agg [.int .u64 0, .int .u64 0, .int .u64 0, .int .u64 0, .int .u64 0, .int .u64 0, .int .u64 0, .int .u64 0, .int .u64 0, .int .u64 0, .int .u64 0, .int .u64 0, .int .u64 0, .int .u64 0, .int .u64 0, .int .u64 0, .int .u64 0, .int .u64 0, .int .u64 0, .int .u64 0]) := zvTy_of (z := .agg #[.int .u64 0, .int .u64 0, .int .u64 0, .int .u64 0, .int .u64 0, .int .u64 0, .int .u64 0, .int .u64 0, .int .u64 0, .int .u64 0, .int .u64 0, .int .u64 0, .int .u64 0, .int .u64 0, .int .u64 0, .int .u64 0, .int .u64 0, .int .u64 0, .int .u64 0, .int .u64 0]) (by kernel_rfl) rfl
theorem agg_99 : AggTy Tryd.prog 99 20 := aggTy_of Tryd.underlying99 rfl (by kernel_rfl)
theorem arr_99 : ArTy Tryd.prog 99 20 1 := arTy_of Tryd.underlying99 (by kernel_rfl)
theorem zt_99 : ZeroTy Tryd.prog 99 [.int .u64 0, .int .u64 0, .int .u64 0, .int .u64 0, .int .u64 0, .int .u64 0, .int .u64 0, .int .u64 0, .int .u64 0, .int .u64 0, .int .u64 0, .int .u64 0, .int .u64 0, .int .u64 0, .int .u64 0, .int .u64 0, .int .u64 0, .int .u64 0, .int .u64 0, .int .u64 0] := zeroTy_of (z := .agg #[.int .u64 0, .int .u64 0, .int .u64 0, .int .u64 0, .int .u64 0, .int .u64 0, .int .u64 0, .int .u64 0, .int .u64 0, .int .u64 0, .int .u64 0, .int .u64 0, .int .u64 0, .int .u64 0, .int .u64 0, .int .u64 0, .int .u64 0, .int .u64 0, .int .u64 0, .int .u64 0]) (by kernel_rfl) rfl
theorem bt_99 : BuildTy Tryd.prog 99 (fun i => some (i * 1, 1)) [.int .u64 0, .int .u64 0, .int .u64 0, .int .u64 0, .int .u64 0, .int .u64 0, .int .u64 0, .int .u64 0, .int .u64 0, .int .u64 0, .int .u64 0, .int .u64 0, .int .u64 0, .int .u64 0, .int .u64 0, .int .u64 0, .int .u64 0, .int .u64 0, .int .u64 0, .int .u64 0] := ⟨.agg #[.int .u64 0, .int .u64 0, .int .u64 0, .int .u64 0, .int .u64 0, .int .u64 0, .int .u64 0, .int .u64 0, .int .u64 0, .int .u64 0, .int .u64 0, .int .u64 0, .int .u64 0, .int .u64 0, .int .u64 0, .int .u64 0, .int .u64 0, .int .u64 0, .int .u64 0, .int .u64 0], rfl, fun parts => by kernel_rfl⟩
theorem zv_100 : ZvTy Tryd.prog 100 (.agg [.int .u8 0, .int .u8 0, .int .u8 0, .int .u8 0, .int .u8 0, .int .u8 0, .int .u8 0, .int .u8 0, .int .u8 0, .int .u8 0, .int .u8 0, .int .u8 0, .int .u8 0, .int .u8 0, .int .u8 0, .int .u8 0, .int .u8 0, .int .u8 0, .int .u8 0, .int .u8 0, .int .u8 0, .int .u8 0, .int .u8 0, .int .u8 0, .int .u8 0, .int .u8 0, .int .u8 0, .int .u8 0, .int .u8 0, .int .u8 0, .int .u8 0, .int .u8 0, .int .u8 0, .int .u8 0, .int .u8 0, .int .u8 0, .int .u8 0, .int .u8 0, .int .u8 0, .int .u8 0, .int .u8 0, .int .u8 0, .int .u8 0, .int .u8 0, .int .u8 0, .int .u8 0, .int .u8 0, .int .u8 0, .int .u8 0, .int .u8 0, .int .u8 0, .int .u8 0, .int .u8 0, .int .u8 0, .int .u8 0, .int .u8 0, .int .u8 0, .int .u8 0, .int .u8 0, .int .u8 0, .int .u8 0, .int .u8 0, .int .u8 0, .int .u8 0, .int .u8 0]) := zvTy_of (z := .agg #[.int .u8 0, .int .u8 0, .int .u8 0, .int .u8 0, .int .u8 0, .int .u8 0, .int .u8 0, .int .u8 0, .int .u8 0, .int .u8 0, .int .u8 0, .int .u8 0, .int .u8 0, .int .u8 0, .int .u8 0, .int .u8 0, .int .u8 0, .int .u8 0, .int .u8 0, .int .u8 0, .int .u8 0, .int .u8 0, .int .u8 0, .int .u8 0, .int .u8 0, .int .u8 0, .int .u8 0, .int .u8 0, .int .u8 0, .int .u8 0, .int .u8 0, .int .u8 0, .int .u8 0, .int .u8 0, .int .u8 0, .int .u8 0, .int .u8 0, .int .u8 0, .int .u8 0, .int .u8 0, .int .u8 0, .int .u8 0, .int .u8 0, .int .u8 0, .int .u8 0, .int .u8 0, .int .u8 0, .int .u8 0, .int .u8 0, .int .u8 0, .int .u8 0, .int .u8 0, .int .u8 0, .int .u8 0, .int .u8 0, .int .u8 0, .int .u8 0, .int .u8 0, .int .u8 0, .int .u8 0, .int .u8 0, .int .u8 0, .int .u8 0, .int .u8 0, .int .u8 0]) (by kernel_rfl) rfl
theorem agg_100 : AggTy Tryd.prog 100 65 := aggTy_of Tryd.underlying100 rfl (by kernel_rfl)
theorem arr_100 : ArTy Tryd.prog 100 65 1 := arTy_of Tryd.underlying100 (by kernel_rfl)
theorem zt_100 : ZeroTy Tryd.prog 100 [.int .u8 0, .int .u8 0, .int .u8 0, .int .u8 0, .int .u8 0, .int .u8 0, .int .u8 0, .int .u8 0, .int .u8 0, .int .u8 0, .int .u8 0, .int .u8 0, .int .u8 0, .int .u8 0, .int .u8 0, .int .u8 0, .int .u8 0, .int .u8 0, .int .u8 0, .int .u8 0, .int .u8 0, .int .u8 0, .int .u8 0, .int .u8 0, .int .u8 0, .int .u8 0, .int .u8 0, .int .u8 0, .int .u8 0, .int .u8 0, .int .u8 0, .int .u8 0, .int .u8 0, .int .u8 0, .int .u8 0, .int .u8 0, .int .u8 0, .int .u8 0, .int .u8 0, .int .u8 0, .int .u8 0, .int .u8 0, .int .u8 0, .int .u8 0, .int .u8 0, .int .u8 0, .int .u8 0, .int .u8 0, .int .u8 0, .int .u8 0, .int .u8 0, .int .u8 0, .int .u8 0, .int .u8 0, .int .u8 0, .int .u8 0, .int .u8 0, .int .u8 0, .int .u8 0, .int .u8 0, .int .u8 0, .int .u8 0, .int .u8 0, .int .u8 0, .int .u8 0] := zeroTy_of (z := .agg #[.int .u8 0, .int .u8 0, .int .u8 0, .int .u8 0, .int .u8 0, .int .u8 0, .int .u8 0, .int .u8 0, .int .u8 0, .int .u8 0, .int .u8 0, .int .u8 0, .int .u8 0, .int .u8 0, .int .u8 0, .int .u8 0, .int .u8 0, .int .u8 0, .int .u8 0, .int .u8 0, .int .u8 0, .int .u8 0, .int .u8 0, .int .u8 0, .int .u8 0, .int .u8 0, .int .u8 0, .int .u8 0, .int .u8 0, .int .u8 0, .int .u8 0, .int .u8 0, .int .u8 0, .int .u8 0, .int .u8 0, .int .u8 0, .int .u8 0, .int .u8 0, .int .u8 0, .int .u8 0, .int .u8 0, .int .u8 0, .int .u8 0, .int .u8 0, .int .u8 0, .int .u8 0, .int .u8 0, .int .u8 0, .int .u8 0, .int .u8 0, .int .u8 0, .int .u8 0, .int .u8 0, .int .u8 0, .int .u8 0, .int .u8 0, .int .u8 0, .int .u8 0, .int .u8 0, .int .u8 0, .int .u8 0, .int .u8 0, .int .u8 0, .int .u8 0, .int .u8 0]) (by kernel_rfl) rfl
theorem bt_100 : BuildTy Tryd.prog 100 (fun i => some (i * 1, 1)) [.int .u8 0, .int .u8 0, .int .u8 0, .int .u8 0, .int .u8 0, .int .u8 0, .int .u8 0, .int .u8 0, .int .u8 0, .int .u8 0, .int .u8 0, .int .u8 0, .int .u8 0, .int .u8 0, .int .u8 0, .int .u8 0, .int .u8 0, .int .u8 0, .int .u8 0, .int .u8 0, .int .u8 0, .int .u8 0, .int .u8 0, .int .u8 0, .int .u8 0, .int .u8 0, .int .u8 0, .int .u8 0, .int .u8 0, .int .u8 0, .int .u8 0, .int .u8 0, .int .u8 0, .int .u8 0, .int .u8 0, .int .u8 0, .int .u8 0, .int .u8 0, .int .u8 0, .int .u8 0, .int .u8 0, .int .u8 0, .int .u8 0, .int .u8 0, .int .u8 0, .int .u8 0, .int .u8 0, .int .u8 0, .int .u8 0, .int .u8 0, .int .u8 0, .int .u8 0, .int .u8 0, .int .u8 0, .int .u8 0, .int .u8 0, .int .u8 0, .int .u8 0, .int .u8 0, .int .u8 0, .int .u8 0, .int .u8 0, .int .u8 0, .int .u8 0, .int .u8 0] := ⟨.agg #[.int .u8 0, .int .u8 0, .int .u8 0, .int .u8 0, .int .u8 0, .int .u8 0, .int .u8 0, .int .u8 0, .int .u8 0, .int .u8 0, .int .u8 0, .int .u8 0, .int .u8 0, .int .u8 0, .int .u8 0, .int .u8 0, .int .u8 0, .int .u8 0, .int .u8 0, .int .u8 0, .int .u8 0, .int .u8 0, .int .u8 0, .int .u8 0, .int .u8 0, .int .u8 0, .int .u8 0, .int .u8 0, .int .u8 0, .int .u8 0, .int .u8 0, .int .u8 0, .int .u8 0, .int .u8 0, .int .u8 0, .int .u8 0, .int .u8 0, .int .u8 0, .int .u8 0, .int .u8 0, .int .u8 0, .int .u8 0, .int .u8 0, .int .u8 0, .int .u8 0, .int .u8 0, .int .u8 0, .int .u8 0, .int .u8 0, .int .u8 0, .int .u8 0, .int .u8 0, .int .u8 0, .int .u8 0, .int .u8 0, .int .u8 0, .int .u8 0, .int .u8 0, .int .u8 0, .int .u8 0, .int .u8 0, .int .u8 0, .int .u8 0, .int .u8 0, .int .u8 0], rfl, fun parts => by kernel_rfl⟩
theorem zv_101 : ZvTy Tryd.prog 101 (.agg [.int .u8 0, .int .u8 0, .int .u8 0, .int .u8 0, .int .u8 0, .int .u8 0, .int .u8 0, .int .u8 0, .int .u8 0, .int .u8 0, .int .u8 0, .int .u8 0, .int .u8 0, .int .u8 0, .int .u8 0, .int .u8 0, .int .u8 0, .int .u8 0, .int .u8 0, .int .u8 0, .int .u8 0, .int .u8 0, .int .u8 0, .int .u8 0, .int .u8 0, .int .u8 0, .int .u8 0, .int .u8 0, .int .u8 0, .int .u8 0, .int .u8 0, .int .u8 0]) := zvTy_of (z := .agg #[.int .u8 0, .int .u8 0, .int .u8 0, .int .u8 0, .int .u8 0, .int .u8 0, .int .u8 0, .int .u8 0, .int .u8 0, .int .u8 0, .int .u8 0, .int .u8 0, .int .u8 0, .int .u8 0, .int .u8 0, .int .u8 0, .int .u8 0, .int .u8 0, .int .u8 0, .int .u8 0, .int .u8 0, .int .u8 0, .int .u8 0, .int .u8 0, .int .u8 0, .int .u8 0, .int .u8 0, .int .u8 0, .int .u8 0, .int .u8 0, .int .u8 0, .int .u8 0]) (by kernel_rfl) rfl
theorem agg_101 : AggTy Tryd.prog 101 32 := aggTy_of Tryd.underlying101 rfl (by kernel_rfl)
theorem arr_101 : ArTy Tryd.prog 101 32 1 := arTy_of Tryd.underlying101 (by kernel_rfl)
theorem zt_101 : ZeroTy Tryd.prog 101 [.int .u8 0, .int .u8 0, .int .u8 0, .int .u8 0, .int .u8 0, .int .u8 0, .int .u8 0, .int .u8 0, .int .u8 0, .int .u8 0, .int .u8 0, .int .u8 0, .int .u8 0, .int .u8 0, .int .u8 0, .int .u8 0, .int .u8 0, .int .u8 0, .int .u8 0, .int .u8 0, .int .u8 0, .int .u8 0, .int .u8 0, .int .u8 0, .int .u8 0, .int .u8 0, .int .u8 0, .int .u8 0, .int .u8 0, .int .u8 0, .int .u8 0, .int .u8 0] := zeroTy_of (z := .agg #[.int .u8 0, .int .u8 0, .int .u8 0, .int .u8 0, .int .u8 0, .int .u8 0, .int .u8 0, .int .u8 0, .int .u8 0, .int .u8 0, .int .u8 0, .int .u8 0, .int .u8 0, .int .u8 0, .int .u8 0, .int .u8 0, .int .u8 0, .int .u8 0, .int .u8 0, .int .u8 0, .int .u8 0, .int .u8 0, .int .u8 0, .int .u8 0, .int .u8 0, .int .u8 0, .int .u8 0, .int .u8 0, .int .u8 0, .int .u8 0, .int .u8 0, .int .u8 0]) (by kernel_rfl) rfl
theorem bt_101 : BuildTy Tryd.prog 101 (fun i => some (i * 1, 1)) [.int .u8 0, .int .u8 0, .int .u8 0, .int .u8 0, .int .u8 0, .int .u8 0, .int .u8 0, .int .u8 0, .int .u8 0, .int .u8 0, .int .u8 0, .int .u8 0, .int .u8 0, .int .u8 0, .int .u8 0, .int .u8 0, .int .u8 0, .int .u8 0, .int .u8 0, .int .u8 0, .int .u8 0, .int .u8 0, .int .u8 0, .int .u8 0, .int .u8 0, .int .u8 0, .int .u8 0, .int .u8 0, .int .u8 0, .int .u8 0, .int .u8 0, .int .u8 0] := ⟨.agg #[.int .u8 0, .int .u8 0, .int .u8 0, .int .u8 0, .int .u8 0, .int .u8 0, .int .u8 0, .int .u8 0, .int .u8 0, .int .u8 0, .int .u8 0, .int .u8 0, .int .u8 0, .int .u8 0, .int .u8 0, .int .u8 0, .int .u8 0, .int .u8 0, .int .u8 0, .int .u8 0, .int .u8 0, .int .u8 0, .int .u8 0, .int .u8 0, .int .u8 0, .int .u8 0, .int .u8 0, .int .u8 0, .int .u8 0, .int .u8 0, .int .u8 0, .int .u8 0], rfl, fun parts => by kernel_rfl⟩
theorem zv_102 : ZvTy Tryd.prog 102 (.agg [.int .u8 0, .int .u8 0, .int .u8 0, .int .u8 0, .int .u8 0, .int .u8 0, .int .u8 0, .int .u8 0, .int .u8 0, .int .u8 0, .int .u8 0, .int .u8 0, .int .u8 0, .int .u8 0, .int .u8 0, .int .u8 0, .int .u8 0, .int .u8 0, .int .u8 0, .int .u8 0, .int .u8 0, .int .u8 0, .int .u8 0, .int .u8 0, .int .u8 0, .int .u8 0, .int .u8 0, .int .u8 0, .int .u8 0, .int .u8 0, .int .u8 0, .int .u8 0, .int .u8 0, .int .u8 0, .int .u8 0, .int .u8 0, .int .u8 0, .int .u8 0, .int .u8 0, .int .u8 0, .int .u8 0, .int .u8 0, .int .u8 0, .int .u8 0, .int .u8 0, .int .u8 0, .int .u8 0, .int .u8 0, .int .u8 0, .int .u8 0, .int .u8 0, .int .u8 0, .int .u8 0, .int .u8 0, .int .u8 0, .int .u8 0, .int .u8 0, .int .u8 0, .int .u8 0, .int .u8 0, .int .u8 0, .int .u8 0, .int .u8 0, .int .u8 0]) := zvTy_of (z := .agg #[.int .u8 0, .int .u8 0, .int .u8 0, .int .u8 0, .int .u8 0, .int .u8 0, .int .u8 0, .int .u8 0, .int .u8 0, .int .u8 0, .int .u8 0, .int .u8 0, .int .u8 0, .int .u8 0, .int .u8 0, .int .u8 0, .int .u8 0, .int .u8 0, .int .u8 0, .int .u8 0, .int .u8 0, .int .u8 0, .int .u8 0, .int .u8 0, .int .u8 0, .int .u8 0, .int .u8 0, .int .u8 0, .int .u8 0, .int .u8 0, .int .u8 0, .int .u8 0, .int .u8 0, .int .u8 0, .int .u8 0, .int .u8 0, .int .u8 0, .int .u8 0, .int .u8 0, .int .u8 0, .int .u8 0, .int .u8 0, .int .u8 0, .int .u8 0, .int .u8 0, .int .u8 0, .int .u8 0, .int .u8 0, .int .u8 0, .int .u8 0, .int .u8 0, .int .u8 0, .int .u8 0, .int .u8 0, .int .u8 0, .int .u8 0, .int .u8 0, .int .u8 0, .int .u8 0, .int .u8 0, .int .u8 0, .int .u8 0, .int .u8 0, .int .u8 0]) (by kernel_rfl) rfl
theorem agg_102 : AggTy Tryd.prog 102 64 := aggTy_of Tryd.underlying102 rfl (by kernel_rfl)
theorem arr_102 : ArTy Tryd.prog 102 64 1 := arTy_of Tryd.underlying102 (by kernel_rfl)
theorem zt_102 : ZeroTy Tryd.prog 102 [.int .u8 0, .int .u8 0, .int .u8 0, .int .u8 0, .int .u8 0, .int .u8 0, .int .u8 0, .int .u8 0, .int .u8 0, .int .u8 0, .int .u8 0, .int .u8 0, .int .u8 0, .int .u8 0, .int .u8 0, .int .u8 0, .int .u8 0, .int .u8 0, .int .u8 0, .int .u8 0, .int .u8 0, .int .u8 0, .int .u8 0, .int .u8 0, .int .u8 0, .int .u8 0, .int .u8 0, .int .u8 0, .int .u8 0, .int .u8 0, .int .u8 0, .int .u8 0, .int .u8 0, .int .u8 0, .int .u8 0, .int .u8 0, .int .u8 0, .int .u8 0, .int .u8 0, .int .u8 0, .int .u8 0, .int .u8 0, .int .u8 0, .int .u8 0, .int .u8 0, .int .u8 0, .int .u8 0, .int .u8 0, .int .u8 0, .int .u8 0, .int .u8 0, .int .u8 0, .int .u8 0, .int .u8 0, .int .u8 0, .int .u8 0, .int .u8 0, .int .u8 0, .int .u8 0, .int .u8 0, .int .u8 0, .int .u8 0, .int .u8 0, .int .u8 0] := zeroTy_of (z := .agg #[.int .u8 0, .int .u8 0, .int .u8 0, .int .u8 0, .int .u8 0, .int .u8 0, .int .u8 0, .int .u8 0, .int .u8 0, .int .u8 0, .int .u8 0, .int .u8 0, .int .u8 0, .int .u8 0, .int .u8 0, .int .u8 0, .int .u8 0, .int .u8 0, .int .u8 0, .int .u8 0, .int .u8 0, .int .u8 0, .int .u8 0, .int .u8 0, .int .u8 0, .int .u8 0, .int .u8 0, .int .u8 0, .int .u8 0, .int .u8 0, .int .u8 0, .int .u8 0, .int .u8 0, .int .u8 0, .int .u8 0, .int .u8 0, .int .u8 0, .int .u8 0, .int .u8 0, .int .u8 0, .int .u8 0, .int .u8 0, .int .u8 0, .int .u8 0, .int .u8 0, .int .u8 0, .int .u8 0, .int .u8 0, .int .u8 0, .int .u8 0, .int .u8 0, .int .u8 0, .int .u8 0, .int .u8 0, .int .u8 0, .int .u8 0, .int .u8 0, .int .u8 0, .int .u8 0, .int .u8 0, .int .u8 0, .int .u8 0, .int .u8 0, .int .u8 0]) (by kernel_rfl) rfl
theorem bt_102 : BuildTy Tryd.prog 102 (fun i => some (i * 1, 1)) [.int .u8 0, .int .u8 0, .int .u8 0, .int .u8 0, .int .u8 0, .int .u8 0, .int .u8 0, .int .u8 0, .int .u8 0, .int .u8 0, .int .u8 0, .int .u8 0, .int .u8 0, .int .u8 0, .int .u8 0, .int .u8 0, .int .u8 0, .int .u8 0, .int .u8 0, .int .u8 0, .int .u8 0, .int .u8 0, .int .u8 0, .int .u8 0, .int .u8 0, .int .u8 0, .int .u8 0, .int .u8 0, .int .u8 0, .int .u8 0, .int .u8 0, .int .u8 0, .int .u8 0, .int .u8 0, .int .u8 0, .int .u8 0, .int .u8 0, .int .u8 0, .int .u8 0, .int .u8 0, .int .u8 0, .int .u8 0, .int .u8 0, .int .u8 0, .int .u8 0, .int .u8 0, .int .u8 0, .int .u8 0, .int .u8 0, .int .u8 0, .int .u8 0, .int .u8 0, .int .u8 0, .int .u8 0, .int .u8 0, .int .u8 0, .int .u8 0, .int .u8 0, .int .u8 0, .int .u8 0, .int .u8 0, .int .u8 0, .int .u8 0, .int .u8 0] := ⟨.agg #[.int .u8 0, .int .u8 0, .int .u8 0, .int .u8 0, .int .u8 0, .int .u8 0, .int .u8 0, .int .u8 0, .int .u8 0, .int .u8 0, .int .u8 0, .int .u8 0, .int .u8 0, .int .u8 0, .int .u8 0, .int .u8 0, .int .u8 0, .int .u8 0, .int .u8 0, .int .u8 0, .int .u8 0, .int .u8 0, .int .u8 0, .int .u8 0, .int .u8 0, .int .u8 0, .int .u8 0, .int .u8 0, .int .u8 0, .int .u8 0, .int .u8 0, .int .u8 0, .int .u8 0, .int .u8 0, .int .u8 0, .int .u8 0, .int .u8 0, .int .u8 0, .int .u8 0, .int .u8 0, .int .u8 0, .int .u8 0, .int .u8 0, .int .u8 0, .int .u8 0, .int .u8 0, .int .u8 0, .int .u8 0, .int .u8 0, .int .u8 0, .int .u8 0, .int .u8 0, .int .u8 0, .int .u8 0, .int .u8 0, .int .u8 0, .int .u8 0, .int .u8 0, .int .u8 0, .int .u8 0, .int .u8 0, .int .u8 0, .int .u8 0, .int .u8 0], rfl, fun parts => by kernel_rfl⟩
theorem zv_108 : ZvTy Tryd.prog 108 (.int .u8 0) := zvTy_of (z := .int .u8 0) (by kernel_rfl) rfl
theorem one_108 : OneTy Tryd.prog 108 := oneTy_of Tryd.underlying108 rfl (by kernel_rfl)
theorem zt_108 : ZeroTy Tryd.prog 108 [.int .u8 0] := zeroTy_of (z := .int .u8 0) (by kernel_rfl) rfl
theorem zv_109 : ZvTy Tryd.prog 109 (.int .u8 0) := zvTy_of (z := .int .u8 0) (by kernel_rfl) rfl
theorem one_109 : OneTy Tryd.prog 109 := oneTy_of Tryd.underlying109 rfl (by kernel_rfl)
theorem zt_109 : ZeroTy Tryd.prog 109 [.int .u8 0] := zeroTy_of (z := .int .u8 0) (by kernel_rfl) rfl
theorem zv_111 : ZvTy Tryd.prog 111 (.int .i32 0) := zvTy_of (z := .int .i32 0) (by kernel_rfl) rfl
theorem one_111 : OneTy Tryd.prog 111 := oneTy_of Tryd.underlying111 rfl (by kernel_rfl)
theorem zt_111 : ZeroTy Tryd.prog 111 [.int .i32 0] := zeroTy_of (z := .int .i32 0) (by kernel_rfl) rfl
theorem zv_112 : ZvTy Tryd.prog 112 (.int .i32 0) := zvTy_of (z := .int .i32 0) (by kernel_rfl) rfl
theorem one_112 : OneTy Tryd.prog 112 := oneTy_of Tryd.underlying112 rfl (by kernel_rfl)
theorem zt_112 : ZeroTy Tryd.prog 112 [.int .i32 0] := zeroTy_of (z := .int .i32 0) (by kernel_rfl) rfl

theorem flp_7 : ∃ fs, Tryd.prog.underlying 7 = some (.struct fs) ∧ ∀ (f : Nat) (off ft : Nat), ([(0, 2), (1, 3), (2, 4), (3, 6)] : List (Nat × Nat))[f]? = some (off, ft) → (∃ fd : Field, fs[f]? = some fd ∧ fd.offset = off ∧ fd.type = ft) ∧ FiTy Tryd.prog 7 f off := by
  refine ⟨_, Tryd.underlying7, fun f off ft h => ?_⟩
  rcases f with _ | _ | _ | _ | f
  · simp at h; obtain ⟨rfl, rfl⟩ := h; exact ⟨⟨_, rfl, rfl, rfl⟩, fi_7_0⟩
  · simp at h; obtain ⟨rfl, rfl⟩ := h; exact ⟨⟨_, rfl, rfl, rfl⟩, fi_7_1⟩
  · simp at h; obtain ⟨rfl, rfl⟩ := h; exact ⟨⟨_, rfl, rfl, rfl⟩, fi_7_2⟩
  · simp at h; obtain ⟨rfl, rfl⟩ := h; exact ⟨⟨_, rfl, rfl, rfl⟩, fi_7_3⟩
  · simp at h

def pl_7 : Nat → Option (Nat × Nat) := (fun i => match i with | 0 => some (0, 1) | 1 => some (1, 1) | 2 => some (2, 1) | 3 => some (3, 1) | _ => none)

theorem flp_8 : ∃ fs, Tryd.prog.underlying 8 = some (.struct fs) ∧ ∀ (f : Nat) (off ft : Nat), ([(0, 2), (1, 3), (2, 4), (3, 6)] : List (Nat × Nat))[f]? = some (off, ft) → (∃ fd : Field, fs[f]? = some fd ∧ fd.offset = off ∧ fd.type = ft) ∧ FiTy Tryd.prog 8 f off := by
  refine ⟨_, Tryd.underlying8, fun f off ft h => ?_⟩
  rcases f with _ | _ | _ | _ | f
  · simp at h; obtain ⟨rfl, rfl⟩ := h; exact ⟨⟨_, rfl, rfl, rfl⟩, fi_8_0⟩
  · simp at h; obtain ⟨rfl, rfl⟩ := h; exact ⟨⟨_, rfl, rfl, rfl⟩, fi_8_1⟩
  · simp at h; obtain ⟨rfl, rfl⟩ := h; exact ⟨⟨_, rfl, rfl, rfl⟩, fi_8_2⟩
  · simp at h; obtain ⟨rfl, rfl⟩ := h; exact ⟨⟨_, rfl, rfl, rfl⟩, fi_8_3⟩
  · simp at h

def pl_8 : Nat → Option (Nat × Nat) := (fun i => match i with | 0 => some (0, 1) | 1 => some (1, 1) | 2 => some (2, 1) | 3 => some (3, 1) | _ => none)

theorem flp_13 : ∃ fs, Tryd.prog.underlying 13 = some (.struct fs) ∧ ∀ (f : Nat) (off ft : Nat), ([(0, 9), (1, 12)] : List (Nat × Nat))[f]? = some (off, ft) → (∃ fd : Field, fs[f]? = some fd ∧ fd.offset = off ∧ fd.type = ft) ∧ FiTy Tryd.prog 13 f off := by
  refine ⟨_, Tryd.underlying13, fun f off ft h => ?_⟩
  rcases f with _ | _ | f
  · simp at h; obtain ⟨rfl, rfl⟩ := h; exact ⟨⟨_, rfl, rfl, rfl⟩, fi_13_0⟩
  · simp at h; obtain ⟨rfl, rfl⟩ := h; exact ⟨⟨_, rfl, rfl, rfl⟩, fi_13_1⟩
  · simp at h

def pl_13 : Nat → Option (Nat × Nat) := (fun i => match i with | 0 => some (0, 1) | 1 => some (1, 1) | _ => none)

theorem flp_14 : ∃ fs, Tryd.prog.underlying 14 = some (.struct fs) ∧ ∀ (f : Nat) (off ft : Nat), ([(0, 9), (1, 12)] : List (Nat × Nat))[f]? = some (off, ft) → (∃ fd : Field, fs[f]? = some fd ∧ fd.offset = off ∧ fd.type = ft) ∧ FiTy Tryd.prog 14 f off := by
  refine ⟨_, Tryd.underlying14, fun f off ft h => ?_⟩
  rcases f with _ | _ | f
  · simp at h; obtain ⟨rfl, rfl⟩ := h; exact ⟨⟨_, rfl, rfl, rfl⟩, fi_14_0⟩
  · simp at h; obtain ⟨rfl, rfl⟩ := h; exact ⟨⟨_, rfl, rfl, rfl⟩, fi_14_1⟩
  · simp at h

def pl_14 : Nat → Option (Nat × Nat) := (fun i => match i with | 0 => some (0, 1) | 1 => some (1, 1) | _ => none)

theorem flp_38 : ∃ fs, Tryd.prog.underlying 38 = some (.struct fs) ∧ ∀ (f : Nat) (off ft : Nat), ([(0, 22), (1, 3), (2, 37)] : List (Nat × Nat))[f]? = some (off, ft) → (∃ fd : Field, fs[f]? = some fd ∧ fd.offset = off ∧ fd.type = ft) ∧ FiTy Tryd.prog 38 f off := by
  refine ⟨_, Tryd.underlying38, fun f off ft h => ?_⟩
  rcases f with _ | _ | _ | f
  · simp at h; obtain ⟨rfl, rfl⟩ := h; exact ⟨⟨_, rfl, rfl, rfl⟩, fi_38_0⟩
  · simp at h; obtain ⟨rfl, rfl⟩ := h; exact ⟨⟨_, rfl, rfl, rfl⟩, fi_38_1⟩
  · simp at h; obtain ⟨rfl, rfl⟩ := h; exact ⟨⟨_, rfl, rfl, rfl⟩, fi_38_2⟩
  · simp at h

def pl_38 : Nat → Option (Nat × Nat) := (fun i => match i with | 0 => some (0, 1) | 1 => some (1, 1) | 2 => some (2, 1) | _ => none)

theorem flp_39 : ∃ fs, Tryd.prog.underlying 39 = some (.struct fs) ∧ ∀ (f : Nat) (off ft : Nat), ([(0, 22), (1, 3), (2, 37)] : List (Nat × Nat))[f]? = some (off, ft) → (∃ fd : Field, fs[f]? = some fd ∧ fd.offset = off ∧ fd.type = ft) ∧ FiTy Tryd.prog 39 f off := by
  refine ⟨_, Tryd.underlying39, fun f off ft h => ?_⟩
  rcases f with _ | _ | _ | f
  · simp at h; obtain ⟨rfl, rfl⟩ := h; exact ⟨⟨_, rfl, rfl, rfl⟩, fi_39_0⟩
  · simp at h; obtain ⟨rfl, rfl⟩ := h; exact ⟨⟨_, rfl, rfl, rfl⟩, fi_39_1⟩
  · simp at h; obtain ⟨rfl, rfl⟩ := h; exact ⟨⟨_, rfl, rfl, rfl⟩, fi_39_2⟩
  · simp at h

def pl_39 : Nat → Option (Nat × Nat) := (fun i => match i with | 0 => some (0, 1) | 1 => some (1, 1) | 2 => some (2, 1) | _ => none)

def pl_41 : Nat → Option (Nat × Nat) := (fun i => some (i * 1, 1))

theorem flp_92 : ∃ fs, Tryd.prog.underlying 92 = some (.struct fs) ∧ ∀ (f : Nat) (off ft : Nat), ([(0, 9)] : List (Nat × Nat))[f]? = some (off, ft) → (∃ fd : Field, fs[f]? = some fd ∧ fd.offset = off ∧ fd.type = ft) ∧ FiTy Tryd.prog 92 f off := by
  refine ⟨_, Tryd.underlying92, fun f off ft h => ?_⟩
  rcases f with _ | f
  · simp at h; obtain ⟨rfl, rfl⟩ := h; exact ⟨⟨_, rfl, rfl, rfl⟩, fi_92_0⟩
  · simp at h

def pl_92 : Nat → Option (Nat × Nat) := (fun i => match i with | 0 => some (0, 1) | _ => none)

theorem flp_93 : ∃ fs, Tryd.prog.underlying 93 = some (.struct fs) ∧ ∀ (f : Nat) (off ft : Nat), ([(0, 9)] : List (Nat × Nat))[f]? = some (off, ft) → (∃ fd : Field, fs[f]? = some fd ∧ fd.offset = off ∧ fd.type = ft) ∧ FiTy Tryd.prog 93 f off := by
  refine ⟨_, Tryd.underlying93, fun f off ft h => ?_⟩
  rcases f with _ | f
  · simp at h; obtain ⟨rfl, rfl⟩ := h; exact ⟨⟨_, rfl, rfl, rfl⟩, fi_93_0⟩
  · simp at h

def pl_93 : Nat → Option (Nat × Nat) := (fun i => match i with | 0 => some (0, 1) | _ => none)

def pl_94 : Nat → Option (Nat × Nat) := (fun i => some (i * 1, 1))

def pl_99 : Nat → Option (Nat × Nat) := (fun i => some (i * 1, 1))

def pl_100 : Nat → Option (Nat × Nat) := (fun i => some (i * 1, 1))

def pl_101 : Nat → Option (Nat × Nat) := (fun i => some (i * 1, 1))

def pl_102 : Nat → Option (Nat × Nat) := (fun i => some (i * 1, 1))


def kdL : List (Nat × (TK)) := [(2, .int .i64), (3, .int .i64), (4, .bool), (5, .int .u8), (6, .int .u8), (9, .str), (10, .str), (11, .str), (12, .int .u64), (21, .int .i32), (37, .int .u64), (48, .int .u64), (66, .int .u32), (77, .int .i64), (108, .int .u8), (109, .int .u8), (111, .int .i32), (112, .int .i32)]
def slL : List (Nat × (Nat × Nat × Nat × List PV)) := [(22, 5, 1, 1, [.int .u8 0]), (63, 3, 1, 8, [.int .i64 0])]
def oneL : List (Nat × (Unit)) := [(2, ()), (3, ()), (4, ()), (5, ()), (6, ()), (9, ()), (10, ()), (11, ()), (12, ()), (21, ()), (22, ()), (37, ()), (48, ()), (63, ()), (66, ()), (77, ()), (108, ()), (109, ()), (111, ()), (112, ())]
def aggL : List (Nat × (Nat)) := [(7, 4), (8, 4), (13, 2), (14, 2), (38, 3), (39, 3), (41, 10), (92, 1), (93, 1), (94, 24), (99, 20), (100, 65), (101, 32), (102, 64)]
def arrL : List (Nat × (Nat × Nat)) := [(41, 10, 1), (94, 24, 1), (99, 20, 1), (100, 65, 1), (101, 32, 1), (102, 64, 1)]
def areL : List (Nat × (Nat × Nat)) := [(41, 10, 9), (94, 24, 5), (99, 20, 37), (100, 65, 5), (101, 32, 5), (102, 64, 5)]
def flL : List (Nat × (List (Nat × Nat))) := [(7, [(0, 2), (1, 3), (2, 4), (3, 6)]), (8, [(0, 2), (1, 3), (2, 4), (3, 6)]), (13, [(0, 9), (1, 12)]), (14, [(0, 9), (1, 12)]), (38, [(0, 22), (1, 3), (2, 37)]), (39, [(0, 22), (1, 3), (2, 37)]), (92, [(0, 9)]), (93, [(0, 9)])]
def ztL : List (Nat × (List PV)) := [(2, [.int .i64 0]), (3, [.int .i64 0]), (4, [.bool false]), (5, [.int .u8 0]), (6, [.int .u8 0]), (7, [.int .i64 0, .int .i64 0, .bool false, .int .u8 0]), (8, [.int .i64 0, .int .i64 0, .bool false, .int .u8 0]), (9, [.str []]), (10, [.str []]), (11, [.str []]), (12, [.int .u64 0]), (13, [.str [], .int .u64 0]), (14, [.str [], .int .u64 0]), (21, [.int .i32 0]), (22, [.sl 0 []]), (37, [.int .u64 0]), (38, [.sl 0 [], .int .i64 0, .int .u64 0]), (39, [.sl 0 [], .int .i64 0, .int .u64 0]), (41, [.str [], .str [], .str [], .str [], .str [], .str [], .str [], .str [], .str [], .str []]), (48, [.int .u64 0]), (63, [.sl 0 []]), (66, [.int .u32 0]), (77, [.int .i64 0]), (92, [.str []]), (93, [.str []]), (94, [.int .u8 0, .int .u8 0, .int .u8 0, .int .u8 0, .int .u8 0, .int .u8 0, .int .u8 0, .int .u8 0, .int .u8 0, .int .u8 0, .int .u8 0, .int .u8 0, .int .u8 0, .int .u8 0, .int .u8 0, .int .u8 0, .int .u8 0, .int .u8 0, .int .u8 0, .int .u8 0, .int .u8 0, .int .u8 0, .int .u8 0, .int .u8 0]), (99, [.int .u64 0, .int .u64 0, .int .u64 0, .int .u64 0, .int .u64 0, .int .u64 0, .int .u64 0, .int .u64 0, .int .u64 0, .int .u64 0, .int .u64 0, .int .u64 0, .int .u64 0, .int .u64 0, .int .u64 0, .int .u64 0, .int .u64 0, .int .u64 0, .int .u64 0, .int .u64 0]), (100, [.int .u8 0, .int .u8 0, .int .u8 0, .int .u8 0, .int .u8 0, .int .u8 0, .int .u8 0, .int .u8 0, .int .u8 0, .int .u8 0, .int .u8 0, .int .u8 0, .int .u8 0, .int .u8 0, .int .u8 0, .int .u8 0, .int .u8 0, .int .u8 0, .int .u8 0, .int .u8 0, .int .u8 0, .int .u8 0, .int .u8 0, .int .u8 0, .int .u8 0, .int .u8 0, .int .u8 0, .int .u8 0, .int .u8 0, .int .u8 0, .int .u8 0, .int .u8 0, .int .u8 0, .int .u8 0, .int .u8 0, .int .u8 0, .int .u8 0, .int .u8 0, .int .u8 0, .int .u8 0, .int .u8 0, .int .u8 0, .int .u8 0, .int .u8 0, .int .u8 0, .int .u8 0, .int .u8 0, .int .u8 0, .int .u8 0, .int .u8 0, .int .u8 0, .int .u8 0, .int .u8 0, .int .u8 0, .int .u8 0, .int .u8 0, .int .u8 0, .int .u8 0, .int .u8 0, .int .u8 0, .int .u8 0, .int .u8 0, .int .u8 0, .int .u8 0, .int .u8 0]), (101, [.int .u8 0, .int .u8 0, .int .u8 0, .int .u8 0, .int .u8 0, .int .u8 0, .int .u8 0, .int .u8 0, .int .u8 0, .int .u8 0, .int .u8 0, .int .u8 0, .int .u8 0, .int .u8 0, .int .u8 0, .int .u8 0, .int .u8 0, .int .u8 0, .int .u8 0, .int .u8 0, .int .u8 0, .int .u8 0, .int .u8 0, .int .u8 0, .int .u8 0, .int .u8 0, .int .u8 0, .int .u8 0, .int .u8 0, .int .u8 0, .int .u8 0, .int .u8 0]), (102, [.int .u8 0, .int .u8 0, .int .u8 0, .int .u8 0, .int .u8 0, .int .u8 0, .int .u8 0, .int .u8 0, .int .u8 0, .int .u8 0, .int .u8 0, .int .u8 0, .int .u8 0, .int .u8 0, .int .u8 0, .int .u8 0, .int .u8 0, .int .u8 0, .int .u8 0, .int .u8 0, .int .u8 0, .int .u8 0, .int .u8 0, .int .u8 0, .int .u8 0, .int .u8 0, .int .u8 0, .int .u8 0, .int .u8 0, .int .u8 0, .int .u8 0, .int .u8 0, .int .u8 0, .int .u8 0, .int .u8 0, .int .u8 0, .int .u8 0, .int .u8 0, .int .u8 0, .int .u8 0, .int .u8 0, .int .u8 0, .int .u8 0, .int .u8 0, .int .u8 0, .int .u8 0, .int .u8 0, .int .u8 0, .int .u8 0, .int .u8 0, .int .u8 0, .int .u8 0, .int .u8 0, .int .u8 0, .int .u8 0, .int .u8 0, .int .u8 0, .int .u8 0, .int .u8 0, .int .u8 0, .int .u8 0, .int .u8 0, .int .u8 0, .int .u8 0]), (108, [.int .u8 0]), (109, [.int .u8 0]), (111, [.int .i32 0]), (112, [.int .i32 0])]
def btL : List (Nat × ((Nat → Option (Nat × Nat)) × List PV)) := [(7, pl_7, [.int .i64 0, .int .i64 0, .bool false, .int .u8 0]), (8, pl_8, [.int .i64 0, .int .i64 0, .bool false, .int .u8 0]), (13, pl_13, [.str [], .int .u64 0]), (14, pl_14, [.str [], .int .u64 0]), (38, pl_38, [.sl 0 [], .int .i64 0, .int .u64 0]), (39, pl_39, [.sl 0 [], .int .i64 0, .int .u64 0]), (41, pl_41, [.str [], .str [], .str [], .str [], .str [], .str [], .str [], .str [], .str [], .str []]), (92, pl_92, [.str []]), (93, pl_93, [.str []]), (94, pl_94, [.int .u8 0, .int .u8 0, .int .u8 0, .int .u8 0, .int .u8 0, .int .u8 0, .int .u8 0, .int .u8 0, .int .u8 0, .int .u8 0, .int .u8 0, .int .u8 0, .int .u8 0, .int .u8 0, .int .u8 0, .int .u8 0, .int .u8 0, .int .u8 0, .int .u8 0, .int .u8 0, .int .u8 0, .int .u8 0, .int .u8 0, .int .u8 0]), (99, pl_99, [.int .u64 0, .int .u64 0, .int .u64 0, .int .u64 0, .int .u64 0, .int .u64 0, .int .u64 0, .int .u64 0, .int .u64 0, .int .u64 0, .int .u64 0, .int .u64 0, .int .u64 0, .int .u64 0, .int .u64 0, .int .u64 0, .int .u64 0, .int .u64 0, .int .u64 0, .int .u64 0]), (100, pl_100, [.int .u8 0, .int .u8 0, .int .u8 0, .int .u8 0, .int .u8 0, .int .u8 0, .int .u8 0, .int .u8 0, .int .u8 0, .int .u8 0, .int .u8 0, .int .u8 0, .int .u8 0, .int .u8 0, .int .u8 0, .int .u8 0, .int .u8 0, .int .u8 0, .int .u8 0, .int .u8 0, .int .u8 0, .int .u8 0, .int .u8 0, .int .u8 0, .int .u8 0, .int .u8 0, .int .u8 0, .int .u8 0, .int .u8 0, .int .u8 0, .int .u8 0, .int .u8 0, .int .u8 0, .int .u8 0, .int .u8 0, .int .u8 0, .int .u8 0, .int .u8 0, .int .u8 0, .int .u8 0, .int .u8 0, .int .u8 0, .int .u8 0, .int .u8 0, .int .u8 0, .int .u8 0, .int .u8 0, .int .u8 0, .int .u8 0, .int .u8 0, .int .u8 0, .int .u8 0, .int .u8 0, .int .u8 0, .int .u8 0, .int .u8 0, .int .u8 0, .int .u8 0, .int .u8 0, .int .u8 0, .int .u8 0, .int .u8 0, .int .u8 0, .int .u8 0, .int .u8 0]), (101, pl_101, [.int .u8 0, .int .u8 0, .int .u8 0, .int .u8 0, .int .u8 0, .int .u8 0, .int .u8 0, .int .u8 0, .int .u8 0, .int .u8 0, .int .u8 0, .int .u8 0, .int .u8 0, .int .u8 0, .int .u8 0, .int .u8 0, .int .u8 0, .int .u8 0, .int .u8 0, .int .u8 0, .int .u8 0, .int .u8 0, .int .u8 0, .int .u8 0, .int .u8 0, .int .u8 0, .int .u8 0, .int .u8 0, .int .u8 0, .int .u8 0, .int .u8 0, .int .u8 0]), (102, pl_102, [.int .u8 0, .int .u8 0, .int .u8 0, .int .u8 0, .int .u8 0, .int .u8 0, .int .u8 0, .int .u8 0, .int .u8 0, .int .u8 0, .int .u8 0, .int .u8 0, .int .u8 0, .int .u8 0, .int .u8 0, .int .u8 0, .int .u8 0, .int .u8 0, .int .u8 0, .int .u8 0, .int .u8 0, .int .u8 0, .int .u8 0, .int .u8 0, .int .u8 0, .int .u8 0, .int .u8 0, .int .u8 0, .int .u8 0, .int .u8 0, .int .u8 0, .int .u8 0, .int .u8 0, .int .u8 0, .int .u8 0, .int .u8 0, .int .u8 0, .int .u8 0, .int .u8 0, .int .u8 0, .int .u8 0, .int .u8 0, .int .u8 0, .int .u8 0, .int .u8 0, .int .u8 0, .int .u8 0, .int .u8 0, .int .u8 0, .int .u8 0, .int .u8 0, .int .u8 0, .int .u8 0, .int .u8 0, .int .u8 0, .int .u8 0, .int .u8 0, .int .u8 0, .int .u8 0, .int .u8 0, .int .u8 0, .int .u8 0, .int .u8 0, .int .u8 0])]
def mpL : List (Nat × (Nat × Nat)) := [(44, 3, 3)]
def zvL : List (Nat × (PV)) := [(2, .int .i64 0), (3, .int .i64 0), (4, .bool false), (5, .int .u8 0), (6, .int .u8 0), (7, .agg [.int .i64 0, .int .i64 0, .bool false, .int .u8 0]), (8, .agg [.int .i64 0, .int .i64 0, .bool false, .int .u8 0]), (9, .str []), (10, .str []), (11, .str []), (12, .int .u64 0), (13, .agg [.str [], .int .u64 0]), (14, .agg [.str [], .int .u64 0]), (21, .int .i32 0), (22, .sl 0 []), (37, .int .u64 0), (38, .agg [.sl 0 [], .int .i64 0, .int .u64 0]), (39, .agg [.sl 0 [], .int .i64 0, .int .u64 0]), (41, .agg [.str [], .str [], .str [], .str [], .str [], .str [], .str [], .str [], .str [], .str []]), (48, .int .u64 0), (63, .sl 0 []), (66, .int .u32 0), (77, .int .i64 0), (92, .agg [.str []]), (93, .agg [.str []]), (94, .agg [.int .u8 0, .int .u8 0, .int .u8 0, .int .u8 0, .int .u8 0, .int .u8 0, .int .u8 0, .int .u8 0, .int .u8 0, .int .u8 0, .int .u8 0, .int .u8 0, .int .u8 0, .int .u8 0, .int .u8 0, .int .u8 0, .int .u8 0, .int .u8 0, .int .u8 0, .int .u8 0, .int .u8 0, .int .u8 0, .int .u8 0, .int .u8 0]), (99, .agg [.int .u64 0, .int .u64 0, .int .u64 0, .int .u64 0, .int .u64 0, .int .u64 0, .int .u64 0, .int .u64 0, .int .u64 0, .int .u64 0, .int .u64 0, .int .u64 0, .int .u64 0, .int .u64 0, .int .u64 0, .int .u64 0, .int .u64 0, .int .u64 0, .int .u64 0, .int .u64 0]), (100, .agg [.int .u8 0, .int .u8 0, .int .u8 0, .int .u8 0, .int .u8 0, .int .u8 0, .int .u8 0, .int .u8 0, .int .u8 0, .int .u8 0, .int .u8 0, .int .u8 0, .int .u8 0, .int .u8 0, .int .u8 0, .int .u8 0, .int .u8 0, .int .u8 0, .int .u8 0, .int .u8 0, .int .u8 0, .int .u8 0, .int .u8 0, .int .u8 0, .int .u8 0, .int .u8 0, .int .u8 0, .int .u8 0, .int .u8 0, .int .u8 0, .int .u8 0, .int .u8 0, .int .u8 0, .int .u8 0, .int .u8 0, .int .u8 0, .int .u8 0, .int .u8 0, .int .u8 0, .int .u8 0, .int .u8 0, .int .u8 0, .int .u8 0, .int .u8 0, .int .u8 0, .int .u8 0, .int .u8 0, .int .u8 0, .int .u8 0, .int .u8 0, .int .u8 0, .int .u8 0, .int .u8 0, .int .u8 0, .int .u8 0, .int .u8 0, .int .u8 0, .int .u8 0, .int .u8 0, .int .u8 0, .int .u8 0, .int .u8 0, .int .u8 0, .int .u8 0, .int .u8 0]), (101, .agg [.int .u8 0, .int .u8 0, .int .u8 0, .int .u8 0, .int .u8 0, .int .u8 0, .int .u8 0, .int .u8 0, .int .u8 0, .int .u8 0, .int .u8 0, .int .u8 0, .int .u8 0, .int .u8 0, .int .u8 0, .int .u8 0, .int .u8 0, .int .u8 0, .int .u8 0, .int .u8 0, .int .u8 0, .int .u8 0, .int .u8 0, .int .u8 0, .int .u8 0, .int .u8 0, .int .u8 0, .int .u8 0, .int .u8 0, .int .u8 0, .int .u8 0, .int .u8 0]), (102, .agg [.int .u8 0, .int .u8 0, .int .u8 0, .int .u8 0, .int .u8 0, .int .u8 0, .int .u8 0, .int .u8 0, .int .u8 0, .int .u8 0, .int .u8 0, .int .u8 0, .int .u8 0, .int .u8 0, .int .u8 0, .int .u8 0, .int .u8 0, .int .u8 0, .int .u8 0, .int .u8 0, .int .u8 0, .int .u8 0, .int .u8 0, .int .u8 0, .int .u8 0, .int .u8 0, .int .u8 0, .int .u8 0, .int .u8 0, .int .u8 0, .int .u8 0, .int .u8 0, .int .u8 0, .int .u8 0, .int .u8 0, .int .u8 0, .int .u8 0, .int .u8 0, .int .u8 0, .int .u8 0, .int .u8 0, .int .u8 0, .int .u8 0, .int .u8 0, .int .u8 0, .int .u8 0, .int .u8 0, .int .u8 0, .int .u8 0, .int .u8 0, .int .u8 0, .int .u8 0, .int .u8 0, .int .u8 0, .int .u8 0, .int .u8 0, .int .u8 0, .int .u8 0, .int .u8 0, .int .u8 0, .int .u8 0, .int .u8 0, .int .u8 0, .int .u8 0]), (108, .int .u8 0), (109, .int .u8 0), (111, .int .i32 0), (112, .int .i32 0)]
def tf : TF Tryd.prog where
  kd := kdL
  sl := slL
  one := oneL
  agg := aggL
  arr := arrL
  are := areL
  fl := flL
  zt := ztL
  bt := btL
  mp := mpL
  zv := zvL
  mix := by kernel_rfl
  kd_ok := ⟨Tryd.underlying2, Tryd.underlying3, Tryd.underlying4, Tryd.underlying5, Tryd.underlying6, Tryd.underlying9, Tryd.underlying10, Tryd.underlying11, Tryd.underlying12, Tryd.underlying21, Tryd.underlying37, Tryd.underlying48, Tryd.underlying66, Tryd.underlying77, Tryd.underlying108, Tryd.underlying109, Tryd.underlying111, Tryd.underlying112, trivial⟩
  sl_ok := ⟨sl_22, sl_63, trivial⟩
  one_ok := ⟨one_2, one_3, one_4, one_5, one_6, one_9, one_10, one_11, one_12, one_21, one_22, one_37, one_48, one_63, one_66, one_77, one_108, one_109, one_111, one_112, trivial⟩
  agg_ok := ⟨agg_7, agg_8, agg_13, agg_14, agg_38, agg_39, agg_41, agg_92, agg_93, agg_94, agg_99, agg_100, agg_101, agg_102, trivial⟩
  arr_ok := ⟨arr_41, arr_94, arr_99, arr_100, arr_101, arr_102, trivial⟩
  are_ok := ⟨Tryd.underlying41, Tryd.underlying94, Tryd.underlying99, Tryd.underlying100, Tryd.underlying101, Tryd.underlying102, trivial⟩
  fl_ok := ⟨flp_7, flp_8, flp_13, flp_14, flp_38, flp_39, flp_92, flp_93, trivial⟩
  zt_ok := ⟨zt_2, zt_3, zt_4, zt_5, zt_6, zt_7, zt_8, zt_9, zt_10, zt_11, zt_12, zt_13, zt_14, zt_21, zt_22, zt_37, zt_38, zt_39, zt_41, zt_48, zt_63, zt_66, zt_77, zt_92, zt_93, zt_94, zt_99, zt_100, zt_101, zt_102, zt_108, zt_109, zt_111, zt_112, trivial⟩
  bt_ok := ⟨bt_7, bt_8, bt_13, bt_14, bt_38, bt_39, bt_41, bt_92, bt_93, bt_94, bt_99, bt_100, bt_101, bt_102, trivial⟩
  mp_ok := ⟨Tryd.underlying44, trivial⟩
  zv_ok := ⟨zv_2, zv_3, zv_4, zv_5, zv_6, zv_7, zv_8, zv_9, zv_10, zv_11, zv_12, zv_13, zv_14, zv_21, zv_22, zv_37, zv_38, zv_39, zv_41, zv_48, zv_63, zv_66, zv_77, zv_92, zv_93, zv_94, zv_99, zv_100, zv_101, zv_102, zv_108, zv_109, zv_111, zv_112, trivial⟩

end Go.Proofs.YthgiialammjcbabDoor.Tf
