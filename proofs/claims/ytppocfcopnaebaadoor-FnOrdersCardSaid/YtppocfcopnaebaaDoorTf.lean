/- The tables of this translation for the interpreter, each fact closed by the kernel. No conditions. -/
import Derived.Test.YtppocfcopnaebaaDoorRows
import Derived.Test.YtppocfcopnaebaaDoorPwQ
namespace Go.Proofs.YtppocfcopnaebaaDoor.Tf
open Go.RowKit
set_option maxRecDepth 20000
theorem zv_2 : ZvTy Tryd.prog 2 (.int .i64 0) := zvTy_of (z := .int .i64 0) (by kernel_rfl) rfl
theorem one_2 : OneTy Tryd.prog 2 := oneTy_of Tryd.underlying2 rfl (by kernel_rfl)
theorem zt_2 : ZeroTy Tryd.prog 2 [.int .i64 0] := zeroTy_of (z := .int .i64 0) (by kernel_rfl) rfl
theorem zv_3 : ZvTy Tryd.prog 3 (.int .i64 0) := zvTy_of (z := .int .i64 0) (by kernel_rfl) rfl
theorem one_3 : OneTy Tryd.prog 3 := oneTy_of Tryd.underlying3 rfl (by kernel_rfl)
theorem zt_3 : ZeroTy Tryd.prog 3 [.int .i64 0] := zeroTy_of (z := .int .i64 0) (by kernel_rfl) rfl
theorem zv_4 : ZvTy Tryd.prog 4 (.bool false) := zvTy_of (z := .bool false) (by kernel_rfl) rfl
theorem one_4 : OneTy Tryd.prog 4 := oneTy_of Tryd.underlying4 rfl (by kernel_rfl)
theorem zt_4 : ZeroTy Tryd.prog 4 [.bool false] := zeroTy_of (z := .bool false) (by kernel_rfl) rfl
theorem zv_5 : ZvTy Tryd.prog 5 (.int .u8 0) := zvTy_of (z := .int .u8 0) (by kernel_rfl) rfl
theorem one_5 : OneTy Tryd.prog 5 := oneTy_of Tryd.underlying5 rfl (by kernel_rfl)
theorem zt_5 : ZeroTy Tryd.prog 5 [.int .u8 0] := zeroTy_of (z := .int .u8 0) (by kernel_rfl) rfl
theorem zv_6 : ZvTy Tryd.prog 6 (.int .u8 0) := zvTy_of (z := .int .u8 0) (by kernel_rfl) rfl
theorem one_6 : OneTy Tryd.prog 6 := oneTy_of Tryd.underlying6 rfl (by kernel_rfl)
theorem zt_6 : ZeroTy Tryd.prog 6 [.int .u8 0] := zeroTy_of (z := .int .u8 0) (by kernel_rfl) rfl
theorem zv_7 : ZvTy Tryd.prog 7 (.agg [.int .i64 0, .int .i64 0, .bool false, .int .u8 0]) := zvTy_of (z := .agg #[.int .i64 0, .int .i64 0, .bool false, .int .u8 0]) (by kernel_rfl) rfl
theorem agg_7 : AggTy Tryd.prog 7 4 := aggTy_of Tryd.underlying7 rfl (by kernel_rfl)
theorem fi_7_0 : FiTy Tryd.prog 7 0 0 := fiTy_of (k := 1) Tryd.underlying7 rfl rfl (by kernel_rfl) (by decide)
theorem fi_7_1 : FiTy Tryd.prog 7 1 1 := fiTy_of (k := 1) Tryd.underlying7 rfl rfl (by kernel_rfl) (by decide)
theorem fi_7_2 : FiTy Tryd.prog 7 2 2 := fiTy_of (k := 1) Tryd.underlying7 rfl rfl (by kernel_rfl) (by decide)
theorem fi_7_3 : FiTy Tryd.prog 7 3 3 := fiTy_of (k := 1) Tryd.underlying7 rfl rfl (by kernel_rfl) (by decide)
theorem zt_7 : ZeroTy Tryd.prog 7 [.int .i64 0, .int .i64 0, .bool false, .int .u8 0] := zeroTy_of (z := .agg #[.int .i64 0, .int .i64 0, .bool false, .int .u8 0]) (by kernel_rfl) rfl
theorem bt_7 : BuildTy Tryd.prog 7 (fun i => match i with | 0 => some (0, 1) | 1 => some (1, 1) | 2 => some (2, 1) | 3 => some (3, 1) | _ => none) [.int .i64 0, .int .i64 0, .bool false, .int .u8 0] := ⟨.agg #[.int .i64 0, .int .i64 0, .bool false, .int .u8 0], rfl, fun parts => by
  have h : Tryd.prog.built 7 parts = Instr.fill (#[(0, 1), (1, 1), (2, 1), (3, 1)][·]?) ((.agg #[.int .i64 0, .int .i64 0, .bool false, .int .u8 0] : Value)).cells parts := by kernel_rfl
  have hp : (fun i => (#[(0, 1), (1, 1), (2, 1), (3, 1)] : Array (Nat × Nat))[i]?) = (fun i => match i with | 0 => some (0, 1) | 1 => some (1, 1) | 2 => some (2, 1) | 3 => some (3, 1) | _ => none) := by
    funext i
    rcases i with _ | _ | _ | _ | _ <;> rfl
  rw [h, hp]⟩
theorem zv_8 : ZvTy Tryd.prog 8 (.agg [.int .i64 0, .int .i64 0, .bool false, .int .u8 0]) := zvTy_of (z := .agg #[.int .i64 0, .int .i64 0, .bool false, .int .u8 0]) (by kernel_rfl) rfl
theorem agg_8 : AggTy Tryd.prog 8 4 := aggTy_of Tryd.underlying8 rfl (by kernel_rfl)
theorem fi_8_0 : FiTy Tryd.prog 8 0 0 := fiTy_of (k := 1) Tryd.underlying8 rfl rfl (by kernel_rfl) (by decide)
theorem fi_8_1 : FiTy Tryd.prog 8 1 1 := fiTy_of (k := 1) Tryd.underlying8 rfl rfl (by kernel_rfl) (by decide)
theorem fi_8_2 : FiTy Tryd.prog 8 2 2 := fiTy_of (k := 1) Tryd.underlying8 rfl rfl (by kernel_rfl) (by decide)
theorem fi_8_3 : FiTy Tryd.prog 8 3 3 := fiTy_of (k := 1) Tryd.underlying8 rfl rfl (by kernel_rfl) (by decide)
theorem zt_8 : ZeroTy Tryd.prog 8 [.int .i64 0, .int .i64 0, .bool false, .int .u8 0] := zeroTy_of (z := .agg #[.int .i64 0, .int .i64 0, .bool false, .int .u8 0]) (by kernel_rfl) rfl
theorem bt_8 : BuildTy Tryd.prog 8 (fun i => match i with | 0 => some (0, 1) | 1 => some (1, 1) | 2 => some (2, 1) | 3 => some (3, 1) | _ => none) [.int .i64 0, .int .i64 0, .bool false, .int .u8 0] := ⟨.agg #[.int .i64 0, .int .i64 0, .bool false, .int .u8 0], rfl, fun parts => by
  have h : Tryd.prog.built 8 parts = Instr.fill (#[(0, 1), (1, 1), (2, 1), (3, 1)][·]?) ((.agg #[.int .i64 0, .int .i64 0, .bool false, .int .u8 0] : Value)).cells parts := by kernel_rfl
  have hp : (fun i => (#[(0, 1), (1, 1), (2, 1), (3, 1)] : Array (Nat × Nat))[i]?) = (fun i => match i with | 0 => some (0, 1) | 1 => some (1, 1) | 2 => some (2, 1) | 3 => some (3, 1) | _ => none) := by
    funext i
    rcases i with _ | _ | _ | _ | _ <;> rfl
  rw [h, hp]⟩
theorem zv_9 : ZvTy Tryd.prog 9 (.str []) := zvTy_of (z := .string ByteArray.empty) (by kernel_rfl) rfl
theorem one_9 : OneTy Tryd.prog 9 := oneTy_of Tryd.underlying9 rfl (by kernel_rfl)
theorem zt_9 : ZeroTy Tryd.prog 9 [.str []] := zeroTy_of (z := .string ByteArray.empty) (by kernel_rfl) rfl
theorem zv_10 : ZvTy Tryd.prog 10 (.str []) := zvTy_of (z := .string ByteArray.empty) (by kernel_rfl) rfl
theorem one_10 : OneTy Tryd.prog 10 := oneTy_of Tryd.underlying10 rfl (by kernel_rfl)
theorem zt_10 : ZeroTy Tryd.prog 10 [.str []] := zeroTy_of (z := .string ByteArray.empty) (by kernel_rfl) rfl
theorem zv_11 : ZvTy Tryd.prog 11 (.str []) := zvTy_of (z := .string ByteArray.empty) (by kernel_rfl) rfl
theorem one_11 : OneTy Tryd.prog 11 := oneTy_of Tryd.underlying11 rfl (by kernel_rfl)
theorem zt_11 : ZeroTy Tryd.prog 11 [.str []] := zeroTy_of (z := .string ByteArray.empty) (by kernel_rfl) rfl
theorem zv_12 : ZvTy Tryd.prog 12 (.int .u64 0) := zvTy_of (z := .int .u64 0) (by kernel_rfl) rfl
theorem one_12 : OneTy Tryd.prog 12 := oneTy_of Tryd.underlying12 rfl (by kernel_rfl)
theorem zt_12 : ZeroTy Tryd.prog 12 [.int .u64 0] := zeroTy_of (z := .int .u64 0) (by kernel_rfl) rfl
theorem zv_13 : ZvTy Tryd.prog 13 (.agg [.str [], .int .u64 0]) := zvTy_of (z := .agg #[.string ByteArray.empty, .int .u64 0]) (by kernel_rfl) rfl
theorem agg_13 : AggTy Tryd.prog 13 2 := aggTy_of Tryd.underlying13 rfl (by kernel_rfl)
theorem fi_13_0 : FiTy Tryd.prog 13 0 0 := fiTy_of (k := 1) Tryd.underlying13 rfl rfl (by kernel_rfl) (by decide)
theorem fi_13_1 : FiTy Tryd.prog 13 1 1 := fiTy_of (k := 1) Tryd.underlying13 rfl rfl (by kernel_rfl) (by decide)
theorem zt_13 : ZeroTy Tryd.prog 13 [.str [], .int .u64 0] := zeroTy_of (z := .agg #[.string ByteArray.empty, .int .u64 0]) (by kernel_rfl) rfl
theorem bt_13 : BuildTy Tryd.prog 13 (fun i => match i with | 0 => some (0, 1) | 1 => some (1, 1) | _ => none) [.str [], .int .u64 0] := ⟨.agg #[.string ByteArray.empty, .int .u64 0], rfl, fun parts => by
  have h : Tryd.prog.built 13 parts = Instr.fill (#[(0, 1), (1, 1)][·]?) ((.agg #[.string ByteArray.empty, .int .u64 0] : Value)).cells parts := by kernel_rfl
  have hp : (fun i => (#[(0, 1), (1, 1)] : Array (Nat × Nat))[i]?) = (fun i => match i with | 0 => some (0, 1) | 1 => some (1, 1) | _ => none) := by
    funext i
    rcases i with _ | _ | _ <;> rfl
  rw [h, hp]⟩
theorem zv_14 : ZvTy Tryd.prog 14 (.agg [.str [], .int .u64 0]) := zvTy_of (z := .agg #[.string ByteArray.empty, .int .u64 0]) (by kernel_rfl) rfl
theorem agg_14 : AggTy Tryd.prog 14 2 := aggTy_of Tryd.underlying14 rfl (by kernel_rfl)
theorem fi_14_0 : FiTy Tryd.prog 14 0 0 := fiTy_of (k := 1) Tryd.underlying14 rfl rfl (by kernel_rfl) (by decide)
theorem fi_14_1 : FiTy Tryd.prog 14 1 1 := fiTy_of (k := 1) Tryd.underlying14 rfl rfl (by kernel_rfl) (by decide)
theorem zt_14 : ZeroTy Tryd.prog 14 [.str [], .int .u64 0] := zeroTy_of (z := .agg #[.string ByteArray.empty, .int .u64 0]) (by kernel_rfl) rfl
theorem bt_14 : BuildTy Tryd.prog 14 (fun i => match i with | 0 => some (0, 1) | 1 => some (1, 1) | _ => none) [.str [], .int .u64 0] := ⟨.agg #[.string ByteArray.empty, .int .u64 0], rfl, fun parts => by
  have h : Tryd.prog.built 14 parts = Instr.fill (#[(0, 1), (1, 1)][·]?) ((.agg #[.string ByteArray.empty, .int .u64 0] : Value)).cells parts := by kernel_rfl
  have hp : (fun i => (#[(0, 1), (1, 1)] : Array (Nat × Nat))[i]?) = (fun i => match i with | 0 => some (0, 1) | 1 => some (1, 1) | _ => none) := by
    funext i
    rcases i with _ | _ | _ <;> rfl
  rw [h, hp]⟩
theorem zv_21 : ZvTy Tryd.prog 21 (.int .i32 0) := zvTy_of (z := .int .i32 0) (by kernel_rfl) rfl
theorem one_21 : OneTy Tryd.prog 21 := oneTy_of Tryd.underlying21 rfl (by kernel_rfl)
theorem zt_21 : ZeroTy Tryd.prog 21 [.int .i32 0] := zeroTy_of (z := .int .i32 0) (by kernel_rfl) rfl
theorem zv_22 : ZvTy Tryd.prog 22 (.sl 0 []) := zvTy_of (z := .slice none 0 0) (by kernel_rfl) rfl
theorem sl_22 : SlTy Tryd.prog 22 5 1 1 [.int .u8 0] := slTy_of Tryd.underlying22 (z := .int .u8 0) (by kernel_rfl) rfl (by decide) (by decide) rfl
theorem one_22 : OneTy Tryd.prog 22 := oneTy_of Tryd.underlying22 rfl (by kernel_rfl)
theorem zt_22 : ZeroTy Tryd.prog 22 [.sl 0 []] := zeroTy_of (z := .slice none 0 0) (by kernel_rfl) rfl
theorem zv_24 : ZvTy Tryd.prog 24 (.sl 0 []) := zvTy_of (z := .slice none 0 0) (by kernel_rfl) rfl
theorem sl_24 : SlTy Tryd.prog 24 3 1 8 [.int .i64 0] := slTy_of Tryd.underlying24 (z := .int .i64 0) (by kernel_rfl) rfl (by decide) (by decide) rfl
theorem one_24 : OneTy Tryd.prog 24 := oneTy_of Tryd.underlying24 rfl (by kernel_rfl)
theorem zt_24 : ZeroTy Tryd.prog 24 [.sl 0 []] := zeroTy_of (z := .slice none 0 0) (by kernel_rfl) rfl
theorem zv_32 : ZvTy Tryd.prog 32 (.agg [.int .i64 0, .int .i64 0, .int .i64 0, .int .i64 0, .int .i64 0, .int .i64 0, .int .i64 0, .int .i64 0, .int .i64 0, .int .i64 0]) := zvTy_of (z := .agg #[.int .i64 0, .int .i64 0, .int .i64 0, .int .i64 0, .int .i64 0, .int .i64 0, .int .i64 0, .int .i64 0, .int .i64 0, .int .i64 0]) (by kernel_rfl) rfl
theorem agg_32 : AggTy Tryd.prog 32 10 := aggTy_of Tryd.underlying32 rfl (by kernel_rfl)
theorem arr_32 : ArTy Tryd.prog 32 10 1 := arTy_of Tryd.underlying32 (by kernel_rfl)
theorem zt_32 : ZeroTy Tryd.prog 32 [.int .i64 0, .int .i64 0, .int .i64 0, .int .i64 0, .int .i64 0, .int .i64 0, .int .i64 0, .int .i64 0, .int .i64 0, .int .i64 0] := zeroTy_of (z := .agg #[.int .i64 0, .int .i64 0, .int .i64 0, .int .i64 0, .int .i64 0, .int .i64 0, .int .i64 0, .int .i64 0, .int .i64 0, .int .i64 0]) (by kernel_rfl) rfl
theorem bt_32 : BuildTy Tryd.prog 32 (fun i => some (i * 1, 1)) [.int .i64 0, .int .i64 0, .int .i64 0, .int .i64 0, .int .i64 0, .int .i64 0, .int .i64 0, .int .i64 0, .int .i64 0, .int .i64 0] := ⟨.agg #[.int .i64 0, .int .i64 0, .int .i64 0, .int .i64 0, .int .i64 0, .int .i64 0, .int .i64 0, .int .i64 0, .int .i64 0, .int .i64 0], rfl, fun parts => by kernel_rfl⟩
theorem zv_33 : ZvTy Tryd.prog 33 (.agg [.int .i64 0, .int .i64 0, .int .i64 0, .int .i64 0, .int .i64 0, .int .i64 0, .int .i64 0, .int .i64 0, .int .i64 0, .int .i64 0, .int .i64 0, .int .i64 0, .int .i64 0, .int .i64 0, .int .i64 0, .int .i64 0, .int .i64 0, .int .i64 0, .int .i64 0, .int .i64 0, .int .i64 0, .int .i64 0, .int .i64 0, .int .i64 0, .int .i64 0, .int .i64 0, .int .i64 0, .int .i64 0, .int .i64 0, .int .i64 0, .int .i64 0, .int .i64 0, .int .i64 0, .int .i64 0, .int .i64 0, .int .i64 0, .int .i64 0, .int .i64 0, .int .i64 0, .int .i64 0, .int .i64 0, .int .i64 0, .int .i64 0, .int .i64 0, .int .i64 0, .int .i64 0, .int .i64 0, .int .i64 0, .int .i64 0, .int .i64 0, .int .i64 0, .int .i64 0, .int .i64 0, .int .i64 0, .int .i64 0, .int .i64 0, .int .i64 0, .int .i64 0, .int .i64 0, .int .i64 0, .int .i64 0, .int .i64 0, .int .i64 0, .int .i64 0, .int .i64 0, .int .i64 0, .int .i64 0, .int .i64 0, .int .i64 0, .int .i64 0, .int .i64 0, .int .i64 0, .int .i64 0, .int .i64 0, .int .i64 0, .int .i64 0, .int .i64 0, .int .i64 0, .int .i64 0, .int .i64 0, .int .i64 0, .int .i64 0, .int .i64 0, .int .i64 0, .int .i64 0, .int .i64 0, .int .i64 0, .int .i64 0, .int .i64 0, .int .i64 0, .int .i64 0, .int .i64 0, .int .i64 0, .int .i64 0, .int .i64 0, .int .i64 0, .int .i64 0, .int .i64 0, .int .i64 0, .int .i64 0]) := zvTy_of (z := .agg #[.int .i64 0, .int .i64 0, .int .i64 0, .int .i64 0, .int .i64 0, .int .i64 0, .int .i64 0, .int .i64 0, .int .i64 0, .int .i64 0, .int .i64 0, .int .i64 0, .int .i64 0, .int .i64 0, .int .i64 0, .int .i64 0, .int .i64 0, .int .i64 0, .int .i64 0, .int .i64 0, .int .i64 0, .int .i64 0, .int .i64 0, .int .i64 0, .int .i64 0, .int .i64 0, .int .i64 0, .int .i64 0, .int .i64 0, .int .i64 0, .int .i64 0, .int .i64 0, .int .i64 0, .int .i64 0, .int .i64 0, .int .i64 0, .int .i64 0, .int .i64 0, .int .i64 0, .int .i64 0, .int .i64 0, .int .i64 0, .int .i64 0, .int .i64 0, .int .i64 0, .int .i64 0, .int .i64 0, .int .i64 0, .int .i64 0, .int .i64 0, .int .i64 0, .int .i64 0, .int .i64 0, .int .i64 0, .int .i64 0, .int .i64 0, .int .i64 0, .int .i64 0, .int .i64 0, .int .i64 0, .int .i64 0, .int .i64 0, .int .i64 0, .int .i64 0, .int .i64 0, .int .i64 0, .int .i64 0, .int .i64 0, .int .i64 0, .int .i64 0, .int .i64 0, .int .i64 0, .int .i64 0, .int .i64 0, .int .i64 0, .int .i64 0, .int .i64 0, .int .i64 0, .int .i64 0, .int .i64 0, .int .i64 0, .int .i64 0, .int .i64 0, .int .i64 0, .int .i64 0, .int .i64 0, .int .i64 0, .int .i64 0, .int .i64 0, .int .i64 0, .int .i64 0, .int .i64 0, .int .i64 0, .int .i64 0, .int .i64 0, .int .i64 0, .int .i64 0, .int .i64 0, .int .i64 0, .int .i64 0]) (by kernel_rfl) rfl
theorem agg_33 : AggTy Tryd.prog 33 100 := aggTy_of Tryd.underlying33 rfl (by kernel_rfl)
theorem arr_33 : ArTy Tryd.prog 33 10 10 := arTy_of Tryd.underlying33 (by kernel_rfl)
theorem zt_33 : ZeroTy Tryd.prog 33 [.int .i64 0, .int .i64 0, .int .i64 0, .int .i64 0, .int .i64 0, .int .i64 0, .int .i64 0, .int .i64 0, .int .i64 0, .int .i64 0, .int .i64 0, .int .i64 0, .int .i64 0, .int .i64 0, .int .i64 0, .int .i64 0, .int .i64 0, .int .i64 0, .int .i64 0, .int .i64 0, .int .i64 0, .int .i64 0, .int .i64 0, .int .i64 0, .int .i64 0, .int .i64 0, .int .i64 0, .int .i64 0, .int .i64 0, .int .i64 0, .int .i64 0, .int .i64 0, .int .i64 0, .int .i64 0, .int .i64 0, .int .i64 0, .int .i64 0, .int .i64 0, .int .i64 0, .int .i64 0, .int .i64 0, .int .i64 0, .int .i64 0, .int .i64 0, .int .i64 0, .int .i64 0, .int .i64 0, .int .i64 0, .int .i64 0, .int .i64 0, .int .i64 0, .int .i64 0, .int .i64 0, .int .i64 0, .int .i64 0, .int .i64 0, .int .i64 0, .int .i64 0, .int .i64 0, .int .i64 0, .int .i64 0, .int .i64 0, .int .i64 0, .int .i64 0, .int .i64 0, .int .i64 0, .int .i64 0, .int .i64 0, .int .i64 0, .int .i64 0, .int .i64 0, .int .i64 0, .int .i64 0, .int .i64 0, .int .i64 0, .int .i64 0, .int .i64 0, .int .i64 0, .int .i64 0, .int .i64 0, .int .i64 0, .int .i64 0, .int .i64 0, .int .i64 0, .int .i64 0, .int .i64 0, .int .i64 0, .int .i64 0, .int .i64 0, .int .i64 0, .int .i64 0, .int .i64 0, .int .i64 0, .int .i64 0, .int .i64 0, .int .i64 0, .int .i64 0, .int .i64 0, .int .i64 0, .int .i64 0] := zeroTy_of (z := .agg #[.int .i64 0, .int .i64 0, .int .i64 0, .int .i64 0, .int .i64 0, .int .i64 0, .int .i64 0, .int .i64 0, .int .i64 0, .int .i64 0, .int .i64 0, .int .i64 0, .int .i64 0, .int .i64 0, .int .i64 0, .int .i64 0, .int .i64 0, .int .i64 0, .int .i64 0, .int .i64 0, .int .i64 0, .int .i64 0, .int .i64 0, .int .i64 0, .int .i64 0, .int .i64 0, .int .i64 0, .int .i64 0, .int .i64 0, .int .i64 0, .int .i64 0, .int .i64 0, .int .i64 0, .int .i64 0, .int .i64 0, .int .i64 0, .int .i64 0, .int .i64 0, .int .i64 0, .int .i64 0, .int .i64 0, .int .i64 0, .int .i64 0, .int .i64 0, .int .i64 0, .int .i64 0, .int .i64 0, .int .i64 0, .int .i64 0, .int .i64 0, .int .i64 0, .int .i64 0, .int .i64 0, .int .i64 0, .int .i64 0, .int .i64 0, .int .i64 0, .int .i64 0, .int .i64 0, .int .i64 0, .int .i64 0, .int .i64 0, .int .i64 0, .int .i64 0, .int .i64 0, .int .i64 0, .int .i64 0, .int .i64 0, .int .i64 0, .int .i64 0, .int .i64 0, .int .i64 0, .int .i64 0, .int .i64 0, .int .i64 0, .int .i64 0, .int .i64 0, .int .i64 0, .int .i64 0, .int .i64 0, .int .i64 0, .int .i64 0, .int .i64 0, .int .i64 0, .int .i64 0, .int .i64 0, .int .i64 0, .int .i64 0, .int .i64 0, .int .i64 0, .int .i64 0, .int .i64 0, .int .i64 0, .int .i64 0, .int .i64 0, .int .i64 0, .int .i64 0, .int .i64 0, .int .i64 0, .int .i64 0]) (by kernel_rfl) rfl
theorem bt_33 : BuildTy Tryd.prog 33 (fun i => some (i * 10, 10)) [.int .i64 0, .int .i64 0, .int .i64 0, .int .i64 0, .int .i64 0, .int .i64 0, .int .i64 0, .int .i64 0, .int .i64 0, .int .i64 0, .int .i64 0, .int .i64 0, .int .i64 0, .int .i64 0, .int .i64 0, .int .i64 0, .int .i64 0, .int .i64 0, .int .i64 0, .int .i64 0, .int .i64 0, .int .i64 0, .int .i64 0, .int .i64 0, .int .i64 0, .int .i64 0, .int .i64 0, .int .i64 0, .int .i64 0, .int .i64 0, .int .i64 0, .int .i64 0, .int .i64 0, .int .i64 0, .int .i64 0, .int .i64 0, .int .i64 0, .int .i64 0, .int .i64 0, .int .i64 0, .int .i64 0, .int .i64 0, .int .i64 0, .int .i64 0, .int .i64 0, .int .i64 0, .int .i64 0, .int .i64 0, .int .i64 0, .int .i64 0, .int .i64 0, .int .i64 0, .int .i64 0, .int .i64 0, .int .i64 0, .int .i64 0, .int .i64 0, .int .i64 0, .int .i64 0, .int .i64 0, .int .i64 0, .int .i64 0, .int .i64 0, .int .i64 0, .int .i64 0, .int .i64 0, .int .i64 0, .int .i64 0, .int .i64 0, .int .i64 0, .int .i64 0, .int .i64 0, .int .i64 0, .int .i64 0, .int .i64 0, .int .i64 0, .int .i64 0, .int .i64 0, .int .i64 0, .int .i64 0, .int .i64 0, .int .i64 0, .int .i64 0, .int .i64 0, .int .i64 0, .int .i64 0, .int .i64 0, .int .i64 0, .int .i64 0, .int .i64 0, .int .i64 0, .int .i64 0, .int .i64 0, .int .i64 0, .int .i64 0, .int .i64 0, .int .i64 0, .int .i64 0, .int .i64 0, .int .i64 0] := ⟨.agg #[.int .i64 0, .int .i64 0, .int .i64 0, .int .i64 0, .int .i64 0, .int .i64 0, .int .i64 0, .int .i64 0, .int .i64 0, .int .i64 0, .int .i64 0, .int .i64 0, .int .i64 0, .int .i64 0, .int .i64 0, .int .i64 0, .int .i64 0, .int .i64 0, .int .i64 0, .int .i64 0, .int .i64 0, .int .i64 0, .int .i64 0, .int .i64 0, .int .i64 0, .int .i64 0, .int .i64 0, .int .i64 0, .int .i64 0, .int .i64 0, .int .i64 0, .int .i64 0, .int .i64 0, .int .i64 0, .int .i64 0, .int .i64 0, .int .i64 0, .int .i64 0, .int .i64 0, .int .i64 0, .int .i64 0, .int .i64 0, .int .i64 0, .int .i64 0, .int .i64 0, .int .i64 0, .int .i64 0, .int .i64 0, .int .i64 0, .int .i64 0, .int .i64 0, .int .i64 0, .int .i64 0, .int .i64 0, .int .i64 0, .int .i64 0, .int .i64 0, .int .i64 0, .int .i64 0, .int .i64 0, .int .i64 0, .int .i64 0, .int .i64 0, .int .i64 0, .int .i64 0, .int .i64 0, .int .i64 0, .int .i64 0, .int .i64 0, .int .i64 0, .int .i64 0, .int .i64 0, .int .i64 0, .int .i64 0, .int .i64 0, .int .i64 0, .int .i64 0, .int .i64 0, .int .i64 0, .int .i64 0, .int .i64 0, .int .i64 0, .int .i64 0, .int .i64 0, .int .i64 0, .int .i64 0, .int .i64 0, .int .i64 0, .int .i64 0, .int .i64 0, .int .i64 0, .int .i64 0, .int .i64 0, .int .i64 0, .int .i64 0, .int .i64 0, .int .i64 0, .int .i64 0, .int .i64 0, .int .i64 0], rfl, fun parts => by kernel_rfl⟩
theorem zv_35 : ZvTy Tryd.prog 35 (.agg [.int .i64 0, .int .i64 0, .int .i64 0, .int .i64 0, .int .i64 0, .int .i64 0, .int .i64 0]) := zvTy_of (z := .agg #[.int .i64 0, .int .i64 0, .int .i64 0, .int .i64 0, .int .i64 0, .int .i64 0, .int .i64 0]) (by kernel_rfl) rfl
theorem agg_35 : AggTy Tryd.prog 35 7 := aggTy_of Tryd.underlying35 rfl (by kernel_rfl)
theorem arr_35 : ArTy Tryd.prog 35 7 1 := arTy_of Tryd.underlying35 (by kernel_rfl)
theorem zt_35 : ZeroTy Tryd.prog 35 [.int .i64 0, .int .i64 0, .int .i64 0, .int .i64 0, .int .i64 0, .int .i64 0, .int .i64 0] := zeroTy_of (z := .agg #[.int .i64 0, .int .i64 0, .int .i64 0, .int .i64 0, .int .i64 0, .int .i64 0, .int .i64 0]) (by kernel_rfl) rfl
theorem bt_35 : BuildTy Tryd.prog 35 (fun i => some (i * 1, 1)) [.int .i64 0, .int .i64 0, .int .i64 0, .int .i64 0, .int .i64 0, .int .i64 0, .int .i64 0] := ⟨.agg #[.int .i64 0, .int .i64 0, .int .i64 0, .int .i64 0, .int .i64 0, .int .i64 0, .int .i64 0], rfl, fun parts => by kernel_rfl⟩
theorem zv_42 : ZvTy Tryd.prog 42 (.int .u64 0) := zvTy_of (z := .int .u64 0) (by kernel_rfl) rfl
theorem one_42 : OneTy Tryd.prog 42 := oneTy_of Tryd.underlying42 rfl (by kernel_rfl)
theorem zt_42 : ZeroTy Tryd.prog 42 [.int .u64 0] := zeroTy_of (z := .int .u64 0) (by kernel_rfl) rfl
theorem zv_43 : ZvTy Tryd.prog 43 (.agg [.sl 0 [], .int .i64 0, .int .u64 0]) := zvTy_of (z := .agg #[.slice none 0 0, .int .i64 0, .int .u64 0]) (by kernel_rfl) rfl
theorem agg_43 : AggTy Tryd.prog 43 3 := aggTy_of Tryd.underlying43 rfl (by kernel_rfl)
theorem fi_43_0 : FiTy Tryd.prog 43 0 0 := fiTy_of (k := 1) Tryd.underlying43 rfl rfl (by kernel_rfl) (by decide)
theorem fi_43_1 : FiTy Tryd.prog 43 1 1 := fiTy_of (k := 1) Tryd.underlying43 rfl rfl (by kernel_rfl) (by decide)
theorem fi_43_2 : FiTy Tryd.prog 43 2 2 := fiTy_of (k := 1) Tryd.underlying43 rfl rfl (by kernel_rfl) (by decide)
theorem zt_43 : ZeroTy Tryd.prog 43 [.sl 0 [], .int .i64 0, .int .u64 0] := zeroTy_of (z := .agg #[.slice none 0 0, .int .i64 0, .int .u64 0]) (by kernel_rfl) rfl
theorem bt_43 : BuildTy Tryd.prog 43 (fun i => match i with | 0 => some (0, 1) | 1 => some (1, 1) | 2 => some (2, 1) | _ => none) [.sl 0 [], .int .i64 0, .int .u64 0] := ⟨.agg #[.slice none 0 0, .int .i64 0, .int .u64 0], rfl, fun parts => by
  have h : Tryd.prog.built 43 parts = Instr.fill (#[(0, 1), (1, 1), (2, 1)][·]?) ((.agg #[.slice none 0 0, .int .i64 0, .int .u64 0] : Value)).cells parts := by kernel_rfl
  have hp : (fun i => (#[(0, 1), (1, 1), (2, 1)] : Array (Nat × Nat))[i]?) = (fun i => match i with | 0 => some (0, 1) | 1 => some (1, 1) | 2 => some (2, 1) | _ => none) := by
    funext i
    rcases i with _ | _ | _ | _ <;> rfl
  rw [h, hp]⟩
theorem zv_44 : ZvTy Tryd.prog 44 (.agg [.sl 0 [], .int .i64 0, .int .u64 0]) := zvTy_of (z := .agg #[.slice none 0 0, .int .i64 0, .int .u64 0]) (by kernel_rfl) rfl
theorem agg_44 : AggTy Tryd.prog 44 3 := aggTy_of Tryd.underlying44 rfl (by kernel_rfl)
theorem fi_44_0 : FiTy Tryd.prog 44 0 0 := fiTy_of (k := 1) Tryd.underlying44 rfl rfl (by kernel_rfl) (by decide)
theorem fi_44_1 : FiTy Tryd.prog 44 1 1 := fiTy_of (k := 1) Tryd.underlying44 rfl rfl (by kernel_rfl) (by decide)
theorem fi_44_2 : FiTy Tryd.prog 44 2 2 := fiTy_of (k := 1) Tryd.underlying44 rfl rfl (by kernel_rfl) (by decide)
theorem zt_44 : ZeroTy Tryd.prog 44 [.sl 0 [], .int .i64 0, .int .u64 0] := zeroTy_of (z := .agg #[.slice none 0 0, .int .i64 0, .int .u64 0]) (by kernel_rfl) rfl
theorem bt_44 : BuildTy Tryd.prog 44 (fun i => match i with | 0 => some (0, 1) | 1 => some (1, 1) | 2 => some (2, 1) | _ => none) [.sl 0 [], .int .i64 0, .int .u64 0] := ⟨.agg #[.slice none 0 0, .int .i64 0, .int .u64 0], rfl, fun parts => by
  have h : Tryd.prog.built 44 parts = Instr.fill (#[(0, 1), (1, 1), (2, 1)][·]?) ((.agg #[.slice none 0 0, .int .i64 0, .int .u64 0] : Value)).cells parts := by kernel_rfl
  have hp : (fun i => (#[(0, 1), (1, 1), (2, 1)] : Array (Nat × Nat))[i]?) = (fun i => match i with | 0 => some (0, 1) | 1 => some (1, 1) | 2 => some (2, 1) | _ => none) := by
    funext i
    rcases i with _ | _ | _ | _ <;> rfl
  rw [h, hp]⟩
theorem zv_51 : ZvTy Tryd.prog 51 (.sl 0 []) := zvTy_of (z := .slice none 0 0) (by kernel_rfl) rfl
theorem sl_51 : SlTy Tryd.prog 51 32 10 80 [.int .i64 0, .int .i64 0, .int .i64 0, .int .i64 0, .int .i64 0, .int .i64 0, .int .i64 0, .int .i64 0, .int .i64 0, .int .i64 0] := slTy_of Tryd.underlying51 (z := .agg #[.int .i64 0, .int .i64 0, .int .i64 0, .int .i64 0, .int .i64 0, .int .i64 0, .int .i64 0, .int .i64 0, .int .i64 0, .int .i64 0]) (by kernel_rfl) rfl (by decide) (by decide) rfl
theorem one_51 : OneTy Tryd.prog 51 := oneTy_of Tryd.underlying51 rfl (by kernel_rfl)
theorem zt_51 : ZeroTy Tryd.prog 51 [.sl 0 []] := zeroTy_of (z := .slice none 0 0) (by kernel_rfl) rfl
theorem zv_61 : ZvTy Tryd.prog 61 (.agg [.str [], .str [], .str [], .str [], .str [], .str [], .str [], .str [], .str [], .str []]) := zvTy_of (z := .agg #[.string ByteArray.empty, .string ByteArray.empty, .string ByteArray.empty, .string ByteArray.empty, .string ByteArray.empty, .string ByteArray.empty, .string ByteArray.empty, .string ByteArray.empty, .string ByteArray.empty, .string ByteArray.empty]) (by kernel_rfl) rfl
theorem agg_61 : AggTy Tryd.prog 61 10 := aggTy_of Tryd.underlying61 rfl (by kernel_rfl)
theorem arr_61 : ArTy Tryd.prog 61 10 1 := arTy_of Tryd.underlying61 (by kernel_rfl)
theorem zt_61 : ZeroTy Tryd.prog 61 [.str [], .str [], .str [], .str [], .str [], .str [], .str [], .str [], .str [], .str []] := zeroTy_of (z := .agg #[.string ByteArray.empty, .string ByteArray.empty, .string ByteArray.empty, .string ByteArray.empty, .string ByteArray.empty, .string ByteArray.empty, .string ByteArray.empty, .string ByteArray.empty, .string ByteArray.empty, .string ByteArray.empty]) (by kernel_rfl) rfl
theorem bt_61 : BuildTy Tryd.prog 61 (fun i => some (i * 1, 1)) [.str [], .str [], .str [], .str [], .str [], .str [], .str [], .str [], .str [], .str []] := ⟨.agg #[.string ByteArray.empty, .string ByteArray.empty, .string ByteArray.empty, .string ByteArray.empty, .string ByteArray.empty, .string ByteArray.empty, .string ByteArray.empty, .string ByteArray.empty, .string ByteArray.empty, .string ByteArray.empty], rfl, fun parts => by kernel_rfl⟩
theorem zv_63 : ZvTy Tryd.prog 63 (.int .u64 0) := zvTy_of (z := .int .u64 0) (by kernel_rfl) rfl
theorem one_63 : OneTy Tryd.prog 63 := oneTy_of Tryd.underlying63 rfl (by kernel_rfl)
theorem zt_63 : ZeroTy Tryd.prog 63 [.int .u64 0] := zeroTy_of (z := .int .u64 0) (by kernel_rfl) rfl
theorem zv_64 : ZvTy Tryd.prog 64 (.agg [.bool false, .bool false, .bool false, .bool false, .bool false, .bool false, .bool false, .bool false, .bool false, .bool false]) := zvTy_of (z := .agg #[.bool false, .bool false, .bool false, .bool false, .bool false, .bool false, .bool false, .bool false, .bool false, .bool false]) (by kernel_rfl) rfl
theorem agg_64 : AggTy Tryd.prog 64 10 := aggTy_of Tryd.underlying64 rfl (by kernel_rfl)
theorem arr_64 : ArTy Tryd.prog 64 10 1 := arTy_of Tryd.underlying64 (by kernel_rfl)
theorem zt_64 : ZeroTy Tryd.prog 64 [.bool false, .bool false, .bool false, .bool false, .bool false, .bool false, .bool false, .bool false, .bool false, .bool false] := zeroTy_of (z := .agg #[.bool false, .bool false, .bool false, .bool false, .bool false, .bool false, .bool false, .bool false, .bool false, .bool false]) (by kernel_rfl) rfl
theorem bt_64 : BuildTy Tryd.prog 64 (fun i => some (i * 1, 1)) [.bool false, .bool false, .bool false, .bool false, .bool false, .bool false, .bool false, .bool false, .bool false, .bool false] := ⟨.agg #[.bool false, .bool false, .bool false, .bool false, .bool false, .bool false, .bool false, .bool false, .bool false, .bool false], rfl, fun parts => by kernel_rfl⟩
theorem zv_70 : ZvTy Tryd.prog 70 (.int .u32 0) := zvTy_of (z := .int .u32 0) (by kernel_rfl) rfl
theorem one_70 : OneTy Tryd.prog 70 := oneTy_of Tryd.underlying70 rfl (by kernel_rfl)
theorem zt_70 : ZeroTy Tryd.prog 70 [.int .u32 0] := zeroTy_of (z := .int .u32 0) (by kernel_rfl) rfl
theorem zv_77 : ZvTy Tryd.prog 77 (.agg [.int .i64 0, .int .i64 0, .int .i64 0, .int .i64 0, .int .i64 0, .int .i64 0, .int .i64 0, .int .i64 0, .int .i64 0, .int .i64 0]) := zvTy_of (z := .agg #[.int .i64 0, .int .i64 0, .int .i64 0, .int .i64 0, .int .i64 0, .int .i64 0, .int .i64 0, .int .i64 0, .int .i64 0, .int .i64 0]) (by kernel_rfl) rfl
theorem agg_77 : AggTy Tryd.prog 77 10 := aggTy_of Tryd.underlying77 rfl (by kernel_rfl)
theorem arr_77 : ArTy Tryd.prog 77 10 1 := arTy_of Tryd.underlying77 (by kernel_rfl)
theorem zt_77 : ZeroTy Tryd.prog 77 [.int .i64 0, .int .i64 0, .int .i64 0, .int .i64 0, .int .i64 0, .int .i64 0, .int .i64 0, .int .i64 0, .int .i64 0, .int .i64 0] := zeroTy_of (z := .agg #[.int .i64 0, .int .i64 0, .int .i64 0, .int .i64 0, .int .i64 0, .int .i64 0, .int .i64 0, .int .i64 0, .int .i64 0, .int .i64 0]) (by kernel_rfl) rfl
theorem bt_77 : BuildTy Tryd.prog 77 (fun i => some (i * 1, 1)) [.int .i64 0, .int .i64 0, .int .i64 0, .int .i64 0, .int .i64 0, .int .i64 0, .int .i64 0, .int .i64 0, .int .i64 0, .int .i64 0] := ⟨.agg #[.int .i64 0, .int .i64 0, .int .i64 0, .int .i64 0, .int .i64 0, .int .i64 0, .int .i64 0, .int .i64 0, .int .i64 0, .int .i64 0], rfl, fun parts => by kernel_rfl⟩
theorem zv_88 : ZvTy Tryd.prog 88 (.int .i64 0) := zvTy_of (z := .int .i64 0) (by kernel_rfl) rfl
theorem one_88 : OneTy Tryd.prog 88 := oneTy_of Tryd.underlying88 rfl (by kernel_rfl)
theorem zt_88 : ZeroTy Tryd.prog 88 [.int .i64 0] := zeroTy_of (z := .int .i64 0) (by kernel_rfl) rfl
theorem zv_94 : ZvTy Tryd.prog 94 (.int .u64 0) := zvTy_of (z := .int .u64 0) (by kernel_rfl) rfl
theorem one_94 : OneTy Tryd.prog 94 := oneTy_of Tryd.underlying94 rfl (by kernel_rfl)
theorem zt_94 : ZeroTy Tryd.prog 94 [.int .u64 0] := zeroTy_of (z := .int .u64 0) (by kernel_rfl) rfl
theorem zv_109 : ZvTy Tryd.prog 109 (.int .u8 0) := zvTy_of (z := .int .u8 0) (by kernel_rfl) rfl
theorem one_109 : OneTy Tryd.prog 109 := oneTy_of Tryd.underlying109 rfl (by kernel_rfl)
theorem zt_109 : ZeroTy Tryd.prog 109 [.int .u8 0] := zeroTy_of (z := .int .u8 0) (by kernel_rfl) rfl
theorem zv_110 : ZvTy Tryd.prog 110 (.int .u8 0) := zvTy_of (z := .int .u8 0) (by kernel_rfl) rfl
theorem one_110 : OneTy Tryd.prog 110 := oneTy_of Tryd.underlying110 rfl (by kernel_rfl)
theorem zt_110 : ZeroTy Tryd.prog 110 [.int .u8 0] := zeroTy_of (z := .int .u8 0) (by kernel_rfl) rfl
theorem zv_113 : ZvTy Tryd.prog 113 (.int .i32 0) := zvTy_of (z := .int .i32 0) (by kernel_rfl) rfl
theorem one_113 : OneTy Tryd.prog 113 := oneTy_of Tryd.underlying113 rfl (by kernel_rfl)
theorem zt_113 : ZeroTy Tryd.prog 113 [.int .i32 0] := zeroTy_of (z := .int .i32 0) (by kernel_rfl) rfl
theorem zv_114 : ZvTy Tryd.prog 114 (.int .i32 0) := zvTy_of (z := .int .i32 0) (by kernel_rfl) rfl
theorem one_114 : OneTy Tryd.prog 114 := oneTy_of Tryd.underlying114 rfl (by kernel_rfl)
theorem zt_114 : ZeroTy Tryd.prog 114 [.int .i32 0] := zeroTy_of (z := .int .i32 0) (by kernel_rfl) rfl
theorem flp_7 : ∃ fs, Tryd.prog.underlying 7 = some (.struct fs) ∧ ∀ (f : Nat) (off ft : Nat), ([(0, 2), (1, 3), (2, 4), (3, 6)] : List (Nat × Nat))[f]? = some (off, ft) → (∃ fd : Field, fs[f]? = some fd ∧ fd.offset = off ∧ fd.type = ft) ∧ FiTy Tryd.prog 7 f off := by
  refine ⟨_, Tryd.underlying7, fun f off ft h => ?_⟩
  rcases f with _ | _ | _ | _ | f
  · simp at h; obtain ⟨rfl, rfl⟩ := h; exact ⟨⟨_, rfl, rfl, rfl⟩, fi_7_0⟩
  · simp at h; obtain ⟨rfl, rfl⟩ := h; exact ⟨⟨_, rfl, rfl, rfl⟩, fi_7_1⟩
  · simp at h; obtain ⟨rfl, rfl⟩ := h; exact ⟨⟨_, rfl, rfl, rfl⟩, fi_7_2⟩
  · simp at h; obtain ⟨rfl, rfl⟩ := h; exact ⟨⟨_, rfl, rfl, rfl⟩, fi_7_3⟩
  · simp at h
def pl_7 : Nat → Option (Nat × Nat) := (fun i => match i with | 0 => some (0, 1) | 1 => some (1, 1) | 2 => some (2, 1) | 3 => some (3, 1) | _ => none)
theorem flp_8 : ∃ fs, Tryd.prog.underlying 8 = some (.struct fs) ∧ ∀ (f : Nat) (off ft : Nat), ([(0, 2), (1, 3), (2, 4), (3, 6)] : List (Nat × Nat))[f]? = some (off, ft) → (∃ fd : Field, fs[f]? = some fd ∧ fd.offset = off ∧ fd.type = ft) ∧ FiTy Tryd.prog 8 f off := by
  refine ⟨_, Tryd.underlying8, fun f off ft h => ?_⟩
  rcases f with _ | _ | _ | _ | f
  · simp at h; obtain ⟨rfl, rfl⟩ := h; exact ⟨⟨_, rfl, rfl, rfl⟩, fi_8_0⟩
  · simp at h; obtain ⟨rfl, rfl⟩ := h; exact ⟨⟨_, rfl, rfl, rfl⟩, fi_8_1⟩
  · simp at h; obtain ⟨rfl, rfl⟩ := h; exact ⟨⟨_, rfl, rfl, rfl⟩, fi_8_2⟩
  · simp at h; obtain ⟨rfl, rfl⟩ := h; exact ⟨⟨_, rfl, rfl, rfl⟩, fi_8_3⟩
  · simp at h
def pl_8 : Nat → Option (Nat × Nat) := (fun i => match i with | 0 => some (0, 1) | 1 => some (1, 1) | 2 => some (2, 1) | 3 => some (3, 1) | _ => none)
theorem flp_13 : ∃ fs, Tryd.prog.underlying 13 = some (.struct fs) ∧ ∀ (f : Nat) (off ft : Nat), ([(0, 9), (1, 12)] : List (Nat × Nat))[f]? = some (off, ft) → (∃ fd : Field, fs[f]? = some fd ∧ fd.offset = off ∧ fd.type = ft) ∧ FiTy Tryd.prog 13 f off := by
  refine ⟨_, Tryd.underlying13, fun f off ft h => ?_⟩
  rcases f with _ | _ | f
  · simp at h; obtain ⟨rfl, rfl⟩ := h; exact ⟨⟨_, rfl, rfl, rfl⟩, fi_13_0⟩
  · simp at h; obtain ⟨rfl, rfl⟩ := h; exact ⟨⟨_, rfl, rfl, rfl⟩, fi_13_1⟩
  · simp at h
def pl_13 : Nat → Option (Nat × Nat) := (fun i => match i with | 0 => some (0, 1) | 1 => some (1, 1) | _ => none)
theorem flp_14 : ∃ fs, Tryd.prog.underlying 14 = some (.struct fs) ∧ ∀ (f : Nat) (off ft : Nat), ([(0, 9), (1, 12)] : List (Nat × Nat))[f]? = some (off, ft) → (∃ fd : Field, fs[f]? = some fd ∧ fd.offset = off ∧ fd.type = ft) ∧ FiTy Tryd.prog 14 f off := by
  refine ⟨_, Tryd.underlying14, fun f off ft h => ?_⟩
  rcases f with _ | _ | f
  · simp at h; obtain ⟨rfl, rfl⟩ := h; exact ⟨⟨_, rfl, rfl, rfl⟩, fi_14_0⟩
  · simp at h; obtain ⟨rfl, rfl⟩ := h; exact ⟨⟨_, rfl, rfl, rfl⟩, fi_14_1⟩
  · simp at h
def pl_14 : Nat → Option (Nat × Nat) := (fun i => match i with | 0 => some (0, 1) | 1 => some (1, 1) | _ => none)
def pl_32 : Nat → Option (Nat × Nat) := (fun i => some (i * 1, 1))
def pl_33 : Nat → Option (Nat × Nat) := (fun i => some (i * 10, 10))
def pl_35 : Nat → Option (Nat × Nat) := (fun i => some (i * 1, 1))
theorem flp_43 : ∃ fs, Tryd.prog.underlying 43 = some (.struct fs) ∧ ∀ (f : Nat) (off ft : Nat), ([(0, 22), (1, 3), (2, 42)] : List (Nat × Nat))[f]? = some (off, ft) → (∃ fd : Field, fs[f]? = some fd ∧ fd.offset = off ∧ fd.type = ft) ∧ FiTy Tryd.prog 43 f off := by
  refine ⟨_, Tryd.underlying43, fun f off ft h => ?_⟩
  rcases f with _ | _ | _ | f
  · simp at h; obtain ⟨rfl, rfl⟩ := h; exact ⟨⟨_, rfl, rfl, rfl⟩, fi_43_0⟩
  · simp at h; obtain ⟨rfl, rfl⟩ := h; exact ⟨⟨_, rfl, rfl, rfl⟩, fi_43_1⟩
  · simp at h; obtain ⟨rfl, rfl⟩ := h; exact ⟨⟨_, rfl, rfl, rfl⟩, fi_43_2⟩
  · simp at h
def pl_43 : Nat → Option (Nat × Nat) := (fun i => match i with | 0 => some (0, 1) | 1 => some (1, 1) | 2 => some (2, 1) | _ => none)
theorem flp_44 : ∃ fs, Tryd.prog.underlying 44 = some (.struct fs) ∧ ∀ (f : Nat) (off ft : Nat), ([(0, 22), (1, 3), (2, 42)] : List (Nat × Nat))[f]? = some (off, ft) → (∃ fd : Field, fs[f]? = some fd ∧ fd.offset = off ∧ fd.type = ft) ∧ FiTy Tryd.prog 44 f off := by
  refine ⟨_, Tryd.underlying44, fun f off ft h => ?_⟩
  rcases f with _ | _ | _ | f
  · simp at h; obtain ⟨rfl, rfl⟩ := h; exact ⟨⟨_, rfl, rfl, rfl⟩, fi_44_0⟩
  · simp at h; obtain ⟨rfl, rfl⟩ := h; exact ⟨⟨_, rfl, rfl, rfl⟩, fi_44_1⟩
  · simp at h; obtain ⟨rfl, rfl⟩ := h; exact ⟨⟨_, rfl, rfl, rfl⟩, fi_44_2⟩
  · simp at h
def pl_44 : Nat → Option (Nat × Nat) := (fun i => match i with | 0 => some (0, 1) | 1 => some (1, 1) | 2 => some (2, 1) | _ => none)
def pl_61 : Nat → Option (Nat × Nat) := (fun i => some (i * 1, 1))
def pl_64 : Nat → Option (Nat × Nat) := (fun i => some (i * 1, 1))
def pl_77 : Nat → Option (Nat × Nat) := (fun i => some (i * 1, 1))
def kdL : List (Nat × (TK)) := [(2, .int .i64), (3, .int .i64), (4, .bool), (5, .int .u8), (6, .int .u8), (9, .str), (10, .str), (11, .str), (12, .int .u64), (21, .int .i32), (42, .int .u64), (63, .int .u64), (70, .int .u32), (88, .int .i64), (94, .int .u64), (109, .int .u8), (110, .int .u8), (113, .int .i32), (114, .int .i32)]
def slL : List (Nat × (Nat × Nat × Nat × List PV)) := [(22, 5, 1, 1, [.int .u8 0]), (24, 3, 1, 8, [.int .i64 0]), (51, 32, 10, 80, [.int .i64 0, .int .i64 0, .int .i64 0, .int .i64 0, .int .i64 0, .int .i64 0, .int .i64 0, .int .i64 0, .int .i64 0, .int .i64 0])]
def oneL : List (Nat × (Unit)) := [(2, ()), (3, ()), (4, ()), (5, ()), (6, ()), (9, ()), (10, ()), (11, ()), (12, ()), (21, ()), (22, ()), (24, ()), (42, ()), (51, ()), (63, ()), (70, ()), (88, ()), (94, ()), (109, ()), (110, ()), (113, ()), (114, ())]
def aggL : List (Nat × (Nat)) := [(7, 4), (8, 4), (13, 2), (14, 2), (32, 10), (33, 100), (35, 7), (43, 3), (44, 3), (61, 10), (64, 10), (77, 10)]
def arrL : List (Nat × (Nat × Nat)) := [(32, 10, 1), (33, 10, 10), (35, 7, 1), (61, 10, 1), (64, 10, 1), (77, 10, 1)]
def areL : List (Nat × (Nat × Nat)) := [(32, 10, 3), (35, 7, 3), (61, 10, 9), (64, 10, 4), (77, 10, 3)]
def flL : List (Nat × (List (Nat × Nat))) := [(7, [(0, 2), (1, 3), (2, 4), (3, 6)]), (8, [(0, 2), (1, 3), (2, 4), (3, 6)]), (13, [(0, 9), (1, 12)]), (14, [(0, 9), (1, 12)]), (43, [(0, 22), (1, 3), (2, 42)]), (44, [(0, 22), (1, 3), (2, 42)])]
def ztL : List (Nat × (List PV)) := [(2, [.int .i64 0]), (3, [.int .i64 0]), (4, [.bool false]), (5, [.int .u8 0]), (6, [.int .u8 0]), (7, [.int .i64 0, .int .i64 0, .bool false, .int .u8 0]), (8, [.int .i64 0, .int .i64 0, .bool false, .int .u8 0]), (9, [.str []]), (10, [.str []]), (11, [.str []]), (12, [.int .u64 0]), (13, [.str [], .int .u64 0]), (14, [.str [], .int .u64 0]), (21, [.int .i32 0]), (22, [.sl 0 []]), (24, [.sl 0 []]), (32, [.int .i64 0, .int .i64 0, .int .i64 0, .int .i64 0, .int .i64 0, .int .i64 0, .int .i64 0, .int .i64 0, .int .i64 0, .int .i64 0]), (33, [.int .i64 0, .int .i64 0, .int .i64 0, .int .i64 0, .int .i64 0, .int .i64 0, .int .i64 0, .int .i64 0, .int .i64 0, .int .i64 0, .int .i64 0, .int .i64 0, .int .i64 0, .int .i64 0, .int .i64 0, .int .i64 0, .int .i64 0, .int .i64 0, .int .i64 0, .int .i64 0, .int .i64 0, .int .i64 0, .int .i64 0, .int .i64 0, .int .i64 0, .int .i64 0, .int .i64 0, .int .i64 0, .int .i64 0, .int .i64 0, .int .i64 0, .int .i64 0, .int .i64 0, .int .i64 0, .int .i64 0, .int .i64 0, .int .i64 0, .int .i64 0, .int .i64 0, .int .i64 0, .int .i64 0, .int .i64 0, .int .i64 0, .int .i64 0, .int .i64 0, .int .i64 0, .int .i64 0, .int .i64 0, .int .i64 0, .int .i64 0, .int .i64 0, .int .i64 0, .int .i64 0, .int .i64 0, .int .i64 0, .int .i64 0, .int .i64 0, .int .i64 0, .int .i64 0, .int .i64 0, .int .i64 0, .int .i64 0, .int .i64 0, .int .i64 0, .int .i64 0, .int .i64 0, .int .i64 0, .int .i64 0, .int .i64 0, .int .i64 0, .int .i64 0, .int .i64 0, .int .i64 0, .int .i64 0, .int .i64 0, .int .i64 0, .int .i64 0, .int .i64 0, .int .i64 0, .int .i64 0, .int .i64 0, .int .i64 0, .int .i64 0, .int .i64 0, .int .i64 0, .int .i64 0, .int .i64 0, .int .i64 0, .int .i64 0, .int .i64 0, .int .i64 0, .int .i64 0, .int .i64 0, .int .i64 0, .int .i64 0, .int .i64 0, .int .i64 0, .int .i64 0, .int .i64 0, .int .i64 0]), (35, [.int .i64 0, .int .i64 0, .int .i64 0, .int .i64 0, .int .i64 0, .int .i64 0, .int .i64 0]), (42, [.int .u64 0]), (43, [.sl 0 [], .int .i64 0, .int .u64 0]), (44, [.sl 0 [], .int .i64 0, .int .u64 0]), (51, [.sl 0 []]), (61, [.str [], .str [], .str [], .str [], .str [], .str [], .str [], .str [], .str [], .str []]), (63, [.int .u64 0]), (64, [.bool false, .bool false, .bool false, .bool false, .bool false, .bool false, .bool false, .bool false, .bool false, .bool false]), (70, [.int .u32 0]), (77, [.int .i64 0, .int .i64 0, .int .i64 0, .int .i64 0, .int .i64 0, .int .i64 0, .int .i64 0, .int .i64 0, .int .i64 0, .int .i64 0]), (88, [.int .i64 0]), (94, [.int .u64 0]), (109, [.int .u8 0]), (110, [.int .u8 0]), (113, [.int .i32 0]), (114, [.int .i32 0])]
def btL : List (Nat × ((Nat → Option (Nat × Nat)) × List PV)) := [(7, pl_7, [.int .i64 0, .int .i64 0, .bool false, .int .u8 0]), (8, pl_8, [.int .i64 0, .int .i64 0, .bool false, .int .u8 0]), (13, pl_13, [.str [], .int .u64 0]), (14, pl_14, [.str [], .int .u64 0]), (32, pl_32, [.int .i64 0, .int .i64 0, .int .i64 0, .int .i64 0, .int .i64 0, .int .i64 0, .int .i64 0, .int .i64 0, .int .i64 0, .int .i64 0]), (33, pl_33, [.int .i64 0, .int .i64 0, .int .i64 0, .int .i64 0, .int .i64 0, .int .i64 0, .int .i64 0, .int .i64 0, .int .i64 0, .int .i64 0, .int .i64 0, .int .i64 0, .int .i64 0, .int .i64 0, .int .i64 0, .int .i64 0, .int .i64 0, .int .i64 0, .int .i64 0, .int .i64 0, .int .i64 0, .int .i64 0, .int .i64 0, .int .i64 0, .int .i64 0, .int .i64 0, .int .i64 0, .int .i64 0, .int .i64 0, .int .i64 0, .int .i64 0, .int .i64 0, .int .i64 0, .int .i64 0, .int .i64 0, .int .i64 0, .int .i64 0, .int .i64 0, .int .i64 0, .int .i64 0, .int .i64 0, .int .i64 0, .int .i64 0, .int .i64 0, .int .i64 0, .int .i64 0, .int .i64 0, .int .i64 0, .int .i64 0, .int .i64 0, .int .i64 0, .int .i64 0, .int .i64 0, .int .i64 0, .int .i64 0, .int .i64 0, .int .i64 0, .int .i64 0, .int .i64 0, .int .i64 0, .int .i64 0, .int .i64 0, .int .i64 0, .int .i64 0, .int .i64 0, .int .i64 0, .int .i64 0, .int .i64 0, .int .i64 0, .int .i64 0, .int .i64 0, .int .i64 0, .int .i64 0, .int .i64 0, .int .i64 0, .int .i64 0, .int .i64 0, .int .i64 0, .int .i64 0, .int .i64 0, .int .i64 0, .int .i64 0, .int .i64 0, .int .i64 0, .int .i64 0, .int .i64 0, .int .i64 0, .int .i64 0, .int .i64 0, .int .i64 0, .int .i64 0, .int .i64 0, .int .i64 0, .int .i64 0, .int .i64 0, .int .i64 0, .int .i64 0, .int .i64 0, .int .i64 0, .int .i64 0]), (35, pl_35, [.int .i64 0, .int .i64 0, .int .i64 0, .int .i64 0, .int .i64 0, .int .i64 0, .int .i64 0]), (43, pl_43, [.sl 0 [], .int .i64 0, .int .u64 0]), (44, pl_44, [.sl 0 [], .int .i64 0, .int .u64 0]), (61, pl_61, [.str [], .str [], .str [], .str [], .str [], .str [], .str [], .str [], .str [], .str []]), (64, pl_64, [.bool false, .bool false, .bool false, .bool false, .bool false, .bool false, .bool false, .bool false, .bool false, .bool false]), (77, pl_77, [.int .i64 0, .int .i64 0, .int .i64 0, .int .i64 0, .int .i64 0, .int .i64 0, .int .i64 0, .int .i64 0, .int .i64 0, .int .i64 0])]
def mpL : List (Nat × (Nat × Nat)) := []
def zvL : List (Nat × (PV)) := [(2, .int .i64 0), (3, .int .i64 0), (4, .bool false), (5, .int .u8 0), (6, .int .u8 0), (7, .agg [.int .i64 0, .int .i64 0, .bool false, .int .u8 0]), (8, .agg [.int .i64 0, .int .i64 0, .bool false, .int .u8 0]), (9, .str []), (10, .str []), (11, .str []), (12, .int .u64 0), (13, .agg [.str [], .int .u64 0]), (14, .agg [.str [], .int .u64 0]), (21, .int .i32 0), (22, .sl 0 []), (24, .sl 0 []), (32, .agg [.int .i64 0, .int .i64 0, .int .i64 0, .int .i64 0, .int .i64 0, .int .i64 0, .int .i64 0, .int .i64 0, .int .i64 0, .int .i64 0]), (33, .agg [.int .i64 0, .int .i64 0, .int .i64 0, .int .i64 0, .int .i64 0, .int .i64 0, .int .i64 0, .int .i64 0, .int .i64 0, .int .i64 0, .int .i64 0, .int .i64 0, .int .i64 0, .int .i64 0, .int .i64 0, .int .i64 0, .int .i64 0, .int .i64 0, .int .i64 0, .int .i64 0, .int .i64 0, .int .i64 0, .int .i64 0, .int .i64 0, .int .i64 0, .int .i64 0, .int .i64 0, .int .i64 0, .int .i64 0, .int .i64 0, .int .i64 0, .int .i64 0, .int .i64 0, .int .i64 0, .int .i64 0, .int .i64 0, .int .i64 0, .int .i64 0, .int .i64 0, .int .i64 0, .int .i64 0, .int .i64 0, .int .i64 0, .int .i64 0, .int .i64 0, .int .i64 0, .int .i64 0, .int .i64 0, .int .i64 0, .int .i64 0, .int .i64 0, .int .i64 0, .int .i64 0, .int .i64 0, .int .i64 0, .int .i64 0, .int .i64 0, .int .i64 0, .int .i64 0, .int .i64 0, .int .i64 0, .int .i64 0, .int .i64 0, .int .i64 0, .int .i64 0, .int .i64 0, .int .i64 0, .int .i64 0, .int .i64 0, .int .i64 0, .int .i64 0, .int .i64 0, .int .i64 0, .int .i64 0, .int .i64 0, .int .i64 0, .int .i64 0, .int .i64 0, .int .i64 0, .int .i64 0, .int .i64 0, .int .i64 0, .int .i64 0, .int .i64 0, .int .i64 0, .int .i64 0, .int .i64 0, .int .i64 0, .int .i64 0, .int .i64 0, .int .i64 0, .int .i64 0, .int .i64 0, .int .i64 0, .int .i64 0, .int .i64 0, .int .i64 0, .int .i64 0, .int .i64 0, .int .i64 0]), (35, .agg [.int .i64 0, .int .i64 0, .int .i64 0, .int .i64 0, .int .i64 0, .int .i64 0, .int .i64 0]), (42, .int .u64 0), (43, .agg [.sl 0 [], .int .i64 0, .int .u64 0]), (44, .agg [.sl 0 [], .int .i64 0, .int .u64 0]), (51, .sl 0 []), (61, .agg [.str [], .str [], .str [], .str [], .str [], .str [], .str [], .str [], .str [], .str []]), (63, .int .u64 0), (64, .agg [.bool false, .bool false, .bool false, .bool false, .bool false, .bool false, .bool false, .bool false, .bool false, .bool false]), (70, .int .u32 0), (77, .agg [.int .i64 0, .int .i64 0, .int .i64 0, .int .i64 0, .int .i64 0, .int .i64 0, .int .i64 0, .int .i64 0, .int .i64 0, .int .i64 0]), (88, .int .i64 0), (94, .int .u64 0), (109, .int .u8 0), (110, .int .u8 0), (113, .int .i32 0), (114, .int .i32 0)]
def tf : TF Tryd.prog where
  kd := kdL
  sl := slL
  one := oneL
  agg := aggL
  arr := arrL
  are := areL
  fl := flL
  zt := ztL
  bt := btL
  mp := mpL
  zv := zvL
  mix := by kernel_rfl
  kd_ok := ⟨Tryd.underlying2, Tryd.underlying3, Tryd.underlying4, Tryd.underlying5, Tryd.underlying6, Tryd.underlying9, Tryd.underlying10, Tryd.underlying11, Tryd.underlying12, Tryd.underlying21, Tryd.underlying42, Tryd.underlying63, Tryd.underlying70, Tryd.underlying88, Tryd.underlying94, Tryd.underlying109, Tryd.underlying110, Tryd.underlying113, Tryd.underlying114, trivial⟩
  sl_ok := ⟨sl_22, sl_24, sl_51, trivial⟩
  one_ok := ⟨one_2, one_3, one_4, one_5, one_6, one_9, one_10, one_11, one_12, one_21, one_22, one_24, one_42, one_51, one_63, one_70, one_88, one_94, one_109, one_110, one_113, one_114, trivial⟩
  agg_ok := ⟨agg_7, agg_8, agg_13, agg_14, agg_32, agg_33, agg_35, agg_43, agg_44, agg_61, agg_64, agg_77, trivial⟩
  arr_ok := ⟨arr_32, arr_33, arr_35, arr_61, arr_64, arr_77, trivial⟩
  are_ok := ⟨Tryd.underlying32, Tryd.underlying35, Tryd.underlying61, Tryd.underlying64, Tryd.underlying77, trivial⟩
  fl_ok := ⟨flp_7, flp_8, flp_13, flp_14, flp_43, flp_44, trivial⟩
  zt_ok := ⟨zt_2, zt_3, zt_4, zt_5, zt_6, zt_7, zt_8, zt_9, zt_10, zt_11, zt_12, zt_13, zt_14, zt_21, zt_22, zt_24, zt_32, zt_33, zt_35, zt_42, zt_43, zt_44, zt_51, zt_61, zt_63, zt_64, zt_70, zt_77, zt_88, zt_94, zt_109, zt_110, zt_113, zt_114, trivial⟩
  bt_ok := ⟨bt_7, bt_8, bt_13, bt_14, bt_32, bt_33, bt_35, bt_43, bt_44, bt_61, bt_64, bt_77, trivial⟩
  mp_ok := trivial
  zv_ok := ⟨zv_2, zv_3, zv_4, zv_5, zv_6, zv_7, zv_8, zv_9, zv_10, zv_11, zv_12, zv_13, zv_14, zv_21, zv_22, zv_24, zv_32, zv_33, zv_35, zv_42, zv_43, zv_44, zv_51, zv_61, zv_63, zv_64, zv_70, zv_77, zv_88, zv_94, zv_109, zv_110, zv_113, zv_114, trivial⟩
end Go.Proofs.YtppocfcopnaebaaDoor.Tf
