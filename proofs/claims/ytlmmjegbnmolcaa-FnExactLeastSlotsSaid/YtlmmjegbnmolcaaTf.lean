/- The tables of this translation for the interpreter, each fact closed by the kernel. No conditions. -/
import Derived.Test.YtlmmjegbnmolcaaRows
import Derived.Test.YtlmmjegbnmolcaaPwQ
namespace Go.Proofs.Ytlmmjegbnmolcaa.Tf
open Go.RowKit
set_option maxRecDepth 20000

theorem zv_2 : ZvTy Try.prog 2 (.int .i64 0) := zvTy_of (z := .int .i64 0) (by kernel_rfl) rfl
theorem one_2 : OneTy Try.prog 2 := oneTy_of Try.underlying2 rfl (by kernel_rfl)
theorem zt_2 : ZeroTy Try.prog 2 [.int .i64 0] := zeroTy_of (z := .int .i64 0) (by kernel_rfl) rfl
theorem zv_3 : ZvTy Try.prog 3 (.int .i64 0) := zvTy_of (z := .int .i64 0) (by kernel_rfl) rfl
theorem one_3 : OneTy Try.prog 3 := oneTy_of Try.underlying3 rfl (by kernel_rfl)
theorem zt_3 : ZeroTy Try.prog 3 [.int .i64 0] := zeroTy_of (z := .int .i64 0) (by kernel_rfl) rfl
theorem zv_4 : ZvTy Try.prog 4 (.bool false) := zvTy_of (z := .bool false) (by kernel_rfl) rfl
theorem one_4 : OneTy Try.prog 4 := oneTy_of Try.underlying4 rfl (by kernel_rfl)
theorem zt_4 : ZeroTy Try.prog 4 [.bool false] := zeroTy_of (z := .bool false) (by kernel_rfl) rfl
theorem zv_5 : ZvTy Try.prog 5 (.int .u8 0) := zvTy_of (z := .int .u8 0) (by kernel_rfl) rfl
theorem one_5 : OneTy Try.prog 5 := oneTy_of Try.underlying5 rfl (by kernel_rfl)
theorem zt_5 : ZeroTy Try.prog 5 [.int .u8 0] := zeroTy_of (z := .int .u8 0) (by kernel_rfl) rfl
theorem zv_6 : ZvTy Try.prog 6 (.int .u8 0) := zvTy_of (z := .int .u8 0) (by kernel_rfl) rfl
theorem one_6 : OneTy Try.prog 6 := oneTy_of Try.underlying6 rfl (by kernel_rfl)
theorem zt_6 : ZeroTy Try.prog 6 [.int .u8 0] := zeroTy_of (z := .int .u8 0) (by kernel_rfl) rfl
theorem zv_7 : ZvTy Try.prog 7 (.agg [.int .i64 0, .int .i64 0, .bool false, .int .u8 0]) := zvTy_of (z := .agg #[.int .i64 0, .int .i64 0, .bool false, .int .u8 0]) (by kernel_rfl) rfl
theorem agg_7 : AggTy Try.prog 7 4 := aggTy_of Try.underlying7 rfl (by kernel_rfl)
theorem fi_7_0 : FiTy Try.prog 7 0 0 := fiTy_of (k := 1) Try.underlying7 rfl rfl (by kernel_rfl) (by decide)
theorem fi_7_1 : FiTy Try.prog 7 1 1 := fiTy_of (k := 1) Try.underlying7 rfl rfl (by kernel_rfl) (by decide)
theorem fi_7_2 : FiTy Try.prog 7 2 2 := fiTy_of (k := 1) Try.underlying7 rfl rfl (by kernel_rfl) (by decide)
theorem fi_7_3 : FiTy Try.prog 7 3 3 := fiTy_of (k := 1) Try.underlying7 rfl rfl (by kernel_rfl) (by decide)
theorem zt_7 : ZeroTy Try.prog 7 [.int .i64 0, .int .i64 0, .bool false, .int .u8 0] := zeroTy_of (z := .agg #[.int .i64 0, .int .i64 0, .bool false, .int .u8 0]) (by kernel_rfl) rfl
theorem bt_7 : BuildTy Try.prog 7 (fun i => match i with | 0 => some (0, 1) | 1 => some (1, 1) | 2 => some (2, 1) | 3 => some (3, 1) | _ => none) [.int .i64 0, .int .i64 0, .bool false, .int .u8 0] := ⟨.agg #[.int .i64 0, .int .i64 0, .bool false, .int .u8 0], rfl, fun parts => by
  have h : Try.prog.built 7 parts = Instr.fill (#[(0, 1), (1, 1), (2, 1), (3, 1)][·]?) ((.agg #[.int .i64 0, .int .i64 0, .bool false, .int .u8 0] : Value)).cells parts := by kernel_rfl
  have hp : (fun i => (#[(0, 1), (1, 1), (2, 1), (3, 1)] : Array (Nat × Nat))[i]?) = (fun i => match i with | 0 => some (0, 1) | 1 => some (1, 1) | 2 => some (2, 1) | 3 => some (3, 1) | _ => none) := by
    funext i
    rcases i with _ | _ | _ | _ | _ <;> rfl
  rw [h, hp]⟩
theorem zv_8 : ZvTy Try.prog 8 (.agg [.int .i64 0, .int .i64 0, .bool false, .int .u8 0]) := zvTy_of (z := .agg #[.int .i64 0, .int .i64 0, .bool false, .int .u8 0]) (by kernel_rfl) rfl
theorem agg_8 : AggTy Try.prog 8 4 := aggTy_of Try.underlying8 rfl (by kernel_rfl)
theorem fi_8_0 : FiTy Try.prog 8 0 0 := fiTy_of (k := 1) Try.underlying8 rfl rfl (by kernel_rfl) (by decide)
theorem fi_8_1 : FiTy Try.prog 8 1 1 := fiTy_of (k := 1) Try.underlying8 rfl rfl (by kernel_rfl) (by decide)
theorem fi_8_2 : FiTy Try.prog 8 2 2 := fiTy_of (k := 1) Try.underlying8 rfl rfl (by kernel_rfl) (by decide)
theorem fi_8_3 : FiTy Try.prog 8 3 3 := fiTy_of (k := 1) Try.underlying8 rfl rfl (by kernel_rfl) (by decide)
theorem zt_8 : ZeroTy Try.prog 8 [.int .i64 0, .int .i64 0, .bool false, .int .u8 0] := zeroTy_of (z := .agg #[.int .i64 0, .int .i64 0, .bool false, .int .u8 0]) (by kernel_rfl) rfl
theorem bt_8 : BuildTy Try.prog 8 (fun i => match i with | 0 => some (0, 1) | 1 => some (1, 1) | 2 => some (2, 1) | 3 => some (3, 1) | _ => none) [.int .i64 0, .int .i64 0, .bool false, .int .u8 0] := ⟨.agg #[.int .i64 0, .int .i64 0, .bool false, .int .u8 0], rfl, fun parts => by
  have h : Try.prog.built 8 parts = Instr.fill (#[(0, 1), (1, 1), (2, 1), (3, 1)][·]?) ((.agg #[.int .i64 0, .int .i64 0, .bool false, .int .u8 0] : Value)).cells parts := by kernel_rfl
  have hp : (fun i => (#[(0, 1), (1, 1), (2, 1), (3, 1)] : Array (Nat × Nat))[i]?) = (fun i => match i with | 0 => some (0, 1) | 1 => some (1, 1) | 2 => some (2, 1) | 3 => some (3, 1) | _ => none) := by
    funext i
    rcases i with _ | _ | _ | _ | _ <;> rfl
  rw [h, hp]⟩
theorem zv_9 : ZvTy Try.prog 9 (.str []) := zvTy_of (z := .string ByteArray.empty) (by kernel_rfl) rfl
theorem one_9 : OneTy Try.prog 9 := oneTy_of Try.underlying9 rfl (by kernel_rfl)
theorem zt_9 : ZeroTy Try.prog 9 [.str []] := zeroTy_of (z := .string ByteArray.empty) (by kernel_rfl) rfl
theorem zv_10 : ZvTy Try.prog 10 (.str []) := zvTy_of (z := .string ByteArray.empty) (by kernel_rfl) rfl
theorem one_10 : OneTy Try.prog 10 := oneTy_of Try.underlying10 rfl (by kernel_rfl)
theorem zt_10 : ZeroTy Try.prog 10 [.str []] := zeroTy_of (z := .string ByteArray.empty) (by kernel_rfl) rfl
theorem zv_11 : ZvTy Try.prog 11 (.str []) := zvTy_of (z := .string ByteArray.empty) (by kernel_rfl) rfl
theorem one_11 : OneTy Try.prog 11 := oneTy_of Try.underlying11 rfl (by kernel_rfl)
theorem zt_11 : ZeroTy Try.prog 11 [.str []] := zeroTy_of (z := .string ByteArray.empty) (by kernel_rfl) rfl
theorem zv_12 : ZvTy Try.prog 12 (.int .u64 0) := zvTy_of (z := .int .u64 0) (by kernel_rfl) rfl
theorem one_12 : OneTy Try.prog 12 := oneTy_of Try.underlying12 rfl (by kernel_rfl)
theorem zt_12 : ZeroTy Try.prog 12 [.int .u64 0] := zeroTy_of (z := .int .u64 0) (by kernel_rfl) rfl
theorem zv_13 : ZvTy Try.prog 13 (.agg [.str [], .int .u64 0]) := zvTy_of (z := .agg #[.string ByteArray.empty, .int .u64 0]) (by kernel_rfl) rfl
theorem agg_13 : AggTy Try.prog 13 2 := aggTy_of Try.underlying13 rfl (by kernel_rfl)
theorem fi_13_0 : FiTy Try.prog 13 0 0 := fiTy_of (k := 1) Try.underlying13 rfl rfl (by kernel_rfl) (by decide)
theorem fi_13_1 : FiTy Try.prog 13 1 1 := fiTy_of (k := 1) Try.underlying13 rfl rfl (by kernel_rfl) (by decide)
theorem zt_13 : ZeroTy Try.prog 13 [.str [], .int .u64 0] := zeroTy_of (z := .agg #[.string ByteArray.empty, .int .u64 0]) (by kernel_rfl) rfl
theorem bt_13 : BuildTy Try.prog 13 (fun i => match i with | 0 => some (0, 1) | 1 => some (1, 1) | _ => none) [.str [], .int .u64 0] := ⟨.agg #[.string ByteArray.empty, .int .u64 0], rfl, fun parts => by
  have h : Try.prog.built 13 parts = Instr.fill (#[(0, 1), (1, 1)][·]?) ((.agg #[.string ByteArray.empty, .int .u64 0] : Value)).cells parts := by kernel_rfl
  have hp : (fun i => (#[(0, 1), (1, 1)] : Array (Nat × Nat))[i]?) = (fun i => match i with | 0 => some (0, 1) | 1 => some (1, 1) | _ => none) := by
    funext i
    rcases i with _ | _ | _ <;> rfl
  rw [h, hp]⟩
theorem zv_14 : ZvTy Try.prog 14 (.agg [.str [], .int .u64 0]) := zvTy_of (z := .agg #[.string ByteArray.empty, .int .u64 0]) (by kernel_rfl) rfl
theorem agg_14 : AggTy Try.prog 14 2 := aggTy_of Try.underlying14 rfl (by kernel_rfl)
theorem fi_14_0 : FiTy Try.prog 14 0 0 := fiTy_of (k := 1) Try.underlying14 rfl rfl (by kernel_rfl) (by decide)
theorem fi_14_1 : FiTy Try.prog 14 1 1 := fiTy_of (k := 1) Try.underlying14 rfl rfl (by kernel_rfl) (by decide)
theorem zt_14 : ZeroTy Try.prog 14 [.str [], .int .u64 0] := zeroTy_of (z := .agg #[.string ByteArray.empty, .int .u64 0]) (by kernel_rfl) rfl
theorem bt_14 : BuildTy Try.prog 14 (fun i => match i with | 0 => some (0, 1) | 1 => some (1, 1) | _ => none) [.str [], .int .u64 0] := ⟨.agg #[.string ByteArray.empty, .int .u64 0], rfl, fun parts => by
  have h : Try.prog.built 14 parts = Instr.fill (#[(0, 1), (1, 1)][·]?) ((.agg #[.string ByteArray.empty, .int .u64 0] : Value)).cells parts := by kernel_rfl
  have hp : (fun i => (#[(0, 1), (1, 1)] : Array (Nat × Nat))[i]?) = (fun i => match i with | 0 => some (0, 1) | 1 => some (1, 1) | _ => none) := by
    funext i
    rcases i with _ | _ | _ <;> rfl
  rw [h, hp]⟩
theorem zv_21 : ZvTy Try.prog 21 (.int .i32 0) := zvTy_of (z := .int .i32 0) (by kernel_rfl) rfl
theorem one_21 : OneTy Try.prog 21 := oneTy_of Try.underlying21 rfl (by kernel_rfl)
theorem zt_21 : ZeroTy Try.prog 21 [.int .i32 0] := zeroTy_of (z := .int .i32 0) (by kernel_rfl) rfl
theorem zv_22 : ZvTy Try.prog 22 (.sl 0 []) := zvTy_of (z := .slice none 0 0) (by kernel_rfl) rfl
theorem sl_22 : SlTy Try.prog 22 5 1 1 [.int .u8 0] := slTy_of Try.underlying22 (z := .int .u8 0) (by kernel_rfl) rfl (by decide) (by decide) rfl
theorem one_22 : OneTy Try.prog 22 := oneTy_of Try.underlying22 rfl (by kernel_rfl)
theorem zt_22 : ZeroTy Try.prog 22 [.sl 0 []] := zeroTy_of (z := .slice none 0 0) (by kernel_rfl) rfl
theorem zv_24 : ZvTy Try.prog 24 (.sl 0 []) := zvTy_of (z := .slice none 0 0) (by kernel_rfl) rfl
theorem sl_24 : SlTy Try.prog 24 71 2 16 [.int .i64 0, .int .i64 0] := slTy_of Try.underlying24 (z := .agg #[.int .i64 0, .int .i64 0]) (by kernel_rfl) rfl (by decide) (by decide) rfl
theorem one_24 : OneTy Try.prog 24 := oneTy_of Try.underlying24 rfl (by kernel_rfl)
theorem zt_24 : ZeroTy Try.prog 24 [.sl 0 []] := zeroTy_of (z := .slice none 0 0) (by kernel_rfl) rfl
theorem zv_27 : ZvTy Try.prog 27 (.sl 0 []) := zvTy_of (z := .slice none 0 0) (by kernel_rfl) rfl
theorem sl_27 : SlTy Try.prog 27 3 1 8 [.int .i64 0] := slTy_of Try.underlying27 (z := .int .i64 0) (by kernel_rfl) rfl (by decide) (by decide) rfl
theorem one_27 : OneTy Try.prog 27 := oneTy_of Try.underlying27 rfl (by kernel_rfl)
theorem zt_27 : ZeroTy Try.prog 27 [.sl 0 []] := zeroTy_of (z := .slice none 0 0) (by kernel_rfl) rfl
theorem zv_33 : ZvTy Try.prog 33 (.sl 0 []) := zvTy_of (z := .slice none 0 0) (by kernel_rfl) rfl
theorem sl_33 : SlTy Try.prog 33 47 7 56 [.int .i64 0, .int .i64 0, .int .i64 0, .int .i64 0, .int .i64 0, .int .i64 0, .int .i64 0] := slTy_of Try.underlying33 (z := .agg #[.int .i64 0, .int .i64 0, .int .i64 0, .int .i64 0, .int .i64 0, .int .i64 0, .int .i64 0]) (by kernel_rfl) rfl (by decide) (by decide) rfl
theorem one_33 : OneTy Try.prog 33 := oneTy_of Try.underlying33 rfl (by kernel_rfl)
theorem zt_33 : ZeroTy Try.prog 33 [.sl 0 []] := zeroTy_of (z := .slice none 0 0) (by kernel_rfl) rfl
theorem zv_47 : ZvTy Try.prog 47 (.agg [.int .i64 0, .int .i64 0, .int .i64 0, .int .i64 0, .int .i64 0, .int .i64 0, .int .i64 0]) := zvTy_of (z := .agg #[.int .i64 0, .int .i64 0, .int .i64 0, .int .i64 0, .int .i64 0, .int .i64 0, .int .i64 0]) (by kernel_rfl) rfl
theorem agg_47 : AggTy Try.prog 47 7 := aggTy_of Try.underlying47 rfl (by kernel_rfl)
theorem arr_47 : ArTy Try.prog 47 7 1 := arTy_of Try.underlying47 (by kernel_rfl)
theorem zt_47 : ZeroTy Try.prog 47 [.int .i64 0, .int .i64 0, .int .i64 0, .int .i64 0, .int .i64 0, .int .i64 0, .int .i64 0] := zeroTy_of (z := .agg #[.int .i64 0, .int .i64 0, .int .i64 0, .int .i64 0, .int .i64 0, .int .i64 0, .int .i64 0]) (by kernel_rfl) rfl
theorem bt_47 : BuildTy Try.prog 47 (fun i => some (i * 1, 1)) [.int .i64 0, .int .i64 0, .int .i64 0, .int .i64 0, .int .i64 0, .int .i64 0, .int .i64 0] := ⟨.agg #[.int .i64 0, .int .i64 0, .int .i64 0, .int .i64 0, .int .i64 0, .int .i64 0, .int .i64 0], rfl, fun parts => by kernel_rfl⟩
theorem zv_53 : ZvTy Try.prog 53 (.sl 0 []) := zvTy_of (z := .slice none 0 0) (by kernel_rfl) rfl
theorem sl_53 : SlTy Try.prog 53 106 2 16 [.int .i64 0, .int .i64 0] := slTy_of Try.underlying53 (z := .agg #[.int .i64 0, .int .i64 0]) (by kernel_rfl) rfl (by decide) (by decide) rfl
theorem one_53 : OneTy Try.prog 53 := oneTy_of Try.underlying53 rfl (by kernel_rfl)
theorem zt_53 : ZeroTy Try.prog 53 [.sl 0 []] := zeroTy_of (z := .slice none 0 0) (by kernel_rfl) rfl
theorem zv_63 : ZvTy Try.prog 63 (.agg [.int .i64 0, .int .i64 0, .int .i64 0, .int .i64 0, .int .i64 0, .int .i64 0]) := zvTy_of (z := .agg #[.int .i64 0, .int .i64 0, .int .i64 0, .int .i64 0, .int .i64 0, .int .i64 0]) (by kernel_rfl) rfl
theorem agg_63 : AggTy Try.prog 63 6 := aggTy_of Try.underlying63 rfl (by kernel_rfl)
theorem arr_63 : ArTy Try.prog 63 6 1 := arTy_of Try.underlying63 (by kernel_rfl)
theorem zt_63 : ZeroTy Try.prog 63 [.int .i64 0, .int .i64 0, .int .i64 0, .int .i64 0, .int .i64 0, .int .i64 0] := zeroTy_of (z := .agg #[.int .i64 0, .int .i64 0, .int .i64 0, .int .i64 0, .int .i64 0, .int .i64 0]) (by kernel_rfl) rfl
theorem bt_63 : BuildTy Try.prog 63 (fun i => some (i * 1, 1)) [.int .i64 0, .int .i64 0, .int .i64 0, .int .i64 0, .int .i64 0, .int .i64 0] := ⟨.agg #[.int .i64 0, .int .i64 0, .int .i64 0, .int .i64 0, .int .i64 0, .int .i64 0], rfl, fun parts => by kernel_rfl⟩
theorem zv_64 : ZvTy Try.prog 64 (.agg [.int .i64 0, .int .i64 0, .int .i64 0, .int .i64 0, .int .i64 0, .int .i64 0]) := zvTy_of (z := .agg #[.int .i64 0, .int .i64 0, .int .i64 0, .int .i64 0, .int .i64 0, .int .i64 0]) (by kernel_rfl) rfl
theorem agg_64 : AggTy Try.prog 64 6 := aggTy_of Try.underlying64 rfl (by kernel_rfl)
theorem arr_64 : ArTy Try.prog 64 6 1 := arTy_of Try.underlying64 (by kernel_rfl)
theorem zt_64 : ZeroTy Try.prog 64 [.int .i64 0, .int .i64 0, .int .i64 0, .int .i64 0, .int .i64 0, .int .i64 0] := zeroTy_of (z := .agg #[.int .i64 0, .int .i64 0, .int .i64 0, .int .i64 0, .int .i64 0, .int .i64 0]) (by kernel_rfl) rfl
theorem bt_64 : BuildTy Try.prog 64 (fun i => some (i * 1, 1)) [.int .i64 0, .int .i64 0, .int .i64 0, .int .i64 0, .int .i64 0, .int .i64 0] := ⟨.agg #[.int .i64 0, .int .i64 0, .int .i64 0, .int .i64 0, .int .i64 0, .int .i64 0], rfl, fun parts => by kernel_rfl⟩
theorem zv_70 : ZvTy Try.prog 70 (.agg [.int .i64 0, .int .i64 0]) := zvTy_of (z := .agg #[.int .i64 0, .int .i64 0]) (by kernel_rfl) rfl
theorem agg_70 : AggTy Try.prog 70 2 := aggTy_of Try.underlying70 rfl (by kernel_rfl)
theorem fi_70_0 : FiTy Try.prog 70 0 0 := fiTy_of (k := 1) Try.underlying70 rfl rfl (by kernel_rfl) (by decide)
theorem fi_70_1 : FiTy Try.prog 70 1 1 := fiTy_of (k := 1) Try.underlying70 rfl rfl (by kernel_rfl) (by decide)
theorem zt_70 : ZeroTy Try.prog 70 [.int .i64 0, .int .i64 0] := zeroTy_of (z := .agg #[.int .i64 0, .int .i64 0]) (by kernel_rfl) rfl
theorem bt_70 : BuildTy Try.prog 70 (fun i => match i with | 0 => some (0, 1) | 1 => some (1, 1) | _ => none) [.int .i64 0, .int .i64 0] := ⟨.agg #[.int .i64 0, .int .i64 0], rfl, fun parts => by
  have h : Try.prog.built 70 parts = Instr.fill (#[(0, 1), (1, 1)][·]?) ((.agg #[.int .i64 0, .int .i64 0] : Value)).cells parts := by kernel_rfl
  have hp : (fun i => (#[(0, 1), (1, 1)] : Array (Nat × Nat))[i]?) = (fun i => match i with | 0 => some (0, 1) | 1 => some (1, 1) | _ => none) := by
    funext i
    rcases i with _ | _ | _ <;> rfl
  rw [h, hp]⟩
theorem zv_71 : ZvTy Try.prog 71 (.agg [.int .i64 0, .int .i64 0]) := zvTy_of (z := .agg #[.int .i64 0, .int .i64 0]) (by kernel_rfl) rfl
theorem agg_71 : AggTy Try.prog 71 2 := aggTy_of Try.underlying71 rfl (by kernel_rfl)
theorem fi_71_0 : FiTy Try.prog 71 0 0 := fiTy_of (k := 1) Try.underlying71 rfl rfl (by kernel_rfl) (by decide)
theorem fi_71_1 : FiTy Try.prog 71 1 1 := fiTy_of (k := 1) Try.underlying71 rfl rfl (by kernel_rfl) (by decide)
theorem zt_71 : ZeroTy Try.prog 71 [.int .i64 0, .int .i64 0] := zeroTy_of (z := .agg #[.int .i64 0, .int .i64 0]) (by kernel_rfl) rfl
theorem bt_71 : BuildTy Try.prog 71 (fun i => match i with | 0 => some (0, 1) | 1 => some (1, 1) | _ => none) [.int .i64 0, .int .i64 0] := ⟨.agg #[.int .i64 0, .int .i64 0], rfl, fun parts => by
  have h : Try.prog.built 71 parts = Instr.fill (#[(0, 1), (1, 1)][·]?) ((.agg #[.int .i64 0, .int .i64 0] : Value)).cells parts := by kernel_rfl
  have hp : (fun i => (#[(0, 1), (1, 1)] : Array (Nat × Nat))[i]?) = (fun i => match i with | 0 => some (0, 1) | 1 => some (1, 1) | _ => none) := by
    funext i
    rcases i with _ | _ | _ <;> rfl
  rw [h, hp]⟩
theorem zv_83 : ZvTy Try.prog 83 (.int .u64 0) := zvTy_of (z := .int .u64 0) (by kernel_rfl) rfl
theorem one_83 : OneTy Try.prog 83 := oneTy_of Try.underlying83 rfl (by kernel_rfl)
theorem zt_83 : ZeroTy Try.prog 83 [.int .u64 0] := zeroTy_of (z := .int .u64 0) (by kernel_rfl) rfl
theorem zv_84 : ZvTy Try.prog 84 (.agg [.sl 0 [], .int .i64 0, .int .u64 0]) := zvTy_of (z := .agg #[.slice none 0 0, .int .i64 0, .int .u64 0]) (by kernel_rfl) rfl
theorem agg_84 : AggTy Try.prog 84 3 := aggTy_of Try.underlying84 rfl (by kernel_rfl)
theorem fi_84_0 : FiTy Try.prog 84 0 0 := fiTy_of (k := 1) Try.underlying84 rfl rfl (by kernel_rfl) (by decide)
theorem fi_84_1 : FiTy Try.prog 84 1 1 := fiTy_of (k := 1) Try.underlying84 rfl rfl (by kernel_rfl) (by decide)
theorem fi_84_2 : FiTy Try.prog 84 2 2 := fiTy_of (k := 1) Try.underlying84 rfl rfl (by kernel_rfl) (by decide)
theorem zt_84 : ZeroTy Try.prog 84 [.sl 0 [], .int .i64 0, .int .u64 0] := zeroTy_of (z := .agg #[.slice none 0 0, .int .i64 0, .int .u64 0]) (by kernel_rfl) rfl
theorem bt_84 : BuildTy Try.prog 84 (fun i => match i with | 0 => some (0, 1) | 1 => some (1, 1) | 2 => some (2, 1) | _ => none) [.sl 0 [], .int .i64 0, .int .u64 0] := ⟨.agg #[.slice none 0 0, .int .i64 0, .int .u64 0], rfl, fun parts => by
  have h : Try.prog.built 84 parts = Instr.fill (#[(0, 1), (1, 1), (2, 1)][·]?) ((.agg #[.slice none 0 0, .int .i64 0, .int .u64 0] : Value)).cells parts := by kernel_rfl
  have hp : (fun i => (#[(0, 1), (1, 1), (2, 1)] : Array (Nat × Nat))[i]?) = (fun i => match i with | 0 => some (0, 1) | 1 => some (1, 1) | 2 => some (2, 1) | _ => none) := by
    funext i
    rcases i with _ | _ | _ | _ <;> rfl
  rw [h, hp]⟩
theorem zv_85 : ZvTy Try.prog 85 (.agg [.sl 0 [], .int .i64 0, .int .u64 0]) := zvTy_of (z := .agg #[.slice none 0 0, .int .i64 0, .int .u64 0]) (by kernel_rfl) rfl
theorem agg_85 : AggTy Try.prog 85 3 := aggTy_of Try.underlying85 rfl (by kernel_rfl)
theorem fi_85_0 : FiTy Try.prog 85 0 0 := fiTy_of (k := 1) Try.underlying85 rfl rfl (by kernel_rfl) (by decide)
theorem fi_85_1 : FiTy Try.prog 85 1 1 := fiTy_of (k := 1) Try.underlying85 rfl rfl (by kernel_rfl) (by decide)
theorem fi_85_2 : FiTy Try.prog 85 2 2 := fiTy_of (k := 1) Try.underlying85 rfl rfl (by kernel_rfl) (by decide)
theorem zt_85 : ZeroTy Try.prog 85 [.sl 0 [], .int .i64 0, .int .u64 0] := zeroTy_of (z := .agg #[.slice none 0 0, .int .i64 0, .int .u64 0]) (by kernel_rfl) rfl
theorem bt_85 : BuildTy Try.prog 85 (fun i => match i with | 0 => some (0, 1) | 1 => some (1, 1) | 2 => some (2, 1) | _ => none) [.sl 0 [], .int .i64 0, .int .u64 0] := ⟨.agg #[.slice none 0 0, .int .i64 0, .int .u64 0], rfl, fun parts => by
  have h : Try.prog.built 85 parts = Instr.fill (#[(0, 1), (1, 1), (2, 1)][·]?) ((.agg #[.slice none 0 0, .int .i64 0, .int .u64 0] : Value)).cells parts := by kernel_rfl
  have hp : (fun i => (#[(0, 1), (1, 1), (2, 1)] : Array (Nat × Nat))[i]?) = (fun i => match i with | 0 => some (0, 1) | 1 => some (1, 1) | 2 => some (2, 1) | _ => none) := by
    funext i
    rcases i with _ | _ | _ | _ <;> rfl
  rw [h, hp]⟩
theorem zv_95 : ZvTy Try.prog 95 (.agg [.int .i64 0, .int .i64 0, .int .i64 0, .int .i64 0, .int .i64 0, .int .i64 0, .int .i64 0, .int .i64 0, .int .i64 0, .int .i64 0]) := zvTy_of (z := .agg #[.int .i64 0, .int .i64 0, .int .i64 0, .int .i64 0, .int .i64 0, .int .i64 0, .int .i64 0, .int .i64 0, .int .i64 0, .int .i64 0]) (by kernel_rfl) rfl
theorem agg_95 : AggTy Try.prog 95 10 := aggTy_of Try.underlying95 rfl (by kernel_rfl)
theorem arr_95 : ArTy Try.prog 95 10 1 := arTy_of Try.underlying95 (by kernel_rfl)
theorem zt_95 : ZeroTy Try.prog 95 [.int .i64 0, .int .i64 0, .int .i64 0, .int .i64 0, .int .i64 0, .int .i64 0, .int .i64 0, .int .i64 0, .int .i64 0, .int .i64 0] := zeroTy_of (z := .agg #[.int .i64 0, .int .i64 0, .int .i64 0, .int .i64 0, .int .i64 0, .int .i64 0, .int .i64 0, .int .i64 0, .int .i64 0, .int .i64 0]) (by kernel_rfl) rfl
theorem bt_95 : BuildTy Try.prog 95 (fun i => some (i * 1, 1)) [.int .i64 0, .int .i64 0, .int .i64 0, .int .i64 0, .int .i64 0, .int .i64 0, .int .i64 0, .int .i64 0, .int .i64 0, .int .i64 0] := ⟨.agg #[.int .i64 0, .int .i64 0, .int .i64 0, .int .i64 0, .int .i64 0, .int .i64 0, .int .i64 0, .int .i64 0, .int .i64 0, .int .i64 0], rfl, fun parts => by kernel_rfl⟩
theorem zv_96 : ZvTy Try.prog 96 (.agg [.int .i64 0, .int .i64 0, .int .i64 0, .int .i64 0, .int .i64 0, .int .i64 0, .int .i64 0, .int .i64 0, .int .i64 0, .int .i64 0]) := zvTy_of (z := .agg #[.int .i64 0, .int .i64 0, .int .i64 0, .int .i64 0, .int .i64 0, .int .i64 0, .int .i64 0, .int .i64 0, .int .i64 0, .int .i64 0]) (by kernel_rfl) rfl
theorem agg_96 : AggTy Try.prog 96 10 := aggTy_of Try.underlying96 rfl (by kernel_rfl)
theorem arr_96 : ArTy Try.prog 96 10 1 := arTy_of Try.underlying96 (by kernel_rfl)
theorem zt_96 : ZeroTy Try.prog 96 [.int .i64 0, .int .i64 0, .int .i64 0, .int .i64 0, .int .i64 0, .int .i64 0, .int .i64 0, .int .i64 0, .int .i64 0, .int .i64 0] := zeroTy_of (z := .agg #[.int .i64 0, .int .i64 0, .int .i64 0, .int .i64 0, .int .i64 0, .int .i64 0, .int .i64 0, .int .i64 0, .int .i64 0, .int .i64 0]) (by kernel_rfl) rfl
theorem bt_96 : BuildTy Try.prog 96 (fun i => some (i * 1, 1)) [.int .i64 0, .int .i64 0, .int .i64 0, .int .i64 0, .int .i64 0, .int .i64 0, .int .i64 0, .int .i64 0, .int .i64 0, .int .i64 0] := ⟨.agg #[.int .i64 0, .int .i64 0, .int .i64 0, .int .i64 0, .int .i64 0, .int .i64 0, .int .i64 0, .int .i64 0, .int .i64 0, .int .i64 0], rfl, fun parts => by kernel_rfl⟩
theorem zv_101 : ZvTy Try.prog 101 (.sl 0 []) := zvTy_of (z := .slice none 0 0) (by kernel_rfl) rfl
theorem sl_101 : SlTy Try.prog 101 24 1 24 [.sl 0 []] := slTy_of Try.underlying101 (z := .slice none 0 0) (by kernel_rfl) rfl (by decide) (by decide) rfl
theorem one_101 : OneTy Try.prog 101 := oneTy_of Try.underlying101 rfl (by kernel_rfl)
theorem zt_101 : ZeroTy Try.prog 101 [.sl 0 []] := zeroTy_of (z := .slice none 0 0) (by kernel_rfl) rfl
theorem zv_106 : ZvTy Try.prog 106 (.agg [.int .i64 0, .int .i64 0]) := zvTy_of (z := .agg #[.int .i64 0, .int .i64 0]) (by kernel_rfl) rfl
theorem agg_106 : AggTy Try.prog 106 2 := aggTy_of Try.underlying106 rfl (by kernel_rfl)
theorem fi_106_0 : FiTy Try.prog 106 0 0 := fiTy_of (k := 1) Try.underlying106 rfl rfl (by kernel_rfl) (by decide)
theorem fi_106_1 : FiTy Try.prog 106 1 1 := fiTy_of (k := 1) Try.underlying106 rfl rfl (by kernel_rfl) (by decide)
theorem zt_106 : ZeroTy Try.prog 106 [.int .i64 0, .int .i64 0] := zeroTy_of (z := .agg #[.int .i64 0, .int .i64 0]) (by kernel_rfl) rfl
theorem bt_106 : BuildTy Try.prog 106 (fun i => match i with | 0 => some (0, 1) | 1 => some (1, 1) | _ => none) [.int .i64 0, .int .i64 0] := ⟨.agg #[.int .i64 0, .int .i64 0], rfl, fun parts => by
  have h : Try.prog.built 106 parts = Instr.fill (#[(0, 1), (1, 1)][·]?) ((.agg #[.int .i64 0, .int .i64 0] : Value)).cells parts := by kernel_rfl
  have hp : (fun i => (#[(0, 1), (1, 1)] : Array (Nat × Nat))[i]?) = (fun i => match i with | 0 => some (0, 1) | 1 => some (1, 1) | _ => none) := by
    funext i
    rcases i with _ | _ | _ <;> rfl
  rw [h, hp]⟩
theorem zv_114 : ZvTy Try.prog 114 (.int .u64 0) := zvTy_of (z := .int .u64 0) (by kernel_rfl) rfl
theorem one_114 : OneTy Try.prog 114 := oneTy_of Try.underlying114 rfl (by kernel_rfl)
theorem zt_114 : ZeroTy Try.prog 114 [.int .u64 0] := zeroTy_of (z := .int .u64 0) (by kernel_rfl) rfl
theorem zv_118 : ZvTy Try.prog 118 (.int .i64 0) := zvTy_of (z := .int .i64 0) (by kernel_rfl) rfl
theorem one_118 : OneTy Try.prog 118 := oneTy_of Try.underlying118 rfl (by kernel_rfl)
theorem zt_118 : ZeroTy Try.prog 118 [.int .i64 0] := zeroTy_of (z := .int .i64 0) (by kernel_rfl) rfl
theorem zv_124 : ZvTy Try.prog 124 (.int .u32 0) := zvTy_of (z := .int .u32 0) (by kernel_rfl) rfl
theorem one_124 : OneTy Try.prog 124 := oneTy_of Try.underlying124 rfl (by kernel_rfl)
theorem zt_124 : ZeroTy Try.prog 124 [.int .u32 0] := zeroTy_of (z := .int .u32 0) (by kernel_rfl) rfl
theorem zv_127 : ZvTy Try.prog 127 (.int .u64 0) := zvTy_of (z := .int .u64 0) (by kernel_rfl) rfl
theorem one_127 : OneTy Try.prog 127 := oneTy_of Try.underlying127 rfl (by kernel_rfl)
theorem zt_127 : ZeroTy Try.prog 127 [.int .u64 0] := zeroTy_of (z := .int .u64 0) (by kernel_rfl) rfl
theorem zv_143 : ZvTy Try.prog 143 (.int .u8 0) := zvTy_of (z := .int .u8 0) (by kernel_rfl) rfl
theorem one_143 : OneTy Try.prog 143 := oneTy_of Try.underlying143 rfl (by kernel_rfl)
theorem zt_143 : ZeroTy Try.prog 143 [.int .u8 0] := zeroTy_of (z := .int .u8 0) (by kernel_rfl) rfl
theorem zv_144 : ZvTy Try.prog 144 (.int .u8 0) := zvTy_of (z := .int .u8 0) (by kernel_rfl) rfl
theorem one_144 : OneTy Try.prog 144 := oneTy_of Try.underlying144 rfl (by kernel_rfl)
theorem zt_144 : ZeroTy Try.prog 144 [.int .u8 0] := zeroTy_of (z := .int .u8 0) (by kernel_rfl) rfl
theorem zv_147 : ZvTy Try.prog 147 (.int .i32 0) := zvTy_of (z := .int .i32 0) (by kernel_rfl) rfl
theorem one_147 : OneTy Try.prog 147 := oneTy_of Try.underlying147 rfl (by kernel_rfl)
theorem zt_147 : ZeroTy Try.prog 147 [.int .i32 0] := zeroTy_of (z := .int .i32 0) (by kernel_rfl) rfl
theorem zv_148 : ZvTy Try.prog 148 (.int .i32 0) := zvTy_of (z := .int .i32 0) (by kernel_rfl) rfl
theorem one_148 : OneTy Try.prog 148 := oneTy_of Try.underlying148 rfl (by kernel_rfl)
theorem zt_148 : ZeroTy Try.prog 148 [.int .i32 0] := zeroTy_of (z := .int .i32 0) (by kernel_rfl) rfl

theorem flp_7 : ∃ fs, Try.prog.underlying 7 = some (.struct fs) ∧ ∀ (f : Nat) (off ft : Nat), ([(0, 2), (1, 3), (2, 4), (3, 6)] : List (Nat × Nat))[f]? = some (off, ft) → (∃ fd : Field, fs[f]? = some fd ∧ fd.offset = off ∧ fd.type = ft) ∧ FiTy Try.prog 7 f off := by
  refine ⟨_, Try.underlying7, fun f off ft h => ?_⟩
  rcases f with _ | _ | _ | _ | f
  · simp at h; obtain ⟨rfl, rfl⟩ := h; exact ⟨⟨_, rfl, rfl, rfl⟩, fi_7_0⟩
  · simp at h; obtain ⟨rfl, rfl⟩ := h; exact ⟨⟨_, rfl, rfl, rfl⟩, fi_7_1⟩
  · simp at h; obtain ⟨rfl, rfl⟩ := h; exact ⟨⟨_, rfl, rfl, rfl⟩, fi_7_2⟩
  · simp at h; obtain ⟨rfl, rfl⟩ := h; exact ⟨⟨_, rfl, rfl, rfl⟩, fi_7_3⟩
  · simp at h

def pl_7 : Nat → Option (Nat × Nat) := (fun i => match i with | 0 => some (0, 1) | 1 => some (1, 1) | 2 => some (2, 1) | 3 => some (3, 1) | _ => none)

theorem flp_8 : ∃ fs, Try.prog.underlying 8 = some (.struct fs) ∧ ∀ (f : Nat) (off ft : Nat), ([(0, 2), (1, 3), (2, 4), (3, 6)] : List (Nat × Nat))[f]? = some (off, ft) → (∃ fd : Field, fs[f]? = some fd ∧ fd.offset = off ∧ fd.type = ft) ∧ FiTy Try.prog 8 f off := by
  refine ⟨_, Try.underlying8, fun f off ft h => ?_⟩
  rcases f with _ | _ | _ | _ | f
  · simp at h; obtain ⟨rfl, rfl⟩ := h; exact ⟨⟨_, rfl, rfl, rfl⟩, fi_8_0⟩
  · simp at h; obtain ⟨rfl, rfl⟩ := h; exact ⟨⟨_, rfl, rfl, rfl⟩, fi_8_1⟩
  · simp at h; obtain ⟨rfl, rfl⟩ := h; exact ⟨⟨_, rfl, rfl, rfl⟩, fi_8_2⟩
  · simp at h; obtain ⟨rfl, rfl⟩ := h; exact ⟨⟨_, rfl, rfl, rfl⟩, fi_8_3⟩
  · simp at h

def pl_8 : Nat → Option (Nat × Nat) := (fun i => match i with | 0 => some (0, 1) | 1 => some (1, 1) | 2 => some (2, 1) | 3 => some (3, 1) | _ => none)

theorem flp_13 : ∃ fs, Try.prog.underlying 13 = some (.struct fs) ∧ ∀ (f : Nat) (off ft : Nat), ([(0, 9), (1, 12)] : List (Nat × Nat))[f]? = some (off, ft) → (∃ fd : Field, fs[f]? = some fd ∧ fd.offset = off ∧ fd.type = ft) ∧ FiTy Try.prog 13 f off := by
  refine ⟨_, Try.underlying13, fun f off ft h => ?_⟩
  rcases f with _ | _ | f
  · simp at h; obtain ⟨rfl, rfl⟩ := h; exact ⟨⟨_, rfl, rfl, rfl⟩, fi_13_0⟩
  · simp at h; obtain ⟨rfl, rfl⟩ := h; exact ⟨⟨_, rfl, rfl, rfl⟩, fi_13_1⟩
  · simp at h

def pl_13 : Nat → Option (Nat × Nat) := (fun i => match i with | 0 => some (0, 1) | 1 => some (1, 1) | _ => none)

theorem flp_14 : ∃ fs, Try.prog.underlying 14 = some (.struct fs) ∧ ∀ (f : Nat) (off ft : Nat), ([(0, 9), (1, 12)] : List (Nat × Nat))[f]? = some (off, ft) → (∃ fd : Field, fs[f]? = some fd ∧ fd.offset = off ∧ fd.type = ft) ∧ FiTy Try.prog 14 f off := by
  refine ⟨_, Try.underlying14, fun f off ft h => ?_⟩
  rcases f with _ | _ | f
  · simp at h; obtain ⟨rfl, rfl⟩ := h; exact ⟨⟨_, rfl, rfl, rfl⟩, fi_14_0⟩
  · simp at h; obtain ⟨rfl, rfl⟩ := h; exact ⟨⟨_, rfl, rfl, rfl⟩, fi_14_1⟩
  · simp at h

def pl_14 : Nat → Option (Nat × Nat) := (fun i => match i with | 0 => some (0, 1) | 1 => some (1, 1) | _ => none)

def pl_47 : Nat → Option (Nat × Nat) := (fun i => some (i * 1, 1))

def pl_63 : Nat → Option (Nat × Nat) := (fun i => some (i * 1, 1))

def pl_64 : Nat → Option (Nat × Nat) := (fun i => some (i * 1, 1))

theorem flp_70 : ∃ fs, Try.prog.underlying 70 = some (.struct fs) ∧ ∀ (f : Nat) (off ft : Nat), ([(0, 3), (1, 3)] : List (Nat × Nat))[f]? = some (off, ft) → (∃ fd : Field, fs[f]? = some fd ∧ fd.offset = off ∧ fd.type = ft) ∧ FiTy Try.prog 70 f off := by
  refine ⟨_, Try.underlying70, fun f off ft h => ?_⟩
  rcases f with _ | _ | f
  · simp at h; obtain ⟨rfl, rfl⟩ := h; exact ⟨⟨_, rfl, rfl, rfl⟩, fi_70_0⟩
  · simp at h; obtain ⟨rfl, rfl⟩ := h; exact ⟨⟨_, rfl, rfl, rfl⟩, fi_70_1⟩
  · simp at h

def pl_70 : Nat → Option (Nat × Nat) := (fun i => match i with | 0 => some (0, 1) | 1 => some (1, 1) | _ => none)

theorem flp_71 : ∃ fs, Try.prog.underlying 71 = some (.struct fs) ∧ ∀ (f : Nat) (off ft : Nat), ([(0, 3), (1, 3)] : List (Nat × Nat))[f]? = some (off, ft) → (∃ fd : Field, fs[f]? = some fd ∧ fd.offset = off ∧ fd.type = ft) ∧ FiTy Try.prog 71 f off := by
  refine ⟨_, Try.underlying71, fun f off ft h => ?_⟩
  rcases f with _ | _ | f
  · simp at h; obtain ⟨rfl, rfl⟩ := h; exact ⟨⟨_, rfl, rfl, rfl⟩, fi_71_0⟩
  · simp at h; obtain ⟨rfl, rfl⟩ := h; exact ⟨⟨_, rfl, rfl, rfl⟩, fi_71_1⟩
  · simp at h

def pl_71 : Nat → Option (Nat × Nat) := (fun i => match i with | 0 => some (0, 1) | 1 => some (1, 1) | _ => none)

theorem flp_84 : ∃ fs, Try.prog.underlying 84 = some (.struct fs) ∧ ∀ (f : Nat) (off ft : Nat), ([(0, 22), (1, 3), (2, 83)] : List (Nat × Nat))[f]? = some (off, ft) → (∃ fd : Field, fs[f]? = some fd ∧ fd.offset = off ∧ fd.type = ft) ∧ FiTy Try.prog 84 f off := by
  refine ⟨_, Try.underlying84, fun f off ft h => ?_⟩
  rcases f with _ | _ | _ | f
  · simp at h; obtain ⟨rfl, rfl⟩ := h; exact ⟨⟨_, rfl, rfl, rfl⟩, fi_84_0⟩
  · simp at h; obtain ⟨rfl, rfl⟩ := h; exact ⟨⟨_, rfl, rfl, rfl⟩, fi_84_1⟩
  · simp at h; obtain ⟨rfl, rfl⟩ := h; exact ⟨⟨_, rfl, rfl, rfl⟩, fi_84_2⟩
  · simp at h

def pl_84 : Nat → Option (Nat × Nat) := (fun i => match i with | 0 => some (0, 1) | 1 => some (1, 1) | 2 => some (2, 1) | _ => none)

theorem flp_85 : ∃ fs, Try.prog.underlying 85 = some (.struct fs) ∧ ∀ (f : Nat) (off ft : Nat), ([(0, 22), (1, 3), (2, 83)] : List (Nat × Nat))[f]? = some (off, ft) → (∃ fd : Field, fs[f]? = some fd ∧ fd.offset = off ∧ fd.type = ft) ∧ FiTy Try.prog 85 f off := by
  refine ⟨_, Try.underlying85, fun f off ft h => ?_⟩
  rcases f with _ | _ | _ | f
  · simp at h; obtain ⟨rfl, rfl⟩ := h; exact ⟨⟨_, rfl, rfl, rfl⟩, fi_85_0⟩
  · simp at h; obtain ⟨rfl, rfl⟩ := h; exact ⟨⟨_, rfl, rfl, rfl⟩, fi_85_1⟩
  · simp at h; obtain ⟨rfl, rfl⟩ := h; exact ⟨⟨_, rfl, rfl, rfl⟩, fi_85_2⟩
  · simp at h

def pl_85 : Nat → Option (Nat × Nat) := (fun i => match i with | 0 => some (0, 1) | 1 => some (1, 1) | 2 => some (2, 1) | _ => none)

def pl_95 : Nat → Option (Nat × Nat) := (fun i => some (i * 1, 1))

def pl_96 : Nat → Option (Nat × Nat) := (fun i => some (i * 1, 1))

theorem flp_106 : ∃ fs, Try.prog.underlying 106 = some (.struct fs) ∧ ∀ (f : Nat) (off ft : Nat), ([(0, 3), (1, 3)] : List (Nat × Nat))[f]? = some (off, ft) → (∃ fd : Field, fs[f]? = some fd ∧ fd.offset = off ∧ fd.type = ft) ∧ FiTy Try.prog 106 f off := by
  refine ⟨_, Try.underlying106, fun f off ft h => ?_⟩
  rcases f with _ | _ | f
  · simp at h; obtain ⟨rfl, rfl⟩ := h; exact ⟨⟨_, rfl, rfl, rfl⟩, fi_106_0⟩
  · simp at h; obtain ⟨rfl, rfl⟩ := h; exact ⟨⟨_, rfl, rfl, rfl⟩, fi_106_1⟩
  · simp at h

def pl_106 : Nat → Option (Nat × Nat) := (fun i => match i with | 0 => some (0, 1) | 1 => some (1, 1) | _ => none)


def kdL : List (Nat × (TK)) := [(2, .int .i64), (3, .int .i64), (4, .bool), (5, .int .u8), (6, .int .u8), (9, .str), (10, .str), (11, .str), (12, .int .u64), (21, .int .i32), (83, .int .u64), (114, .int .u64), (118, .int .i64), (124, .int .u32), (127, .int .u64), (143, .int .u8), (144, .int .u8), (147, .int .i32), (148, .int .i32)]
def slL : List (Nat × (Nat × Nat × Nat × List PV)) := [(22, 5, 1, 1, [.int .u8 0]), (24, 71, 2, 16, [.int .i64 0, .int .i64 0]), (27, 3, 1, 8, [.int .i64 0]), (33, 47, 7, 56, [.int .i64 0, .int .i64 0, .int .i64 0, .int .i64 0, .int .i64 0, .int .i64 0, .int .i64 0]), (53, 106, 2, 16, [.int .i64 0, .int .i64 0]), (101, 24, 1, 24, [.sl 0 []])]
def oneL : List (Nat × (Unit)) := [(2, ()), (3, ()), (4, ()), (5, ()), (6, ()), (9, ()), (10, ()), (11, ()), (12, ()), (21, ()), (22, ()), (24, ()), (27, ()), (33, ()), (53, ()), (83, ()), (101, ()), (114, ()), (118, ()), (124, ()), (127, ()), (143, ()), (144, ()), (147, ()), (148, ())]
def aggL : List (Nat × (Nat)) := [(7, 4), (8, 4), (13, 2), (14, 2), (47, 7), (63, 6), (64, 6), (70, 2), (71, 2), (84, 3), (85, 3), (95, 10), (96, 10), (106, 2)]
def arrL : List (Nat × (Nat × Nat)) := [(47, 7, 1), (63, 6, 1), (64, 6, 1), (95, 10, 1), (96, 10, 1)]
def areL : List (Nat × (Nat × Nat)) := [(47, 7, 3), (63, 6, 3), (64, 6, 3), (95, 10, 3), (96, 10, 3)]
def flL : List (Nat × (List (Nat × Nat))) := [(7, [(0, 2), (1, 3), (2, 4), (3, 6)]), (8, [(0, 2), (1, 3), (2, 4), (3, 6)]), (13, [(0, 9), (1, 12)]), (14, [(0, 9), (1, 12)]), (70, [(0, 3), (1, 3)]), (71, [(0, 3), (1, 3)]), (84, [(0, 22), (1, 3), (2, 83)]), (85, [(0, 22), (1, 3), (2, 83)]), (106, [(0, 3), (1, 3)])]
def ztL : List (Nat × (List PV)) := [(2, [.int .i64 0]), (3, [.int .i64 0]), (4, [.bool false]), (5, [.int .u8 0]), (6, [.int .u8 0]), (7, [.int .i64 0, .int .i64 0, .bool false, .int .u8 0]), (8, [.int .i64 0, .int .i64 0, .bool false, .int .u8 0]), (9, [.str []]), (10, [.str []]), (11, [.str []]), (12, [.int .u64 0]), (13, [.str [], .int .u64 0]), (14, [.str [], .int .u64 0]), (21, [.int .i32 0]), (22, [.sl 0 []]), (24, [.sl 0 []]), (27, [.sl 0 []]), (33, [.sl 0 []]), (47, [.int .i64 0, .int .i64 0, .int .i64 0, .int .i64 0, .int .i64 0, .int .i64 0, .int .i64 0]), (53, [.sl 0 []]), (63, [.int .i64 0, .int .i64 0, .int .i64 0, .int .i64 0, .int .i64 0, .int .i64 0]), (64, [.int .i64 0, .int .i64 0, .int .i64 0, .int .i64 0, .int .i64 0, .int .i64 0]), (70, [.int .i64 0, .int .i64 0]), (71, [.int .i64 0, .int .i64 0]), (83, [.int .u64 0]), (84, [.sl 0 [], .int .i64 0, .int .u64 0]), (85, [.sl 0 [], .int .i64 0, .int .u64 0]), (95, [.int .i64 0, .int .i64 0, .int .i64 0, .int .i64 0, .int .i64 0, .int .i64 0, .int .i64 0, .int .i64 0, .int .i64 0, .int .i64 0]), (96, [.int .i64 0, .int .i64 0, .int .i64 0, .int .i64 0, .int .i64 0, .int .i64 0, .int .i64 0, .int .i64 0, .int .i64 0, .int .i64 0]), (101, [.sl 0 []]), (106, [.int .i64 0, .int .i64 0]), (114, [.int .u64 0]), (118, [.int .i64 0]), (124, [.int .u32 0]), (127, [.int .u64 0]), (143, [.int .u8 0]), (144, [.int .u8 0]), (147, [.int .i32 0]), (148, [.int .i32 0])]
def btL : List (Nat × ((Nat → Option (Nat × Nat)) × List PV)) := [(7, pl_7, [.int .i64 0, .int .i64 0, .bool false, .int .u8 0]), (8, pl_8, [.int .i64 0, .int .i64 0, .bool false, .int .u8 0]), (13, pl_13, [.str [], .int .u64 0]), (14, pl_14, [.str [], .int .u64 0]), (47, pl_47, [.int .i64 0, .int .i64 0, .int .i64 0, .int .i64 0, .int .i64 0, .int .i64 0, .int .i64 0]), (63, pl_63, [.int .i64 0, .int .i64 0, .int .i64 0, .int .i64 0, .int .i64 0, .int .i64 0]), (64, pl_64, [.int .i64 0, .int .i64 0, .int .i64 0, .int .i64 0, .int .i64 0, .int .i64 0]), (70, pl_70, [.int .i64 0, .int .i64 0]), (71, pl_71, [.int .i64 0, .int .i64 0]), (84, pl_84, [.sl 0 [], .int .i64 0, .int .u64 0]), (85, pl_85, [.sl 0 [], .int .i64 0, .int .u64 0]), (95, pl_95, [.int .i64 0, .int .i64 0, .int .i64 0, .int .i64 0, .int .i64 0, .int .i64 0, .int .i64 0, .int .i64 0, .int .i64 0, .int .i64 0]), (96, pl_96, [.int .i64 0, .int .i64 0, .int .i64 0, .int .i64 0, .int .i64 0, .int .i64 0, .int .i64 0, .int .i64 0, .int .i64 0, .int .i64 0]), (106, pl_106, [.int .i64 0, .int .i64 0])]
def mpL : List (Nat × (Nat × Nat)) := []
def zvL : List (Nat × (PV)) := [(2, .int .i64 0), (3, .int .i64 0), (4, .bool false), (5, .int .u8 0), (6, .int .u8 0), (7, .agg [.int .i64 0, .int .i64 0, .bool false, .int .u8 0]), (8, .agg [.int .i64 0, .int .i64 0, .bool false, .int .u8 0]), (9, .str []), (10, .str []), (11, .str []), (12, .int .u64 0), (13, .agg [.str [], .int .u64 0]), (14, .agg [.str [], .int .u64 0]), (21, .int .i32 0), (22, .sl 0 []), (24, .sl 0 []), (27, .sl 0 []), (33, .sl 0 []), (47, .agg [.int .i64 0, .int .i64 0, .int .i64 0, .int .i64 0, .int .i64 0, .int .i64 0, .int .i64 0]), (53, .sl 0 []), (63, .agg [.int .i64 0, .int .i64 0, .int .i64 0, .int .i64 0, .int .i64 0, .int .i64 0]), (64, .agg [.int .i64 0, .int .i64 0, .int .i64 0, .int .i64 0, .int .i64 0, .int .i64 0]), (70, .agg [.int .i64 0, .int .i64 0]), (71, .agg [.int .i64 0, .int .i64 0]), (83, .int .u64 0), (84, .agg [.sl 0 [], .int .i64 0, .int .u64 0]), (85, .agg [.sl 0 [], .int .i64 0, .int .u64 0]), (95, .agg [.int .i64 0, .int .i64 0, .int .i64 0, .int .i64 0, .int .i64 0, .int .i64 0, .int .i64 0, .int .i64 0, .int .i64 0, .int .i64 0]), (96, .agg [.int .i64 0, .int .i64 0, .int .i64 0, .int .i64 0, .int .i64 0, .int .i64 0, .int .i64 0, .int .i64 0, .int .i64 0, .int .i64 0]), (101, .sl 0 []), (106, .agg [.int .i64 0, .int .i64 0]), (114, .int .u64 0), (118, .int .i64 0), (124, .int .u32 0), (127, .int .u64 0), (143, .int .u8 0), (144, .int .u8 0), (147, .int .i32 0), (148, .int .i32 0)]
def tf : TF Try.prog where
  kd := kdL
  sl := slL
  one := oneL
  agg := aggL
  arr := arrL
  are := areL
  fl := flL
  zt := ztL
  bt := btL
  mp := mpL
  zv := zvL
  mix := by kernel_rfl
  kd_ok := ⟨Try.underlying2, Try.underlying3, Try.underlying4, Try.underlying5, Try.underlying6, Try.underlying9, Try.underlying10, Try.underlying11, Try.underlying12, Try.underlying21, Try.underlying83, Try.underlying114, Try.underlying118, Try.underlying124, Try.underlying127, Try.underlying143, Try.underlying144, Try.underlying147, Try.underlying148, trivial⟩
  sl_ok := ⟨sl_22, sl_24, sl_27, sl_33, sl_53, sl_101, trivial⟩
  one_ok := ⟨one_2, one_3, one_4, one_5, one_6, one_9, one_10, one_11, one_12, one_21, one_22, one_24, one_27, one_33, one_53, one_83, one_101, one_114, one_118, one_124, one_127, one_143, one_144, one_147, one_148, trivial⟩
  agg_ok := ⟨agg_7, agg_8, agg_13, agg_14, agg_47, agg_63, agg_64, agg_70, agg_71, agg_84, agg_85, agg_95, agg_96, agg_106, trivial⟩
  arr_ok := ⟨arr_47, arr_63, arr_64, arr_95, arr_96, trivial⟩
  are_ok := ⟨Try.underlying47, Try.underlying63, Try.underlying64, Try.underlying95, Try.underlying96, trivial⟩
  fl_ok := ⟨flp_7, flp_8, flp_13, flp_14, flp_70, flp_71, flp_84, flp_85, flp_106, trivial⟩
  zt_ok := ⟨zt_2, zt_3, zt_4, zt_5, zt_6, zt_7, zt_8, zt_9, zt_10, zt_11, zt_12, zt_13, zt_14, zt_21, zt_22, zt_24, zt_27, zt_33, zt_47, zt_53, zt_63, zt_64, zt_70, zt_71, zt_83, zt_84, zt_85, zt_95, zt_96, zt_101, zt_106, zt_114, zt_118, zt_124, zt_127, zt_143, zt_144, zt_147, zt_148, trivial⟩
  bt_ok := ⟨bt_7, bt_8, bt_13, bt_14, bt_47, bt_63, bt_64, bt_70, bt_71, bt_84, bt_85, bt_95, bt_96, bt_106, trivial⟩
  mp_ok := trivial
  zv_ok := ⟨zv_2, zv_3, zv_4, zv_5, zv_6, zv_7, zv_8, zv_9, zv_10, zv_11, zv_12, zv_13, zv_14, zv_21, zv_22, zv_24, zv_27, zv_33, zv_47, zv_53, zv_63, zv_64, zv_70, zv_71, zv_83, zv_84, zv_85, zv_95, zv_96, zv_101, zv_106, zv_114, zv_118, zv_124, zv_127, zv_143, zv_144, zv_147, zv_148, trivial⟩

end Go.Proofs.Ytlmmjegbnmolcaa.Tf
