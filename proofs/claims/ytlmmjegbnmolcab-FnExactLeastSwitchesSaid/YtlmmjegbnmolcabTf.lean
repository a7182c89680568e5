/- The tables of this translation for the interpreter, each fact closed by the kernel. No conditions. -/
import Derived.Test.YtlmmjegbnmolcabRows
import Derived.Test.YtlmmjegbnmolcabPwQ
namespace Go.Proofs.Ytlmmjegbnmolcab.Tf
open Go.RowKit
set_option maxRecDepth 20000

theorem zv_2 : ZvTy Try.prog 2 (.int .i64 0) := zvTy_of (z := .int .i64 0) (by kernel_rfl) rfl
theorem one_2 : OneTy Try.prog 2 := oneTy_of Try.underlying2 rfl (by kernel_rfl)
theorem zt_2 : ZeroTy Try.prog 2 [.int .i64 0] := zeroTy_of (z := .int .i64 0) (by kernel_rfl) rfl
theorem zv_3 : ZvTy Try.prog 3 (.int .i64 0) := zvTy_of (z := .int .i64 0) (by kernel_rfl) rfl
theorem one_3 : OneTy Try.prog 3 := oneTy_of Try.underlying3 rfl (by kernel_rfl)
theorem zt_3 : ZeroTy Try.prog 3 [.int .i64 0] := zeroTy_of (z := .int .i64 0) (by kernel_rfl) rfl
theorem zv_4 : ZvTy Try.prog 4 (.bool false) := zvTy_of (z := .bool false) (by kernel_rfl) rfl
theorem one_4 : OneTy Try.prog 4 := oneTy_of Try.underlying4 rfl (by kernel_rfl)
theorem zt_4 : ZeroTy Try.prog 4 [.bool false] := zeroTy_of (z := .bool false) (by kernel_rfl) rfl
theorem zv_5 : ZvTy Try.prog 5 (.int .u8 0) := zvTy_of (z := .int .u8 0) (by kernel_rfl) rfl
theorem one_5 : OneTy Try.prog 5 := oneTy_of Try.underlying5 rfl (by kernel_rfl)
theorem zt_5 : ZeroTy Try.prog 5 [.int .u8 0] := zeroTy_of (z := .int .u8 0) (by kernel_rfl) rfl
theorem zv_6 : ZvTy Try.prog 6 (.int .u8 0) := zvTy_of (z := .int .u8 0) (by kernel_rfl) rfl
theorem one_6 : OneTy Try.prog 6 := oneTy_of Try.underlying6 rfl (by kernel_rfl)
theorem zt_6 : ZeroTy Try.prog 6 [.int .u8 0] := zeroTy_of (z := .int .u8 0) (by kernel_rfl) rfl
theorem zv_7 : ZvTy Try.prog 7 (.agg [.int .i64 0, .int .i64 0, .bool false, .int .u8 0]) := zvTy_of (z := .agg #[.int .i64 0, .int .i64 0, .bool false, .int .u8 0]) (by kernel_rfl) rfl
theorem agg_7 : AggTy Try.prog 7 4 := aggTy_of Try.underlying7 rfl (by kernel_rfl)
theorem fi_7_0 : FiTy Try.prog 7 0 0 := fiTy_of (k := 1) Try.underlying7 rfl rfl (by kernel_rfl) (by decide)
theorem fi_7_1 : FiTy Try.prog 7 1 1 := fiTy_of (k := 1) Try.underlying7 rfl rfl (by kernel_rfl) (by decide)
theorem fi_7_2 : FiTy Try.prog 7 2 2 := fiTy_of (k := 1) Try.underlying7 rfl rfl (by kernel_rfl) (by decide)
theorem fi_7_3 : FiTy Try.prog 7 3 3 := fiTy_of (k := 1) Try.underlying7 rfl rfl (by kernel_rfl) (by decide)
theorem zt_7 : ZeroTy Try.prog 7 [.int .i64 0, .int .i64 0, .bool false, .int .u8 0] := zeroTy_of (z := .agg #[.int .i64 0, .int .i64 0, .bool false, .int .u8 0]) (by kernel_rfl) rfl
theorem bt_7 : BuildTy Try.prog 7 (fun i => match i with | 0 => some (0, 1) | 1 => some (1, 1) | 2 => some (2, 1) | 3 => some (3, 1) | _ => none) [.int .i64 0, .int .i64 0, .bool false, .int .u8 0] := ⟨.agg #[.int .i64 0, .int .i64 0, .bool false, .int .u8 0], rfl, fun parts => by
  have h : Try.prog.built 7 parts = Instr.fill (#[(0, 1), (1, 1), (2, 1), (3, 1)][·]?) ((.agg #[.int .i64 0, .int .i64 0, .bool false, .int .u8 0] : Value)).cells parts := by kernel_rfl
  have hp : (fun i => (#[(0, 1), (1, 1), (2, 1), (3, 1)] : Array (Nat × Nat))[i]?) = (fun i => match i with | 0 => some (0, 1) | 1 => some (1, 1) | 2 => some (2, 1) | 3 => some (3, 1) | _ => none) := by
    funext i
    rcases i with _ | _ | _ | _ | _ <;> rfl
  rw [h, hp]⟩
theorem zv_8 : ZvTy Try.prog 8 (.agg [.int .i64 0, .int .i64 0, .bool false, .int .u8 0]) := zvTy_of (z := .agg #[.int .i64 0, .int .i64 0, .bool false, .int .u8 0]) (by kernel_rfl) rfl
theorem agg_8 : AggTy Try.prog 8 4 := aggTy_of Try.underlying8 rfl (by kernel_rfl)
theorem fi_8_0 : FiTy Try.prog 8 0 0 := fiTy_of (k := 1) Try.underlying8 rfl rfl (by kernel_rfl) (by decide)
theorem fi_8_1 : FiTy Try.prog 8 1 1 := fiTy_of (k := 1) Try.underlying8 rfl rfl (by kernel_rfl) (by decide)
theorem fi_8_2 : FiTy Try.prog 8 2 2 := fiTy_of (k := 1) Try.underlying8 rfl rfl (by kernel_rfl) (by decide)
theorem fi_8_3 : FiTy Try.prog 8 3 3 := fiTy_of (k := 1) Try.underlying8 rfl rfl (by kernel_rfl) (by decide)
theorem zt_8 : ZeroTy Try.prog 8 [.int .i64 0, .int .i64 0, .bool false, .int .u8 0] := zeroTy_of (z := .agg #[.int .i64 0, .int .i64 0, .bool false, .int .u8 0]) (by kernel_rfl) rfl
theorem bt_8 : BuildTy Try.prog 8 (fun i => match i with | 0 => some (0, 1) | 1 => some (1, 1) | 2 => some (2, 1) | 3 => some (3, 1) | _ => none) [.int .i64 0, .int .i64 0, .bool false, .int .u8 0] := ⟨.agg #[.int .i64 0, .int .i64 0, .bool false, .int .u8 0], rfl, fun parts => by
  have h : Try.prog.built 8 parts = Instr.fill (#[(0, 1), (1, 1), (2, 1), (3, 1)][·]?) ((.agg #[.int .i64 0, .int .i64 0, .bool false, .int .u8 0] : Value)).cells parts := by kernel_rfl
  have hp : (fun i => (#[(0, 1), (1, 1), (2, 1), (3, 1)] : Array (Nat × Nat))[i]?) = (fun i => match i with | 0 => some (0, 1) | 1 => some (1, 1) | 2 => some (2, 1) | 3 => some (3, 1) | _ => none) := by
    funext i
    rcases i with _ | _ | _ | _ | _ <;> rfl
  rw [h, hp]⟩
theorem zv_9 : ZvTy Try.prog 9 (.str []) := zvTy_of (z := .string ByteArray.empty) (by kernel_rfl) rfl
theorem one_9 : OneTy Try.prog 9 := oneTy_of Try.underlying9 rfl (by kernel_rfl)
theorem zt_9 : ZeroTy Try.prog 9 [.str []] := zeroTy_of (z := .string ByteArray.empty) (by kernel_rfl) rfl
theorem zv_10 : ZvTy Try.prog 10 (.str []) := zvTy_of (z := .string ByteArray.empty) (by kernel_rfl) rfl
theorem one_10 : OneTy Try.prog 10 := oneTy_of Try.underlying10 rfl (by kernel_rfl)
theorem zt_10 : ZeroTy Try.prog 10 [.str []] := zeroTy_of (z := .string ByteArray.empty) (by kernel_rfl) rfl
theorem zv_11 : ZvTy Try.prog 11 (.str []) := zvTy_of (z := .string ByteArray.empty) (by kernel_rfl) rfl
theorem one_11 : OneTy Try.prog 11 := oneTy_of Try.underlying11 rfl (by kernel_rfl)
theorem zt_11 : ZeroTy Try.prog 11 [.str []] := zeroTy_of (z := .string ByteArray.empty) (by kernel_rfl) rfl
theorem zv_12 : ZvTy Try.prog 12 (.int .u64 0) := zvTy_of (z := .int .u64 0) (by kernel_rfl) rfl
theorem one_12 : OneTy Try.prog 12 := oneTy_of Try.underlying12 rfl (by kernel_rfl)
theorem zt_12 : ZeroTy Try.prog 12 [.int .u64 0] := zeroTy_of (z := .int .u64 0) (by kernel_rfl) rfl
theorem zv_13 : ZvTy Try.prog 13 (.agg [.str [], .int .u64 0]) := zvTy_of (z := .agg #[.string ByteArray.empty, .int .u64 0]) (by kernel_rfl) rfl
theorem agg_13 : AggTy Try.prog 13 2 := aggTy_of Try.underlying13 rfl (by kernel_rfl)
theorem fi_13_0 : FiTy Try.prog 13 0 0 := fiTy_of (k := 1) Try.underlying13 rfl rfl (by kernel_rfl) (by decide)
theorem fi_13_1 : FiTy Try.prog 13 1 1 := fiTy_of (k := 1) Try.underlying13 rfl rfl (by kernel_rfl) (by decide)
theorem zt_13 : ZeroTy Try.prog 13 [.str [], .int .u64 0] := zeroTy_of (z := .agg #[.string ByteArray.empty, .int .u64 0]) (by kernel_rfl) rfl
theorem bt_13 : BuildTy Try.prog 13 (fun i => match i with | 0 => some (0, 1) | 1 => some (1, 1) | _ => none) [.str [], .int .u64 0] := ⟨.agg #[.string ByteArray.empty, .int .u64 0], rfl, fun parts => by
  have h : Try.prog.built 13 parts = Instr.fill (#[(0, 1), (1, 1)][·]?) ((.agg #[.string ByteArray.empty, .int .u64 0] : Value)).cells parts := by kernel_rfl
  have hp : (fun i => (#[(0, 1), (1, 1)] : Array (Nat × Nat))[i]?) = (fun i => match i with | 0 => some (0, 1) | 1 => some (1, 1) | _ => none) := by
    funext i
    rcases i with _ | _ | _ <;> rfl
  rw [h, hp]⟩
theorem zv_14 : ZvTy Try.prog 14 (.agg [.str [], .int .u64 0]) := zvTy_of (z := .agg #[.string ByteArray.empty, .int .u64 0]) (by kernel_rfl) rfl
theorem agg_14 : AggTy Try.prog 14 2 := aggTy_of Try.underlying14 rfl (by kernel_rfl)
theorem fi_14_0 : FiTy Try.prog 14 0 0 := fiTy_of (k := 1) Try.underlying14 rfl rfl (by kernel_rfl) (by decide)
theorem fi_14_1 : FiTy Try.prog 14 1 1 := fiTy_of (k := 1) Try.underlying14 rfl rfl (by kernel_rfl) (by decide)
theorem zt_14 : ZeroTy Try.prog 14 [.str [], .int .u64 0] := zeroTy_of (z := .agg #[.string ByteArray.empty, .int .u64 0]) (by kernel_rfl) rfl
theorem bt_14 : BuildTy Try.prog 14 (fun i => match i with | 0 => some (0, 1) | 1 => some (1, 1) | _ => none) [.str [], .int .u64 0] := ⟨.agg #[.string ByteArray.empty, .int .u64 0], rfl, fun parts => by
  have h : Try.prog.built 14 parts = Instr.fill (#[(0, 1), (1, 1)][·]?) ((.agg #[.string ByteArray.empty, .int .u64 0] : Value)).cells parts := by kernel_rfl
  have hp : (fun i => (#[(0, 1), (1, 1)] : Array (Nat × Nat))[i]?) = (fun i => match i with | 0 => some (0, 1) | 1 => some (1, 1) | _ => none) := by
    funext i
    rcases i with _ | _ | _ <;> rfl
  rw [h, hp]⟩
theorem zv_21 : ZvTy Try.prog 21 (.int .i32 0) := zvTy_of (z := .int .i32 0) (by kernel_rfl) rfl
theorem one_21 : OneTy Try.prog 21 := oneTy_of Try.underlying21 rfl (by kernel_rfl)
theorem zt_21 : ZeroTy Try.prog 21 [.int .i32 0] := zeroTy_of (z := .int .i32 0) (by kernel_rfl) rfl
theorem zv_22 : ZvTy Try.prog 22 (.sl 0 []) := zvTy_of (z := .slice none 0 0) (by kernel_rfl) rfl
theorem sl_22 : SlTy Try.prog 22 40 2 16 [.int .i64 0, .int .i64 0] := slTy_of Try.underlying22 (z := .agg #[.int .i64 0, .int .i64 0]) (by kernel_rfl) rfl (by decide) (by decide) rfl
theorem one_22 : OneTy Try.prog 22 := oneTy_of Try.underlying22 rfl (by kernel_rfl)
theorem zt_22 : ZeroTy Try.prog 22 [.sl 0 []] := zeroTy_of (z := .slice none 0 0) (by kernel_rfl) rfl
theorem zv_26 : ZvTy Try.prog 26 (.sl 0 []) := zvTy_of (z := .slice none 0 0) (by kernel_rfl) rfl
theorem sl_26 : SlTy Try.prog 26 38 2 16 [.int .i64 0, .int .i64 0] := slTy_of Try.underlying26 (z := .agg #[.int .i64 0, .int .i64 0]) (by kernel_rfl) rfl (by decide) (by decide) rfl
theorem one_26 : OneTy Try.prog 26 := oneTy_of Try.underlying26 rfl (by kernel_rfl)
theorem zt_26 : ZeroTy Try.prog 26 [.sl 0 []] := zeroTy_of (z := .slice none 0 0) (by kernel_rfl) rfl
theorem zv_37 : ZvTy Try.prog 37 (.agg [.int .i64 0, .int .i64 0]) := zvTy_of (z := .agg #[.int .i64 0, .int .i64 0]) (by kernel_rfl) rfl
theorem agg_37 : AggTy Try.prog 37 2 := aggTy_of Try.underlying37 rfl (by kernel_rfl)
theorem fi_37_0 : FiTy Try.prog 37 0 0 := fiTy_of (k := 1) Try.underlying37 rfl rfl (by kernel_rfl) (by decide)
theorem fi_37_1 : FiTy Try.prog 37 1 1 := fiTy_of (k := 1) Try.underlying37 rfl rfl (by kernel_rfl) (by decide)
theorem zt_37 : ZeroTy Try.prog 37 [.int .i64 0, .int .i64 0] := zeroTy_of (z := .agg #[.int .i64 0, .int .i64 0]) (by kernel_rfl) rfl
theorem bt_37 : BuildTy Try.prog 37 (fun i => match i with | 0 => some (0, 1) | 1 => some (1, 1) | _ => none) [.int .i64 0, .int .i64 0] := ⟨.agg #[.int .i64 0, .int .i64 0], rfl, fun parts => by
  have h : Try.prog.built 37 parts = Instr.fill (#[(0, 1), (1, 1)][·]?) ((.agg #[.int .i64 0, .int .i64 0] : Value)).cells parts := by kernel_rfl
  have hp : (fun i => (#[(0, 1), (1, 1)] : Array (Nat × Nat))[i]?) = (fun i => match i with | 0 => some (0, 1) | 1 => some (1, 1) | _ => none) := by
    funext i
    rcases i with _ | _ | _ <;> rfl
  rw [h, hp]⟩
theorem zv_38 : ZvTy Try.prog 38 (.agg [.int .i64 0, .int .i64 0]) := zvTy_of (z := .agg #[.int .i64 0, .int .i64 0]) (by kernel_rfl) rfl
theorem agg_38 : AggTy Try.prog 38 2 := aggTy_of Try.underlying38 rfl (by kernel_rfl)
theorem fi_38_0 : FiTy Try.prog 38 0 0 := fiTy_of (k := 1) Try.underlying38 rfl rfl (by kernel_rfl) (by decide)
theorem fi_38_1 : FiTy Try.prog 38 1 1 := fiTy_of (k := 1) Try.underlying38 rfl rfl (by kernel_rfl) (by decide)
theorem zt_38 : ZeroTy Try.prog 38 [.int .i64 0, .int .i64 0] := zeroTy_of (z := .agg #[.int .i64 0, .int .i64 0]) (by kernel_rfl) rfl
theorem bt_38 : BuildTy Try.prog 38 (fun i => match i with | 0 => some (0, 1) | 1 => some (1, 1) | _ => none) [.int .i64 0, .int .i64 0] := ⟨.agg #[.int .i64 0, .int .i64 0], rfl, fun parts => by
  have h : Try.prog.built 38 parts = Instr.fill (#[(0, 1), (1, 1)][·]?) ((.agg #[.int .i64 0, .int .i64 0] : Value)).cells parts := by kernel_rfl
  have hp : (fun i => (#[(0, 1), (1, 1)] : Array (Nat × Nat))[i]?) = (fun i => match i with | 0 => some (0, 1) | 1 => some (1, 1) | _ => none) := by
    funext i
    rcases i with _ | _ | _ <;> rfl
  rw [h, hp]⟩
theorem zv_40 : ZvTy Try.prog 40 (.agg [.int .i64 0, .int .i64 0]) := zvTy_of (z := .agg #[.int .i64 0, .int .i64 0]) (by kernel_rfl) rfl
theorem agg_40 : AggTy Try.prog 40 2 := aggTy_of Try.underlying40 rfl (by kernel_rfl)
theorem fi_40_0 : FiTy Try.prog 40 0 0 := fiTy_of (k := 1) Try.underlying40 rfl rfl (by kernel_rfl) (by decide)
theorem fi_40_1 : FiTy Try.prog 40 1 1 := fiTy_of (k := 1) Try.underlying40 rfl rfl (by kernel_rfl) (by decide)
theorem zt_40 : ZeroTy Try.prog 40 [.int .i64 0, .int .i64 0] := zeroTy_of (z := .agg #[.int .i64 0, .int .i64 0]) (by kernel_rfl) rfl
theorem bt_40 : BuildTy Try.prog 40 (fun i => match i with | 0 => some (0, 1) | 1 => some (1, 1) | _ => none) [.int .i64 0, .int .i64 0] := ⟨.agg #[.int .i64 0, .int .i64 0], rfl, fun parts => by
  have h : Try.prog.built 40 parts = Instr.fill (#[(0, 1), (1, 1)][·]?) ((.agg #[.int .i64 0, .int .i64 0] : Value)).cells parts := by kernel_rfl
  have hp : (fun i => (#[(0, 1), (1, 1)] : Array (Nat × Nat))[i]?) = (fun i => match i with | 0 => some (0, 1) | 1 => some (1, 1) | _ => none) := by
    funext i
    rcases i with _ | _ | _ <;> rfl
  rw [h, hp]⟩
theorem zv_44 : ZvTy Try.prog 44 (.sl 0 []) := zvTy_of (z := .slice none 0 0) (by kernel_rfl) rfl
theorem sl_44 : SlTy Try.prog 44 3 1 8 [.int .i64 0] := slTy_of Try.underlying44 (z := .int .i64 0) (by kernel_rfl) rfl (by decide) (by decide) rfl
theorem one_44 : OneTy Try.prog 44 := oneTy_of Try.underlying44 rfl (by kernel_rfl)
theorem zt_44 : ZeroTy Try.prog 44 [.sl 0 []] := zeroTy_of (z := .slice none 0 0) (by kernel_rfl) rfl
theorem zv_47 : ZvTy Try.prog 47 (.sl 0 []) := zvTy_of (z := .slice none 0 0) (by kernel_rfl) rfl
theorem sl_47 : SlTy Try.prog 47 26 1 24 [.sl 0 []] := slTy_of Try.underlying47 (z := .slice none 0 0) (by kernel_rfl) rfl (by decide) (by decide) rfl
theorem one_47 : OneTy Try.prog 47 := oneTy_of Try.underlying47 rfl (by kernel_rfl)
theorem zt_47 : ZeroTy Try.prog 47 [.sl 0 []] := zeroTy_of (z := .slice none 0 0) (by kernel_rfl) rfl
theorem zv_49 : ZvTy Try.prog 49 (.agg [.int .i64 0, .int .i64 0, .int .i64 0, .int .i64 0, .int .i64 0, .int .i64 0, .int .i64 0, .int .i64 0, .int .i64 0, .int .i64 0]) := zvTy_of (z := .agg #[.int .i64 0, .int .i64 0, .int .i64 0, .int .i64 0, .int .i64 0, .int .i64 0, .int .i64 0, .int .i64 0, .int .i64 0, .int .i64 0]) (by kernel_rfl) rfl
theorem agg_49 : AggTy Try.prog 49 10 := aggTy_of Try.underlying49 rfl (by kernel_rfl)
theorem arr_49 : ArTy Try.prog 49 10 1 := arTy_of Try.underlying49 (by kernel_rfl)
theorem zt_49 : ZeroTy Try.prog 49 [.int .i64 0, .int .i64 0, .int .i64 0, .int .i64 0, .int .i64 0, .int .i64 0, .int .i64 0, .int .i64 0, .int .i64 0, .int .i64 0] := zeroTy_of (z := .agg #[.int .i64 0, .int .i64 0, .int .i64 0, .int .i64 0, .int .i64 0, .int .i64 0, .int .i64 0, .int .i64 0, .int .i64 0, .int .i64 0]) (by kernel_rfl) rfl
theorem bt_49 : BuildTy Try.prog 49 (fun i => some (i * 1, 1)) [.int .i64 0, .int .i64 0, .int .i64 0, .int .i64 0, .int .i64 0, .int .i64 0, .int .i64 0, .int .i64 0, .int .i64 0, .int .i64 0] := ⟨.agg #[.int .i64 0, .int .i64 0, .int .i64 0, .int .i64 0, .int .i64 0, .int .i64 0, .int .i64 0, .int .i64 0, .int .i64 0, .int .i64 0], rfl, fun parts => by kernel_rfl⟩
theorem zv_50 : ZvTy Try.prog 50 (.agg [.int .i64 0, .int .i64 0, .int .i64 0, .int .i64 0, .int .i64 0, .int .i64 0, .int .i64 0, .int .i64 0, .int .i64 0, .int .i64 0]) := zvTy_of (z := .agg #[.int .i64 0, .int .i64 0, .int .i64 0, .int .i64 0, .int .i64 0, .int .i64 0, .int .i64 0, .int .i64 0, .int .i64 0, .int .i64 0]) (by kernel_rfl) rfl
theorem agg_50 : AggTy Try.prog 50 10 := aggTy_of Try.underlying50 rfl (by kernel_rfl)
theorem arr_50 : ArTy Try.prog 50 10 1 := arTy_of Try.underlying50 (by kernel_rfl)
theorem zt_50 : ZeroTy Try.prog 50 [.int .i64 0, .int .i64 0, .int .i64 0, .int .i64 0, .int .i64 0, .int .i64 0, .int .i64 0, .int .i64 0, .int .i64 0, .int .i64 0] := zeroTy_of (z := .agg #[.int .i64 0, .int .i64 0, .int .i64 0, .int .i64 0, .int .i64 0, .int .i64 0, .int .i64 0, .int .i64 0, .int .i64 0, .int .i64 0]) (by kernel_rfl) rfl
theorem bt_50 : BuildTy Try.prog 50 (fun i => some (i * 1, 1)) [.int .i64 0, .int .i64 0, .int .i64 0, .int .i64 0, .int .i64 0, .int .i64 0, .int .i64 0, .int .i64 0, .int .i64 0, .int .i64 0] := ⟨.agg #[.int .i64 0, .int .i64 0, .int .i64 0, .int .i64 0, .int .i64 0, .int .i64 0, .int .i64 0, .int .i64 0, .int .i64 0, .int .i64 0], rfl, fun parts => by kernel_rfl⟩
theorem zv_54 : ZvTy Try.prog 54 (.sl 0 []) := zvTy_of (z := .slice none 0 0) (by kernel_rfl) rfl
theorem sl_54 : SlTy Try.prog 54 56 7 56 [.int .i64 0, .int .i64 0, .int .i64 0, .int .i64 0, .int .i64 0, .int .i64 0, .int .i64 0] := slTy_of Try.underlying54 (z := .agg #[.int .i64 0, .int .i64 0, .int .i64 0, .int .i64 0, .int .i64 0, .int .i64 0, .int .i64 0]) (by kernel_rfl) rfl (by decide) (by decide) rfl
theorem one_54 : OneTy Try.prog 54 := oneTy_of Try.underlying54 rfl (by kernel_rfl)
theorem zt_54 : ZeroTy Try.prog 54 [.sl 0 []] := zeroTy_of (z := .slice none 0 0) (by kernel_rfl) rfl
theorem zv_56 : ZvTy Try.prog 56 (.agg [.int .i64 0, .int .i64 0, .int .i64 0, .int .i64 0, .int .i64 0, .int .i64 0, .int .i64 0]) := zvTy_of (z := .agg #[.int .i64 0, .int .i64 0, .int .i64 0, .int .i64 0, .int .i64 0, .int .i64 0, .int .i64 0]) (by kernel_rfl) rfl
theorem agg_56 : AggTy Try.prog 56 7 := aggTy_of Try.underlying56 rfl (by kernel_rfl)
theorem arr_56 : ArTy Try.prog 56 7 1 := arTy_of Try.underlying56 (by kernel_rfl)
theorem zt_56 : ZeroTy Try.prog 56 [.int .i64 0, .int .i64 0, .int .i64 0, .int .i64 0, .int .i64 0, .int .i64 0, .int .i64 0] := zeroTy_of (z := .agg #[.int .i64 0, .int .i64 0, .int .i64 0, .int .i64 0, .int .i64 0, .int .i64 0, .int .i64 0]) (by kernel_rfl) rfl
theorem bt_56 : BuildTy Try.prog 56 (fun i => some (i * 1, 1)) [.int .i64 0, .int .i64 0, .int .i64 0, .int .i64 0, .int .i64 0, .int .i64 0, .int .i64 0] := ⟨.agg #[.int .i64 0, .int .i64 0, .int .i64 0, .int .i64 0, .int .i64 0, .int .i64 0, .int .i64 0], rfl, fun parts => by kernel_rfl⟩
theorem zv_68 : ZvTy Try.prog 68 (.int .u64 0) := zvTy_of (z := .int .u64 0) (by kernel_rfl) rfl
theorem one_68 : OneTy Try.prog 68 := oneTy_of Try.underlying68 rfl (by kernel_rfl)
theorem zt_68 : ZeroTy Try.prog 68 [.int .u64 0] := zeroTy_of (z := .int .u64 0) (by kernel_rfl) rfl
theorem zv_77 : ZvTy Try.prog 77 (.int .u32 0) := zvTy_of (z := .int .u32 0) (by kernel_rfl) rfl
theorem one_77 : OneTy Try.prog 77 := oneTy_of Try.underlying77 rfl (by kernel_rfl)
theorem zt_77 : ZeroTy Try.prog 77 [.int .u32 0] := zeroTy_of (z := .int .u32 0) (by kernel_rfl) rfl
theorem zv_79 : ZvTy Try.prog 79 (.int .u64 0) := zvTy_of (z := .int .u64 0) (by kernel_rfl) rfl
theorem one_79 : OneTy Try.prog 79 := oneTy_of Try.underlying79 rfl (by kernel_rfl)
theorem zt_79 : ZeroTy Try.prog 79 [.int .u64 0] := zeroTy_of (z := .int .u64 0) (by kernel_rfl) rfl
theorem zv_81 : ZvTy Try.prog 81 (.int .i64 0) := zvTy_of (z := .int .i64 0) (by kernel_rfl) rfl
theorem one_81 : OneTy Try.prog 81 := oneTy_of Try.underlying81 rfl (by kernel_rfl)
theorem zt_81 : ZeroTy Try.prog 81 [.int .i64 0] := zeroTy_of (z := .int .i64 0) (by kernel_rfl) rfl
theorem zv_88 : ZvTy Try.prog 88 (.int .u64 0) := zvTy_of (z := .int .u64 0) (by kernel_rfl) rfl
theorem one_88 : OneTy Try.prog 88 := oneTy_of Try.underlying88 rfl (by kernel_rfl)
theorem zt_88 : ZeroTy Try.prog 88 [.int .u64 0] := zeroTy_of (z := .int .u64 0) (by kernel_rfl) rfl
theorem zv_104 : ZvTy Try.prog 104 (.int .u8 0) := zvTy_of (z := .int .u8 0) (by kernel_rfl) rfl
theorem one_104 : OneTy Try.prog 104 := oneTy_of Try.underlying104 rfl (by kernel_rfl)
theorem zt_104 : ZeroTy Try.prog 104 [.int .u8 0] := zeroTy_of (z := .int .u8 0) (by kernel_rfl) rfl
theorem zv_105 : ZvTy Try.prog 105 (.int .u8 0) := zvTy_of (z := .int .u8 0) (by kernel_rfl) rfl
theorem one_105 : OneTy Try.prog 105 := oneTy_of Try.underlying105 rfl (by kernel_rfl)
theorem zt_105 : ZeroTy Try.prog 105 [.int .u8 0] := zeroTy_of (z := .int .u8 0) (by kernel_rfl) rfl
theorem zv_108 : ZvTy Try.prog 108 (.int .i32 0) := zvTy_of (z := .int .i32 0) (by kernel_rfl) rfl
theorem one_108 : OneTy Try.prog 108 := oneTy_of Try.underlying108 rfl (by kernel_rfl)
theorem zt_108 : ZeroTy Try.prog 108 [.int .i32 0] := zeroTy_of (z := .int .i32 0) (by kernel_rfl) rfl
theorem zv_109 : ZvTy Try.prog 109 (.int .i32 0) := zvTy_of (z := .int .i32 0) (by kernel_rfl) rfl
theorem one_109 : OneTy Try.prog 109 := oneTy_of Try.underlying109 rfl (by kernel_rfl)
theorem zt_109 : ZeroTy Try.prog 109 [.int .i32 0] := zeroTy_of (z := .int .i32 0) (by kernel_rfl) rfl

theorem flp_7 : ∃ fs, Try.prog.underlying 7 = some (.struct fs) ∧ ∀ (f : Nat) (off ft : Nat), ([(0, 2), (1, 3), (2, 4), (3, 6)] : List (Nat × Nat))[f]? = some (off, ft) → (∃ fd : Field, fs[f]? = some fd ∧ fd.offset = off ∧ fd.type = ft) ∧ FiTy Try.prog 7 f off := by
  refine ⟨_, Try.underlying7, fun f off ft h => ?_⟩
  rcases f with _ | _ | _ | _ | f
  · simp at h; obtain ⟨rfl, rfl⟩ := h; exact ⟨⟨_, rfl, rfl, rfl⟩, fi_7_0⟩
  · simp at h; obtain ⟨rfl, rfl⟩ := h; exact ⟨⟨_, rfl, rfl, rfl⟩, fi_7_1⟩
  · simp at h; obtain ⟨rfl, rfl⟩ := h; exact ⟨⟨_, rfl, rfl, rfl⟩, fi_7_2⟩
  · simp at h; obtain ⟨rfl, rfl⟩ := h; exact ⟨⟨_, rfl, rfl, rfl⟩, fi_7_3⟩
  · simp at h

def pl_7 : Nat → Option (Nat × Nat) := (fun i => match i with | 0 => some (0, 1) | 1 => some (1, 1) | 2 => some (2, 1) | 3 => some (3, 1) | _ => none)

theorem flp_8 : ∃ fs, Try.prog.underlying 8 = some (.struct fs) ∧ ∀ (f : Nat) (off ft : Nat), ([(0, 2), (1, 3), (2, 4), (3, 6)] : List (Nat × Nat))[f]? = some (off, ft) → (∃ fd : Field, fs[f]? = some fd ∧ fd.offset = off ∧ fd.type = ft) ∧ FiTy Try.prog 8 f off := by
  refine ⟨_, Try.underlying8, fun f off ft h => ?_⟩
  rcases f with _ | _ | _ | _ | f
  · simp at h; obtain ⟨rfl, rfl⟩ := h; exact ⟨⟨_, rfl, rfl, rfl⟩, fi_8_0⟩
  · simp at h; obtain ⟨rfl, rfl⟩ := h; exact ⟨⟨_, rfl, rfl, rfl⟩, fi_8_1⟩
  · simp at h; obtain ⟨rfl, rfl⟩ := h; exact ⟨⟨_, rfl, rfl, rfl⟩, fi_8_2⟩
  · simp at h; obtain ⟨rfl, rfl⟩ := h; exact ⟨⟨_, rfl, rfl, rfl⟩, fi_8_3⟩
  · simp at h

def pl_8 : Nat → Option (Nat × Nat) := (fun i => match i with | 0 => some (0, 1) | 1 => some (1, 1) | 2 => some (2, 1) | 3 => some (3, 1) | _ => none)

theorem flp_13 : ∃ fs, Try.prog.underlying 13 = some (.struct fs) ∧ ∀ (f : Nat) (off ft : Nat), ([(0, 9), (1, 12)] : List (Nat × Nat))[f]? = some (off, ft) → (∃ fd : Field, fs[f]? = some fd ∧ fd.offset = off ∧ fd.type = ft) ∧ FiTy Try.prog 13 f off := by
  refine ⟨_, Try.underlying13, fun f off ft h => ?_⟩
  rcases f with _ | _ | f
  · simp at h; obtain ⟨rfl, rfl⟩ := h; exact ⟨⟨_, rfl, rfl, rfl⟩, fi_13_0⟩
  · simp at h; obtain ⟨rfl, rfl⟩ := h; exact ⟨⟨_, rfl, rfl, rfl⟩, fi_13_1⟩
  · simp at h

def pl_13 : Nat → Option (Nat × Nat) := (fun i => match i with | 0 => some (0, 1) | 1 => some (1, 1) | _ => none)

theorem flp_14 : ∃ fs, Try.prog.underlying 14 = some (.struct fs) ∧ ∀ (f : Nat) (off ft : Nat), ([(0, 9), (1, 12)] : List (Nat × Nat))[f]? = some (off, ft) → (∃ fd : Field, fs[f]? = some fd ∧ fd.offset = off ∧ fd.type = ft) ∧ FiTy Try.prog 14 f off := by
  refine ⟨_, Try.underlying14, fun f off ft h => ?_⟩
  rcases f with _ | _ | f
  · simp at h; obtain ⟨rfl, rfl⟩ := h; exact ⟨⟨_, rfl, rfl, rfl⟩, fi_14_0⟩
  · simp at h; obtain ⟨rfl, rfl⟩ := h; exact ⟨⟨_, rfl, rfl, rfl⟩, fi_14_1⟩
  · simp at h

def pl_14 : Nat → Option (Nat × Nat) := (fun i => match i with | 0 => some (0, 1) | 1 => some (1, 1) | _ => none)

theorem flp_37 : ∃ fs, Try.prog.underlying 37 = some (.struct fs) ∧ ∀ (f : Nat) (off ft : Nat), ([(0, 3), (1, 3)] : List (Nat × Nat))[f]? = some (off, ft) → (∃ fd : Field, fs[f]? = some fd ∧ fd.offset = off ∧ fd.type = ft) ∧ FiTy Try.prog 37 f off := by
  refine ⟨_, Try.underlying37, fun f off ft h => ?_⟩
  rcases f with _ | _ | f
  · simp at h; obtain ⟨rfl, rfl⟩ := h; exact ⟨⟨_, rfl, rfl, rfl⟩, fi_37_0⟩
  · simp at h; obtain ⟨rfl, rfl⟩ := h; exact ⟨⟨_, rfl, rfl, rfl⟩, fi_37_1⟩
  · simp at h

def pl_37 : Nat → Option (Nat × Nat) := (fun i => match i with | 0 => some (0, 1) | 1 => some (1, 1) | _ => none)

theorem flp_38 : ∃ fs, Try.prog.underlying 38 = some (.struct fs) ∧ ∀ (f : Nat) (off ft : Nat), ([(0, 3), (1, 3)] : List (Nat × Nat))[f]? = some (off, ft) → (∃ fd : Field, fs[f]? = some fd ∧ fd.offset = off ∧ fd.type = ft) ∧ FiTy Try.prog 38 f off := by
  refine ⟨_, Try.underlying38, fun f off ft h => ?_⟩
  rcases f with _ | _ | f
  · simp at h; obtain ⟨rfl, rfl⟩ := h; exact ⟨⟨_, rfl, rfl, rfl⟩, fi_38_0⟩
  · simp at h; obtain ⟨rfl, rfl⟩ := h; exact ⟨⟨_, rfl, rfl, rfl⟩, fi_38_1⟩
  · simp at h

def pl_38 : Nat → Option (Nat × Nat) := (fun i => match i with | 0 => some (0, 1) | 1 => some (1, 1) | _ => none)

theorem flp_40 : ∃ fs, Try.prog.underlying 40 = some (.struct fs) ∧ ∀ (f : Nat) (off ft : Nat), ([(0, 3), (1, 3)] : List (Nat × Nat))[f]? = some (off, ft) → (∃ fd : Field, fs[f]? = some fd ∧ fd.offset = off ∧ fd.type = ft) ∧ FiTy Try.prog 40 f off := by
  refine ⟨_, Try.underlying40, fun f off ft h => ?_⟩
  rcases f with _ | _ | f
  · simp at h; obtain ⟨rfl, rfl⟩ := h; exact ⟨⟨_, rfl, rfl, rfl⟩, fi_40_0⟩
  · simp at h; obtain ⟨rfl, rfl⟩ := h; exact ⟨⟨_, rfl, rfl, rfl⟩, fi_40_1⟩
  · simp at h

def pl_40 : Nat → Option (Nat × Nat) := (fun i => match i with | 0 => some (0, 1) | 1 => some (1, 1) | _ => none)

def pl_49 : Nat → Option (Nat × Nat) := (fun i => some (i * 1, 1))

def pl_50 : Nat → Option (Nat × Nat) := (fun i => some (i * 1, 1))

def pl_56 : Nat → Option (Nat × Nat) := (fun i => some (i * 1, 1))


def kdL : List (Nat × (TK)) := [(2, .int .i64), (3, .int .i64), (4, .bool), (5, .int .u8), (6, .int .u8), (9, .str), (10, .str), (11, .str), (12, .int .u64), (21, .int .i32), (68, .int .u64), (77, .int .u32), (79, .int .u64), (81, .int .i64), (88, .int .u64), (104, .int .u8), (105, .int .u8), (108, .int .i32), (109, .int .i32)]
def slL : List (Nat × (Nat × Nat × Nat × List PV)) := [(22, 40, 2, 16, [.int .i64 0, .int .i64 0]), (26, 38, 2, 16, [.int .i64 0, .int .i64 0]), (44, 3, 1, 8, [.int .i64 0]), (47, 26, 1, 24, [.sl 0 []]), (54, 56, 7, 56, [.int .i64 0, .int .i64 0, .int .i64 0, .int .i64 0, .int .i64 0, .int .i64 0, .int .i64 0])]
def oneL : List (Nat × (Unit)) := [(2, ()), (3, ()), (4, ()), (5, ()), (6, ()), (9, ()), (10, ()), (11, ()), (12, ()), (21, ()), (22, ()), (26, ()), (44, ()), (47, ()), (54, ()), (68, ()), (77, ()), (79, ()), (81, ()), (88, ()), (104, ()), (105, ()), (108, ()), (109, ())]
def aggL : List (Nat × (Nat)) := [(7, 4), (8, 4), (13, 2), (14, 2), (37, 2), (38, 2), (40, 2), (49, 10), (50, 10), (56, 7)]
def arrL : List (Nat × (Nat × Nat)) := [(49, 10, 1), (50, 10, 1), (56, 7, 1)]
def areL : List (Nat × (Nat × Nat)) := [(49, 10, 3), (50, 10, 3), (56, 7, 3)]
def flL : List (Nat × (List (Nat × Nat))) := [(7, [(0, 2), (1, 3), (2, 4), (3, 6)]), (8, [(0, 2), (1, 3), (2, 4), (3, 6)]), (13, [(0, 9), (1, 12)]), (14, [(0, 9), (1, 12)]), (37, [(0, 3), (1, 3)]), (38, [(0, 3), (1, 3)]), (40, [(0, 3), (1, 3)])]
def ztL : List (Nat × (List PV)) := [(2, [.int .i64 0]), (3, [.int .i64 0]), (4, [.bool false]), (5, [.int .u8 0]), (6, [.int .u8 0]), (7, [.int .i64 0, .int .i64 0, .bool false, .int .u8 0]), (8, [.int .i64 0, .int .i64 0, .bool false, .int .u8 0]), (9, [.str []]), (10, [.str []]), (11, [.str []]), (12, [.int .u64 0]), (13, [.str [], .int .u64 0]), (14, [.str [], .int .u64 0]), (21, [.int .i32 0]), (22, [.sl 0 []]), (26, [.sl 0 []]), (37, [.int .i64 0, .int .i64 0]), (38, [.int .i64 0, .int .i64 0]), (40, [.int .i64 0, .int .i64 0]), (44, [.sl 0 []]), (47, [.sl 0 []]), (49, [.int .i64 0, .int .i64 0, .int .i64 0, .int .i64 0, .int .i64 0, .int .i64 0, .int .i64 0, .int .i64 0, .int .i64 0, .int .i64 0]), (50, [.int .i64 0, .int .i64 0, .int .i64 0, .int .i64 0, .int .i64 0, .int .i64 0, .int .i64 0, .int .i64 0, .int .i64 0, .int .i64 0]), (54, [.sl 0 []]), (56, [.int .i64 0, .int .i64 0, .int .i64 0, .int .i64 0, .int .i64 0, .int .i64 0, .int .i64 0]), (68, [.int .u64 0]), (77, [.int .u32 0]), (79, [.int .u64 0]), (81, [.int .i64 0]), (88, [.int .u64 0]), (104, [.int .u8 0]), (105, [.int .u8 0]), (108, [.int .i32 0]), (109, [.int .i32 0])]
def btL : List (Nat × ((Nat → Option (Nat × Nat)) × List PV)) := [(7, pl_7, [.int .i64 0, .int .i64 0, .bool false, .int .u8 0]), (8, pl_8, [.int .i64 0, .int .i64 0, .bool false, .int .u8 0]), (13, pl_13, [.str [], .int .u64 0]), (14, pl_14, [.str [], .int .u64 0]), (37, pl_37, [.int .i64 0, .int .i64 0]), (38, pl_38, [.int .i64 0, .int .i64 0]), (40, pl_40, [.int .i64 0, .int .i64 0]), (49, pl_49, [.int .i64 0, .int .i64 0, .int .i64 0, .int .i64 0, .int .i64 0, .int .i64 0, .int .i64 0, .int .i64 0, .int .i64 0, .int .i64 0]), (50, pl_50, [.int .i64 0, .int .i64 0, .int .i64 0, .int .i64 0, .int .i64 0, .int .i64 0, .int .i64 0, .int .i64 0, .int .i64 0, .int .i64 0]), (56, pl_56, [.int .i64 0, .int .i64 0, .int .i64 0, .int .i64 0, .int .i64 0, .int .i64 0, .int .i64 0])]
def mpL : List (Nat × (Nat × Nat)) := []
def zvL : List (Nat × (PV)) := [(2, .int .i64 0), (3, .int .i64 0), (4, .bool false), (5, .int .u8 0), (6, .int .u8 0), (7, .agg [.int .i64 0, .int .i64 0, .bool false, .int .u8 0]), (8, .agg [.int .i64 0, .int .i64 0, .bool false, .int .u8 0]), (9, .str []), (10, .str []), (11, .str []), (12, .int .u64 0), (13, .agg [.str [], .int .u64 0]), (14, .agg [.str [], .int .u64 0]), (21, .int .i32 0), (22, .sl 0 []), (26, .sl 0 []), (37, .agg [.int .i64 0, .int .i64 0]), (38, .agg [.int .i64 0, .int .i64 0]), (40, .agg [.int .i64 0, .int .i64 0]), (44, .sl 0 []), (47, .sl 0 []), (49, .agg [.int .i64 0, .int .i64 0, .int .i64 0, .int .i64 0, .int .i64 0, .int .i64 0, .int .i64 0, .int .i64 0, .int .i64 0, .int .i64 0]), (50, .agg [.int .i64 0, .int .i64 0, .int .i64 0, .int .i64 0, .int .i64 0, .int .i64 0, .int .i64 0, .int .i64 0, .int .i64 0, .int .i64 0]), (54, .sl 0 []), (56, .agg [.int .i64 0, .int .i64 0, .int .i64 0, .int .i64 0, .int .i64 0, .int .i64 0, .int .i64 0]), (68, .int .u64 0), (77, .int .u32 0), (79, .int .u64 0), (81, .int .i64 0), (88, .int .u64 0), (104, .int .u8 0), (105, .int .u8 0), (108, .int .i32 0), (109, .int .i32 0)]
def tf : TF Try.prog where
  kd := kdL
  sl := slL
  one := oneL
  agg := aggL
  arr := arrL
  are := areL
  fl := flL
  zt := ztL
  bt := btL
  mp := mpL
  zv := zvL
  mix := by kernel_rfl
  kd_ok := ⟨Try.underlying2, Try.underlying3, Try.underlying4, Try.underlying5, Try.underlying6, Try.underlying9, Try.underlying10, Try.underlying11, Try.underlying12, Try.underlying21, Try.underlying68, Try.underlying77, Try.underlying79, Try.underlying81, Try.underlying88, Try.underlying104, Try.underlying105, Try.underlying108, Try.underlying109, trivial⟩
  sl_ok := ⟨sl_22, sl_26, sl_44, sl_47, sl_54, trivial⟩
  one_ok := ⟨one_2, one_3, one_4, one_5, one_6, one_9, one_10, one_11, one_12, one_21, one_22, one_26, one_44, one_47, one_54, one_68, one_77, one_79, one_81, one_88, one_104, one_105, one_108, one_109, trivial⟩
  agg_ok := ⟨agg_7, agg_8, agg_13, agg_14, agg_37, agg_38, agg_40, agg_49, agg_50, agg_56, trivial⟩
  arr_ok := ⟨arr_49, arr_50, arr_56, trivial⟩
  are_ok := ⟨Try.underlying49, Try.underlying50, Try.underlying56, trivial⟩
  fl_ok := ⟨flp_7, flp_8, flp_13, flp_14, flp_37, flp_38, flp_40, trivial⟩
  zt_ok := ⟨zt_2, zt_3, zt_4, zt_5, zt_6, zt_7, zt_8, zt_9, zt_10, zt_11, zt_12, zt_13, zt_14, zt_21, zt_22, zt_26, zt_37, zt_38, zt_40, zt_44, zt_47, zt_49, zt_50, zt_54, zt_56, zt_68, zt_77, zt_79, zt_81, zt_88, zt_104, zt_105, zt_108, zt_109, trivial⟩
  bt_ok := ⟨bt_7, bt_8, bt_13, bt_14, bt_37, bt_38, bt_40, bt_49, bt_50, bt_56, trivial⟩
  mp_ok := trivial
  zv_ok := ⟨zv_2, zv_3, zv_4, zv_5, zv_6, zv_7, zv_8, zv_9, zv_10, zv_11, zv_12, zv_13, zv_14, zv_21, zv_22, zv_26, zv_37, zv_38, zv_40, zv_44, zv_47, zv_49, zv_50, zv_54, zv_56, zv_68, zv_77, zv_79, zv_81, zv_88, zv_104, zv_105, zv_108, zv_109, trivial⟩

end Go.Proofs.Ytlmmjegbnmolcab.Tf
