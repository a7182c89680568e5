/- The tables of this translation for the interpreter, each fact closed by the kernel. No conditions. -/
import Derived.Test.YthgiialammjcbaaRows
import Derived.Test.YthgiialammjcbaaPwQ
namespace Go.Proofs.Ythgiialammjcbaa.Tf
open Go.RowKit
set_option maxRecDepth 20000

theorem zv_2 : ZvTy Try.prog 2 (.int .i64 0) := zvTy_of (z := .int .i64 0) (by kernel_rfl) rfl
theorem one_2 : OneTy Try.prog 2 := oneTy_of Try.underlying2 rfl (by kernel_rfl)
theorem zt_2 : ZeroTy Try.prog 2 [.int .i64 0] := zeroTy_of (z := .int .i64 0) (by kernel_rfl) rfl
theorem zv_3 : ZvTy Try.prog 3 (.int .i64 0) := zvTy_of (z := .int .i64 0) (by kernel_rfl) rfl
theorem one_3 : OneTy Try.prog 3 := oneTy_of Try.underlying3 rfl (by kernel_rfl)
theorem zt_3 : ZeroTy Try.prog 3 [.int .i64 0] := zeroTy_of (z := .int .i64 0) (by kernel_rfl) rfl
theorem zv_4 : ZvTy Try.prog 4 (.bool false) := zvTy_of (z := .bool false) (by kernel_rfl) rfl
theorem one_4 : OneTy Try.prog 4 := oneTy_of Try.underlying4 rfl (by kernel_rfl)
theorem zt_4 : ZeroTy Try.prog 4 [.bool false] := zeroTy_of (z := .bool false) (by kernel_rfl) rfl
theorem zv_5 : ZvTy Try.prog 5 (.int .u8 0) := zvTy_of (z := .int .u8 0) (by kernel_rfl) rfl
theorem one_5 : OneTy Try.prog 5 := oneTy_of Try.underlying5 rfl (by kernel_rfl)
theorem zt_5 : ZeroTy Try.prog 5 [.int .u8 0] := zeroTy_of (z := .int .u8 0) (by kernel_rfl) rfl
theorem zv_6 : ZvTy Try.prog 6 (.int .u8 0) := zvTy_of (z := .int .u8 0) (by kernel_rfl) rfl
theorem one_6 : OneTy Try.prog 6 := oneTy_of Try.underlying6 rfl (by kernel_rfl)
theorem zt_6 : ZeroTy Try.prog 6 [.int .u8 0] := zeroTy_of (z := .int .u8 0) (by kernel_rfl) rfl
theorem zv_7 : ZvTy Try.prog 7 (.agg [.int .i64 0, .int .i64 0, .bool false, .int .u8 0]) := zvTy_of (z := .agg #[.int .i64 0, .int .i64 0, .bool false, .int .u8 0]) (by kernel_rfl) rfl
theorem agg_7 : AggTy Try.prog 7 4 := aggTy_of Try.underlying7 rfl (by kernel_rfl)
theorem fi_7_0 : FiTy Try.prog 7 0 0 := fiTy_of (k := 1) Try.underlying7 rfl rfl (by kernel_rfl) (by decide)
theorem fi_7_1 : FiTy Try.prog 7 1 1 := fiTy_of (k := 1) Try.underlying7 rfl rfl (by kernel_rfl) (by decide)
theorem fi_7_2 : FiTy Try.prog 7 2 2 := fiTy_of (k := 1) Try.underlying7 rfl rfl (by kernel_rfl) (by decide)
theorem fi_7_3 : FiTy Try.prog 7 3 3 := fiTy_of (k := 1) Try.underlying7 rfl rfl (by kernel_rfl) (by decide)
theorem zt_7 : ZeroTy Try.prog 7 [.int .i64 0, .int .i64 0, .bool false, .int .u8 0] := zeroTy_of (z := .agg #[.int .i64 0, .int .i64 0, .bool false, .int .u8 0]) (by kernel_rfl) rfl
theorem bt_7 : BuildTy Try.prog 7 (fun i => match i with | 0 => some (0, 1) | 1 => some (1, 1) | 2 => some (2, 1) | 3 => some (3, 1) | _ => none) [.int .i64 0, .int .i64 0, .bool false, .int .u8 0] := ⟨.agg #[.int .i64 0, .int .i64 0, .bool false, .int .u8 0], rfl, fun parts => by
  have h : Try.prog.built 7 parts = Instr.fill (#[(0, 1), (1, 1), (2, 1), (3, 1)][·]?) ((.agg #[.int .i64 0, .int .i64 0, .bool false, .int .u8 0] : Value)).cells parts := by kernel_rfl
  have hp : (fun i => (#[(0, 1), (1, 1), (2, 1), (3, 1)] : Array (Nat × Nat))[i]?) = (fun i => match i with | 0 => some (0, 1) | 1 => some (1, 1) | 2 => some (2, 1) | 3 => some (3, 1) | _ => none) := by
    funext i
    rcases i with _ | _ | _ | _ | _ <;> rfl
  rw [h, hp]⟩
theorem zv_8 : ZvTy Try.prog 8 (.agg [.int .i64 0, .int .i64 0, .bool false, .int .u8 0]) := zvTy_of (z := .agg #[.int .i64 0, .int .i64 0, .bool false, .int .u8 0]) (by kernel_rfl) rfl
theorem agg_8 : AggTy Try.prog 8 4 := aggTy_of Try.underlying8 rfl (by kernel_rfl)
theorem fi_8_0 : FiTy Try.prog 8 0 0 := fiTy_of (k := 1) Try.underlying8 rfl rfl (by kernel_rfl) (by decide)
theorem fi_8_1 : FiTy Try.prog 8 1 1 := fiTy_of (k := 1) Try.underlying8 rfl rfl (by kernel_rfl) (by decide)
theorem fi_8_2 : FiTy Try.prog 8 2 2 := fiTy_of (k := 1) Try.underlying8 rfl rfl (by kernel_rfl) (by decide)
theorem fi_8_3 : FiTy Try.prog 8 3 3 := fiTy_of (k := 1) Try.underlying8 rfl rfl (by kernel_rfl) (by decide)
theorem zt_8 : ZeroTy Try.prog 8 [.int .i64 0, .int .i64 0, .bool false, .int .u8 0] := zeroTy_of (z := .agg #[.int .i64 0, .int .i64 0, .bool false, .int .u8 0]) (by kernel_rfl) rfl
theorem bt_8 : BuildTy Try.prog 8 (fun i => match i with | 0 => some (0, 1) | 1 => some (1, 1) | 2 => some (2, 1) | 3 => some (3, 1) | _ => none) [.int .i64 0, .int .i64 0, .bool false, .int .u8 0] := ⟨.agg #[.int .i64 0, .int .i64 0, .bool false, .int .u8 0], rfl, fun parts => by
  have h : Try.prog.built 8 parts = Instr.fill (#[(0, 1), (1, 1), (2, 1), (3, 1)][·]?) ((.agg #[.int .i64 0, .int .i64 0, .bool false, .int .u8 0] : Value)).cells parts := by kernel_rfl
  have hp : (fun i => (#[(0, 1), (1, 1), (2, 1), (3, 1)] : Array (Nat × Nat))[i]?) = (fun i => match i with | 0 => some (0, 1) | 1 => some (1, 1) | 2 => some (2, 1) | 3 => some (3, 1) | _ => none) := by
    funext i
    rcases i with _ | _ | _ | _ | _ <;> rfl
  rw [h, hp]⟩
theorem zv_9 : ZvTy Try.prog 9 (.str []) := zvTy_of (z := .string ByteArray.empty) (by kernel_rfl) rfl
theorem one_9 : OneTy Try.prog 9 := oneTy_of Try.underlying9 rfl (by kernel_rfl)
theorem zt_9 : ZeroTy Try.prog 9 [.str []] := zeroTy_of (z := .string ByteArray.empty) (by kernel_rfl) rfl
theorem zv_10 : ZvTy Try.prog 10 (.str []) := zvTy_of (z := .string ByteArray.empty) (by kernel_rfl) rfl
theorem one_10 : OneTy Try.prog 10 := oneTy_of Try.underlying10 rfl (by kernel_rfl)
theorem zt_10 : ZeroTy Try.prog 10 [.str []] := zeroTy_of (z := .string ByteArray.empty) (by kernel_rfl) rfl
theorem zv_11 : ZvTy Try.prog 11 (.str []) := zvTy_of (z := .string ByteArray.empty) (by kernel_rfl) rfl
theorem one_11 : OneTy Try.prog 11 := oneTy_of Try.underlying11 rfl (by kernel_rfl)
theorem zt_11 : ZeroTy Try.prog 11 [.str []] := zeroTy_of (z := .string ByteArray.empty) (by kernel_rfl) rfl
theorem zv_12 : ZvTy Try.prog 12 (.int .u64 0) := zvTy_of (z := .int .u64 0) (by kernel_rfl) rfl
theorem one_12 : OneTy Try.prog 12 := oneTy_of Try.underlying12 rfl (by kernel_rfl)
theorem zt_12 : ZeroTy Try.prog 12 [.int .u64 0] := zeroTy_of (z := .int .u64 0) (by kernel_rfl) rfl
theorem zv_13 : ZvTy Try.prog 13 (.agg [.str [], .int .u64 0]) := zvTy_of (z := .agg #[.string ByteArray.empty, .int .u64 0]) (by kernel_rfl) rfl
theorem agg_13 : AggTy Try.prog 13 2 := aggTy_of Try.underlying13 rfl (by kernel_rfl)
theorem fi_13_0 : FiTy Try.prog 13 0 0 := fiTy_of (k := 1) Try.underlying13 rfl rfl (by kernel_rfl) (by decide)
theorem fi_13_1 : FiTy Try.prog 13 1 1 := fiTy_of (k := 1) Try.underlying13 rfl rfl (by kernel_rfl) (by decide)
theorem zt_13 : ZeroTy Try.prog 13 [.str [], .int .u64 0] := zeroTy_of (z := .agg #[.string ByteArray.empty, .int .u64 0]) (by kernel_rfl) rfl
theorem bt_13 : BuildTy Try.prog 13 (fun i => match i with | 0 => some (0, 1) | 1 => some (1, 1) | _ => none) [.str [], .int .u64 0] := ⟨.agg #[.string ByteArray.empty, .int .u64 0], rfl, fun parts => by
  have h : Try.prog.built 13 parts = Instr.fill (#[(0, 1), (1, 1)][·]?) ((.agg #[.string ByteArray.empty, .int .u64 0] : Value)).cells parts := by kernel_rfl
  have hp : (fun i => (#[(0, 1), (1, 1)] : Array (Nat × Nat))[i]?) = (fun i => match i with | 0 => some (0, 1) | 1 => some (1, 1) | _ => none) := by
    funext i
    rcases i with _ | _ | _ <;> rfl
  rw [h, hp]⟩
theorem zv_14 : ZvTy Try.prog 14 (.agg [.str [], .int .u64 0]) := zvTy_of (z := .agg #[.string ByteArray.empty, .int .u64 0]) (by kernel_rfl) rfl
theorem agg_14 : AggTy Try.prog 14 2 := aggTy_of Try.underlying14 rfl (by kernel_rfl)
theorem fi_14_0 : FiTy Try.prog 14 0 0 := fiTy_of (k := 1) Try.underlying14 rfl rfl (by kernel_rfl) (by decide)
theorem fi_14_1 : FiTy Try.prog 14 1 1 := fiTy_of (k := 1) Try.underlying14 rfl rfl (by kernel_rfl) (by decide)
theorem zt_14 : ZeroTy Try.prog 14 [.str [], .int .u64 0] := zeroTy_of (z := .agg #[.string ByteArray.empty, .int .u64 0]) (by kernel_rfl) rfl
theorem bt_14 : BuildTy Try.prog 14 (fun i => match i with | 0 => some (0, 1) | 1 => some (1, 1) | _ => none) [.str [], .int .u64 0] := ⟨.agg #[.string ByteArray.empty, .int .u64 0], rfl, fun parts => by
  have h : Try.prog.built 14 parts = Instr.fill (#[(0, 1), (1, 1)][·]?) ((.agg #[.string ByteArray.empty, .int .u64 0] : Value)).cells parts := by kernel_rfl
  have hp : (fun i => (#[(0, 1), (1, 1)] : Array (Nat × Nat))[i]?) = (fun i => match i with | 0 => some (0, 1) | 1 => some (1, 1) | _ => none) := by
    funext i
    rcases i with _ | _ | _ <;> rfl
  rw [h, hp]⟩
theorem zv_21 : ZvTy Try.prog 21 (.int .i32 0) := zvTy_of (z := .int .i32 0) (by kernel_rfl) rfl
theorem one_21 : OneTy Try.prog 21 := oneTy_of Try.underlying21 rfl (by kernel_rfl)
theorem zt_21 : ZeroTy Try.prog 21 [.int .i32 0] := zeroTy_of (z := .int .i32 0) (by kernel_rfl) rfl
theorem zv_22 : ZvTy Try.prog 22 (.sl 0 []) := zvTy_of (z := .slice none 0 0) (by kernel_rfl) rfl
theorem sl_22 : SlTy Try.prog 22 5 1 1 [.int .u8 0] := slTy_of Try.underlying22 (z := .int .u8 0) (by kernel_rfl) rfl (by decide) (by decide) rfl
theorem one_22 : OneTy Try.prog 22 := oneTy_of Try.underlying22 rfl (by kernel_rfl)
theorem zt_22 : ZeroTy Try.prog 22 [.sl 0 []] := zeroTy_of (z := .slice none 0 0) (by kernel_rfl) rfl
theorem zv_24 : ZvTy Try.prog 24 (.agg [.int .i64 0, .int .i64 0]) := zvTy_of (z := .agg #[.int .i64 0, .int .i64 0]) (by kernel_rfl) rfl
theorem agg_24 : AggTy Try.prog 24 2 := aggTy_of Try.underlying24 rfl (by kernel_rfl)
theorem fi_24_0 : FiTy Try.prog 24 0 0 := fiTy_of (k := 1) Try.underlying24 rfl rfl (by kernel_rfl) (by decide)
theorem fi_24_1 : FiTy Try.prog 24 1 1 := fiTy_of (k := 1) Try.underlying24 rfl rfl (by kernel_rfl) (by decide)
theorem zt_24 : ZeroTy Try.prog 24 [.int .i64 0, .int .i64 0] := zeroTy_of (z := .agg #[.int .i64 0, .int .i64 0]) (by kernel_rfl) rfl
theorem bt_24 : BuildTy Try.prog 24 (fun i => match i with | 0 => some (0, 1) | 1 => some (1, 1) | _ => none) [.int .i64 0, .int .i64 0] := ⟨.agg #[.int .i64 0, .int .i64 0], rfl, fun parts => by
  have h : Try.prog.built 24 parts = Instr.fill (#[(0, 1), (1, 1)][·]?) ((.agg #[.int .i64 0, .int .i64 0] : Value)).cells parts := by kernel_rfl
  have hp : (fun i => (#[(0, 1), (1, 1)] : Array (Nat × Nat))[i]?) = (fun i => match i with | 0 => some (0, 1) | 1 => some (1, 1) | _ => none) := by
    funext i
    rcases i with _ | _ | _ <;> rfl
  rw [h, hp]⟩
theorem zv_25 : ZvTy Try.prog 25 (.agg [.int .i64 0, .int .i64 0]) := zvTy_of (z := .agg #[.int .i64 0, .int .i64 0]) (by kernel_rfl) rfl
theorem agg_25 : AggTy Try.prog 25 2 := aggTy_of Try.underlying25 rfl (by kernel_rfl)
theorem fi_25_0 : FiTy Try.prog 25 0 0 := fiTy_of (k := 1) Try.underlying25 rfl rfl (by kernel_rfl) (by decide)
theorem fi_25_1 : FiTy Try.prog 25 1 1 := fiTy_of (k := 1) Try.underlying25 rfl rfl (by kernel_rfl) (by decide)
theorem zt_25 : ZeroTy Try.prog 25 [.int .i64 0, .int .i64 0] := zeroTy_of (z := .agg #[.int .i64 0, .int .i64 0]) (by kernel_rfl) rfl
theorem bt_25 : BuildTy Try.prog 25 (fun i => match i with | 0 => some (0, 1) | 1 => some (1, 1) | _ => none) [.int .i64 0, .int .i64 0] := ⟨.agg #[.int .i64 0, .int .i64 0], rfl, fun parts => by
  have h : Try.prog.built 25 parts = Instr.fill (#[(0, 1), (1, 1)][·]?) ((.agg #[.int .i64 0, .int .i64 0] : Value)).cells parts := by kernel_rfl
  have hp : (fun i => (#[(0, 1), (1, 1)] : Array (Nat × Nat))[i]?) = (fun i => match i with | 0 => some (0, 1) | 1 => some (1, 1) | _ => none) := by
    funext i
    rcases i with _ | _ | _ <;> rfl
  rw [h, hp]⟩
theorem zv_32 : ZvTy Try.prog 32 (.sl 0 []) := zvTy_of (z := .slice none 0 0) (by kernel_rfl) rfl
theorem sl_32 : SlTy Try.prog 32 25 2 16 [.int .i64 0, .int .i64 0] := slTy_of Try.underlying32 (z := .agg #[.int .i64 0, .int .i64 0]) (by kernel_rfl) rfl (by decide) (by decide) rfl
theorem one_32 : OneTy Try.prog 32 := oneTy_of Try.underlying32 rfl (by kernel_rfl)
theorem zt_32 : ZeroTy Try.prog 32 [.sl 0 []] := zeroTy_of (z := .slice none 0 0) (by kernel_rfl) rfl
theorem zv_33 : ZvTy Try.prog 33 (.sl 0 []) := zvTy_of (z := .slice none 0 0) (by kernel_rfl) rfl
theorem sl_33 : SlTy Try.prog 33 3 1 8 [.int .i64 0] := slTy_of Try.underlying33 (z := .int .i64 0) (by kernel_rfl) rfl (by decide) (by decide) rfl
theorem one_33 : OneTy Try.prog 33 := oneTy_of Try.underlying33 rfl (by kernel_rfl)
theorem zt_33 : ZeroTy Try.prog 33 [.sl 0 []] := zeroTy_of (z := .slice none 0 0) (by kernel_rfl) rfl
theorem zv_47 : ZvTy Try.prog 47 (.int .u64 0) := zvTy_of (z := .int .u64 0) (by kernel_rfl) rfl
theorem one_47 : OneTy Try.prog 47 := oneTy_of Try.underlying47 rfl (by kernel_rfl)
theorem zt_47 : ZeroTy Try.prog 47 [.int .u64 0] := zeroTy_of (z := .int .u64 0) (by kernel_rfl) rfl
theorem zv_48 : ZvTy Try.prog 48 (.agg [.sl 0 [], .int .i64 0, .int .u64 0]) := zvTy_of (z := .agg #[.slice none 0 0, .int .i64 0, .int .u64 0]) (by kernel_rfl) rfl
theorem agg_48 : AggTy Try.prog 48 3 := aggTy_of Try.underlying48 rfl (by kernel_rfl)
theorem fi_48_0 : FiTy Try.prog 48 0 0 := fiTy_of (k := 1) Try.underlying48 rfl rfl (by kernel_rfl) (by decide)
theorem fi_48_1 : FiTy Try.prog 48 1 1 := fiTy_of (k := 1) Try.underlying48 rfl rfl (by kernel_rfl) (by decide)
theorem fi_48_2 : FiTy Try.prog 48 2 2 := fiTy_of (k := 1) Try.underlying48 rfl rfl (by kernel_rfl) (by decide)
theorem zt_48 : ZeroTy Try.prog 48 [.sl 0 [], .int .i64 0, .int .u64 0] := zeroTy_of (z := .agg #[.slice none 0 0, .int .i64 0, .int .u64 0]) (by kernel_rfl) rfl
theorem bt_48 : BuildTy Try.prog 48 (fun i => match i with | 0 => some (0, 1) | 1 => some (1, 1) | 2 => some (2, 1) | _ => none) [.sl 0 [], .int .i64 0, .int .u64 0] := ⟨.agg #[.slice none 0 0, .int .i64 0, .int .u64 0], rfl, fun parts => by
  have h : Try.prog.built 48 parts = Instr.fill (#[(0, 1), (1, 1), (2, 1)][·]?) ((.agg #[.slice none 0 0, .int .i64 0, .int .u64 0] : Value)).cells parts := by kernel_rfl
  have hp : (fun i => (#[(0, 1), (1, 1), (2, 1)] : Array (Nat × Nat))[i]?) = (fun i => match i with | 0 => some (0, 1) | 1 => some (1, 1) | 2 => some (2, 1) | _ => none) := by
    funext i
    rcases i with _ | _ | _ | _ <;> rfl
  rw [h, hp]⟩
theorem zv_49 : ZvTy Try.prog 49 (.agg [.sl 0 [], .int .i64 0, .int .u64 0]) := zvTy_of (z := .agg #[.slice none 0 0, .int .i64 0, .int .u64 0]) (by kernel_rfl) rfl
theorem agg_49 : AggTy Try.prog 49 3 := aggTy_of Try.underlying49 rfl (by kernel_rfl)
theorem fi_49_0 : FiTy Try.prog 49 0 0 := fiTy_of (k := 1) Try.underlying49 rfl rfl (by kernel_rfl) (by decide)
theorem fi_49_1 : FiTy Try.prog 49 1 1 := fiTy_of (k := 1) Try.underlying49 rfl rfl (by kernel_rfl) (by decide)
theorem fi_49_2 : FiTy Try.prog 49 2 2 := fiTy_of (k := 1) Try.underlying49 rfl rfl (by kernel_rfl) (by decide)
theorem zt_49 : ZeroTy Try.prog 49 [.sl 0 [], .int .i64 0, .int .u64 0] := zeroTy_of (z := .agg #[.slice none 0 0, .int .i64 0, .int .u64 0]) (by kernel_rfl) rfl
theorem bt_49 : BuildTy Try.prog 49 (fun i => match i with | 0 => some (0, 1) | 1 => some (1, 1) | 2 => some (2, 1) | _ => none) [.sl 0 [], .int .i64 0, .int .u64 0] := ⟨.agg #[.slice none 0 0, .int .i64 0, .int .u64 0], rfl, fun parts => by
  have h : Try.prog.built 49 parts = Instr.fill (#[(0, 1), (1, 1), (2, 1)][·]?) ((.agg #[.slice none 0 0, .int .i64 0, .int .u64 0] : Value)).cells parts := by kernel_rfl
  have hp : (fun i => (#[(0, 1), (1, 1), (2, 1)] : Array (Nat × Nat))[i]?) = (fun i => match i with | 0 => some (0, 1) | 1 => some (1, 1) | 2 => some (2, 1) | _ => none) := by
    funext i
    rcases i with _ | _ | _ | _ <;> rfl
  rw [h, hp]⟩
theorem zv_66 : ZvTy Try.prog 66 (.int .u64 0) := zvTy_of (z := .int .u64 0) (by kernel_rfl) rfl
theorem one_66 : OneTy Try.prog 66 := oneTy_of Try.underlying66 rfl (by kernel_rfl)
theorem zt_66 : ZeroTy Try.prog 66 [.int .u64 0] := zeroTy_of (z := .int .u64 0) (by kernel_rfl) rfl
theorem zv_74 : ZvTy Try.prog 74 (.int .u32 0) := zvTy_of (z := .int .u32 0) (by kernel_rfl) rfl
theorem one_74 : OneTy Try.prog 74 := oneTy_of Try.underlying74 rfl (by kernel_rfl)
theorem zt_74 : ZeroTy Try.prog 74 [.int .u32 0] := zeroTy_of (z := .int .u32 0) (by kernel_rfl) rfl
theorem zv_75 : ZvTy Try.prog 75 (.int .u8 0) := zvTy_of (z := .int .u8 0) (by kernel_rfl) rfl
theorem one_75 : OneTy Try.prog 75 := oneTy_of Try.underlying75 rfl (by kernel_rfl)
theorem zt_75 : ZeroTy Try.prog 75 [.int .u8 0] := zeroTy_of (z := .int .u8 0) (by kernel_rfl) rfl
theorem zv_76 : ZvTy Try.prog 76 (.int .u8 0) := zvTy_of (z := .int .u8 0) (by kernel_rfl) rfl
theorem one_76 : OneTy Try.prog 76 := oneTy_of Try.underlying76 rfl (by kernel_rfl)
theorem zt_76 : ZeroTy Try.prog 76 [.int .u8 0] := zeroTy_of (z := .int .u8 0) (by kernel_rfl) rfl
theorem zv_79 : ZvTy Try.prog 79 (.int .i32 0) := zvTy_of (z := .int .i32 0) (by kernel_rfl) rfl
theorem one_79 : OneTy Try.prog 79 := oneTy_of Try.underlying79 rfl (by kernel_rfl)
theorem zt_79 : ZeroTy Try.prog 79 [.int .i32 0] := zeroTy_of (z := .int .i32 0) (by kernel_rfl) rfl
theorem zv_80 : ZvTy Try.prog 80 (.int .i32 0) := zvTy_of (z := .int .i32 0) (by kernel_rfl) rfl
theorem one_80 : OneTy Try.prog 80 := oneTy_of Try.underlying80 rfl (by kernel_rfl)
theorem zt_80 : ZeroTy Try.prog 80 [.int .i32 0] := zeroTy_of (z := .int .i32 0) (by kernel_rfl) rfl

theorem flp_7 : ∃ fs, Try.prog.underlying 7 = some (.struct fs) ∧ ∀ (f : Nat) (off ft : Nat), ([(0, 2), (1, 3), (2, 4), (3, 6)] : List (Nat × Nat))[f]? = some (off, ft) → (∃ fd : Field, fs[f]? = some fd ∧ fd.offset = off ∧ fd.type = ft) ∧ FiTy Try.prog 7 f off := by
  refine ⟨_, Try.underlying7, fun f off ft h => ?_⟩
  rcases f with _ | _ | _ | _ | f
  · simp at h; obtain ⟨rfl, rfl⟩ := h; exact ⟨⟨_, rfl, rfl, rfl⟩, fi_7_0⟩
  · simp at h; obtain ⟨rfl, rfl⟩ := h; exact ⟨⟨_, rfl, rfl, rfl⟩, fi_7_1⟩
  · simp at h; obtain ⟨rfl, rfl⟩ := h; exact ⟨⟨_, rfl, rfl, rfl⟩, fi_7_2⟩
  · simp at h; obtain ⟨rfl, rfl⟩ := h; exact ⟨⟨_, rfl, rfl, rfl⟩, fi_7_3⟩
  · simp at h

def pl_7 : Nat → Option (Nat × Nat) := (fun i => match i with | 0 => some (0, 1) | 1 => some (1, 1) | 2 => some (2, 1) | 3 => some (3, 1) | _ => none)

theorem flp_8 : ∃ fs, Try.prog.underlying 8 = some (.struct fs) ∧ ∀ (f : Nat) (off ft : Nat), ([(0, 2), (1, 3), (2, 4), (3, 6)] : List (Nat × Nat))[f]? = some (off, ft) → (∃ fd : Field, fs[f]? = some fd ∧ fd.offset = off ∧ fd.type = ft) ∧ FiTy Try.prog 8 f off := by
  refine ⟨_, Try.underlying8, fun f off ft h => ?_⟩
  rcases f with _ | _ | _ | _ | f
  · simp at h; obtain ⟨rfl, rfl⟩ := h; exact ⟨⟨_, rfl, rfl, rfl⟩, fi_8_0⟩
  · simp at h; obtain ⟨rfl, rfl⟩ := h; exact ⟨⟨_, rfl, rfl, rfl⟩, fi_8_1⟩
  · simp at h; obtain ⟨rfl, rfl⟩ := h; exact ⟨⟨_, rfl, rfl, rfl⟩, fi_8_2⟩
  · simp at h; obtain ⟨rfl, rfl⟩ := h; exact ⟨⟨_, rfl, rfl, rfl⟩, fi_8_3⟩
  · simp at h

def pl_8 : Nat → Option (Nat × Nat) := (fun i => match i with | 0 => some (0, 1) | 1 => some (1, 1) | 2 => some (2, 1) | 3 => some (3, 1) | _ => none)

theorem flp_13 : ∃ fs, Try.prog.underlying 13 = some (.struct fs) ∧ ∀ (f : Nat) (off ft : Nat), ([(0, 9), (1, 12)] : List (Nat × Nat))[f]? = some (off, ft) → (∃ fd : Field, fs[f]? = some fd ∧ fd.offset = off ∧ fd.type = ft) ∧ FiTy Try.prog 13 f off := by
  refine ⟨_, Try.underlying13, fun f off ft h => ?_⟩
  rcases f with _ | _ | f
  · simp at h; obtain ⟨rfl, rfl⟩ := h; exact ⟨⟨_, rfl, rfl, rfl⟩, fi_13_0⟩
  · simp at h; obtain ⟨rfl, rfl⟩ := h; exact ⟨⟨_, rfl, rfl, rfl⟩, fi_13_1⟩
  · simp at h

def pl_13 : Nat → Option (Nat × Nat) := (fun i => match i with | 0 => some (0, 1) | 1 => some (1, 1) | _ => none)

theorem flp_14 : ∃ fs, Try.prog.underlying 14 = some (.struct fs) ∧ ∀ (f : Nat) (off ft : Nat), ([(0, 9), (1, 12)] : List (Nat × Nat))[f]? = some (off, ft) → (∃ fd : Field, fs[f]? = some fd ∧ fd.offset = off ∧ fd.type = ft) ∧ FiTy Try.prog 14 f off := by
  refine ⟨_, Try.underlying14, fun f off ft h => ?_⟩
  rcases f with _ | _ | f
  · simp at h; obtain ⟨rfl, rfl⟩ := h; exact ⟨⟨_, rfl, rfl, rfl⟩, fi_14_0⟩
  · simp at h; obtain ⟨rfl, rfl⟩ := h; exact ⟨⟨_, rfl, rfl, rfl⟩, fi_14_1⟩
  · simp at h

def pl_14 : Nat → Option (Nat × Nat) := (fun i => match i with | 0 => some (0, 1) | 1 => some (1, 1) | _ => none)

theorem flp_24 : ∃ fs, Try.prog.underlying 24 = some (.struct fs) ∧ ∀ (f : Nat) (off ft : Nat), ([(0, 3), (1, 3)] : List (Nat × Nat))[f]? = some (off, ft) → (∃ fd : Field, fs[f]? = some fd ∧ fd.offset = off ∧ fd.type = ft) ∧ FiTy Try.prog 24 f off := by
  refine ⟨_, Try.underlying24, fun f off ft h => ?_⟩
  rcases f with _ | _ | f
  · simp at h; obtain ⟨rfl, rfl⟩ := h; exact ⟨⟨_, rfl, rfl, rfl⟩, fi_24_0⟩
  · simp at h; obtain ⟨rfl, rfl⟩ := h; exact ⟨⟨_, rfl, rfl, rfl⟩, fi_24_1⟩
  · simp at h

def pl_24 : Nat → Option (Nat × Nat) := (fun i => match i with | 0 => some (0, 1) | 1 => some (1, 1) | _ => none)

theorem flp_25 : ∃ fs, Try.prog.underlying 25 = some (.struct fs) ∧ ∀ (f : Nat) (off ft : Nat), ([(0, 3), (1, 3)] : List (Nat × Nat))[f]? = some (off, ft) → (∃ fd : Field, fs[f]? = some fd ∧ fd.offset = off ∧ fd.type = ft) ∧ FiTy Try.prog 25 f off := by
  refine ⟨_, Try.underlying25, fun f off ft h => ?_⟩
  rcases f with _ | _ | f
  · simp at h; obtain ⟨rfl, rfl⟩ := h; exact ⟨⟨_, rfl, rfl, rfl⟩, fi_25_0⟩
  · simp at h; obtain ⟨rfl, rfl⟩ := h; exact ⟨⟨_, rfl, rfl, rfl⟩, fi_25_1⟩
  · simp at h

def pl_25 : Nat → Option (Nat × Nat) := (fun i => match i with | 0 => some (0, 1) | 1 => some (1, 1) | _ => none)

theorem flp_48 : ∃ fs, Try.prog.underlying 48 = some (.struct fs) ∧ ∀ (f : Nat) (off ft : Nat), ([(0, 22), (1, 3), (2, 47)] : List (Nat × Nat))[f]? = some (off, ft) → (∃ fd : Field, fs[f]? = some fd ∧ fd.offset = off ∧ fd.type = ft) ∧ FiTy Try.prog 48 f off := by
  refine ⟨_, Try.underlying48, fun f off ft h => ?_⟩
  rcases f with _ | _ | _ | f
  · simp at h; obtain ⟨rfl, rfl⟩ := h; exact ⟨⟨_, rfl, rfl, rfl⟩, fi_48_0⟩
  · simp at h; obtain ⟨rfl, rfl⟩ := h; exact ⟨⟨_, rfl, rfl, rfl⟩, fi_48_1⟩
  · simp at h; obtain ⟨rfl, rfl⟩ := h; exact ⟨⟨_, rfl, rfl, rfl⟩, fi_48_2⟩
  · simp at h

def pl_48 : Nat → Option (Nat × Nat) := (fun i => match i with | 0 => some (0, 1) | 1 => some (1, 1) | 2 => some (2, 1) | _ => none)

theorem flp_49 : ∃ fs, Try.prog.underlying 49 = some (.struct fs) ∧ ∀ (f : Nat) (off ft : Nat), ([(0, 22), (1, 3), (2, 47)] : List (Nat × Nat))[f]? = some (off, ft) → (∃ fd : Field, fs[f]? = some fd ∧ fd.offset = off ∧ fd.type = ft) ∧ FiTy Try.prog 49 f off := by
  refine ⟨_, Try.underlying49, fun f off ft h => ?_⟩
  rcases f with _ | _ | _ | f
  · simp at h; obtain ⟨rfl, rfl⟩ := h; exact ⟨⟨_, rfl, rfl, rfl⟩, fi_49_0⟩
  · simp at h; obtain ⟨rfl, rfl⟩ := h; exact ⟨⟨_, rfl, rfl, rfl⟩, fi_49_1⟩
  · simp at h; obtain ⟨rfl, rfl⟩ := h; exact ⟨⟨_, rfl, rfl, rfl⟩, fi_49_2⟩
  · simp at h

def pl_49 : Nat → Option (Nat × Nat) := (fun i => match i with | 0 => some (0, 1) | 1 => some (1, 1) | 2 => some (2, 1) | _ => none)


def kdL : List (Nat × (TK)) := [(2, .int .i64), (3, .int .i64), (4, .bool), (5, .int .u8), (6, .int .u8), (9, .str), (10, .str), (11, .str), (12, .int .u64), (21, .int .i32), (47, .int .u64), (66, .int .u64), (74, .int .u32), (75, .int .u8), (76, .int .u8), (79, .int .i32), (80, .int .i32)]
def slL : List (Nat × (Nat × Nat × Nat × List PV)) := [(22, 5, 1, 1, [.int .u8 0]), (32, 25, 2, 16, [.int .i64 0, .int .i64 0]), (33, 3, 1, 8, [.int .i64 0])]
def oneL : List (Nat × (Unit)) := [(2, ()), (3, ()), (4, ()), (5, ()), (6, ()), (9, ()), (10, ()), (11, ()), (12, ()), (21, ()), (22, ()), (32, ()), (33, ()), (47, ()), (66, ()), (74, ()), (75, ()), (76, ()), (79, ()), (80, ())]
def aggL : List (Nat × (Nat)) := [(7, 4), (8, 4), (13, 2), (14, 2), (24, 2), (25, 2), (48, 3), (49, 3)]
def arrL : List (Nat × (Nat × Nat)) := []
def areL : List (Nat × (Nat × Nat)) := []
def flL : List (Nat × (List (Nat × Nat))) := [(7, [(0, 2), (1, 3), (2, 4), (3, 6)]), (8, [(0, 2), (1, 3), (2, 4), (3, 6)]), (13, [(0, 9), (1, 12)]), (14, [(0, 9), (1, 12)]), (24, [(0, 3), (1, 3)]), (25, [(0, 3), (1, 3)]), (48, [(0, 22), (1, 3), (2, 47)]), (49, [(0, 22), (1, 3), (2, 47)])]
def ztL : List (Nat × (List PV)) := [(2, [.int .i64 0]), (3, [.int .i64 0]), (4, [.bool false]), (5, [.int .u8 0]), (6, [.int .u8 0]), (7, [.int .i64 0, .int .i64 0, .bool false, .int .u8 0]), (8, [.int .i64 0, .int .i64 0, .bool false, .int .u8 0]), (9, [.str []]), (10, [.str []]), (11, [.str []]), (12, [.int .u64 0]), (13, [.str [], .int .u64 0]), (14, [.str [], .int .u64 0]), (21, [.int .i32 0]), (22, [.sl 0 []]), (24, [.int .i64 0, .int .i64 0]), (25, [.int .i64 0, .int .i64 0]), (32, [.sl 0 []]), (33, [.sl 0 []]), (47, [.int .u64 0]), (48, [.sl 0 [], .int .i64 0, .int .u64 0]), (49, [.sl 0 [], .int .i64 0, .int .u64 0]), (66, [.int .u64 0]), (74, [.int .u32 0]), (75, [.int .u8 0]), (76, [.int .u8 0]), (79, [.int .i32 0]), (80, [.int .i32 0])]
def btL : List (Nat × ((Nat → Option (Nat × Nat)) × List PV)) := [(7, pl_7, [.int .i64 0, .int .i64 0, .bool false, .int .u8 0]), (8, pl_8, [.int .i64 0, .int .i64 0, .bool false, .int .u8 0]), (13, pl_13, [.str [], .int .u64 0]), (14, pl_14, [.str [], .int .u64 0]), (24, pl_24, [.int .i64 0, .int .i64 0]), (25, pl_25, [.int .i64 0, .int .i64 0]), (48, pl_48, [.sl 0 [], .int .i64 0, .int .u64 0]), (49, pl_49, [.sl 0 [], .int .i64 0, .int .u64 0])]
def mpL : List (Nat × (Nat × Nat)) := []
def zvL : List (Nat × (PV)) := [(2, .int .i64 0), (3, .int .i64 0), (4, .bool false), (5, .int .u8 0), (6, .int .u8 0), (7, .agg [.int .i64 0, .int .i64 0, .bool false, .int .u8 0]), (8, .agg [.int .i64 0, .int .i64 0, .bool false, .int .u8 0]), (9, .str []), (10, .str []), (11, .str []), (12, .int .u64 0), (13, .agg [.str [], .int .u64 0]), (14, .agg [.str [], .int .u64 0]), (21, .int .i32 0), (22, .sl 0 []), (24, .agg [.int .i64 0, .int .i64 0]), (25, .agg [.int .i64 0, .int .i64 0]), (32, .sl 0 []), (33, .sl 0 []), (47, .int .u64 0), (48, .agg [.sl 0 [], .int .i64 0, .int .u64 0]), (49, .agg [.sl 0 [], .int .i64 0, .int .u64 0]), (66, .int .u64 0), (74, .int .u32 0), (75, .int .u8 0), (76, .int .u8 0), (79, .int .i32 0), (80, .int .i32 0)]
def tf : TF Try.prog where
  kd := kdL
  sl := slL
  one := oneL
  agg := aggL
  arr := arrL
  are := areL
  fl := flL
  zt := ztL
  bt := btL
  mp := mpL
  zv := zvL
  mix := by kernel_rfl
  kd_ok := ⟨Try.underlying2, Try.underlying3, Try.underlying4, Try.underlying5, Try.underlying6, Try.underlying9, Try.underlying10, Try.underlying11, Try.underlying12, Try.underlying21, Try.underlying47, Try.underlying66, Try.underlying74, Try.underlying75, Try.underlying76, Try.underlying79, Try.underlying80, trivial⟩
  sl_ok := ⟨sl_22, sl_32, sl_33, trivial⟩
  one_ok := ⟨one_2, one_3, one_4, one_5, one_6, one_9, one_10, one_11, one_12, one_21, one_22, one_32, one_33, one_47, one_66, one_74, one_75, one_76, one_79, one_80, trivial⟩
  agg_ok := ⟨agg_7, agg_8, agg_13, agg_14, agg_24, agg_25, agg_48, agg_49, trivial⟩
  arr_ok := trivial
  are_ok := trivial
  fl_ok := ⟨flp_7, flp_8, flp_13, flp_14, flp_24, flp_25, flp_48, flp_49, trivial⟩
  zt_ok := ⟨zt_2, zt_3, zt_4, zt_5, zt_6, zt_7, zt_8, zt_9, zt_10, zt_11, zt_12, zt_13, zt_14, zt_21, zt_22, zt_24, zt_25, zt_32, zt_33, zt_47, zt_48, zt_49, zt_66, zt_74, zt_75, zt_76, zt_79, zt_80, trivial⟩
  bt_ok := ⟨bt_7, bt_8, bt_13, bt_14, bt_24, bt_25, bt_48, bt_49, trivial⟩
  mp_ok := trivial
  zv_ok := ⟨zv_2, zv_3, zv_4, zv_5, zv_6, zv_7, zv_8, zv_9, zv_10, zv_11, zv_12, zv_13, zv_14, zv_21, zv_22, zv_24, zv_25, zv_32, zv_33, zv_47, zv_48, zv_49, zv_66, zv_74, zv_75, zv_76, zv_79, zv_80, trivial⟩

end Go.Proofs.Ythgiialammjcbaa.Tf
