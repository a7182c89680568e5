/- The tables of this translation for the interpreter, each fact closed by the kernel. No conditions. -/
import Derived.Test.YtfagllolcalfiaaDoorRows
import Derived.Test.YtfagllolcalfiaaDoorPwQ
namespace Go.Proofs.YtfagllolcalfiaaDoor.Tf
open Go.RowKit
set_option maxRecDepth 20000
theorem zv_2 : ZvTy Tryd.prog 2 (.int .i64 0) := zvTy_of (z := .int .i64 0) (by kernel_rfl) rfl
theorem one_2 : OneTy Tryd.prog 2 := oneTy_of Tryd.underlying2 rfl (by kernel_rfl)
theorem zt_2 : ZeroTy Tryd.prog 2 [.int .i64 0] := zeroTy_of (z := .int .i64 0) (by kernel_rfl) rfl
theorem zv_3 : ZvTy Tryd.prog 3 (.int .i64 0) := zvTy_of (z := .int .i64 0) (by kernel_rfl) rfl
theorem one_3 : OneTy Tryd.prog 3 := oneTy_of Tryd.underlying3 rfl (by kernel_rfl)
theorem zt_3 : ZeroTy Tryd.prog 3 [.int .i64 0] := zeroTy_of (z := .int .i64 0) (by kernel_rfl) rfl
theorem zv_4 : ZvTy Tryd.prog 4 (.bool false) := zvTy_of (z := .bool false) (by kernel_rfl) rfl
theorem one_4 : OneTy Tryd.prog 4 := oneTy_of Tryd.underlying4 rfl (by kernel_rfl)
theorem zt_4 : ZeroTy Tryd.prog 4 [.bool false] := zeroTy_of (z := .bool false) (by kernel_rfl) rfl
theorem zv_5 : ZvTy Tryd.prog 5 (.int .u8 0) := zvTy_of (z := .int .u8 0) (by kernel_rfl) rfl
theorem one_5 : OneTy Tryd.prog 5 := oneTy_of Tryd.underlying5 rfl (by kernel_rfl)
theorem zt_5 : ZeroTy Tryd.prog 5 [.int .u8 0] := zeroTy_of (z := .int .u8 0) (by kernel_rfl) rfl
theorem zv_6 : ZvTy Tryd.prog 6 (.int .u8 0) := zvTy_of (z := .int .u8 0) (by kernel_rfl) rfl
theorem one_6 : OneTy Tryd.prog 6 := oneTy_of Tryd.underlying6 rfl (by kernel_rfl)
theorem zt_6 : ZeroTy Tryd.prog 6 [.int .u8 0] := zeroTy_of (z := .int .u8 0) (by kernel_rfl) rfl
theorem zv_7 : ZvTy Tryd.prog 7 (.agg [.int .i64 0, .int .i64 0, .bool false, .int .u8 0]) := zvTy_of (z := .agg #[.int .i64 0, .int .i64 0, .bool false, .int .u8 0]) (by kernel_rfl) rfl
theorem agg_7 : AggTy Tryd.prog 7 4 := aggTy_of Tryd.underlying7 rfl (by kernel_rfl)
theorem fi_7_0 : FiTy Tryd.prog 7 0 0 := fiTy_of (k := 1) Tryd.underlying7 rfl rfl (by kernel_rfl) (by decide)
theorem fi_7_1 : FiTy Tryd.prog 7 1 1 := fiTy_of (k := 1) Tryd.underlying7 rfl rfl (by kernel_rfl) (by decide)
theorem fi_7_2 : FiTy Tryd.prog 7 2 2 := fiTy_of (k := 1) Tryd.underlying7 rfl rfl (by kernel_rfl) (by decide)
theorem fi_7_3 : FiTy Tryd.prog 7 3 3 := fiTy_of (k := 1) Tryd.underlying7 rfl rfl (by kernel_rfl) (by decide)
theorem zt_7 : ZeroTy Tryd.prog 7 [.int .i64 0, .int .i64 0, .bool false, .int .u8 0] := zeroTy_of (z := .agg #[.int .i64 0, .int .i64 0, .bool false, .int .u8 0]) (by kernel_rfl) rfl
theorem bt_7 : BuildTy Tryd.prog 7 (fun i => match i with | 0 => some (0, 1) | 1 => some (1, 1) | 2 => some (2, 1) | 3 => some (3, 1) | _ => none) [.int .i64 0, .int .i64 0, .bool false, .int .u8 0] := ⟨.agg #[.int .i64 0, .int .i64 0, .bool false, .int .u8 0], rfl, fun parts => by
  have h : Tryd.prog.built 7 parts = Instr.fill (#[(0, 1), (1, 1), (2, 1), (3, 1)][·]?) ((.agg #[.int .i64 0, .int .i64 0, .bool false, .int .u8 0] : Value)).cells parts := by kernel_rfl
  have hp : (fun i => (#[(0, 1), (1, 1), (2, 1), (3, 1)] : Array (Nat × Nat))[i]?) = (fun i => match i with | 0 => some (0, 1) | 1 => some (1, 1) | 2 => some (2, 1) | 3 => some (3, 1) | _ => none) := by
    funext i
    rcases i with _ | _ | _ | _ | _ <;> rfl
  rw [h, hp]⟩
theorem zv_8 : ZvTy Tryd.prog 8 (.agg [.int .i64 0, .int .i64 0, .bool false, .int .u8 0]) := zvTy_of (z := .agg #[.int .i64 0, .int .i64 0, .bool false, .int .u8 0]) (by kernel_rfl) rfl
theorem agg_8 : AggTy Tryd.prog 8 4 := aggTy_of Tryd.underlying8 rfl (by kernel_rfl)
theorem fi_8_0 : FiTy Tryd.prog 8 0 0 := fiTy_of (k := 1) Tryd.underlying8 rfl rfl (by kernel_rfl) (by decide)
theorem fi_8_1 : FiTy Tryd.prog 8 1 1 := fiTy_of (k := 1) Tryd.underlying8 rfl rfl (by kernel_rfl) (by decide)
theorem fi_8_2 : FiTy Tryd.prog 8 2 2 := fiTy_of (k := 1) Tryd.underlying8 rfl rfl (by kernel_rfl) (by decide)
theorem fi_8_3 : FiTy Tryd.prog 8 3 3 := fiTy_of (k := 1) Tryd.underlying8 rfl rfl (by kernel_rfl) (by decide)
theorem zt_8 : ZeroTy Tryd.prog 8 [.int .i64 0, .int .i64 0, .bool false, .int .u8 0] := zeroTy_of (z := .agg #[.int .i64 0, .int .i64 0, .bool false, .int .u8 0]) (by kernel_rfl) rfl
theorem bt_8 : BuildTy Tryd.prog 8 (fun i => match i with | 0 => some (0, 1) | 1 => some (1, 1) | 2 => some (2, 1) | 3 => some (3, 1) | _ => none) [.int .i64 0, .int .i64 0, .bool false, .int .u8 0] := ⟨.agg #[.int .i64 0, .int .i64 0, .bool false, .int .u8 0], rfl, fun parts => by
  have h : Tryd.prog.built 8 parts = Instr.fill (#[(0, 1), (1, 1), (2, 1), (3, 1)][·]?) ((.agg #[.int .i64 0, .int .i64 0, .bool false, .int .u8 0] : Value)).cells parts := by kernel_rfl
  have hp : (fun i => (#[(0, 1), (1, 1), (2, 1), (3, 1)] : Array (Nat × Nat))[i]?) = (fun i => match i with | 0 => some (0, 1) | 1 => some (1, 1) | 2 => some (2, 1) | 3 => some (3, 1) | _ => none) := by
    funext i
    rcases i with _ | _ | _ | _ | _ <;> rfl
  rw [h, hp]⟩
theorem zv_9 : ZvTy Tryd.prog 9 (.str []) := zvTy_of (z := .string ByteArray.empty) (by kernel_rfl) rfl
theorem one_9 : OneTy Tryd.prog 9 := oneTy_of Tryd.underlying9 rfl (by kernel_rfl)
theorem zt_9 : ZeroTy Tryd.prog 9 [.str []] := zeroTy_of (z := .string ByteArray.empty) (by kernel_rfl) rfl
theorem zv_10 : ZvTy Tryd.prog 10 (.str []) := zvTy_of (z := .string ByteArray.empty) (by kernel_rfl) rfl
theorem one_10 : OneTy Tryd.prog 10 := oneTy_of Tryd.underlying10 rfl (by kernel_rfl)
theorem zt_10 : ZeroTy Tryd.prog 10 [.str []] := zeroTy_of (z := .string ByteArray.empty) (by kernel_rfl) rfl
theorem zv_11 : ZvTy Tryd.prog 11 (.str []) := zvTy_of (z := .string ByteArray.empty) (by kernel_rfl) rfl
theorem one_11 : OneTy Tryd.prog 11 := oneTy_of Tryd.underlying11 rfl (by kernel_rfl)
theorem zt_11 : ZeroTy Tryd.prog 11 [.str []] := zeroTy_of (z := .string ByteArray.empty) (by kernel_rfl) rfl
theorem zv_12 : ZvTy Tryd.prog 12 (.int .u64 0) := zvTy_of (z := .int .u64 0) (by kernel_rfl) rfl
theorem one_12 : OneTy Tryd.prog 12 := oneTy_of Tryd.underlying12 rfl (by kernel_rfl)
theorem zt_12 : ZeroTy Tryd.prog 12 [.int .u64 0] := zeroTy_of (z := .int .u64 0) (by kernel_rfl) rfl
theorem zv_13 : ZvTy Tryd.prog 13 (.agg [.str [], .int .u64 0]) := zvTy_of (z := .agg #[.string ByteArray.empty, .int .u64 0]) (by kernel_rfl) rfl
theorem agg_13 : AggTy Tryd.prog 13 2 := aggTy_of Tryd.underlying13 rfl (by kernel_rfl)
theorem fi_13_0 : FiTy Tryd.prog 13 0 0 := fiTy_of (k := 1) Tryd.underlying13 rfl rfl (by kernel_rfl) (by decide)
theorem fi_13_1 : FiTy Tryd.prog 13 1 1 := fiTy_of (k := 1) Tryd.underlying13 rfl rfl (by kernel_rfl) (by decide)
theorem zt_13 : ZeroTy Tryd.prog 13 [.str [], .int .u64 0] := zeroTy_of (z := .agg #[.string ByteArray.empty, .int .u64 0]) (by kernel_rfl) rfl
theorem bt_13 : BuildTy Tryd.prog 13 (fun i => match i with | 0 => some (0, 1) | 1 => some (1, 1) | _ => none) [.str [], .int .u64 0] := ⟨.agg #[.string ByteArray.empty, .int .u64 0], rfl, fun parts => by
  have h : Tryd.prog.built 13 parts = Instr.fill (#[(0, 1), (1, 1)][·]?) ((.agg #[.string ByteArray.empty, .int .u64 0] : Value)).cells parts := by kernel_rfl
  have hp : (fun i => (#[(0, 1), (1, 1)] : Array (Nat × Nat))[i]?) = (fun i => match i with | 0 => some (0, 1) | 1 => some (1, 1) | _ => none) := by
    funext i
    rcases i with _ | _ | _ <;> rfl
  rw [h, hp]⟩
theorem zv_14 : ZvTy Tryd.prog 14 (.agg [.str [], .int .u64 0]) := zvTy_of (z := .agg #[.string ByteArray.empty, .int .u64 0]) (by kernel_rfl) rfl
theorem agg_14 : AggTy Tryd.prog 14 2 := aggTy_of Tryd.underlying14 rfl (by kernel_rfl)
theorem fi_14_0 : FiTy Tryd.prog 14 0 0 := fiTy_of (k := 1) Tryd.underlying14 rfl rfl (by kernel_rfl) (by decide)
theorem fi_14_1 : FiTy Tryd.prog 14 1 1 := fiTy_of (k := 1) Tryd.underlying14 rfl rfl (by kernel_rfl) (by decide)
theorem zt_14 : ZeroTy Tryd.prog 14 [.str [], .int .u64 0] := zeroTy_of (z := .agg #[.string ByteArray.empty, .int .u64 0]) (by kernel_rfl) rfl
theorem bt_14 : BuildTy Tryd.prog 14 (fun i => match i with | 0 => some (0, 1) | 1 => some (1, 1) | _ => none) [.str [], .int .u64 0] := ⟨.agg #[.string ByteArray.empty, .int .u64 0], rfl, fun parts => by
  have h : Tryd.prog.built 14 parts = Instr.fill (#[(0, 1), (1, 1)][·]?) ((.agg #[.string ByteArray.empty, .int .u64 0] : Value)).cells parts := by kernel_rfl
  have hp : (fun i => (#[(0, 1), (1, 1)] : Array (Nat × Nat))[i]?) = (fun i => match i with | 0 => some (0, 1) | 1 => some (1, 1) | _ => none) := by
    funext i
    rcases i with _ | _ | _ <;> rfl
  rw [h, hp]⟩
theorem zv_21 : ZvTy Tryd.prog 21 (.int .i32 0) := zvTy_of (z := .int .i32 0) (by kernel_rfl) rfl
theorem one_21 : OneTy Tryd.prog 21 := oneTy_of Tryd.underlying21 rfl (by kernel_rfl)
theorem zt_21 : ZeroTy Tryd.prog 21 [.int .i32 0] := zeroTy_of (z := .int .i32 0) (by kernel_rfl) rfl
theorem zv_22 : ZvTy Tryd.prog 22 (.sl 0 []) := zvTy_of (z := .slice none 0 0) (by kernel_rfl) rfl
theorem sl_22 : SlTy Tryd.prog 22 5 1 1 [.int .u8 0] := slTy_of Tryd.underlying22 (z := .int .u8 0) (by kernel_rfl) rfl (by decide) (by decide) rfl
theorem one_22 : OneTy Tryd.prog 22 := oneTy_of Tryd.underlying22 rfl (by kernel_rfl)
theorem zt_22 : ZeroTy Tryd.prog 22 [.sl 0 []] := zeroTy_of (z := .slice none 0 0) (by kernel_rfl) rfl
theorem zv_24 : ZvTy Tryd.prog 24 (.sl 0 []) := zvTy_of (z := .slice none 0 0) (by kernel_rfl) rfl
theorem sl_24 : SlTy Tryd.prog 24 3 1 8 [.int .i64 0] := slTy_of Tryd.underlying24 (z := .int .i64 0) (by kernel_rfl) rfl (by decide) (by decide) rfl
theorem one_24 : OneTy Tryd.prog 24 := oneTy_of Tryd.underlying24 rfl (by kernel_rfl)
theorem zt_24 : ZeroTy Tryd.prog 24 [.sl 0 []] := zeroTy_of (z := .slice none 0 0) (by kernel_rfl) rfl
theorem zv_29 : ZvTy Tryd.prog 29 (.sl 0 []) := zvTy_of (z := .slice none 0 0) (by kernel_rfl) rfl
theorem sl_29 : SlTy Tryd.prog 29 42 2 16 [.int .i64 0, .int .i64 0] := slTy_of Tryd.underlying29 (z := .agg #[.int .i64 0, .int .i64 0]) (by kernel_rfl) rfl (by decide) (by decide) rfl
theorem one_29 : OneTy Tryd.prog 29 := oneTy_of Tryd.underlying29 rfl (by kernel_rfl)
theorem zt_29 : ZeroTy Tryd.prog 29 [.sl 0 []] := zeroTy_of (z := .slice none 0 0) (by kernel_rfl) rfl
theorem zv_42 : ZvTy Tryd.prog 42 (.agg [.int .i64 0, .int .i64 0]) := zvTy_of (z := .agg #[.int .i64 0, .int .i64 0]) (by kernel_rfl) rfl
theorem agg_42 : AggTy Tryd.prog 42 2 := aggTy_of Tryd.underlying42 rfl (by kernel_rfl)
theorem arr_42 : ArTy Tryd.prog 42 2 1 := arTy_of Tryd.underlying42 (by kernel_rfl)
theorem zt_42 : ZeroTy Tryd.prog 42 [.int .i64 0, .int .i64 0] := zeroTy_of (z := .agg #[.int .i64 0, .int .i64 0]) (by kernel_rfl) rfl
theorem bt_42 : BuildTy Tryd.prog 42 (fun i => some (i * 1, 1)) [.int .i64 0, .int .i64 0] := ⟨.agg #[.int .i64 0, .int .i64 0], rfl, fun parts => by kernel_rfl⟩
theorem zv_43 : ZvTy Tryd.prog 43 (.sl 0 []) := zvTy_of (z := .slice none 0 0) (by kernel_rfl) rfl
theorem sl_43 : SlTy Tryd.prog 43 4 1 1 [.bool false] := slTy_of Tryd.underlying43 (z := .bool false) (by kernel_rfl) rfl (by decide) (by decide) rfl
theorem one_43 : OneTy Tryd.prog 43 := oneTy_of Tryd.underlying43 rfl (by kernel_rfl)
theorem zt_43 : ZeroTy Tryd.prog 43 [.sl 0 []] := zeroTy_of (z := .slice none 0 0) (by kernel_rfl) rfl
theorem zv_50 : ZvTy Tryd.prog 50 (.int .u64 0) := zvTy_of (z := .int .u64 0) (by kernel_rfl) rfl
theorem one_50 : OneTy Tryd.prog 50 := oneTy_of Tryd.underlying50 rfl (by kernel_rfl)
theorem zt_50 : ZeroTy Tryd.prog 50 [.int .u64 0] := zeroTy_of (z := .int .u64 0) (by kernel_rfl) rfl
theorem zv_51 : ZvTy Tryd.prog 51 (.agg [.sl 0 [], .int .i64 0, .int .u64 0]) := zvTy_of (z := .agg #[.slice none 0 0, .int .i64 0, .int .u64 0]) (by kernel_rfl) rfl
theorem agg_51 : AggTy Tryd.prog 51 3 := aggTy_of Tryd.underlying51 rfl (by kernel_rfl)
theorem fi_51_0 : FiTy Tryd.prog 51 0 0 := fiTy_of (k := 1) Tryd.underlying51 rfl rfl (by kernel_rfl) (by decide)
theorem fi_51_1 : FiTy Tryd.prog 51 1 1 := fiTy_of (k := 1) Tryd.underlying51 rfl rfl (by kernel_rfl) (by decide)
theorem fi_51_2 : FiTy Tryd.prog 51 2 2 := fiTy_of (k := 1) Tryd.underlying51 rfl rfl (by kernel_rfl) (by decide)
theorem zt_51 : ZeroTy Tryd.prog 51 [.sl 0 [], .int .i64 0, .int .u64 0] := zeroTy_of (z := .agg #[.slice none 0 0, .int .i64 0, .int .u64 0]) (by kernel_rfl) rfl
theorem bt_51 : BuildTy Tryd.prog 51 (fun i => match i with | 0 => some (0, 1) | 1 => some (1, 1) | 2 => some (2, 1) | _ => none) [.sl 0 [], .int .i64 0, .int .u64 0] := ⟨.agg #[.slice none 0 0, .int .i64 0, .int .u64 0], rfl, fun parts => by
  have h : Tryd.prog.built 51 parts = Instr.fill (#[(0, 1), (1, 1), (2, 1)][·]?) ((.agg #[.slice none 0 0, .int .i64 0, .int .u64 0] : Value)).cells parts := by kernel_rfl
  have hp : (fun i => (#[(0, 1), (1, 1), (2, 1)] : Array (Nat × Nat))[i]?) = (fun i => match i with | 0 => some (0, 1) | 1 => some (1, 1) | 2 => some (2, 1) | _ => none) := by
    funext i
    rcases i with _ | _ | _ | _ <;> rfl
  rw [h, hp]⟩
theorem zv_52 : ZvTy Tryd.prog 52 (.agg [.sl 0 [], .int .i64 0, .int .u64 0]) := zvTy_of (z := .agg #[.slice none 0 0, .int .i64 0, .int .u64 0]) (by kernel_rfl) rfl
theorem agg_52 : AggTy Tryd.prog 52 3 := aggTy_of Tryd.underlying52 rfl (by kernel_rfl)
theorem fi_52_0 : FiTy Tryd.prog 52 0 0 := fiTy_of (k := 1) Tryd.underlying52 rfl rfl (by kernel_rfl) (by decide)
theorem fi_52_1 : FiTy Tryd.prog 52 1 1 := fiTy_of (k := 1) Tryd.underlying52 rfl rfl (by kernel_rfl) (by decide)
theorem fi_52_2 : FiTy Tryd.prog 52 2 2 := fiTy_of (k := 1) Tryd.underlying52 rfl rfl (by kernel_rfl) (by decide)
theorem zt_52 : ZeroTy Tryd.prog 52 [.sl 0 [], .int .i64 0, .int .u64 0] := zeroTy_of (z := .agg #[.slice none 0 0, .int .i64 0, .int .u64 0]) (by kernel_rfl) rfl
theorem bt_52 : BuildTy Tryd.prog 52 (fun i => match i with | 0 => some (0, 1) | 1 => some (1, 1) | 2 => some (2, 1) | _ => none) [.sl 0 [], .int .i64 0, .int .u64 0] := ⟨.agg #[.slice none 0 0, .int .i64 0, .int .u64 0], rfl, fun parts => by
  have h : Tryd.prog.built 52 parts = Instr.fill (#[(0, 1), (1, 1), (2, 1)][·]?) ((.agg #[.slice none 0 0, .int .i64 0, .int .u64 0] : Value)).cells parts := by kernel_rfl
  have hp : (fun i => (#[(0, 1), (1, 1), (2, 1)] : Array (Nat × Nat))[i]?) = (fun i => match i with | 0 => some (0, 1) | 1 => some (1, 1) | 2 => some (2, 1) | _ => none) := by
    funext i
    rcases i with _ | _ | _ | _ <;> rfl
  rw [h, hp]⟩
theorem zv_61 : ZvTy Tryd.prog 61 (.sl 0 []) := zvTy_of (z := .slice none 0 0) (by kernel_rfl) rfl
theorem sl_61 : SlTy Tryd.prog 61 67 5 40 [.int .i64 0, .bool false, .int .i64 0, .int .i64 0, .int .i64 0] := slTy_of Tryd.underlying61 (z := .agg #[.int .i64 0, .bool false, .int .i64 0, .int .i64 0, .int .i64 0]) (by kernel_rfl) rfl (by decide) (by decide) rfl
theorem one_61 : OneTy Tryd.prog 61 := oneTy_of Tryd.underlying61 rfl (by kernel_rfl)
theorem zt_61 : ZeroTy Tryd.prog 61 [.sl 0 []] := zeroTy_of (z := .slice none 0 0) (by kernel_rfl) rfl
theorem zv_66 : ZvTy Tryd.prog 66 (.agg [.int .i64 0, .bool false, .int .i64 0, .int .i64 0, .int .i64 0]) := zvTy_of (z := .agg #[.int .i64 0, .bool false, .int .i64 0, .int .i64 0, .int .i64 0]) (by kernel_rfl) rfl
theorem agg_66 : AggTy Tryd.prog 66 5 := aggTy_of Tryd.underlying66 rfl (by kernel_rfl)
theorem fi_66_0 : FiTy Tryd.prog 66 0 0 := fiTy_of (k := 1) Tryd.underlying66 rfl rfl (by kernel_rfl) (by decide)
theorem fi_66_1 : FiTy Tryd.prog 66 1 1 := fiTy_of (k := 1) Tryd.underlying66 rfl rfl (by kernel_rfl) (by decide)
theorem fi_66_2 : FiTy Tryd.prog 66 2 2 := fiTy_of (k := 1) Tryd.underlying66 rfl rfl (by kernel_rfl) (by decide)
theorem fi_66_3 : FiTy Tryd.prog 66 3 3 := fiTy_of (k := 1) Tryd.underlying66 rfl rfl (by kernel_rfl) (by decide)
theorem fi_66_4 : FiTy Tryd.prog 66 4 4 := fiTy_of (k := 1) Tryd.underlying66 rfl rfl (by kernel_rfl) (by decide)
theorem zt_66 : ZeroTy Tryd.prog 66 [.int .i64 0, .bool false, .int .i64 0, .int .i64 0, .int .i64 0] := zeroTy_of (z := .agg #[.int .i64 0, .bool false, .int .i64 0, .int .i64 0, .int .i64 0]) (by kernel_rfl) rfl
theorem bt_66 : BuildTy Tryd.prog 66 (fun i => match i with | 0 => some (0, 1) | 1 => some (1, 1) | 2 => some (2, 1) | 3 => some (3, 1) | 4 => some (4, 1) | _ => none) [.int .i64 0, .bool false, .int .i64 0, .int .i64 0, .int .i64 0] := ⟨.agg #[.int .i64 0, .bool false, .int .i64 0, .int .i64 0, .int .i64 0], rfl, fun parts => by
  have h : Tryd.prog.built 66 parts = Instr.fill (#[(0, 1), (1, 1), (2, 1), (3, 1), (4, 1)][·]?) ((.agg #[.int .i64 0, .bool false, .int .i64 0, .int .i64 0, .int .i64 0] : Value)).cells parts := by kernel_rfl
  have hp : (fun i => (#[(0, 1), (1, 1), (2, 1), (3, 1), (4, 1)] : Array (Nat × Nat))[i]?) = (fun i => match i with | 0 => some (0, 1) | 1 => some (1, 1) | 2 => some (2, 1) | 3 => some (3, 1) | 4 => some (4, 1) | _ => none) := by
    funext i
    rcases i with _ | _ | _ | _ | _ | _ <;> rfl
  rw [h, hp]⟩
theorem zv_67 : ZvTy Tryd.prog 67 (.agg [.int .i64 0, .bool false, .int .i64 0, .int .i64 0, .int .i64 0]) := zvTy_of (z := .agg #[.int .i64 0, .bool false, .int .i64 0, .int .i64 0, .int .i64 0]) (by kernel_rfl) rfl
theorem agg_67 : AggTy Tryd.prog 67 5 := aggTy_of Tryd.underlying67 rfl (by kernel_rfl)
theorem fi_67_0 : FiTy Tryd.prog 67 0 0 := fiTy_of (k := 1) Tryd.underlying67 rfl rfl (by kernel_rfl) (by decide)
theorem fi_67_1 : FiTy Tryd.prog 67 1 1 := fiTy_of (k := 1) Tryd.underlying67 rfl rfl (by kernel_rfl) (by decide)
theorem fi_67_2 : FiTy Tryd.prog 67 2 2 := fiTy_of (k := 1) Tryd.underlying67 rfl rfl (by kernel_rfl) (by decide)
theorem fi_67_3 : FiTy Tryd.prog 67 3 3 := fiTy_of (k := 1) Tryd.underlying67 rfl rfl (by kernel_rfl) (by decide)
theorem fi_67_4 : FiTy Tryd.prog 67 4 4 := fiTy_of (k := 1) Tryd.underlying67 rfl rfl (by kernel_rfl) (by decide)
theorem zt_67 : ZeroTy Tryd.prog 67 [.int .i64 0, .bool false, .int .i64 0, .int .i64 0, .int .i64 0] := zeroTy_of (z := .agg #[.int .i64 0, .bool false, .int .i64 0, .int .i64 0, .int .i64 0]) (by kernel_rfl) rfl
theorem bt_67 : BuildTy Tryd.prog 67 (fun i => match i with | 0 => some (0, 1) | 1 => some (1, 1) | 2 => some (2, 1) | 3 => some (3, 1) | 4 => some (4, 1) | _ => none) [.int .i64 0, .bool false, .int .i64 0, .int .i64 0, .int .i64 0] := ⟨.agg #[.int .i64 0, .bool false, .int .i64 0, .int .i64 0, .int .i64 0], rfl, fun parts => by
  have h : Tryd.prog.built 67 parts = Instr.fill (#[(0, 1), (1, 1), (2, 1), (3, 1), (4, 1)][·]?) ((.agg #[.int .i64 0, .bool false, .int .i64 0, .int .i64 0, .int .i64 0] : Value)).cells parts := by kernel_rfl
  have hp : (fun i => (#[(0, 1), (1, 1), (2, 1), (3, 1), (4, 1)] : Array (Nat × Nat))[i]?) = (fun i => match i with | 0 => some (0, 1) | 1 => some (1, 1) | 2 => some (2, 1) | 3 => some (3, 1) | 4 => some (4, 1) | _ => none) := by
    funext i
    rcases i with _ | _ | _ | _ | _ | _ <;> rfl
  rw [h, hp]⟩
theorem zv_101 : ZvTy Tryd.prog 101 (.agg [.bool false, .bool false, .bool false, .bool false, .bool false, .bool false, .bool false, .bool false, .bool false, .bool false]) := zvTy_of (z := .agg #[.bool false, .bool false, .bool false, .bool false, .bool false, .bool false, .bool false, .bool false, .bool false, .bool false]) (by kernel_rfl) rfl
theorem agg_101 : AggTy Tryd.prog 101 10 := aggTy_of Tryd.underlying101 rfl (by kernel_rfl)
theorem arr_101 : ArTy Tryd.prog 101 10 1 := arTy_of Tryd.underlying101 (by kernel_rfl)
theorem zt_101 : ZeroTy Tryd.prog 101 [.bool false, .bool false, .bool false, .bool false, .bool false, .bool false, .bool false, .bool false, .bool false, .bool false] := zeroTy_of (z := .agg #[.bool false, .bool false, .bool false, .bool false, .bool false, .bool false, .bool false, .bool false, .bool false, .bool false]) (by kernel_rfl) rfl
theorem bt_101 : BuildTy Tryd.prog 101 (fun i => some (i * 1, 1)) [.bool false, .bool false, .bool false, .bool false, .bool false, .bool false, .bool false, .bool false, .bool false, .bool false] := ⟨.agg #[.bool false, .bool false, .bool false, .bool false, .bool false, .bool false, .bool false, .bool false, .bool false, .bool false], rfl, fun parts => by kernel_rfl⟩
theorem zv_105 : ZvTy Tryd.prog 105 (.int .u64 0) := zvTy_of (z := .int .u64 0) (by kernel_rfl) rfl
theorem one_105 : OneTy Tryd.prog 105 := oneTy_of Tryd.underlying105 rfl (by kernel_rfl)
theorem zt_105 : ZeroTy Tryd.prog 105 [.int .u64 0] := zeroTy_of (z := .int .u64 0) (by kernel_rfl) rfl
theorem zv_109 : ZvTy Tryd.prog 109 (.int .u32 0) := zvTy_of (z := .int .u32 0) (by kernel_rfl) rfl
theorem one_109 : OneTy Tryd.prog 109 := oneTy_of Tryd.underlying109 rfl (by kernel_rfl)
theorem zt_109 : ZeroTy Tryd.prog 109 [.int .u32 0] := zeroTy_of (z := .int .u32 0) (by kernel_rfl) rfl
theorem zv_111 : ZvTy Tryd.prog 111 (.agg [.str [], .str [], .str [], .str [], .str [], .str [], .str [], .str [], .str [], .str []]) := zvTy_of (z := .agg #[.string ByteArray.empty, .string ByteArray.empty, .string ByteArray.empty, .string ByteArray.empty, .string ByteArray.empty, .string ByteArray.empty, .string ByteArray.empty, .string ByteArray.empty, .string ByteArray.empty, .string ByteArray.empty]) (by kernel_rfl) rfl
theorem agg_111 : AggTy Tryd.prog 111 10 := aggTy_of Tryd.underlying111 rfl (by kernel_rfl)
theorem arr_111 : ArTy Tryd.prog 111 10 1 := arTy_of Tryd.underlying111 (by kernel_rfl)
theorem zt_111 : ZeroTy Tryd.prog 111 [.str [], .str [], .str [], .str [], .str [], .str [], .str [], .str [], .str [], .str []] := zeroTy_of (z := .agg #[.string ByteArray.empty, .string ByteArray.empty, .string ByteArray.empty, .string ByteArray.empty, .string ByteArray.empty, .string ByteArray.empty, .string ByteArray.empty, .string ByteArray.empty, .string ByteArray.empty, .string ByteArray.empty]) (by kernel_rfl) rfl
theorem bt_111 : BuildTy Tryd.prog 111 (fun i => some (i * 1, 1)) [.str [], .str [], .str [], .str [], .str [], .str [], .str [], .str [], .str [], .str []] := ⟨.agg #[.string ByteArray.empty, .string ByteArray.empty, .string ByteArray.empty, .string ByteArray.empty, .string ByteArray.empty, .string ByteArray.empty, .string ByteArray.empty, .string ByteArray.empty, .string ByteArray.empty, .string ByteArray.empty], rfl, fun parts => by kernel_rfl⟩
theorem zv_117 : ZvTy Tryd.prog 117 (.int .i64 0) := zvTy_of (z := .int .i64 0) (by kernel_rfl) rfl
theorem one_117 : OneTy Tryd.prog 117 := oneTy_of Tryd.underlying117 rfl (by kernel_rfl)
theorem zt_117 : ZeroTy Tryd.prog 117 [.int .i64 0] := zeroTy_of (z := .int .i64 0) (by kernel_rfl) rfl
theorem zv_128 : ZvTy Tryd.prog 128 (.int .u64 0) := zvTy_of (z := .int .u64 0) (by kernel_rfl) rfl
theorem one_128 : OneTy Tryd.prog 128 := oneTy_of Tryd.underlying128 rfl (by kernel_rfl)
theorem zt_128 : ZeroTy Tryd.prog 128 [.int .u64 0] := zeroTy_of (z := .int .u64 0) (by kernel_rfl) rfl
theorem zv_142 : ZvTy Tryd.prog 142 (.int .u8 0) := zvTy_of (z := .int .u8 0) (by kernel_rfl) rfl
theorem one_142 : OneTy Tryd.prog 142 := oneTy_of Tryd.underlying142 rfl (by kernel_rfl)
theorem zt_142 : ZeroTy Tryd.prog 142 [.int .u8 0] := zeroTy_of (z := .int .u8 0) (by kernel_rfl) rfl
theorem zv_143 : ZvTy Tryd.prog 143 (.int .u8 0) := zvTy_of (z := .int .u8 0) (by kernel_rfl) rfl
theorem one_143 : OneTy Tryd.prog 143 := oneTy_of Tryd.underlying143 rfl (by kernel_rfl)
theorem zt_143 : ZeroTy Tryd.prog 143 [.int .u8 0] := zeroTy_of (z := .int .u8 0) (by kernel_rfl) rfl
theorem zv_145 : ZvTy Tryd.prog 145 (.int .i32 0) := zvTy_of (z := .int .i32 0) (by kernel_rfl) rfl
theorem one_145 : OneTy Tryd.prog 145 := oneTy_of Tryd.underlying145 rfl (by kernel_rfl)
theorem zt_145 : ZeroTy Tryd.prog 145 [.int .i32 0] := zeroTy_of (z := .int .i32 0) (by kernel_rfl) rfl
theorem zv_146 : ZvTy Tryd.prog 146 (.int .i32 0) := zvTy_of (z := .int .i32 0) (by kernel_rfl) rfl
theorem one_146 : OneTy Tryd.prog 146 := oneTy_of Tryd.underlying146 rfl (by kernel_rfl)
theorem zt_146 : ZeroTy Tryd.prog 146 [.int .i32 0] := zeroTy_of (z := .int .i32 0) (by kernel_rfl) rfl
theorem flp_7 : ∃ fs, Tryd.prog.underlying 7 = some (.struct fs) ∧ ∀ (f : Nat) (off ft : Nat), ([(0, 2), (1, 3), (2, 4), (3, 6)] : List (Nat × Nat))[f]? = some (off, ft) → (∃ fd : Field, fs[f]? = some fd ∧ fd.offset = off ∧ fd.type = ft) ∧ FiTy Tryd.prog 7 f off := by
  refine ⟨_, Tryd.underlying7, fun f off ft h => ?_⟩
  rcases f with _ | _ | _ | _ | f
  · simp at h; obtain ⟨rfl, rfl⟩ := h; exact ⟨⟨_, rfl, rfl, rfl⟩, fi_7_0⟩
  · simp at h; obtain ⟨rfl, rfl⟩ := h; exact ⟨⟨_, rfl, rfl, rfl⟩, fi_7_1⟩
  · simp at h; obtain ⟨rfl, rfl⟩ := h; exact ⟨⟨_, rfl, rfl, rfl⟩, fi_7_2⟩
  · simp at h; obtain ⟨rfl, rfl⟩ := h; exact ⟨⟨_, rfl, rfl, rfl⟩, fi_7_3⟩
  · simp at h
def pl_7 : Nat → Option (Nat × Nat) := (fun i => match i with | 0 => some (0, 1) | 1 => some (1, 1) | 2 => some (2, 1) | 3 => some (3, 1) | _ => none)
theorem flp_8 : ∃ fs, Tryd.prog.underlying 8 = some (.struct fs) ∧ ∀ (f : Nat) (off ft : Nat), ([(0, 2), (1, 3), (2, 4), (3, 6)] : List (Nat × Nat))[f]? = some (off, ft) → (∃ fd : Field, fs[f]? = some fd ∧ fd.offset = off ∧ fd.type = ft) ∧ FiTy Tryd.prog 8 f off := by
  refine ⟨_, Tryd.underlying8, fun f off ft h => ?_⟩
  rcases f with _ | _ | _ | _ | f
  · simp at h; obtain ⟨rfl, rfl⟩ := h; exact ⟨⟨_, rfl, rfl, rfl⟩, fi_8_0⟩
  · simp at h; obtain ⟨rfl, rfl⟩ := h; exact ⟨⟨_, rfl, rfl, rfl⟩, fi_8_1⟩
  · simp at h; obtain ⟨rfl, rfl⟩ := h; exact ⟨⟨_, rfl, rfl, rfl⟩, fi_8_2⟩
  · simp at h; obtain ⟨rfl, rfl⟩ := h; exact ⟨⟨_, rfl, rfl, rfl⟩, fi_8_3⟩
  · simp at h
def pl_8 : Nat → Option (Nat × Nat) := (fun i => match i with | 0 => some (0, 1) | 1 => some (1, 1) | 2 => some (2, 1) | 3 => some (3, 1) | _ => none)
theorem flp_13 : ∃ fs, Tryd.prog.underlying 13 = some (.struct fs) ∧ ∀ (f : Nat) (off ft : Nat), ([(0, 9), (1, 12)] : List (Nat × Nat))[f]? = some (off, ft) → (∃ fd : Field, fs[f]? = some fd ∧ fd.offset = off ∧ fd.type = ft) ∧ FiTy Tryd.prog 13 f off := by
  refine ⟨_, Tryd.underlying13, fun f off ft h => ?_⟩
  rcases f with _ | _ | f
  · simp at h; obtain ⟨rfl, rfl⟩ := h; exact ⟨⟨_, rfl, rfl, rfl⟩, fi_13_0⟩
  · simp at h; obtain ⟨rfl, rfl⟩ := h; exact ⟨⟨_, rfl, rfl, rfl⟩, fi_13_1⟩
  · simp at h
def pl_13 : Nat → Option (Nat × Nat) := (fun i => match i with | 0 => some (0, 1) | 1 => some (1, 1) | _ => none)
theorem flp_14 : ∃ fs, Tryd.prog.underlying 14 = some (.struct fs) ∧ ∀ (f : Nat) (off ft : Nat), ([(0, 9), (1, 12)] : List (Nat × Nat))[f]? = some (off, ft) → (∃ fd : Field, fs[f]? = some fd ∧ fd.offset = off ∧ fd.type = ft) ∧ FiTy Tryd.prog 14 f off := by
  refine ⟨_, Tryd.underlying14, fun f off ft h => ?_⟩
  rcases f with _ | _ | f
  · simp at h; obtain ⟨rfl, rfl⟩ := h; exact ⟨⟨_, rfl, rfl, rfl⟩, fi_14_0⟩
  · simp at h; obtain ⟨rfl, rfl⟩ := h; exact ⟨⟨_, rfl, rfl, rfl⟩, fi_14_1⟩
  · simp at h
def pl_14 : Nat → Option (Nat × Nat) := (fun i => match i with | 0 => some (0, 1) | 1 => some (1, 1) | _ => none)
def pl_42 : Nat → Option (Nat × Nat) := (fun i => some (i * 1, 1))
theorem flp_51 : ∃ fs, Tryd.prog.underlying 51 = some (.struct fs) ∧ ∀ (f : Nat) (off ft : Nat), ([(0, 22), (1, 3), (2, 50)] : List (Nat × Nat))[f]? = some (off, ft) → (∃ fd : Field, fs[f]? = some fd ∧ fd.offset = off ∧ fd.type = ft) ∧ FiTy Tryd.prog 51 f off := by
  refine ⟨_, Tryd.underlying51, fun f off ft h => ?_⟩
  rcases f with _ | _ | _ | f
  · simp at h; obtain ⟨rfl, rfl⟩ := h; exact ⟨⟨_, rfl, rfl, rfl⟩, fi_51_0⟩
  · simp at h; obtain ⟨rfl, rfl⟩ := h; exact ⟨⟨_, rfl, rfl, rfl⟩, fi_51_1⟩
  · simp at h; obtain ⟨rfl, rfl⟩ := h; exact ⟨⟨_, rfl, rfl, rfl⟩, fi_51_2⟩
  · simp at h
def pl_51 : Nat → Option (Nat × Nat) := (fun i => match i with | 0 => some (0, 1) | 1 => some (1, 1) | 2 => some (2, 1) | _ => none)
theorem flp_52 : ∃ fs, Tryd.prog.underlying 52 = some (.struct fs) ∧ ∀ (f : Nat) (off ft : Nat), ([(0, 22), (1, 3), (2, 50)] : List (Nat × Nat))[f]? = some (off, ft) → (∃ fd : Field, fs[f]? = some fd ∧ fd.offset = off ∧ fd.type = ft) ∧ FiTy Tryd.prog 52 f off := by
  refine ⟨_, Tryd.underlying52, fun f off ft h => ?_⟩
  rcases f with _ | _ | _ | f
  · simp at h; obtain ⟨rfl, rfl⟩ := h; exact ⟨⟨_, rfl, rfl, rfl⟩, fi_52_0⟩
  · simp at h; obtain ⟨rfl, rfl⟩ := h; exact ⟨⟨_, rfl, rfl, rfl⟩, fi_52_1⟩
  · simp at h; obtain ⟨rfl, rfl⟩ := h; exact ⟨⟨_, rfl, rfl, rfl⟩, fi_52_2⟩
  · simp at h
def pl_52 : Nat → Option (Nat × Nat) := (fun i => match i with | 0 => some (0, 1) | 1 => some (1, 1) | 2 => some (2, 1) | _ => none)
theorem flp_66 : ∃ fs, Tryd.prog.underlying 66 = some (.struct fs) ∧ ∀ (f : Nat) (off ft : Nat), ([(0, 3), (1, 4), (2, 3), (3, 3), (4, 3)] : List (Nat × Nat))[f]? = some (off, ft) → (∃ fd : Field, fs[f]? = some fd ∧ fd.offset = off ∧ fd.type = ft) ∧ FiTy Tryd.prog 66 f off := by
  refine ⟨_, Tryd.underlying66, fun f off ft h => ?_⟩
  rcases f with _ | _ | _ | _ | _ | f
  · simp at h; obtain ⟨rfl, rfl⟩ := h; exact ⟨⟨_, rfl, rfl, rfl⟩, fi_66_0⟩
  · simp at h; obtain ⟨rfl, rfl⟩ := h; exact ⟨⟨_, rfl, rfl, rfl⟩, fi_66_1⟩
  · simp at h; obtain ⟨rfl, rfl⟩ := h; exact ⟨⟨_, rfl, rfl, rfl⟩, fi_66_2⟩
  · simp at h; obtain ⟨rfl, rfl⟩ := h; exact ⟨⟨_, rfl, rfl, rfl⟩, fi_66_3⟩
  · simp at h; obtain ⟨rfl, rfl⟩ := h; exact ⟨⟨_, rfl, rfl, rfl⟩, fi_66_4⟩
  · simp at h
def pl_66 : Nat → Option (Nat × Nat) := (fun i => match i with | 0 => some (0, 1) | 1 => some (1, 1) | 2 => some (2, 1) | 3 => some (3, 1) | 4 => some (4, 1) | _ => none)
theorem flp_67 : ∃ fs, Tryd.prog.underlying 67 = some (.struct fs) ∧ ∀ (f : Nat) (off ft : Nat), ([(0, 3), (1, 4), (2, 3), (3, 3), (4, 3)] : List (Nat × Nat))[f]? = some (off, ft) → (∃ fd : Field, fs[f]? = some fd ∧ fd.offset = off ∧ fd.type = ft) ∧ FiTy Tryd.prog 67 f off := by
  refine ⟨_, Tryd.underlying67, fun f off ft h => ?_⟩
  rcases f with _ | _ | _ | _ | _ | f
  · simp at h; obtain ⟨rfl, rfl⟩ := h; exact ⟨⟨_, rfl, rfl, rfl⟩, fi_67_0⟩
  · simp at h; obtain ⟨rfl, rfl⟩ := h; exact ⟨⟨_, rfl, rfl, rfl⟩, fi_67_1⟩
  · simp at h; obtain ⟨rfl, rfl⟩ := h; exact ⟨⟨_, rfl, rfl, rfl⟩, fi_67_2⟩
  · simp at h; obtain ⟨rfl, rfl⟩ := h; exact ⟨⟨_, rfl, rfl, rfl⟩, fi_67_3⟩
  · simp at h; obtain ⟨rfl, rfl⟩ := h; exact ⟨⟨_, rfl, rfl, rfl⟩, fi_67_4⟩
  · simp at h
def pl_67 : Nat → Option (Nat × Nat) := (fun i => match i with | 0 => some (0, 1) | 1 => some (1, 1) | 2 => some (2, 1) | 3 => some (3, 1) | 4 => some (4, 1) | _ => none)
def pl_101 : Nat → Option (Nat × Nat) := (fun i => some (i * 1, 1))
def pl_111 : Nat → Option (Nat × Nat) := (fun i => some (i * 1, 1))
def kdL : List (Nat × (TK)) := [(2, .int .i64), (3, .int .i64), (4, .bool), (5, .int .u8), (6, .int .u8), (9, .str), (10, .str), (11, .str), (12, .int .u64), (21, .int .i32), (50, .int .u64), (105, .int .u64), (109, .int .u32), (117, .int .i64), (128, .int .u64), (142, .int .u8), (143, .int .u8), (145, .int .i32), (146, .int .i32)]
def slL : List (Nat × (Nat × Nat × Nat × List PV)) := [(22, 5, 1, 1, [.int .u8 0]), (24, 3, 1, 8, [.int .i64 0]), (29, 42, 2, 16, [.int .i64 0, .int .i64 0]), (43, 4, 1, 1, [.bool false]), (61, 67, 5, 40, [.int .i64 0, .bool false, .int .i64 0, .int .i64 0, .int .i64 0])]
def oneL : List (Nat × (Unit)) := [(2, ()), (3, ()), (4, ()), (5, ()), (6, ()), (9, ()), (10, ()), (11, ()), (12, ()), (21, ()), (22, ()), (24, ()), (29, ()), (43, ()), (50, ()), (61, ()), (105, ()), (109, ()), (117, ()), (128, ()), (142, ()), (143, ()), (145, ()), (146, ())]
def aggL : List (Nat × (Nat)) := [(7, 4), (8, 4), (13, 2), (14, 2), (42, 2), (51, 3), (52, 3), (66, 5), (67, 5), (101, 10), (111, 10)]
def arrL : List (Nat × (Nat × Nat)) := [(42, 2, 1), (101, 10, 1), (111, 10, 1)]
def areL : List (Nat × (Nat × Nat)) := [(42, 2, 3), (101, 10, 4), (111, 10, 9)]
def flL : List (Nat × (List (Nat × Nat))) := [(7, [(0, 2), (1, 3), (2, 4), (3, 6)]), (8, [(0, 2), (1, 3), (2, 4), (3, 6)]), (13, [(0, 9), (1, 12)]), (14, [(0, 9), (1, 12)]), (51, [(0, 22), (1, 3), (2, 50)]), (52, [(0, 22), (1, 3), (2, 50)]), (66, [(0, 3), (1, 4), (2, 3), (3, 3), (4, 3)]), (67, [(0, 3), (1, 4), (2, 3), (3, 3), (4, 3)])]
def ztL : List (Nat × (List PV)) := [(2, [.int .i64 0]), (3, [.int .i64 0]), (4, [.bool false]), (5, [.int .u8 0]), (6, [.int .u8 0]), (7, [.int .i64 0, .int .i64 0, .bool false, .int .u8 0]), (8, [.int .i64 0, .int .i64 0, .bool false, .int .u8 0]), (9, [.str []]), (10, [.str []]), (11, [.str []]), (12, [.int .u64 0]), (13, [.str [], .int .u64 0]), (14, [.str [], .int .u64 0]), (21, [.int .i32 0]), (22, [.sl 0 []]), (24, [.sl 0 []]), (29, [.sl 0 []]), (42, [.int .i64 0, .int .i64 0]), (43, [.sl 0 []]), (50, [.int .u64 0]), (51, [.sl 0 [], .int .i64 0, .int .u64 0]), (52, [.sl 0 [], .int .i64 0, .int .u64 0]), (61, [.sl 0 []]), (66, [.int .i64 0, .bool false, .int .i64 0, .int .i64 0, .int .i64 0]), (67, [.int .i64 0, .bool false, .int .i64 0, .int .i64 0, .int .i64 0]), (101, [.bool false, .bool false, .bool false, .bool false, .bool false, .bool false, .bool false, .bool false, .bool false, .bool false]), (105, [.int .u64 0]), (109, [.int .u32 0]), (111, [.str [], .str [], .str [], .str [], .str [], .str [], .str [], .str [], .str [], .str []]), (117, [.int .i64 0]), (128, [.int .u64 0]), (142, [.int .u8 0]), (143, [.int .u8 0]), (145, [.int .i32 0]), (146, [.int .i32 0])]
def btL : List (Nat × ((Nat → Option (Nat × Nat)) × List PV)) := [(7, pl_7, [.int .i64 0, .int .i64 0, .bool false, .int .u8 0]), (8, pl_8, [.int .i64 0, .int .i64 0, .bool false, .int .u8 0]), (13, pl_13, [.str [], .int .u64 0]), (14, pl_14, [.str [], .int .u64 0]), (42, pl_42, [.int .i64 0, .int .i64 0]), (51, pl_51, [.sl 0 [], .int .i64 0, .int .u64 0]), (52, pl_52, [.sl 0 [], .int .i64 0, .int .u64 0]), (66, pl_66, [.int .i64 0, .bool false, .int .i64 0, .int .i64 0, .int .i64 0]), (67, pl_67, [.int .i64 0, .bool false, .int .i64 0, .int .i64 0, .int .i64 0]), (101, pl_101, [.bool false, .bool false, .bool false, .bool false, .bool false, .bool false, .bool false, .bool false, .bool false, .bool false]), (111, pl_111, [.str [], .str [], .str [], .str [], .str [], .str [], .str [], .str [], .str [], .str []])]
def mpL : List (Nat × (Nat × Nat)) := [(56, 3, 3), (74, 3, 4)]
def zvL : List (Nat × (PV)) := [(2, .int .i64 0), (3, .int .i64 0), (4, .bool false), (5, .int .u8 0), (6, .int .u8 0), (7, .agg [.int .i64 0, .int .i64 0, .bool false, .int .u8 0]), (8, .agg [.int .i64 0, .int .i64 0, .bool false, .int .u8 0]), (9, .str []), (10, .str []), (11, .str []), (12, .int .u64 0), (13, .agg [.str [], .int .u64 0]), (14, .agg [.str [], .int .u64 0]), (21, .int .i32 0), (22, .sl 0 []), (24, .sl 0 []), (29, .sl 0 []), (42, .agg [.int .i64 0, .int .i64 0]), (43, .sl 0 []), (50, .int .u64 0), (51, .agg [.sl 0 [], .int .i64 0, .int .u64 0]), (52, .agg [.sl 0 [], .int .i64 0, .int .u64 0]), (61, .sl 0 []), (66, .agg [.int .i64 0, .bool false, .int .i64 0, .int .i64 0, .int .i64 0]), (67, .agg [.int .i64 0, .bool false, .int .i64 0, .int .i64 0, .int .i64 0]), (101, .agg [.bool false, .bool false, .bool false, .bool false, .bool false, .bool false, .bool false, .bool false, .bool false, .bool false]), (105, .int .u64 0), (109, .int .u32 0), (111, .agg [.str [], .str [], .str [], .str [], .str [], .str [], .str [], .str [], .str [], .str []]), (117, .int .i64 0), (128, .int .u64 0), (142, .int .u8 0), (143, .int .u8 0), (145, .int .i32 0), (146, .int .i32 0)]
def tf : TF Tryd.prog where
  kd := kdL
  sl := slL
  one := oneL
  agg := aggL
  arr := arrL
  are := areL
  fl := flL
  zt := ztL
  bt := btL
  mp := mpL
  zv := zvL
  mix := by kernel_rfl
  kd_ok := ⟨Tryd.underlying2, Tryd.underlying3, Tryd.underlying4, Tryd.underlying5, Tryd.underlying6, Tryd.underlying9, Tryd.underlying10, Tryd.underlying11, Tryd.underlying12, Tryd.underlying21, Tryd.underlying50, Tryd.underlying105, Tryd.underlying109, Tryd.underlying117, Tryd.underlying128, Tryd.underlying142, Tryd.underlying143, Tryd.underlying145, Tryd.underlying146, trivial⟩
  sl_ok := ⟨sl_22, sl_24, sl_29, sl_43, sl_61, trivial⟩
  one_ok := ⟨one_2, one_3, one_4, one_5, one_6, one_9, one_10, one_11, one_12, one_21, one_22, one_24, one_29, one_43, one_50, one_61, one_105, one_109, one_117, one_128, one_142, one_143, one_145, one_146, trivial⟩
  agg_ok := ⟨agg_7, agg_8, agg_13, agg_14, agg_42, agg_51, agg_52, agg_66, agg_67, agg_101, agg_111, trivial⟩
  arr_ok := ⟨arr_42, arr_101, arr_111, trivial⟩
  are_ok := ⟨Tryd.underlying42, Tryd.underlying101, Tryd.underlying111, trivial⟩
  fl_ok := ⟨flp_7, flp_8, flp_13, flp_14, flp_51, flp_52, flp_66, flp_67, trivial⟩
  zt_ok := ⟨zt_2, zt_3, zt_4, zt_5, zt_6, zt_7, zt_8, zt_9, zt_10, zt_11, zt_12, zt_13, zt_14, zt_21, zt_22, zt_24, zt_29, zt_42, zt_43, zt_50, zt_51, zt_52, zt_61, zt_66, zt_67, zt_101, zt_105, zt_109, zt_111, zt_117, zt_128, zt_142, zt_143, zt_145, zt_146, trivial⟩
  bt_ok := ⟨bt_7, bt_8, bt_13, bt_14, bt_42, bt_51, bt_52, bt_66, bt_67, bt_101, bt_111, trivial⟩
  mp_ok := ⟨Tryd.underlying56, Tryd.underlying74, trivial⟩
  zv_ok := ⟨zv_2, zv_3, zv_4, zv_5, zv_6, zv_7, zv_8, zv_9, zv_10, zv_11, zv_12, zv_13, zv_14, zv_21, zv_22, zv_24, zv_29, zv_42, zv_43, zv_50, zv_51, zv_52, zv_61, zv_66, zv_67, zv_101, zv_105, zv_109, zv_111, zv_117, zv_128, zv_142, zv_143, zv_145, zv_146, trivial⟩
end Go.Proofs.YtfagllolcalfiaaDoor.Tf
