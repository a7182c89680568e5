/- The tables of this translation for the interpreter, each fact closed by the kernel. No conditions. -/
import Derived.Test.YtbddhdbieelpjaaDoorRows
import Derived.Test.YtbddhdbieelpjaaDoorPwQ
namespace Go.Proofs.YtbddhdbieelpjaaDoor.Tf
open Go.RowKit
set_option maxRecDepth 20000

theorem zv_2 : ZvTy Tryd.prog 2 (.int .i64 0) := zvTy_of (z := .int .i64 0) (by kernel_rfl) rfl
theorem one_2 : OneTy Tryd.prog 2 := oneTy_of Tryd.underlying2 rfl (by kernel_rfl)
theorem zt_2 : ZeroTy Tryd.prog 2 [.int .i64 0] := zeroTy_of (z := .int .i64 0) (by kernel_rfl) rfl
theorem zv_3 : ZvTy Tryd.prog 3 (.int .i64 0) := zvTy_of (z := .int .i64 0) (by kernel_rfl) rfl
theorem one_3 : OneTy Tryd.prog 3 := oneTy_of Tryd.underlying3 rfl (by kernel_rfl)
theorem zt_3 : ZeroTy Tryd.prog 3 [.int .i64 0] := zeroTy_of (z := .int .i64 0) (by kernel_rfl) rfl
theorem zv_4 : ZvTy Tryd.prog 4 (.bool false) := zvTy_of (z := .bool false) (by kernel_rfl) rfl
theorem one_4 : OneTy Tryd.prog 4 := oneTy_of Tryd.underlying4 rfl (by kernel_rfl)
theorem zt_4 : ZeroTy Tryd.prog 4 [.bool false] := zeroTy_of (z := .bool false) (by kernel_rfl) rfl
theorem zv_5 : ZvTy Tryd.prog 5 (.int .u8 0) := zvTy_of (z := .int .u8 0) (by kernel_rfl) rfl
theorem one_5 : OneTy Tryd.prog 5 := oneTy_of Tryd.underlying5 rfl (by kernel_rfl)
theorem zt_5 : ZeroTy Tryd.prog 5 [.int .u8 0] := zeroTy_of (z := .int .u8 0) (by kernel_rfl) rfl
theorem zv_6 : ZvTy Tryd.prog 6 (.int .u8 0) := zvTy_of (z := .int .u8 0) (by kernel_rfl) rfl
theorem one_6 : OneTy Tryd.prog 6 := oneTy_of Tryd.underlying6 rfl (by kernel_rfl)
theorem zt_6 : ZeroTy Tryd.prog 6 [.int .u8 0] := zeroTy_of (z := .int .u8 0) (by kernel_rfl) rfl
theorem zv_7 : ZvTy Tryd.prog 7 (.agg [.int .i64 0, .int .i64 0, .bool false, .int .u8 0]) := zvTy_of (z := .agg #[.int .i64 0, .int .i64 0, .bool false, .int .u8 0]) (by kernel_rfl) rfl
theorem agg_7 : AggTy Tryd.prog 7 4 := aggTy_of Tryd.underlying7 rfl (by kernel_rfl)
theorem fi_7_0 : FiTy Tryd.prog 7 0 0 := fiTy_of (k := 1) Tryd.underlying7 rfl rfl (by kernel_rfl) (by decide)
theorem fi_7_1 : FiTy Tryd.prog 7 1 1 := fiTy_of (k := 1) Tryd.underlying7 rfl rfl (by kernel_rfl) (by decide)
theorem fi_7_2 : FiTy Tryd.prog 7 2 2 := fiTy_of (k := 1) Tryd.underlying7 rfl rfl (by kernel_rfl) (by decide)
theorem fi_7_3 : FiTy Tryd.prog 7 3 3 := fiTy_of (k := 1) Tryd.underlying7 rfl rfl (by kernel_rfl) (by decide)
theorem zt_7 : ZeroTy Tryd.prog 7 [.int .i64 0, .int .i64 0, .bool false, .int .u8 0] := zeroTy_of (z := .agg #[.int .i64 0, .int .i64 0, .bool false, .int .u8 0]) (by kernel_rfl) rfl
theorem bt_7 : BuildTy Tryd.prog 7 (fun i => match i with | 0 => some (0, 1) | 1 => some (1, 1) | 2 => some (2, 1) | 3 => some (3, 1) | _ => none) [.int .i64 0, .int .i64 0, .bool false, .int .u8 0] := ⟨.agg #[.int .i64 0, .int .i64 0, .bool false, .int .u8 0], rfl, fun parts => by
  have h : Tryd.prog.built 7 parts = Instr.fill (#[(0, 1), (1, 1), (2, 1), (3, 1)][·]?) ((.agg #[.int .i64 0, .int .i64 0, .bool false, .int .u8 0] : Value)).cells parts := by kernel_rfl
  have hp : (fun i => (#[(0, 1), (1, 1), (2, 1), (3, 1)] : Array (Nat × Nat))[i]?) = (fun i => match i with | 0 => some (0, 1) | 1 => some (1, 1) | 2 => some (2, 1) | 3 => some (3, 1) | _ => none) := by
    funext i
    rcases i with _ | _ | _ | _ | _ <;> rfl
  rw [h, hp]⟩
theorem zv_8 : ZvTy Tryd.prog 8 (.agg [.int .i64 0, .int .i64 0, .bool false, .int .u8 0]) := zvTy_of (z := .agg #[.int .i64 0, .int .i64 0, .bool false, .int .u8 0]) (by kernel_rfl) rfl
theorem agg_8 : AggTy Tryd.prog 8 4 := aggTy_of Tryd.underlying8 rfl (by kernel_rfl)
theorem fi_8_0 : FiTy Tryd.prog 8 0 0 := fiTy_of (k := 1) Tryd.underlying8 rfl rfl (by kernel_rfl) (by decide)
theorem fi_8_1 : FiTy Tryd.prog 8 1 1 := fiTy_of (k := 1) Tryd.underlying8 rfl rfl (by kernel_rfl) (by decide)
theorem fi_8_2 : FiTy Tryd.prog 8 2 2 := fiTy_of (k := 1) Tryd.underlying8 rfl rfl (by kernel_rfl) (by decide)
theorem fi_8_3 : FiTy Tryd.prog 8 3 3 := fiTy_of (k := 1) Tryd.underlying8 rfl rfl (by kernel_rfl) (by decide)
theorem zt_8 : ZeroTy Tryd.prog 8 [.int .i64 0, .int .i64 0, .bool false, .int .u8 0] := zeroTy_of (z := .agg #[.int .i64 0, .int .i64 0, .bool false, .int .u8 0]) (by kernel_rfl) rfl
theorem bt_8 : BuildTy Tryd.prog 8 (fun i => match i with | 0 => some (0, 1) | 1 => some (1, 1) | 2 => some (2, 1) | 3 => some (3, 1) | _ => none) [.int .i64 0, .int .i64 0, .bool false, .int .u8 0] := ⟨.agg #[.int .i64 0, .int .i64 0, .bool false, .int .u8 0], rfl, fun parts => by
  have h : Tryd.prog.built 8 parts = Instr.fill (#[(0, 1), (1, 1), (2, 1), (3, 1)][·]?) ((.agg #[.int .i64 0, .int .i64 0, .bool false, .int .u8 0] : Value)).cells parts := by kernel_rfl
  have hp : (fun i => (#[(0, 1), (1, 1), (2, 1), (3, 1)] : Array (Nat × Nat))[i]?) = (fun i => match i with | 0 => some (0, 1) | 1 => some (1, 1) | 2 => some (2, 1) | 3 => some (3, 1) | _ => none) := by
    funext i
    rcases i with _ | _ | _ | _ | _ <;> rfl
  rw [h, hp]⟩
theorem zv_9 : ZvTy Tryd.prog 9 (.str []) := zvTy_of (z := .string ByteArray.empty) (by kernel_rfl) rfl
theorem one_9 : OneTy Tryd.prog 9 := oneTy_of Tryd.underlying9 rfl (by kernel_rfl)
theorem zt_9 : ZeroTy Tryd.prog 9 [.str []] := zeroTy_of (z := .string ByteArray.empty) (by kernel_rfl) rfl
theorem zv_10 : ZvTy Tryd.prog 10 (.str []) := zvTy_of (z := .string ByteArray.empty) (by kernel_rfl) rfl
theorem one_10 : OneTy Tryd.prog 10 := oneTy_of Tryd.underlying10 rfl (by kernel_rfl)
theorem zt_10 : ZeroTy Tryd.prog 10 [.str []] := zeroTy_of (z := .string ByteArray.empty) (by kernel_rfl) rfl
theorem zv_11 : ZvTy Tryd.prog 11 (.str []) := zvTy_of (z := .string ByteArray.empty) (by kernel_rfl) rfl
theorem one_11 : OneTy Tryd.prog 11 := oneTy_of Tryd.underlying11 rfl (by kernel_rfl)
theorem zt_11 : ZeroTy Tryd.prog 11 [.str []] := zeroTy_of (z := .string ByteArray.empty) (by kernel_rfl) rfl
theorem zv_12 : ZvTy Tryd.prog 12 (.int .u64 0) := zvTy_of (z := .int .u64 0) (by kernel_rfl) rfl
theorem one_12 : OneTy Tryd.prog 12 := oneTy_of Tryd.underlying12 rfl (by kernel_rfl)
theorem zt_12 : ZeroTy Tryd.prog 12 [.int .u64 0] := zeroTy_of (z := .int .u64 0) (by kernel_rfl) rfl
theorem zv_13 : ZvTy Tryd.prog 13 (.agg [.str [], .int .u64 0]) := zvTy_of (z := .agg #[.string ByteArray.empty, .int .u64 0]) (by kernel_rfl) rfl
theorem agg_13 : AggTy Tryd.prog 13 2 := aggTy_of Tryd.underlying13 rfl (by kernel_rfl)
theorem fi_13_0 : FiTy Tryd.prog 13 0 0 := fiTy_of (k := 1) Tryd.underlying13 rfl rfl (by kernel_rfl) (by decide)
theorem fi_13_1 : FiTy Tryd.prog 13 1 1 := fiTy_of (k := 1) Tryd.underlying13 rfl rfl (by kernel_rfl) (by decide)
theorem zt_13 : ZeroTy Tryd.prog 13 [.str [], .int .u64 0] := zeroTy_of (z := .agg #[.string ByteArray.empty, .int .u64 0]) (by kernel_rfl) rfl
theorem bt_13 : BuildTy Tryd.prog 13 (fun i => match i with | 0 => some (0, 1) | 1 => some (1, 1) | _ => none) [.str [], .int .u64 0] := ⟨.agg #[.string ByteArray.empty, .int .u64 0], rfl, fun parts => by
  have h : Tryd.prog.built 13 parts = Instr.fill (#[(0, 1), (1, 1)][·]?) ((.agg #[.string ByteArray.empty, .int .u64 0] : Value)).cells parts := by kernel_rfl
  have hp : (fun i => (#[(0, 1), (1, 1)] : Array (Nat × Nat))[i]?) = (fun i => match i with | 0 => some (0, 1) | 1 => some (1, 1) | _ => none) := by
    funext i
    rcases i with _ | _ | _ <;> rfl
  rw [h, hp]⟩
theorem zv_14 : ZvTy Tryd.prog 14 (.agg [.str [], .int .u64 0]) := zvTy_of (z := .agg #[.string ByteArray.empty, .int .u64 0]) (by kernel_rfl) rfl
theorem agg_14 : AggTy Tryd.prog 14 2 := aggTy_of Tryd.underlying14 rfl (by kernel_rfl)
theorem fi_14_0 : FiTy Tryd.prog 14 0 0 := fiTy_of (k := 1) Tryd.underlying14 rfl rfl (by kernel_rfl) (by decide)
theorem fi_14_1 : FiTy Tryd.prog 14 1 1 := fiTy_of (k := 1) Tryd.underlying14 rfl rfl (by kernel_rfl) (by decide)
theorem zt_14 : ZeroTy Tryd.prog 14 [.str [], .int .u64 0] := zeroTy_of (z := .agg #[.string ByteArray.empty, .int .u64 0]) (by kernel_rfl) rfl
theorem bt_14 : BuildTy Tryd.prog 14 (fun i => match i with | 0 => some (0, 1) | 1 => some (1, 1) | _ => none) [.str [], .int .u64 0] := ⟨.agg #[.string ByteArray.empty, .int .u64 0], rfl, fun parts => by
  have h : Tryd.prog.built 14 parts = Instr.fill (#[(0, 1), (1, 1)][·]?) ((.agg #[.string ByteArray.empty, .int .u64 0] : Value)).cells parts := by kernel_rfl
  have hp : (fun i => (#[(0, 1), (1, 1)] : Array (Nat × Nat))[i]?) = (fun i => match i with | 0 => some (0, 1) | 1 => some (1, 1) | _ => none) := by
    funext i
    rcases i with _ | _ | _ <;> rfl
  rw [h, hp]⟩
theorem zv_21 : ZvTy Tryd.prog 21 (.int .i32 0) := zvTy_of (z := .int .i32 0) (by kernel_rfl) rfl
theorem one_21 : OneTy Tryd.prog 21 := oneTy_of Tryd.underlying21 rfl (by kernel_rfl)
theorem zt_21 : ZeroTy Tryd.prog 21 [.int .i32 0] := zeroTy_of (z := .int .i32 0) (by kernel_rfl) rfl
theorem zv_22 : ZvTy Tryd.prog 22 (.sl 0 []) := zvTy_of (z := .slice none 0 0) (by kernel_rfl) rfl
theorem sl_22 : SlTy Tryd.prog 22 5 1 1 [.int .u8 0] := slTy_of Tryd.underlying22 (z := .int .u8 0) (by kernel_rfl) rfl (by decide) (by decide) rfl
theorem one_22 : OneTy Tryd.prog 22 := oneTy_of Tryd.underlying22 rfl (by kernel_rfl)
theorem zt_22 : ZeroTy Tryd.prog 22 [.sl 0 []] := zeroTy_of (z := .slice none 0 0) (by kernel_rfl) rfl
theorem zv_26 : ZvTy Tryd.prog 26 (.agg [.int .i64 0, .int .i64 0]) := zvTy_of (z := .agg #[.int .i64 0, .int .i64 0]) (by kernel_rfl) rfl
theorem agg_26 : AggTy Tryd.prog 26 2 := aggTy_of Tryd.underlying26 rfl (by kernel_rfl)
theorem arr_26 : ArTy Tryd.prog 26 2 1 := arTy_of Tryd.underlying26 (by kernel_rfl)
theorem zt_26 : ZeroTy Tryd.prog 26 [.int .i64 0, .int .i64 0] := zeroTy_of (z := .agg #[.int .i64 0, .int .i64 0]) (by kernel_rfl) rfl
theorem bt_26 : BuildTy Tryd.prog 26 (fun i => some (i * 1, 1)) [.int .i64 0, .int .i64 0] := ⟨.agg #[.int .i64 0, .int .i64 0], rfl, fun parts => by kernel_rfl⟩
theorem zv_33 : ZvTy Tryd.prog 33 (.sl 0 []) := zvTy_of (z := .slice none 0 0) (by kernel_rfl) rfl
theorem sl_33 : SlTy Tryd.prog 33 26 2 16 [.int .i64 0, .int .i64 0] := slTy_of Tryd.underlying33 (z := .agg #[.int .i64 0, .int .i64 0]) (by kernel_rfl) rfl (by decide) (by decide) rfl
theorem one_33 : OneTy Tryd.prog 33 := oneTy_of Tryd.underlying33 rfl (by kernel_rfl)
theorem zt_33 : ZeroTy Tryd.prog 33 [.sl 0 []] := zeroTy_of (z := .slice none 0 0) (by kernel_rfl) rfl
theorem zv_46 : ZvTy Tryd.prog 46 (.agg [.int .i64 0, .int .i64 0]) := zvTy_of (z := .agg #[.int .i64 0, .int .i64 0]) (by kernel_rfl) rfl
theorem agg_46 : AggTy Tryd.prog 46 2 := aggTy_of Tryd.underlying46 rfl (by kernel_rfl)
theorem fi_46_0 : FiTy Tryd.prog 46 0 0 := fiTy_of (k := 1) Tryd.underlying46 rfl rfl (by kernel_rfl) (by decide)
theorem fi_46_1 : FiTy Tryd.prog 46 1 1 := fiTy_of (k := 1) Tryd.underlying46 rfl rfl (by kernel_rfl) (by decide)
theorem zt_46 : ZeroTy Tryd.prog 46 [.int .i64 0, .int .i64 0] := zeroTy_of (z := .agg #[.int .i64 0, .int .i64 0]) (by kernel_rfl) rfl
theorem bt_46 : BuildTy Tryd.prog 46 (fun i => match i with | 0 => some (0, 1) | 1 => some (1, 1) | _ => none) [.int .i64 0, .int .i64 0] := ⟨.agg #[.int .i64 0, .int .i64 0], rfl, fun parts => by
  have h : Tryd.prog.built 46 parts = Instr.fill (#[(0, 1), (1, 1)][·]?) ((.agg #[.int .i64 0, .int .i64 0] : Value)).cells parts := by kernel_rfl
  have hp : (fun i => (#[(0, 1), (1, 1)] : Array (Nat × Nat))[i]?) = (fun i => match i with | 0 => some (0, 1) | 1 => some (1, 1) | _ => none) := by
    funext i
    rcases i with _ | _ | _ <;> rfl
  rw [h, hp]⟩
theorem zv_47 : ZvTy Tryd.prog 47 (.agg [.int .i64 0, .int .i64 0]) := zvTy_of (z := .agg #[.int .i64 0, .int .i64 0]) (by kernel_rfl) rfl
theorem agg_47 : AggTy Tryd.prog 47 2 := aggTy_of Tryd.underlying47 rfl (by kernel_rfl)
theorem fi_47_0 : FiTy Tryd.prog 47 0 0 := fiTy_of (k := 1) Tryd.underlying47 rfl rfl (by kernel_rfl) (by decide)
theorem fi_47_1 : FiTy Tryd.prog 47 1 1 := fiTy_of (k := 1) Tryd.underlying47 rfl rfl (by kernel_rfl) (by decide)
theorem zt_47 : ZeroTy Tryd.prog 47 [.int .i64 0, .int .i64 0] := zeroTy_of (z := .agg #[.int .i64 0, .int .i64 0]) (by kernel_rfl) rfl
theorem bt_47 : BuildTy Tryd.prog 47 (fun i => match i with | 0 => some (0, 1) | 1 => some (1, 1) | _ => none) [.int .i64 0, .int .i64 0] := ⟨.agg #[.int .i64 0, .int .i64 0], rfl, fun parts => by
  have h : Tryd.prog.built 47 parts = Instr.fill (#[(0, 1), (1, 1)][·]?) ((.agg #[.int .i64 0, .int .i64 0] : Value)).cells parts := by kernel_rfl
  have hp : (fun i => (#[(0, 1), (1, 1)] : Array (Nat × Nat))[i]?) = (fun i => match i with | 0 => some (0, 1) | 1 => some (1, 1) | _ => none) := by
    funext i
    rcases i with _ | _ | _ <;> rfl
  rw [h, hp]⟩
theorem zv_49 : ZvTy Tryd.prog 49 (.agg [.int .i64 0, .int .i64 0]) := zvTy_of (z := .agg #[.int .i64 0, .int .i64 0]) (by kernel_rfl) rfl
theorem agg_49 : AggTy Tryd.prog 49 2 := aggTy_of Tryd.underlying49 rfl (by kernel_rfl)
theorem fi_49_0 : FiTy Tryd.prog 49 0 0 := fiTy_of (k := 1) Tryd.underlying49 rfl rfl (by kernel_rfl) (by decide)
theorem fi_49_1 : FiTy Tryd.prog 49 1 1 := fiTy_of (k := 1) Tryd.underlying49 rfl rfl (by kernel_rfl) (by decide)
theorem zt_49 : ZeroTy Tryd.prog 49 [.int .i64 0, .int .i64 0] := zeroTy_of (z := .agg #[.int .i64 0, .int .i64 0]) (by kernel_rfl) rfl
theorem bt_49 : BuildTy Tryd.prog 49 (fun i => match i with | 0 => some (0, 1) | 1 => some (1, 1) | _ => none) [.int .i64 0, .int .i64 0] := ⟨.agg #[.int .i64 0, .int .i64 0], rfl, fun parts => by
  have h : Tryd.prog.built 49 parts = Instr.fill (#[(0, 1), (1, 1)][·]?) ((.agg #[.int .i64 0, .int .i64 0] : Value)).cells parts := by kernel_rfl
  have hp : (fun i => (#[(0, 1), (1, 1)] : Array (Nat × Nat))[i]?) = (fun i => match i with | 0 => some (0, 1) | 1 => some (1, 1) | _ => none) := by
    funext i
    rcases i with _ | _ | _ <;> rfl
  rw [h, hp]⟩
theorem zv_53 : ZvTy Tryd.prog 53 (.int .u64 0) := zvTy_of (z := .int .u64 0) (by kernel_rfl) rfl
theorem one_53 : OneTy Tryd.prog 53 := oneTy_of Tryd.underlying53 rfl (by kernel_rfl)
theorem zt_53 : ZeroTy Tryd.prog 53 [.int .u64 0] := zeroTy_of (z := .int .u64 0) (by kernel_rfl) rfl
theorem zv_54 : ZvTy Tryd.prog 54 (.agg [.sl 0 [], .int .i64 0, .int .u64 0]) := zvTy_of (z := .agg #[.slice none 0 0, .int .i64 0, .int .u64 0]) (by kernel_rfl) rfl
theorem agg_54 : AggTy Tryd.prog 54 3 := aggTy_of Tryd.underlying54 rfl (by kernel_rfl)
theorem fi_54_0 : FiTy Tryd.prog 54 0 0 := fiTy_of (k := 1) Tryd.underlying54 rfl rfl (by kernel_rfl) (by decide)
theorem fi_54_1 : FiTy Tryd.prog 54 1 1 := fiTy_of (k := 1) Tryd.underlying54 rfl rfl (by kernel_rfl) (by decide)
theorem fi_54_2 : FiTy Tryd.prog 54 2 2 := fiTy_of (k := 1) Tryd.underlying54 rfl rfl (by kernel_rfl) (by decide)
theorem zt_54 : ZeroTy Tryd.prog 54 [.sl 0 [], .int .i64 0, .int .u64 0] := zeroTy_of (z := .agg #[.slice none 0 0, .int .i64 0, .int .u64 0]) (by kernel_rfl) rfl
theorem bt_54 : BuildTy Tryd.prog 54 (fun i => match i with | 0 => some (0, 1) | 1 => some (1, 1) | 2 => some (2, 1) | _ => none) [.sl 0 [], .int .i64 0, .int .u64 0] := ⟨.agg #[.slice none 0 0, .int .i64 0, .int .u64 0], rfl, fun parts => by
  have h : Tryd.prog.built 54 parts = Instr.fill (#[(0, 1), (1, 1), (2, 1)][·]?) ((.agg #[.slice none 0 0, .int .i64 0, .int .u64 0] : Value)).cells parts := by kernel_rfl
  have hp : (fun i => (#[(0, 1), (1, 1), (2, 1)] : Array (Nat × Nat))[i]?) = (fun i => match i with | 0 => some (0, 1) | 1 => some (1, 1) | 2 => some (2, 1) | _ => none) := by
    funext i
    rcases i with _ | _ | _ | _ <;> rfl
  rw [h, hp]⟩
theorem zv_55 : ZvTy Tryd.prog 55 (.agg [.sl 0 [], .int .i64 0, .int .u64 0]) := zvTy_of (z := .agg #[.slice none 0 0, .int .i64 0, .int .u64 0]) (by kernel_rfl) rfl
theorem agg_55 : AggTy Tryd.prog 55 3 := aggTy_of Tryd.underlying55 rfl (by kernel_rfl)
theorem fi_55_0 : FiTy Tryd.prog 55 0 0 := fiTy_of (k := 1) Tryd.underlying55 rfl rfl (by kernel_rfl) (by decide)
theorem fi_55_1 : FiTy Tryd.prog 55 1 1 := fiTy_of (k := 1) Tryd.underlying55 rfl rfl (by kernel_rfl) (by decide)
theorem fi_55_2 : FiTy Tryd.prog 55 2 2 := fiTy_of (k := 1) Tryd.underlying55 rfl rfl (by kernel_rfl) (by decide)
theorem zt_55 : ZeroTy Tryd.prog 55 [.sl 0 [], .int .i64 0, .int .u64 0] := zeroTy_of (z := .agg #[.slice none 0 0, .int .i64 0, .int .u64 0]) (by kernel_rfl) rfl
theorem bt_55 : BuildTy Tryd.prog 55 (fun i => match i with | 0 => some (0, 1) | 1 => some (1, 1) | 2 => some (2, 1) | _ => none) [.sl 0 [], .int .i64 0, .int .u64 0] := ⟨.agg #[.slice none 0 0, .int .i64 0, .int .u64 0], rfl, fun parts => by
  have h : Tryd.prog.built 55 parts = Instr.fill (#[(0, 1), (1, 1), (2, 1)][·]?) ((.agg #[.slice none 0 0, .int .i64 0, .int .u64 0] : Value)).cells parts := by kernel_rfl
  have hp : (fun i => (#[(0, 1), (1, 1), (2, 1)] : Array (Nat × Nat))[i]?) = (fun i => match i with | 0 => some (0, 1) | 1 => some (1, 1) | 2 => some (2, 1) | _ => none) := by
    funext i
    rcases i with _ | _ | _ | _ <;> rfl
  rw [h, hp]⟩
theorem zv_62 : ZvTy Tryd.prog 62 (.agg [.int .i64 0, .int .i64 0]) := zvTy_of (z := .agg #[.int .i64 0, .int .i64 0]) (by kernel_rfl) rfl
theorem agg_62 : AggTy Tryd.prog 62 2 := aggTy_of Tryd.underlying62 rfl (by kernel_rfl)
theorem arr_62 : ArTy Tryd.prog 62 2 1 := arTy_of Tryd.underlying62 (by kernel_rfl)
theorem zt_62 : ZeroTy Tryd.prog 62 [.int .i64 0, .int .i64 0] := zeroTy_of (z := .agg #[.int .i64 0, .int .i64 0]) (by kernel_rfl) rfl
theorem bt_62 : BuildTy Tryd.prog 62 (fun i => some (i * 1, 1)) [.int .i64 0, .int .i64 0] := ⟨.agg #[.int .i64 0, .int .i64 0], rfl, fun parts => by kernel_rfl⟩
theorem zv_69 : ZvTy Tryd.prog 69 (.agg [.int .i64 0, .int .i64 0, .int .i64 0, .int .i64 0, .int .i64 0, .int .i64 0, .int .i64 0, .int .i64 0, .int .i64 0, .int .i64 0, .int .i64 0, .int .i64 0, .int .i64 0, .int .i64 0, .int .i64 0, .int .i64 0, .int .i64 0, .int .i64 0, .int .i64 0, .int .i64 0]) := zvTy_of (z := .agg #[.int .i64 0, .int .i64 0, .int .i64 0, .int .i64 0, .int .i64 0, .int .i64 0, .int .i64 0, .int .i64 0, .int .i64 0, .int .i64 0, .int .i64 0, .int .i64 0, .int .i64 0, .int .i64 0, .int .i64 0, .int .i64 0, .int .i64 0, .int .i64 0, .int .i64 0, .int .i64 0]) (by kernel_rfl) rfl
theorem agg_69 : AggTy Tryd.prog 69 20 := aggTy_of Tryd.underlying69 rfl (by kernel_rfl)
theorem arr_69 : ArTy Tryd.prog 69 10 2 := arTy_of Tryd.underlying69 (by kernel_rfl)
theorem zt_69 : ZeroTy Tryd.prog 69 [.int .i64 0, .int .i64 0, .int .i64 0, .int .i64 0, .int .i64 0, .int .i64 0, .int .i64 0, .int .i64 0, .int .i64 0, .int .i64 0, .int .i64 0, .int .i64 0, .int .i64 0, .int .i64 0, .int .i64 0, .int .i64 0, .int .i64 0, .int .i64 0, .int .i64 0, .int .i64 0] := zeroTy_of (z := .agg #[.int .i64 0, .int .i64 0, .int .i64 0, .int .i64 0, .int .i64 0, .int .i64 0, .int .i64 0, .int .i64 0, .int .i64 0, .int .i64 0, .int .i64 0, .int .i64 0, .int .i64 0, .int .i64 0, .int .i64 0, .int .i64 0, .int .i64 0, .int .i64 0, .int .i64 0, .int .i64 0]) (by kernel_rfl) rfl
theorem bt_69 : BuildTy Tryd.prog 69 (fun i => some (i * 2, 2)) [.int .i64 0, .int .i64 0, .int .i64 0, .int .i64 0, .int .i64 0, .int .i64 0, .int .i64 0, .int .i64 0, .int .i64 0, .int .i64 0, .int .i64 0, .int .i64 0, .int .i64 0, .int .i64 0, .int .i64 0, .int .i64 0, .int .i64 0, .int .i64 0, .int .i64 0, .int .i64 0] := ⟨.agg #[.int .i64 0, .int .i64 0, .int .i64 0, .int .i64 0, .int .i64 0, .int .i64 0, .int .i64 0, .int .i64 0, .int .i64 0, .int .i64 0, .int .i64 0, .int .i64 0, .int .i64 0, .int .i64 0, .int .i64 0, .int .i64 0, .int .i64 0, .int .i64 0, .int .i64 0, .int .i64 0], rfl, fun parts => by kernel_rfl⟩
theorem zv_76 : ZvTy Tryd.prog 76 (.sl 0 []) := zvTy_of (z := .slice none 0 0) (by kernel_rfl) rfl
theorem sl_76 : SlTy Tryd.prog 76 49 2 16 [.int .i64 0, .int .i64 0] := slTy_of Tryd.underlying76 (z := .agg #[.int .i64 0, .int .i64 0]) (by kernel_rfl) rfl (by decide) (by decide) rfl
theorem one_76 : OneTy Tryd.prog 76 := oneTy_of Tryd.underlying76 rfl (by kernel_rfl)
theorem zt_76 : ZeroTy Tryd.prog 76 [.sl 0 []] := zeroTy_of (z := .slice none 0 0) (by kernel_rfl) rfl
theorem zv_77 : ZvTy Tryd.prog 77 (.sl 0 []) := zvTy_of (z := .slice none 0 0) (by kernel_rfl) rfl
theorem sl_77 : SlTy Tryd.prog 77 49 2 16 [.int .i64 0, .int .i64 0] := slTy_of Tryd.underlying77 (z := .agg #[.int .i64 0, .int .i64 0]) (by kernel_rfl) rfl (by decide) (by decide) rfl
theorem one_77 : OneTy Tryd.prog 77 := oneTy_of Tryd.underlying77 rfl (by kernel_rfl)
theorem zt_77 : ZeroTy Tryd.prog 77 [.sl 0 []] := zeroTy_of (z := .slice none 0 0) (by kernel_rfl) rfl
theorem zv_81 : ZvTy Tryd.prog 81 (.sl 0 []) := zvTy_of (z := .slice none 0 0) (by kernel_rfl) rfl
theorem sl_81 : SlTy Tryd.prog 81 3 1 8 [.int .i64 0] := slTy_of Tryd.underlying81 (z := .int .i64 0) (by kernel_rfl) rfl (by decide) (by decide) rfl
theorem one_81 : OneTy Tryd.prog 81 := oneTy_of Tryd.underlying81 rfl (by kernel_rfl)
theorem zt_81 : ZeroTy Tryd.prog 81 [.sl 0 []] := zeroTy_of (z := .slice none 0 0) (by kernel_rfl) rfl
theorem zv_83 : ZvTy Tryd.prog 83 (.int .i64 0) := zvTy_of (z := .int .i64 0) (by kernel_rfl) rfl
theorem one_83 : OneTy Tryd.prog 83 := oneTy_of Tryd.underlying83 rfl (by kernel_rfl)
theorem zt_83 : ZeroTy Tryd.prog 83 [.int .i64 0] := zeroTy_of (z := .int .i64 0) (by kernel_rfl) rfl
theorem zv_86 : ZvTy Tryd.prog 86 (.sl 0 []) := zvTy_of (z := .slice none 0 0) (by kernel_rfl) rfl
theorem sl_86 : SlTy Tryd.prog 86 110 2 16 [.int .i64 0, .int .i64 0] := slTy_of Tryd.underlying86 (z := .agg #[.int .i64 0, .int .i64 0]) (by kernel_rfl) rfl (by decide) (by decide) rfl
theorem one_86 : OneTy Tryd.prog 86 := oneTy_of Tryd.underlying86 rfl (by kernel_rfl)
theorem zt_86 : ZeroTy Tryd.prog 86 [.sl 0 []] := zeroTy_of (z := .slice none 0 0) (by kernel_rfl) rfl
theorem zv_89 : ZvTy Tryd.prog 89 (.sl 0 []) := zvTy_of (z := .slice none 0 0) (by kernel_rfl) rfl
theorem sl_89 : SlTy Tryd.prog 89 81 1 24 [.sl 0 []] := slTy_of Tryd.underlying89 (z := .slice none 0 0) (by kernel_rfl) rfl (by decide) (by decide) rfl
theorem one_89 : OneTy Tryd.prog 89 := oneTy_of Tryd.underlying89 rfl (by kernel_rfl)
theorem zt_89 : ZeroTy Tryd.prog 89 [.sl 0 []] := zeroTy_of (z := .slice none 0 0) (by kernel_rfl) rfl
theorem zv_95 : ZvTy Tryd.prog 95 (.agg [.str [], .str [], .str [], .str [], .str [], .str [], .str [], .str [], .str [], .str []]) := zvTy_of (z := .agg #[.string ByteArray.empty, .string ByteArray.empty, .string ByteArray.empty, .string ByteArray.empty, .string ByteArray.empty, .string ByteArray.empty, .string ByteArray.empty, .string ByteArray.empty, .string ByteArray.empty, .string ByteArray.empty]) (by kernel_rfl) rfl
theorem agg_95 : AggTy Tryd.prog 95 10 := aggTy_of Tryd.underlying95 rfl (by kernel_rfl)
theorem arr_95 : ArTy Tryd.prog 95 10 1 := arTy_of Tryd.underlying95 (by kernel_rfl)
theorem zt_95 : ZeroTy Tryd.prog 95 [.str [], .str [], .str [], .str [], .str [], .str [], .str [], .str [], .str [], .str []] := zeroTy_of (z := .agg #[.string ByteArray.empty, .string ByteArray.empty, .string ByteArray.empty, .string ByteArray.empty, .string ByteArray.empty, .string ByteArray.empty, .string ByteArray.empty, .string ByteArray.empty, .string ByteArray.empty, .string ByteArray.empty]) (by kernel_rfl) rfl
theorem bt_95 : BuildTy Tryd.prog 95 (fun i => some (i * 1, 1)) [.str [], .str [], .str [], .str [], .str [], .str [], .str [], .str [], .str [], .str []] := ⟨.agg #[.string ByteArray.empty, .string ByteArray.empty, .string ByteArray.empty, .string ByteArray.empty, .string ByteArray.empty, .string ByteArray.empty, .string ByteArray.empty, .string ByteArray.empty, .string ByteArray.empty, .string ByteArray.empty], rfl, fun parts => by kernel_rfl⟩
theorem zv_109 : ZvTy Tryd.prog 109 (.agg [.int .i64 0, .int .i64 0]) := zvTy_of (z := .agg #[.int .i64 0, .int .i64 0]) (by kernel_rfl) rfl
theorem agg_109 : AggTy Tryd.prog 109 2 := aggTy_of Tryd.underlying109 rfl (by kernel_rfl)
theorem fi_109_0 : FiTy Tryd.prog 109 0 0 := fiTy_of (k := 1) Tryd.underlying109 rfl rfl (by kernel_rfl) (by decide)
theorem fi_109_1 : FiTy Tryd.prog 109 1 1 := fiTy_of (k := 1) Tryd.underlying109 rfl rfl (by kernel_rfl) (by decide)
theorem zt_109 : ZeroTy Tryd.prog 109 [.int .i64 0, .int .i64 0] := zeroTy_of (z := .agg #[.int .i64 0, .int .i64 0]) (by kernel_rfl) rfl
theorem bt_109 : BuildTy Tryd.prog 109 (fun i => match i with | 0 => some (0, 1) | 1 => some (1, 1) | _ => none) [.int .i64 0, .int .i64 0] := ⟨.agg #[.int .i64 0, .int .i64 0], rfl, fun parts => by
  have h : Tryd.prog.built 109 parts = Instr.fill (#[(0, 1), (1, 1)][·]?) ((.agg #[.int .i64 0, .int .i64 0] : Value)).cells parts := by kernel_rfl
  have hp : (fun i => (#[(0, 1), (1, 1)] : Array (Nat × Nat))[i]?) = (fun i => match i with | 0 => some (0, 1) | 1 => some (1, 1) | _ => none) := by
    funext i
    rcases i with _ | _ | _ <;> rfl
  rw [h, hp]⟩
theorem zv_110 : ZvTy Tryd.prog 110 (.agg [.int .i64 0, .int .i64 0]) := zvTy_of (z := .agg #[.int .i64 0, .int .i64 0]) (by kernel_rfl) rfl
theorem agg_110 : AggTy Tryd.prog 110 2 := aggTy_of Tryd.underlying110 rfl (by kernel_rfl)
theorem fi_110_0 : FiTy Tryd.prog 110 0 0 := fiTy_of (k := 1) Tryd.underlying110 rfl rfl (by kernel_rfl) (by decide)
theorem fi_110_1 : FiTy Tryd.prog 110 1 1 := fiTy_of (k := 1) Tryd.underlying110 rfl rfl (by kernel_rfl) (by decide)
theorem zt_110 : ZeroTy Tryd.prog 110 [.int .i64 0, .int .i64 0] := zeroTy_of (z := .agg #[.int .i64 0, .int .i64 0]) (by kernel_rfl) rfl
theorem bt_110 : BuildTy Tryd.prog 110 (fun i => match i with | 0 => some (0, 1) | 1 => some (1, 1) | _ => none) [.int .i64 0, .int .i64 0] := ⟨.agg #[.int .i64 0, .int .i64 0], rfl, fun parts => by
  have h : Tryd.prog.built 110 parts = Instr.fill (#[(0, 1), (1, 1)][·]?) ((.agg #[.int .i64 0, .int .i64 0] : Value)).cells parts := by kernel_rfl
  have hp : (fun i => (#[(0, 1), (1, 1)] : Array (Nat × Nat))[i]?) = (fun i => match i with | 0 => some (0, 1) | 1 => some (1, 1) | _ => none) := by
    funext i
    rcases i with _ | _ | _ <;> rfl
  rw [h, hp]⟩
theorem zv_124 : ZvTy Tryd.prog 124 (.int .u64 0) := zvTy_of (z := .int .u64 0) (by kernel_rfl) rfl
theorem one_124 : OneTy Tryd.prog 124 := oneTy_of Tryd.underlying124 rfl (by kernel_rfl)
theorem zt_124 : ZeroTy Tryd.prog 124 [.int .u64 0] := zeroTy_of (z := .int .u64 0) (by kernel_rfl) rfl
theorem zv_139 : ZvTy Tryd.prog 139 (.int .u32 0) := zvTy_of (z := .int .u32 0) (by kernel_rfl) rfl
theorem one_139 : OneTy Tryd.prog 139 := oneTy_of Tryd.underlying139 rfl (by kernel_rfl)
theorem zt_139 : ZeroTy Tryd.prog 139 [.int .u32 0] := zeroTy_of (z := .int .u32 0) (by kernel_rfl) rfl
theorem zv_148 : ZvTy Tryd.prog 148 (.agg [.int .i64 0, .int .i64 0, .int .i64 0, .int .i64 0, .int .i64 0, .int .i64 0, .int .i64 0, .int .i64 0, .int .i64 0, .int .i64 0]) := zvTy_of (z := .agg #[.int .i64 0, .int .i64 0, .int .i64 0, .int .i64 0, .int .i64 0, .int .i64 0, .int .i64 0, .int .i64 0, .int .i64 0, .int .i64 0]) (by kernel_rfl) rfl
theorem agg_148 : AggTy Tryd.prog 148 10 := aggTy_of Tryd.underlying148 rfl (by kernel_rfl)
theorem arr_148 : ArTy Tryd.prog 148 10 1 := arTy_of Tryd.underlying148 (by kernel_rfl)
theorem zt_148 : ZeroTy Tryd.prog 148 [.int .i64 0, .int .i64 0, .int .i64 0, .int .i64 0, .int .i64 0, .int .i64 0, .int .i64 0, .int .i64 0, .int .i64 0, .int .i64 0] := zeroTy_of (z := .agg #[.int .i64 0, .int .i64 0, .int .i64 0, .int .i64 0, .int .i64 0, .int .i64 0, .int .i64 0, .int .i64 0, .int .i64 0, .int .i64 0]) (by kernel_rfl) rfl
theorem bt_148 : BuildTy Tryd.prog 148 (fun i => some (i * 1, 1)) [.int .i64 0, .int .i64 0, .int .i64 0, .int .i64 0, .int .i64 0, .int .i64 0, .int .i64 0, .int .i64 0, .int .i64 0, .int .i64 0] := ⟨.agg #[.int .i64 0, .int .i64 0, .int .i64 0, .int .i64 0, .int .i64 0, .int .i64 0, .int .i64 0, .int .i64 0, .int .i64 0, .int .i64 0], rfl, fun parts => by kernel_rfl⟩
theorem zv_149 : ZvTy Tryd.prog 149 (.agg [.int .i64 0, .int .i64 0, .int .i64 0, .int .i64 0, .int .i64 0, .int .i64 0, .int .i64 0, .int .i64 0, .int .i64 0, .int .i64 0]) := zvTy_of (z := .agg #[.int .i64 0, .int .i64 0, .int .i64 0, .int .i64 0, .int .i64 0, .int .i64 0, .int .i64 0, .int .i64 0, .int .i64 0, .int .i64 0]) (by kernel_rfl) rfl
theorem agg_149 : AggTy Tryd.prog 149 10 := aggTy_of Tryd.underlying149 rfl (by kernel_rfl)
theorem arr_149 : ArTy Tryd.prog 149 10 1 := arTy_of Tryd.underlying149 (by kernel_rfl)
theorem zt_149 : ZeroTy Tryd.prog 149 [.int .i64 0, .int .i64 0, .int .i64 0, .int .i64 0, .int .i64 0, .int .i64 0, .int .i64 0, .int .i64 0, .int .i64 0, .int .i64 0] := zeroTy_of (z := .agg #[.int .i64 0, .int .i64 0, .int .i64 0, .int .i64 0, .int .i64 0, .int .i64 0, .int .i64 0, .int .i64 0, .int .i64 0, .int .i64 0]) (by kernel_rfl) rfl
theorem bt_149 : BuildTy Tryd.prog 149 (fun i => some (i * 1, 1)) [.int .i64 0, .int .i64 0, .int .i64 0, .int .i64 0, .int .i64 0, .int .i64 0, .int .i64 0, .int .i64 0, .int .i64 0, .int .i64 0] := ⟨.agg #[.int .i64 0, .int .i64 0, .int .i64 0, .int .i64 0, .int .i64 0, .int .i64 0, .int .i64 0, .int .i64 0, .int .i64 0, .int .i64 0], rfl, fun parts => by kernel_rfl⟩
theorem zv_150 : ZvTy Tryd.prog 150 (.agg [.int .i64 0, .int .i64 0, .int .i64 0, .int .i64 0, .int .i64 0, .int .i64 0, .int .i64 0, .int .i64 0, .int .i64 0, .int .i64 0, .int .i64 0, .int .i64 0, .int .i64 0, .int .i64 0, .int .i64 0, .int .i64 0, .int .i64 0, .int .i64 0, .int .i64 0, .int .i64 0, .int .i64 0, .int .i64 0, .int .i64 0, .int .i64 0, .int .i64 0, .int .i64 0, .int .i64 0, .int .i64 0, .int .i64 0, .int .i64 0, .int .i64 0, .int .i64 0, .int .i64 0, .int .i64 0, .int .i64 0, .int .i64 0, .int .i64 0, .int .i64 0, .int .i64 0, .int .i64 0, .int .i64 0, .int .i64 0, .int .i64 0, .int .i64 0, .int .i64 0, .int .i64 0, .int .i64 0, .int .i64 0, .int .i64 0, .int .i64 0, .int .i64 0, .int .i64 0, .int .i64 0, .int .i64 0, .int .i64 0, .int .i64 0, .int .i64 0, .int .i64 0, .int .i64 0, .int .i64 0, .int .i64 0, .int .i64 0, .int .i64 0, .int .i64 0, .int .i64 0, .int .i64 0, .int .i64 0, .int .i64 0, .int .i64 0, .int .i64 0, .int .i64 0, .int .i64 0, .int .i64 0, .int .i64 0, .int .i64 0, .int .i64 0, .int .i64 0, .int .i64 0, .int .i64 0, .int .i64 0, .int .i64 0, .int .i64 0, .int .i64 0, .int .i64 0, .int .i64 0, .int .i64 0, .int .i64 0, .int .i64 0, .int .i64 0, .int .i64 0, .int .i64 0, .int .i64 0, .int .i64 0, .int .i64 0, .int .i64 0, .int .i64 0, .int .i64 0, .int .i64 0, .int .i64 0, .int .i64 0]) := zvTy_of (z := .agg #[.int .i64 0, .int .i64 0, .int .i64 0, .int .i64 0, .int .i64 0, .int .i64 0, .int .i64 0, .int .i64 0, .int .i64 0, .int .i64 0, .int .i64 0, .int .i64 0, .int .i64 0, .int .i64 0, .int .i64 0, .int .i64 0, .int .i64 0, .int .i64 0, .int .i64 0, .int .i64 0, .int .i64 0, .int .i64 0, .int .i64 0, .int .i64 0, .int .i64 0, .int .i64 0, .int .i64 0, .int .i64 0, .int .i64 0, .int .i64 0, .int .i64 0, .int .i64 0, .int .i64 0, .int .i64 0, .int .i64 0, .int .i64 0, .int .i64 0, .int .i64 0, .int .i64 0, .int .i64 0, .int .i64 0, .int .i64 0, .int .i64 0, .int .i64 0, .int .i64 0, .int .i64 0, .int .i64 0, .int .i64 0, .int .i64 0, .int .i64 0, .int .i64 0, .int .i64 0, .int .i64 0, .int .i64 0, .int .i64 0, .int .i64 0, .int .i64 0, .int .i64 0, .int .i64 0, .int .i64 0, .int .i64 0, .int .i64 0, .int .i64 0, .int .i64 0, .int .i64 0, .int .i64 0, .int .i64 0, .int .i64 0, .int .i64 0, .int .i64 0, .int .i64 0, .int .i64 0, .int .i64 0, .int .i64 0, .int .i64 0, .int .i64 0, .int .i64 0, .int .i64 0, .int .i64 0, .int .i64 0, .int .i64 0, .int .i64 0, .int .i64 0, .int .i64 0, .int .i64 0, .int .i64 0, .int .i64 0, .int .i64 0, .int .i64 0, .int .i64 0, .int .i64 0, .int .i64 0, .int .i64 0, .int .i64 0, .int .i64 0, .int .i64 0, .int .i64 0, .int .i64 0, .int .i64 0, .int .i64 0]) (by kernel_rfl) rfl
theorem agg_150 : AggTy Tryd.prog 150 100 := aggTy_of Tryd.underlying150 rfl (by kernel_rfl)
theorem arr_150 : ArTy Tryd.prog 150 10 10 := arTy_of Tryd.underlying150 (by kernel_rfl)
theorem zt_150 : ZeroTy Tryd.prog 150 [.int .i64 0, .int .i64 0, .int .i64 0, .int .i64 0, .int .i64 0, .int .i64 0, .int .i64 0, .int .i64 0, .int .i64 0, .int .i64 0, .int .i64 0, .int .i64 0, .int .i64 0, .int .i64 0, .int .i64 0, .int .i64 0, .int .i64 0, .int .i64 0, .int .i64 0, .int .i64 0, .int .i64 0, .int .i64 0, .int .i64 0, .int .i64 0, .int .i64 0, .int .i64 0, .int .i64 0, .int .i64 0, .int .i64 0, .int .i64 0, .int .i64 0, .int .i64 0, .int .i64 0, .int .i64 0, .int .i64 0, .int .i64 0, .int .i64 0, .int .i64 0, .int .i64 0, .int .i64 0, .int .i64 0, .int .i64 0, .int .i64 0, .int .i64 0, .int .i64 0, .int .i64 0, .int .i64 0, .int .i64 0, .int .i64 0, .int .i64 0, .int .i64 0, .int .i64 0, .int .i64 0, .int .i64 0, .int .i64 0, .int .i64 0, .int .i64 0, .int .i64 0, .int .i64 0, .int .i64 0, .int .i64 0, .int .i64 0, .int .i64 0, .int .i64 0, .int .i64 0, .int .i64 0, .int .i64 0, .int .i64 0, .int .i64 0, .int .i64 0, .int .i64 0, .int .i64 0, .int .i64 0, .int .i64 0, .int .i64 0, .int .i64 0, .int .i64 0, .int .i64 0, .int .i64 0, .int .i64 0, .int .i64 0, .int .i64 0, .int .i64 0, .int .i64 0, .int .i64 0, .int .i64 0, .int .i64 0, .int .i64 0, .int .i64 0, .int .i64 0, .int .i64 0, .int .i64 0, .int .i64 0, .int .i64 0, .int .i64 0, .int .i64 0, .int .i64 0, .int .i64 0, .int .i64 0, .int .i64 0] := zeroTy_of (z := .agg #[.int .i64 0, .int .i64 0, .int .i64 0, .int .i64 0, .int .i64 0, .int .i64 0, .int .i64 0, .int .i64 0, .int .i64 0, .int .i64 0, .int .i64 0, .int .i64 0, .int .i64 0, .int .i64 0, .int .i64 0, .int .i64 0, .int .i64 0, .int .i64 0, .int .i64 0, .int .i64 0, .int .i64 0, .int .i64 0, .int .i64 0, .int .i64 0, .int .i64 0, .int .i64 0, .int .i64 0, .int .i64 0, .int .i64 0, .int .i64 0, .int .i64 0, .int .i64 0, .int .i64 0, .int .i64 0, .int .i64 0, .int .i64 0, .int .i64 0, .int .i64 0, .int .i64 0, .int .i64 0, .int .i64 0, .int .i64 0, .int .i64 0, .int .i64 0, .int .i64 0, .int .i64 0, .int .i64 0, .int .i64 0, .int .i64 0, .int .i64 0, .int .i64 0, .int .i64 0, .int .i64 0, .int .i64 0, .int .i64 0, .int .i64 0, .int .i64 0, .int .i64 0, .int .i64 0, .int .i64 0, .int .i64 0, .int .i64 0, .int .i64 0, .int .i64 0, .int .i64 0, .int .i64 0, .int .i64 0, .int .i64 0, .int .i64 0, .int .i64 0, .int .i64 0, .int .i64 0, .int .i64 0, .int .i64 0, .int .i64 0, .int .i64 0, .int .i64 0, .int .i64 0, .int .i64 0, .int .i64 0, .int .i64 0, .int .i64 0, .int .i64 0, .int .i64 0, .int .i64 0, .int .i64 0, .int .i64 0, .int .i64 0, .int .i64 0, .int .i64 0, .int .i64 0, .int .i64 0, .int .i64 0, .int .i64 0, .int .i64 0, .int .i64 0, .int .i64 0, .int .i64 0, .int .i64 0, .int .i64 0]) (by kernel_rfl) rfl
theorem bt_150 : BuildTy Tryd.prog 150 (fun i => some (i * 10, 10)) [.int .i64 0, .int .i64 0, .int .i64 0, .int .i64 0, .int .i64 0, .int .i64 0, .int .i64 0, .int .i64 0, .int .i64 0, .int .i64 0, .int .i64 0, .int .i64 0, .int .i64 0, .int .i64 0, .int .i64 0, .int .i64 0, .int .i64 0, .int .i64 0, .int .i64 0, .int .i64 0, .int .i64 0, .int .i64 0, .int .i64 0, .int .i64 0, .int .i64 0, .int .i64 0, .int .i64 0, .int .i64 0, .int .i64 0, .int .i64 0, .int .i64 0, .int .i64 0, .int .i64 0, .int .i64 0, .int .i64 0, .int .i64 0, .int .i64 0, .int .i64 0, .int .i64 0, .int .i64 0, .int .i64 0, .int .i64 0, .int .i64 0, .int .i64 0, .int .i64 0, .int .i64 0, .int .i64 0, .int .i64 0, .int .i64 0, .int .i64 0, .int .i64 0, .int .i64 0, .int .i64 0, .int .i64 0, .int .i64 0, .int .i64 0, .int .i64 0, .int .i64 0, .int .i64 0, .int .i64 0, .int .i64 0, .int .i64 0, .int .i64 0, .int .i64 0, .int .i64 0, .int .i64 0, .int .i64 0, .int .i64 0, .int .i64 0, .int .i64 0, .int .i64 0, .int .i64 0, .int .i64 0, .int .i64 0, .int .i64 0, .int .i64 0, .int .i64 0, .int .i64 0, .int .i64 0, .int .i64 0, .int .i64 0, .int .i64 0, .int .i64 0, .int .i64 0, .int .i64 0, .int .i64 0, .int .i64 0, .int .i64 0, .int .i64 0, .int .i64 0, .int .i64 0, .int .i64 0, .int .i64 0, .int .i64 0, .int .i64 0, .int .i64 0, .int .i64 0, .int .i64 0, .int .i64 0, .int .i64 0] := ⟨.agg #[.int .i64 0, .int .i64 0, .int .i64 0, .int .i64 0, .int .i64 0, .int .i64 0, .int .i64 0, .int .i64 0, .int .i64 0, .int .i64 0, .int .i64 0, .int .i64 0, .int .i64 0, .int .i64 0, .int .i64 0, .int .i64 0, .int .i64 0, .int .i64 0, .int .i64 0, .int .i64 0, .int .i64 0, .int .i64 0, .int .i64 0, .int .i64 0, .int .i64 0, .int .i64 0, .int .i64 0, .int .i64 0, .int .i64 0, .int .i64 0, .int .i64 0, .int .i64 0, .int .i64 0, .int .i64 0, .int .i64 0, .int .i64 0, .int .i64 0, .int .i64 0, .int .i64 0, .int .i64 0, .int .i64 0, .int .i64 0, .int .i64 0, .int .i64 0, .int .i64 0, .int .i64 0, .int .i64 0, .int .i64 0, .int .i64 0, .int .i64 0, .int .i64 0, .int .i64 0, .int .i64 0, .int .i64 0, .int .i64 0, .int .i64 0, .int .i64 0, .int .i64 0, .int .i64 0, .int .i64 0, .int .i64 0, .int .i64 0, .int .i64 0, .int .i64 0, .int .i64 0, .int .i64 0, .int .i64 0, .int .i64 0, .int .i64 0, .int .i64 0, .int .i64 0, .int .i64 0, .int .i64 0, .int .i64 0, .int .i64 0, .int .i64 0, .int .i64 0, .int .i64 0, .int .i64 0, .int .i64 0, .int .i64 0, .int .i64 0, .int .i64 0, .int .i64 0, .int .i64 0, .int .i64 0, .int .i64 0, .int .i64 0, .int .i64 0, .int .i64 0, .int .i64 0, .int .i64 0, .int .i64 0, .int .i64 0, .int .i64 0, .int .i64 0, .int .i64 0, .int .i64 0, .int .i64 0, .int .i64 0], rfl, fun parts => by kernel_rfl⟩
theorem zv_159 : ZvTy Tryd.prog 159 (.int .i64 0) := zvTy_of (z := .int .i64 0) (by kernel_rfl) rfl
theorem one_159 : OneTy Tryd.prog 159 := oneTy_of Tryd.underlying159 rfl (by kernel_rfl)
theorem zt_159 : ZeroTy Tryd.prog 159 [.int .i64 0] := zeroTy_of (z := .int .i64 0) (by kernel_rfl) rfl
theorem zv_167 : ZvTy Tryd.prog 167 (.int .u64 0) := zvTy_of (z := .int .u64 0) (by kernel_rfl) rfl
theorem one_167 : OneTy Tryd.prog 167 := oneTy_of Tryd.underlying167 rfl (by kernel_rfl)
theorem zt_167 : ZeroTy Tryd.prog 167 [.int .u64 0] := zeroTy_of (z := .int .u64 0) (by kernel_rfl) rfl
theorem zv_173 : ZvTy Tryd.prog 173 (.agg [.int .u8 0, .int .u8 0, .int .u8 0, .int .u8 0, .int .u8 0, .int .u8 0, .int .u8 0, .int .u8 0, .int .u8 0, .int .u8 0, .int .u8 0, .int .u8 0, .int .u8 0, .int .u8 0, .int .u8 0, .int .u8 0, .int .u8 0, .int .u8 0, .int .u8 0, .int .u8 0, .int .u8 0, .int .u8 0, .int .u8 0, .int .u8 0]) := zvTy_of (z := .agg #[.int .u8 0, .int .u8 0, .int .u8 0, .int .u8 0, .int .u8 0, .int .u8 0, .int .u8 0, .int .u8 0, .int .u8 0, .int .u8 0, .int .u8 0, .int .u8 0, .int .u8 0, .int .u8 0, .int .u8 0, .int .u8 0, .int .u8 0, .int .u8 0, .int .u8 0, .int .u8 0, .int .u8 0, .int .u8 0, .int .u8 0, .int .u8 0]) (by kernel_rfl) rfl
theorem agg_173 : AggTy Tryd.prog 173 24 := aggTy_of Tryd.underlying173 rfl (by kernel_rfl)
theorem arr_173 : ArTy Tryd.prog 173 24 1 := arTy_of Tryd.underlying173 (by kernel_rfl)
theorem zt_173 : ZeroTy Tryd.prog 173 [.int .u8 0, .int .u8 0, .int .u8 0, .int .u8 0, .int .u8 0, .int .u8 0, .int .u8 0, .int .u8 0, .int .u8 0, .int .u8 0, .int .u8 0, .int .u8 0, .int .u8 0, .int .u8 0, .int .u8 0, .int .u8 0, .int .u8 0, .int .u8 0, .int .u8 0, .int .u8 0, .int .u8 0, .int .u8 0, .int .u8 0, .int .u8 0] := zeroTy_of (z := .agg #[.int .u8 0, .int .u8 0, .int .u8 0, .int .u8 0, .int .u8 0, .int .u8 0, .int .u8 0, .int .u8 0, .int .u8 0, .int .u8 0, .int .u8 0, .int .u8 0, .int .u8 0, .int .u8 0, .int .u8 0, .int .u8 0, .int .u8 0, .int .u8 0, .int .u8 0, .int .u8 0, .int .u8 0, .int .u8 0, .int .u8 0, .int .u8 0]) (by kernel_rfl) rfl
theorem bt_173 : BuildTy Tryd.prog 173 (fun i => some (i * 1, 1)) [.int .u8 0, .int .u8 0, .int .u8 0, .int .u8 0, .int .u8 0, .int .u8 0, .int .u8 0, .int .u8 0, .int .u8 0, .int .u8 0, .int .u8 0, .int .u8 0, .int .u8 0, .int .u8 0, .int .u8 0, .int .u8 0, .int .u8 0, .int .u8 0, .int .u8 0, .int .u8 0, .int .u8 0, .int .u8 0, .int .u8 0, .int .u8 0] := ⟨.agg #[.int .u8 0, .int .u8 0, .int .u8 0, .int .u8 0, .int .u8 0, .int .u8 0, .int .u8 0, .int .u8 0, .int .u8 0, .int .u8 0, .int .u8 0, .int .u8 0, .int .u8 0, .int .u8 0, .int .u8 0, .int .u8 0, .int .u8 0, .int .u8 0, .int .u8 0, .int .u8 0, .int .u8 0, .int .u8 0, .int .u8 0, .int .u8 0], rfl, fun parts => by kernel_rfl⟩
theorem zv_180 : ZvTy Tryd.prog 180 (.agg [.int .u64 0, .int .u64 0, .int .u64 0, .int .u64 0, .int .u64 0, .int .u64 0, .int .u64 0, .int .u64 0, .int .u64 0, .int .u64 0, .int .u64 0, .int .u64 0, .int .u64 0, .int .u64 0, .int .u64 0, .int .u64 0, .int .u64 0, .int .u64 0, .int .u64 0, .int .u64 0]) := zvTy_of (z := .agg #[.int .u64 0, .int .u64 0, .int .u64 0, .int .u64 0, .int .u64 0, .int .u64 0, .int .u64 0, .int .u64 0, .int .u64 0, .int .u64 0, .int .u64 0, .int .u64 0, .int .u64 0, .int .u64 0, .int .u64 0, .int .u64 0, .int .u64 0, .int .u64 0, .int .u64 0, .int .u64 0]) (by kernel_rfl) rfl
theorem agg_180 : AggTy Tryd.prog 180 20 := aggTy_of Tryd.underlying180 rfl (by kernel_rfl)
theorem arr_180 : ArTy Tryd.prog 180 20 1 := arTy_of Tryd.underlying180 (by kernel_rfl)
theorem zt_180 : ZeroTy Tryd.prog 180 [.int .u64 0, .int .u64 0, .int .u64 0, .int .u64 0, .int .u64 0, .int .u64 0, .int .u64 0, .int .u64 0, .int .u64 0, .int .u64 0, .int .u64 0, .int .u64 0, .int .u64 0, .int .u64 0, .int .u64 0, .int .u64 0, .int .u64 0, .int .u64 0, .int .u64 0, .int .u64 0] := zeroTy_of (z := .agg #[.int .u64 0, .int .u64 0, .int .u64 0, .int .u64 0, .int .u64 0, .int .u64 0, .int .u64 0, .int .u64 0, .int .u64 0, .int .u64 0, .int .u64 0, .int .u64 0, .int .u64 0, .int .u64 0, .int .u64 0, .int .u64 0, .int .u64 0, .int .u64 0, .int .u64 0, .int .u64 0]) (by kernel_rfl) rfl
theorem bt_180 : BuildTy Tryd.prog 180 (fun i => some (i * 1, 1)) [.int .u64 0, .int .u64 0, .int .u64 0, .int .u64 0, .int .u64 0, .int .u64 0, .int .u64 0, .int .u64 0, .int .u64 0, .int .u64 0, .int .u64 0, .int .u64 0, .int .u64 0, .int .u64 0, .int .u64 0, .int .u64 0, .int .u64 0, .int .u64 0, .int .u64 0, .int .u64 0] := ⟨.agg #[.int .u64 0, .int .u64 0, .int .u64 0, .int .u64 0, .int .u64 0, .int .u64 0, .int .u64 0, .int .u64 0, .int .u64 0, .int .u64 0, .int .u64 0, .int .u64 0, .int .u64 0, .int .u64 0, .int .u64 0, .int .u64 0, .int .u64 0, .int .u64 0, .int .u64 0, .int .u64 0], rfl, fun parts => by kernel_rfl⟩
theorem zv_181 : ZvTy Tryd.prog 181 (.agg [.int .u8 0, .int .u8 0, .int .u8 0, .int .u8 0, .int .u8 0, .int .u8 0, .int .u8 0, .int .u8 0, .int .u8 0, .int .u8 0, .int .u8 0, .int .u8 0, .int .u8 0, .int .u8 0, .int .u8 0, .int .u8 0, .int .u8 0, .int .u8 0, .int .u8 0, .int .u8 0, .int .u8 0, .int .u8 0, .int .u8 0, .int .u8 0, .int .u8 0, .int .u8 0, .int .u8 0, .int .u8 0, .int .u8 0, .int .u8 0, .int .u8 0, .int .u8 0, .int .u8 0, .int .u8 0, .int .u8 0, .int .u8 0, .int .u8 0, .int .u8 0, .int .u8 0, .int .u8 0, .int .u8 0, .int .u8 0, .int .u8 0, .int .u8 0, .int .u8 0, .int .u8 0, .int .u8 0, .int .u8 0, .int .u8 0, .int .u8 0, .int .u8 0, .int .u8 0, .int .u8 0, .int .u8 0, .int .u8 0, .int .u8 0, .int .u8 0, .int .u8 0, .int .u8 0, .int .u8 0, .int .u8 0, .int .u8 0, .int .u8 0, .int .u8 0, .int .u8 0]) := zvTy_of (z := .agg #[.int .u8 0, .int .u8 0, .int .u8 0, .int .u8 0, .int .u8 0, .int .u8 0, .int .u8 0, .int .u8 0, .int .u8 0, .int .u8 0, .int .u8 0, .int .u8 0, .int .u8 0, .int .u8 0, .int .u8 0, .int .u8 0, .int .u8 0, .int .u8 0, .int .u8 0, .int .u8 0, .int .u8 0, .int .u8 0, .int .u8 0, .int .u8 0, .int .u8 0, .int .u8 0, .int .u8 0, .int .u8 0, .int .u8 0, .int .u8 0, .int .u8 0, .int .u8 0, .int .u8 0, .int .u8 0, .int .u8 0, .int .u8 0, .int .u8 0, .int .u8 0, .int .u8 0, .int .u8 0, .int .u8 0, .int .u8 0, .int .u8 0, .int .u8 0, .int .u8 0, .int .u8 0, .int .u8 0, .int .u8 0, .int .u8 0, .int .u8 0, .int .u8 0, .int .u8 0, .int .u8 0, .int .u8 0, .int .u8 0, .int .u8 0, .int .u8 0, .int .u8 0, .int .u8 0, .int .u8 0, .int .u8 0, .int .u8 0, .int .u8 0, .int .u8 0, .int .u8 0]) (by kernel_rfl) rfl
theorem agg_181 : AggTy Tryd.prog 181 65 := aggTy_of Tryd.underlying181 rfl (by kernel_rfl)
theorem arr_181 : ArTy Tryd.prog 181 65 1 := arTy_of Tryd.underlying181 (by kernel_rfl)
theorem zt_181 : ZeroTy Tryd.prog 181 [.int .u8 0, .int .u8 0, .int .u8 0, .int .u8 0, .int .u8 0, .int .u8 0, .int .u8 0, .int .u8 0, .int .u8 0, .int .u8 0, .int .u8 0, .int .u8 0, .int .u8 0, .int .u8 0, .int .u8 0, .int .u8 0, .int .u8 0, .int .u8 0, .int .u8 0, .int .u8 0, .int .u8 0, .int .u8 0, .int .u8 0, .int .u8 0, .int .u8 0, .int .u8 0, .int .u8 0, .int .u8 0, .int .u8 0, .int .u8 0, .int .u8 0, .int .u8 0, .int .u8 0, .int .u8 0, .int .u8 0, .int .u8 0, .int .u8 0, .int .u8 0, .int .u8 0, .int .u8 0, .int .u8 0, .int .u8 0, .int .u8 0, .int .u8 0, .int .u8 0, .int .u8 0, .int .u8 0, .int .u8 0, .int .u8 0, .int .u8 0, .int .u8 0, .int .u8 0, .int .u8 0, .int .u8 0, .int .u8 0, .int .u8 0, .int .u8 0, .int .u8 0, .int .u8 0, .int .u8 0, .int .u8 0, .int .u8 0, .int .u8 0, .int .u8 0, .int .u8 0] := zeroTy_of (z := .agg #[.int .u8 0, .int .u8 0, .int .u8 0, .int .u8 0, .int .u8 0, .int .u8 0, .int .u8 0, .int .u8 0, .int .u8 0, .int .u8 0, .int .u8 0, .int .u8 0, .int .u8 0, .int .u8 0, .int .u8 0, .int .u8 0, .int .u8 0, .int .u8 0, .int .u8 0, .int .u8 0, .int .u8 0, .int .u8 0, .int .u8 0, .int .u8 0, .int .u8 0, .int .u8 0, .int .u8 0, .int .u8 0, .int .u8 0, .int .u8 0, .int .u8 0, .int .u8 0, .int .u8 0, .int .u8 0, .int .u8 0, .int .u8 0, .int .u8 0, .int .u8 0, .int .u8 0, .int .u8 0, .int .u8 0, .int .u8 0, .int .u8 0, .int .u8 0, .int .u8 0, .int .u8 0, .int .u8 0, .int .u8 0, .int .u8 0, .int .u8 0, .int .u8 0, .int .u8 0, .int .u8 0, .int .u8 0, .int .u8 0, .int .u8 0, .int .u8 0, .int .u8 0, .int .u8 0, .int .u8 0, .int .u8 0, .int .u8 0, .int .u8 0, .int .u8 0, .int .u8 0]) (by kernel_rfl) rfl
theorem bt_181 : BuildTy Tryd.prog 181 (fun i => some (i * 1, 1)) [.int .u8 0, .int .u8 0, .int .u8 0, .int .u8 0, .int .u8 0, .int .u8 0, .int .u8 0, .int .u8 0, .int .u8 0, .int .u8 0, .int .u8 0, .int .u8 0, .int .u8 0, .int .u8 0, .int .u8 0, .int .u8 0, .int .u8 0, .int .u8 0, .int .u8 0, .int .u8 0, .int .u8 0, .int .u8 0, .int .u8 0, .int .u8 0, .int .u8 0, .int .u8 0, .int .u8 0, .int .u8 0, .int .u8 0, .int .u8 0, .int .u8 0, .int .u8 0, .int .u8 0, .int .u8 0, .int .u8 0, .int .u8 0, .int .u8 0, .int .u8 0, .int .u8 0, .int .u8 0, .int .u8 0, .int .u8 0, .int .u8 0, .int .u8 0, .int .u8 0, .int .u8 0, .int .u8 0, .int .u8 0, .int .u8 0, .int .u8 0, .int .u8 0, .int .u8 0, .int .u8 0, .int .u8 0, .int .u8 0, .int .u8 0, .int .u8 0, .int .u8 0, .int .u8 0, .int .u8 0, .int .u8 0, .int .u8 0, .int .u8 0, .int .u8 0, .int .u8 0] := ⟨.agg #[.int .u8 0, .int .u8 0, .int .u8 0, .int .u8 0, .int .u8 0, .int .u8 0, .int .u8 0, .int .u8 0, .int .u8 0, .int .u8 0, .int .u8 0, .int .u8 0, .int .u8 0, .int .u8 0, .int .u8 0, .int .u8 0, .int .u8 0, .int .u8 0, .int .u8 0, .int .u8 0, .int .u8 0, .int .u8 0, .int .u8 0, .int .u8 0, .int .u8 0, .int .u8 0, .int .u8 0, .int .u8 0, .int .u8 0, .int .u8 0, .int .u8 0, .int .u8 0, .int .u8 0, .int .u8 0, .int .u8 0, .int .u8 0, .int .u8 0, .int .u8 0, .int .u8 0, .int .u8 0, .int .u8 0, .int .u8 0, .int .u8 0, .int .u8 0, .int .u8 0, .int .u8 0, .int .u8 0, .int .u8 0, .int .u8 0, .int .u8 0, .int .u8 0, .int .u8 0, .int .u8 0, .int .u8 0, .int .u8 0, .int .u8 0, .int .u8 0, .int .u8 0, .int .u8 0, .int .u8 0, .int .u8 0, .int .u8 0, .int .u8 0, .int .u8 0, .int .u8 0], rfl, fun parts => by kernel_rfl⟩
theorem zv_182 : ZvTy Tryd.prog 182 (.agg [.int .u8 0, .int .u8 0, .int .u8 0, .int .u8 0, .int .u8 0, .int .u8 0, .int .u8 0, .int .u8 0, .int .u8 0, .int .u8 0, .int .u8 0, .int .u8 0, .int .u8 0, .int .u8 0, .int .u8 0, .int .u8 0, .int .u8 0, .int .u8 0, .int .u8 0, .int .u8 0, .int .u8 0, .int .u8 0, .int .u8 0, .int .u8 0, .int .u8 0, .int .u8 0, .int .u8 0, .int .u8 0, .int .u8 0, .int .u8 0, .int .u8 0, .int .u8 0]) := zvTy_of (z := .agg #[.int .u8 0, .int .u8 0, .int .u8 0, .int .u8 0, .int .u8 0, .int .u8 0, .int .u8 0, .int .u8 0, .int .u8 0, .int .u8 0, .int .u8 0, .int .u8 0, .int .u8 0, .int .u8 0, .int .u8 0, .int .u8 0, .int .u8 0, .int .u8 0, .int .u8 0, .int .u8 0, .int .u8 0, .int .u8 0, .int .u8 0, .int .u8 0, .int .u8 0, .int .u8 0, .int .u8 0, .int .u8 0, .int .u8 0, .int .u8 0, .int .u8 0, .int .u8 0]) (by kernel_rfl) rfl
theorem agg_182 : AggTy Tryd.prog 182 32 := aggTy_of Tryd.underlying182 rfl (by kernel_rfl)
theorem arr_182 : ArTy Tryd.prog 182 32 1 := arTy_of Tryd.underlying182 (by kernel_rfl)
theorem zt_182 : ZeroTy Tryd.prog 182 [.int .u8 0, .int .u8 0, .int .u8 0, .int .u8 0, .int .u8 0, .int .u8 0, .int .u8 0, .int .u8 0, .int .u8 0, .int .u8 0, .int .u8 0, .int .u8 0, .int .u8 0, .int .u8 0, .int .u8 0, .int .u8 0, .int .u8 0, .int .u8 0, .int .u8 0, .int .u8 0, .int .u8 0, .int .u8 0, .int .u8 0, .int .u8 0, .int .u8 0, .int .u8 0, .int .u8 0, .int .u8 0, .int .u8 0, .int .u8 0, .int .u8 0, .int .u8 0] := zeroTy_of (z := .agg #[.int .u8 0, .int .u8 0, .int .u8 0, .int .u8 0, .int .u8 0, .int .u8 0, .int .u8 0, .int .u8 0, .int .u8 0, .int .u8 0, .int .u8 0, .int .u8 0, .int .u8 0, .int .u8 0, .int .u8 0, .int .u8 0, .int .u8 0, .int .u8 0, .int .u8 0, .int .u8 0, .int .u8 0, .int .u8 0, .int .u8 0, .int .u8 0, .int .u8 0, .int .u8 0, .int .u8 0, .int .u8 0, .int .u8 0, .int .u8 0, .int .u8 0, .int .u8 0]) (by kernel_rfl) rfl
theorem bt_182 : BuildTy Tryd.prog 182 (fun i => some (i * 1, 1)) [.int .u8 0, .int .u8 0, .int .u8 0, .int .u8 0, .int .u8 0, .int .u8 0, .int .u8 0, .int .u8 0, .int .u8 0, .int .u8 0, .int .u8 0, .int .u8 0, .int .u8 0, .int .u8 0, .int .u8 0, .int .u8 0, .int .u8 0, .int .u8 0, .int .u8 0, .int .u8 0, .int .u8 0, .int .u8 0, .int .u8 0, .int .u8 0, .int .u8 0, .int .u8 0, .int .u8 0, .int .u8 0, .int .u8 0, .int .u8 0, .int .u8 0, .int .u8 0] := ⟨.agg #[.int .u8 0, .int .u8 0, .int .u8 0, .int .u8 0, .int .u8 0, .int .u8 0, .int .u8 0, .int .u8 0, .int .u8 0, .int .u8 0, .int .u8 0, .int .u8 0, .int .u8 0, .int .u8 0, .int .u8 0, .int .u8 0, .int .u8 0, .int .u8 0, .int .u8 0, .int .u8 0, .int .u8 0, .int .u8 0, .int .u8 0, .int .u8 0, .int .u8 0, .int .u8 0, .int .u8 0, .int .u8 0, .int .u8 0, .int .u8 0, .int .u8 0, .int .u8 0], rfl, fun parts => by kernel_rfl⟩
theorem zv_183 : ZvTy Tryd.prog 183 (.agg [.int .u8 0, .int .u8 0, .int .u8 0, .int .u8 0, .int .u8 0, .int .u8 0, .int .u8 0, .int .u8 0, .int .u8 0, .int .u8 0, .int .u8 0, .int .u8 0, .int .u8 0, .int .u8 0, .int .u8 0, .int .u8 0, .int .u8 0, .int .u8 0, .int .u8 0, .int .u8 0, .int .u8 0, .int .u8 0, .int .u8 0, .int .u8 0, .int .u8 0, .int .u8 0, .int .u8 0, .int .u8 0, .int .u8 0, .int .u8 0, .int .u8 0, .int .u8 0, .int .u8 0, .int .u8 0, .int .u8 0, .int .u8 0, .int .u8 0, .int .u8 0, .int .u8 0, .int .u8 0, .int .u8 0, .int .u8 0, .int .u8 0, .int .u8 0, .int .u8 0, .int .u8 0, .int .u8 0, .int .u8 0, .int .u8 0, .int .u8 0, .int .u8 0, .int .u8 0, .int .u8 0, .int .u8 0, .int .u8 0, .int .u8 0, .int .u8 0, .int .u8 0, .int .u8 0, .int .u8 0, .int .u8 0, .int .u8 0, .int .u8 0, .int .u8 0]) := zvTy_of (z := .agg #[.int .u8 0, .int .u8 0, .int .u8 0, .int .u8 0, .int .u8 0, .int .u8 0, .int .u8 0, .int .u8 0, .int .u8 0, .int .u8 0, .int .u8 0, .int .u8 0, .int .u8 0, .int .u8 0, .int .u8 0, .int .u8 0, .int .u8 0, .int .u8 0, .int .u8 0, .int .u8 0, .int .u8 0, .int .u8 0, .int .u8 0, .int .u8 0, .int .u8 0, .int .u8 0, .int .u8 0, .int .u8 0, .int .u8 0, .int .u8 0, .int .u8 0, .int .u8 0, .int .u8 0, .int .u8 0, .int .u8 0, .int .u8 0, .int .u8 0, .int .u8 0, .int .u8 0, .int .u8 0, .int .u8 0, .int .u8 0, .int .u8 0, .int .u8 0, .int .u8 0, .int .u8 0, .int .u8 0, .int .u8 0, .int .u8 0, .int .u8 0, .int .u8 0, .int .u8 0, .int .u8 0, .int .u8 0, .int .u8 0, .int .u8 0, .int .u8 0, .int .u8 0, .int .u8 0, .int .u8 0, .int .u8 0, .int .u8 0, .int .u8 0, .int .u8 0]) (by kernel_rfl) rfl
theorem agg_183 : AggTy Tryd.prog 183 64 := aggTy_of Tryd.underlying183 rfl (by kernel_rfl)
theorem arr_183 : ArTy Tryd.prog 183 64 1 := arTy_of Tryd.underlying183 (by kernel_rfl)
theorem zt_183 : ZeroTy Tryd.prog 183 [.int .u8 0, .int .u8 0, .int .u8 0, .int .u8 0, .int .u8 0, .int .u8 0, .int .u8 0, .int .u8 0, .int .u8 0, .int .u8 0, .int .u8 0, .int .u8 0, .int .u8 0, .int .u8 0, .int .u8 0, .int .u8 0, .int .u8 0, .int .u8 0, .int .u8 0, .int .u8 0, .int .u8 0, .int .u8 0, .int .u8 0, .int .u8 0, .int .u8 0, .int .u8 0, .int .u8 0, .int .u8 0, .int .u8 0, .int .u8 0, .int .u8 0, .int .u8 0, .int .u8 0, .int .u8 0, .int .u8 0, .int .u8 0, .int .u8 0, .int .u8 0, .int .u8 0, .int .u8 0, .int .u8 0, .int .u8 0, .int .u8 0, .int .u8 0, .int .u8 0, .int .u8 0, .int .u8 0, .int .u8 0, .int .u8 0, .int .u8 0, .int .u8 0, .int .u8 0, .int .u8 0, .int .u8 0, .int .u8 0, .int .u8 0, .int .u8 0, .int .u8 0, .int .u8 0, .int .u8 0, .int .u8 0, .int .u8 0, .int .u8 0, .int .u8 0] := zeroTy_of (z := .agg #[.int .u8 0, .int .u8 0, .int .u8 0, .int .u8 0, .int .u8 0, .int .u8 0, .int .u8 0, .int .u8 0, .int .u8 0, .int .u8 0, .int .u8 0, .int .u8 0, .int .u8 0, .int .u8 0, .int .u8 0, .int .u8 0, .int .u8 0, .int .u8 0, .int .u8 0, .int .u8 0, .int .u8 0, .int .u8 0, .int .u8 0, .int .u8 0, .int .u8 0, .int .u8 0, .int .u8 0, .int .u8 0, .int .u8 0, .int .u8 0, .int .u8 0, .int .u8 0, .int .u8 0, .int .u8 0, .int .u8 0, .int .u8 0, .int .u8 0, .int .u8 0, .int .u8 0, .int .u8 0, .int .u8 0, .int .u8 0, .int .u8 0, .int .u8 0, .int .u8 0, .int .u8 0, .int .u8 0, .int .u8 0, .int .u8 0, .int .u8 0, .int .u8 0, .int .u8 0, .int .u8 0, .int .u8 0, .int .u8 0, .int .u8 0, .int .u8 0, .int .u8 0, .int .u8 0, .int .u8 0, .int .u8 0, .int .u8 0, .int .u8 0, .int .u8 0]) (by kernel_rfl) rfl
theorem bt_183 : BuildTy Tryd.prog 183 (fun i => some (i * 1, 1)) [.int .u8 0, .int .u8 0, .int .u8 0, .int .u8 0, .int .u8 0, .int .u8 0, .int .u8 0, .int .u8 0, .int .u8 0, .int .u8 0, .int .u8 0, .int .u8 0, .int .u8 0, .int .u8 0, .int .u8 0, .int .u8 0, .int .u8 0, .int .u8 0, .int .u8 0, .int .u8 0, .int .u8 0, .int .u8 0, .int .u8 0, .int .u8 0, .int .u8 0, .int .u8 0, .int .u8 0, .int .u8 0, .int .u8 0, .int .u8 0, .int .u8 0, .int .u8 0, .int .u8 0, .int .u8 0, .int .u8 0, .int .u8 0, .int .u8 0, .int .u8 0, .int .u8 0, .int .u8 0, .int .u8 0, .int .u8 0, .int .u8 0, .int .u8 0, .int .u8 0, .int .u8 0, .int .u8 0, .int .u8 0, .int .u8 0, .int .u8 0, .int .u8 0, .int .u8 0, .int .u8 0, .int .u8 0, .int .u8 0, .int .u8 0, .int .u8 0, .int .u8 0, .int .u8 0, .int .u8 0, .int .u8 0, .int .u8 0, .int .u8 0, .int .u8 0] := ⟨.agg #[.int .u8 0, .int .u8 0, .int .u8 0, .int .u8 0, .int .u8 0, .int .u8 0, .int .u8 0, .int .u8 0, .int .u8 0, .int .u8 0, .int .u8 0, .int .u8 0, .int .u8 0, .int .u8 0, .int .u8 0, .int .u8 0, .int .u8 0, .int .u8 0, .int .u8 0, .int .u8 0, .int .u8 0, .int .u8 0, .int .u8 0, .int .u8 0, .int .u8 0, .int .u8 0, .int .u8 0, .int .u8 0, .int .u8 0, .int .u8 0, .int .u8 0, .int .u8 0, .int .u8 0, .int .u8 0, .int .u8 0, .int .u8 0, .int .u8 0, .int .u8 0, .int .u8 0, .int .u8 0, .int .u8 0, .int .u8 0, .int .u8 0, .int .u8 0, .int .u8 0, .int .u8 0, .int .u8 0, .int .u8 0, .int .u8 0, .int .u8 0, .int .u8 0, .int .u8 0, .int .u8 0, .int .u8 0, .int .u8 0, .int .u8 0, .int .u8 0, .int .u8 0, .int .u8 0, .int .u8 0, .int .u8 0, .int .u8 0, .int .u8 0, .int .u8 0], rfl, fun parts => by kernel_rfl⟩
theorem zv_190 : ZvTy Tryd.prog 190 (.int .u8 0) := zvTy_of (z := .int .u8 0) (by kernel_rfl) rfl
theorem one_190 : OneTy Tryd.prog 190 := oneTy_of Tryd.underlying190 rfl (by kernel_rfl)
theorem zt_190 : ZeroTy Tryd.prog 190 [.int .u8 0] := zeroTy_of (z := .int .u8 0) (by kernel_rfl) rfl
theorem zv_191 : ZvTy Tryd.prog 191 (.int .u8 0) := zvTy_of (z := .int .u8 0) (by kernel_rfl) rfl
theorem one_191 : OneTy Tryd.prog 191 := oneTy_of Tryd.underlying191 rfl (by kernel_rfl)
theorem zt_191 : ZeroTy Tryd.prog 191 [.int .u8 0] := zeroTy_of (z := .int .u8 0) (by kernel_rfl) rfl
theorem zv_194 : ZvTy Tryd.prog 194 (.int .i32 0) := zvTy_of (z := .int .i32 0) (by kernel_rfl) rfl
theorem one_194 : OneTy Tryd.prog 194 := oneTy_of Tryd.underlying194 rfl (by kernel_rfl)
theorem zt_194 : ZeroTy Tryd.prog 194 [.int .i32 0] := zeroTy_of (z := .int .i32 0) (by kernel_rfl) rfl
theorem zv_195 : ZvTy Tryd.prog 195 (.int .i32 0) := zvTy_of (z := .int .i32 0) (by kernel_rfl) rfl
theorem one_195 : OneTy Tryd.prog 195 := oneTy_of Tryd.underlying195 rfl (by kernel_rfl)
theorem zt_195 : ZeroTy Tryd.prog 195 [.int .i32 0] := zeroTy_of (z := .int .i32 0) (by kernel_rfl) rfl

theorem flp_7 : ∃ fs, Tryd.prog.underlying 7 = some (.struct fs) ∧ ∀ (f : Nat) (off ft : Nat), ([(0, 2), (1, 3), (2, 4), (3, 6)] : List (Nat × Nat))[f]? = some (off, ft) → (∃ fd : Field, fs[f]? = some fd ∧ fd.offset = off ∧ fd.type = ft) ∧ FiTy Tryd.prog 7 f off := by
  refine ⟨_, Tryd.underlying7, fun f off ft h => ?_⟩
  rcases f with _ | _ | _ | _ | f
  · simp at h; obtain ⟨rfl, rfl⟩ := h; exact ⟨⟨_, rfl, rfl, rfl⟩, fi_7_0⟩
  · simp at h; obtain ⟨rfl, rfl⟩ := h; exact ⟨⟨_, rfl, rfl, rfl⟩, fi_7_1⟩
  · simp at h; obtain ⟨rfl, rfl⟩ := h; exact ⟨⟨_, rfl, rfl, rfl⟩, fi_7_2⟩
  · simp at h; obtain ⟨rfl, rfl⟩ := h; exact ⟨⟨_, rfl, rfl, rfl⟩, fi_7_3⟩
  · simp at h

def pl_7 : Nat → Option (Nat × Nat) := (fun i => match i with | 0 => some (0, 1) | 1 => some (1, 1) | 2 => some (2, 1) | 3 => some (3, 1) | _ => none)

theorem flp_8 : ∃ fs, Tryd.prog.underlying 8 = some (.struct fs) ∧ ∀ (f : Nat) (off ft : Nat), ([(0, 2), (1, 3), (2, 4), (3, 6)] : List (Nat × Nat))[f]? = some (off, ft) → (∃ fd : Field, fs[f]? = some fd ∧ fd.offset = off ∧ fd.type = ft) ∧ FiTy Tryd.prog 8 f off := by
  refine ⟨_, Tryd.underlying8, fun f off ft h => ?_⟩
  rcases f with _ | _ | _ | _ | f
  · simp at h; obtain ⟨rfl, rfl⟩ := h; exact ⟨⟨_, rfl, rfl, rfl⟩, fi_8_0⟩
  · simp at h; obtain ⟨rfl, rfl⟩ := h; exact ⟨⟨_, rfl, rfl, rfl⟩, fi_8_1⟩
  · simp at h; obtain ⟨rfl, rfl⟩ := h; exact ⟨⟨_, rfl, rfl, rfl⟩, fi_8_2⟩
  · simp at h; obtain ⟨rfl, rfl⟩ := h; exact ⟨⟨_, rfl, rfl, rfl⟩, fi_8_3⟩
  · simp at h

def pl_8 : Nat → Option (Nat × Nat) := (fun i => match i with | 0 => some (0, 1) | 1 => some (1, 1) | 2 => some (2, 1) | 3 => some (3, 1) | _ => none)

theorem flp_13 : ∃ fs, Tryd.prog.underlying 13 = some (.struct fs) ∧ ∀ (f : Nat) (off ft : Nat), ([(0, 9), (1, 12)] : List (Nat × Nat))[f]? = some (off, ft) → (∃ fd : Field, fs[f]? = some fd ∧ fd.offset = off ∧ fd.type = ft) ∧ FiTy Tryd.prog 13 f off := by
  refine ⟨_, Tryd.underlying13, fun f off ft h => ?_⟩
  rcases f with _ | _ | f
  · simp at h; obtain ⟨rfl, rfl⟩ := h; exact ⟨⟨_, rfl, rfl, rfl⟩, fi_13_0⟩
  · simp at h; obtain ⟨rfl, rfl⟩ := h; exact ⟨⟨_, rfl, rfl, rfl⟩, fi_13_1⟩
  · simp at h

def pl_13 : Nat → Option (Nat × Nat) := (fun i => match i with | 0 => some (0, 1) | 1 => some (1, 1) | _ => none)

theorem flp_14 : ∃ fs, Tryd.prog.underlying 14 = some (.struct fs) ∧ ∀ (f : Nat) (off ft : Nat), ([(0, 9), (1, 12)] : List (Nat × Nat))[f]? = some (off, ft) → (∃ fd : Field, fs[f]? = some fd ∧ fd.offset = off ∧ fd.type = ft) ∧ FiTy Tryd.prog 14 f off := by
  refine ⟨_, Tryd.underlying14, fun f off ft h => ?_⟩
  rcases f with _ | _ | f
  · simp at h; obtain ⟨rfl, rfl⟩ := h; exact ⟨⟨_, rfl, rfl, rfl⟩, fi_14_0⟩
  · simp at h; obtain ⟨rfl, rfl⟩ := h; exact ⟨⟨_, rfl, rfl, rfl⟩, fi_14_1⟩
  · simp at h

def pl_14 : Nat → Option (Nat × Nat) := (fun i => match i with | 0 => some (0, 1) | 1 => some (1, 1) | _ => none)

def pl_26 : Nat → Option (Nat × Nat) := (fun i => some (i * 1, 1))

theorem flp_46 : ∃ fs, Tryd.prog.underlying 46 = some (.struct fs) ∧ ∀ (f : Nat) (off ft : Nat), ([(0, 3), (1, 3)] : List (Nat × Nat))[f]? = some (off, ft) → (∃ fd : Field, fs[f]? = some fd ∧ fd.offset = off ∧ fd.type = ft) ∧ FiTy Tryd.prog 46 f off := by
  refine ⟨_, Tryd.underlying46, fun f off ft h => ?_⟩
  rcases f with _ | _ | f
  · simp at h; obtain ⟨rfl, rfl⟩ := h; exact ⟨⟨_, rfl, rfl, rfl⟩, fi_46_0⟩
  · simp at h; obtain ⟨rfl, rfl⟩ := h; exact ⟨⟨_, rfl, rfl, rfl⟩, fi_46_1⟩
  · simp at h

def pl_46 : Nat → Option (Nat × Nat) := (fun i => match i with | 0 => some (0, 1) | 1 => some (1, 1) | _ => none)

theorem flp_47 : ∃ fs, Tryd.prog.underlying 47 = some (.struct fs) ∧ ∀ (f : Nat) (off ft : Nat), ([(0, 3), (1, 3)] : List (Nat × Nat))[f]? = some (off, ft) → (∃ fd : Field, fs[f]? = some fd ∧ fd.offset = off ∧ fd.type = ft) ∧ FiTy Tryd.prog 47 f off := by
  refine ⟨_, Tryd.underlying47, fun f off ft h => ?_⟩
  rcases f with _ | _ | f
  · simp at h; obtain ⟨rfl, rfl⟩ := h; exact ⟨⟨_, rfl, rfl, rfl⟩, fi_47_0⟩
  · simp at h; obtain ⟨rfl, rfl⟩ := h; exact ⟨⟨_, rfl, rfl, rfl⟩, fi_47_1⟩
  · simp at h

def pl_47 : Nat → Option (Nat × Nat) := (fun i => match i with | 0 => some (0, 1) | 1 => some (1, 1) | _ => none)

theorem flp_49 : ∃ fs, Tryd.prog.underlying 49 = some (.struct fs) ∧ ∀ (f : Nat) (off ft : Nat), ([(0, 3), (1, 3)] : List (Nat × Nat))[f]? = some (off, ft) → (∃ fd : Field, fs[f]? = some fd ∧ fd.offset = off ∧ fd.type = ft) ∧ FiTy Tryd.prog 49 f off := by
  refine ⟨_, Tryd.underlying49, fun f off ft h => ?_⟩
  rcases f with _ | _ | f
  · simp at h; obtain ⟨rfl, rfl⟩ := h; exact ⟨⟨_, rfl, rfl, rfl⟩, fi_49_0⟩
  · simp at h; obtain ⟨rfl, rfl⟩ := h; exact ⟨⟨_, rfl, rfl, rfl⟩, fi_49_1⟩
  · simp at h

def pl_49 : Nat → Option (Nat × Nat) := (fun i => match i with | 0 => some (0, 1) | 1 => some (1, 1) | _ => none)

theorem flp_54 : ∃ fs, Tryd.prog.underlying 54 = some (.struct fs) ∧ ∀ (f : Nat) (off ft : Nat), ([(0, 22), (1, 3), (2, 53)] : List (Nat × Nat))[f]? = some (off, ft) → (∃ fd : Field, fs[f]? = some fd ∧ fd.offset = off ∧ fd.type = ft) ∧ FiTy Tryd.prog 54 f off := by
  refine ⟨_, Tryd.underlying54, fun f off ft h => ?_⟩
  rcases f with _ | _ | _ | f
  · simp at h; obtain ⟨rfl, rfl⟩ := h; exact ⟨⟨_, rfl, rfl, rfl⟩, fi_54_0⟩
  · simp at h; obtain ⟨rfl, rfl⟩ := h; exact ⟨⟨_, rfl, rfl, rfl⟩, fi_54_1⟩
  · simp at h; obtain ⟨rfl, rfl⟩ := h; exact ⟨⟨_, rfl, rfl, rfl⟩, fi_54_2⟩
  · simp at h

def pl_54 : Nat → Option (Nat × Nat) := (fun i => match i with | 0 => some (0, 1) | 1 => some (1, 1) | 2 => some (2, 1) | _ => none)

theorem flp_55 : ∃ fs, Tryd.prog.underlying 55 = some (.struct fs) ∧ ∀ (f : Nat) (off ft : Nat), ([(0, 22), (1, 3), (2, 53)] : List (Nat × Nat))[f]? = some (off, ft) → (∃ fd : Field, fs[f]? = some fd ∧ fd.offset = off ∧ fd.type = ft) ∧ FiTy Tryd.prog 55 f off := by
  refine ⟨_, Tryd.underlying55, fun f off ft h => ?_⟩
  rcases f with _ | _ | _ | f
  · simp at h; obtain ⟨rfl, rfl⟩ := h; exact ⟨⟨_, rfl, rfl, rfl⟩, fi_55_0⟩
  · simp at h; obtain ⟨rfl, rfl⟩ := h; exact ⟨⟨_, rfl, rfl, rfl⟩, fi_55_1⟩
  · simp at h; obtain ⟨rfl, rfl⟩ := h; exact ⟨⟨_, rfl, rfl, rfl⟩, fi_55_2⟩
  · simp at h

def pl_55 : Nat → Option (Nat × Nat) := (fun i => match i with | 0 => some (0, 1) | 1 => some (1, 1) | 2 => some (2, 1) | _ => none)

def pl_62 : Nat → Option (Nat × Nat) := (fun i => some (i * 1, 1))

def pl_69 : Nat → Option (Nat × Nat) := (fun i => some (i * 2, 2))

def pl_95 : Nat → Option (Nat × Nat) := (fun i => some (i * 1, 1))

theorem flp_109 : ∃ fs, Tryd.prog.underlying 109 = some (.struct fs) ∧ ∀ (f : Nat) (off ft : Nat), ([(0, 3), (1, 3)] : List (Nat × Nat))[f]? = some (off, ft) → (∃ fd : Field, fs[f]? = some fd ∧ fd.offset = off ∧ fd.type = ft) ∧ FiTy Tryd.prog 109 f off := by
  refine ⟨_, Tryd.underlying109, fun f off ft h => ?_⟩
  rcases f with _ | _ | f
  · simp at h; obtain ⟨rfl, rfl⟩ := h; exact ⟨⟨_, rfl, rfl, rfl⟩, fi_109_0⟩
  · simp at h; obtain ⟨rfl, rfl⟩ := h; exact ⟨⟨_, rfl, rfl, rfl⟩, fi_109_1⟩
  · simp at h

def pl_109 : Nat → Option (Nat × Nat) := (fun i => match i with | 0 => some (0, 1) | 1 => some (1, 1) | _ => none)

theorem flp_110 : ∃ fs, Tryd.prog.underlying 110 = some (.struct fs) ∧ ∀ (f : Nat) (off ft : Nat), ([(0, 3), (1, 3)] : List (Nat × Nat))[f]? = some (off, ft) → (∃ fd : Field, fs[f]? = some fd ∧ fd.offset = off ∧ fd.type = ft) ∧ FiTy Tryd.prog 110 f off := by
  refine ⟨_, Tryd.underlying110, fun f off ft h => ?_⟩
  rcases f with _ | _ | f
  · simp at h; obtain ⟨rfl, rfl⟩ := h; exact ⟨⟨_, rfl, rfl, rfl⟩, fi_110_0⟩
  · simp at h; obtain ⟨rfl, rfl⟩ := h; exact ⟨⟨_, rfl, rfl, rfl⟩, fi_110_1⟩
  · simp at h

def pl_110 : Nat → Option (Nat × Nat) := (fun i => match i with | 0 => some (0, 1) | 1 => some (1, 1) | _ => none)

def pl_148 : Nat → Option (Nat × Nat) := (fun i => some (i * 1, 1))

def pl_149 : Nat → Option (Nat × Nat) := (fun i => some (i * 1, 1))

def pl_150 : Nat → Option (Nat × Nat) := (fun i => some (i * 10, 10))

def pl_173 : Nat → Option (Nat × Nat) := (fun i => some (i * 1, 1))

def pl_180 : Nat → Option (Nat × Nat) := (fun i => some (i * 1, 1))

def pl_181 : Nat → Option (Nat × Nat) := (fun i => some (i * 1, 1))

def pl_182 : Nat → Option (Nat × Nat) := (fun i => some (i * 1, 1))

def pl_183 : Nat → Option (Nat × Nat) := (fun i => some (i * 1, 1))


def kdL : List (Nat × (TK)) := [(2, .int .i64), (3, .int .i64), (4, .bool), (5, .int .u8), (6, .int .u8), (9, .str), (10, .str), (11, .str), (12, .int .u64), (21, .int .i32), (53, .int .u64), (83, .int .i64), (124, .int .u64), (139, .int .u32), (159, .int .i64), (167, .int .u64), (190, .int .u8), (191, .int .u8), (194, .int .i32), (195, .int .i32)]
def slL : List (Nat × (Nat × Nat × Nat × List PV)) := [(22, 5, 1, 1, [.int .u8 0]), (33, 26, 2, 16, [.int .i64 0, .int .i64 0]), (76, 49, 2, 16, [.int .i64 0, .int .i64 0]), (77, 49, 2, 16, [.int .i64 0, .int .i64 0]), (81, 3, 1, 8, [.int .i64 0]), (86, 110, 2, 16, [.int .i64 0, .int .i64 0]), (89, 81, 1, 24, [.sl 0 []])]
def oneL : List (Nat × (Unit)) := [(2, ()), (3, ()), (4, ()), (5, ()), (6, ()), (9, ()), (10, ()), (11, ()), (12, ()), (21, ()), (22, ()), (33, ()), (53, ()), (76, ()), (77, ()), (81, ()), (83, ()), (86, ()), (89, ()), (124, ()), (139, ()), (159, ()), (167, ()), (190, ()), (191, ()), (194, ()), (195, ())]
def aggL : List (Nat × (Nat)) := [(7, 4), (8, 4), (13, 2), (14, 2), (26, 2), (46, 2), (47, 2), (49, 2), (54, 3), (55, 3), (62, 2), (69, 20), (95, 10), (109, 2), (110, 2), (148, 10), (149, 10), (150, 100), (173, 24), (180, 20), (181, 65), (182, 32), (183, 64)]
def arrL : List (Nat × (Nat × Nat)) := [(26, 2, 1), (62, 2, 1), (69, 10, 2), (95, 10, 1), (148, 10, 1), (149, 10, 1), (150, 10, 10), (173, 24, 1), (180, 20, 1), (181, 65, 1), (182, 32, 1), (183, 64, 1)]
def areL : List (Nat × (Nat × Nat)) := [(26, 2, 3), (62, 2, 3), (95, 10, 9), (148, 10, 3), (149, 10, 3), (173, 24, 5), (180, 20, 53), (181, 65, 5), (182, 32, 5), (183, 64, 5)]
def flL : List (Nat × (List (Nat × Nat))) := [(7, [(0, 2), (1, 3), (2, 4), (3, 6)]), (8, [(0, 2), (1, 3), (2, 4), (3, 6)]), (13, [(0, 9), (1, 12)]), (14, [(0, 9), (1, 12)]), (46, [(0, 3), (1, 3)]), (47, [(0, 3), (1, 3)]), (49, [(0, 3), (1, 3)]), (54, [(0, 22), (1, 3), (2, 53)]), (55, [(0, 22), (1, 3), (2, 53)]), (109, [(0, 3), (1, 3)]), (110, [(0, 3), (1, 3)])]
def ztL : List (Nat × (List PV)) := [(2, [.int .i64 0]), (3, [.int .i64 0]), (4, [.bool false]), (5, [.int .u8 0]), (6, [.int .u8 0]), (7, [.int .i64 0, .int .i64 0, .bool false, .int .u8 0]), (8, [.int .i64 0, .int .i64 0, .bool false, .int .u8 0]), (9, [.str []]), (10, [.str []]), (11, [.str []]), (12, [.int .u64 0]), (13, [.str [], .int .u64 0]), (14, [.str [], .int .u64 0]), (21, [.int .i32 0]), (22, [.sl 0 []]), (26, [.int .i64 0, .int .i64 0]), (33, [.sl 0 []]), (46, [.int .i64 0, .int .i64 0]), (47, [.int .i64 0, .int .i64 0]), (49, [.int .i64 0, .int .i64 0]), (53, [.int .u64 0]), (54, [.sl 0 [], .int .i64 0, .int .u64 0]), (55, [.sl 0 [], .int .i64 0, .int .u64 0]), (62, [.int .i64 0, .int .i64 0]), (69, [.int .i64 0, .int .i64 0, .int .i64 0, .int .i64 0, .int .i64 0, .int .i64 0, .int .i64 0, .int .i64 0, .int .i64 0, .int .i64 0, .int .i64 0, .int .i64 0, .int .i64 0, .int .i64 0, .int .i64 0, .int .i64 0, .int .i64 0, .int .i64 0, .int .i64 0, .int .i64 0]), (76, [.sl 0 []]), (77, [.sl 0 []]), (81, [.sl 0 []]), (83, [.int .i64 0]), (86, [.sl 0 []]), (89, [.sl 0 []]), (95, [.str [], .str [], .str [], .str [], .str [], .str [], .str [], .str [], .str [], .str []]), (109, [.int .i64 0, .int .i64 0]), (110, [.int .i64 0, .int .i64 0]), (124, [.int .u64 0]), (139, [.int .u32 0]), (148, [.int .i64 0, .int .i64 0, .int .i64 0, .int .i64 0, .int .i64 0, .int .i64 0, .int .i64 0, .int .i64 0, .int .i64 0, .int .i64 0]), (149, [.int .i64 0, .int .i64 0, .int .i64 0, .int .i64 0, .int .i64 0, .int .i64 0, .int .i64 0, .int .i64 0, .int .i64 0, .int .i64 0]), (150, [.int .i64 0, .int .i64 0, .int .i64 0, .int .i64 0, .int .i64 0, .int .i64 0, .int .i64 0, .int .i64 0, .int .i64 0, .int .i64 0, .int .i64 0, .int .i64 0, .int .i64 0, .int .i64 0, .int .i64 0, .int .i64 0, .int .i64 0, .int .i64 0, .int .i64 0, .int .i64 0, .int .i64 0, .int .i64 0, .int .i64 0, .int .i64 0, .int .i64 0, .int .i64 0, .int .i64 0, .int .i64 0, .int .i64 0, .int .i64 0, .int .i64 0, .int .i64 0, .int .i64 0, .int .i64 0, .int .i64 0, .int .i64 0, .int .i64 0, .int .i64 0, .int .i64 0, .int .i64 0, .int .i64 0, .int .i64 0, .int .i64 0, .int .i64 0, .int .i64 0, .int .i64 0, .int .i64 0, .int .i64 0, .int .i64 0, .int .i64 0, .int .i64 0, .int .i64 0, .int .i64 0, .int .i64 0, .int .i64 0, .int .i64 0, .int .i64 0, .int .i64 0, .int .i64 0, .int .i64 0, .int .i64 0, .int .i64 0, .int .i64 0, .int .i64 0, .int .i64 0, .int .i64 0, .int .i64 0, .int .i64 0, .int .i64 0, .int .i64 0, .int .i64 0, .int .i64 0, .int .i64 0, .int .i64 0, .int .i64 0, .int .i64 0, .int .i64 0, .int .i64 0, .int .i64 0, .int .i64 0, .int .i64 0, .int .i64 0, .int .i64 0, .int .i64 0, .int .i64 0, .int .i64 0, .int .i64 0, .int .i64 0, .int .i64 0, .int .i64 0, .int .i64 0, .int .i64 0, .int .i64 0, .int .i64 0, .int .i64 0, .int .i64 0, .int .i64 0, .int .i64 0, .int .i64 0, .int .i64 0]), (159, [.int .i64 0]), (167, [.int .u64 0]), (173, [.int .u8 0, .int .u8 0, .int .u8 0, .int .u8 0, .int .u8 0, .int .u8 0, .int .u8 0, .int .u8 0, .int .u8 0, .int .u8 0, .int .u8 0, .int .u8 0, .int .u8 0, .int .u8 0, .int .u8 0, .int .u8 0, .int .u8 0, .int .u8 0, .int .u8 0, .int .u8 0, .int .u8 0, .int .u8 0, .int .u8 0, .int .u8 0]), (180, [.int .u64 0, .int .u64 0, .int .u64 0, .int .u64 0, .int .u64 0, .int .u64 0, .int .u64 0, .int .u64 0, .int .u64 0, .int .u64 0, .int .u64 0, .int .u64 0, .int .u64 0, .int .u64 0, .int .u64 0, .int .u64 0, .int .u64 0, .int .u64 0, .int .u64 0, .int .u64 0]), (181, [.int .u8 0, .int .u8 0, .int .u8 0, .int .u8 0, .int .u8 0, .int .u8 0, .int .u8 0, .int .u8 0, .int .u8 0, .int .u8 0, .int .u8 0, .int .u8 0, .int .u8 0, .int .u8 0, .int .u8 0, .int .u8 0, .int .u8 0, .int .u8 0, .int .u8 0, .int .u8 0, .int .u8 0, .int .u8 0, .int .u8 0, .int .u8 0, .int .u8 0, .int .u8 0, .int .u8 0, .int .u8 0, .int .u8 0, .int .u8 0, .int .u8 0, .int .u8 0, .int .u8 0, .int .u8 0, .int .u8 0, .int .u8 0, .int .u8 0, .int .u8 0, .int .u8 0, .int .u8 0, .int .u8 0, .int .u8 0, .int .u8 0, .int .u8 0, .int .u8 0, .int .u8 0, .int .u8 0, .int .u8 0, .int .u8 0, .int .u8 0, .int .u8 0, .int .u8 0, .int .u8 0, .int .u8 0, .int .u8 0, .int .u8 0, .int .u8 0, .int .u8 0, .int .u8 0, .int .u8 0, .int .u8 0, .int .u8 0, .int .u8 0, .int .u8 0, .int .u8 0]), (182, [.int .u8 0, .int .u8 0, .int .u8 0, .int .u8 0, .int .u8 0, .int .u8 0, .int .u8 0, .int .u8 0, .int .u8 0, .int .u8 0, .int .u8 0, .int .u8 0, .int .u8 0, .int .u8 0, .int .u8 0, .int .u8 0, .int .u8 0, .int .u8 0, .int .u8 0, .int .u8 0, .int .u8 0, .int .u8 0, .int .u8 0, .int .u8 0, .int .u8 0, .int .u8 0, .int .u8 0, .int .u8 0, .int .u8 0, .int .u8 0, .int .u8 0, .int .u8 0]), (183, [.int .u8 0, .int .u8 0, .int .u8 0, .int .u8 0, .int .u8 0, .int .u8 0, .int .u8 0, .int .u8 0, .int .u8 0, .int .u8 0, .int .u8 0, .int .u8 0, .int .u8 0, .int .u8 0, .int .u8 0, .int .u8 0, .int .u8 0, .int .u8 0, .int .u8 0, .int .u8 0, .int .u8 0, .int .u8 0, .int .u8 0, .int .u8 0, .int .u8 0, .int .u8 0, .int .u8 0, .int .u8 0, .int .u8 0, .int .u8 0, .int .u8 0, .int .u8 0, .int .u8 0, .int .u8 0, .int .u8 0, .int .u8 0, .int .u8 0, .int .u8 0, .int .u8 0, .int .u8 0, .int .u8 0, .int .u8 0, .int .u8 0, .int .u8 0, .int .u8 0, .int .u8 0, .int .u8 0, .int .u8 0, .int .u8 0, .int .u8 0, .int .u8 0, .int .u8 0, .int .u8 0, .int .u8 0, .int .u8 0, .int .u8 0, .int .u8 0, .int .u8 0, .int .u8 0, .int .u8 0, .int .u8 0, .int .u8 0, .int .u8 0, .int .u8 0]), (190, [.int .u8 0]), (191, [.int .u8 0]), (194, [.int .i32 0]), (195, [.int .i32 0])]
def btL : List (Nat × ((Nat → Option (Nat × Nat)) × List PV)) := [(7, pl_7, [.int .i64 0, .int .i64 0, .bool false, .int .u8 0]), (8, pl_8, [.int .i64 0, .int .i64 0, .bool false, .int .u8 0]), (13, pl_13, [.str [], .int .u64 0]), (14, pl_14, [.str [], .int .u64 0]), (26, pl_26, [.int .i64 0, .int .i64 0]), (46, pl_46, [.int .i64 0, .int .i64 0]), (47, pl_47, [.int .i64 0, .int .i64 0]), (49, pl_49, [.int .i64 0, .int .i64 0]), (54, pl_54, [.sl 0 [], .int .i64 0, .int .u64 0]), (55, pl_55, [.sl 0 [], .int .i64 0, .int .u64 0]), (62, pl_62, [.int .i64 0, .int .i64 0]), (69, pl_69, [.int .i64 0, .int .i64 0, .int .i64 0, .int .i64 0, .int .i64 0, .int .i64 0, .int .i64 0, .int .i64 0, .int .i64 0, .int .i64 0, .int .i64 0, .int .i64 0, .int .i64 0, .int .i64 0, .int .i64 0, .int .i64 0, .int .i64 0, .int .i64 0, .int .i64 0, .int .i64 0]), (95, pl_95, [.str [], .str [], .str [], .str [], .str [], .str [], .str [], .str [], .str [], .str []]), (109, pl_109, [.int .i64 0, .int .i64 0]), (110, pl_110, [.int .i64 0, .int .i64 0]), (148, pl_148, [.int .i64 0, .int .i64 0, .int .i64 0, .int .i64 0, .int .i64 0, .int .i64 0, .int .i64 0, .int .i64 0, .int .i64 0, .int .i64 0]), (149, pl_149, [.int .i64 0, .int .i64 0, .int .i64 0, .int .i64 0, .int .i64 0, .int .i64 0, .int .i64 0, .int .i64 0, .int .i64 0, .int .i64 0]), (150, pl_150, [.int .i64 0, .int .i64 0, .int .i64 0, .int .i64 0, .int .i64 0, .int .i64 0, .int .i64 0, .int .i64 0, .int .i64 0, .int .i64 0, .int .i64 0, .int .i64 0, .int .i64 0, .int .i64 0, .int .i64 0, .int .i64 0, .int .i64 0, .int .i64 0, .int .i64 0, .int .i64 0, .int .i64 0, .int .i64 0, .int .i64 0, .int .i64 0, .int .i64 0, .int .i64 0, .int .i64 0, .int .i64 0, .int .i64 0, .int .i64 0, .int .i64 0, .int .i64 0, .int .i64 0, .int .i64 0, .int .i64 0, .int .i64 0, .int .i64 0, .int .i64 0, .int .i64 0, .int .i64 0, .int .i64 0, .int .i64 0, .int .i64 0, .int .i64 0, .int .i64 0, .int .i64 0, .int .i64 0, .int .i64 0, .int .i64 0, .int .i64 0, .int .i64 0, .int .i64 0, .int .i64 0, .int .i64 0, .int .i64 0, .int .i64 0, .int .i64 0, .int .i64 0, .int .i64 0, .int .i64 0, .int .i64 0, .int .i64 0, .int .i64 0, .int .i64 0, .int .i64 0, .int .i64 0, .int .i64 0, .int .i64 0, .int .i64 0, .int .i64 0, .int .i64 0, .int .i64 0, .int .i64 0, .int .i64 0, .int .i64 0, .int .i64 0, .int .i64 0, .int .i64 0, .int .i64 0, .int .i64 0, .int .i64 0, .int .i64 0, .int .i64 0, .int .i64 0, .int .i64 0, .int .i64 0, .int .i64 0, .int .i64 0, .int .i64 0, .int .i64 0, .int .i64 0, .int .i64 0, .int .i64 0, .int .i64 0, .int .i64 0, .int .i64 0, .int .i64 0, .int .i64 0, .int .i64 0, .int .i64 0]), (173, pl_173, [.int .u8 0, .int .u8 0, .int .u8 0, .int .u8 0, .int .u8 0, .int .u8 0, .int .u8 0, .int .u8 0, .int .u8 0, .int .u8 0, .int .u8 0, .int .u8 0, .int .u8 0, .int .u8 0, .int .u8 0, .int .u8 0, .int .u8 0, .int .u8 0, .int .u8 0, .int .u8 0, .int .u8 0, .int .u8 0, .int .u8 0, .int .u8 0]), (180, pl_180, [.int .u64 0, .int .u64 0, .int .u64 0, .int .u64 0, .int .u64 0, .int .u64 0, .int .u64 0, .int .u64 0, .int .u64 0, .int .u64 0, .int .u64 0, .int .u64 0, .int .u64 0, .int .u64 0, .int .u64 0, .int .u64 0, .int .u64 0, .int .u64 0, .int .u64 0, .int .u64 0]), (181, pl_181, [.int .u8 0, .int .u8 0, .int .u8 0, .int .u8 0, .int .u8 0, .int .u8 0, .int .u8 0, .int .u8 0, .int .u8 0, .int .u8 0, .int .u8 0, .int .u8 0, .int .u8 0, .int .u8 0, .int .u8 0, .int .u8 0, .int .u8 0, .int .u8 0, .int .u8 0, .int .u8 0, .int .u8 0, .int .u8 0, .int .u8 0, .int .u8 0, .int .u8 0, .int .u8 0, .int .u8 0, .int .u8 0, .int .u8 0, .int .u8 0, .int .u8 0, .int .u8 0, .int .u8 0, .int .u8 0, .int .u8 0, .int .u8 0, .int .u8 0, .int .u8 0, .int .u8 0, .int .u8 0, .int .u8 0, .int .u8 0, .int .u8 0, .int .u8 0, .int .u8 0, .int .u8 0, .int .u8 0, .int .u8 0, .int .u8 0, .int .u8 0, .int .u8 0, .int .u8 0, .int .u8 0, .int .u8 0, .int .u8 0, .int .u8 0, .int .u8 0, .int .u8 0, .int .u8 0, .int .u8 0, .int .u8 0, .int .u8 0, .int .u8 0, .int .u8 0, .int .u8 0]), (182, pl_182, [.int .u8 0, .int .u8 0, .int .u8 0, .int .u8 0, .int .u8 0, .int .u8 0, .int .u8 0, .int .u8 0, .int .u8 0, .int .u8 0, .int .u8 0, .int .u8 0, .int .u8 0, .int .u8 0, .int .u8 0, .int .u8 0, .int .u8 0, .int .u8 0, .int .u8 0, .int .u8 0, .int .u8 0, .int .u8 0, .int .u8 0, .int .u8 0, .int .u8 0, .int .u8 0, .int .u8 0, .int .u8 0, .int .u8 0, .int .u8 0, .int .u8 0, .int .u8 0]), (183, pl_183, [.int .u8 0, .int .u8 0, .int .u8 0, .int .u8 0, .int .u8 0, .int .u8 0, .int .u8 0, .int .u8 0, .int .u8 0, .int .u8 0, .int .u8 0, .int .u8 0, .int .u8 0, .int .u8 0, .int .u8 0, .int .u8 0, .int .u8 0, .int .u8 0, .int .u8 0, .int .u8 0, .int .u8 0, .int .u8 0, .int .u8 0, .int .u8 0, .int .u8 0, .int .u8 0, .int .u8 0, .int .u8 0, .int .u8 0, .int .u8 0, .int .u8 0, .int .u8 0, .int .u8 0, .int .u8 0, .int .u8 0, .int .u8 0, .int .u8 0, .int .u8 0, .int .u8 0, .int .u8 0, .int .u8 0, .int .u8 0, .int .u8 0, .int .u8 0, .int .u8 0, .int .u8 0, .int .u8 0, .int .u8 0, .int .u8 0, .int .u8 0, .int .u8 0, .int .u8 0, .int .u8 0, .int .u8 0, .int .u8 0, .int .u8 0, .int .u8 0, .int .u8 0, .int .u8 0, .int .u8 0, .int .u8 0, .int .u8 0, .int .u8 0, .int .u8 0])]
def mpL : List (Nat × (Nat × Nat)) := [(115, 3, 81)]
def zvL : List (Nat × (PV)) := [(2, .int .i64 0), (3, .int .i64 0), (4, .bool false), (5, .int .u8 0), (6, .int .u8 0), (7, .agg [.int .i64 0, .int .i64 0, .bool false, .int .u8 0]), (8, .agg [.int .i64 0, .int .i64 0, .bool false, .int .u8 0]), (9, .str []), (10, .str []), (11, .str []), (12, .int .u64 0), (13, .agg [.str [], .int .u64 0]), (14, .agg [.str [], .int .u64 0]), (21, .int .i32 0), (22, .sl 0 []), (26, .agg [.int .i64 0, .int .i64 0]), (33, .sl 0 []), (46, .agg [.int .i64 0, .int .i64 0]), (47, .agg [.int .i64 0, .int .i64 0]), (49, .agg [.int .i64 0, .int .i64 0]), (53, .int .u64 0), (54, .agg [.sl 0 [], .int .i64 0, .int .u64 0]), (55, .agg [.sl 0 [], .int .i64 0, .int .u64 0]), (62, .agg [.int .i64 0, .int .i64 0]), (69, .agg [.int .i64 0, .int .i64 0, .int .i64 0, .int .i64 0, .int .i64 0, .int .i64 0, .int .i64 0, .int .i64 0, .int .i64 0, .int .i64 0, .int .i64 0, .int .i64 0, .int .i64 0, .int .i64 0, .int .i64 0, .int .i64 0, .int .i64 0, .int .i64 0, .int .i64 0, .int .i64 0]), (76, .sl 0 []), (77, .sl 0 []), (81, .sl 0 []), (83, .int .i64 0), (86, .sl 0 []), (89, .sl 0 []), (95, .agg [.str [], .str [], .str [], .str [], .str [], .str [], .str [], .str [], .str [], .str []]), (109, .agg [.int .i64 0, .int .i64 0]), (110, .agg [.int .i64 0, .int .i64 0]), (124, .int .u64 0), (139, .int .u32 0), (148, .agg [.int .i64 0, .int .i64 0, .int .i64 0, .int .i64 0, .int .i64 0, .int .i64 0, .int .i64 0, .int .i64 0, .int .i64 0, .int .i64 0]), (149, .agg [.int .i64 0, .int .i64 0, .int .i64 0, .int .i64 0, .int .i64 0, .int .i64 0, .int .i64 0, .int .i64 0, .int .i64 0, .int .i64 0]), (150, .agg [.int .i64 0, .int .i64 0, .int .i64 0, .int .i64 0, .int .i64 0, .int .i64 0, .int .i64 0, .int .i64 0, .int .i64 0, .int .i64 0, .int .i64 0, .int .i64 0, .int .i64 0, .int .i64 0, .int .i64 0, .int .i64 0, .int .i64 0, .int .i64 0, .int .i64 0, .int .i64 0, .int .i64 0, .int .i64 0, .int .i64 0, .int .i64 0, .int .i64 0, .int .i64 0, .int .i64 0, .int .i64 0, .int .i64 0, .int .i64 0, .int .i64 0, .int .i64 0, .int .i64 0, .int .i64 0, .int .i64 0, .int .i64 0, .int .i64 0, .int .i64 0, .int .i64 0, .int .i64 0, .int .i64 0, .int .i64 0, .int .i64 0, .int .i64 0, .int .i64 0, .int .i64 0, .int .i64 0, .int .i64 0, .int .i64 0, .int .i64 0, .int .i64 0, .int .i64 0, .int .i64 0, .int .i64 0, .int .i64 0, .int .i64 0, .int .i64 0, .int .i64 0, .int .i64 0, .int .i64 0, .int .i64 0, .int .i64 0, .int .i64 0, .int .i64 0, .int .i64 0, .int .i64 0, .int .i64 0, .int .i64 0, .int .i64 0, .int .i64 0, .int .i64 0, .int .i64 0, .int .i64 0, .int .i64 0, .int .i64 0, .int .i64 0, .int .i64 0, .int .i64 0, .int .i64 0, .int .i64 0, .int .i64 0, .int .i64 0, .int .i64 0, .int .i64 0, .int .i64 0, .int .i64 0, .int .i64 0, .int .i64 0, .int .i64 0, .int .i64 0, .int .i64 0, .int .i64 0, .int .i64 0, .int .i64 0, .int .i64 0, .int .i64 0, .int .i64 0, .int .i64 0, .int .i64 0, .int .i64 0]), (159, .int .i64 0), (167, .int .u64 0), (173, .agg [.int .u8 0, .int .u8 0, .int .u8 0, .int .u8 0, .int .u8 0, .int .u8 0, .int .u8 0, .int .u8 0, .int .u8 0, .int .u8 0, .int .u8 0, .int .u8 0, .int .u8 0, .int .u8 0, .int .u8 0, .int .u8 0, .int .u8 0, .int .u8 0, .int .u8 0, .int .u8 0, .int .u8 0, .int .u8 0, .int .u8 0, .int .u8 0]), (180, .agg [.int .u64 0, .int .u64 0, .int .u64 0, .int .u64 0, .int .u64 0, .int .u64 0, .int .u64 0, .int .u64 0, .int .u64 0, .int .u64 0, .int .u64 0, .int .u64 0, .int .u64 0, .int .u64 0, .int .u64 0, .int .u64 0, .int .u64 0, .int .u64 0, .int .u64 0, .int .u64 0]), (181, .agg [.int .u8 0, .int .u8 0, .int .u8 0, .int .u8 0, .int .u8 0, .int .u8 0, .int .u8 0, .int .u8 0, .int .u8 0, .int .u8 0, .int .u8 0, .int .u8 0, .int .u8 0, .int .u8 0, .int .u8 0, .int .u8 0, .int .u8 0, .int .u8 0, .int .u8 0, .int .u8 0, .int .u8 0, .int .u8 0, .int .u8 0, .int .u8 0, .int .u8 0, .int .u8 0, .int .u8 0, .int .u8 0, .int .u8 0, .int .u8 0, .int .u8 0, .int .u8 0, .int .u8 0, .int .u8 0, .int .u8 0, .int .u8 0, .int .u8 0, .int .u8 0, .int .u8 0, .int .u8 0, .int .u8 0, .int .u8 0, .int .u8 0, .int .u8 0, .int .u8 0, .int .u8 0, .int .u8 0, .int .u8 0, .int .u8 0, .int .u8 0, .int .u8 0, .int .u8 0, .int .u8 0, .int .u8 0, .int .u8 0, .int .u8 0, .int .u8 0, .int .u8 0, .int .u8 0, .int .u8 0, .int .u8 0, .int .u8 0, .int .u8 0, .int .u8 0, .int .u8 0]), (182, .agg [.int .u8 0, .int .u8 0, .int .u8 0, .int .u8 0, .int .u8 0, .int .u8 0, .int .u8 0, .int .u8 0, .int .u8 0, .int .u8 0, .int .u8 0, .int .u8 0, .int .u8 0, .int .u8 0, .int .u8 0, .int .u8 0, .int .u8 0, .int .u8 0, .int .u8 0, .int .u8 0, .int .u8 0, .int .u8 0, .int .u8 0, .int .u8 0, .int .u8 0, .int .u8 0, .int .u8 0, .int .u8 0, .int .u8 0, .int .u8 0, .int .u8 0, .int .u8 0]), (183, .agg [.int .u8 0, .int .u8 0, .int .u8 0, .int .u8 0, .int .u8 0, .int .u8 0, .int .u8 0, .int .u8 0, .int .u8 0, .int .u8 0, .int .u8 0, .int .u8 0, .int .u8 0, .int .u8 0, .int .u8 0, .int .u8 0, .int .u8 0, .int .u8 0, .int .u8 0, .int .u8 0, .int .u8 0, .int .u8 0, .int .u8 0, .int .u8 0, .int .u8 0, .int .u8 0, .int .u8 0, .int .u8 0, .int .u8 0, .int .u8 0, .int .u8 0, .int .u8 0, .int .u8 0, .int .u8 0, .int .u8 0, .int .u8 0, .int .u8 0, .int .u8 0, .int .u8 0, .int .u8 0, .int .u8 0, .int .u8 0, .int .u8 0, .int .u8 0, .int .u8 0, .int .u8 0, .int .u8 0, .int .u8 0, .int .u8 0, .int .u8 0, .int .u8 0, .int .u8 0, .int .u8 0, .int .u8 0, .int .u8 0, .int .u8 0, .int .u8 0, .int .u8 0, .int .u8 0, .int .u8 0, .int .u8 0, .int .u8 0, .int .u8 0, .int .u8 0]), (190, .int .u8 0), (191, .int .u8 0), (194, .int .i32 0), (195, .int .i32 0)]
def tf : TF Tryd.prog where
  kd := kdL
  sl := slL
  one := oneL
  agg := aggL
  arr := arrL
  are := areL
  fl := flL
  zt := ztL
  bt := btL
  mp := mpL
  zv := zvL
  mix := by kernel_rfl
  kd_ok := ⟨Tryd.underlying2, Tryd.underlying3, Tryd.underlying4, Tryd.underlying5, Tryd.underlying6, Tryd.underlying9, Tryd.underlying10, Tryd.underlying11, Tryd.underlying12, Tryd.underlying21, Tryd.underlying53, Tryd.underlying83, Tryd.underlying124, Tryd.underlying139, Tryd.underlying159, Tryd.underlying167, Tryd.underlying190, Tryd.underlying191, Tryd.underlying194, Tryd.underlying195, trivial⟩
  sl_ok := ⟨sl_22, sl_33, sl_76, sl_77, sl_81, sl_86, sl_89, trivial⟩
  one_ok := ⟨one_2, one_3, one_4, one_5, one_6, one_9, one_10, one_11, one_12, one_21, one_22, one_33, one_53, one_76, one_77, one_81, one_83, one_86, one_89, one_124, one_139, one_159, one_167, one_190, one_191, one_194, one_195, trivial⟩
  agg_ok := ⟨agg_7, agg_8, agg_13, agg_14, agg_26, agg_46, agg_47, agg_49, agg_54, agg_55, agg_62, agg_69, agg_95, agg_109, agg_110, agg_148, agg_149, agg_150, agg_173, agg_180, agg_181, agg_182, agg_183, trivial⟩
  arr_ok := ⟨arr_26, arr_62, arr_69, arr_95, arr_148, arr_149, arr_150, arr_173, arr_180, arr_181, arr_182, arr_183, trivial⟩
  are_ok := ⟨Tryd.underlying26, Tryd.underlying62, Tryd.underlying95, Tryd.underlying148, Tryd.underlying149, Tryd.underlying173, Tryd.underlying180, Tryd.underlying181, Tryd.underlying182, Tryd.underlying183, trivial⟩
  fl_ok := ⟨flp_7, flp_8, flp_13, flp_14, flp_46, flp_47, flp_49, flp_54, flp_55, flp_109, flp_110, trivial⟩
  zt_ok := ⟨zt_2, zt_3, zt_4, zt_5, zt_6, zt_7, zt_8, zt_9, zt_10, zt_11, zt_12, zt_13, zt_14, zt_21, zt_22, zt_26, zt_33, zt_46, zt_47, zt_49, zt_53, zt_54, zt_55, zt_62, zt_69, zt_76, zt_77, zt_81, zt_83, zt_86, zt_89, zt_95, zt_109, zt_110, zt_124, zt_139, zt_148, zt_149, zt_150, zt_159, zt_167, zt_173, zt_180, zt_181, zt_182, zt_183, zt_190, zt_191, zt_194, zt_195, trivial⟩
  bt_ok := ⟨bt_7, bt_8, bt_13, bt_14, bt_26, bt_46, bt_47, bt_49, bt_54, bt_55, bt_62, bt_69, bt_95, bt_109, bt_110, bt_148, bt_149, bt_150, bt_173, bt_180, bt_181, bt_182, bt_183, trivial⟩
  mp_ok := ⟨Tryd.underlying115, trivial⟩
  zv_ok := ⟨zv_2, zv_3, zv_4, zv_5, zv_6, zv_7, zv_8, zv_9, zv_10, zv_11, zv_12, zv_13, zv_14, zv_21, zv_22, zv_26, zv_33, zv_46, zv_47, zv_49, zv_53, zv_54, zv_55, zv_62, zv_69, zv_76, zv_77, zv_81, zv_83, zv_86, zv_89, zv_95, zv_109, zv_110, zv_124, zv_139, zv_148, zv_149, zv_150, zv_159, zv_167, zv_173, zv_180, zv_181, zv_182, zv_183, zv_190, zv_191, zv_194, zv_195, trivial⟩

end Go.Proofs.YtbddhdbieelpjaaDoor.Tf
