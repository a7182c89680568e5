/- Facts on the types of this translation, each closed by the kernel. No conditions. -/
import Derived.Test.YtfagllolcalfiaaDoorRows
import Derived.Test.YtfagllolcalfiaaDoorPwR
namespace Go.Proofs.YtfagllolcalfiaaDoor.w3Ty
open Go.RowKit
def az (u : TypeId) : Nat := match u with | 67 => 5 | _ => 0
theorem sl_24 : SlTy Tryd.prog 24 3 1 8 [.int .i64 0] := slTy_of Tryd.underlying24 (z := .int .i64 0) (by kernel_rfl) rfl (by decide) (by decide) rfl
theorem one_3 : OneTy Tryd.prog 3 := oneTy_of Tryd.underlying3 rfl (by kernel_rfl)
theorem sl_61 : SlTy Tryd.prog 61 67 5 40 [.int .i64 0, .bool false, .int .i64 0, .int .i64 0, .int .i64 0] := slTy_of Tryd.underlying61 (z := .agg #[.int .i64 0, .bool false, .int .i64 0, .int .i64 0, .int .i64 0]) (by kernel_rfl) rfl (by decide) (by decide) rfl
theorem bt_67 : BuildTy Tryd.prog 67 (fun i => match i with | 0 => some (0, 1) | 1 => some (1, 1) | 2 => some (2, 1) | 3 => some (3, 1) | 4 => some (4, 1) | _ => none) [.int .i64 0, .bool false, .int .i64 0, .int .i64 0, .int .i64 0] := ⟨.agg #[.int .i64 0, .bool false, .int .i64 0, .int .i64 0, .int .i64 0], rfl, fun parts => by
  have h : Tryd.prog.built 67 parts = Instr.fill (#[(0, 1), (1, 1), (2, 1), (3, 1), (4, 1)][·]?) ((.agg #[.int .i64 0, .bool false, .int .i64 0, .int .i64 0, .int .i64 0] : Value)).cells parts := by kernel_rfl
  have hp : (fun i => (#[(0, 1), (1, 1), (2, 1), (3, 1), (4, 1)] : Array (Nat × Nat))[i]?) = (fun i => match i with | 0 => some (0, 1) | 1 => some (1, 1) | 2 => some (2, 1) | 3 => some (3, 1) | 4 => some (4, 1) | _ => none) := by
    funext i
    rcases i with _ | _ | _ | _ | _ | _ <;> rfl
  rw [h, hp]⟩
theorem zt_67 : ZeroTy Tryd.prog 67 [.int .i64 0, .bool false, .int .i64 0, .int .i64 0, .int .i64 0] := zeroTy_of (z := .agg #[.int .i64 0, .bool false, .int .i64 0, .int .i64 0, .int .i64 0]) (by kernel_rfl) rfl
theorem agg_67 : AggTy Tryd.prog 67 5 := aggTy_of Tryd.underlying67 rfl (by kernel_rfl)
theorem fi_67_0 : FiTy Tryd.prog 67 0 0 := fiTy_of (k := 1) Tryd.underlying67 rfl rfl (by kernel_rfl) (by decide)
theorem fi_67_1 : FiTy Tryd.prog 67 1 1 := fiTy_of (k := 1) Tryd.underlying67 rfl rfl (by kernel_rfl) (by decide)
theorem one_4 : OneTy Tryd.prog 4 := oneTy_of Tryd.underlying4 rfl (by kernel_rfl)
theorem fi_67_2 : FiTy Tryd.prog 67 2 2 := fiTy_of (k := 1) Tryd.underlying67 rfl rfl (by kernel_rfl) (by decide)
theorem fi_67_3 : FiTy Tryd.prog 67 3 3 := fiTy_of (k := 1) Tryd.underlying67 rfl rfl (by kernel_rfl) (by decide)
theorem fi_67_4 : FiTy Tryd.prog 67 4 4 := fiTy_of (k := 1) Tryd.underlying67 rfl rfl (by kernel_rfl) (by decide)
theorem sl_29 : SlTy Tryd.prog 29 42 2 16 [.int .i64 0, .int .i64 0] := slTy_of Tryd.underlying29 (z := .agg #[.int .i64 0, .int .i64 0]) (by kernel_rfl) rfl (by decide) (by decide) rfl
theorem bt_42 : BuildTy Tryd.prog 42 (fun i => some (i * 1, 1)) [.int .i64 0, .int .i64 0] := ⟨.agg #[.int .i64 0, .int .i64 0], rfl, fun parts => by kernel_rfl⟩
end Go.Proofs.YtfagllolcalfiaaDoor.w3Ty
