/- Facts on the types of this translation, each closed by the kernel. No conditions. -/
import Derived.Test.YtgpgjaebhfhjoabGreatDoorRows
import Derived.Test.YtgpgjaebhfhjoabGreatDoorPwR
namespace Go.Proofs.YtgpgjaebhfhjoabGreatDoor.b5Ty
open Go.RowKit
def az (u : TypeId) : Nat := match u with  | _ => 0
theorem fi_44_1 : FiTy Tryz.prog 44 1 1 := fiTy_of (k := 1) Tryz.underlying44 rfl rfl (by kernel_rfl) (by decide)
theorem one_3 : OneTy Tryz.prog 3 := oneTy_of Tryz.underlying3 rfl (by kernel_rfl)
theorem fi_44_0 : FiTy Tryz.prog 44 0 0 := fiTy_of (k := 1) Tryz.underlying44 rfl rfl (by kernel_rfl) (by decide)
theorem one_22 : OneTy Tryz.prog 22 := oneTy_of Tryz.underlying22 rfl (by kernel_rfl)
theorem sl_22 : SlTy Tryz.prog 22 5 1 1 [.int .u8 0] := slTy_of Tryz.underlying22 (z := .int .u8 0) (by kernel_rfl) rfl (by decide) (by decide) rfl
theorem one_5 : OneTy Tryz.prog 5 := oneTy_of Tryz.underlying5 rfl (by kernel_rfl)
theorem fi_44_2 : FiTy Tryz.prog 44 2 2 := fiTy_of (k := 1) Tryz.underlying44 rfl rfl (by kernel_rfl) (by decide)
theorem one_42 : OneTy Tryz.prog 42 := oneTy_of Tryz.underlying42 rfl (by kernel_rfl)
theorem sl_25 : SlTy Tryz.prog 25 3 1 8 [.int .i64 0] := slTy_of Tryz.underlying25 (z := .int .i64 0) (by kernel_rfl) rfl (by decide) (by decide) rfl
theorem sl_70 : SlTy Tryz.prog 70 9 1 16 [.str []] := slTy_of Tryz.underlying70 (z := .string ByteArray.empty) (by kernel_rfl) rfl (by decide) (by decide) rfl
theorem one_9 : OneTy Tryz.prog 9 := oneTy_of Tryz.underlying9 rfl (by kernel_rfl)
theorem bt_44 : BuildTy Tryz.prog 44 (fun i => match i with | 0 => some (0, 1) | 1 => some (1, 1) | 2 => some (2, 1) | _ => none) [.sl 0 [], .int .i64 0, .int .u64 0] := ⟨.agg #[.slice none 0 0, .int .i64 0, .int .u64 0], rfl, fun parts => by
  have h : Tryz.prog.built 44 parts = Instr.fill (#[(0, 1), (1, 1), (2, 1)][·]?) ((.agg #[.slice none 0 0, .int .i64 0, .int .u64 0] : Value)).cells parts := by kernel_rfl
  have hp : (fun i => (#[(0, 1), (1, 1), (2, 1)] : Array (Nat × Nat))[i]?) = (fun i => match i with | 0 => some (0, 1) | 1 => some (1, 1) | 2 => some (2, 1) | _ => none) := by
    funext i
    rcases i with _ | _ | _ | _ <;> rfl
  rw [h, hp]⟩
end Go.Proofs.YtgpgjaebhfhjoabGreatDoor.b5Ty
