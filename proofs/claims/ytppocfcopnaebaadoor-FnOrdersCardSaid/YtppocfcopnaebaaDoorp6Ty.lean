/- Facts on the types of this translation, each closed by the kernel. No conditions. -/
import Derived.Test.YtppocfcopnaebaaDoorRows
import Derived.Test.YtppocfcopnaebaaDoorPwR
namespace Go.Proofs.YtppocfcopnaebaaDoor.p6Ty
open Go.RowKit
def az (u : TypeId) : Nat := match u with  | _ => 0
theorem fi_44_1 : FiTy Tryd.prog 44 1 1 := fiTy_of (k := 1) Tryd.underlying44 rfl rfl (by kernel_rfl) (by decide)
theorem one_3 : OneTy Tryd.prog 3 := oneTy_of Tryd.underlying3 rfl (by kernel_rfl)
theorem fi_44_0 : FiTy Tryd.prog 44 0 0 := fiTy_of (k := 1) Tryd.underlying44 rfl rfl (by kernel_rfl) (by decide)
theorem one_22 : OneTy Tryd.prog 22 := oneTy_of Tryd.underlying22 rfl (by kernel_rfl)
theorem sl_22 : SlTy Tryd.prog 22 5 1 1 [.int .u8 0] := slTy_of Tryd.underlying22 (z := .int .u8 0) (by kernel_rfl) rfl (by decide) (by decide) rfl
theorem one_5 : OneTy Tryd.prog 5 := oneTy_of Tryd.underlying5 rfl (by kernel_rfl)
theorem fi_44_2 : FiTy Tryd.prog 44 2 2 := fiTy_of (k := 1) Tryd.underlying44 rfl rfl (by kernel_rfl) (by decide)
theorem one_42 : OneTy Tryd.prog 42 := oneTy_of Tryd.underlying42 rfl (by kernel_rfl)
theorem sl_24 : SlTy Tryd.prog 24 3 1 8 [.int .i64 0] := slTy_of Tryd.underlying24 (z := .int .i64 0) (by kernel_rfl) rfl (by decide) (by decide) rfl
theorem bt_44 : BuildTy Tryd.prog 44 (fun i => match i with | 0 => some (0, 1) | 1 => some (1, 1) | 2 => some (2, 1) | _ => none) [.sl 0 [], .int .i64 0, .int .u64 0] := ⟨.agg #[.slice none 0 0, .int .i64 0, .int .u64 0], rfl, fun parts => by
  have h : Tryd.prog.built 44 parts = Instr.fill (#[(0, 1), (1, 1), (2, 1)][·]?) ((.agg #[.slice none 0 0, .int .i64 0, .int .u64 0] : Value)).cells parts := by kernel_rfl
  have hp : (fun i => (#[(0, 1), (1, 1), (2, 1)] : Array (Nat × Nat))[i]?) = (fun i => match i with | 0 => some (0, 1) | 1 => some (1, 1) | 2 => some (2, 1) | _ => none) := by
    funext i
    rcases i with _ | _ | _ | _ <;> rfl
  rw [h, hp]⟩
end Go.Proofs.YtppocfcopnaebaaDoor.p6Ty
