/- Facts on the types of this translation, each closed by the kernel. No conditions. -/
import Derived.Test.YtfagllolcalfiabDoorRows
import Derived.Test.YtfagllolcalfiabDoorPwR
namespace Go.Proofs.YtfagllolcalfiabDoor.y3Ty
open Go.RowKit
def az (u : TypeId) : Nat := match u with | 54 => 5 | _ => 0
theorem sl_22 : SlTy Tryd.prog 22 3 1 8 [.int .i64 0] := slTy_of Tryd.underlying22 (z := .int .i64 0) (by kernel_rfl) rfl (by decide) (by decide) rfl
theorem one_3 : OneTy Tryd.prog 3 := oneTy_of Tryd.underlying3 rfl (by kernel_rfl)
theorem sl_35 : SlTy Tryd.prog 35 54 5 40 [.int .i64 0, .bool false, .int .i64 0, .int .i64 0, .int .i64 0] := slTy_of Tryd.underlying35 (z := .agg #[.int .i64 0, .bool false, .int .i64 0, .int .i64 0, .int .i64 0]) (by kernel_rfl) rfl (by decide) (by decide) rfl
theorem bt_54 : BuildTy Tryd.prog 54 (fun i => match i with | 0 => some (0, 1) | 1 => some (1, 1) | 2 => some (2, 1) | 3 => some (3, 1) | 4 => some (4, 1) | _ => none) [.int .i64 0, .bool false, .int .i64 0, .int .i64 0, .int .i64 0] := ⟨.agg #[.int .i64 0, .bool false, .int .i64 0, .int .i64 0, .int .i64 0], rfl, fun parts => by
  have h : Tryd.prog.built 54 parts = Instr.fill (#[(0, 1), (1, 1), (2, 1), (3, 1), (4, 1)][·]?) ((.agg #[.int .i64 0, .bool false, .int .i64 0, .int .i64 0, .int .i64 0] : Value)).cells parts := by kernel_rfl
  have hp : (fun i => (#[(0, 1), (1, 1), (2, 1), (3, 1), (4, 1)] : Array (Nat × Nat))[i]?) = (fun i => match i with | 0 => some (0, 1) | 1 => some (1, 1) | 2 => some (2, 1) | 3 => some (3, 1) | 4 => some (4, 1) | _ => none) := by
    funext i
    rcases i with _ | _ | _ | _ | _ | _ <;> rfl
  rw [h, hp]⟩
theorem zt_54 : ZeroTy Tryd.prog 54 [.int .i64 0, .bool false, .int .i64 0, .int .i64 0, .int .i64 0] := zeroTy_of (z := .agg #[.int .i64 0, .bool false, .int .i64 0, .int .i64 0, .int .i64 0]) (by kernel_rfl) rfl
theorem agg_54 : AggTy Tryd.prog 54 5 := aggTy_of Tryd.underlying54 rfl (by kernel_rfl)
theorem fi_54_0 : FiTy Tryd.prog 54 0 0 := fiTy_of (k := 1) Tryd.underlying54 rfl rfl (by kernel_rfl) (by decide)
theorem fi_54_1 : FiTy Tryd.prog 54 1 1 := fiTy_of (k := 1) Tryd.underlying54 rfl rfl (by kernel_rfl) (by decide)
theorem one_4 : OneTy Tryd.prog 4 := oneTy_of Tryd.underlying4 rfl (by kernel_rfl)
theorem fi_54_2 : FiTy Tryd.prog 54 2 2 := fiTy_of (k := 1) Tryd.underlying54 rfl rfl (by kernel_rfl) (by decide)
theorem fi_54_3 : FiTy Tryd.prog 54 3 3 := fiTy_of (k := 1) Tryd.underlying54 rfl rfl (by kernel_rfl) (by decide)
theorem fi_54_4 : FiTy Tryd.prog 54 4 4 := fiTy_of (k := 1) Tryd.underlying54 rfl rfl (by kernel_rfl) (by decide)
theorem sl_29 : SlTy Tryd.prog 29 40 2 16 [.int .i64 0, .int .i64 0] := slTy_of Tryd.underlying29 (z := .agg #[.int .i64 0, .int .i64 0]) (by kernel_rfl) rfl (by decide) (by decide) rfl
theorem bt_40 : BuildTy Tryd.prog 40 (fun i => some (i * 1, 1)) [.int .i64 0, .int .i64 0] := ⟨.agg #[.int .i64 0, .int .i64 0], rfl, fun parts => by kernel_rfl⟩
end Go.Proofs.YtfagllolcalfiabDoor.y3Ty
