/- Facts on the types of this translation, each closed by the kernel. No conditions. -/
import Derived.Test.YtfkdochnjcpedaaDoorRows
import Derived.Test.YtfkdochnjcpedaaDoorPwR
namespace Go.Proofs.YtfkdochnjcpedaaDoor.r1Ty
open Go.RowKit

def az (u : TypeId) : Nat := match u with | 71 => 2 | 91 => 2 | _ => 0

theorem sl_32 : SlTy Tryd.prog 32 3 1 8 [.int .i64 0] := slTy_of Tryd.underlying32 (z := .int .i64 0) (by kernel_rfl) rfl (by decide) (by decide) rfl
theorem one_3 : OneTy Tryd.prog 3 := oneTy_of Tryd.underlying3 rfl (by kernel_rfl)
theorem fi_91_0 : FiTy Tryd.prog 91 0 0 := fiTy_of (k := 1) Tryd.underlying91 rfl rfl (by kernel_rfl) (by decide)
theorem fi_91_1 : FiTy Tryd.prog 91 1 1 := fiTy_of (k := 1) Tryd.underlying91 rfl rfl (by kernel_rfl) (by decide)
theorem bt_71 : BuildTy Tryd.prog 71 (fun i => match i with | 0 => some (0, 1) | 1 => some (1, 1) | _ => none) [.int .i64 0, .int .i64 0] := ⟨.agg #[.int .i64 0, .int .i64 0], rfl, fun parts => by
  have h : Tryd.prog.built 71 parts = Instr.fill (#[(0, 1), (1, 1)][·]?) ((.agg #[.int .i64 0, .int .i64 0] : Value)).cells parts := by kernel_rfl
  have hp : (fun i => (#[(0, 1), (1, 1)] : Array (Nat × Nat))[i]?) = (fun i => match i with | 0 => some (0, 1) | 1 => some (1, 1) | _ => none) := by
    funext i
    rcases i with _ | _ | _ <;> rfl
  rw [h, hp]⟩
theorem sl_36 : SlTy Tryd.prog 36 71 2 16 [.int .i64 0, .int .i64 0] := slTy_of Tryd.underlying36 (z := .agg #[.int .i64 0, .int .i64 0]) (by kernel_rfl) rfl (by decide) (by decide) rfl
theorem agg_91 : AggTy Tryd.prog 91 2 := aggTy_of Tryd.underlying91 rfl (by kernel_rfl)
theorem zt_91 : ZeroTy Tryd.prog 91 [.int .i64 0, .int .i64 0] := zeroTy_of (z := .agg #[.int .i64 0, .int .i64 0]) (by kernel_rfl) rfl
theorem fi_71_1 : FiTy Tryd.prog 71 1 1 := fiTy_of (k := 1) Tryd.underlying71 rfl rfl (by kernel_rfl) (by decide)
theorem fi_71_0 : FiTy Tryd.prog 71 0 0 := fiTy_of (k := 1) Tryd.underlying71 rfl rfl (by kernel_rfl) (by decide)
theorem bt_91 : BuildTy Tryd.prog 91 (fun i => match i with | 0 => some (0, 1) | 1 => some (1, 1) | _ => none) [.int .i64 0, .int .i64 0] := ⟨.agg #[.int .i64 0, .int .i64 0], rfl, fun parts => by
  have h : Tryd.prog.built 91 parts = Instr.fill (#[(0, 1), (1, 1)][·]?) ((.agg #[.int .i64 0, .int .i64 0] : Value)).cells parts := by kernel_rfl
  have hp : (fun i => (#[(0, 1), (1, 1)] : Array (Nat × Nat))[i]?) = (fun i => match i with | 0 => some (0, 1) | 1 => some (1, 1) | _ => none) := by
    funext i
    rcases i with _ | _ | _ <;> rfl
  rw [h, hp]⟩
theorem agg_71 : AggTy Tryd.prog 71 2 := aggTy_of Tryd.underlying71 rfl (by kernel_rfl)

end Go.Proofs.YtfkdochnjcpedaaDoor.r1Ty
