/- Facts on the types of this translation, each closed by the kernel. No conditions. -/
import Derived.Test.YtbddhdbieelpjaaDoorRows
import Derived.Test.YtbddhdbieelpjaaDoorPwR
namespace Go.Proofs.YtbddhdbieelpjaaDoor.d1Ty
open Go.RowKit

def az (u : TypeId) : Nat := match u with | 26 => 2 | 49 => 2 | 110 => 2 | _ => 0

theorem fi_49_0 : FiTy Tryd.prog 49 0 0 := fiTy_of (k := 1) Tryd.underlying49 rfl rfl (by kernel_rfl) (by decide)
theorem one_3 : OneTy Tryd.prog 3 := oneTy_of Tryd.underlying3 rfl (by kernel_rfl)
theorem fi_49_1 : FiTy Tryd.prog 49 1 1 := fiTy_of (k := 1) Tryd.underlying49 rfl rfl (by kernel_rfl) (by decide)
theorem bt_110 : BuildTy Tryd.prog 110 (fun i => match i with | 0 => some (0, 1) | 1 => some (1, 1) | _ => none) [.int .i64 0, .int .i64 0] := ⟨.agg #[.int .i64 0, .int .i64 0], rfl, fun parts => by
  have h : Tryd.prog.built 110 parts = Instr.fill (#[(0, 1), (1, 1)][·]?) ((.agg #[.int .i64 0, .int .i64 0] : Value)).cells parts := by kernel_rfl
  have hp : (fun i => (#[(0, 1), (1, 1)] : Array (Nat × Nat))[i]?) = (fun i => match i with | 0 => some (0, 1) | 1 => some (1, 1) | _ => none) := by
    funext i
    rcases i with _ | _ | _ <;> rfl
  rw [h, hp]⟩
theorem sl_86 : SlTy Tryd.prog 86 110 2 16 [.int .i64 0, .int .i64 0] := slTy_of Tryd.underlying86 (z := .agg #[.int .i64 0, .int .i64 0]) (by kernel_rfl) rfl (by decide) (by decide) rfl
theorem agg_49 : AggTy Tryd.prog 49 2 := aggTy_of Tryd.underlying49 rfl (by kernel_rfl)
theorem zt_49 : ZeroTy Tryd.prog 49 [.int .i64 0, .int .i64 0] := zeroTy_of (z := .agg #[.int .i64 0, .int .i64 0]) (by kernel_rfl) rfl
theorem fi_110_1 : FiTy Tryd.prog 110 1 1 := fiTy_of (k := 1) Tryd.underlying110 rfl rfl (by kernel_rfl) (by decide)
theorem fi_110_0 : FiTy Tryd.prog 110 0 0 := fiTy_of (k := 1) Tryd.underlying110 rfl rfl (by kernel_rfl) (by decide)
theorem bt_49 : BuildTy Tryd.prog 49 (fun i => match i with | 0 => some (0, 1) | 1 => some (1, 1) | _ => none) [.int .i64 0, .int .i64 0] := ⟨.agg #[.int .i64 0, .int .i64 0], rfl, fun parts => by
  have h : Tryd.prog.built 49 parts = Instr.fill (#[(0, 1), (1, 1)][·]?) ((.agg #[.int .i64 0, .int .i64 0] : Value)).cells parts := by kernel_rfl
  have hp : (fun i => (#[(0, 1), (1, 1)] : Array (Nat × Nat))[i]?) = (fun i => match i with | 0 => some (0, 1) | 1 => some (1, 1) | _ => none) := by
    funext i
    rcases i with _ | _ | _ <;> rfl
  rw [h, hp]⟩
theorem agg_110 : AggTy Tryd.prog 110 2 := aggTy_of Tryd.underlying110 rfl (by kernel_rfl)
theorem sl_81 : SlTy Tryd.prog 81 3 1 8 [.int .i64 0] := slTy_of Tryd.underlying81 (z := .int .i64 0) (by kernel_rfl) rfl (by decide) (by decide) rfl
theorem agg_26 : AggTy Tryd.prog 26 2 := aggTy_of Tryd.underlying26 rfl (by kernel_rfl)
theorem zt_26 : ZeroTy Tryd.prog 26 [.int .i64 0, .int .i64 0] := zeroTy_of (z := .agg #[.int .i64 0, .int .i64 0]) (by kernel_rfl) rfl
theorem bt_26 : BuildTy Tryd.prog 26 (fun i => some (i * 1, 1)) [.int .i64 0, .int .i64 0] := ⟨.agg #[.int .i64 0, .int .i64 0], rfl, fun parts => by kernel_rfl⟩

end Go.Proofs.YtbddhdbieelpjaaDoor.d1Ty
