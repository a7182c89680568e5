/- Facts on the types of this translation, each closed by the kernel. No conditions. -/
import Derived.Test.YtfkdochnjcpedaaRows
import Derived.Test.YtfkdochnjcpedaaPwR
namespace Go.Proofs.Ytfkdochnjcpedaa.q1Ty
open Go.RowKit

def az (u : TypeId) : Nat := match u with | 25 => 2 | 29 => 2 | _ => 0

theorem fi_25_1 : FiTy Try.prog 25 1 1 := fiTy_of (k := 1) Try.underlying25 rfl rfl (by kernel_rfl) (by decide)
theorem one_3 : OneTy Try.prog 3 := oneTy_of Try.underlying3 rfl (by kernel_rfl)
theorem fi_25_0 : FiTy Try.prog 25 0 0 := fiTy_of (k := 1) Try.underlying25 rfl rfl (by kernel_rfl) (by decide)
theorem agg_25 : AggTy Try.prog 25 2 := aggTy_of Try.underlying25 rfl (by kernel_rfl)
theorem agg_29 : AggTy Try.prog 29 2 := aggTy_of Try.underlying29 rfl (by kernel_rfl)
theorem zt_29 : ZeroTy Try.prog 29 [.int .i64 0, .int .i64 0] := zeroTy_of (z := .agg #[.int .i64 0, .int .i64 0]) (by kernel_rfl) rfl
theorem bt_29 : BuildTy Try.prog 29 (fun i => match i with | 0 => some (0, 1) | 1 => some (1, 1) | _ => none) [.int .i64 0, .int .i64 0] := ⟨.agg #[.int .i64 0, .int .i64 0], rfl, fun parts => by
  have h : Try.prog.built 29 parts = Instr.fill (#[(0, 1), (1, 1)][·]?) ((.agg #[.int .i64 0, .int .i64 0] : Value)).cells parts := by kernel_rfl
  have hp : (fun i => (#[(0, 1), (1, 1)] : Array (Nat × Nat))[i]?) = (fun i => match i with | 0 => some (0, 1) | 1 => some (1, 1) | _ => none) := by
    funext i
    rcases i with _ | _ | _ <;> rfl
  rw [h, hp]⟩

end Go.Proofs.Ytfkdochnjcpedaa.q1Ty
