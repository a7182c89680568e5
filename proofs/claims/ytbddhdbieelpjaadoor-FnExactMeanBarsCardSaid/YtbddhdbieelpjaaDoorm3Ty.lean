/- Facts on the types of this translation, each closed by the kernel. No conditions. -/
import Derived.Test.YtbddhdbieelpjaaDoorRows
import Derived.Test.YtbddhdbieelpjaaDoorPwR
namespace Go.Proofs.YtbddhdbieelpjaaDoor.m3Ty
open Go.RowKit

def az (u : TypeId) : Nat := match u with | 26 => 2 | 62 => 2 | _ => 0

theorem agg_62 : AggTy Tryd.prog 62 2 := aggTy_of Tryd.underlying62 rfl (by kernel_rfl)
theorem zt_62 : ZeroTy Tryd.prog 62 [.int .i64 0, .int .i64 0] := zeroTy_of (z := .agg #[.int .i64 0, .int .i64 0]) (by kernel_rfl) rfl
theorem bt_62 : BuildTy Tryd.prog 62 (fun i => some (i * 1, 1)) [.int .i64 0, .int .i64 0] := ⟨.agg #[.int .i64 0, .int .i64 0], rfl, fun parts => by kernel_rfl⟩
theorem agg_26 : AggTy Tryd.prog 26 2 := aggTy_of Tryd.underlying26 rfl (by kernel_rfl)
theorem zt_26 : ZeroTy Tryd.prog 26 [.int .i64 0, .int .i64 0] := zeroTy_of (z := .agg #[.int .i64 0, .int .i64 0]) (by kernel_rfl) rfl
theorem bt_26 : BuildTy Tryd.prog 26 (fun i => some (i * 1, 1)) [.int .i64 0, .int .i64 0] := ⟨.agg #[.int .i64 0, .int .i64 0], rfl, fun parts => by kernel_rfl⟩

end Go.Proofs.YtbddhdbieelpjaaDoor.m3Ty
