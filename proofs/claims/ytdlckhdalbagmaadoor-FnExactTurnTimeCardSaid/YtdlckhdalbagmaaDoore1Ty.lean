/- Facts on the types of this translation, each closed by the kernel. No conditions. -/
import Derived.Test.YtdlckhdalbagmaaDoorRows
import Derived.Test.YtdlckhdalbagmaaDoorPwR
namespace Go.Proofs.YtdlckhdalbagmaaDoor.e1Ty
open Go.RowKit

def az (u : TypeId) : Nat := match u with  | _ => 0

theorem sl_35 : SlTy Tryd.prog 35 3 1 8 [.int .i64 0] := slTy_of Tryd.underlying35 (z := .int .i64 0) (by kernel_rfl) rfl (by decide) (by decide) rfl
theorem one_3 : OneTy Tryd.prog 3 := oneTy_of Tryd.underlying3 rfl (by kernel_rfl)
theorem sl_48 : SlTy Tryd.prog 48 52 2 16 [.int .i64 0, .int .i64 0] := slTy_of Tryd.underlying48 (z := .agg #[.int .i64 0, .int .i64 0]) (by kernel_rfl) rfl (by decide) (by decide) rfl
theorem bt_52 : BuildTy Tryd.prog 52 (fun i => some (i * 1, 1)) [.int .i64 0, .int .i64 0] := ⟨.agg #[.int .i64 0, .int .i64 0], rfl, fun parts => by kernel_rfl⟩

end Go.Proofs.YtdlckhdalbagmaaDoor.e1Ty
