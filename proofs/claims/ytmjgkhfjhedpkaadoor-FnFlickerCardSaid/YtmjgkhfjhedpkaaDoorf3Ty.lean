/- Facts on the types of this translation, each closed by the kernel. No conditions. -/
import Derived.Test.YtmjgkhfjhedpkaaDoorRows
import Derived.Test.YtmjgkhfjhedpkaaDoorPwR
namespace Go.Proofs.YtmjgkhfjhedpkaaDoor.f3Ty
open Go.RowKit

def az (u : TypeId) : Nat := match u with | 26 => 2 | 51 => 2 | 59 => 20 | _ => 0

theorem agg_51 : AggTy Tryd.prog 51 2 := aggTy_of Tryd.underlying51 rfl (by kernel_rfl)
theorem zt_51 : ZeroTy Tryd.prog 51 [.int .i64 0, .int .i64 0] := zeroTy_of (z := .agg #[.int .i64 0, .int .i64 0]) (by kernel_rfl) rfl
theorem bt_51 : BuildTy Tryd.prog 51 (fun i => some (i * 1, 1)) [.int .i64 0, .int .i64 0] := ⟨.agg #[.int .i64 0, .int .i64 0], rfl, fun parts => by kernel_rfl⟩
theorem arr_51 : ArTy Tryd.prog 51 2 1 := arTy_of Tryd.underlying51 (by kernel_rfl)
theorem one_3 : OneTy Tryd.prog 3 := oneTy_of Tryd.underlying3 rfl (by kernel_rfl)
theorem agg_26 : AggTy Tryd.prog 26 2 := aggTy_of Tryd.underlying26 rfl (by kernel_rfl)
theorem zt_26 : ZeroTy Tryd.prog 26 [.int .i64 0, .int .i64 0] := zeroTy_of (z := .agg #[.int .i64 0, .int .i64 0]) (by kernel_rfl) rfl
theorem bt_26 : BuildTy Tryd.prog 26 (fun i => some (i * 1, 1)) [.int .i64 0, .int .i64 0] := ⟨.agg #[.int .i64 0, .int .i64 0], rfl, fun parts => by kernel_rfl⟩
theorem agg_59 : AggTy Tryd.prog 59 20 := aggTy_of Tryd.underlying59 rfl (by kernel_rfl)
theorem zt_59 : ZeroTy Tryd.prog 59 [.int .i64 0, .int .i64 0, .int .i64 0, .int .i64 0, .int .i64 0, .int .i64 0, .int .i64 0, .int .i64 0, .int .i64 0, .int .i64 0, .int .i64 0, .int .i64 0, .int .i64 0, .int .i64 0, .int .i64 0, .int .i64 0, .int .i64 0, .int .i64 0, .int .i64 0, .int .i64 0] := zeroTy_of (z := .agg #[.int .i64 0, .int .i64 0, .int .i64 0, .int .i64 0, .int .i64 0, .int .i64 0, .int .i64 0, .int .i64 0, .int .i64 0, .int .i64 0, .int .i64 0, .int .i64 0, .int .i64 0, .int .i64 0, .int .i64 0, .int .i64 0, .int .i64 0, .int .i64 0, .int .i64 0, .int .i64 0]) (by kernel_rfl) rfl
theorem arr_59 : ArTy Tryd.prog 59 10 2 := arTy_of Tryd.underlying59 (by kernel_rfl)
theorem bt_59 : BuildTy Tryd.prog 59 (fun i => some (i * 2, 2)) [.int .i64 0, .int .i64 0, .int .i64 0, .int .i64 0, .int .i64 0, .int .i64 0, .int .i64 0, .int .i64 0, .int .i64 0, .int .i64 0, .int .i64 0, .int .i64 0, .int .i64 0, .int .i64 0, .int .i64 0, .int .i64 0, .int .i64 0, .int .i64 0, .int .i64 0, .int .i64 0] := ⟨.agg #[.int .i64 0, .int .i64 0, .int .i64 0, .int .i64 0, .int .i64 0, .int .i64 0, .int .i64 0, .int .i64 0, .int .i64 0, .int .i64 0, .int .i64 0, .int .i64 0, .int .i64 0, .int .i64 0, .int .i64 0, .int .i64 0, .int .i64 0, .int .i64 0, .int .i64 0, .int .i64 0], rfl, fun parts => by kernel_rfl⟩
theorem eqty_3 : EqTy Tryd.prog 3 [.int .i64] 1 := eqTy_int one_3 Tryd.underlying3
theorem eqty_51 : EqTy Tryd.prog 51 (List.replicate 2 [.int .i64]).flatten 2 := eqTy_array agg_51 Tryd.underlying51 (by kernel_rfl) (by kernel_rfl) eqty_3
theorem eqg_51 : Tryd.prog.eqGuardType Tryd.prog.depth 51 = false := by kernel_rfl
theorem sl_33 : SlTy Tryd.prog 33 26 2 16 [.int .i64 0, .int .i64 0] := slTy_of Tryd.underlying33 (z := .agg #[.int .i64 0, .int .i64 0]) (by kernel_rfl) rfl (by decide) (by decide) rfl

end Go.Proofs.YtmjgkhfjhedpkaaDoor.f3Ty
