/- Facts on the types of this translation, each closed by the kernel. No conditions. -/
import Derived.Test.YtdlckhdalbagmabDoorRows
import Derived.Test.YtdlckhdalbagmabDoorPwR
namespace Go.Proofs.YtdlckhdalbagmabDoor.I6Ty
open Go.RowKit

def az (u : TypeId) : Nat := match u with | 54 => 2 | _ => 0

theorem agg_54 : AggTy Tryd.prog 54 2 := aggTy_of Tryd.underlying54 rfl (by kernel_rfl)
theorem zt_54 : ZeroTy Tryd.prog 54 [.int .i64 0, .int .i64 0] := zeroTy_of (z := .agg #[.int .i64 0, .int .i64 0]) (by kernel_rfl) rfl
theorem bt_54 : BuildTy Tryd.prog 54 (fun i => match i with | 0 => some (0, 1) | 1 => some (1, 1) | _ => none) [.int .i64 0, .int .i64 0] := ⟨.agg #[.int .i64 0, .int .i64 0], rfl, fun parts => by
  have h : Tryd.prog.built 54 parts = Instr.fill (#[(0, 1), (1, 1)][·]?) ((.agg #[.int .i64 0, .int .i64 0] : Value)).cells parts := by kernel_rfl
  have hp : (fun i => (#[(0, 1), (1, 1)] : Array (Nat × Nat))[i]?) = (fun i => match i with | 0 => some (0, 1) | 1 => some (1, 1) | _ => none) := by
    funext i
    rcases i with _ | _ | _ <;> rfl
  rw [h, hp]⟩
theorem sl_25 : SlTy Tryd.prog 25 3 1 8 [.int .i64 0] := slTy_of Tryd.underlying25 (z := .int .i64 0) (by kernel_rfl) rfl (by decide) (by decide) rfl
theorem fi_54_0 : FiTy Tryd.prog 54 0 0 := fiTy_of (k := 1) Tryd.underlying54 rfl rfl (by kernel_rfl) (by decide)
theorem one_3 : OneTy Tryd.prog 3 := oneTy_of Tryd.underlying3 rfl (by kernel_rfl)
theorem fi_54_1 : FiTy Tryd.prog 54 1 1 := fiTy_of (k := 1) Tryd.underlying54 rfl rfl (by kernel_rfl) (by decide)
theorem eqty_3 : EqTy Tryd.prog 3 [.int .i64] 1 := eqTy_int one_3 Tryd.underlying3
theorem eqty_54 : EqTy Tryd.prog 54 [.int .i64, .int .i64] 2 := eqTy_struct (ks := [.int .i64, .int .i64]) agg_54 Tryd.underlying54 (by kernel_rfl) ⟨(by kernel_rfl), rfl, [.int .i64], [.int .i64], rfl, EqTy.mono eqty_3 (by decide), ⟨(by kernel_rfl), rfl, [.int .i64], [], rfl, EqTy.mono eqty_3 (by decide), rfl⟩⟩
theorem eqg_54 : Tryd.prog.eqGuardType Tryd.prog.depth 54 = false := by kernel_rfl
theorem one_25 : OneTy Tryd.prog 25 := oneTy_of Tryd.underlying25 rfl (by kernel_rfl)
theorem one_24 : OneTy Tryd.prog 24 := oneTy_of Tryd.underlying24 rfl (by kernel_rfl)
theorem one_4 : OneTy Tryd.prog 4 := oneTy_of Tryd.underlying4 rfl (by kernel_rfl)
theorem zt_3 : ZeroTy Tryd.prog 3 [.int .i64 0] := zeroTy_of (z := .int .i64 0) (by kernel_rfl) rfl
theorem zt_4 : ZeroTy Tryd.prog 4 [.bool false] := zeroTy_of (z := .bool false) (by kernel_rfl) rfl

end Go.Proofs.YtdlckhdalbagmabDoor.I6Ty
