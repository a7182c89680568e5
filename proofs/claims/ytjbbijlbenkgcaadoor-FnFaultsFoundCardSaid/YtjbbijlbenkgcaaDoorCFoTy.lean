/- Facts on the types of this translation, each closed by the kernel. No conditions. -/
import Derived.Test.YtjbbijlbenkgcaaDoorRows
import Derived.Test.YtjbbijlbenkgcaaDoorPwR
namespace Go.Proofs.YtjbbijlbenkgcaaDoor.CFoTy
open Go.RowKit

def az (u : TypeId) : Nat := match u with | 42 => 2 | _ => 0

theorem bt_42 : BuildTy Tryd.prog 42 (fun i => match i with | 0 => some (0, 1) | 1 => some (1, 1) | _ => none) [.int .i64 0, .int .i64 0] := ⟨.agg #[.int .i64 0, .int .i64 0], rfl, fun parts => by
  have h : Tryd.prog.built 42 parts = Instr.fill (#[(0, 1), (1, 1)][·]?) ((.agg #[.int .i64 0, .int .i64 0] : Value)).cells parts := by kernel_rfl
  have hp : (fun i => (#[(0, 1), (1, 1)] : Array (Nat × Nat))[i]?) = (fun i => match i with | 0 => some (0, 1) | 1 => some (1, 1) | _ => none) := by
    funext i
    rcases i with _ | _ | _ <;> rfl
  rw [h, hp]⟩
theorem zt_42 : ZeroTy Tryd.prog 42 [.int .i64 0, .int .i64 0] := zeroTy_of (z := .agg #[.int .i64 0, .int .i64 0]) (by kernel_rfl) rfl
theorem agg_42 : AggTy Tryd.prog 42 2 := aggTy_of Tryd.underlying42 rfl (by kernel_rfl)
theorem fi_42_0 : FiTy Tryd.prog 42 0 0 := fiTy_of (k := 1) Tryd.underlying42 rfl rfl (by kernel_rfl) (by decide)
theorem one_3 : OneTy Tryd.prog 3 := oneTy_of Tryd.underlying3 rfl (by kernel_rfl)
theorem fi_42_1 : FiTy Tryd.prog 42 1 1 := fiTy_of (k := 1) Tryd.underlying42 rfl rfl (by kernel_rfl) (by decide)
theorem sl_24 : SlTy Tryd.prog 24 3 1 8 [.int .i64 0] := slTy_of Tryd.underlying24 (z := .int .i64 0) (by kernel_rfl) rfl (by decide) (by decide) rfl
theorem eqty_3 : EqTy Tryd.prog 3 [.int .i64] 1 := eqTy_int one_3 Tryd.underlying3
theorem eqty_42 : EqTy Tryd.prog 42 [.int .i64, .int .i64] 2 := eqTy_struct (ks := [.int .i64, .int .i64]) agg_42 Tryd.underlying42 (by kernel_rfl) ⟨(by kernel_rfl), rfl, [.int .i64], [.int .i64], rfl, EqTy.mono eqty_3 (by decide), ⟨(by kernel_rfl), rfl, [.int .i64], [], rfl, EqTy.mono eqty_3 (by decide), rfl⟩⟩
theorem eqg_42 : Tryd.prog.eqGuardType Tryd.prog.depth 42 = false := by kernel_rfl
theorem one_24 : OneTy Tryd.prog 24 := oneTy_of Tryd.underlying24 rfl (by kernel_rfl)
theorem sl_27 : SlTy Tryd.prog 27 42 2 16 [.int .i64 0, .int .i64 0] := slTy_of Tryd.underlying27 (z := .agg #[.int .i64 0, .int .i64 0]) (by kernel_rfl) rfl (by decide) (by decide) rfl
theorem zt_24 : ZeroTy Tryd.prog 24 [.sl 0 []] := zeroTy_of (z := .slice none 0 0) (by kernel_rfl) rfl
theorem zt_27 : ZeroTy Tryd.prog 27 [.sl 0 []] := zeroTy_of (z := .slice none 0 0) (by kernel_rfl) rfl
theorem one_27 : OneTy Tryd.prog 27 := oneTy_of Tryd.underlying27 rfl (by kernel_rfl)

end Go.Proofs.YtjbbijlbenkgcaaDoor.CFoTy
