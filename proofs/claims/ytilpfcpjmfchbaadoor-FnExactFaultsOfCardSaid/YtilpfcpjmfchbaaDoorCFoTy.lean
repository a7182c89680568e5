/- Facts on the types of this translation, each closed by the kernel. No conditions. -/
import Derived.Test.YtilpfcpjmfchbaaDoorRows
import Derived.Test.YtilpfcpjmfchbaaDoorPwR
namespace Go.Proofs.YtilpfcpjmfchbaaDoor.CFoTy
open Go.RowKit

def az (u : TypeId) : Nat := match u with | 41 => 2 | _ => 0

theorem bt_41 : BuildTy Tryd.prog 41 (fun i => match i with | 0 => some (0, 1) | 1 => some (1, 1) | _ => none) [.int .i64 0, .int .i64 0] := ⟨.agg #[.int .i64 0, .int .i64 0], rfl, fun parts => by
  have h : Tryd.prog.built 41 parts = Instr.fill (#[(0, 1), (1, 1)][·]?) ((.agg #[.int .i64 0, .int .i64 0] : Value)).cells parts := by kernel_rfl
  have hp : (fun i => (#[(0, 1), (1, 1)] : Array (Nat × Nat))[i]?) = (fun i => match i with | 0 => some (0, 1) | 1 => some (1, 1) | _ => none) := by
    funext i
    rcases i with _ | _ | _ <;> rfl
  rw [h, hp]⟩
theorem zt_41 : ZeroTy Tryd.prog 41 [.int .i64 0, .int .i64 0] := zeroTy_of (z := .agg #[.int .i64 0, .int .i64 0]) (by kernel_rfl) rfl
theorem agg_41 : AggTy Tryd.prog 41 2 := aggTy_of Tryd.underlying41 rfl (by kernel_rfl)
theorem fi_41_0 : FiTy Tryd.prog 41 0 0 := fiTy_of (k := 1) Tryd.underlying41 rfl rfl (by kernel_rfl) (by decide)
theorem one_3 : OneTy Tryd.prog 3 := oneTy_of Tryd.underlying3 rfl (by kernel_rfl)
theorem fi_41_1 : FiTy Tryd.prog 41 1 1 := fiTy_of (k := 1) Tryd.underlying41 rfl rfl (by kernel_rfl) (by decide)
theorem sl_22 : SlTy Tryd.prog 22 3 1 8 [.int .i64 0] := slTy_of Tryd.underlying22 (z := .int .i64 0) (by kernel_rfl) rfl (by decide) (by decide) rfl
theorem eqty_3 : EqTy Tryd.prog 3 [.int .i64] 1 := eqTy_int one_3 Tryd.underlying3
theorem eqty_41 : EqTy Tryd.prog 41 [.int .i64, .int .i64] 2 := eqTy_struct (ks := [.int .i64, .int .i64]) agg_41 Tryd.underlying41 (by kernel_rfl) ⟨(by kernel_rfl), rfl, [.int .i64], [.int .i64], rfl, EqTy.mono eqty_3 (by decide), ⟨(by kernel_rfl), rfl, [.int .i64], [], rfl, EqTy.mono eqty_3 (by decide), rfl⟩⟩
theorem eqg_41 : Tryd.prog.eqGuardType Tryd.prog.depth 41 = false := by kernel_rfl
theorem one_22 : OneTy Tryd.prog 22 := oneTy_of Tryd.underlying22 rfl (by kernel_rfl)
theorem sl_23 : SlTy Tryd.prog 23 41 2 16 [.int .i64 0, .int .i64 0] := slTy_of Tryd.underlying23 (z := .agg #[.int .i64 0, .int .i64 0]) (by kernel_rfl) rfl (by decide) (by decide) rfl
theorem zt_22 : ZeroTy Tryd.prog 22 [.sl 0 []] := zeroTy_of (z := .slice none 0 0) (by kernel_rfl) rfl
theorem zt_23 : ZeroTy Tryd.prog 23 [.sl 0 []] := zeroTy_of (z := .slice none 0 0) (by kernel_rfl) rfl
theorem one_23 : OneTy Tryd.prog 23 := oneTy_of Tryd.underlying23 rfl (by kernel_rfl)

end Go.Proofs.YtilpfcpjmfchbaaDoor.CFoTy
