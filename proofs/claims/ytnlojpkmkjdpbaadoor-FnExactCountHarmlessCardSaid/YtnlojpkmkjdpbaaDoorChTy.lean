/- Facts on the types of this translation, each closed by the kernel. No conditions. -/
import Derived.Test.YtnlojpkmkjdpbaaDoorRows
import Derived.Test.YtnlojpkmkjdpbaaDoorPwR
namespace Go.Proofs.YtnlojpkmkjdpbaaDoor.ChTy
open Go.RowKit

def az (u : TypeId) : Nat := match u with | 36 => 2 | _ => 0

theorem fi_36_0 : FiTy Tryd.prog 36 0 0 := fiTy_of (k := 1) Tryd.underlying36 rfl rfl (by kernel_rfl) (by decide)
theorem one_3 : OneTy Tryd.prog 3 := oneTy_of Tryd.underlying3 rfl (by kernel_rfl)
theorem fi_36_1 : FiTy Tryd.prog 36 1 1 := fiTy_of (k := 1) Tryd.underlying36 rfl rfl (by kernel_rfl) (by decide)
theorem bt_36 : BuildTy Tryd.prog 36 (fun i => match i with | 0 => some (0, 1) | 1 => some (1, 1) | _ => none) [.int .i64 0, .int .i64 0] := ⟨.agg #[.int .i64 0, .int .i64 0], rfl, fun parts => by
  have h : Tryd.prog.built 36 parts = Instr.fill (#[(0, 1), (1, 1)][·]?) ((.agg #[.int .i64 0, .int .i64 0] : Value)).cells parts := by kernel_rfl
  have hp : (fun i => (#[(0, 1), (1, 1)] : Array (Nat × Nat))[i]?) = (fun i => match i with | 0 => some (0, 1) | 1 => some (1, 1) | _ => none) := by
    funext i
    rcases i with _ | _ | _ <;> rfl
  rw [h, hp]⟩
theorem zt_36 : ZeroTy Tryd.prog 36 [.int .i64 0, .int .i64 0] := zeroTy_of (z := .agg #[.int .i64 0, .int .i64 0]) (by kernel_rfl) rfl
theorem agg_36 : AggTy Tryd.prog 36 2 := aggTy_of Tryd.underlying36 rfl (by kernel_rfl)
theorem zt_3 : ZeroTy Tryd.prog 3 [.int .i64 0] := zeroTy_of (z := .int .i64 0) (by kernel_rfl) rfl

end Go.Proofs.YtnlojpkmkjdpbaaDoor.ChTy
