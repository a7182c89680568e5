/- Facts on the types of this translation, each closed by the kernel. No conditions. -/
import Derived.Test.YtfkdochnjcpedabDoorRows
import Derived.Test.YtfkdochnjcpedabDoorPwR
namespace Go.Proofs.YtfkdochnjcpedabDoor.r2Ty
open Go.RowKit

def az (u : TypeId) : Nat := match u with | 39 => 2 | 46 => 2 | 52 => 10 | _ => 0

theorem arr_89 : ArTy Tryd.prog 89 10 1 := arTy_of Tryd.underlying89 (by kernel_rfl)
theorem one_9 : OneTy Tryd.prog 9 := oneTy_of Tryd.underlying9 rfl (by kernel_rfl)
theorem fi_46_0 : FiTy Tryd.prog 46 0 0 := fiTy_of (k := 1) Tryd.underlying46 rfl rfl (by kernel_rfl) (by decide)
theorem one_3 : OneTy Tryd.prog 3 := oneTy_of Tryd.underlying3 rfl (by kernel_rfl)
theorem fi_46_1 : FiTy Tryd.prog 46 1 1 := fiTy_of (k := 1) Tryd.underlying46 rfl rfl (by kernel_rfl) (by decide)
theorem agg_46 : AggTy Tryd.prog 46 2 := aggTy_of Tryd.underlying46 rfl (by kernel_rfl)
theorem fi_39_1 : FiTy Tryd.prog 39 1 1 := fiTy_of (k := 1) Tryd.underlying39 rfl rfl (by kernel_rfl) (by decide)
theorem fi_39_0 : FiTy Tryd.prog 39 0 0 := fiTy_of (k := 1) Tryd.underlying39 rfl rfl (by kernel_rfl) (by decide)
theorem zt_46 : ZeroTy Tryd.prog 46 [.int .i64 0, .int .i64 0] := zeroTy_of (z := .agg #[.int .i64 0, .int .i64 0]) (by kernel_rfl) rfl
theorem agg_39 : AggTy Tryd.prog 39 2 := aggTy_of Tryd.underlying39 rfl (by kernel_rfl)
theorem bt_46 : BuildTy Tryd.prog 46 (fun i => match i with | 0 => some (0, 1) | 1 => some (1, 1) | _ => none) [.int .i64 0, .int .i64 0] := ⟨.agg #[.int .i64 0, .int .i64 0], rfl, fun parts => by
  have h : Tryd.prog.built 46 parts = Instr.fill (#[(0, 1), (1, 1)][·]?) ((.agg #[.int .i64 0, .int .i64 0] : Value)).cells parts := by kernel_rfl
  have hp : (fun i => (#[(0, 1), (1, 1)] : Array (Nat × Nat))[i]?) = (fun i => match i with | 0 => some (0, 1) | 1 => some (1, 1) | _ => none) := by
    funext i
    rcases i with _ | _ | _ <;> rfl
  rw [h, hp]⟩
theorem sl_22 : SlTy Tryd.prog 22 3 1 8 [.int .i64 0] := slTy_of Tryd.underlying22 (z := .int .i64 0) (by kernel_rfl) rfl (by decide) (by decide) rfl
theorem zt_22 : ZeroTy Tryd.prog 22 [.sl 0 []] := zeroTy_of (z := .slice none 0 0) (by kernel_rfl) rfl
theorem one_22 : OneTy Tryd.prog 22 := oneTy_of Tryd.underlying22 rfl (by kernel_rfl)
theorem agg_52 : AggTy Tryd.prog 52 10 := aggTy_of Tryd.underlying52 rfl (by kernel_rfl)
theorem zt_52 : ZeroTy Tryd.prog 52 [.int .i64 0, .int .i64 0, .int .i64 0, .int .i64 0, .int .i64 0, .int .i64 0, .int .i64 0, .int .i64 0, .int .i64 0, .int .i64 0] := zeroTy_of (z := .agg #[.int .i64 0, .int .i64 0, .int .i64 0, .int .i64 0, .int .i64 0, .int .i64 0, .int .i64 0, .int .i64 0, .int .i64 0, .int .i64 0]) (by kernel_rfl) rfl
theorem arr_52 : ArTy Tryd.prog 52 10 1 := arTy_of Tryd.underlying52 (by kernel_rfl)
theorem sl_23 : SlTy Tryd.prog 23 39 2 16 [.int .i64 0, .int .i64 0] := slTy_of Tryd.underlying23 (z := .agg #[.int .i64 0, .int .i64 0]) (by kernel_rfl) rfl (by decide) (by decide) rfl
theorem bt_39 : BuildTy Tryd.prog 39 (fun i => match i with | 0 => some (0, 1) | 1 => some (1, 1) | _ => none) [.int .i64 0, .int .i64 0] := ⟨.agg #[.int .i64 0, .int .i64 0], rfl, fun parts => by
  have h : Tryd.prog.built 39 parts = Instr.fill (#[(0, 1), (1, 1)][·]?) ((.agg #[.int .i64 0, .int .i64 0] : Value)).cells parts := by kernel_rfl
  have hp : (fun i => (#[(0, 1), (1, 1)] : Array (Nat × Nat))[i]?) = (fun i => match i with | 0 => some (0, 1) | 1 => some (1, 1) | _ => none) := by
    funext i
    rcases i with _ | _ | _ <;> rfl
  rw [h, hp]⟩
theorem zt_39 : ZeroTy Tryd.prog 39 [.int .i64 0, .int .i64 0] := zeroTy_of (z := .agg #[.int .i64 0, .int .i64 0]) (by kernel_rfl) rfl
theorem one_48 : OneTy Tryd.prog 48 := oneTy_of Tryd.underlying48 rfl (by kernel_rfl)
theorem eqty_3 : EqTy Tryd.prog 3 [.int .i64] 1 := eqTy_int one_3 Tryd.underlying3
theorem eqty_52 : EqTy Tryd.prog 52 (List.replicate 10 [.int .i64]).flatten 2 := eqTy_array agg_52 Tryd.underlying52 (by kernel_rfl) (by kernel_rfl) eqty_3
theorem eqg_52 : Tryd.prog.eqGuardType Tryd.prog.depth 52 = false := by kernel_rfl
theorem zt_48 : ZeroTy Tryd.prog 48 [.cst 2] := zeroTy_of (z := .nilFunc) (by kernel_rfl) rfl

end Go.Proofs.YtfkdochnjcpedabDoor.r2Ty
