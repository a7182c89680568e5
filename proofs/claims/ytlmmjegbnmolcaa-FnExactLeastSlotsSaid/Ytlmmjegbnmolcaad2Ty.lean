/- Facts on the types of this translation, each closed by the kernel. No conditions. -/
import Derived.Test.YtlmmjegbnmolcaaRows
import Derived.Test.YtlmmjegbnmolcaaPwR
namespace Go.Proofs.Ytlmmjegbnmolcaa.d2Ty
open Go.RowKit

def az (u : TypeId) : Nat := match u with | 64 => 6 | 71 => 2 | _ => 0

theorem sl_27 : SlTy Try.prog 27 3 1 8 [.int .i64 0] := slTy_of Try.underlying27 (z := .int .i64 0) (by kernel_rfl) rfl (by decide) (by decide) rfl
theorem one_3 : OneTy Try.prog 3 := oneTy_of Try.underlying3 rfl (by kernel_rfl)
theorem sl_24 : SlTy Try.prog 24 71 2 16 [.int .i64 0, .int .i64 0] := slTy_of Try.underlying24 (z := .agg #[.int .i64 0, .int .i64 0]) (by kernel_rfl) rfl (by decide) (by decide) rfl
theorem agg_71 : AggTy Try.prog 71 2 := aggTy_of Try.underlying71 rfl (by kernel_rfl)
theorem agg_64 : AggTy Try.prog 64 6 := aggTy_of Try.underlying64 rfl (by kernel_rfl)
theorem zt_64 : ZeroTy Try.prog 64 [.int .i64 0, .int .i64 0, .int .i64 0, .int .i64 0, .int .i64 0, .int .i64 0] := zeroTy_of (z := .agg #[.int .i64 0, .int .i64 0, .int .i64 0, .int .i64 0, .int .i64 0, .int .i64 0]) (by kernel_rfl) rfl
theorem fi_71_0 : FiTy Try.prog 71 0 0 := fiTy_of (k := 1) Try.underlying71 rfl rfl (by kernel_rfl) (by decide)
theorem arr_64 : ArTy Try.prog 64 6 1 := arTy_of Try.underlying64 (by kernel_rfl)
theorem fi_71_1 : FiTy Try.prog 71 1 1 := fiTy_of (k := 1) Try.underlying71 rfl rfl (by kernel_rfl) (by decide)
theorem bt_71 : BuildTy Try.prog 71 (fun i => match i with | 0 => some (0, 1) | 1 => some (1, 1) | _ => none) [.int .i64 0, .int .i64 0] := ⟨.agg #[.int .i64 0, .int .i64 0], rfl, fun parts => by
  have h : Try.prog.built 71 parts = Instr.fill (#[(0, 1), (1, 1)][·]?) ((.agg #[.int .i64 0, .int .i64 0] : Value)).cells parts := by kernel_rfl
  have hp : (fun i => (#[(0, 1), (1, 1)] : Array (Nat × Nat))[i]?) = (fun i => match i with | 0 => some (0, 1) | 1 => some (1, 1) | _ => none) := by
    funext i
    rcases i with _ | _ | _ <;> rfl
  rw [h, hp]⟩
theorem one_27 : OneTy Try.prog 27 := oneTy_of Try.underlying27 rfl (by kernel_rfl)
theorem zt_3 : ZeroTy Try.prog 3 [.int .i64 0] := zeroTy_of (z := .int .i64 0) (by kernel_rfl) rfl
theorem zt_71 : ZeroTy Try.prog 71 [.int .i64 0, .int .i64 0] := zeroTy_of (z := .agg #[.int .i64 0, .int .i64 0]) (by kernel_rfl) rfl
theorem one_24 : OneTy Try.prog 24 := oneTy_of Try.underlying24 rfl (by kernel_rfl)
theorem eqty_3 : EqTy Try.prog 3 [.int .i64] 1 := eqTy_int one_3 Try.underlying3
theorem eqty_64 : EqTy Try.prog 64 (List.replicate 6 [.int .i64]).flatten 2 := eqTy_array agg_64 Try.underlying64 (by kernel_rfl) (by kernel_rfl) eqty_3
theorem eqg_64 : Try.prog.eqGuardType Try.prog.depth 64 = false := by kernel_rfl
theorem bt_64 : BuildTy Try.prog 64 (fun i => some (i * 1, 1)) [.int .i64 0, .int .i64 0, .int .i64 0, .int .i64 0, .int .i64 0, .int .i64 0] := ⟨.agg #[.int .i64 0, .int .i64 0, .int .i64 0, .int .i64 0, .int .i64 0, .int .i64 0], rfl, fun parts => by kernel_rfl⟩

end Go.Proofs.Ytlmmjegbnmolcaa.d2Ty
