/- Facts on the types of this translation, each closed by the kernel. No conditions. -/
import Derived.Test.YtlmmjegbnmolcabRows
import Derived.Test.YtlmmjegbnmolcabPwR
namespace Go.Proofs.Ytlmmjegbnmolcab.d2Ty
open Go.RowKit

def az (u : TypeId) : Nat := match u with | 38 => 2 | 50 => 10 | _ => 0

theorem fi_38_0 : FiTy Try.prog 38 0 0 := fiTy_of (k := 1) Try.underlying38 rfl rfl (by kernel_rfl) (by decide)
theorem one_3 : OneTy Try.prog 3 := oneTy_of Try.underlying3 rfl (by kernel_rfl)
theorem fi_38_1 : FiTy Try.prog 38 1 1 := fiTy_of (k := 1) Try.underlying38 rfl rfl (by kernel_rfl) (by decide)
theorem agg_38 : AggTy Try.prog 38 2 := aggTy_of Try.underlying38 rfl (by kernel_rfl)
theorem sl_26 : SlTy Try.prog 26 38 2 16 [.int .i64 0, .int .i64 0] := slTy_of Try.underlying26 (z := .agg #[.int .i64 0, .int .i64 0]) (by kernel_rfl) rfl (by decide) (by decide) rfl
theorem sl_44 : SlTy Try.prog 44 3 1 8 [.int .i64 0] := slTy_of Try.underlying44 (z := .int .i64 0) (by kernel_rfl) rfl (by decide) (by decide) rfl
theorem zt_38 : ZeroTy Try.prog 38 [.int .i64 0, .int .i64 0] := zeroTy_of (z := .agg #[.int .i64 0, .int .i64 0]) (by kernel_rfl) rfl
theorem agg_50 : AggTy Try.prog 50 10 := aggTy_of Try.underlying50 rfl (by kernel_rfl)
theorem zt_50 : ZeroTy Try.prog 50 [.int .i64 0, .int .i64 0, .int .i64 0, .int .i64 0, .int .i64 0, .int .i64 0, .int .i64 0, .int .i64 0, .int .i64 0, .int .i64 0] := zeroTy_of (z := .agg #[.int .i64 0, .int .i64 0, .int .i64 0, .int .i64 0, .int .i64 0, .int .i64 0, .int .i64 0, .int .i64 0, .int .i64 0, .int .i64 0]) (by kernel_rfl) rfl
theorem arr_50 : ArTy Try.prog 50 10 1 := arTy_of Try.underlying50 (by kernel_rfl)
theorem bt_38 : BuildTy Try.prog 38 (fun i => match i with | 0 => some (0, 1) | 1 => some (1, 1) | _ => none) [.int .i64 0, .int .i64 0] := ⟨.agg #[.int .i64 0, .int .i64 0], rfl, fun parts => by
  have h : Try.prog.built 38 parts = Instr.fill (#[(0, 1), (1, 1)][·]?) ((.agg #[.int .i64 0, .int .i64 0] : Value)).cells parts := by kernel_rfl
  have hp : (fun i => (#[(0, 1), (1, 1)] : Array (Nat × Nat))[i]?) = (fun i => match i with | 0 => some (0, 1) | 1 => some (1, 1) | _ => none) := by
    funext i
    rcases i with _ | _ | _ <;> rfl
  rw [h, hp]⟩
theorem eqty_3 : EqTy Try.prog 3 [.int .i64] 1 := eqTy_int one_3 Try.underlying3
theorem eqty_50 : EqTy Try.prog 50 (List.replicate 10 [.int .i64]).flatten 2 := eqTy_array agg_50 Try.underlying50 (by kernel_rfl) (by kernel_rfl) eqty_3
theorem eqg_50 : Try.prog.eqGuardType Try.prog.depth 50 = false := by kernel_rfl
theorem sl_47 : SlTy Try.prog 47 26 1 24 [.sl 0 []] := slTy_of Try.underlying47 (z := .slice none 0 0) (by kernel_rfl) rfl (by decide) (by decide) rfl
theorem one_26 : OneTy Try.prog 26 := oneTy_of Try.underlying26 rfl (by kernel_rfl)

end Go.Proofs.Ytlmmjegbnmolcab.d2Ty
