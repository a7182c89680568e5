/- Facts on the types of this translation, each closed by the kernel. No conditions. -/
import Derived.Test.YtlipkomdajogiaaRows
import Derived.Test.YtlipkomdajogiaaPwR
namespace Go.Proofs.Ytlipkomdajogiaa.f2Ty
open Go.RowKit
def az (u : TypeId) : Nat := match u with | 47 => 7 | 54 => 6 | 62 => 2 | _ => 0
theorem sl_27 : SlTy Try.prog 27 3 1 8 [.int .i64 0] := slTy_of Try.underlying27 (z := .int .i64 0) (by kernel_rfl) rfl (by decide) (by decide) rfl
theorem one_3 : OneTy Try.prog 3 := oneTy_of Try.underlying3 rfl (by kernel_rfl)
theorem fi_62_0 : FiTy Try.prog 62 0 0 := fiTy_of (k := 1) Try.underlying62 rfl rfl (by kernel_rfl) (by decide)
theorem fi_62_1 : FiTy Try.prog 62 1 1 := fiTy_of (k := 1) Try.underlying62 rfl rfl (by kernel_rfl) (by decide)
theorem agg_62 : AggTy Try.prog 62 2 := aggTy_of Try.underlying62 rfl (by kernel_rfl)
theorem sl_24 : SlTy Try.prog 24 62 2 16 [.int .i64 0, .int .i64 0] := slTy_of Try.underlying24 (z := .agg #[.int .i64 0, .int .i64 0]) (by kernel_rfl) rfl (by decide) (by decide) rfl
theorem agg_54 : AggTy Try.prog 54 6 := aggTy_of Try.underlying54 rfl (by kernel_rfl)
theorem zt_54 : ZeroTy Try.prog 54 [.int .i64 0, .int .i64 0, .int .i64 0, .int .i64 0, .int .i64 0, .int .i64 0] := zeroTy_of (z := .agg #[.int .i64 0, .int .i64 0, .int .i64 0, .int .i64 0, .int .i64 0, .int .i64 0]) (by kernel_rfl) rfl
theorem arr_54 : ArTy Try.prog 54 6 1 := arTy_of Try.underlying54 (by kernel_rfl)
theorem zt_62 : ZeroTy Try.prog 62 [.int .i64 0, .int .i64 0] := zeroTy_of (z := .agg #[.int .i64 0, .int .i64 0]) (by kernel_rfl) rfl
theorem bt_62 : BuildTy Try.prog 62 (fun i => match i with | 0 => some (0, 1) | 1 => some (1, 1) | _ => none) [.int .i64 0, .int .i64 0] := ⟨.agg #[.int .i64 0, .int .i64 0], rfl, fun parts => by
  have h : Try.prog.built 62 parts = Instr.fill (#[(0, 1), (1, 1)][·]?) ((.agg #[.int .i64 0, .int .i64 0] : Value)).cells parts := by kernel_rfl
  have hp : (fun i => (#[(0, 1), (1, 1)] : Array (Nat × Nat))[i]?) = (fun i => match i with | 0 => some (0, 1) | 1 => some (1, 1) | _ => none) := by
    funext i
    rcases i with _ | _ | _ <;> rfl
  rw [h, hp]⟩
theorem one_27 : OneTy Try.prog 27 := oneTy_of Try.underlying27 rfl (by kernel_rfl)
theorem zt_3 : ZeroTy Try.prog 3 [.int .i64 0] := zeroTy_of (z := .int .i64 0) (by kernel_rfl) rfl
theorem agg_47 : AggTy Try.prog 47 7 := aggTy_of Try.underlying47 rfl (by kernel_rfl)
theorem zt_47 : ZeroTy Try.prog 47 [.int .i64 0, .int .i64 0, .int .i64 0, .int .i64 0, .int .i64 0, .int .i64 0, .int .i64 0] := zeroTy_of (z := .agg #[.int .i64 0, .int .i64 0, .int .i64 0, .int .i64 0, .int .i64 0, .int .i64 0, .int .i64 0]) (by kernel_rfl) rfl
theorem arr_47 : ArTy Try.prog 47 7 1 := arTy_of Try.underlying47 (by kernel_rfl)
theorem sl_33 : SlTy Try.prog 33 47 7 56 [.int .i64 0, .int .i64 0, .int .i64 0, .int .i64 0, .int .i64 0, .int .i64 0, .int .i64 0] := slTy_of Try.underlying33 (z := .agg #[.int .i64 0, .int .i64 0, .int .i64 0, .int .i64 0, .int .i64 0, .int .i64 0, .int .i64 0]) (by kernel_rfl) rfl (by decide) (by decide) rfl
theorem zt_33 : ZeroTy Try.prog 33 [.sl 0 []] := zeroTy_of (z := .slice none 0 0) (by kernel_rfl) rfl
theorem one_33 : OneTy Try.prog 33 := oneTy_of Try.underlying33 rfl (by kernel_rfl)
theorem one_24 : OneTy Try.prog 24 := oneTy_of Try.underlying24 rfl (by kernel_rfl)
theorem eqty_3 : EqTy Try.prog 3 [.int .i64] 1 := eqTy_int one_3 Try.underlying3
theorem eqty_54 : EqTy Try.prog 54 (List.replicate 6 [.int .i64]).flatten 2 := eqTy_array agg_54 Try.underlying54 (by kernel_rfl) (by kernel_rfl) eqty_3
theorem eqg_54 : Try.prog.eqGuardType Try.prog.depth 54 = false := by kernel_rfl
theorem bt_54 : BuildTy Try.prog 54 (fun i => some (i * 1, 1)) [.int .i64 0, .int .i64 0, .int .i64 0, .int .i64 0, .int .i64 0, .int .i64 0] := ⟨.agg #[.int .i64 0, .int .i64 0, .int .i64 0, .int .i64 0, .int .i64 0, .int .i64 0], rfl, fun parts => by kernel_rfl⟩
end Go.Proofs.Ytlipkomdajogiaa.f2Ty
