/- Facts on the types of this translation, each closed by the kernel. No conditions. -/
import Derived.Test.YtlipkomdajogiaaRows
import Derived.Test.YtlipkomdajogiaaPwR
namespace Go.Proofs.Ytlipkomdajogiaa.f5Ty
open Go.RowKit
def az (u : TypeId) : Nat := match u with | 62 => 2 | _ => 0
theorem fi_77_1 : FiTy Try.prog 77 1 1 := fiTy_of (k := 1) Try.underlying77 rfl rfl (by kernel_rfl) (by decide)
theorem one_3 : OneTy Try.prog 3 := oneTy_of Try.underlying3 rfl (by kernel_rfl)
theorem fi_77_0 : FiTy Try.prog 77 0 0 := fiTy_of (k := 1) Try.underlying77 rfl rfl (by kernel_rfl) (by decide)
theorem one_22 : OneTy Try.prog 22 := oneTy_of Try.underlying22 rfl (by kernel_rfl)
theorem sl_22 : SlTy Try.prog 22 5 1 1 [.int .u8 0] := slTy_of Try.underlying22 (z := .int .u8 0) (by kernel_rfl) rfl (by decide) (by decide) rfl
theorem one_5 : OneTy Try.prog 5 := oneTy_of Try.underlying5 rfl (by kernel_rfl)
theorem fi_77_2 : FiTy Try.prog 77 2 2 := fiTy_of (k := 1) Try.underlying77 rfl rfl (by kernel_rfl) (by decide)
theorem one_75 : OneTy Try.prog 75 := oneTy_of Try.underlying75 rfl (by kernel_rfl)
theorem sl_27 : SlTy Try.prog 27 3 1 8 [.int .i64 0] := slTy_of Try.underlying27 (z := .int .i64 0) (by kernel_rfl) rfl (by decide) (by decide) rfl
theorem bt_77 : BuildTy Try.prog 77 (fun i => match i with | 0 => some (0, 1) | 1 => some (1, 1) | 2 => some (2, 1) | _ => none) [.sl 0 [], .int .i64 0, .int .u64 0] := ⟨.agg #[.slice none 0 0, .int .i64 0, .int .u64 0], rfl, fun parts => by
  have h : Try.prog.built 77 parts = Instr.fill (#[(0, 1), (1, 1), (2, 1)][·]?) ((.agg #[.slice none 0 0, .int .i64 0, .int .u64 0] : Value)).cells parts := by kernel_rfl
  have hp : (fun i => (#[(0, 1), (1, 1), (2, 1)] : Array (Nat × Nat))[i]?) = (fun i => match i with | 0 => some (0, 1) | 1 => some (1, 1) | 2 => some (2, 1) | _ => none) := by
    funext i
    rcases i with _ | _ | _ | _ <;> rfl
  rw [h, hp]⟩
theorem sl_24 : SlTy Try.prog 24 62 2 16 [.int .i64 0, .int .i64 0] := slTy_of Try.underlying24 (z := .agg #[.int .i64 0, .int .i64 0]) (by kernel_rfl) rfl (by decide) (by decide) rfl
theorem bt_62 : BuildTy Try.prog 62 (fun i => match i with | 0 => some (0, 1) | 1 => some (1, 1) | _ => none) [.int .i64 0, .int .i64 0] := ⟨.agg #[.int .i64 0, .int .i64 0], rfl, fun parts => by
  have h : Try.prog.built 62 parts = Instr.fill (#[(0, 1), (1, 1)][·]?) ((.agg #[.int .i64 0, .int .i64 0] : Value)).cells parts := by kernel_rfl
  have hp : (fun i => (#[(0, 1), (1, 1)] : Array (Nat × Nat))[i]?) = (fun i => match i with | 0 => some (0, 1) | 1 => some (1, 1) | _ => none) := by
    funext i
    rcases i with _ | _ | _ <;> rfl
  rw [h, hp]⟩
theorem zt_62 : ZeroTy Try.prog 62 [.int .i64 0, .int .i64 0] := zeroTy_of (z := .agg #[.int .i64 0, .int .i64 0]) (by kernel_rfl) rfl
theorem agg_62 : AggTy Try.prog 62 2 := aggTy_of Try.underlying62 rfl (by kernel_rfl)
end Go.Proofs.Ytlipkomdajogiaa.f5Ty
