/- The tables of this translation for the interpreter, each fact closed by the kernel. No conditions. -/
import Derived.Test.YtbddhdbieelpjaaRows
import Derived.Test.YtbddhdbieelpjaaPwQ
namespace Go.Proofs.Ytbddhdbieelpjaa.Tf
open Go.RowKit
set_option maxRecDepth 20000

theorem zv_2 : ZvTy Try.prog 2 (.int .i64 0) := zvTy_of (z := .int .i64 0) (by kernel_rfl) rfl
theorem one_2 : OneTy Try.prog 2 := oneTy_of Try.underlying2 rfl (by kernel_rfl)
theorem zt_2 : ZeroTy Try.prog 2 [.int .i64 0] := zeroTy_of (z := .int .i64 0) (by kernel_rfl) rfl
theorem zv_3 : ZvTy Try.prog 3 (.int .i64 0) := zvTy_of (z := .int .i64 0) (by kernel_rfl) rfl
theorem one_3 : OneTy Try.prog 3 := oneTy_of Try.underlying3 rfl (by kernel_rfl)
theorem zt_3 : ZeroTy Try.prog 3 [.int .i64 0] := zeroTy_of (z := .int .i64 0) (by kernel_rfl) rfl
theorem zv_4 : ZvTy Try.prog 4 (.bool false) := zvTy_of (z := .bool false) (by kernel_rfl) rfl
theorem one_4 : OneTy Try.prog 4 := oneTy_of Try.underlying4 rfl (by kernel_rfl)
theorem zt_4 : ZeroTy Try.prog 4 [.bool false] := zeroTy_of (z := .bool false) (by kernel_rfl) rfl
theorem zv_5 : ZvTy Try.prog 5 (.int .u8 0) := zvTy_of (z := .int .u8 0) (by kernel_rfl) rfl
theorem one_5 : OneTy Try.prog 5 := oneTy_of Try.underlying5 rfl (by kernel_rfl)
theorem zt_5 : ZeroTy Try.prog 5 [.int .u8 0] := zeroTy_of (z := .int .u8 0) (by kernel_rfl) rfl
theorem zv_6 : ZvTy Try.prog 6 (.int .u8 0) := zvTy_of (z := .int .u8 0) (by kernel_rfl) rfl
theorem one_6 : OneTy Try.prog 6 := oneTy_of Try.underlying6 rfl (by kernel_rfl)
theorem zt_6 : ZeroTy Try.prog 6 [.int .u8 0] := zeroTy_of (z := .int .u8 0) (by kernel_rfl) rfl
theorem zv_7 : ZvTy Try.prog 7 (.agg [.int .i64 0, .int .i64 0, .bool false, .int .u8 0]) := zvTy_of (z := .agg #[.int .i64 0, .int .i64 0, .bool false, .int .u8 0]) (by kernel_rfl) rfl
theorem agg_7 : AggTy Try.prog 7 4 := aggTy_of Try.underlying7 rfl (by kernel_rfl)
theorem fi_7_0 : FiTy Try.prog 7 0 0 := fiTy_of (k := 1) Try.underlying7 rfl rfl (by kernel_rfl) (by decide)
theorem fi_7_1 : FiTy Try.prog 7 1 1 := fiTy_of (k := 1) Try.underlying7 rfl rfl (by kernel_rfl) (by decide)
theorem fi_7_2 : FiTy Try.prog 7 2 2 := fiTy_of (k := 1) Try.underlying7 rfl rfl (by kernel_rfl) (by decide)
theorem fi_7_3 : FiTy Try.prog 7 3 3 := fiTy_of (k := 1) Try.underlying7 rfl rfl (by kernel_rfl) (by decide)
theorem zt_7 : ZeroTy Try.prog 7 [.int .i64 0, .int .i64 0, .bool false, .int .u8 0] := zeroTy_of (z := .agg #[.int .i64 0, .int .i64 0, .bool false, .int .u8 0]) (by kernel_rfl) rfl
theorem bt_7 : BuildTy Try.prog 7 (fun i => match i with | 0 => some (0, 1) | 1 => some (1, 1) | 2 => some (2, 1) | 3 => some (3, 1) | _ => none) [.int .i64 0, .int .i64 0, .bool false, .int .u8 0] := ⟨.agg #[.int .i64 0, .int .i64 0, .bool false, .int .u8 0], rfl, fun parts => by
  have h : Try.prog.built 7 parts = Instr.fill (#[(0, 1), (1, 1), (2, 1), (3, 1)][·]?) ((.agg #[.int .i64 0, .int .i64 0, .bool false, .int .u8 0] : Value)).cells parts := by kernel_rfl
  have hp : (fun i => (#[(0, 1), (1, 1), (2, 1), (3, 1)] : Array (Nat × Nat))[i]?) = (fun i => match i with | 0 => some (0, 1) | 1 => some (1, 1) | 2 => some (2, 1) | 3 => some (3, 1) | _ => none) := by
    funext i
    rcases i with _ | _ | _ | _ | _ <;> rfl
  rw [h, hp]⟩
theorem zv_8 : ZvTy Try.prog 8 (.agg [.int .i64 0, .int .i64 0, .bool false, .int .u8 0]) := zvTy_of (z := .agg #[.int .i64 0, .int .i64 0, .bool false, .int .u8 0]) (by kernel_rfl) rfl
theorem agg_8 : AggTy Try.prog 8 4 := aggTy_of Try.underlying8 rfl (by kernel_rfl)
theorem fi_8_0 : FiTy Try.prog 8 0 0 := fiTy_of (k := 1) Try.underlying8 rfl rfl (by kernel_rfl) (by decide)
theorem fi_8_1 : FiTy Try.prog 8 1 1 := fiTy_of (k := 1) Try.underlying8 rfl rfl (by kernel_rfl) (by decide)
theorem fi_8_2 : FiTy Try.prog 8 2 2 := fiTy_of (k := 1) Try.underlying8 rfl rfl (by kernel_rfl) (by decide)
theorem fi_8_3 : FiTy Try.prog 8 3 3 := fiTy_of (k := 1) Try.underlying8 rfl rfl (by kernel_rfl) (by decide)
theorem zt_8 : ZeroTy Try.prog 8 [.int .i64 0, .int .i64 0, .bool false, .int .u8 0] := zeroTy_of (z := .agg #[.int .i64 0, .int .i64 0, .bool false, .int .u8 0]) (by kernel_rfl) rfl
theorem bt_8 : BuildTy Try.prog 8 (fun i => match i with | 0 => some (0, 1) | 1 => some (1, 1) | 2 => some (2, 1) | 3 => some (3, 1) | _ => none) [.int .i64 0, .int .i64 0, .bool false, .int .u8 0] := ⟨.agg #[.int .i64 0, .int .i64 0, .bool false, .int .u8 0], rfl, fun parts => by
  have h : Try.prog.built 8 parts = Instr.fill (#[(0, 1), (1, 1), (2, 1), (3, 1)][·]?) ((.agg #[.int .i64 0, .int .i64 0, .bool false, .int .u8 0] : Value)).cells parts := by kernel_rfl
  have hp : (fun i => (#[(0, 1), (1, 1), (2, 1), (3, 1)] : Array (Nat × Nat))[i]?) = (fun i => match i with | 0 => some (0, 1) | 1 => some (1, 1) | 2 => some (2, 1) | 3 => some (3, 1) | _ => none) := by
    funext i
    rcases i with _ | _ | _ | _ | _ <;> rfl
  rw [h, hp]⟩
theorem zv_9 : ZvTy Try.prog 9 (.str []) := zvTy_of (z := .string ByteArray.empty) (by kernel_rfl) rfl
theorem one_9 : OneTy Try.prog 9 := oneTy_of Try.underlying9 rfl (by kernel_rfl)
theorem zt_9 : ZeroTy Try.prog 9 [.str []] := zeroTy_of (z := .string ByteArray.empty) (by kernel_rfl) rfl
theorem zv_10 : ZvTy Try.prog 10 (.str []) := zvTy_of (z := .string ByteArray.empty) (by kernel_rfl) rfl
theorem one_10 : OneTy Try.prog 10 := oneTy_of Try.underlying10 rfl (by kernel_rfl)
theorem zt_10 : ZeroTy Try.prog 10 [.str []] := zeroTy_of (z := .string ByteArray.empty) (by kernel_rfl) rfl
theorem zv_11 : ZvTy Try.prog 11 (.str []) := zvTy_of (z := .string ByteArray.empty) (by kernel_rfl) rfl
theorem one_11 : OneTy Try.prog 11 := oneTy_of Try.underlying11 rfl (by kernel_rfl)
theorem zt_11 : ZeroTy Try.prog 11 [.str []] := zeroTy_of (z := .string ByteArray.empty) (by kernel_rfl) rfl
theorem zv_12 : ZvTy Try.prog 12 (.int .u64 0) := zvTy_of (z := .int .u64 0) (by kernel_rfl) rfl
theorem one_12 : OneTy Try.prog 12 := oneTy_of Try.underlying12 rfl (by kernel_rfl)
theorem zt_12 : ZeroTy Try.prog 12 [.int .u64 0] := zeroTy_of (z := .int .u64 0) (by kernel_rfl) rfl
theorem zv_13 : ZvTy Try.prog 13 (.agg [.str [], .int .u64 0]) := zvTy_of (z := .agg #[.string ByteArray.empty, .int .u64 0]) (by kernel_rfl) rfl
theorem agg_13 : AggTy Try.prog 13 2 := aggTy_of Try.underlying13 rfl (by kernel_rfl)
theorem fi_13_0 : FiTy Try.prog 13 0 0 := fiTy_of (k := 1) Try.underlying13 rfl rfl (by kernel_rfl) (by decide)
theorem fi_13_1 : FiTy Try.prog 13 1 1 := fiTy_of (k := 1) Try.underlying13 rfl rfl (by kernel_rfl) (by decide)
theorem zt_13 : ZeroTy Try.prog 13 [.str [], .int .u64 0] := zeroTy_of (z := .agg #[.string ByteArray.empty, .int .u64 0]) (by kernel_rfl) rfl
theorem bt_13 : BuildTy Try.prog 13 (fun i => match i with | 0 => some (0, 1) | 1 => some (1, 1) | _ => none) [.str [], .int .u64 0] := ⟨.agg #[.string ByteArray.empty, .int .u64 0], rfl, fun parts => by
  have h : Try.prog.built 13 parts = Instr.fill (#[(0, 1), (1, 1)][·]?) ((.agg #[.string ByteArray.empty, .int .u64 0] : Value)).cells parts := by kernel_rfl
  have hp : (fun i => (#[(0, 1), (1, 1)] : Array (Nat × Nat))[i]?) = (fun i => match i with | 0 => some (0, 1) | 1 => some (1, 1) | _ => none) := by
    funext i
    rcases i with _ | _ | _ <;> rfl
  rw [h, hp]⟩
theorem zv_14 : ZvTy Try.prog 14 (.agg [.str [], .int .u64 0]) := zvTy_of (z := .agg #[.string ByteArray.empty, .int .u64 0]) (by kernel_rfl) rfl
theorem agg_14 : AggTy Try.prog 14 2 := aggTy_of Try.underlying14 rfl (by kernel_rfl)
theorem fi_14_0 : FiTy Try.prog 14 0 0 := fiTy_of (k := 1) Try.underlying14 rfl rfl (by kernel_rfl) (by decide)
theorem fi_14_1 : FiTy Try.prog 14 1 1 := fiTy_of (k := 1) Try.underlying14 rfl rfl (by kernel_rfl) (by decide)
theorem zt_14 : ZeroTy Try.prog 14 [.str [], .int .u64 0] := zeroTy_of (z := .agg #[.string ByteArray.empty, .int .u64 0]) (by kernel_rfl) rfl
theorem bt_14 : BuildTy Try.prog 14 (fun i => match i with | 0 => some (0, 1) | 1 => some (1, 1) | _ => none) [.str [], .int .u64 0] := ⟨.agg #[.string ByteArray.empty, .int .u64 0], rfl, fun parts => by
  have h : Try.prog.built 14 parts = Instr.fill (#[(0, 1), (1, 1)][·]?) ((.agg #[.string ByteArray.empty, .int .u64 0] : Value)).cells parts := by kernel_rfl
  have hp : (fun i => (#[(0, 1), (1, 1)] : Array (Nat × Nat))[i]?) = (fun i => match i with | 0 => some (0, 1) | 1 => some (1, 1) | _ => none) := by
    funext i
    rcases i with _ | _ | _ <;> rfl
  rw [h, hp]⟩
theorem zv_21 : ZvTy Try.prog 21 (.int .i32 0) := zvTy_of (z := .int .i32 0) (by kernel_rfl) rfl
theorem one_21 : OneTy Try.prog 21 := oneTy_of Try.underlying21 rfl (by kernel_rfl)
theorem zt_21 : ZeroTy Try.prog 21 [.int .i32 0] := zeroTy_of (z := .int .i32 0) (by kernel_rfl) rfl
theorem zv_22 : ZvTy Try.prog 22 (.agg [.int .i64 0, .int .i64 0]) := zvTy_of (z := .agg #[.int .i64 0, .int .i64 0]) (by kernel_rfl) rfl
theorem agg_22 : AggTy Try.prog 22 2 := aggTy_of Try.underlying22 rfl (by kernel_rfl)
theorem arr_22 : ArTy Try.prog 22 2 1 := arTy_of Try.underlying22 (by kernel_rfl)
theorem zt_22 : ZeroTy Try.prog 22 [.int .i64 0, .int .i64 0] := zeroTy_of (z := .agg #[.int .i64 0, .int .i64 0]) (by kernel_rfl) rfl
theorem bt_22 : BuildTy Try.prog 22 (fun i => some (i * 1, 1)) [.int .i64 0, .int .i64 0] := ⟨.agg #[.int .i64 0, .int .i64 0], rfl, fun parts => by kernel_rfl⟩
theorem zv_34 : ZvTy Try.prog 34 (.agg [.int .i64 0, .int .i64 0]) := zvTy_of (z := .agg #[.int .i64 0, .int .i64 0]) (by kernel_rfl) rfl
theorem agg_34 : AggTy Try.prog 34 2 := aggTy_of Try.underlying34 rfl (by kernel_rfl)
theorem arr_34 : ArTy Try.prog 34 2 1 := arTy_of Try.underlying34 (by kernel_rfl)
theorem zt_34 : ZeroTy Try.prog 34 [.int .i64 0, .int .i64 0] := zeroTy_of (z := .agg #[.int .i64 0, .int .i64 0]) (by kernel_rfl) rfl
theorem bt_34 : BuildTy Try.prog 34 (fun i => some (i * 1, 1)) [.int .i64 0, .int .i64 0] := ⟨.agg #[.int .i64 0, .int .i64 0], rfl, fun parts => by kernel_rfl⟩
theorem zv_40 : ZvTy Try.prog 40 (.int .u64 0) := zvTy_of (z := .int .u64 0) (by kernel_rfl) rfl
theorem one_40 : OneTy Try.prog 40 := oneTy_of Try.underlying40 rfl (by kernel_rfl)
theorem zt_40 : ZeroTy Try.prog 40 [.int .u64 0] := zeroTy_of (z := .int .u64 0) (by kernel_rfl) rfl
theorem zv_42 : ZvTy Try.prog 42 (.int .u32 0) := zvTy_of (z := .int .u32 0) (by kernel_rfl) rfl
theorem one_42 : OneTy Try.prog 42 := oneTy_of Try.underlying42 rfl (by kernel_rfl)
theorem zt_42 : ZeroTy Try.prog 42 [.int .u32 0] := zeroTy_of (z := .int .u32 0) (by kernel_rfl) rfl
theorem zv_44 : ZvTy Try.prog 44 (.int .u64 0) := zvTy_of (z := .int .u64 0) (by kernel_rfl) rfl
theorem one_44 : OneTy Try.prog 44 := oneTy_of Try.underlying44 rfl (by kernel_rfl)
theorem zt_44 : ZeroTy Try.prog 44 [.int .u64 0] := zeroTy_of (z := .int .u64 0) (by kernel_rfl) rfl
theorem zv_53 : ZvTy Try.prog 53 (.int .u8 0) := zvTy_of (z := .int .u8 0) (by kernel_rfl) rfl
theorem one_53 : OneTy Try.prog 53 := oneTy_of Try.underlying53 rfl (by kernel_rfl)
theorem zt_53 : ZeroTy Try.prog 53 [.int .u8 0] := zeroTy_of (z := .int .u8 0) (by kernel_rfl) rfl

theorem flp_7 : ∃ fs, Try.prog.underlying 7 = some (.struct fs) ∧ ∀ (f : Nat) (off ft : Nat), ([(0, 2), (1, 3), (2, 4), (3, 6)] : List (Nat × Nat))[f]? = some (off, ft) → (∃ fd : Field, fs[f]? = some fd ∧ fd.offset = off ∧ fd.type = ft) ∧ FiTy Try.prog 7 f off := by
  refine ⟨_, Try.underlying7, fun f off ft h => ?_⟩
  rcases f with _ | _ | _ | _ | f
  · simp at h; obtain ⟨rfl, rfl⟩ := h; exact ⟨⟨_, rfl, rfl, rfl⟩, fi_7_0⟩
  · simp at h; obtain ⟨rfl, rfl⟩ := h; exact ⟨⟨_, rfl, rfl, rfl⟩, fi_7_1⟩
  · simp at h; obtain ⟨rfl, rfl⟩ := h; exact ⟨⟨_, rfl, rfl, rfl⟩, fi_7_2⟩
  · simp at h; obtain ⟨rfl, rfl⟩ := h; exact ⟨⟨_, rfl, rfl, rfl⟩, fi_7_3⟩
  · simp at h

def pl_7 : Nat → Option (Nat × Nat) := (fun i => match i with | 0 => some (0, 1) | 1 => some (1, 1) | 2 => some (2, 1) | 3 => some (3, 1) | _ => none)

theorem flp_8 : ∃ fs, Try.prog.underlying 8 = some (.struct fs) ∧ ∀ (f : Nat) (off ft : Nat), ([(0, 2), (1, 3), (2, 4), (3, 6)] : List (Nat × Nat))[f]? = some (off, ft) → (∃ fd : Field, fs[f]? = some fd ∧ fd.offset = off ∧ fd.type = ft) ∧ FiTy Try.prog 8 f off := by
  refine ⟨_, Try.underlying8, fun f off ft h => ?_⟩
  rcases f with _ | _ | _ | _ | f
  · simp at h; obtain ⟨rfl, rfl⟩ := h; exact ⟨⟨_, rfl, rfl, rfl⟩, fi_8_0⟩
  · simp at h; obtain ⟨rfl, rfl⟩ := h; exact ⟨⟨_, rfl, rfl, rfl⟩, fi_8_1⟩
  · simp at h; obtain ⟨rfl, rfl⟩ := h; exact ⟨⟨_, rfl, rfl, rfl⟩, fi_8_2⟩
  · simp at h; obtain ⟨rfl, rfl⟩ := h; exact ⟨⟨_, rfl, rfl, rfl⟩, fi_8_3⟩
  · simp at h

def pl_8 : Nat → Option (Nat × Nat) := (fun i => match i with | 0 => some (0, 1) | 1 => some (1, 1) | 2 => some (2, 1) | 3 => some (3, 1) | _ => none)

theorem flp_13 : ∃ fs, Try.prog.underlying 13 = some (.struct fs) ∧ ∀ (f : Nat) (off ft : Nat), ([(0, 9), (1, 12)] : List (Nat × Nat))[f]? = some (off, ft) → (∃ fd : Field, fs[f]? = some fd ∧ fd.offset = off ∧ fd.type = ft) ∧ FiTy Try.prog 13 f off := by
  refine ⟨_, Try.underlying13, fun f off ft h => ?_⟩
  rcases f with _ | _ | f
  · simp at h; obtain ⟨rfl, rfl⟩ := h; exact ⟨⟨_, rfl, rfl, rfl⟩, fi_13_0⟩
  · simp at h; obtain ⟨rfl, rfl⟩ := h; exact ⟨⟨_, rfl, rfl, rfl⟩, fi_13_1⟩
  · simp at h

def pl_13 : Nat → Option (Nat × Nat) := (fun i => match i with | 0 => some (0, 1) | 1 => some (1, 1) | _ => none)

theorem flp_14 : ∃ fs, Try.prog.underlying 14 = some (.struct fs) ∧ ∀ (f : Nat) (off ft : Nat), ([(0, 9), (1, 12)] : List (Nat × Nat))[f]? = some (off, ft) → (∃ fd : Field, fs[f]? = some fd ∧ fd.offset = off ∧ fd.type = ft) ∧ FiTy Try.prog 14 f off := by
  refine ⟨_, Try.underlying14, fun f off ft h => ?_⟩
  rcases f with _ | _ | f
  · simp at h; obtain ⟨rfl, rfl⟩ := h; exact ⟨⟨_, rfl, rfl, rfl⟩, fi_14_0⟩
  · simp at h; obtain ⟨rfl, rfl⟩ := h; exact ⟨⟨_, rfl, rfl, rfl⟩, fi_14_1⟩
  · simp at h

def pl_14 : Nat → Option (Nat × Nat) := (fun i => match i with | 0 => some (0, 1) | 1 => some (1, 1) | _ => none)

def pl_22 : Nat → Option (Nat × Nat) := (fun i => some (i * 1, 1))

def pl_34 : Nat → Option (Nat × Nat) := (fun i => some (i * 1, 1))


def kdL : List (Nat × (TK)) := [(2, .int .i64), (3, .int .i64), (4, .bool), (5, .int .u8), (6, .int .u8), (9, .str), (10, .str), (11, .str), (12, .int .u64), (21, .int .i32), (40, .int .u64), (42, .int .u32), (44, .int .u64), (53, .int .u8)]
def slL : List (Nat × (Nat × Nat × Nat × List PV)) := []
def oneL : List (Nat × (Unit)) := [(2, ()), (3, ()), (4, ()), (5, ()), (6, ()), (9, ()), (10, ()), (11, ()), (12, ()), (21, ()), (40, ()), (42, ()), (44, ()), (53, ())]
def aggL : List (Nat × (Nat)) := [(7, 4), (8, 4), (13, 2), (14, 2), (22, 2), (34, 2)]
def arrL : List (Nat × (Nat × Nat)) := [(22, 2, 1), (34, 2, 1)]
def areL : List (Nat × (Nat × Nat)) := [(22, 2, 3), (34, 2, 3)]
def flL : List (Nat × (List (Nat × Nat))) := [(7, [(0, 2), (1, 3), (2, 4), (3, 6)]), (8, [(0, 2), (1, 3), (2, 4), (3, 6)]), (13, [(0, 9), (1, 12)]), (14, [(0, 9), (1, 12)])]
def ztL : List (Nat × (List PV)) := [(2, [.int .i64 0]), (3, [.int .i64 0]), (4, [.bool false]), (5, [.int .u8 0]), (6, [.int .u8 0]), (7, [.int .i64 0, .int .i64 0, .bool false, .int .u8 0]), (8, [.int .i64 0, .int .i64 0, .bool false, .int .u8 0]), (9, [.str []]), (10, [.str []]), (11, [.str []]), (12, [.int .u64 0]), (13, [.str [], .int .u64 0]), (14, [.str [], .int .u64 0]), (21, [.int .i32 0]), (22, [.int .i64 0, .int .i64 0]), (34, [.int .i64 0, .int .i64 0]), (40, [.int .u64 0]), (42, [.int .u32 0]), (44, [.int .u64 0]), (53, [.int .u8 0])]
def btL : List (Nat × ((Nat → Option (Nat × Nat)) × List PV)) := [(7, pl_7, [.int .i64 0, .int .i64 0, .bool false, .int .u8 0]), (8, pl_8, [.int .i64 0, .int .i64 0, .bool false, .int .u8 0]), (13, pl_13, [.str [], .int .u64 0]), (14, pl_14, [.str [], .int .u64 0]), (22, pl_22, [.int .i64 0, .int .i64 0]), (34, pl_34, [.int .i64 0, .int .i64 0])]
def mpL : List (Nat × (Nat × Nat)) := []
def zvL : List (Nat × (PV)) := [(2, .int .i64 0), (3, .int .i64 0), (4, .bool false), (5, .int .u8 0), (6, .int .u8 0), (7, .agg [.int .i64 0, .int .i64 0, .bool false, .int .u8 0]), (8, .agg [.int .i64 0, .int .i64 0, .bool false, .int .u8 0]), (9, .str []), (10, .str []), (11, .str []), (12, .int .u64 0), (13, .agg [.str [], .int .u64 0]), (14, .agg [.str [], .int .u64 0]), (21, .int .i32 0), (22, .agg [.int .i64 0, .int .i64 0]), (34, .agg [.int .i64 0, .int .i64 0]), (40, .int .u64 0), (42, .int .u32 0), (44, .int .u64 0), (53, .int .u8 0)]
def tf : TF Try.prog where
  kd := kdL
  sl := slL
  one := oneL
  agg := aggL
  arr := arrL
  are := areL
  fl := flL
  zt := ztL
  bt := btL
  mp := mpL
  zv := zvL
  mix := by kernel_rfl
  kd_ok := ⟨Try.underlying2, Try.underlying3, Try.underlying4, Try.underlying5, Try.underlying6, Try.underlying9, Try.underlying10, Try.underlying11, Try.underlying12, Try.underlying21, Try.underlying40, Try.underlying42, Try.underlying44, Try.underlying53, trivial⟩
  sl_ok := trivial
  one_ok := ⟨one_2, one_3, one_4, one_5, one_6, one_9, one_10, one_11, one_12, one_21, one_40, one_42, one_44, one_53, trivial⟩
  agg_ok := ⟨agg_7, agg_8, agg_13, agg_14, agg_22, agg_34, trivial⟩
  arr_ok := ⟨arr_22, arr_34, trivial⟩
  are_ok := ⟨Try.underlying22, Try.underlying34, trivial⟩
  fl_ok := ⟨flp_7, flp_8, flp_13, flp_14, trivial⟩
  zt_ok := ⟨zt_2, zt_3, zt_4, zt_5, zt_6, zt_7, zt_8, zt_9, zt_10, zt_11, zt_12, zt_13, zt_14, zt_21, zt_22, zt_34, zt_40, zt_42, zt_44, zt_53, trivial⟩
  bt_ok := ⟨bt_7, bt_8, bt_13, bt_14, bt_22, bt_34, trivial⟩
  mp_ok := trivial
  zv_ok := ⟨zv_2, zv_3, zv_4, zv_5, zv_6, zv_7, zv_8, zv_9, zv_10, zv_11, zv_12, zv_13, zv_14, zv_21, zv_22, zv_34, zv_40, zv_42, zv_44, zv_53, trivial⟩

end Go.Proofs.Ytbddhdbieelpjaa.Tf
