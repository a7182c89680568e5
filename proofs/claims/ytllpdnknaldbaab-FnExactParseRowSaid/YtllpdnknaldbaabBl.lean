/- Contracts of functions, walked over the pure layer; each says for which arguments. -/
import Derived.Test.YtllpdnknaldbaabBlTy
import Derived.Shelf.Strings.BuilderRune
namespace Go.Proofs.Ytllpdnknaldbaab
open Go.RowKit BlTy
set_option linter.unusedVariables false
set_option linter.unusedSimpArgs false

open Go.Shelf in
theorem cells_app (a b : List UInt8) : Lib.byteCells (a ++ b) = Lib.byteCells a ++ Lib.byteCells b := by simp [Lib.byteCells]
theorem cells_str (s : List UInt8) : Lib.strCells ⟨s.toArray⟩ = Lib.byteCells s := by simp [Lib.strCells, Lib.byteCells]
theorem enc1 (r : Int) (h0 : 0 ≤ r) (h1 : r < 128) : Lib.encodeRune r = [r.toNat.toUInt8] := by
  unfold Lib.encodeRune Lib.encodeRuneZ
  first | (rw [if_pos (by omega)]; rfl) | (rw [if_pos ⟨by omega, by omega⟩]; rfl) | (simp; omega)

open Go.Shelf in
def bl168_ren : Go.Shelf.Ren := ⟨fun | 168 => 23 | 240 => 35 | 242 => 36 | 276 => 45 | 278 => 46 | n => n, fun | 0 => 0 | 3 => 3 | 4 => 4 | 5 => 5 | 9 => 9 | 20 => 20 | 21 => 21 | 37 => 38 | 46 => 59 | 51 => 69 | 70 => 37 | 72 => 40 | 75 => 43 | 127 => 55 | 164 => 67 | 80 => 46 | n => n, fun | n => n⟩
open Go.Shelf in
theorem bl168 : Go.Proofs.Lays.n168 Try.prog bl168_ren := { mixed := by kernel_rfl, f168 := Try.func23.trans (congrArg some (by kernel_rfl)), f240 := Try.func35.trans (congrArg some (by kernel_rfl)), f242 := Try.func36.trans (congrArg some (by kernel_rfl)), f276 := Try.func45.trans (congrArg some (by kernel_rfl)), f278 := Try.func46.trans (congrArg some (by kernel_rfl)), t0 := Try.underlying0, a0 := Try.isAgg0, z0 := Try.sizeOf0, v0 := Try.zeroValue0, t3 := Try.underlying3, a3 := Try.isAgg3, z3 := Try.sizeOf3, v3 := Try.zeroValue3, t4 := Try.underlying4, a4 := Try.isAgg4, z4 := Try.sizeOf4, v4 := Try.zeroValue4, t5 := Try.underlying5, a5 := Try.isAgg5, z5 := Try.sizeOf5, v5 := Try.zeroValue5, t9 := Try.underlying9, a9 := Try.isAgg9, z9 := Try.sizeOf9, v9 := Try.zeroValue9, t20 := Try.underlying20, a20 := Try.isAgg20, z20 := Try.sizeOf20, v20 := Try.zeroValue20, t21 := Try.underlying21, a21 := Try.isAgg21, z21 := Try.sizeOf21, v21 := Try.zeroValue21, t37 := Try.underlying38, a37 := Try.isAgg38, z37 := Try.sizeOf38, v37 := Try.zeroValue38, t46 := Try.underlying59, a46 := Try.isAgg59, z46 := Try.sizeOf59, v46 := Try.zeroValue59, t51 := Try.underlying69, a51 := Try.isAgg69, z51 := Try.sizeOf69, v51 := Try.zeroValue69, t70 := Try.underlying37, a70 := Try.isAgg37, z70 := Try.sizeOf37, v70 := Try.zeroValue37, t72 := Try.underlying40, a72 := Try.isAgg40, z72 := Try.sizeOf40, v72 := Try.zeroValue40, t75 := Try.underlying43, a75 := Try.isAgg43, z75 := Try.sizeOf43, v75 := Try.zeroValue43, t164 := Try.underlying67, a164 := Try.isAgg67, z164 := Try.sizeOf67, v164 := Try.zeroValue67 }
open Go.Shelf in
theorem blx168 : Builder.Extra Try.prog bl168_ren := { sizeBuilder := by kernel_rfl, liesBuilder := by kernel_rfl, t5 := Try.underlying5, a5 := Try.isAgg5, z5 := Try.sizeOf5, v5 := Try.zeroValue5, infoByte := by kernel_rfl, cellsByte := by kernel_rfl, sizeByte := by kernel_rfl, neB5 := by decide }

theorem bWriteRune_c (s : List UInt8) (r : Int) (h0 : -2147483648 ≤ r) (h1 : r ≤ 2147483647) (hl : s.length + 4 ≤ 140737488355328) : BCalls Try.prog 23 40 5 [.int .i32 r] s (s ++ Lib.encodeRune r) [.val (.int .i64 (Lib.encodeRune r).length), .dead] :=
  ⟨enters_of Try.func23 (by kernel_rfl) rfl, fun w B b vs h hB ha => by
  obtain ⟨v0, r0, rfl, ha0, ha⟩ := repArgs_cons ha
  obtain rfl := repArgs_nil ha
  simp only [Rep] at ha0
  subst ha0
  refine (Any.Builder_WriteRune_k bl168 blx168 B b (Lib.byteCells s) r h0 h1 w h (by rw [Lib.byteCells_length]; exact hl) hB).mono fun e w' ⟨he, hb, h2, h3⟩ => ⟨[.int .i64 (Lib.encodeRune r).length, .nilIface], ?_, ⟨_, _, rfl, by simp [Rep], _, _, rfl, rfl⟩, ?_, h2, h3⟩
  · rw [he, Lib.runeCells_length]; rfl
  · rw [cells_app, Lib.byteCells_encodeRune]; exact .inr hb⟩

open Go.Shelf in
def bl166_ren : Go.Shelf.Ren := ⟨fun | 166 => 42 | 240 => 35 | 276 => 45 | n => n, fun | 0 => 0 | 3 => 3 | 4 => 4 | 5 => 5 | 9 => 9 | 20 => 20 | 21 => 21 | 37 => 38 | 46 => 59 | 51 => 69 | 70 => 37 | 72 => 40 | 75 => 43 | 127 => 55 | 164 => 67 | 80 => 46 | n => n, fun | n => n⟩
open Go.Shelf in
theorem bl166 : Go.Proofs.Lays.n166 Try.prog bl166_ren := { mixed := by kernel_rfl, f166 := Try.func42.trans (congrArg some (by kernel_rfl)), f240 := Try.func35.trans (congrArg some (by kernel_rfl)), f276 := Try.func45.trans (congrArg some (by kernel_rfl)), t0 := Try.underlying0, a0 := Try.isAgg0, z0 := Try.sizeOf0, v0 := Try.zeroValue0, t3 := Try.underlying3, a3 := Try.isAgg3, z3 := Try.sizeOf3, v3 := Try.zeroValue3, t4 := Try.underlying4, a4 := Try.isAgg4, z4 := Try.sizeOf4, v4 := Try.zeroValue4, t9 := Try.underlying9, a9 := Try.isAgg9, z9 := Try.sizeOf9, v9 := Try.zeroValue9, t20 := Try.underlying20, a20 := Try.isAgg20, z20 := Try.sizeOf20, v20 := Try.zeroValue20, t37 := Try.underlying38, a37 := Try.isAgg38, z37 := Try.sizeOf38, v37 := Try.zeroValue38, t70 := Try.underlying37, a70 := Try.isAgg37, z70 := Try.sizeOf37, v70 := Try.zeroValue37, t72 := Try.underlying40, a72 := Try.isAgg40, z72 := Try.sizeOf40, v72 := Try.zeroValue40, t75 := Try.underlying43, a75 := Try.isAgg43, z75 := Try.sizeOf43, v75 := Try.zeroValue43, t164 := Try.underlying67, a164 := Try.isAgg67, z164 := Try.sizeOf67, v164 := Try.zeroValue67 }
open Go.Shelf in
theorem blx166 : Builder.Extra Try.prog bl166_ren := { sizeBuilder := by kernel_rfl, liesBuilder := by kernel_rfl, t5 := Try.underlying5, a5 := Try.isAgg5, z5 := Try.sizeOf5, v5 := Try.zeroValue5, infoByte := by kernel_rfl, cellsByte := by kernel_rfl, sizeByte := by kernel_rfl, neB5 := by decide }

theorem bWriteString_c (s x : List UInt8) (hl : s.length + x.length ≤ 140737488355328) : BCalls Try.prog 42 40 5 [.str x] s (s ++ x) [.val (.int .i64 x.length), .dead] :=
  ⟨enters_of Try.func42 (by kernel_rfl) rfl, fun w B b vs h hB ha => by
  obtain ⟨v0, r0, rfl, ha0, ha⟩ := repArgs_cons ha
  obtain rfl := repArgs_nil ha
  simp only [Rep] at ha0
  subst ha0
  refine (Any.Builder_WriteString_k bl166 blx166 B b (Lib.byteCells s) ⟨x.toArray⟩ w h (by rw [Lib.byteCells_length]; simpa [ByteArray.size] using hl) hB).mono fun e w' ⟨he, hb, h2, h3⟩ => ⟨[.int .i64 x.length, .nilIface], ?_, ⟨_, _, rfl, by simp [Rep], _, _, rfl, rfl⟩, ?_, h2, h3⟩
  · rw [he]; simp [packV, ByteArray.size]
  · rw [cells_app, ← cells_str]; exact .inr hb⟩

open Go.Shelf in
def bl169_ren : Go.Shelf.Ren := ⟨fun | 169 => 24 | n => n, fun | 0 => 0 | 3 => 3 | 4 => 4 | 5 => 5 | 9 => 9 | 20 => 20 | 21 => 21 | 37 => 38 | 46 => 59 | 51 => 69 | 70 => 37 | 72 => 40 | 75 => 43 | 127 => 55 | 164 => 67 | 80 => 46 | n => n, fun | n => n⟩
open Go.Shelf in
theorem bl169 : Go.Proofs.Lays.n169 Try.prog bl169_ren := { mixed := by kernel_rfl, f169 := Try.func24.trans (congrArg some (by kernel_rfl)), t0 := Try.underlying0, a0 := Try.isAgg0, z0 := Try.sizeOf0, v0 := Try.zeroValue0, t3 := Try.underlying3, a3 := Try.isAgg3, z3 := Try.sizeOf3, v3 := Try.zeroValue3, t9 := Try.underlying9, a9 := Try.isAgg9, z9 := Try.sizeOf9, v9 := Try.zeroValue9, t37 := Try.underlying38, a37 := Try.isAgg38, z37 := Try.sizeOf38, v37 := Try.zeroValue38, t70 := Try.underlying37, a70 := Try.isAgg37, z70 := Try.sizeOf37, v70 := Try.zeroValue37, t72 := Try.underlying40, a72 := Try.isAgg40, z72 := Try.sizeOf40, v72 := Try.zeroValue40, t127 := Try.underlying55, a127 := Try.isAgg55, z127 := Try.sizeOf55, v127 := Try.zeroValue55 }
open Go.Shelf in
theorem blx169 : Builder.Extra Try.prog bl169_ren := { sizeBuilder := by kernel_rfl, liesBuilder := by kernel_rfl, t5 := Try.underlying5, a5 := Try.isAgg5, z5 := Try.sizeOf5, v5 := Try.zeroValue5, infoByte := by kernel_rfl, cellsByte := by kernel_rfl, sizeByte := by kernel_rfl, neB5 := by decide }

theorem bString_c (s : List UInt8) : BCalls Try.prog 24 40 5 [] s s [.val (.str s)] :=
  ⟨enters_of Try.func24 (by kernel_rfl) rfl, fun w B b vs h hB ha => by
  obtain rfl := repArgs_nil ha
  exact (Any.Builder_String_any_k bl169 blx169 B b s w h hB).mono fun e w' ⟨he, hb, h2, h3⟩ => ⟨[.string ⟨s.toArray⟩], he, ⟨_, _, rfl, by simp [Rep], rfl⟩, hb, h2, h3⟩⟩

end Go.Proofs.Ytllpdnknaldbaab
