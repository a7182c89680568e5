/- Contracts of functions, walked over the pure layer; each says for which arguments. -/
import Derived.Test.YtafeflonhbgbkaaGreatDoorBlTy
import Derived.Shelf.Strings.BuilderRune
import Derived.Test.YtafeflonhbgbkaaGreatDoorTf
namespace Go.Proofs.YtafeflonhbgbkaaGreatDoor
open Go.RowKit BlTy
set_option linter.unusedVariables false
set_option linter.unusedSimpArgs false

open Go.Shelf in
theorem cells_app (a b : List UInt8) : Lib.byteCells (a ++ b) = Lib.byteCells a ++ Lib.byteCells b := by simp [Lib.byteCells]
theorem cells_str (s : List UInt8) : Lib.strCells ⟨s.toArray⟩ = Lib.byteCells s := by simp [Lib.strCells, Lib.byteCells]
theorem enc1 (r : Int) (h0 : 0 ≤ r) (h1 : r < 128) : Lib.encodeRune r = [r.toNat.toUInt8] := by
  unfold Lib.encodeRune Lib.encodeRuneZ
  first | (rw [if_pos (by omega)]; rfl) | (rw [if_pos ⟨by omega, by omega⟩]; rfl) | (simp; omega)

open Go.Shelf in
def bl168_ren : Go.Shelf.Ren := ⟨fun | 168 => 74 | 240 => 86 | 242 => 87 | 276 => 95 | 278 => 96 | n => n, fun | 0 => 0 | 3 => 3 | 4 => 4 | 5 => 5 | 9 => 9 | 20 => 20 | 21 => 21 | 37 => 22 | 46 => 55 | 51 => 68 | 70 => 70 | 72 => 72 | 75 => 75 | 127 => 88 | 164 => 94 | 80 => 78 | n => n, fun | n => n⟩
open Go.Shelf in
theorem bl168 : Go.Proofs.Lays.n168 Tryz.prog bl168_ren := { mixed := by kernel_rfl, f168 := Tryz.func74.trans (congrArg some (by kernel_rfl)), f240 := Tryz.func86.trans (congrArg some (by kernel_rfl)), f242 := Tryz.func87.trans (congrArg some (by kernel_rfl)), f276 := Tryz.func95.trans (congrArg some (by kernel_rfl)), f278 := Tryz.func96.trans (congrArg some (by kernel_rfl)), t0 := Tryz.underlying0, a0 := Tryz.isAgg0, z0 := Tryz.sizeOf0, v0 := Tryz.zeroValue0, t3 := Tryz.underlying3, a3 := Tryz.isAgg3, z3 := Tryz.sizeOf3, v3 := Tryz.zeroValue3, t4 := Tryz.underlying4, a4 := Tryz.isAgg4, z4 := Tryz.sizeOf4, v4 := Tryz.zeroValue4, t5 := Tryz.underlying5, a5 := Tryz.isAgg5, z5 := Tryz.sizeOf5, v5 := Tryz.zeroValue5, t9 := Tryz.underlying9, a9 := Tryz.isAgg9, z9 := Tryz.sizeOf9, v9 := Tryz.zeroValue9, t20 := Tryz.underlying20, a20 := Tryz.isAgg20, z20 := Tryz.sizeOf20, v20 := Tryz.zeroValue20, t21 := Tryz.underlying21, a21 := Tryz.isAgg21, z21 := Tryz.sizeOf21, v21 := Tryz.zeroValue21, t37 := Tryz.underlying22, a37 := Tryz.isAgg22, z37 := Tryz.sizeOf22, v37 := Tryz.zeroValue22, t46 := Tryz.underlying55, a46 := Tryz.isAgg55, z46 := Tryz.sizeOf55, v46 := Tryz.zeroValue55, t51 := Tryz.underlying68, a51 := Tryz.isAgg68, z51 := Tryz.sizeOf68, v51 := Tryz.zeroValue68, t70 := Tryz.underlying70, a70 := Tryz.isAgg70, z70 := Tryz.sizeOf70, v70 := Tryz.zeroValue70, t72 := Tryz.underlying72, a72 := Tryz.isAgg72, z72 := Tryz.sizeOf72, v72 := Tryz.zeroValue72, t75 := Tryz.underlying75, a75 := Tryz.isAgg75, z75 := Tryz.sizeOf75, v75 := Tryz.zeroValue75, t164 := Tryz.underlying94, a164 := Tryz.isAgg94, z164 := Tryz.sizeOf94, v164 := Tryz.zeroValue94 }
open Go.Shelf in
theorem blx168 : Builder.Extra Tryz.prog bl168_ren := { sizeBuilder := by kernel_rfl, liesBuilder := by kernel_rfl, t5 := Tryz.underlying5, a5 := Tryz.isAgg5, z5 := Tryz.sizeOf5, v5 := Tryz.zeroValue5, infoByte := by kernel_rfl, cellsByte := by kernel_rfl, sizeByte := by kernel_rfl, neB5 := by decide }

theorem bWriteRune_c (s : List UInt8) (r : Int) (h0 : -2147483648 ≤ r) (h1 : r ≤ 2147483647) (hl : s.length + 4 ≤ 140737488355328) : BCalls Tryz.prog 74 72 5 [.int .i32 r] s (s ++ Lib.encodeRune r) [.val (.int .i64 (Lib.encodeRune r).length), .dead] :=
  ⟨enters_of Tryz.func74 (by kernel_rfl) rfl, fun w B b vs h hB ha => by
  obtain ⟨v0, r0, rfl, ha0, ha⟩ := repArgs_cons ha
  obtain rfl := repArgs_nil ha
  simp only [Rep] at ha0
  subst ha0
  refine (Any.Builder_WriteRune_k bl168 blx168 B b (Lib.byteCells s) r h0 h1 w h (by rw [Lib.byteCells_length]; exact hl) hB).mono fun e w' ⟨he, hb, h2, h3⟩ => ⟨[.int .i64 (Lib.encodeRune r).length, .nilIface], ?_, ⟨_, _, rfl, by simp [Rep], _, _, rfl, rfl⟩, ?_, h2, h3⟩
  · rw [he, Lib.runeCells_length]; rfl
  · rw [cells_app, Lib.byteCells_encodeRune]; exact .inr hb⟩

open Go.Shelf in
def bl166_ren : Go.Shelf.Ren := ⟨fun | 166 => 77 | 240 => 86 | 276 => 95 | n => n, fun | 0 => 0 | 3 => 3 | 4 => 4 | 5 => 5 | 9 => 9 | 20 => 20 | 21 => 21 | 37 => 22 | 46 => 55 | 51 => 68 | 70 => 70 | 72 => 72 | 75 => 75 | 127 => 88 | 164 => 94 | 80 => 78 | n => n, fun | n => n⟩
open Go.Shelf in
theorem bl166 : Go.Proofs.Lays.n166 Tryz.prog bl166_ren := { mixed := by kernel_rfl, f166 := Tryz.func77.trans (congrArg some (by kernel_rfl)), f240 := Tryz.func86.trans (congrArg some (by kernel_rfl)), f276 := Tryz.func95.trans (congrArg some (by kernel_rfl)), t0 := Tryz.underlying0, a0 := Tryz.isAgg0, z0 := Tryz.sizeOf0, v0 := Tryz.zeroValue0, t3 := Tryz.underlying3, a3 := Tryz.isAgg3, z3 := Tryz.sizeOf3, v3 := Tryz.zeroValue3, t4 := Tryz.underlying4, a4 := Tryz.isAgg4, z4 := Tryz.sizeOf4, v4 := Tryz.zeroValue4, t9 := Tryz.underlying9, a9 := Tryz.isAgg9, z9 := Tryz.sizeOf9, v9 := Tryz.zeroValue9, t20 := Tryz.underlying20, a20 := Tryz.isAgg20, z20 := Tryz.sizeOf20, v20 := Tryz.zeroValue20, t37 := Tryz.underlying22, a37 := Tryz.isAgg22, z37 := Tryz.sizeOf22, v37 := Tryz.zeroValue22, t70 := Tryz.underlying70, a70 := Tryz.isAgg70, z70 := Tryz.sizeOf70, v70 := Tryz.zeroValue70, t72 := Tryz.underlying72, a72 := Tryz.isAgg72, z72 := Tryz.sizeOf72, v72 := Tryz.zeroValue72, t75 := Tryz.underlying75, a75 := Tryz.isAgg75, z75 := Tryz.sizeOf75, v75 := Tryz.zeroValue75, t164 := Tryz.underlying94, a164 := Tryz.isAgg94, z164 := Tryz.sizeOf94, v164 := Tryz.zeroValue94 }
open Go.Shelf in
theorem blx166 : Builder.Extra Tryz.prog bl166_ren := { sizeBuilder := by kernel_rfl, liesBuilder := by kernel_rfl, t5 := Tryz.underlying5, a5 := Tryz.isAgg5, z5 := Tryz.sizeOf5, v5 := Tryz.zeroValue5, infoByte := by kernel_rfl, cellsByte := by kernel_rfl, sizeByte := by kernel_rfl, neB5 := by decide }

theorem bWriteString_c (s x : List UInt8) (hl : s.length + x.length ≤ 140737488355328) : BCalls Tryz.prog 77 72 5 [.str x] s (s ++ x) [.val (.int .i64 x.length), .dead] :=
  ⟨enters_of Tryz.func77 (by kernel_rfl) rfl, fun w B b vs h hB ha => by
  obtain ⟨v0, r0, rfl, ha0, ha⟩ := repArgs_cons ha
  obtain rfl := repArgs_nil ha
  simp only [Rep] at ha0
  subst ha0
  refine (Any.Builder_WriteString_k bl166 blx166 B b (Lib.byteCells s) ⟨x.toArray⟩ w h (by rw [Lib.byteCells_length]; simpa [ByteArray.size] using hl) hB).mono fun e w' ⟨he, hb, h2, h3⟩ => ⟨[.int .i64 x.length, .nilIface], ?_, ⟨_, _, rfl, by simp [Rep], _, _, rfl, rfl⟩, ?_, h2, h3⟩
  · rw [he]; simp [packV, ByteArray.size]
  · rw [cells_app, ← cells_str]; exact .inr hb⟩

open Go.Shelf in
def bl169_ren : Go.Shelf.Ren := ⟨fun | 169 => 75 | n => n, fun | 0 => 0 | 3 => 3 | 4 => 4 | 5 => 5 | 9 => 9 | 20 => 20 | 21 => 21 | 37 => 22 | 46 => 55 | 51 => 68 | 70 => 70 | 72 => 72 | 75 => 75 | 127 => 88 | 164 => 94 | 80 => 78 | n => n, fun | n => n⟩
open Go.Shelf in
theorem bl169 : Go.Proofs.Lays.n169 Tryz.prog bl169_ren := { mixed := by kernel_rfl, f169 := Tryz.func75.trans (congrArg some (by kernel_rfl)), t0 := Tryz.underlying0, a0 := Tryz.isAgg0, z0 := Tryz.sizeOf0, v0 := Tryz.zeroValue0, t3 := Tryz.underlying3, a3 := Tryz.isAgg3, z3 := Tryz.sizeOf3, v3 := Tryz.zeroValue3, t9 := Tryz.underlying9, a9 := Tryz.isAgg9, z9 := Tryz.sizeOf9, v9 := Tryz.zeroValue9, t37 := Tryz.underlying22, a37 := Tryz.isAgg22, z37 := Tryz.sizeOf22, v37 := Tryz.zeroValue22, t70 := Tryz.underlying70, a70 := Tryz.isAgg70, z70 := Tryz.sizeOf70, v70 := Tryz.zeroValue70, t72 := Tryz.underlying72, a72 := Tryz.isAgg72, z72 := Tryz.sizeOf72, v72 := Tryz.zeroValue72, t127 := Tryz.underlying88, a127 := Tryz.isAgg88, z127 := Tryz.sizeOf88, v127 := Tryz.zeroValue88 }
open Go.Shelf in
theorem blx169 : Builder.Extra Tryz.prog bl169_ren := { sizeBuilder := by kernel_rfl, liesBuilder := by kernel_rfl, t5 := Tryz.underlying5, a5 := Tryz.isAgg5, z5 := Tryz.sizeOf5, v5 := Tryz.zeroValue5, infoByte := by kernel_rfl, cellsByte := by kernel_rfl, sizeByte := by kernel_rfl, neB5 := by decide }

theorem bString_c (s : List UInt8) : BCalls Tryz.prog 75 72 5 [] s s [.val (.str s)] :=
  ⟨enters_of Tryz.func75 (by kernel_rfl) rfl, fun w B b vs h hB ha => by
  obtain rfl := repArgs_nil ha
  exact (Any.Builder_String_any_k bl169 blx169 B b s w h hB).mono fun e w' ⟨he, hb, h2, h3⟩ => ⟨[.string ⟨s.toArray⟩], he, ⟨_, _, rfl, by simp [Rep], rfl⟩, hb, h2, h3⟩⟩

end Go.Proofs.YtafeflonhbgbkaaGreatDoor
