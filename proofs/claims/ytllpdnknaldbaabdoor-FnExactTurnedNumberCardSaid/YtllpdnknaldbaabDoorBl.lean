/- Contracts of functions, walked over the pure layer; each says for which arguments. -/
import Derived.Test.YtllpdnknaldbaabDoorBlTy
import Derived.Shelf.Strings.BuilderRune
namespace Go.Proofs.YtllpdnknaldbaabDoor
open Go.RowKit BlTy
set_option linter.unusedVariables false
set_option linter.unusedSimpArgs false

open Go.Shelf in
theorem cells_app (a b : List UInt8) : Lib.byteCells (a ++ b) = Lib.byteCells a ++ Lib.byteCells b := by simp [Lib.byteCells]
theorem cells_str (s : List UInt8) : Lib.strCells ⟨s.toArray⟩ = Lib.byteCells s := by simp [Lib.strCells, Lib.byteCells]
theorem enc1 (r : Int) (h0 : 0 ≤ r) (h1 : r < 128) : Lib.encodeRune r = [r.toNat.toUInt8] := by
  unfold Lib.encodeRune Lib.encodeRuneZ
  first | (rw [if_pos (by omega)]; rfl) | (rw [if_pos ⟨by omega, by omega⟩]; rfl) | (simp; omega)

open Go.Shelf in
def bl168_ren : Go.Shelf.Ren := ⟨fun | 168 => 60 | 240 => 77 | 242 => 78 | 276 => 85 | 278 => 86 | n => n, fun | 0 => 0 | 3 => 3 | 4 => 4 | 5 => 5 | 9 => 9 | 20 => 20 | 21 => 21 | 37 => 30 | 46 => 56 | 51 => 74 | 70 => 57 | 72 => 59 | 75 => 62 | 127 => 77 | 164 => 82 | 80 => 65 | n => n, fun | n => n⟩
open Go.Shelf in
theorem bl168 : Go.Proofs.Lays.n168 Tryd.prog bl168_ren := { mixed := by kernel_rfl, f168 := Tryd.func60.trans (congrArg some (by kernel_rfl)), f240 := Tryd.func77.trans (congrArg some (by kernel_rfl)), f242 := Tryd.func78.trans (congrArg some (by kernel_rfl)), f276 := Tryd.func85.trans (congrArg some (by kernel_rfl)), f278 := Tryd.func86.trans (congrArg some (by kernel_rfl)), t0 := Tryd.underlying0, a0 := Tryd.isAgg0, z0 := Tryd.sizeOf0, v0 := Tryd.zeroValue0, t3 := Tryd.underlying3, a3 := Tryd.isAgg3, z3 := Tryd.sizeOf3, v3 := Tryd.zeroValue3, t4 := Tryd.underlying4, a4 := Tryd.isAgg4, z4 := Tryd.sizeOf4, v4 := Tryd.zeroValue4, t5 := Tryd.underlying5, a5 := Tryd.isAgg5, z5 := Tryd.sizeOf5, v5 := Tryd.zeroValue5, t9 := Tryd.underlying9, a9 := Tryd.isAgg9, z9 := Tryd.sizeOf9, v9 := Tryd.zeroValue9, t20 := Tryd.underlying20, a20 := Tryd.isAgg20, z20 := Tryd.sizeOf20, v20 := Tryd.zeroValue20, t21 := Tryd.underlying21, a21 := Tryd.isAgg21, z21 := Tryd.sizeOf21, v21 := Tryd.zeroValue21, t37 := Tryd.underlying30, a37 := Tryd.isAgg30, z37 := Tryd.sizeOf30, v37 := Tryd.zeroValue30, t46 := Tryd.underlying56, a46 := Tryd.isAgg56, z46 := Tryd.sizeOf56, v46 := Tryd.zeroValue56, t51 := Tryd.underlying74, a51 := Tryd.isAgg74, z51 := Tryd.sizeOf74, v51 := Tryd.zeroValue74, t70 := Tryd.underlying57, a70 := Tryd.isAgg57, z70 := Tryd.sizeOf57, v70 := Tryd.zeroValue57, t72 := Tryd.underlying59, a72 := Tryd.isAgg59, z72 := Tryd.sizeOf59, v72 := Tryd.zeroValue59, t75 := Tryd.underlying62, a75 := Tryd.isAgg62, z75 := Tryd.sizeOf62, v75 := Tryd.zeroValue62, t164 := Tryd.underlying82, a164 := Tryd.isAgg82, z164 := Tryd.sizeOf82, v164 := Tryd.zeroValue82 }
open Go.Shelf in
theorem blx168 : Builder.Extra Tryd.prog bl168_ren := { sizeBuilder := by kernel_rfl, liesBuilder := by kernel_rfl, t5 := Tryd.underlying5, a5 := Tryd.isAgg5, z5 := Tryd.sizeOf5, v5 := Tryd.zeroValue5, infoByte := by kernel_rfl, cellsByte := by kernel_rfl, sizeByte := by kernel_rfl, neB5 := by decide }

theorem bWriteRune_c (s : List UInt8) (r : Int) (h0 : -2147483648 ≤ r) (h1 : r ≤ 2147483647) (hl : s.length + 4 ≤ 140737488355328) : BCalls Tryd.prog 60 59 5 [.int .i32 r] s (s ++ Lib.encodeRune r) [.val (.int .i64 (Lib.encodeRune r).length), .dead] :=
  ⟨enters_of Tryd.func60 (by kernel_rfl) rfl, fun w B b vs h hB ha => by
  obtain ⟨v0, r0, rfl, ha0, ha⟩ := repArgs_cons ha
  obtain rfl := repArgs_nil ha
  simp only [Rep] at ha0
  subst ha0
  refine (Any.Builder_WriteRune_k bl168 blx168 B b (Lib.byteCells s) r h0 h1 w h (by rw [Lib.byteCells_length]; exact hl) hB).mono fun e w' ⟨he, hb, h2, h3⟩ => ⟨[.int .i64 (Lib.encodeRune r).length, .nilIface], ?_, ⟨_, _, rfl, by simp [Rep], _, _, rfl, rfl⟩, ?_, h2, h3⟩
  · rw [he, Lib.runeCells_length]; rfl
  · rw [cells_app, Lib.byteCells_encodeRune]; exact .inr hb⟩

open Go.Shelf in
def bl169_ren : Go.Shelf.Ren := ⟨fun | 169 => 61 | n => n, fun | 0 => 0 | 3 => 3 | 4 => 4 | 5 => 5 | 9 => 9 | 20 => 20 | 21 => 21 | 37 => 30 | 46 => 56 | 51 => 74 | 70 => 57 | 72 => 59 | 75 => 62 | 127 => 77 | 164 => 82 | 80 => 65 | n => n, fun | n => n⟩
open Go.Shelf in
theorem bl169 : Go.Proofs.Lays.n169 Tryd.prog bl169_ren := { mixed := by kernel_rfl, f169 := Tryd.func61.trans (congrArg some (by kernel_rfl)), t0 := Tryd.underlying0, a0 := Tryd.isAgg0, z0 := Tryd.sizeOf0, v0 := Tryd.zeroValue0, t3 := Tryd.underlying3, a3 := Tryd.isAgg3, z3 := Tryd.sizeOf3, v3 := Tryd.zeroValue3, t9 := Tryd.underlying9, a9 := Tryd.isAgg9, z9 := Tryd.sizeOf9, v9 := Tryd.zeroValue9, t37 := Tryd.underlying30, a37 := Tryd.isAgg30, z37 := Tryd.sizeOf30, v37 := Tryd.zeroValue30, t70 := Tryd.underlying57, a70 := Tryd.isAgg57, z70 := Tryd.sizeOf57, v70 := Tryd.zeroValue57, t72 := Tryd.underlying59, a72 := Tryd.isAgg59, z72 := Tryd.sizeOf59, v72 := Tryd.zeroValue59, t127 := Tryd.underlying77, a127 := Tryd.isAgg77, z127 := Tryd.sizeOf77, v127 := Tryd.zeroValue77 }
open Go.Shelf in
theorem blx169 : Builder.Extra Tryd.prog bl169_ren := { sizeBuilder := by kernel_rfl, liesBuilder := by kernel_rfl, t5 := Tryd.underlying5, a5 := Tryd.isAgg5, z5 := Tryd.sizeOf5, v5 := Tryd.zeroValue5, infoByte := by kernel_rfl, cellsByte := by kernel_rfl, sizeByte := by kernel_rfl, neB5 := by decide }

theorem bString_c (s : List UInt8) : BCalls Tryd.prog 61 59 5 [] s s [.val (.str s)] :=
  ⟨enters_of Tryd.func61 (by kernel_rfl) rfl, fun w B b vs h hB ha => by
  obtain rfl := repArgs_nil ha
  exact (Any.Builder_String_any_k bl169 blx169 B b s w h hB).mono fun e w' ⟨he, hb, h2, h3⟩ => ⟨[.string ⟨s.toArray⟩], he, ⟨_, _, rfl, by simp [Rep], rfl⟩, hb, h2, h3⟩⟩

end Go.Proofs.YtllpdnknaldbaabDoor
