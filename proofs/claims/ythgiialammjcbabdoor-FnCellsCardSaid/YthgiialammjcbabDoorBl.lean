/- Contracts of functions, walked over the pure layer; each says for which arguments. -/
import Derived.Test.YthgiialammjcbabDoorBlTy
import Derived.Shelf.Strings.BuilderRune
import Derived.Test.YthgiialammjcbabDoorTf
namespace Go.Proofs.YthgiialammjcbabDoor
open Go.RowKit BlTy
set_option linter.unusedVariables false
set_option linter.unusedSimpArgs false

open Go.Shelf in
theorem cells_app (a b : List UInt8) : Lib.byteCells (a ++ b) = Lib.byteCells a ++ Lib.byteCells b := by simp [Lib.byteCells]
theorem cells_str (s : List UInt8) : Lib.strCells ⟨s.toArray⟩ = Lib.byteCells s := by simp [Lib.strCells, Lib.byteCells]
theorem enc1 (r : Int) (h0 : 0 ≤ r) (h1 : r < 128) : Lib.encodeRune r = [r.toNat.toUInt8] := by
  unfold Lib.encodeRune Lib.encodeRuneZ
  first | (rw [if_pos (by omega)]; rfl) | (rw [if_pos ⟨by omega, by omega⟩]; rfl) | (simp; omega)

open Go.Shelf in
def bl168_ren : Go.Shelf.Ren := ⟨fun | 168 => 43 | 240 => 59 | 242 => 60 | 276 => 70 | 278 => 71 | n => n, fun | 0 => 0 | 3 => 3 | 4 => 4 | 5 => 5 | 9 => 9 | 20 => 20 | 21 => 21 | 37 => 22 | 46 => 48 | 51 => 66 | 70 => 49 | 72 => 51 | 75 => 54 | 127 => 69 | 164 => 75 | 80 => 57 | n => n, fun | n => n⟩
open Go.Shelf in
theorem bl168 : Go.Proofs.Lays.n168 Tryd.prog bl168_ren := { mixed := by kernel_rfl, f168 := Tryd.func43.trans (congrArg some (by kernel_rfl)), f240 := Tryd.func59.trans (congrArg some (by kernel_rfl)), f242 := Tryd.func60.trans (congrArg some (by kernel_rfl)), f276 := Tryd.func70.trans (congrArg some (by kernel_rfl)), f278 := Tryd.func71.trans (congrArg some (by kernel_rfl)), t0 := Tryd.underlying0, a0 := Tryd.isAgg0, z0 := Tryd.sizeOf0, v0 := Tryd.zeroValue0, t3 := Tryd.underlying3, a3 := Tryd.isAgg3, z3 := Tryd.sizeOf3, v3 := Tryd.zeroValue3, t4 := Tryd.underlying4, a4 := Tryd.isAgg4, z4 := Tryd.sizeOf4, v4 := Tryd.zeroValue4, t5 := Tryd.underlying5, a5 := Tryd.isAgg5, z5 := Tryd.sizeOf5, v5 := Tryd.zeroValue5, t9 := Tryd.underlying9, a9 := Tryd.isAgg9, z9 := Tryd.sizeOf9, v9 := Tryd.zeroValue9, t20 := Tryd.underlying20, a20 := Tryd.isAgg20, z20 := Tryd.sizeOf20, v20 := Tryd.zeroValue20, t21 := Tryd.underlying21, a21 := Tryd.isAgg21, z21 := Tryd.sizeOf21, v21 := Tryd.zeroValue21, t37 := Tryd.underlying22, a37 := Tryd.isAgg22, z37 := Tryd.sizeOf22, v37 := Tryd.zeroValue22, t46 := Tryd.underlying48, a46 := Tryd.isAgg48, z46 := Tryd.sizeOf48, v46 := Tryd.zeroValue48, t51 := Tryd.underlying66, a51 := Tryd.isAgg66, z51 := Tryd.sizeOf66, v51 := Tryd.zeroValue66, t70 := Tryd.underlying49, a70 := Tryd.isAgg49, z70 := Tryd.sizeOf49, v70 := Tryd.zeroValue49, t72 := Tryd.underlying51, a72 := Tryd.isAgg51, z72 := Tryd.sizeOf51, v72 := Tryd.zeroValue51, t75 := Tryd.underlying54, a75 := Tryd.isAgg54, z75 := Tryd.sizeOf54, v75 := Tryd.zeroValue54, t164 := Tryd.underlying75, a164 := Tryd.isAgg75, z164 := Tryd.sizeOf75, v164 := Tryd.zeroValue75 }
open Go.Shelf in
theorem blx168 : Builder.Extra Tryd.prog bl168_ren := { sizeBuilder := by kernel_rfl, liesBuilder := by kernel_rfl, t5 := Tryd.underlying5, a5 := Tryd.isAgg5, z5 := Tryd.sizeOf5, v5 := Tryd.zeroValue5, infoByte := by kernel_rfl, cellsByte := by kernel_rfl, sizeByte := by kernel_rfl, neB5 := by decide }

theorem bWriteRune_c (s : List UInt8) (r : Int) (h0 : -2147483648 ≤ r) (h1 : r ≤ 2147483647) (hl : s.length + 4 ≤ 140737488355328) : BCalls Tryd.prog 43 51 5 [.int .i32 r] s (s ++ Lib.encodeRune r) [.val (.int .i64 (Lib.encodeRune r).length), .dead] :=
  ⟨enters_of Tryd.func43 (by kernel_rfl) rfl, fun w B b vs h hB ha => by
  obtain ⟨v0, r0, rfl, ha0, ha⟩ := repArgs_cons ha
  obtain rfl := repArgs_nil ha
  simp only [Rep] at ha0
  subst ha0
  refine (Any.Builder_WriteRune_k bl168 blx168 B b (Lib.byteCells s) r h0 h1 w h (by rw [Lib.byteCells_length]; exact hl) hB).mono fun e w' ⟨he, hb, h2, h3⟩ => ⟨[.int .i64 (Lib.encodeRune r).length, .nilIface], ?_, ⟨_, _, rfl, by simp [Rep], _, _, rfl, rfl⟩, ?_, h2, h3⟩
  · rw [he, Lib.runeCells_length]; rfl
  · rw [cells_app, Lib.byteCells_encodeRune]; exact .inr hb⟩

open Go.Shelf in
def bl169_ren : Go.Shelf.Ren := ⟨fun | 169 => 44 | n => n, fun | 0 => 0 | 3 => 3 | 4 => 4 | 5 => 5 | 9 => 9 | 20 => 20 | 21 => 21 | 37 => 22 | 46 => 48 | 51 => 66 | 70 => 49 | 72 => 51 | 75 => 54 | 127 => 69 | 164 => 75 | 80 => 57 | n => n, fun | n => n⟩
open Go.Shelf in
theorem bl169 : Go.Proofs.Lays.n169 Tryd.prog bl169_ren := { mixed := by kernel_rfl, f169 := Tryd.func44.trans (congrArg some (by kernel_rfl)), t0 := Tryd.underlying0, a0 := Tryd.isAgg0, z0 := Tryd.sizeOf0, v0 := Tryd.zeroValue0, t3 := Tryd.underlying3, a3 := Tryd.isAgg3, z3 := Tryd.sizeOf3, v3 := Tryd.zeroValue3, t9 := Tryd.underlying9, a9 := Tryd.isAgg9, z9 := Tryd.sizeOf9, v9 := Tryd.zeroValue9, t37 := Tryd.underlying22, a37 := Tryd.isAgg22, z37 := Tryd.sizeOf22, v37 := Tryd.zeroValue22, t70 := Tryd.underlying49, a70 := Tryd.isAgg49, z70 := Tryd.sizeOf49, v70 := Tryd.zeroValue49, t72 := Tryd.underlying51, a72 := Tryd.isAgg51, z72 := Tryd.sizeOf51, v72 := Tryd.zeroValue51, t127 := Tryd.underlying69, a127 := Tryd.isAgg69, z127 := Tryd.sizeOf69, v127 := Tryd.zeroValue69 }
open Go.Shelf in
theorem blx169 : Builder.Extra Tryd.prog bl169_ren := { sizeBuilder := by kernel_rfl, liesBuilder := by kernel_rfl, t5 := Tryd.underlying5, a5 := Tryd.isAgg5, z5 := Tryd.sizeOf5, v5 := Tryd.zeroValue5, infoByte := by kernel_rfl, cellsByte := by kernel_rfl, sizeByte := by kernel_rfl, neB5 := by decide }

theorem bString_c (s : List UInt8) : BCalls Tryd.prog 44 51 5 [] s s [.val (.str s)] :=
  ⟨enters_of Tryd.func44 (by kernel_rfl) rfl, fun w B b vs h hB ha => by
  obtain rfl := repArgs_nil ha
  exact (Any.Builder_String_any_k bl169 blx169 B b s w h hB).mono fun e w' ⟨he, hb, h2, h3⟩ => ⟨[.string ⟨s.toArray⟩], he, ⟨_, _, rfl, by simp [Rep], rfl⟩, hb, h2, h3⟩⟩

end Go.Proofs.YthgiialammjcbabDoor
