/- More operations over the pure state: a range over a text by cases, runes, shifts of numbers that are not negative. Own work; no conditions; nothing here is about one program. -/
import Derived.Test.YtfagllolcalfiabDoorPwU
namespace Go.Proofs.YtfagllolcalfiabDoor
open Go.RowKit
set_option linter.unusedVariables false
set_option linter.unusedSimpArgs false
section
variable {P : Program} {n : Nat} {σ : St} {K : St → Prop} {d : Nat} {ty : TypeId} {pos : String} {af : Array Edge} {gd : Option (Nat × Bool)} {t t' : TypeId} {x y : Operand}
theorem op_next {l h i : Nat} {s : List UInt8} (hx : σ.ev x = some (.sit l s i)) (hh : σ.at h = some (.sit l s i)) (hd : d < n) (h0 : s.length ≤ i → K ((d, .tup [.val (.bool false)]) :: σ))
    (h1 : i < s.length → K ((d, .tup [.val (.bool true), .val (.int .i64 i), .val (.int .i32 (runeAt s i).1)]) :: σ.setl h l (.sit l s (i + (runeAt s i).2)))) : opT P n ⟨some d, .next x true, ty, pos, af, gd⟩ σ K := by
  by_cases hi : i < s.length
  · exact op_next_str hx hh hi hd (h1 hi)
  · exact op_next_end hx (by omega) hd (h0 (by omega))
theorem op_nextA {l h i : Nat} {s : List UInt8} (ha : ∀ j, j < s.length → (s.getD j 0).toNat < 128) (hx : σ.ev x = some (.sit l s i)) (hh : σ.at h = some (.sit l s i)) (hd : d < n) (h0 : s.length ≤ i → K ((d, .tup [.val (.bool false)]) :: σ))
    (h1 : i < s.length → K ((d, .tup [.val (.bool true), .val (.int .i64 i), .val (.int .i32 ((s.getD i 0).toNat : Nat))]) :: σ.setl h l (.sit l s (i + 1)))) : opT P n ⟨some d, .next x true, ty, pos, af, gd⟩ σ K := by
  refine op_next hx hh hd h0 fun hi => ?_
  rw [runeAt_ascii hi (ha i hi)]
  exact h1 hi
def shN (a k : Nat) : Nat := a / p2 k
theorem shN_le (a k : Nat) : shN a k ≤ a := Nat.div_le_self _ _
theorem q_shrN {k' : IntKind} {i j : Int} (hx : σ.ev x = some (.val (.int .i64 i))) (hy : σ.ev y = some (.val (.int k' j))) (hd : d < n) (h0 : 0 ≤ j) (h1 : j ≤ 62) (h2 : 0 ≤ i) :
    quietT P n ⟨some d, .binOp .shr t x y t', ty, pos, af, gd⟩ σ d (.val (.int .i64 ((shN i.toNat j.toNat : Nat) : Int))) :=
  q_cast (q_shrI hx hy hd h0 (by simp [IntKind.bits]; omega)) (by
    have e : (2 : Int) ^ j.toNat = ((p2 j.toNat : Nat) : Int) := by unfold p2; simp
    unfold shN
    rw [e, Int.natCast_ediv, Int.toNat_of_nonneg h2])
theorem q_deadconst {c : Value} (hd : d < n) : quietT P n ⟨some d, .assign (.const c), ty, pos, af, gd⟩ σ d .dead := by
  refine ⟨rfl, hd, fun C a w G hS hG hE => ⟨c, fun _ _ => ?_, trivial⟩⟩
  simp [execOp, Act.eval]
def encL (r : Int) : List UInt8 := (Utf8.encode r).data.toList
theorem q_runestr {k : IntKind} {r : Int} (ha : P.underlying t = some (.int k)) (hs : P.underlying t' = some .string) (hx : σ.ev x = some (.val (.int k r))) (hd : d < n) : quietT P n ⟨some d, .convert t t' x, ty, pos, af, gd⟩ σ d (.val (.str (encL r))) := by
  refine ⟨rfl, hd, fun C a w G hS hG hE => ?_⟩
  have e1 := hE.ev hx
  simp only [Ok, Rep] at e1
  refine ⟨.string (Utf8.encode r), fun _ _ => ?_, by simp [Ok, Rep, encL]⟩
  simp [execOp, convert, run_underlying ha, run_underlying hs, Result.andThen, e1, Conv.intToString]
end
theorem runeAt_hi {s : List UInt8} {i : Nat} (h : i < s.length) (ha : 128 ≤ (s.getD i 0).toNat) : 128 ≤ (runeAt s i).1 ∧ (runeAt s i).1 ≤ 1114111 := by
  have e : (ByteArray.mk s.toArray).get! (i + 0) = s.getD i 0 := by
    show s.toArray.getD (i + 0) default = _
    simp [h]
  unfold runeAt Utf8.decode
  simp only [e]
  rw [if_neg (by omega)]
  split
  · split
    · simp only []; omega
    · simp [Utf8.runeError]
  · split
    · split
      · rename_i h3
        simp only [Utf8.valid, Bool.and_eq_true, Bool.or_eq_true, decide_eq_true_eq] at h3
        simp only []; omega
      · simp [Utf8.runeError]
    · split
      · split
        · rename_i h3
          simp only [Utf8.valid, Bool.and_eq_true, Bool.or_eq_true, decide_eq_true_eq] at h3
          simp only []; omega
        · simp [Utf8.runeError]
      · simp [Utf8.runeError]
theorem runeAt_le {s : List UInt8} {i : Nat} (h : i < s.length) : (runeAt s i).1 ≤ 1114111 := by
  by_cases ha : (s.getD i 0).toNat < 128
  · rw [runeAt_ascii h ha]; simp only []; omega
  · exact (runeAt_hi h (by omega)).2
theorem encode_hi {r : Int} (h : 128 ≤ r) : 2 ≤ (encL r).length ∧ (encL r).length ≤ 4 ∧ ∀ b ∈ encL r, 128 ≤ b.toNat := by
  have u8 : ∀ m : Nat, m < 256 → (UInt8.ofNat m).toNat = m := fun m hm => by simp; omega
  have hc : 128 ≤ (if Utf8.valid r then r.toNat else Utf8.runeError) ∧ (if Utf8.valid r then r.toNat else Utf8.runeError) ≤ 1114111 := by
    split
    · rename_i hv
      simp only [Utf8.valid, Bool.and_eq_true, Bool.or_eq_true, decide_eq_true_eq] at hv
      omega
    · simp [Utf8.runeError]
  unfold encL Utf8.encode
  simp only []
  generalize (if Utf8.valid r then r.toNat else Utf8.runeError) = c at hc
  rw [if_neg (by omega)]
  split
  · refine ⟨by simp, by simp, fun b hb => ?_⟩
    simp only [List.mem_cons, List.not_mem_nil, or_false] at hb
    rcases hb with rfl | rfl <;> rw [u8 _ (by omega)] <;> omega
  · split
    · refine ⟨by simp, by simp, fun b hb => ?_⟩
      simp only [List.mem_cons, List.not_mem_nil, or_false] at hb
      rcases hb with rfl | rfl | rfl <;> rw [u8 _ (by omega)] <;> omega
    · refine ⟨by simp, by simp, fun b hb => ?_⟩
      simp only [List.mem_cons, List.not_mem_nil, or_false] at hb
      rcases hb with rfl | rfl | rfl | rfl <;> rw [u8 _ (by omega)] <;> omega
end Go.Proofs.YtfagllolcalfiabDoor
