/- More operations over the pure state: a range over a text by cases, runes, shifts of numbers that are not negative. Own work; no conditions; nothing here is about one program. -/
import Derived.Test.YtfagllolcalfiaaDoorPwU
namespace Go.Proofs.YtfagllolcalfiaaDoor
open Go.RowKit
set_option linter.unusedVariables false
set_option linter.unusedSimpArgs false

section
variable {P : Program} {n : Nat} {σ : St} {K : St → Prop} {d : Nat} {ty : TypeId} {pos : String} {af : Array Edge} {gd : Option (Nat × Bool)} {t t' : TypeId} {x y : Operand}

theorem op_next {l h i : Nat} {s : List UInt8} (hx : σ.ev x = some (.sit l s i)) (hh : σ.at h = some (.sit l s i)) (hd : d < n) (h0 : s.length ≤ i → K ((d, .tup [.val (.bool false)]) :: σ))
    (h1 : i < s.length → K ((d, .tup [.val (.bool true), .val (.int .i64 i), .val (.int .i32 (runeAt s i).1)]) :: σ.setl h l (.sit l s (i + (runeAt s i).2)))) : opT P n ⟨some d, .next x true, ty, pos, af, gd⟩ σ K := by
  by_cases hi : i < s.length
  · exact op_next_str hx hh hi hd (h1 hi)
  · exact op_next_end hx (by omega) hd (h0 (by omega))

/-- Over a text of ASCII letters. -/
theorem op_nextA {l h i : Nat} {s : List UInt8} (ha : ∀ j, j < s.length → (s.getD j 0).toNat < 128) (hx : σ.ev x = some (.sit l s i)) (hh : σ.at h = some (.sit l s i)) (hd : d < n) (h0 : s.length ≤ i → K ((d, .tup [.val (.bool false)]) :: σ))
    (h1 : i < s.length → K ((d, .tup [.val (.bool true), .val (.int .i64 i), .val (.int .i32 ((s.getD i 0).toNat : Nat))]) :: σ.setl h l (.sit l s (i + 1)))) : opT P n ⟨some d, .next x true, ty, pos, af, gd⟩ σ K := by
  refine op_next hx hh hd h0 fun hi => ?_
  rw [runeAt_ascii hi (ha i hi)]
  exact h1 hi

theorem q_convU {i : Int} (hs : (P.underlying t).isSome = true) (ht : P.underlying t' = some (.int .u64)) (hx : σ.ev x = some (.val (.int .i64 i))) (hd : d < n) (h1 : 0 ≤ i) (h2 : i ≤ 9223372036854775807) : quietT P n ⟨some d, .convert t t' x, ty, pos, af, gd⟩ σ d (.val (.int .u64 i)) :=
  q_cast (q_conv hs ht hx hd) (by rw [show IntKind.u64.wrap i = i by simp [IntKind.wrap, IntKind.signed, IntKind.bits]; omega])

theorem q_conv32 {i : Int} (hs : (P.underlying t).isSome = true) (ht : P.underlying t' = some (.int .i32)) {k : IntKind} (hx : σ.ev x = some (.val (.int k i))) (hd : d < n) (h1 : -2147483648 ≤ i) (h2 : i ≤ 2147483647) : quietT P n ⟨some d, .convert t t' x, ty, pos, af, gd⟩ σ d (.val (.int .i32 i)) :=
  q_cast (q_conv hs ht hx hd) (by rw [show IntKind.i32.wrap i = i by simp [IntKind.wrap, IntKind.signed, IntKind.bits]; omega])

theorem q_conv8 {i : Int} (hs : (P.underlying t).isSome = true) (ht : P.underlying t' = some (.int .u8)) {k : IntKind} (hx : σ.ev x = some (.val (.int k i))) (hd : d < n) (h1 : 0 ≤ i) (h2 : i ≤ 255) : quietT P n ⟨some d, .convert t t' x, ty, pos, af, gd⟩ σ d (.val (.int .u8 i)) :=
  q_cast (q_conv hs ht hx hd) (by rw [show IntKind.u8.wrap i = i by simp [IntKind.wrap, IntKind.signed, IntKind.bits]; omega])

theorem q_add32 {i j : Int} (hx : σ.ev x = some (.val (.int .i32 i))) (hy : σ.ev y = some (.val (.int .i32 j))) (hd : d < n) (h1 : -2147483648 ≤ i + j) (h2 : i + j ≤ 2147483647) : quietT P n ⟨some d, .binOp .add t x y t', ty, pos, af, gd⟩ σ d (.val (.int .i32 (i + j))) :=
  q_cast (q_ib hx hy rfl hd) (by rw [show IntKind.i32.wrap (i + j) = i + j by simp [IntKind.wrap, IntKind.signed, IntKind.bits]; omega])
theorem q_sub32 {i j : Int} (hx : σ.ev x = some (.val (.int .i32 i))) (hy : σ.ev y = some (.val (.int .i32 j))) (hd : d < n) (h1 : -2147483648 ≤ i - j) (h2 : i - j ≤ 2147483647) : quietT P n ⟨some d, .binOp .sub t x y t', ty, pos, af, gd⟩ σ d (.val (.int .i32 (i - j))) :=
  q_cast (q_ib hx hy rfl hd) (by rw [show IntKind.i32.wrap (i - j) = i - j by simp [IntKind.wrap, IntKind.signed, IntKind.bits]; omega])

/-- A number that is not negative, shifted to the right: shut to omega. -/
def shN (a k : Nat) : Nat := a / p2 k
theorem shN_le (a k : Nat) : shN a k ≤ a := Nat.div_le_self _ _
theorem q_shrN {k' : IntKind} {i j : Int} (hx : σ.ev x = some (.val (.int .i64 i))) (hy : σ.ev y = some (.val (.int k' j))) (hd : d < n) (h0 : 0 ≤ j) (h1 : j ≤ 62) (h2 : 0 ≤ i) :
    quietT P n ⟨some d, .binOp .shr t x y t', ty, pos, af, gd⟩ σ d (.val (.int .i64 ((shN i.toNat j.toNat : Nat) : Int))) :=
  q_cast (q_shrI hx hy hd h0 (by simp [IntKind.bits]; omega)) (by
    have e : (2 : Int) ^ j.toNat = ((p2 j.toNat : Nat) : Int) := by unfold p2; simp
    unfold shN
    rw [e, Int.natCast_ediv, Int.toNat_of_nonneg h2])

/-- A constant of which nothing is kept. -/
theorem q_deadconst {c : Value} (hd : d < n) : quietT P n ⟨some d, .assign (.const c), ty, pos, af, gd⟩ σ d .dead := by
  refine ⟨rfl, hd, fun C a w G hS hG hE => ⟨c, fun _ _ => ?_, trivial⟩⟩
  simp [execOp, Act.eval]

/-- A quotient that fits. -/
theorem q_quoT {i j : Int} (hx : σ.ev x = some (.val (.int .i64 i))) (hy : σ.ev y = some (.val (.int .i64 j))) (hj : j ≠ 0) (hd : d < n) (h1 : -9223372036854775808 ≤ i.tdiv j) (h2 : i.tdiv j ≤ 9223372036854775807) : quietT P n ⟨some d, .binOp .quo t x y t', ty, pos, af, gd⟩ σ d (.val (.int .i64 (i.tdiv j))) :=
  q_cast (q_quo hx hy hj hd) (by rw [wrap_in h1 h2])

/-- A rune's bytes: shut to simp. -/
def encL (r : Int) : List UInt8 := (Utf8.encode r).data.toList

theorem q_runestr {k : IntKind} {r : Int} (ha : P.underlying t = some (.int k)) (hs : P.underlying t' = some .string) (hx : σ.ev x = some (.val (.int k r))) (hd : d < n) : quietT P n ⟨some d, .convert t t' x, ty, pos, af, gd⟩ σ d (.val (.str (encL r))) := by
  refine ⟨rfl, hd, fun C a w G hS hG hE => ?_⟩
  have e1 := hE.ev hx
  simp only [Ok, Rep] at e1
  refine ⟨.string (Utf8.encode r), fun _ _ => ?_, by simp [Ok, Rep, encL]⟩
  simp [execOp, convert, run_underlying ha, run_underlying hs, Result.andThen, e1, Conv.intToString]

/-- Room for m elements, and none yet. -/
theorem op_make0 {e size bytes : Nat} {zc : List PV} (hty : SlTy P t e size bytes zc) {kl kc : IntKind} {m : Nat} (hx : σ.ev x = some (.val (.int kl 0))) (hy : σ.ev y = some (.val (.int kc m)))
    (hb : bytes * m ≤ 140737488355328) (hd : d < n) (hd0 : d ≠ 2000) (hfr : σ.labels.all (· != d) = true)
    (hK : K ((d, .own d e size 0 []) :: σ)) : opT P n ⟨some d, .makeSlice t x y, ty, pos, af, gd⟩ σ K := by
  intro C a w hS K' Q hK'
  obtain ⟨G, hG, hE⟩ := hS.gh
  obtain ⟨h1, i, z, h2, h3, h4, h5, h6, h7, h8, h9⟩ := hty
  have e1 := hE.ev hx
  have e2 := hE.ev hy
  simp only [Ok, Rep] at e1 e2
  have hm63 : m ≤ maxLen := by
    have : 1 * m ≤ bytes * m := Nat.mul_le_mul_right _ h8
    simp only [maxLen]; omega
  obtain ⟨w', hr, ho, hg⟩ := run_make_own (P := P) w 0 t e i z size h1 h2 h3 h4 kl kc m (by rw [h5]; omega) hm63 (Nat.zero_le _)
  have hop : (execOp a.eval ⟨some d, .makeSlice t x y, ty, pos, af, gd⟩).run P w = .ok (.value (.slice (some ⟨w.heap.size, 0, none⟩) 0 m)) w' := by
    simp [execOp, e1, e2, hr]
  unfold Oper.wp
  rw [hop, Oper.upon_value]
  have hlt : w.heap.size < w'.heap.size := (ho.lt w.heap.size rfl).2
  obtain ⟨hG', hE', hbel⟩ := new_env (w' := w') hS hG hE hg hlt hd0 hfr
  have hroot := new_root (G := G) (b0 := w.heap.size) (d := d)
  have hok : Ok C w' (G.new w.heap.size d) (.own d e size 0 []) (.slice (some ⟨w.heap.size, 0, none⟩) 0 m) := by
    refine ⟨_, ho, fun b hb => ?_, rfl⟩
    simp [Value.ownBlock] at hb
    subst hb
    exact ⟨hroot.1.symm, hroot.2⟩
  refine hK' _ _ _ hK ?_
  have hS' : Sim n C σ a w' := ⟨hS.fp, hbel, hS.dfs, hS.size, _, hG', hE'⟩
  exact hS'.put hG' hE' hd hok
end

theorem runeAt_hi {s : List UInt8} {i : Nat} (h : i < s.length) (ha : 128 ≤ (s.getD i 0).toNat) : 128 ≤ (runeAt s i).1 ∧ (runeAt s i).1 ≤ 1114111 := by
  have e : (ByteArray.mk s.toArray).get! (i + 0) = s.getD i 0 := by
    show s.toArray.getD (i + 0) default = _
    simp [h]
  unfold runeAt Utf8.decode
  simp only [e]
  rw [if_neg (by omega)]
  split
  · split
    · simp only []; omega
    · simp [Utf8.runeError]
  · split
    · split
      · rename_i h3
        simp only [Utf8.valid, Bool.and_eq_true, Bool.or_eq_true, decide_eq_true_eq] at h3
        simp only []; omega
      · simp [Utf8.runeError]
    · split
      · split
        · rename_i h3
          simp only [Utf8.valid, Bool.and_eq_true, Bool.or_eq_true, decide_eq_true_eq] at h3
          simp only []; omega
        · simp [Utf8.runeError]
      · simp [Utf8.runeError]

/-- Numbers, as the kit's contracts ask for them. -/
theorem ints_rep {k : IntKind} {w : World} {F : Nat → Prop} : ∀ {l : List Int} {vs : List Value}, RepL w F (l.map (.int k)) vs → vs = l.map fun s => Value.int k s
  | [], vs, h => by simpa [RepL] using h
  | s :: l, vs, h => by
    simp only [List.map_cons, RepL] at h
    obtain ⟨v, r, rfl, _, h1, h2⟩ := h
    simp only [Rep] at h1
    rw [h1, ints_rep h2]; rfl

theorem runeAt_le {s : List UInt8} {i : Nat} (h : i < s.length) : (runeAt s i).1 ≤ 1114111 := by
  by_cases ha : (s.getD i 0).toNat < 128
  · rw [runeAt_ascii h ha]; simp only []; omega
  · exact (runeAt_hi h (by omega)).2

theorem encode_hi {r : Int} (h : 128 ≤ r) : 2 ≤ (encL r).length ∧ (encL r).length ≤ 4 ∧ ∀ b ∈ encL r, 128 ≤ b.toNat := by
  have u8 : ∀ m : Nat, m < 256 → (UInt8.ofNat m).toNat = m := fun m hm => by simp; omega
  have hc : 128 ≤ (if Utf8.valid r then r.toNat else Utf8.runeError) ∧ (if Utf8.valid r then r.toNat else Utf8.runeError) ≤ 1114111 := by
    split
    · rename_i hv
      simp only [Utf8.valid, Bool.and_eq_true, Bool.or_eq_true, decide_eq_true_eq] at hv
      omega
    · simp [Utf8.runeError]
  unfold encL Utf8.encode
  simp only []
  generalize (if Utf8.valid r then r.toNat else Utf8.runeError) = c at hc
  rw [if_neg (by omega)]
  split
  · refine ⟨by simp, by simp, fun b hb => ?_⟩
    simp only [List.mem_cons, List.not_mem_nil, or_false] at hb
    rcases hb with rfl | rfl <;> rw [u8 _ (by omega)] <;> omega
  · split
    · refine ⟨by simp, by simp, fun b hb => ?_⟩
      simp only [List.mem_cons, List.not_mem_nil, or_false] at hb
      rcases hb with rfl | rfl | rfl <;> rw [u8 _ (by omega)] <;> omega
    · refine ⟨by simp, by simp, fun b hb => ?_⟩
      simp only [List.mem_cons, List.not_mem_nil, or_false] at hb
      rcases hb with rfl | rfl | rfl | rfl <;> rw [u8 _ (by omega)] <;> omega

end Go.Proofs.YtfagllolcalfiaaDoor
