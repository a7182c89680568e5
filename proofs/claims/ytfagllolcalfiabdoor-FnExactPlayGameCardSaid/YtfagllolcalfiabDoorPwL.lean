/- More operations in the forms that a walk uses: bits and shifts of numbers that are not negative, texts of bytes. Own work; no conditions; nothing here is about one program. -/
import Derived.Test.YtfagllolcalfiabDoorPwK
import Derived.Laws.BytesString
namespace Go.Proofs.YtfagllolcalfiabDoor
open Go.RowKit
section
variable {P : Program} {n : Nat} {σ : St} {K : St → Prop} {d : Nat} {ty : TypeId} {pos : String} {af : Array Edge} {gd : Option (Nat × Bool)} {t t' : TypeId} {x y : Operand}
def p2 (k : Nat) : Nat := 2 ^ k
theorem p2_le {k : Nat} (h : k ≤ 62) : p2 k ≤ 4611686018427387904 := Nat.pow_le_pow_right (n := 2) (by omega) h
theorem q_shl1 {k' : IntKind} {j : Int} (hx : σ.ev x = some (.val (.int .i64 1))) (hy : σ.ev y = some (.val (.int k' j))) (hd : d < n) (h0 : 0 ≤ j) (h1 : j ≤ 62) :
    quietT P n ⟨some d, .binOp .shl t x y t', ty, pos, af, gd⟩ σ d (.val (.int .i64 (p2 j.toNat))) :=
  q_cast (q_shl hx hy h0 hd) (by
    have h := p2_le (k := j.toNat) (by omega)
    have e : (1 : Int) * 2 ^ j.toNat = ((p2 j.toNat : Nat) : Int) := by rw [Int.one_mul]; unfold p2; simp
    rw [show min j.toNat IntKind.i64.bits = j.toNat from Nat.min_eq_left (by simp [IntKind.bits]; omega), e]
    rw [wrap_in (by omega) (by omega)])
theorem q_shlI {k' : IntKind} {i j : Int} (hx : σ.ev x = some (.val (.int .i64 i))) (hy : σ.ev y = some (.val (.int k' j))) (hd : d < n) (h0 : 0 ≤ j) (h1 : j ≤ 62) (h2 : -9223372036854775808 ≤ i * 2 ^ j.toNat) (h3 : i * 2 ^ j.toNat ≤ 9223372036854775807) :
    quietT P n ⟨some d, .binOp .shl t x y t', ty, pos, af, gd⟩ σ d (.val (.int .i64 (i * 2 ^ j.toNat))) :=
  q_cast (q_shl hx hy h0 hd) (by rw [show min j.toNat IntKind.i64.bits = j.toNat from Nat.min_eq_left (by simp [IntKind.bits]; omega), wrap_in h2 h3])
theorem q_shrI {k k' : IntKind} {i j : Int} (hx : σ.ev x = some (.val (.int k i))) (hy : σ.ev y = some (.val (.int k' j))) (hd : d < n) (h0 : 0 ≤ j) (h1 : j.toNat ≤ k.bits) :
    quietT P n ⟨some d, .binOp .shr t x y t', ty, pos, af, gd⟩ σ d (.val (.int k (i / 2 ^ j.toNat))) :=
  q_cast (q_shr hx hy h0 hd) (by
    rw [show min j.toNat k.bits = j.toNat from Nat.min_eq_left h1]
    have : (0 : Int) ≤ 2 ^ j.toNat := Int.pow_nonneg (by decide)
    rw [Int.fdiv_eq_ediv_of_nonneg _ this])
theorem ofInt_nat (a : Nat) (h : a < 9223372036854775808) : (BitVec.ofInt 64 (a : Int)).toNat = a := by
  rw [BitVec.toNat_ofInt]; simp; omega
theorem iand_nat (a b : Nat) (ha : a < 9223372036854775808) (hb : b < 9223372036854775808) : iand .i64 a b = ((a &&& b : Nat) : Int) := by
  have e : (BitVec.ofInt IntKind.i64.bits (a : Int) &&& BitVec.ofInt IntKind.i64.bits (b : Int)).toNat = a &&& b := by
    rw [BitVec.toNat_and, show IntKind.i64.bits = 64 from rfl, ofInt_nat a ha, ofInt_nat b hb]
  have hle : a &&& b ≤ a := Nat.and_le_left
  unfold iand; rw [e, wrap_in (by omega) (by omega)]
theorem ior_nat (a b : Nat) (ha : a < 9223372036854775808) (hb : b < 9223372036854775808) : ior .i64 a b = ((a ||| b : Nat) : Int) := by
  have e : (BitVec.ofInt IntKind.i64.bits (a : Int) ||| BitVec.ofInt IntKind.i64.bits (b : Int)).toNat = a ||| b := by
    rw [BitVec.toNat_or, show IntKind.i64.bits = 64 from rfl, ofInt_nat a ha, ofInt_nat b hb]
  have hle : a ||| b < 2 ^ 63 := Nat.or_lt_two_pow (by simpa using ha) (by simpa using hb)
  unfold ior; rw [e, wrap_in (by omega) (by omega)]
theorem ixor_nat (a b : Nat) (ha : a < 9223372036854775808) (hb : b < 9223372036854775808) : ixor .i64 a b = ((a ^^^ b : Nat) : Int) := by
  have e : (BitVec.ofInt IntKind.i64.bits (a : Int) ^^^ BitVec.ofInt IntKind.i64.bits (b : Int)).toNat = a ^^^ b := by
    rw [BitVec.toNat_xor, show IntKind.i64.bits = 64 from rfl, ofInt_nat a ha, ofInt_nat b hb]
  have hle : a ^^^ b < 2 ^ 63 := Nat.xor_lt_two_pow (by simpa using ha) (by simpa using hb)
  unfold ixor; rw [e, wrap_in (by omega) (by omega)]
theorem bv_andNot (x y : BitVec 64) : x &&& ~~~ y = x ^^^ (x &&& y) := by
  ext i h; simp only [BitVec.getElem_and, BitVec.getElem_not, BitVec.getElem_xor]; cases x[i] <;> cases y[i] <;> rfl
theorem iandNot_nat (a b : Nat) (ha : a < 9223372036854775808) (hb : b < 9223372036854775808) : iandNot .i64 a b = ((a ^^^ (a &&& b) : Nat) : Int) := by
  have e : (BitVec.ofInt IntKind.i64.bits (a : Int) &&& ~~~ BitVec.ofInt IntKind.i64.bits (b : Int)).toNat = a ^^^ (a &&& b) := by
    rw [show IntKind.i64.bits = 64 from rfl, bv_andNot, BitVec.toNat_xor, BitVec.toNat_and, ofInt_nat a ha, ofInt_nat b hb]
  have h1 : a &&& b ≤ a := Nat.and_le_left
  have hle : a ^^^ (a &&& b) < 2 ^ 63 := Nat.xor_lt_two_pow (by simpa using ha) (by simp; omega)
  unfold iandNot; rw [e, wrap_in (by omega) (by omega)]
section
variable {i j : Int} (hx : σ.ev x = some (.val (.int .i64 i))) (hy : σ.ev y = some (.val (.int .i64 j))) (hd : d < n) (h0 : 0 ≤ i) (h1 : i ≤ 9223372036854775807) (h2 : 0 ≤ j) (h3 : j ≤ 9223372036854775807)
include hx hy hd h0 h1 h2 h3
theorem q_andI : quietT P n ⟨some d, .binOp .and t x y t', ty, pos, af, gd⟩ σ d (.val (.int .i64 ((i.toNat &&& j.toNat : Nat) : Int))) :=
  q_cast (q_ib hx hy rfl hd) (by rw [← iand_nat _ _ (by omega) (by omega), Int.toNat_of_nonneg h0, Int.toNat_of_nonneg h2])
theorem q_orI : quietT P n ⟨some d, .binOp .or t x y t', ty, pos, af, gd⟩ σ d (.val (.int .i64 ((i.toNat ||| j.toNat : Nat) : Int))) :=
  q_cast (q_ib hx hy rfl hd) (by rw [← ior_nat _ _ (by omega) (by omega), Int.toNat_of_nonneg h0, Int.toNat_of_nonneg h2])
theorem q_xorI : quietT P n ⟨some d, .binOp .xor t x y t', ty, pos, af, gd⟩ σ d (.val (.int .i64 ((i.toNat ^^^ j.toNat : Nat) : Int))) :=
  q_cast (q_ib hx hy rfl hd) (by rw [← ixor_nat _ _ (by omega) (by omega), Int.toNat_of_nonneg h0, Int.toNat_of_nonneg h2])
theorem q_andNotI : quietT P n ⟨some d, .binOp .andNot t x y t', ty, pos, af, gd⟩ σ d (.val (.int .i64 ((i.toNat ^^^ (i.toNat &&& j.toNat) : Nat) : Int))) :=
  q_cast (q_ib hx hy rfl hd) (by rw [← iandNot_nat _ _ (by omega) (by omega), Int.toNat_of_nonneg h0, Int.toNat_of_nonneg h2])
end
/-! ### Lists of pure values that come of lists -/
theorem drop_map1 {α : Type} (f : α → PV) (d : α) (l : List α) {k : Nat} (h : k < l.length) : (l.map f).drop (k * 1) = f (l.getD k d) :: (l.map f).drop (k + 1) := by
  rw [Nat.mul_one, List.drop_eq_getElem_cons (by simpa using h)]; simp [h]
theorem get_map1 {α : Type} (f : α → PV) (d : α) (l : List α) {k : Nat} (h : k < l.length) : (l.map f)[k * 1]? = some (f (l.getD k d)) := by
  rw [Nat.mul_one, List.getElem?_eq_getElem (by simpa using h)]; simp [h]
theorem put_map1 {α : Type} (f : α → PV) (l : List α) {k : Nat} (h : k < l.length) (v : α) : putAt (l.map f) (k * 1) [f v] = (l.set k v).map f := by
  rw [Nat.mul_one, List.set_eq_take_append_cons_drop, if_pos h]
  simp [putAt, ← List.map_take, ← List.map_drop]
theorem zeros_map1 {α : Type} (f : α → PV) (d : α) (k : Nat) : zeros [f d] k = (List.replicate k d).map f := by
  simp only [zeros, List.length_singleton, Nat.mul_one, Nat.mod_one, List.getD_cons_zero, List.map_const', List.length_range, List.map_replicate]
theorem flat_map {α : Type} (f : α → PV) (hf : ∀ a, (f a).flat = true) : ∀ l : List α, PV.flatL (l.map f) = true
  | [] => rfl
  | a :: l => by simp [PV.flatL, hf a, flat_map f hf l]
/-! ### Texts of bytes -/
def bytesP (s : List UInt8) : List PV := s.map fun c => .int .u8 c.toNat
theorem bytesP_rep {w : World} {F : Nat → Prop} : ∀ {s : List UInt8} {vs : List Value}, RepL w F (bytesP s) vs → vs = s.map fun c => Value.int .u8 c.toNat
  | [], vs, h => by simpa [bytesP, RepL] using h
  | c :: s, vs, h => by
    simp only [bytesP, List.map_cons, RepL] at h
    obtain ⟨v, r, rfl, _, h1, h2⟩ := h
    simp only [Rep] at h1
    rw [h1, bytesP_rep (s := s) h2]; rfl
theorem push_bytes (s : List UInt8) : ∀ (b : ByteArray), (s.map fun c => ((c.toNat : Nat) : Int)).foldl (fun r n => r.push (UInt8.ofNat n.toNat)) b = ⟨b.data ++ s.toArray⟩ := by
  induction s with
  | nil => intro b; simp
  | cons c s ih =>
    intro b
    simp only [List.map_cons, List.foldl_cons]
    rw [ih]
    simp [ByteArray.push]
theorem q_bytes_str {e : TypeId} {s : SV} {bs : List UInt8} {m : Nat} (ht : P.underlying t = some (.slice e)) (he : P.underlying e = some (.int .u8)) (ht' : P.underlying t' = some .string) (hx : σ.ev x = some s) (hs : s.pv = some (.sl m (bytesP bs))) (hm : bs.length = m) (hd : d < n) :
    quietT P n ⟨some d, .convert t t' x, ty, pos, af, gd⟩ σ d (.val (.str bs)) := by
  refine ⟨rfl, hd, fun C a w G hS hG hE => ?_⟩
  have h1 := (hE.ev hx).rep hs
  simp only [Rep] at h1
  refine ⟨.string ⟨bs.toArray⟩, fun w2 hb => ?_, by simp [Ok, Rep]⟩
  rcases h1 with ⟨hv, hm0, hcs⟩ | ⟨b, off, cap, vs, hv, hF, hcap, hc, hr⟩
  · have : bs = [] := by simpa [hm0] using hm
    subst this
    simp [execOp, hv, run_convert_bytes_string w2 t t' e _ _ _ ht he ht', Conv.bytesToString, Sem.run_pure]
    rfl
  · have hvs := bytesP_rep hr
    have hlt : ∀ (j : Nat) u, vs[j]? = some u → b < w.heap.size := by
      intro j u hj
      have h2 := hc j u hj
      rcases Nat.lt_or_ge b w.heap.size with h | h
      · exact h
      · simp [World.cell?, Array.getElem?_eq_none h] at h2
    have hload := run_loadCells_list (P := P) (w := w2) ⟨b, off, none⟩ vs (fun j u hj => by rw [Addr.add_lit, ← hc j u hj]; exact World.cell?_of_block (hb.block b (hlt j u hj)))
    have hl : vs.length = m := by rw [hvs]; simpa using hm
    rw [hl, hvs] at hload
    have := run_bytesToString (P := P) w2 ⟨b, off, none⟩ m cap (bs.map fun c => ((c.toNat : Nat) : Int)) (by rw [hload]; simp [Function.comp_def])
    simp only [execOp, hv, Sem.run_bind, run_convert_bytes_string w2 t t' e _ _ _ ht he ht', this, Result.andThen, Sem.run_pure, push_bytes]
    simp
end
end Go.Proofs.YtfagllolcalfiabDoor
