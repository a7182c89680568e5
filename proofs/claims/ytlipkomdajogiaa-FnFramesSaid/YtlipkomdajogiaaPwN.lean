/- The arguments of a row, opened: whatever can be read as data at a type of numbers, bools, texts, structs and arrays of such, and slices of such, is a pure value; behind a call that writes to nothing old the arguments read as they did. Own work; no conditions; nothing here is about one program. -/
import Derived.Test.YtlipkomdajogiaaPwM
import Derived.OpenShut
import Derived.ChangeOld
namespace Go.Proofs.Ytlipkomdajogiaa
open Go.RowKit
inductive BK where
  | bool
  | int (k : IntKind)
  | str
def BK.is : BK → PV → Prop
  | .bool, p => ∃ b, p = .bool b
  | .int k, p => ∃ n, p = .int k n ∧ (Lit.int k n).wf = true
  | .str, p => ∃ s, p = .str s ∧ s.length ≤ maxLen
def BKs : List BK → List PV → Prop
  | [], ps => ps = []
  | k :: ks, ps => ∃ p r, ps = p :: r ∧ k.is p ∧ BKs ks r
theorem BKs.length : ∀ {ks : List BK} {ps : List PV}, BKs ks ps → ps.length = ks.length
  | [], ps, h => by simp only [BKs] at h; simp [h]
  | k :: ks, ps, h => by
    obtain ⟨p, r, rfl, _, h2⟩ := h
    simp [BKs.length h2]
theorem BKs.append : ∀ {ks ks' : List BK} {ps ps' : List PV}, BKs ks ps → BKs ks' ps' → BKs (ks ++ ks') (ps ++ ps')
  | [], ks', ps, ps', h, h' => by simp only [BKs] at h; subst h; simpa using h'
  | k :: ks, ks', ps, ps', h, h' => by
    obtain ⟨p, r, rfl, h1, h2⟩ := h
    exact ⟨p, r ++ ps', rfl, h1, BKs.append h2 h'⟩
mutual
def cellsD {H : Type} : DataW H → List PV
  | .lit (.bool b) => [.bool b]
  | .lit (.int k n) => [.int k n]
  | .lit (.string s) => [.str s]
  | .agg ps => cellsDL ps
  | _ => []
def cellsDL {H : Type} : List (DataW H) → List PV
  | [] => []
  | d :: r => cellsD d ++ cellsDL r
end
def FlatTy (P : Program) (t : TypeId) (ks : List BK) : Prop := P.cellsOf t = ks.length ∧
  ∀ (H : Type) (enc : TypeId × Value → H) (w : World) (base : Nat) (spare : Nat → Bool) (held : Bool) (fuel : Nat) (cs : List Value) (x : DataW H × List MemPlace),
    DataW.trod enc P w base spare held fuel t cs = some x → ∃ ps, BKs ks ps ∧ RepL w (fun _ => False) ps cs ∧ ps = cellsD x.1
section
variable {P : Program} {t e : TypeId}
theorem flatTy_int {k : IntKind} (ht : P.underlying t = some (.int k)) (hc : P.cellsOf t = 1) : FlatTy P t [.int k] := by
  refine ⟨hc, fun H enc w base spare held fuel cs x h => ?_⟩
  obtain ⟨n, rfl, rfl, hw⟩ := DataW.trod_int ht h
  exact ⟨[.int k n], ⟨_, _, rfl, ⟨n, rfl, hw⟩, rfl⟩, ⟨_, _, rfl, rfl, by simp [Rep], rfl⟩, by simp [cellsD]⟩
variable {H : Type} {enc : TypeId × Value → H} {W : World} {base : Nat} {v : Value} {d : DataW H} {ps : List MemPlace}
theorem open_slice {ks : List BK} (ht : P.underlying t = some (.slice e)) (he : FlatTy P e ks) (hval : Value.okWide P W .any base t v) (hd : DataW.Trod enc P W 0 (fun _ => true) true t v d ps) :
    ∃ l : List (List PV), (∀ x ∈ l, BKs ks x) ∧ l.length ≤ maxLen ∧ Rep W (fun b => b < W.heap.size) (.sl l.length l.flatten) v := by
  obtain ⟨fuel, h⟩ := hd
  obtain ⟨a0, len, cap, rfl⟩ := WideShapes.okWide_slice ht hval
  have h' : DataW.trod enc P W 0 (fun _ => true) true fuel t [.slice a0 len cap] = some (d, ps) := h
  rcases DataW.trod_slice ht h' with ⟨hcs, _⟩ | ⟨a, len', cap', elems, rest, n, _, hcs, _, _, hl, hm, hlen, hel, _, _⟩
  · simp only [List.cons.injEq, and_true] at hcs
    exact ⟨[], by simp, by simp [maxLen], by simp only [Rep]; exact .inl ⟨hcs, rfl, rfl⟩⟩
  · simp only [List.cons.injEq, and_true, Value.slice.injEq] at hcs
    obtain ⟨rfl, rfl, rfl⟩ := hcs
    simp only [Value.okWide, ht, Cell.okWide, Cell.ok] at hval
    obtain ⟨_, _, _, hspot, row, cells, hsh, _⟩ := hval
    have hblk : a.block < W.heap.size := by
      rcases Nat.lt_or_ge a.block W.heap.size with h | h
      · exact h
      · simp [World.shape?, Array.getElem?_eq_none h] at hsh
    obtain ⟨b, off, spot⟩ := a
    simp only at hspot hblk
    subst hspot
    have key : ∀ k, k ≤ len → ∃ l : List (List PV), l.length = k ∧ (∀ x ∈ l, BKs ks x) ∧ ∃ vs, vs.length = k * ks.length ∧ RepL W (fun b => b < W.heap.size) l.flatten vs ∧ ∀ j u, vs[j]? = some u → W.cell? ⟨b, off + j, none⟩ = some u := by
      intro k
      induction k with
      | zero => intro _; exact ⟨[], rfl, by simp, [], by simp, rfl, fun j u h => by simp at h⟩
      | succ k ih =>
        intro hk
        obtain ⟨l, h1, h2, vs, h3, h4, h5⟩ := ih (by omega)
        have h6 := hel k (by omega)
        rw [List.getElem?_eq_getElem (by omega : k < elems.length), he.1, Option.bind_eq_some_iff] at h6
        obtain ⟨us, h7, h8⟩ := h6
        obtain ⟨_, h9, h10⟩ := World.cells?_some h7
        obtain ⟨p, h11, h12, _⟩ := he.2 _ _ _ _ _ _ _ _ _ h8
        refine ⟨l ++ [p], by simp [h1], fun x hx => ?_, vs ++ us, by rw [List.length_append, h3, h9, Nat.succ_mul], ?_, fun j u hj => ?_⟩
        · rcases List.mem_append.1 hx with hx | hx
          · exact h2 x hx
          · simp at hx; subst hx; exact h11
        · rw [List.flatten_append]
          exact h4.append (by simpa using RepL.mono (F := fun _ => False) (fun _ h => h.elim) (fun _ _ => rfl) p us h12)
        · by_cases hjl : j < vs.length
          · rw [List.getElem?_append_left hjl] at hj; exact h5 j u hj
          · rw [List.getElem?_append_right (by omega)] at hj
            have hlt := (List.getElem?_eq_some_iff.1 hj).1
            have h13 := h10 (j - vs.length) (by omega)
            rw [hj, Addr.add_lit, Addr.add_lit] at h13
            rw [← h13]
            congr 2
            omega
    obtain ⟨l, h1, h2, vs, h3, h4, h5⟩ := key len (Nat.le_refl _)
    refine ⟨l, h2, by omega, ?_⟩
    simp only [Rep]
    exact .inr ⟨b, off, cap, vs, by rw [h1], hblk, by omega, h5, h4⟩
theorem trodAll_below' {W' : World} (hl : laidOutB P = true) (hb : Below W.heap.size W W') : ∀ {ts : List TypeId} {vs : List Value} {ds : List (DataW H)} {p : List MemPlace},
    ts.all (fun t => P.readableRec t && decide (t < P.types.size)) = true → (∀ x ∈ p, x.block < W.heap.size) →
    DataW.TrodAll enc P W 0 (fun _ => true) true ts vs ds p → DataW.TrodAll enc P W' 0 (fun b => decide (b < W.heap.size)) true ts vs ds p
  | [], [], [], _, _, _, h => h
  | t :: _, _ :: _, _ :: _, _, hr, hlt, ⟨p, q, h1, h2, h3⟩ => by
    simp only [List.all_cons, Bool.and_eq_true, decide_eq_true_eq] at hr
    subst h3
    exact ⟨p, q, Below.trod hl hr.1.1 hr.1.2 h1 hb (fun x hx => hlt x (List.mem_append.2 (.inl hx))), trodAll_below' hl hb hr.2 (fun x hx => hlt x (List.mem_append.2 (.inr hx))) h2, rfl⟩
theorem trodAll_below {W' : World} (hl : laidOutB P = true) (hb : Below W.heap.size W W') {ts : List TypeId} (hr : ts.all (fun t => P.readableRec t && decide (t < P.types.size)) = true) {vs : List Value} {ds : List (DataW H)} {p : List MemPlace}
    (h : DataW.TrodAll enc P W 0 (fun _ => true) true ts vs ds p) : DataW.TrodAll enc P W' 0 (fun b => decide (b < W.heap.size)) true ts vs ds p :=
  trodAll_below' hl hb hr (DataW.TrodAll.lt h) h
end
/-! ### Lists of cells, in the laws' own terms -/
theorem map_of {α : Type} {Q : α → Prop} (f : α → List PV) : ∀ {l : List (List PV)}, (∀ x ∈ l, ∃ y, x = f y ∧ Q y) → ∃ ys : List α, l = ys.map f ∧ ∀ y ∈ ys, Q y
  | [], _ => ⟨[], rfl, by simp⟩
  | x :: l, h => by
    obtain ⟨y, rfl, hq⟩ := h x (by simp)
    obtain ⟨ys, rfl, hqs⟩ := map_of (l := l) f fun z hz => h z (by simp [hz])
    exact ⟨y :: ys, rfl, fun z hz => (List.mem_cons.1 hz).elim (fun e => e ▸ hq) (hqs z)⟩
theorem flatten_one {α : Type} (f : α → PV) (ys : List α) : (ys.map fun y => [f y]).flatten = ys.map f := by
  induction ys with
  | nil => rfl
  | cons y ys ih => simp [ih]
theorem bk_int {x : List PV} {k : IntKind} (h : BKs [.int k] x) : ∃ n, x = [.int k n] ∧ (Lit.int k n).wf = true := by
  obtain ⟨p, r, rfl, ⟨n, rfl, hw⟩, h2⟩ := h
  simp only [BKs] at h2
  exact ⟨n, by rw [h2], hw⟩
section
variable {P : Program} {t e : TypeId} {H : Type} {enc : TypeId × Value → H} {W : World} {base : Nat} {v : Value} {d : DataW H} {ps : List MemPlace}
theorem open_bytes (ht : P.underlying t = some (.slice e)) (he : P.underlying e = some (.int .u8)) (hc : P.cellsOf e = 1) (hval : Value.okWide P W .any base t v) (hd : DataW.Trod enc P W 0 (fun _ => true) true t v d ps) :
    ∃ l : List UInt8, l.length ≤ 9223372036854775807 ∧ Rep W (fun b => b < W.heap.size) (.sl l.length (bytesP l)) v := by
  obtain ⟨l, h1, h2, h3⟩ := open_slice ht (flatTy_int he hc) hval hd
  obtain ⟨ys, rfl, h4⟩ := map_of (Q := fun _ => True) (fun (c : UInt8) => [.int .u8 c.toNat]) (l := l) fun x hx => by
    obtain ⟨n, rfl, hw⟩ := bk_int (h1 x hx)
    have hb : 0 ≤ n ∧ n ≤ 255 := by simp [Lit.wf, IntKind.min, IntKind.max, IntKind.signed, IntKind.bits] at hw; omega
    refine ⟨UInt8.ofNat n.toNat, ?_, trivial⟩
    have : (UInt8.ofNat n.toNat).toNat = n.toNat := by rw [UInt8.toNat_ofNat']; omega
    rw [this, Int.toNat_of_nonneg hb.1]
  rw [flatten_one, List.length_map] at h3
  exact ⟨ys, by simpa [maxLen] using h2, h3⟩
end
end Go.Proofs.Ytlipkomdajogiaa
