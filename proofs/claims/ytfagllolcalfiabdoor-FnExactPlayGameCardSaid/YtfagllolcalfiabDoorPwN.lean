/- The arguments of a row, opened: whatever can be read as data at a type of numbers, bools, texts, structs and arrays of such, and slices of such, is a pure value; behind a call that writes to nothing old the arguments read as they did. Own work; no conditions; nothing here is about one program. -/
import Derived.Test.YtfagllolcalfiabDoorPwM
import Derived.OpenShut
import Derived.ChangeOld
namespace Go.Proofs.YtfagllolcalfiabDoor
open Go.RowKit
inductive BK where
  | bool
  | int (k : IntKind)
  | str
def BK.is : BK → PV → Prop
  | .bool, p => ∃ b, p = .bool b
  | .int k, p => ∃ n, p = .int k n ∧ (Lit.int k n).wf = true
  | .str, p => ∃ s, p = .str s ∧ s.length ≤ maxLen
def BKs : List BK → List PV → Prop
  | [], ps => ps = []
  | k :: ks, ps => ∃ p r, ps = p :: r ∧ k.is p ∧ BKs ks r
theorem BKs.length : ∀ {ks : List BK} {ps : List PV}, BKs ks ps → ps.length = ks.length
  | [], ps, h => by simp only [BKs] at h; simp [h]
  | k :: ks, ps, h => by
    obtain ⟨p, r, rfl, _, h2⟩ := h
    simp [BKs.length h2]
theorem BKs.append : ∀ {ks ks' : List BK} {ps ps' : List PV}, BKs ks ps → BKs ks' ps' → BKs (ks ++ ks') (ps ++ ps')
  | [], ks', ps, ps', h, h' => by simp only [BKs] at h; subst h; simpa using h'
  | k :: ks, ks', ps, ps', h, h' => by
    obtain ⟨p, r, rfl, h1, h2⟩ := h
    exact ⟨p, r ++ ps', rfl, h1, BKs.append h2 h'⟩
mutual
def cellsD {H : Type} : DataW H → List PV
  | .lit (.bool b) => [.bool b]
  | .lit (.int k n) => [.int k n]
  | .lit (.string s) => [.str s]
  | .agg ps => cellsDL ps
  | _ => []
def cellsDL {H : Type} : List (DataW H) → List PV
  | [] => []
  | d :: r => cellsD d ++ cellsDL r
end
theorem cellsDL_append {H : Type} : ∀ (a b : List (DataW H)), cellsDL (a ++ b) = cellsDL a ++ cellsDL b
  | [], b => by simp [cellsDL]
  | d :: r, b => by simp [cellsDL, cellsDL_append r b]
def FlatTy (P : Program) (t : TypeId) (ks : List BK) : Prop := P.cellsOf t = ks.length ∧
  ∀ (H : Type) (enc : TypeId × Value → H) (w : World) (base : Nat) (spare : Nat → Bool) (held : Bool) (fuel : Nat) (cs : List Value) (x : DataW H × List MemPlace),
    DataW.trod enc P w base spare held fuel t cs = some x → ∃ ps, BKs ks ps ∧ RepL w (fun _ => False) ps cs ∧ ps = cellsD x.1
section
variable {P : Program} {t e : TypeId}
theorem flatTy_int {k : IntKind} (ht : P.underlying t = some (.int k)) (hc : P.cellsOf t = 1) : FlatTy P t [.int k] := by
  refine ⟨hc, fun H enc w base spare held fuel cs x h => ?_⟩
  obtain ⟨n, rfl, rfl, hw⟩ := DataW.trod_int ht h
  exact ⟨[.int k n], ⟨_, _, rfl, ⟨n, rfl, hw⟩, rfl⟩, ⟨_, _, rfl, rfl, by simp [Rep], rfl⟩, by simp [cellsD]⟩
theorem flatTy_str (ht : P.underlying t = some .string) (hc : P.cellsOf t = 1) : FlatTy P t [.str] := by
  refine ⟨hc, fun H enc w base spare held fuel cs x h => ?_⟩
  obtain ⟨s, rfl, rfl, hw⟩ := DataW.trod_string ht h
  refine ⟨[.str s.data.toList], ⟨_, _, rfl, ⟨_, rfl, by simpa using hw⟩, rfl⟩, ⟨_, _, rfl, rfl, by simp [Rep], rfl⟩, by simp [cellsD]⟩
theorem flatTy_array {n : Nat} {ks : List BK} (ht : P.underlying t = some (.array n e)) (he : FlatTy P e ks) (hc : P.cellsOf t = n * ks.length) : FlatTy P t (List.replicate n ks).flatten := by
  refine ⟨by rw [hc]; simp, fun H enc w base spare held fuel cs x h => ?_⟩
  obtain ⟨xs, m, _, hxd, hl, hx, hi⟩ := DataW.trod_array ht h
  rw [hc] at hl
  have key : ∀ k, k ≤ n → ∃ ps, BKs (List.replicate k ks).flatten ps ∧ RepL w (fun _ => False) ps (cs.take (k * ks.length)) ∧ ps = cellsDL ((xs.take k).map (·.1)) := by
    intro k
    induction k with
    | zero => intro _; exact ⟨[], rfl, by simp [RepL], by simp [cellsDL]⟩
    | succ k ih =>
      intro hk
      obtain ⟨p1, h1, h2, hd1⟩ := ih (by omega)
      have h3 := hi k (by omega)
      rw [List.getElem?_eq_getElem (by omega : k < xs.length), he.1] at h3
      obtain ⟨p2, h4, h5, hd2⟩ := he.2 _ _ _ _ _ _ _ _ _ h3
      refine ⟨p1 ++ p2, ?_, ?_, ?_⟩
      · rw [List.replicate_succ', List.flatten_append]
        exact h1.append (by simpa using h4)
      · rw [Nat.succ_mul, List.take_add]
        exact h2.append h5
      · rw [List.take_succ_eq_append_getElem (by omega : k < xs.length), List.map_append, cellsDL_append, hd1, hd2]
        simp [cellsDL]
  obtain ⟨ps, h1, h2, h3⟩ := key n (Nat.le_refl _)
  refine ⟨ps, h1, by rw [← hl, List.take_length] at h2; exact h2, ?_⟩
  rw [List.take_of_length_le (by omega)] at h3
  rw [h3, hxd]; simp [cellsD]
variable {H : Type} {enc : TypeId × Value → H} {W : World} {base : Nat} {v : Value} {d : DataW H} {ps : List MemPlace}
theorem open_slice {ks : List BK} (ht : P.underlying t = some (.slice e)) (he : FlatTy P e ks) (hval : Value.okWide P W .any base t v) (hd : DataW.Trod enc P W 0 (fun _ => true) true t v d ps) :
    ∃ l : List (List PV), (∀ x ∈ l, BKs ks x) ∧ l.length ≤ maxLen ∧ Rep W (fun b => b < W.heap.size) (.sl l.length l.flatten) v := by
  obtain ⟨fuel, h⟩ := hd
  obtain ⟨a0, len, cap, rfl⟩ := WideShapes.okWide_slice ht hval
  have h' : DataW.trod enc P W 0 (fun _ => true) true fuel t [.slice a0 len cap] = some (d, ps) := h
  rcases DataW.trod_slice ht h' with ⟨hcs, _⟩ | ⟨a, len', cap', elems, rest, n, _, hcs, _, _, hl, hm, hlen, hel, _, _⟩
  · simp only [List.cons.injEq, and_true] at hcs
    exact ⟨[], by simp, by simp [maxLen], by simp only [Rep]; exact .inl ⟨hcs, rfl, rfl⟩⟩
  · simp only [List.cons.injEq, and_true, Value.slice.injEq] at hcs
    obtain ⟨rfl, rfl, rfl⟩ := hcs
    simp only [Value.okWide, ht, Cell.okWide, Cell.ok] at hval
    obtain ⟨_, _, _, hspot, row, cells, hsh, _⟩ := hval
    have hblk : a.block < W.heap.size := by
      rcases Nat.lt_or_ge a.block W.heap.size with h | h
      · exact h
      · simp [World.shape?, Array.getElem?_eq_none h] at hsh
    obtain ⟨b, off, spot⟩ := a
    simp only at hspot hblk
    subst hspot
    have key : ∀ k, k ≤ len → ∃ l : List (List PV), l.length = k ∧ (∀ x ∈ l, BKs ks x) ∧ ∃ vs, vs.length = k * ks.length ∧ RepL W (fun b => b < W.heap.size) l.flatten vs ∧ ∀ j u, vs[j]? = some u → W.cell? ⟨b, off + j, none⟩ = some u := by
      intro k
      induction k with
      | zero => intro _; exact ⟨[], rfl, by simp, [], by simp, rfl, fun j u h => by simp at h⟩
      | succ k ih =>
        intro hk
        obtain ⟨l, h1, h2, vs, h3, h4, h5⟩ := ih (by omega)
        have h6 := hel k (by omega)
        rw [List.getElem?_eq_getElem (by omega : k < elems.length), he.1, Option.bind_eq_some_iff] at h6
        obtain ⟨us, h7, h8⟩ := h6
        obtain ⟨_, h9, h10⟩ := World.cells?_some h7
        obtain ⟨p, h11, h12, _⟩ := he.2 _ _ _ _ _ _ _ _ _ h8
        refine ⟨l ++ [p], by simp [h1], fun x hx => ?_, vs ++ us, by rw [List.length_append, h3, h9, Nat.succ_mul], ?_, fun j u hj => ?_⟩
        · rcases List.mem_append.1 hx with hx | hx
          · exact h2 x hx
          · simp at hx; subst hx; exact h11
        · rw [List.flatten_append]
          exact h4.append (by simpa using RepL.mono (F := fun _ => False) (fun _ h => h.elim) (fun _ _ => rfl) p us h12)
        · by_cases hjl : j < vs.length
          · rw [List.getElem?_append_left hjl] at hj; exact h5 j u hj
          · rw [List.getElem?_append_right (by omega)] at hj
            have hlt := (List.getElem?_eq_some_iff.1 hj).1
            have h13 := h10 (j - vs.length) (by omega)
            rw [hj, Addr.add_lit, Addr.add_lit] at h13
            rw [← h13]
            congr 2
            omega
    obtain ⟨l, h1, h2, vs, h3, h4, h5⟩ := key len (Nat.le_refl _)
    refine ⟨l, h2, by omega, ?_⟩
    simp only [Rep]
    exact .inr ⟨b, off, cap, vs, by rw [h1], hblk, by omega, h5, h4⟩
theorem trodAll_below' {W' : World} (hl : laidOutB P = true) (hb : Below W.heap.size W W') : ∀ {ts : List TypeId} {vs : List Value} {ds : List (DataW H)} {p : List MemPlace},
    ts.all (fun t => P.readableRec t && decide (t < P.types.size)) = true → (∀ x ∈ p, x.block < W.heap.size) →
    DataW.TrodAll enc P W 0 (fun _ => true) true ts vs ds p → DataW.TrodAll enc P W' 0 (fun b => decide (b < W.heap.size)) true ts vs ds p
  | [], [], [], _, _, _, h => h
  | t :: _, _ :: _, _ :: _, _, hr, hlt, ⟨p, q, h1, h2, h3⟩ => by
    simp only [List.all_cons, Bool.and_eq_true, decide_eq_true_eq] at hr
    subst h3
    exact ⟨p, q, Below.trod hl hr.1.1 hr.1.2 h1 hb (fun x hx => hlt x (List.mem_append.2 (.inl hx))), trodAll_below' hl hb hr.2 (fun x hx => hlt x (List.mem_append.2 (.inr hx))) h2, rfl⟩
theorem trodAll_below {W' : World} (hl : laidOutB P = true) (hb : Below W.heap.size W W') {ts : List TypeId} (hr : ts.all (fun t => P.readableRec t && decide (t < P.types.size)) = true) {vs : List Value} {ds : List (DataW H)} {p : List MemPlace}
    (h : DataW.TrodAll enc P W 0 (fun _ => true) true ts vs ds p) : DataW.TrodAll enc P W' 0 (fun b => decide (b < W.heap.size)) true ts vs ds p :=
  trodAll_below' hl hb hr (DataW.TrodAll.lt h) h
end
theorem wf_i64 {n : Int} (h : (Lit.int .i64 n).wf = true) : -9223372036854775808 ≤ n ∧ n ≤ 9223372036854775807 := by
  simp [Lit.wf, IntKind.min, IntKind.max, IntKind.signed, IntKind.bits] at h
  omega
theorem glP_one {P : Program} {W : World} {nm : String} {g t : Nat} {H : Type} {enc : TypeId × Value → H} {ks : List BK} {cs0 : Array Value} {spare : Nat → Bool} {held : Bool} {fuel : Nat} {d : DataW H} {ps : List MemPlace} (hg : P.globalNamed nm = some g) (hv : W.var? P nm = some cs0)
    (hf : FlatTy P t ks) (hd : DataW.trod enc P W 0 spare held fuel t cs0.toList = some (d, ps)) (hpos : 0 < ks.length) : ∃ vs, (∃ e fr, W.heap[g]? = some (.cells vs.toArray e fr)) ∧ g < W.heap.size ∧ RepL W (fun b => b < W.heap.size) (cellsD d) vs := by
  obtain ⟨cs, h1, h2, h3⟩ := hf.2 _ _ _ _ _ _ _ _ _ hd
  have hc : ∀ (j : Nat) u, cs0.toList[j]? = some u → W.cell? ⟨g, j, none⟩ = some u := fun j u hu => by
    rw [World.var?_cell hg hv j]; simpa using hu
  have hlen : 0 < cs0.toList.length := by rw [h2.length, h1.length]; exact hpos
  have hblk : ∃ e fr, W.heap[g]? = some (.cells cs0.toList.toArray e fr) := by
    unfold World.var? at hv
    rw [hg] at hv
    simp only [Option.bind_some] at hv
    split at hv
    · rename_i c e fr hh
      have := Option.some.inj hv
      subst this
      exact ⟨e, fr, by simpa using hh⟩
    · cases hv
  refine ⟨cs0.toList, hblk, ?_, ?_⟩
  · have h4 := hc 0 cs0.toList[0] (List.getElem?_eq_getElem hlen)
    exact World.block_lt_of_cell? W _ h4
  · rw [← h3]; exact RepL.mono (F := fun _ => False) (fun _ h => h.elim) (fun _ _ => rfl) cs _ h2
/-! ### Lists of cells, in the laws' own terms -/
theorem map_of {α : Type} {Q : α → Prop} (f : α → List PV) : ∀ {l : List (List PV)}, (∀ x ∈ l, ∃ y, x = f y ∧ Q y) → ∃ ys : List α, l = ys.map f ∧ ∀ y ∈ ys, Q y
  | [], _ => ⟨[], rfl, by simp⟩
  | x :: l, h => by
    obtain ⟨y, rfl, hq⟩ := h x (by simp)
    obtain ⟨ys, rfl, hqs⟩ := map_of (l := l) f fun z hz => h z (by simp [hz])
    exact ⟨y :: ys, rfl, fun z hz => (List.mem_cons.1 hz).elim (fun e => e ▸ hq) (hqs z)⟩
theorem flatten_one {α : Type} (f : α → PV) (ys : List α) : (ys.map fun y => [f y]).flatten = ys.map f := by
  induction ys with
  | nil => rfl
  | cons y ys ih => simp [ih]
theorem bk_int {x : List PV} {k : IntKind} (h : BKs [.int k] x) : ∃ n, x = [.int k n] ∧ (Lit.int k n).wf = true := by
  obtain ⟨p, r, rfl, ⟨n, rfl, hw⟩, h2⟩ := h
  simp only [BKs] at h2
  exact ⟨n, by rw [h2], hw⟩
section
variable {P : Program} {t e : TypeId} {H : Type} {enc : TypeId × Value → H} {W : World} {base : Nat} {v : Value} {d : DataW H} {ps : List MemPlace}
theorem open_i64s (ht : P.underlying t = some (.slice e)) (he : P.underlying e = some (.int .i64)) (hc : P.cellsOf e = 1) (hval : Value.okWide P W .any base t v) (hd : DataW.Trod enc P W 0 (fun _ => true) true t v d ps) :
    ∃ l : List Int, ((∀ n ∈ l, -9223372036854775808 ≤ n ∧ n ≤ 9223372036854775807) ∧ l.length ≤ 9223372036854775807) ∧ Rep W (fun b => b < W.heap.size) (.sl l.length (l.map (.int .i64))) v := by
  obtain ⟨l, h1, h2, h3⟩ := open_slice ht (flatTy_int he hc) hval hd
  obtain ⟨ys, rfl, h4⟩ := map_of (Q := fun n => -9223372036854775808 ≤ n ∧ n ≤ 9223372036854775807) (fun n => [.int .i64 n]) (l := l) fun x hx => by
    obtain ⟨n, hn, hw⟩ := bk_int (h1 x hx); exact ⟨n, hn, wf_i64 hw⟩
  rw [flatten_one, List.length_map] at h3
  exact ⟨ys, ⟨h4, by simpa [maxLen] using h2⟩, h3⟩
end
end Go.Proofs.YtfagllolcalfiabDoor
