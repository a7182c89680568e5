/- Contracts of library functions that write to a row of numbers, in this layer's words: a part of a variable that is an array, a slice that is the function's own. Own work; no conditions; nothing here is about one program. -/
import Derived.Test.YtfagllolcalfiaaDoorPwVy
import Derived.Sort.Grow
namespace Go.Proofs.YtfagllolcalfiaaDoor
open Go.RowKit
set_option linter.unusedVariables false
set_option linter.unusedSimpArgs false

/-- Such a function's contract, at any place. -/
def RowFn (P : Program) (f : FuncId) (zs zs' : List Int) : Prop :=
  (∀ (w : World) (b off cap : Nat), Sort.Holds (Value.int .i64) w b off zs.toArray → b < w.heap.size → Calls P f #[.slice (some ⟨b, off, none⟩) zs.length cap] w fun e w' =>
    e = .returned (.tuple #[]) ∧ ∃ k os, w' = Sort.grow (Sort.putRow (Value.int .i64) (Sort.ahead w k) b off zs'.toArray) os) ∧
  (zs.length = 0 → ∀ (a : Option Addr) (cap : Nat) (w : World), Calls P f #[.slice a 0 cap] w fun e w' => e = .returned (.tuple #[]) ∧ w' = w)

theorem repL_ints {w : World} {F : Nat → Prop} : ∀ {L : List Int} {vs : List Value}, RepL w F (L.map (PV.int .i64)) vs → vs = L.map (Value.int .i64)
  | [], vs, h => by simpa [RepL] using h
  | x :: L, vs, h => by
    simp only [List.map_cons, RepL] at h
    obtain ⟨v, r, rfl, _, h1, h2⟩ := h
    simp only [Rep] at h1
    rw [h1, repL_ints h2]; rfl
theorem ints_repL {w : World} {F : Nat → Prop} : ∀ (L : List Int), RepL w F (L.map (PV.int .i64)) (L.map (Value.int .i64))
  | [] => rfl
  | x :: L => ⟨_, _, rfl, rfl, rfl, ints_repL L⟩
theorem get_bang (d : List Int) (i : Nat) (h : i < d.length) : (d.toArray)[i]! = d.getD i 0 := by
  rw [getElem!_pos _ i (by simpa using h), List.getD_eq_getElem?_getD, List.getElem?_eq_getElem h]; rfl
theorem int_get (L : List Int) {j : Nat} (h : j < L.length) : (L.map (Value.int .i64))[j]? = some (.int .i64 (L.getD j 0)) := by
  rw [List.getElem?_map, List.getElem?_eq_getElem h, List.getD_eq_getElem?_getD, List.getElem?_eq_getElem h]; rfl

/-- What such a call leaves in the row's block: the cells ahead of the part and behind it stay. -/
theorem row_left {w w' : World} {g off : Nat} {cur : Array Value} {T : TypeId} {zs' : List Int} {k : Nat} {os : Array Obj} (hg : w.heap[g]? = some (.cells cur T (0, 0))) (hw : w' = Sort.grow (Sort.putRow (Value.int .i64) (Sort.ahead w k) g off zs'.toArray) os) :
    w'.heap[g]? = some (.cells (Sort.putCells (Value.int .i64) off zs'.toArray cur) T (0, 0)) ∧ (∀ b, b ≠ g → b < w.heap.size → w'.heap[b]? = w.heap[b]?) ∧ w'.os = w.os ∧ w'.tape = w.tape ∧ w'.output = w.output ∧ w.heap.size ≤ w'.heap.size := by
  have hlt : g < w.heap.size := (Array.getElem?_eq_some_iff.1 hg).1
  subst hw
  have hsz : (Sort.putRow (Value.int .i64) (Sort.ahead w k) g off zs'.toArray).heap.size = w.heap.size := by simp [Sort.putRow, Sort.mapBlock, Sort.ahead]
  have hb : ∀ b, b < w.heap.size → (Sort.grow (Sort.putRow (Value.int .i64) (Sort.ahead w k) g off zs'.toArray) os).heap[b]? = if g = b then w.heap[b]?.map (Sort.onCells (Sort.putCells (Value.int .i64) off zs'.toArray)) else w.heap[b]? := fun b hb => by
    rw [Sort.heap_grow_old _ _ (by rw [hsz]; exact hb)]
    simp only [Sort.putRow, Sort.mapBlock, Sort.ahead, Array.getElem?_modify]
  refine ⟨?_, fun b hne hlt => ?_, rfl, rfl, rfl, ?_⟩
  · rw [hb g hlt, if_pos rfl, hg]; rfl
  · rw [hb b hlt, if_neg (fun e => hne e.symm)]
  · rw [Sort.size_grow, hsz]; omega

theorem putCells_size (off : Nat) (zs : Array Int) (c : Array Value) : (Sort.putCells (Value.int .i64) off zs c).size = c.size := by simp [Sort.putCells]

/-- The cells of such a row: those of a list, with a part of it as another list. -/
theorem putCells_ints {L zs' : List Int} {off n : Nat} {cur : Array Value} (hn : off + n ≤ L.length) (hz : zs'.length = n) (hc : cur.toList.take L.length = L.map (Value.int .i64)) (hl : L.length ≤ cur.size) :
    (Sort.putCells (Value.int .i64) off zs'.toArray cur).toList.take L.length = (L.take off ++ zs' ++ L.drop (off + n)).map (Value.int .i64) := by
  have hlo : (L.take off).length = off := by rw [List.length_take]; omega
  apply List.ext_getElem?
  intro j
  by_cases hj : j < L.length
  · have h0 : cur[j]? = some (.int .i64 (L.getD j 0)) := by
      have := congrArg (fun l : List Value => l[j]?) hc
      simp only [List.getElem?_take, if_pos hj, int_get L hj] at this
      simpa using this
    rw [List.getElem?_take, if_pos hj]
    have h1 : (Sort.putCells (Value.int .i64) off zs'.toArray cur).toList[j]? = some (if off ≤ j ∧ j < off + zs'.toArray.size then .int .i64 ((zs'.toArray)[j - off]!) else .int .i64 (L.getD j 0)) := by
      rw [← Array.getElem?_toList] at h0
      simp only [Sort.putCells, Array.toList_mapIdx, List.getElem?_mapIdx, h0, Option.map_some]
    rw [h1, List.getElem?_map]
    by_cases a : j < off
    · rw [if_neg (by omega), List.append_assoc, List.getElem?_append_left (by omega), List.getElem?_take, if_pos a, List.getElem?_eq_getElem hj, List.getD_eq_getElem?_getD, List.getElem?_eq_getElem hj]; rfl
    · by_cases b : j < off + n
      · rw [if_pos ⟨by omega, by simpa [hz] using b⟩, get_bang _ _ (by omega), List.append_assoc, List.getElem?_append_right (by omega), hlo, List.getElem?_append_left (by omega), List.getElem?_eq_getElem (by omega), List.getD_eq_getElem?_getD, List.getElem?_eq_getElem (by omega)]; rfl
      · rw [if_neg (by simp [hz]; omega), List.getElem?_append_right (by rw [List.length_append]; omega), List.length_append, hlo, hz, List.getElem?_drop, show off + n + (j - (off + n)) = j by omega, List.getElem?_eq_getElem hj, List.getD_eq_getElem?_getD, List.getElem?_eq_getElem hj]; rfl
  · rw [List.getElem?_take, if_neg hj, List.getElem?_eq_none (by simp only [List.length_map, List.length_append, hlo, hz, List.length_drop]; omega)]

section
variable {P : Program} {f : FuncId}

/-- A part of a variable that is an array. -/
theorem mcalls_vw {T off n : Nat} {L zs' : List Int} (hE : Enters P f) (hn : off + n ≤ L.length) (hz : zs'.length = n) (h : RowFn P f ((L.drop off).take n) zs') :
    MCalls P f false (some (.vw T off n (L.map (.int .i64)))) [] fun rs cs => rs = [] ∧ cs = (L.take off ++ zs' ++ L.drop (off + n)).map (.int .i64) := by
  have hzl : ((L.drop off).take n).length = n := by rw [List.length_take, List.length_drop]; omega
  refine ⟨hE, fun C G0 v0 vs hpl hfp hexm hG0 hio hargs => ?_⟩
  obtain ⟨off', cap, us, hv, hc, ho, hg, hh, hr⟩ := hio _ rfl
  simp only [RepArgs] at hargs
  subst hargs
  have hus := repL_ints hr
  subst hus
  show Calls P f [v0].toArray _ _
  subst hv
  by_cases hn0 : n = 0
  · subst hn0
    refine (h.2 hzl _ cap C.w0).mono ?_
    rintro e w' ⟨rfl, rfl⟩
    have : zs' = [] := List.eq_nil_of_length_eq_zero hz
    subst this
    refine ⟨_, [], _, rfl, ⟨rfl, rfl⟩, Stays.refl _ _, G0, [], hG0, rfl, rfl, rfl, fun x hx => by simp at hx, ?_⟩
    intro x hx
    cases hx
    refine ⟨off', cap, _, rfl, hc, ho, hg, hh, ?_⟩
    rw [List.append_nil, Nat.add_zero, List.take_append_drop]; exact hr
  · have ho' := ho hn0
    subst ho'
    have hlt := (hG0.1 _ _ hg).2
    have hH : Sort.Holds (Value.int .i64) C.w0 (G0.r 2000) off' ((L.drop off').take n).toArray := fun j hj => by
      have hj' : j < n := by simpa [hzl] using hj
      have hjl : off' + j < L.length := by omega
      refine ⟨?_, ?_⟩
      · rw [cell_of_row C.w0 _ _ _ T (0, 0) hh, get_bang _ _ (by rw [hzl]; exact hj')]
        have e : ((L.drop off').take n).getD j 0 = L.getD (off' + j) 0 := by
          rw [List.getD_eq_getElem?_getD, List.getElem?_take, if_pos hj', List.getElem?_drop, ← List.getD_eq_getElem?_getD]
        rw [e]
        have := int_get L hjl
        simpa using this
      · simp [World.frozen?, hh]
    have hcall := h.1 C.w0 (G0.r 2000) off' cap hH hlt
    rw [hzl] at hcall
    refine hcall.mono ?_
    rintro e w' ⟨rfl, k, os, hw⟩
    obtain ⟨h1, h2, h3, h4, h5, h6⟩ := row_left hh hw
    have hcur := putCells_ints (L := L) (zs' := zs') (cur := (L.map (Value.int .i64)).toArray) hn hz (List.take_of_length_le (l := L.map (Value.int .i64)) (by rw [List.length_map]; exact Nat.le_refl _)) (by simp)
    have hall : (Sort.putCells (Value.int .i64) off' zs'.toArray (L.map (Value.int .i64)).toArray) = ((L.take off' ++ zs' ++ L.drop (off' + n)).map (Value.int .i64)).toArray := by
      rw [← hcur, List.take_of_length_le (by rw [Array.length_toList, putCells_size]; simp), Array.toArray_toList]
    rw [hall] at h1
    refine ⟨_, [], _, rfl, ⟨rfl, rfl⟩, ⟨h3, h4, h5, h6, fun b hb => h2 b (fun e => (hG0.1 _ _ hg).1 (e ▸ hb)) hb.1, fun b hb => ?_⟩, G0, [], ⟨fun b l hb => ⟨(hG0.1 b l hb).1, Nat.lt_of_lt_of_le (hG0.1 b l hb).2 h6⟩, hG0.2⟩, rfl, rfl, rfl, fun x hx => by simp at hx, ?_⟩
    · by_cases e : b = G0.r 2000
      · subst e
        rw [h1, hh]
        simp [rowForm, hz]; omega
      · rw [h2 b e hb]
    · intro x hx
      cases hx
      exact ⟨off', cap, _, rfl, hc, fun _ => rfl, hg, h1, ints_repL _⟩

/-- A slice that is the function's own. -/
theorem mcalls_row {e : Nat} {L zs' : List Int} (hE : Enters P f) (hz : zs'.length = L.length) (h : RowFn P f L zs') :
    MCalls P f false (some (.own e 1 L.length (L.map (.int .i64)))) [] fun rs cs => rs = [] ∧ cs = zs'.map (.int .i64) := by
  refine ⟨hE, fun C G0 v0 vs hpl hfp hexm hG0 hio hargs => ?_⟩
  obtain ⟨us, ho, hb, hr⟩ := hio _ rfl
  simp only [RepArgs] at hargs
  subst hargs
  have hus := repL_ints hr
  subst hus
  show Calls P f [v0].toArray _ _
  have empty : ∀ (a : Option Addr) (cap : Nat), v0 = .slice a 0 cap → L.length = 0 → Calls P f [v0].toArray C.w0 fun e_1 w' => ∃ v rs cs', e_1 = .returned v ∧ (rs = [] ∧ cs' = zs'.map (.int .i64)) ∧ Stays C.old C.w0 w' ∧
      ∃ (G : Gh) (us : List Value), G.fits C w' ∧ OkL C w' G rs us ∧ v = packV us ∧ rs.all SV.ret = true ∧ (∀ x ∈ rs, ∀ j, x.rl = some j → j ≠ 2000) ∧ ∀ x, some (Iov.own e 1 L.length (L.map (.int .i64))) = some x → Ok C w' G (x.put cs').sv v0 := by
    intro a cap hv hl
    have hLn : L = [] := List.eq_nil_of_length_eq_zero hl
    have hzn : zs' = [] := List.eq_nil_of_length_eq_zero (by rw [hz, hl])
    have hc := h.2 hl a cap C.w0
    rw [← hv] at hc
    refine hc.mono ?_
    rintro e1 w' ⟨rfl, rfl⟩
    refine ⟨_, [], _, rfl, ⟨rfl, rfl⟩, Stays.refl _ _, G0, [], hG0, rfl, rfl, rfl, fun x hx => by simp at hx, ?_⟩
    intro x hx
    cases hx
    have := hio _ rfl
    rw [hzn]
    rw [hLn] at this ⊢
    exact this
  rcases ho.2 with ⟨hv, hm⟩ | ⟨g, cap, cur, hv, hbg, hgg, hmc, hcm, hcs, htk⟩
  · exact empty none 0 hv hm
  by_cases hn0 : L.length = 0
  · exact empty _ cap (by rw [hv, hn0]) hn0
  have hgr := (hb g (by rw [hv]; rfl)).1
  have hgl := (hb g (by rw [hv]; rfl)).2
  subst hgr
  have hlt := (hG0.1 _ _ hgl).2
  rw [Nat.mul_one] at htk hcs
  have hcl : L.length ≤ cur.size := by omega
  have hH : Sort.Holds (Value.int .i64) C.w0 (G0.r 2000) 0 L.toArray := fun j hj => by
    have hj' : j < L.length := by simpa using hj
    refine ⟨?_, by simp [World.frozen?, hgg]⟩
    rw [cell_of_row C.w0 _ _ _ e (0, 0) hgg, get_bang _ _ hj', Nat.zero_add]
    have := congrArg (fun l : List Value => l[j]?) htk
    simp only [List.getElem?_take, if_pos hj', int_get L hj'] at this
    simpa using this
  have hcall := h.1 C.w0 (G0.r 2000) 0 cap hH hlt
  rw [← hv] at hcall
  refine hcall.mono ?_
  rintro e1 w' ⟨rfl, k, os, hw⟩
  obtain ⟨h1, h2, h3, h4, h5, h6⟩ := row_left hgg hw
  have hcur := putCells_ints (L := L) (zs' := zs') (off := 0) (n := L.length) (cur := cur) (by omega) hz htk hcl
  rw [List.take_zero, List.nil_append, Nat.zero_add, List.drop_length, List.append_nil] at hcur
  refine ⟨_, [], _, rfl, ⟨rfl, rfl⟩, ⟨h3, h4, h5, h6, fun b hb => h2 b (fun e => (hG0.1 _ _ hgl).1 (e ▸ hb)) hb.1, fun b hb => ?_⟩, G0, [], ⟨fun b l hb => ⟨(hG0.1 b l hb).1, Nat.lt_of_lt_of_le (hG0.1 b l hb).2 h6⟩, hG0.2⟩, rfl, rfl, rfl, fun x hx => by simp at hx, ?_⟩
  · by_cases e2 : b = G0.r 2000
    · subst e2
      rw [h1, hgg]
      simp [rowForm, putCells_size]
    · rw [h2 b e2 hb]
  · intro x hx
    cases hx
    refine ⟨zs'.map (Value.int .i64), ⟨by simp [hz], .inr ⟨G0.r 2000, cap, _, hv, hbg, h1, hmc, hcm, by rw [putCells_size, Nat.mul_one]; exact hcs, by rw [Nat.mul_one]; exact hcur⟩⟩, fun b hb2 => hb b hb2, ints_repL _⟩
end
end Go.Proofs.YtfagllolcalfiaaDoor
