/- New memory over the pure state: literals, make, boxes; structs and arrays as values. Own work; no conditions; nothing here is about one program. -/
import Derived.Test.YtfagllolcalfiabDoorPwF
namespace Go.Proofs.YtfagllolcalfiabDoor
open Go.RowKit
def putAt (cs : List PV) (off : Nat) (ps : List PV) : List PV := cs.take off ++ ps ++ cs.drop (off + ps.length)
theorem RepL.putAt {w : World} {F : Nat → Prop} {cs ps : List PV} {vs us : List Value} (h : RepL w F cs vs) (k : RepL w F ps us) (off : Nat) :
    RepL w F (putAt cs off ps) (vs.take off ++ us ++ vs.drop (off + us.length)) := by
  unfold Go.Proofs.YtfagllolcalfiabDoor.putAt
  rw [k.length]
  exact ((h.take off).append k).append (h.drop _)
def fillP (place : Nat → Option (Nat × Nat)) : List PV → List (Nat × PV) → Option (List PV)
  | cells, [] => some cells
  | cells, (i, p) :: r => match place i with
    | none => none
    | some (off, size) => if p.cells.length = size ∧ off + size ≤ cells.length then fillP place (putAt cells off p.cells) r else none
theorem foldl_set (off : Nat) : ∀ (us : List Value) (k : Nat) (arr : Array Value), off + k + us.length ≤ arr.size →
    ((us.zipIdx k).foldl (fun cs (c, j) => cs.setIfInBounds (off + j) c) arr).toList = arr.toList.take (off + k) ++ us ++ arr.toList.drop (off + k + us.length)
  | [], k, arr, _ => by simp
  | u :: us, k, arr, h => by
    simp only [List.zipIdx_cons, List.foldl_cons]
    have hlt : off + k < arr.size := by simp at h; omega
    rw [foldl_set off us (k + 1) (arr.setIfInBounds (off + k) u) (by simp at h ⊢; omega)]
    simp only [Array.toList_setIfInBounds, List.length_cons]
    rw [List.drop_set_of_lt (by omega), show off + (k + 1) = off + k + 1 by omega, List.take_add_one]
    rw [show off + k + 1 + us.length = off + k + (us.length + 1) by omega]
    have h1 : (arr.toList.set (off + k) u)[off + k]? = some u := by simp [hlt]
    rw [h1, List.take_set_of_le (Nat.le_refl _)]
    simp
def RepParts (w : World) (F : Nat → Prop) : List (Nat × PV) → List (Nat × Value) → Prop
  | [], vs => vs = []
  | (i, p) :: ps, vs => ∃ v r, vs = (i, v) :: r ∧ Rep w F p v ∧ RepParts w F ps r
theorem fill_rep {w : World} {F : Nat → Prop} {place : Nat → Option (Nat × Nat)} : ∀ {ps : List (Nat × PV)} {qs : List (Nat × Value)} {cs cs' : List PV} {arr : Array Value}, RepL w F cs arr.toList → RepParts w F ps qs → fillP place cs ps = some cs' →
    ∃ arr', Instr.fill place arr qs = some arr' ∧ RepL w F cs' arr'.toList
  | [], qs, cs, cs', arr, h, hp, hf => by
    simp only [RepParts] at hp; subst hp
    simp only [fillP, Option.some.injEq] at hf; subst hf
    exact ⟨arr, rfl, h⟩
  | (i, p) :: ps, qs, cs, cs', arr, h, hp, hf => by
    obtain ⟨v, r, rfl, h1, h2⟩ := hp
    unfold fillP at hf
    cases hpl : place i with
    | none => rw [hpl] at hf; cases hf
    | some os =>
      obtain ⟨off, size⟩ := os
      rw [hpl] at hf
      simp only at hf
      split at hf
      · rename_i hc
        have hcells := h1.cells
        have hlen : v.cells.size = size := by rw [← Array.length_toList, hcells.length]; exact hc.1
        have hasz : arr.size = cs.length := by rw [← Array.length_toList]; exact h.length
        have hfit : off + 0 + v.cells.toList.length ≤ arr.size := by rw [Array.length_toList, hlen, hasz]; omega
        have hset := foldl_set off v.cells.toList 0 arr hfit
        let arr1 := v.cells.zipIdx.foldl (fun cs (c, j) => cs.setIfInBounds (off + j) c) arr
        have harr1 : arr1.toList = arr.toList.take off ++ v.cells.toList ++ arr.toList.drop (off + v.cells.toList.length) := by
          have e : arr1 = (v.cells.toList.zipIdx 0).foldl (fun cs (c, j) => cs.setIfInBounds (off + j) c) arr := by
            show Array.foldl _ _ _ _ _ = _
            rw [← Array.foldl_toList, Array.toList_zipIdx]
          rw [e]; simpa using hset
        have hr1 : RepL w F (Go.Proofs.YtfagllolcalfiabDoor.putAt cs off p.cells) arr1.toList := by rw [harr1]; exact h.putAt hcells off
        obtain ⟨arr', h3, h4⟩ := fill_rep hr1 h2 hf
        refine ⟨arr', ?_, h4⟩
        unfold Instr.fill
        rw [hpl]
        simp only
        rw [if_neg (by simp [hlen]; omega)]
        exact h3
      · cases hf
def St.evp (σ : St) : List (Nat × Operand) → Option (List (Nat × PV))
  | [] => some []
  | (i, x) :: r => match (σ.ev x).bind SV.pv, St.evp σ r with
    | some p, some ps => if p.flat then some ((i, p) :: ps) else none
    | _, _ => none
theorem evp_ok {C : Ctx} {σ : St} {a : Act} {w w' : World} {G : Gh} {F : Nat → Prop} (hE : Env C σ a w G) : ∀ {l : List (Nat × Operand)} {ps : List (Nat × PV)}, σ.evp l = some ps → RepParts w' F ps (l.map fun e => (e.1, a.eval e.2))
  | [], ps, h => by simp only [St.evp, Option.some.injEq] at h; subst h; rfl
  | (i, x) :: r, ps, h => by
    unfold St.evp at h
    split at h
    · rename_i p ps' h1 h2
      split at h
      · rename_i hf
        simp only [Option.some.injEq] at h; subst h
        obtain ⟨s, h3, h4⟩ := Option.bind_eq_some_iff.1 h1
        exact ⟨_, _, rfl, Rep.flat p _ hf ((hE.ev h3).rep h4), evp_ok hE h2⟩
      · cases h
    · cases h
def zeros (zc : List PV) (k : Nat) : List PV := (List.range (k * zc.length)).map fun j => zc.getD (j % zc.length) (.bool false)
theorem zeros_rep {w : World} {F : Nat → Prop} {z : Array Value} {zc : List PV} (h : cvs z.toList = some zc) (k : Nat) : RepL w F (zeros zc k) ((Array.range (k * z.size)).map (z[· % z.size]!)).toList := by
  have hr : RepL w F zc z.toList := cvs_ok h
  have hsz : z.size = zc.length := by rw [← Array.length_toList]; exact hr.length
  unfold zeros
  rw [hsz]
  simp only [Array.toList_map, Array.toList_range]
  have key : ∀ (l : List Nat), (∀ j ∈ l, 0 < zc.length) → RepL w F (l.map fun j => zc.getD (j % zc.length) (.bool false)) (l.map fun j => z[j % zc.length]!) := by
    intro l
    induction l with
    | nil => intro _; rfl
    | cons j l ih =>
      intro hl
      have hpos := hl j List.mem_cons_self
      have hlt : j % zc.length < zc.length := Nat.mod_lt _ hpos
      obtain ⟨v, h1, h2, h3⟩ := hr.get (j % zc.length) zc[j % zc.length] (by simp [hlt])
      refine ⟨_, _, rfl, ?_, ?_, ih (fun j hj => hl j (List.mem_cons_of_mem _ hj))⟩
      · simpa [hlt] using h2
      · have e1 : z[j % zc.length]! = v := by
          have hz : j % zc.length < z.size := by omega
          rw [getElem!_pos z _ hz]
          have : z.toList[j % zc.length]? = some v := h1
          simp [hz] at this
          exact this
        show Rep w F (zc.getD (j % zc.length) _) (z[j % zc.length]!)
        rw [e1]
        simpa [hlt] using h3
  refine key _ (fun j hj => ?_)
  rcases Nat.eq_zero_or_pos zc.length with h0 | h0
  · rw [h0] at hj; simp at hj
  · exact h0
section
variable {P : Program} {n : Nat} {σ : St} {K : St → Prop} {d : Nat} {ty : TypeId} {pos : String} {af : Array Edge} {gd : Option (Nat × Bool)}
def Gh.new (G : Gh) (b0 d : Nat) : Gh := ⟨fun b => if b = b0 then some d else G.g b, fun m => if m = d then b0 else G.r m⟩
theorem new_env {C : Ctx} {a : Act} {w w' : World} {G : Gh} (hS : Sim n C σ a w) (hG : G.fits C w) (hE : Env C σ a w G) (hg : w.grownBy w' none) (hlt : w.heap.size < w'.heap.size) (hd0 : d ≠ 2000) (hfr : σ.labels.all (· != d) = true) :
    (G.new w.heap.size d).fits C w' ∧ Env C σ a w' (G.new w.heap.size d) ∧ Stays C.old C.w0 w' := by
  have hB : C.B ≤ w.heap.size := hS.below.size
  have hfr' : ∀ l ∈ σ.labels, l ≠ d := by simpa using hfr
  have hbel : Stays C.old w w' := stays_grown hg (fun q hq => by rw [hg.block q hq (by simp)]) (fun k hk => ⟨Nat.lt_of_lt_of_le hk.1 hB, by simp⟩)
  refine ⟨⟨fun b l hb => ?_, ?_, fun b hb => ?_⟩, fun s x hx => ?_, hS.below.trans hbel⟩
  · have hb' : (if b = w.heap.size then some d else G.g b) = some l := hb
    split at hb'
    · rename_i he; subst he
      exact ⟨fun ho => by have := ho.1; omega, hlt⟩
    · have := hG.1 b l hb'; exact ⟨this.1, by omega⟩
  · show (if 2000 = d then _ else G.r 2000) = _
    rw [if_neg (Ne.symm hd0)]; exact hG.2.1
  · have h2 := hG.2.2 b hb
    show (if b = w.heap.size then some d else G.g b) = some 2000
    rw [if_neg (by have := (hG.1 b _ h2).2; omega)]; exact h2
  · refine Ok.keep hS.fp hbel x _ (fun l hl => ⟨?_, fun b hb => ?_, fun b hb => hg.block b (hG.1 b l hb).2 (by simp)⟩) (hE s x hx)
    · show (if l = d then _ else G.r l) = G.r l
      rw [if_neg (hfr' l (St.labels_at hx l hl))]
    · show (if b = w.heap.size then some d else G.g b) = some l
      rw [if_neg (by have := (hG.1 b l hb).2; omega), hb]
theorem new_root {G : Gh} {b0 d : Nat} : (G.new b0 d).r d = b0 ∧ (G.new b0 d).g b0 = some d := by
  constructor
  · show (if d = d then b0 else _) = b0
    rw [if_pos rfl]
  · show (if b0 = b0 then some d else _) = some d
    rw [if_pos rfl]
theorem op_buildSlice {t e size bytes : Nat} {zc : List PV} (hty : SlTy P t e size bytes zc) {len : Nat} {parts : List (Nat × Operand)} {ps : List (Nat × PV)} {cs : List PV} (hp : σ.evp parts = some ps)
    (hf : fillP (fun i => some (i * size, size)) (zeros zc len) ps = some cs) (hcs : cs.length = len * size) (hb : len * size ≤ 16777216) (hd : d < n) (hd0 : d ≠ 2000) (hfr : σ.labels.all (· != d) = true)
    (hK : K ((d, .own d e size len cs) :: σ)) : opT P n ⟨some d, .buildSlice t len parts.toArray, ty, pos, af, gd⟩ σ K := by
  intro C a w hS K' Q hK'
  obtain ⟨G, hG, hE⟩ := hS.gh
  obtain ⟨h1, i, z, h2, h3, h4, h5, h6, h7, h8, h9⟩ := hty
  have hlen63 : len ≤ maxLen := by
    have : len * 1 ≤ len * size := Nat.mul_le_mul_left _ h7
    simp only [maxLen]; omega
  have hzs : z.cells.size = zc.length := by rw [← Array.length_toList]; exact (cvs_ok (F := fun _ => True) (w := w) h9).length
  have hinit := zeros_rep (w := w) (F := fun _ => False) h9 len
  obtain ⟨arr, hfill, hr⟩ := fill_rep hinit (evp_ok (w' := w) (F := fun _ => False) hE hp) hf
  have hasz : arr.size = len * size := by rw [← Array.length_toList, hr.length, hcs]
  let w' := w.alloc (.cells arr e)
  have hop : (execOp a.eval ⟨some d, .buildSlice t len parts.toArray, ty, pos, af, gd⟩).run P w = .ok (.value (.slice (some ⟨w.heap.size, 0, none⟩) len len)) w' := by
    have hb' : ¬ 16777216 < len * size := by omega
    by_cases h0 : len * size = 0
    · have hr0 : ∀ f : Nat → Value, Array.map f (Array.range 0) = #[] := fun f => Array.eq_empty_of_size_eq_zero (by simp)
      rw [h6, h0, hr0] at hfill
      simp [execOp, Instr.buildSlice, run_underlying h1, sizeOf, typeInfo, h2, h4, h0, newRow, w', hr0, hfill]
    · have hfill' : Instr.fill (fun i => some (i * size, size)) (Array.map (fun x => z.cells[x % size]!) (Array.range (len * size))) (List.map (fun e => (e.fst, a.eval e.snd)) parts) = some arr := by
        rw [← hfill, h6]
      simp [execOp, Instr.buildSlice, run_underlying h1, sizeOf, typeInfo, h2, h4, h0, hb', zeroValue, h3, newRow, w', h6, hfill']
  unfold Oper.wp
  rw [hop, Oper.upon_value]
  obtain ⟨hG', hE', hbel⟩ := new_env (w' := w') hS hG hE (World.grownBy_alloc w _ none) (by simp [w']) hd0 hfr
  have hroot := new_root (G := G) (b0 := w.heap.size) (d := d)
  have hrow : w'.ownsRow 0 e size (.slice (some ⟨w.heap.size, 0, none⟩) len len) len arr.toList :=
    ⟨by simpa using hasz,   .inr ⟨w.heap.size, len, arr, rfl, Nat.zero_le _, heap_alloc_new w _, Nat.le_refl _, hlen63, hasz, by rw [List.take_of_length_le (by simp [hasz])]⟩⟩
  have hok : Ok C w' (G.new w.heap.size d) (.own d e size len cs) (.slice (some ⟨w.heap.size, 0, none⟩) len len) := by
    refine ⟨arr.toList, hrow, fun b hb => ?_, RepL.mono (fun _ h => h.elim) (fun _ h => h.elim) cs _ hr⟩
    simp [Value.ownBlock] at hb
    subst hb
    exact ⟨hroot.1.symm, hroot.2⟩
  refine hK' _ _ _ hK ?_
  have hS' : Sim n C σ a w' := ⟨hS.fp, hbel, hS.dfs, hS.size, _, hG', hE'⟩
  exact hS'.put hG' hE' hd hok
theorem op_make {t e size bytes : Nat} {zc : List PV} (hty : SlTy P t e size bytes zc) {x y : Operand} {kl kc : IntKind} {m : Nat} (hx : σ.ev x = some (.val (.int kl m))) (hy : σ.ev y = some (.val (.int kc m)))
    (hb : bytes * m ≤ 140737488355328) (hd : d < n) (hd0 : d ≠ 2000) (hfr : σ.labels.all (· != d) = true)
    (hK : K ((d, .own d e size m (zeros zc m)) :: σ)) : opT P n ⟨some d, .makeSlice t x y, ty, pos, af, gd⟩ σ K := by
  intro C a w hS K' Q hK'
  obtain ⟨G, hG, hE⟩ := hS.gh
  obtain ⟨h1, i, z, h2, h3, h4, h5, h6, h7, h8, h9⟩ := hty
  have e1 := hE.ev hx
  have e2 := hE.ev hy
  simp only [Ok, Rep] at e1 e2
  have hm63 : m ≤ maxLen := by
    have : 1 * m ≤ bytes * m := Nat.mul_le_mul_right _ h8
    simp only [maxLen]; omega
  obtain ⟨w', hr, ho, hg⟩ := run_make_full (P := P) w 0 t e i z size h1 h2 h3 h4 kl kc m (by rw [h5]; omega) hm63 (Nat.zero_le _)
  have hop : (execOp a.eval ⟨some d, .makeSlice t x y, ty, pos, af, gd⟩).run P w = .ok (.value (.slice (some ⟨w.heap.size, 0, none⟩) m m)) w' := by
    simp [execOp, e1, e2, hr]
  unfold Oper.wp
  rw [hop, Oper.upon_value]
  have hlt : w.heap.size < w'.heap.size := (ho.lt w.heap.size rfl).2
  obtain ⟨hG', hE', hbel⟩ := new_env (w' := w') hS hG hE hg hlt hd0 hfr
  have hroot := new_root (G := G) (b0 := w.heap.size) (d := d)
  have hz : RepL w' (fun b => (G.new w.heap.size d).inn d b) (zeros zc m) (madeCells z.cells (m * size)).toList := by
    have := zeros_rep (w := w') (F := fun b => (G.new w.heap.size d).inn d b) h9 m
    rw [h6] at this
    have e : (madeCells z.cells (m * size)) = (Array.range (m * size)).map (z.cells[· % size]!) := by unfold madeCells; rw [h6]
    rw [e]; exact this
  have hok : Ok C w' (G.new w.heap.size d) (.own d e size m (zeros zc m)) (.slice (some ⟨w.heap.size, 0, none⟩) m m) := by
    refine ⟨_, ho, fun b hb => ?_, hz⟩
    simp [Value.ownBlock] at hb
    subst hb
    exact ⟨hroot.1.symm, hroot.2⟩
  refine hK' _ _ _ hK ?_
  have hS' : Sim n C σ a w' := ⟨hS.fp, hbel, hS.dfs, hS.size, _, hG', hE'⟩
  exact hS'.put hG' hE' hd hok
def ZeroTy (P : Program) (t : TypeId) (zc : List PV) : Prop := ∃ z, (∀ w, (zeroValue t).run P w = .ok z w) ∧ cvs z.cells.toList = some zc
theorem zeroTy_of {P : Program} {t : TypeId} {z : Value} {zc : List PV} (h : (P.info? t).map (·.zero) = some (some z)) (h2 : cvs z.cells.toList = some zc) : ZeroTy P t zc := by
  obtain ⟨i, hi, hz⟩ := Option.map_eq_some_iff.1 h
  exact ⟨z, fun w => by simp [zeroValue, typeInfo, hi, hz], h2⟩
theorem box_core {C : Ctx} {a : Act} {w : World} {G : Gh} {K' : Act → World → Prop} (hS : Sim n C σ a w) (hG : G.fits C w) (hE : Env C σ a w G) {t : TypeId} {cs : List PV} {arr : Array Value} (hr : RepL w C.ex cs arr.toList) (hd : d < n)
    (hd0 : d ≠ 2000) (hfr : σ.labels.all (· != d) = true) (hK : K ((d, .box d t cs) :: σ)) (hK' : ∀ σ' a' w', K σ' → Sim n C σ' a' w' → K' a' w') : K' (a.put (some d) (.pointer (some ⟨w.heap.size, 0, none⟩))) (w.alloc (.cells arr t)) := by
  obtain ⟨hG', hE', hbel⟩ := new_env (w' := w.alloc (.cells arr t)) hS hG hE (World.grownBy_alloc w _ none) (by simp) hd0 hfr
  have hroot := new_root (G := G) (b0 := w.heap.size) (d := d)
  have hok : Ok C (w.alloc (.cells arr t)) (G.new w.heap.size d) (.box d t cs) (.pointer (some ⟨w.heap.size, 0, none⟩)) := by
    refine ⟨arr.toList, by rw [hroot.1], by rw [hroot.1]; exact hroot.2, by rw [hroot.1]; simpa using heap_alloc_new w _, RepL.mono (fun _ h => .inr h) (fun b hb => heap_alloc_old w _ (Nat.lt_of_lt_of_le (hS.fp.2 b hb).1 hS.below.size)) cs _ hr⟩
  refine hK' _ _ _ hK ?_
  have hS' : Sim n C σ a (w.alloc (.cells arr t)) := ⟨hS.fp, hbel, hS.dfs, hS.size, _, hG', hE'⟩
  exact hS'.put hG' hE' hd hok
theorem op_alloc {t : TypeId} {zc : List PV} (hz : ZeroTy P t zc) (hd : d < n) (hd0 : d ≠ 2000) (hfr : σ.labels.all (· != d) = true) (hK : K ((d, .box d t zc) :: σ)) : opT P n ⟨some d, .alloc t, ty, pos, af, gd⟩ σ K := by
  intro C a w hS K' Q hK'
  obtain ⟨G, hG, hE⟩ := hS.gh
  obtain ⟨z, h1, h2⟩ := hz
  have hop : (execOp a.eval ⟨some d, .alloc t, ty, pos, af, gd⟩).run P w = .ok (.value (.pointer (some ⟨w.heap.size, 0, none⟩))) (w.alloc (.cells z.cells t)) := by
    simp [execOp, Instr.alloc, h1, newVar, newRow]
  unfold Oper.wp
  rw [hop, Oper.upon_value]
  exact box_core hS hG hE (cvs_ok h2) hd hd0 hfr hK hK'
theorem op_box {t : TypeId} {x : Operand} {s : SV} {p : PV} (hx : σ.ev x = some s) (hs : (s.pv = some p ∧ p.flat = true) ∨ s = .ext p) (hd : d < n) (hd0 : d ≠ 2000) (hfr : σ.labels.all (· != d) = true) (hK : K ((d, .box d t p.cells) :: σ)) :
    opT P n ⟨some d, .box t x, ty, pos, af, gd⟩ σ K := by
  intro C a w hS K' Q hK'
  obtain ⟨G, hG, hE⟩ := hS.gh
  have hop : (execOp a.eval ⟨some d, .box t x, ty, pos, af, gd⟩).run P w = .ok (.value (.pointer (some ⟨w.heap.size, 0, none⟩))) (w.alloc (.cells (a.eval x).cells t)) := by
    simp [execOp, Instr.box, newVar, newRow]
  unfold Oper.wp
  rw [hop, Oper.upon_value]
  have h1 : Rep w C.ex p (a.eval x) := by
    rcases hs with ⟨h2, hf⟩ | h2
    · exact Rep.flat p _ hf ((hE.ev hx).rep h2)
    · subst h2; exact hE.ev hx
  exact box_core hS hG hE h1.cells hd hd0 hfr hK hK'
def BuildTy (P : Program) (t : TypeId) (place : Nat → Option (Nat × Nat)) (zc : List PV) : Prop := ∃ z : Value, cvs z.cells.toList = some zc ∧ ∀ parts, P.built t parts = Instr.fill place z.cells parts
theorem q_build {t : TypeId} {place : Nat → Option (Nat × Nat)} {zc : List PV} (hty : BuildTy P t place zc) {parts : List (Nat × Operand)} {ps : List (Nat × PV)} {cs : List PV} (hp : σ.evp parts = some ps) (hf : fillP place zc ps = some cs) (hd : d < n) : quietT P n ⟨some d, .build t parts.toArray, ty, pos, af, gd⟩ σ d (.val (.agg cs)) := by
  refine ⟨rfl, hd, fun C a w G hS hG hE => ?_⟩
  obtain ⟨z, h1, h2⟩ := hty
  obtain ⟨arr, hfill, hr⟩ := fill_rep (cvs_ok (w := w) (F := fun _ => False) h1) (evp_ok (w' := w) (F := fun _ => False) hE hp) hf
  refine ⟨.agg arr, fun w2 _ => ?_, ⟨arr.toList, by simp, hr⟩⟩
  have hb : P.built t (parts.map fun e => (e.1, a.eval e.2)) = some arr := by rw [h2]; exact hfill
  have := run_build w2 t (parts.map fun e => (e.1, a.eval e.2)).toArray arr (by simpa using hb)
  simp [execOp, this]
end
end Go.Proofs.YtfagllolcalfiabDoor
