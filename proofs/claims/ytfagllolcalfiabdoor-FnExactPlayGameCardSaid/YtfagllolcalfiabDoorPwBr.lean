/- Memory that goes over to another label while its parts are read on: rows that a slice takes in. Own work; no conditions; nothing here is about one program. -/
import Derived.Test.YtfagllolcalfiabDoorPwMt
namespace Go.Proofs.YtfagllolcalfiabDoor
open Go.RowKit
set_option linter.unusedVariables false
set_option linter.unusedSimpArgs false
def SV.reb (q l : Nat) : SV → SV
  | .own j e s n cs => if j = q then .bor l (.sl n cs) else .own j e s n cs
  | .bor j p => if j = q then .bor l p else .bor j p
  | x => if x.labels.contains q then .dead else x
def St.reb (q l : Nat) (σ : St) : St := σ.map fun e => (e.1, e.2.reb q l)
theorem reb_at {q l : Nat} : ∀ {σ : St} {s : Nat} {y : SV}, (σ.reb q l).at s = some y → ∃ x, σ.at s = some x ∧ y = x.reb q l
  | [], s, y, h => by simp [St.reb, St.at] at h
  | (t, z) :: r, s, y, h => by
    simp only [St.reb, List.map_cons, St.at] at h ⊢
    split at h
    · rename_i he; subst he
      simp only [if_true, Option.some.injEq] at h ⊢
      exact ⟨z, rfl, h.symm⟩
    · rename_i hne
      rw [if_neg hne]
      exact reb_at (σ := r) h
theorem Ok.reb {C : Ctx} {w w' : World} {G G' : Gh} {q l : Nat} (hfp : (∀ i b, C.Fp i b → C.old b) ∧ ∀ b, C.ex b → C.old b) (hB : Stays C.old w w') (x : SV) (v : Value)
    (hq : ∀ b, G.g b = some q → G'.g b = some l ∧ w'.heap[b]? = w.heap[b]?) (hk : ∀ j ∈ x.labels, j ≠ q → G'.r j = G.r j ∧ (∀ b, G.g b = some j → G'.g b = some j) ∧ ∀ b, G.g b = some j → w'.heap[b]? = w.heap[b]?) (h : Ok C w G x v) : Ok C w' G' (x.reb q l) v := by
  have other : ∀ y : SV, y = x → y.reb q l = (if y.labels.contains q then .dead else y) → Ok C w' G' (y.reb q l) v := fun y hy hx => by
    subst hy
    rw [hx]
    split
    · trivial
    · rename_i hc
      exact Ok.keep hfp hB y v (fun j hj => hk j hj (fun e => hc (by subst e; simpa using hj))) h
  cases x with
  | own j e s n cs =>
    by_cases hj : j = q
    · subst hj
      have e1 : SV.reb j l (.own j e s n cs) = .bor l (.sl n cs) := if_pos rfl
      rw [e1]
      obtain ⟨vs, ho, hb, hr⟩ := h
      have := own_rep (F := fun b => G.g b = some j) ho (fun b hv => (hb b hv).2) hr (fun b h => h.1)
      exact Rep.mono (fun b hb => .inl (hq b hb).1) (fun b hb => (hq b hb).2) _ _ this
    · have e1 : SV.reb q l (.own j e s n cs) = .own j e s n cs := if_neg hj
      rw [e1]
      exact Ok.keep hfp hB _ v (fun i hi => hk i hi (fun e => hj (by simp [SV.labels] at hi; omega))) h
  | bor j p =>
    by_cases hj : j = q
    · subst hj
      have e1 : SV.reb j l (.bor j p) = .bor l p := if_pos rfl
      rw [e1]
      exact Rep.mono (fun b hb => hb.imp (fun z => (hq b z).1) id) (fun b hb => hb.elim (fun z => (hq b z).2) (fun z => hB.block b (hfp.2 b z))) p v h
    · have e1 : SV.reb q l (.bor j p) = .bor j p := if_neg hj
      rw [e1]
      exact Ok.keep hfp hB _ v (fun i hi => hk i hi (fun e => hj (by simp [SV.labels] at hi; omega))) h
  | _ => exact other _ rfl rfl
theorem imp_reb {n : Nat} {σ : St} {q l : Nat} (hql : q ≠ l) (hq0 : q ≠ 2000) (hl0 : l ≠ 2000) : Imp n σ (σ.reb q l) := by
  intro C a w hS
  obtain ⟨G, hG, hE⟩ := hS.gh
  let G' : Gh := ⟨fun b => if G.g b = some q then some l else G.g b, G.r⟩
  have g2 : ∀ b j, j ≠ q → G.g b = some j → G'.g b = some j := fun b j hj hb => by
    show (if G.g b = some q then some l else G.g b) = _
    rw [hb, if_neg (fun e => hj (Option.some.inj e))]
  have hG' : G'.fits C w := by
    refine ⟨fun b j hb => ?_, hG.2.1, fun b hb => g2 b 2000 (Ne.symm hq0) (hG.2.2 b hb)⟩
    have hb' : (if G.g b = some q then some l else G.g b) = some j := hb
    split at hb'
    · rename_i hc; exact hG.1 b q hc
    · exact hG.1 b j hb'
  refine ⟨hS.fp, hS.below, hS.dfs, hS.size, G', hG', fun t z hz => ?_⟩
  obtain ⟨x, hx, rfl⟩ := reb_at hz
  refine Ok.reb (G := G) (G' := G') hS.fp (Stays.refl _ _) x _ (fun b hb => ⟨?_, rfl⟩) (fun j hj hjq => ⟨rfl, fun b hb => g2 b j hjq hb, fun _ _ => rfl⟩) (hE t x hx)
  show (if G.g b = some q then some l else G.g b) = some l
  rw [if_pos hb]
def St.evpl (l : Nat) (σ : St) : List (Nat × Operand) → Option (List (Nat × PV))
  | [] => some []
  | (i, x) :: r => match σ.ev x, St.evpl l σ r with
    | some (.own j _ _ n cs), some ps => if j = l then some ((i, .sl n cs) :: ps) else none
    | some (.bor j p), some ps => if j = l then some ((i, p) :: ps) else none
    | _, _ => none
theorem evpl_ok {C : Ctx} {σ : St} {a : Act} {w : World} {G : Gh} {l : Nat} (hE : Env C σ a w G) : ∀ {xs : List (Nat × Operand)} {ps : List (Nat × PV)}, σ.evpl l xs = some ps → RepParts w (G.see C l) ps (xs.map fun e => (e.1, a.eval e.2))
  | [], ps, h => by simp only [St.evpl, Option.some.injEq] at h; subst h; rfl
  | (i, x) :: r, ps, h => by
    unfold St.evpl at h
    split at h
    · rename_i j _ _ n cs ps' h1 h2
      split at h
      · rename_i hj
        subst hj
        simp only [Option.some.injEq] at h; subst h
        obtain ⟨vs, ho, hb, hr⟩ := hE.ev h1
        have := own_rep (F := fun b => G.g b = some j) ho (fun b hv => (hb b hv).2) hr (fun b h => h.1)
        exact ⟨_, _, rfl, Rep.mono (fun b hb => .inl hb) (fun _ _ => rfl) _ _ this, evpl_ok hE h2⟩
      · cases h
    · rename_i j p ps' h1 h2
      split at h
      · rename_i hj
        subst hj
        simp only [Option.some.injEq] at h; subst h
        exact ⟨_, _, rfl, hE.ev h1, evpl_ok hE h2⟩
      · cases h
    · cases h
section
variable {P : Program} {n : Nat} {σ : St} {K : St → Prop} {d : Nat} {ty : TypeId} {pos : String} {af : Array Edge} {gd : Option (Nat × Bool)}
theorem op_buildSliceB {t e size bytes : Nat} {zc : List PV} (hty : SlTy P t e size bytes zc) {l len : Nat} {parts : List (Nat × Operand)} {ps : List (Nat × PV)} {cs : List PV} (hp : σ.evpl l parts = some ps)
    (hf : fillP (fun i => some (i * size, size)) (zeros zc len) ps = some cs) (hcs : cs.length = len * size) (hb : len * size ≤ 16777216) (hd : d < n) (hl0 : l ≠ 2000)
    (hK : K ((d, .bor l (.sl len cs)) :: σ)) : opT P n ⟨some d, .buildSlice t len parts.toArray, ty, pos, af, gd⟩ σ K := by
  intro C a w hS K' Q hK'
  obtain ⟨G, hG, hE⟩ := hS.gh
  obtain ⟨h1, i, z, h2, h3, h4, h5, h6, h7, h8, h9⟩ := hty
  have hB : C.B ≤ w.heap.size := hS.below.size
  have hlen63 : len ≤ maxLen := by
    have : len * 1 ≤ len * size := Nat.mul_le_mul_left _ h7
    simp only [maxLen]; omega
  have hzs : z.cells.size = zc.length := by rw [← Array.length_toList]; exact (cvs_ok (F := fun _ => True) (w := w) h9).length
  have hinit := zeros_rep (w := w) (F := G.see C l) h9 len
  obtain ⟨arr, hfill, hr⟩ := fill_rep hinit (evpl_ok hE hp) hf
  have hasz : arr.size = len * size := by rw [← Array.length_toList, hr.length, hcs]
  let w' := w.alloc (.cells arr e)
  have hop : (execOp a.eval ⟨some d, .buildSlice t len parts.toArray, ty, pos, af, gd⟩).run P w = .ok (.value (.slice (some ⟨w.heap.size, 0, none⟩) len len)) w' := by
    have hb' : ¬ 16777216 < len * size := by omega
    by_cases h0 : len * size = 0
    · have hr0 : ∀ f : Nat → Value, Array.map f (Array.range 0) = #[] := fun f => Array.eq_empty_of_size_eq_zero (by simp)
      rw [h6, h0, hr0] at hfill
      simp [execOp, Instr.buildSlice, run_underlying h1, sizeOf, typeInfo, h2, h4, h0, newRow, w', hr0, hfill]
    · have hfill' : Instr.fill (fun i => some (i * size, size)) (Array.map (fun x => z.cells[x % size]!) (Array.range (len * size))) (List.map (fun e => (e.fst, a.eval e.snd)) parts) = some arr := by
        rw [← hfill, h6]
      simp [execOp, Instr.buildSlice, run_underlying h1, sizeOf, typeInfo, h2, h4, h0, hb', zeroValue, h3, newRow, w', h6, hfill']
  unfold Oper.wp
  rw [hop, Oper.upon_value]
  let G' : Gh := ⟨fun b => if b = w.heap.size then some l else G.g b, G.r⟩
  have hsz : w'.heap.size = w.heap.size + 1 := by simp [w']
  have hold : ∀ b, b < w.heap.size → w'.heap[b]? = w.heap[b]? := fun b hb => heap_alloc_old w _ hb
  have hbel : Stays C.old w w' := ⟨rfl, rfl, rfl, by simp [w'], fun k hk => hold k (Nat.lt_of_lt_of_le hk.1 hB), fun k hk => by rw [hold k hk]⟩
  have g2 : ∀ b j, G.g b = some j → G'.g b = some j := fun b j hb => by
    show (if b = w.heap.size then some l else G.g b) = some j
    rw [if_neg (by have := (hG.1 b j hb).2; omega)]; exact hb
  have hG' : G'.fits C w' := by
    refine ⟨fun b q hq => ?_, hG.2.1, fun b hb => g2 b 2000 (hG.2.2 b hb)⟩
    have hq' : (if b = w.heap.size then some l else G.g b) = some q := hq
    split at hq'
    · rename_i he; subst he; exact ⟨fun ho => by have := ho.1; omega, by omega⟩
    · have := hG.1 b q hq'; exact ⟨this.1, by omega⟩
  have hE' : Env C σ a w' G' := fun s y hy => Ok.keep (G := G) (G' := G') hS.fp hbel y _ (fun q hq => ⟨rfl, fun b hb' => g2 b q hb', fun b hb' => hold b (hG.1 b q hb').2⟩) (hE s y hy)
  have hrow : w'.ownsRow 0 e size (.slice (some ⟨w.heap.size, 0, none⟩) len len) len arr.toList :=
    ⟨by simpa using hasz, .inr ⟨w.heap.size, len, arr, rfl, Nat.zero_le _, heap_alloc_new w _, Nat.le_refl _, hlen63, hasz, by rw [List.take_of_length_le (by simp [hasz])]⟩⟩
  have hsee : ∀ b, G.see C l b → b < w.heap.size ∧ G'.see C l b := fun b hb => hb.elim (fun z => ⟨(hG.1 b l z).2, .inl (g2 b l z)⟩) (fun z => ⟨Nat.lt_of_lt_of_le (hS.fp.2 b z).1 hB, .inr z⟩)
  have hr' : RepL w' (G'.see C l) cs arr.toList := RepL.mono (fun b hb => (hsee b hb).2) (fun b hb => hold b (hsee b hb).1) cs _ hr
  have hok : Ok C w' G' (.bor l (.sl len cs)) (.slice (some ⟨w.heap.size, 0, none⟩) len len) := by
    refine own_rep (F := G'.see C l) hrow (fun b hb => ?_) hr' (fun b h => h)
    simp [Value.ownBlock] at hb
    subst hb
    refine .inl ?_
    show (if w.heap.size = w.heap.size then some l else _) = _
    rw [if_pos rfl]
  refine hK' _ _ _ hK ?_
  have hS' : Sim n C σ a w' := ⟨hS.fp, hS.below.trans hbel, hS.dfs, hS.size, G', hG', hE'⟩
  exact hS'.put hG' hE' hd hok
end
end Go.Proofs.YtfagllolcalfiabDoor
