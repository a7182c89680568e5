/- Memory that goes over to another label while its parts are read on: rows that a slice takes in. Own work; no conditions; nothing here is about one program. -/
import Derived.Test.YtgpgjaebhfhjoaaDoorPwMt
namespace Go.Proofs.YtgpgjaebhfhjoaaDoor
open Go.RowKit
set_option linter.unusedVariables false
set_option linter.unusedSimpArgs false

/-- What is left of a slot when the memory of label q becomes label l's: what may be read is read on. -/
def SV.reb (q l : Nat) : SV → SV
  | .own j e s n cs => if j = q then .bor l (.sl n cs) else .own j e s n cs
  | .bor j p => if j = q then .bor l p else .bor j p
  | x => if x.labels.contains q then .dead else x
def St.reb (q l : Nat) (σ : St) : St := σ.map fun e => (e.1, e.2.reb q l)
def St.rebO (l : Nat) (o : Option Nat) (σ : St) : St := match o with
  | none => σ
  | some q => σ.reb q l
theorem reb_at {q l : Nat} : ∀ {σ : St} {s : Nat} {y : SV}, (σ.reb q l).at s = some y → ∃ x, σ.at s = some x ∧ y = x.reb q l
  | [], s, y, h => by simp [St.reb, St.at] at h
  | (t, z) :: r, s, y, h => by
    simp only [St.reb, List.map_cons, St.at] at h ⊢
    split at h
    · rename_i he; subst he
      simp only [if_true, Option.some.injEq] at h ⊢
      exact ⟨z, rfl, h.symm⟩
    · rename_i hne
      rw [if_neg hne]
      exact reb_at (σ := r) h

theorem Ok.reb {C : Ctx} {w w' : World} {G G' : Gh} {q l : Nat} (hfp : (∀ i b, C.Fp i b → C.old b) ∧ ∀ b, C.ex b → C.old b) (hB : Stays C.old w w') (x : SV) (v : Value)
    (hq : ∀ b, G.g b = some q → G'.g b = some l ∧ w'.heap[b]? = w.heap[b]?) (hk : ∀ j ∈ x.labels, j ≠ q → G'.r j = G.r j ∧ (∀ b, G.g b = some j → G'.g b = some j) ∧ ∀ b, G.g b = some j → w'.heap[b]? = w.heap[b]?) (h : Ok C w G x v) : Ok C w' G' (x.reb q l) v := by
  have other : ∀ y : SV, y = x → y.reb q l = (if y.labels.contains q then .dead else y) → Ok C w' G' (y.reb q l) v := fun y hy hx => by
    subst hy
    rw [hx]
    split
    · trivial
    · rename_i hc
      exact Ok.keep hfp hB y v (fun j hj => hk j hj (fun e => hc (by subst e; simpa using hj))) h
  cases x with
  | own j e s n cs =>
    by_cases hj : j = q
    · subst hj
      have e1 : SV.reb j l (.own j e s n cs) = .bor l (.sl n cs) := if_pos rfl
      rw [e1]
      obtain ⟨vs, ho, hb, hr⟩ := h
      have := own_rep (F := fun b => G.g b = some j) ho (fun b hv => (hb b hv).2) hr (fun b h => h.1)
      exact Rep.mono (fun b hb => .inl (hq b hb).1) (fun b hb => (hq b hb).2) _ _ this
    · have e1 : SV.reb q l (.own j e s n cs) = .own j e s n cs := if_neg hj
      rw [e1]
      exact Ok.keep hfp hB _ v (fun i hi => hk i hi (fun e => hj (by simp [SV.labels] at hi; omega))) h
  | bor j p =>
    by_cases hj : j = q
    · subst hj
      have e1 : SV.reb j l (.bor j p) = .bor l p := if_pos rfl
      rw [e1]
      exact Rep.mono (fun b hb => hb.imp (fun z => (hq b z).1) id) (fun b hb => hb.elim (fun z => (hq b z).2) (fun z => hB.block b (hfp.2 b z))) p v h
    · have e1 : SV.reb q l (.bor j p) = .bor j p := if_neg hj
      rw [e1]
      exact Ok.keep hfp hB _ v (fun i hi => hk i hi (fun e => hj (by simp [SV.labels] at hi; omega))) h
  | _ => exact other _ rfl rfl

/-- The memory of label q becomes label l's, to be read. -/
theorem imp_reb {n : Nat} {σ : St} {q l : Nat} (hql : q ≠ l) (hq0 : q ≠ 2000) (hl0 : l ≠ 2000) : Imp n σ (σ.reb q l) := by
  intro C a w hS
  obtain ⟨G, hG, hE⟩ := hS.gh
  let G' : Gh := ⟨fun b => if G.g b = some q then some l else G.g b, G.r⟩
  have g2 : ∀ b j, j ≠ q → G.g b = some j → G'.g b = some j := fun b j hj hb => by
    show (if G.g b = some q then some l else G.g b) = _
    rw [hb, if_neg (fun e => hj (Option.some.inj e))]
  have hG' : G'.fits C w := by
    refine ⟨fun b j hb => ?_, hG.2.1, fun b hb => g2 b 2000 (Ne.symm hq0) (hG.2.2 b hb)⟩
    have hb' : (if G.g b = some q then some l else G.g b) = some j := hb
    split at hb'
    · rename_i hc; exact hG.1 b q hc
    · exact hG.1 b j hb'
  refine ⟨hS.fp, hS.below, hS.dfs, hS.size, G', hG', fun t z hz => ?_⟩
  obtain ⟨x, hx, rfl⟩ := reb_at hz
  refine Ok.reb (G := G) (G' := G') hS.fp (Stays.refl _ _) x _ (fun b hb => ⟨?_, rfl⟩) (fun j hj hjq => ⟨rfl, fun b hb => g2 b j hjq hb, fun _ _ => rfl⟩) (hE t x hx)
  show (if G.g b = some q then some l else G.g b) = some l
  rw [if_pos hb]

/-- The values of parts that are all read through one label. -/
def St.evpl (l : Nat) (σ : St) : List (Nat × Operand) → Option (List (Nat × PV))
  | [] => some []
  | (i, x) :: r => match σ.ev x, St.evpl l σ r with
    | some (.own j _ _ n cs), some ps => if j = l then some ((i, .sl n cs) :: ps) else none
    | some (.bor j p), some ps => if j = l then some ((i, p) :: ps) else none
    | _, _ => none
theorem evpl_ok {C : Ctx} {σ : St} {a : Act} {w : World} {G : Gh} {l : Nat} (hE : Env C σ a w G) : ∀ {xs : List (Nat × Operand)} {ps : List (Nat × PV)}, σ.evpl l xs = some ps → RepParts w (G.see C l) ps (xs.map fun e => (e.1, a.eval e.2))
  | [], ps, h => by simp only [St.evpl, Option.some.injEq] at h; subst h; rfl
  | (i, x) :: r, ps, h => by
    unfold St.evpl at h
    split at h
    · rename_i j _ _ n cs ps' h1 h2
      split at h
      · rename_i hj
        subst hj
        simp only [Option.some.injEq] at h; subst h
        obtain ⟨vs, ho, hb, hr⟩ := hE.ev h1
        have := own_rep (F := fun b => G.g b = some j) ho (fun b hv => (hb b hv).2) hr (fun b h => h.1)
        exact ⟨_, _, rfl, Rep.mono (fun b hb => .inl hb) (fun _ _ => rfl) _ _ this, evpl_ok hE h2⟩
      · cases h
    · rename_i j p ps' h1 h2
      split at h
      · rename_i hj
        subst hj
        simp only [Option.some.injEq] at h; subst h
        exact ⟨_, _, rfl, hE.ev h1, evpl_ok hE h2⟩
      · cases h
    · cases h

section
variable {P : Program} {n : Nat} {σ : St} {K : St → Prop} {d : Nat} {ty : TypeId} {pos : String} {af : Array Edge} {gd : Option (Nat × Bool)}

theorem op_buildSlice_ownB {t e bytes : Nat} {zc : List PV} (hty : SlTy P t e 1 bytes zc) {x : Operand} {l e' s' m : Nat} {cs : List PV} (hx : σ.ev x = some (.own l e' s' m cs)) (hd : d < n) (hd0 : d ≠ 2000) (hl0 : l ≠ 2000) (hfr : σ.labels.all (· != d) = true)
    (hK : K ((d, .own d e 1 1 [.sl m cs]) :: σ.reb l d)) : opT P n ⟨some d, .buildSlice t 1 #[(0, x)], ty, pos, af, gd⟩ σ K := by
  intro C a w hS K' Q hK'
  obtain ⟨G, hG, hE⟩ := hS.gh
  obtain ⟨h1, i, z, h2, h3, h4, h5, h6, h7, h8, h9⟩ := hty
  have hB : C.B ≤ w.heap.size := hS.below.size
  have hfr' : ∀ q ∈ σ.labels, q ≠ d := by simpa using hfr
  have hl : l ∈ σ.labels := by
    cases x with
    | tmp s => exact St.labels_at (σ := σ) (s := s) hx l (by simp [SV.labels])
    | const c => obtain ⟨p, _, hp⟩ := Option.map_eq_some_iff.1 hx; simp at hp
    | func f => simp [St.ev] at hx
    | global g => simp [St.ev] at hx
  have hld : l ≠ d := hfr' l hl
  obtain ⟨vs, ho, hb, hr⟩ := hE.ev hx
  have hone : (a.eval x).cells = #[a.eval x] := by
    rcases ho.2 with ⟨hv, _⟩ | ⟨g, cap, cur, hv, _⟩ <;> rw [hv] <;> rfl
  let w' := w.alloc (.cells #[a.eval x] e)
  have hop : (execOp a.eval ⟨some d, .buildSlice t 1 #[(0, x)], ty, pos, af, gd⟩).run P w = .ok (.value (.slice (some ⟨w.heap.size, 0, none⟩) 1 1)) w' := by
    have h1r : ∀ f : Nat → Value, (Array.map f (Array.range 1)).setIfInBounds 0 (a.eval x) = #[a.eval x] := fun f => by
      apply Array.ext'
      simp [Array.toList_range, List.range_succ]
    simp [execOp, Instr.buildSlice, run_underlying h1, sizeOf, typeInfo, h2, h4, zeroValue, h3, newRow, w', Instr.fill, hone, h1r]
  unfold Oper.wp
  rw [hop, Oper.upon_value]
  let G' : Gh := ⟨fun b => if b = w.heap.size then some d else if G.g b = some l then some d else G.g b, fun q => if q = d then w.heap.size else G.r q⟩
  have hG' : G'.fits C w' := by
    have hsz : w'.heap.size = w.heap.size + 1 := by simp [w']
    refine ⟨fun b q hq => ?_, ?_, fun b hb => ?_⟩
    · have hq' : (if b = w.heap.size then some d else if G.g b = some l then some d else G.g b) = some q := hq
      split at hq'
      · rename_i he; subst he; exact ⟨fun ho => by have := ho.1; omega, by omega⟩
      · split at hq'
        · rename_i hc; have := hG.1 b l hc; exact ⟨this.1, by omega⟩
        · have := hG.1 b q hq'; exact ⟨this.1, by omega⟩
    · show (if 2000 = d then _ else G.r 2000) = _
      rw [if_neg (Ne.symm hd0)]; exact hG.2.1
    · have h2 := hG.2.2 b hb
      show (if b = w.heap.size then some d else if G.g b = some l then some d else G.g b) = some 2000
      rw [if_neg (by have := (hG.1 b _ h2).2; omega), if_neg (fun e => by rw [h2] at e; exact hl0 (Option.some.inj e).symm)]
      exact h2
  have hold : ∀ b, b < w.heap.size → w'.heap[b]? = w.heap[b]? := fun b hb => heap_alloc_old w _ hb
  have hbel : Stays C.old w w' := ⟨rfl, rfl, rfl, by simp [w'], fun k hk => hold k (Nat.lt_of_lt_of_le hk.1 hB), fun k hk => by rw [hold k hk]⟩
  have hE' : Env C (σ.reb l d) a w' G' := by
    intro s y hy
    obtain ⟨x', hx', rfl⟩ := reb_at hy
    refine Ok.reb hS.fp hbel x' _ (fun b hb' => ⟨?_, hold b (hG.1 b l hb').2⟩) (fun q hq hql => ⟨?_, fun b hb' => ?_, fun b hb' => hold b (hG.1 b q hb').2⟩) (hE s x' hx')
    · have := (hG.1 b l hb').2
      show (if b = w.heap.size then some d else if G.g b = some l then some d else G.g b) = some d
      rw [if_neg (by omega), if_pos hb']
    · show (if q = d then _ else G.r q) = G.r q
      rw [if_neg (hfr' q (St.labels_at hx' q hq))]
    · show (if b = w.heap.size then some d else if G.g b = some l then some d else G.g b) = some q
      rw [if_neg (by have := (hG.1 b q hb').2; omega), if_neg (fun e => ?_)]
      · exact hb'
      · rw [hb'] at e; exact hql (Option.some.inj e)
  have hroot : G'.r d = w.heap.size := by show (if d = d then _ else _) = _; rw [if_pos rfl]
  have hin : ∀ b, G.g b = some l → G'.g b = some d ∧ b ≠ G'.r d := fun b hb' => by
    have hlt := (hG.1 b l hb').2
    refine ⟨?_, by rw [hroot]; omega⟩
    show (if b = w.heap.size then some d else if G.g b = some l then some d else G.g b) = some d
    rw [if_neg (by omega), if_pos hb']
  have hrow : w'.ownsRow 0 e 1 (.slice (some ⟨w.heap.size, 0, none⟩) 1 1) 1 [a.eval x] :=
    ⟨rfl, .inr ⟨w.heap.size, 1, #[a.eval x], rfl, Nat.zero_le _, heap_alloc_new w _, Nat.le_refl _, by simp [maxLen], rfl, rfl⟩⟩
  have hrep : Rep w' (G'.inn d) (.sl m cs) (a.eval x) := by
    have := own_rep (F := fun b => G.g b = some l) ho (fun b hv => (hb b hv).2) hr (fun b h => h.1)
    exact Rep.mono (fun b hb' => hin b hb') (fun b hb' => hold b (hG.1 b l hb').2) _ _ this
  have hok : Ok C w' G' (.own d e 1 1 [.sl m cs]) (.slice (some ⟨w.heap.size, 0, none⟩) 1 1) := by
    refine ⟨[a.eval x], hrow, fun b hv => ?_, ⟨_, _, rfl, rfl, hrep, rfl⟩⟩
    simp [Value.ownBlock] at hv
    subst hv
    refine ⟨hroot.symm, ?_⟩
    show (if w.heap.size = w.heap.size then some d else _) = _
    rw [if_pos rfl]
  refine hK' _ _ _ hK ?_
  have hS' : Sim n C (σ.reb l d) a w' := ⟨hS.fp, hS.below.trans hbel, hS.dfs, hS.size, G', hG', hE'⟩
  exact hS'.put hG' hE' hd hok

theorem op_append_genB {t e size bytes : Nat} {zc : List PV} (hty : SlTy P t e size bytes zc) {x y : Operand} {l m k : Nat} {cs ds : List PV} {sy : SV} {l2 : Option Nat}
    (hx : σ.ev x = some (.own l e size m cs) ∨ (σ.ev x = some (.val (.sl 0 [])) ∧ m = 0 ∧ cs = [] ∧ l ∉ σ.labels)) (hy : σ.ev y = some sy) (hsy : sy.pv = some (.sl k ds))
    (hl2 : (l2 = none ∧ PV.flatL ds = true) ∨ ∃ q e' s', l2 = some q ∧ q ≠ l ∧ sy = .own q e' s' k ds)
    (hlen : ds.length = k * size) (hby : (m + k) * bytes ≤ 140737488355328) (hd : d < n) (hl0 : l ≠ 2000) (hl20 : l2 ≠ some 2000)
    (hK : K ((d, .own l e size (m + k) (cs ++ ds)) :: (σ.kill l).rebO l l2)) :
    opT P n ⟨some d, .call { callee := .builtin .append, args := #[x, y], argTypes := #[t, t] }, ty, pos, af, gd⟩ σ K := by
  intro C a w hS K' Q hK'
  obtain ⟨G, hG, hE⟩ := hS.gh
  have hB : C.B ≤ w.heap.size := hS.below.size
  -- what is owned
  have hown : ∃ vs, w.ownsRow 0 e size (a.eval x) m vs ∧ (∀ b, (a.eval x).ownBlock = some b → b = G.r l ∧ G.g b = some l) ∧ RepL w (fun b => G.g b = some l ∧ b ≠ G.r l ∧ l ∈ σ.labels) cs vs := by
    rcases hx with hx | ⟨hx, rfl, rfl, _⟩
    · have h := hE.ev hx
      simp only [Ok] at h
      obtain ⟨vs, h1, h2, h3⟩ := h
      refine ⟨vs, h1, h2, RepL.mono (fun b ⟨hb, hn⟩ => ⟨hb, hn, ?_⟩) (fun _ _ => rfl) cs vs h3⟩
      cases x with
      | tmp s => exact St.labels_at (σ := σ) (s := s) hx l (by simp [SV.labels])
      | const c =>
        obtain ⟨p, _, hp⟩ := Option.map_eq_some_iff.1 hx
        simp at hp
      | func f => simp [St.ev] at hx
      | global g => simp [St.ev] at hx
    · have h := hE.ev hx
      simp only [Ok, Rep] at h
      rcases h with ⟨hv, _⟩ | ⟨b, _, _, _, _, hf, _⟩
      · rw [hv]; exact ⟨[], World.ownsRow_nil _ _ _ _, fun b hb => by simp [Value.ownBlock] at hb, rfl⟩
      · exact hf.elim
  obtain ⟨vs, ho, hob, hr⟩ := hown
  have hoy := (hE.ev hy).rep hsy
  obtain ⟨v', w', us, hrun, ho', hg, hblk, hus, hform⟩ := append_core (ty := ty) hty ho hoy hlen hby
  have hop : (execOp a.eval ⟨some d, .call { callee := .builtin .append, args := #[x, y], argTypes := #[t, t] }, ty, pos, af, gd⟩).run P w = .ok (.value v') w' := by
    simp [execOp, resolve, invoke, builtin, hrun]
  unfold Oper.wp
  rw [hop, Oper.upon_value]
  let G' : Gh := G.app l l2 v'.ownBlock
  have hq : ∀ q, l2 = some q → q ≠ l ∧ ∃ e' s', sy = .own q e' s' k ds := by
    rintro q rfl
    rcases hl2 with ⟨h, _⟩ | ⟨q', e', s', h, hne, hs⟩
    · cases h
    · cases h; exact ⟨hne, e', s', hs⟩
  have hgb : ∀ b, v'.ownBlock = some b → G.g b = some l ∨ b = w.heap.size := fun b hb => (hblk b hb).imp (fun h => (hob b h).2) id
  have hsz := hg.size
  have hlt' : ∀ b, v'.ownBlock = some b → b < w'.heap.size := fun b hb => (ho'.lt b hb).2
  -- the new ghost fits
  have hG' : G'.fits C w' := by
    refine ⟨fun b j hb => ?_, ?_, fun b hb => ?_⟩
    · have hb' : (if some b = v'.ownBlock then some l else if l2.isSome && G.g b == l2 then some l else G.g b) = some j := hb
      split at hb'
      · rename_i he
        refine ⟨fun ho => ?_, hlt' b he.symm⟩
        rcases hgb b he.symm with h | h
        · exact (hG.1 b l h).1 ho
        · have := ho.1; omega
      · split at hb'
        · rename_i hc
          simp only [Bool.and_eq_true, beq_iff_eq] at hc
          obtain ⟨q, hq'⟩ := Option.isSome_iff_exists.1 hc.1
          have := hG.1 b q (by rw [hc.2, hq'])
          exact ⟨this.1, by omega⟩
        · have := hG.1 b j hb'; exact ⟨this.1, by omega⟩
    · show (if 2000 = l then _ else G.r 2000) = _
      rw [if_neg (Ne.symm hl0)]; exact hG.2.1
    · have h2 := hG.2.2 b hb
      show (if some b = v'.ownBlock then some l else if l2.isSome && G.g b == l2 then some l else G.g b) = some 2000
      rw [if_neg (fun he => ?_), if_neg (fun hc => ?_)]
      · exact h2
      · simp only [Bool.and_eq_true, beq_iff_eq] at hc
        rw [h2] at hc; exact hl20 hc.2.symm
      · rcases hgb b he.symm with h | h
        · rw [h2] at h; exact hl0 (Option.some.inj h).symm
        · have := (hG.1 b _ h2).2; omega
  -- every other label keeps its blocks
  have hkeep : ∀ j, j ≠ l → (∀ q, l2 = some q → j ≠ q) → G'.r j = G.r j ∧ ∀ b, G.g b = some j → G'.g b = some j := by
    intro j hj hj2
    refine ⟨by show (if j = l then _ else G.r j) = _; rw [if_neg hj], fun b hb => ?_⟩
    show (if some b = v'.ownBlock then some l else if l2.isSome && G.g b == l2 then some l else G.g b) = some j
    rw [if_neg (fun he => ?_), if_neg (fun hc => ?_)]
    · exact hb
    · simp only [Bool.and_eq_true, beq_iff_eq] at hc
      rw [hb] at hc
      exact hj2 j hc.2.symm rfl
    · rcases hgb b he.symm with h | h
      · rw [hb] at h; exact hj (Option.some.inj h)
      · have := (hG.1 b j hb).2; omega
  -- the frame
  have hrow : ∀ b, (a.eval x).ownBlock = some b → G.g b = some l := fun b hb => (hob b hb).2
  obtain ⟨hE1, hbel⟩ := grown_env (G' := ⟨fun b => if (∃ q, l2 = some q ∧ G.g b = some q) then G.g b else G'.g b, fun j => if (∃ q, l2 = some q ∧ j = q) then G.r j else G'.r j⟩) hS hG hE hg hform hrow (fun j hj _ => by
    by_cases hj2 : ∃ q, l2 = some q ∧ j = q
    · obtain ⟨q, h1, rfl⟩ := hj2
      refine ⟨if_pos ⟨j, h1, rfl⟩, fun b hb => ?_⟩
      show (if _ then G.g b else _) = _
      rw [if_pos ⟨j, h1, hb⟩]; exact hb
    · have h2 := hkeep j hj (fun q hq' e => hj2 ⟨q, hq', e⟩)
      refine ⟨by show (if _ then _ else _) = _; rw [if_neg hj2]; exact h2.1, fun b hb => ?_⟩
      show (if _ then G.g b else _) = _
      split
      · exact hb
      · exact h2.2 b hb)
  let σ' : St := (σ.kill l).rebO l l2
  have hE2 : Env C σ' a w' G' := by
    intro s y hy'
    cases hl : l2 with
    | none =>
      have hh : σ' = σ.kill l := by show (σ.kill l).rebO l l2 = _; rw [hl]; rfl
      rw [hh] at hy'
      have hly : l ∉ y.labels := St.labels_kill hy'
      refine Ok.keep hS.fp (Stays.refl _ _) y _ (fun j hj => ?_) (hE1 s y hy')
      have hjl : j ≠ l := fun e => hly (e ▸ hj)
      refine ⟨?_, fun b hb => ?_, fun _ _ => rfl⟩
      · show G'.r j = (if _ then _ else _)
        rw [if_neg (fun ⟨q, h3, h4⟩ => by rw [hl] at h3; cases h3)]
      · have hb' : (if (∃ q, l2 = some q ∧ G.g b = some q) then G.g b else G'.g b) = some j := hb
        rw [if_neg (fun ⟨q, h3, h4⟩ => by rw [hl] at h3; cases h3)] at hb'
        exact hb'
    | some q =>
      have hh : σ' = (σ.kill l).reb q l := by show (σ.kill l).rebO l l2 = _; rw [hl]; rfl
      rw [hh] at hy'
      obtain ⟨x', hx', rfl⟩ := reb_at hy'
      have hly : l ∉ x'.labels := St.labels_kill hx'
      have hql : q ≠ l := (hq q hl).1
      refine Ok.reb hS.fp (Stays.refl _ _) x' _ (fun b hb => ⟨?_, rfl⟩) (fun j hj hjq => ⟨?_, fun b hb => ?_, fun _ _ => rfl⟩) (hE1 s x' hx')
      · have hb' : (if (∃ q, l2 = some q ∧ G.g b = some q) then G.g b else G'.g b) = some q := hb
        show (if some b = v'.ownBlock then some l else if l2.isSome && G.g b == l2 then some l else G.g b) = some l
        split at hb'
        · split
          · rfl
          · rw [hb', hl]; simp
        · rename_i hc
          have hb2 : (if some b = v'.ownBlock then some l else if l2.isSome && G.g b == l2 then some l else G.g b) = some q := hb'
          split at hb2
          · exact absurd (Option.some.inj hb2).symm hql
          · split at hb2
            · exact absurd (Option.some.inj hb2).symm hql
            · exact absurd ⟨q, hl, hb2⟩ hc
      · have hjl : j ≠ l := fun e => hly (e ▸ hj)
        show G'.r j = (if _ then _ else _)
        rw [if_neg (fun ⟨q', h3, h4⟩ => by rw [hl] at h3; cases h3; exact hjq h4)]
      · have hjl : j ≠ l := fun e => hly (e ▸ hj)
        have hb' : (if (∃ q, l2 = some q ∧ G.g b = some q) then G.g b else G'.g b) = some j := hb
        split at hb'
        · rename_i hc
          obtain ⟨q', h3, h4⟩ := hc
          rw [hl] at h3; cases h3
          rw [h4] at hb'; exact absurd (Option.some.inj hb').symm hjq
        · exact hb'
  -- what is now owned
  have hroot : ∀ b, v'.ownBlock = some b → b = G'.r l ∧ G'.g b = some l := by
    intro b hb
    refine ⟨?_, ?_⟩
    · show b = (if l = l then v'.ownBlock.getD (G.r l) else _)
      rw [if_pos rfl, hb]; rfl
    · show (if some b = v'.ownBlock then some l else _) = _
      rw [if_pos hb.symm]
  have hmem : ∀ b, (a.eval x).ownBlock ≠ some b → b < w.heap.size → w'.heap[b]? = w.heap[b]? := fun b hb hlt => hg.block b hlt (fun e => hb e.symm)
  have hrl : G'.r l = v'.ownBlock.getD (G.r l) := by show (if l = l then _ else _) = _; rw [if_pos rfl]
  have hint : ∀ b, b < w.heap.size → b ≠ G.r l ∨ (∀ c, v'.ownBlock ≠ some c) ∨ True → (∀ c, v'.ownBlock = some c → c ≠ b) → b ≠ G.r l → b ≠ G'.r l := by
    intro b _ _ h2 h3
    rw [hrl]
    cases hv : v'.ownBlock with
    | none => simpa [hv] using h3
    | some c => simpa using (h2 c hv).symm
  have hR1 : RepL w' (fun b => G'.g b = some l ∧ b ≠ G'.r l) cs vs := by
    refine RepL.mono (fun b ⟨hb, hn, _⟩ => ?_) (fun b ⟨hb, hn, _⟩ => hmem b (fun e => hn (hob b e).1) (hG.1 b l hb).2) cs vs hr
    have hlt := (hG.1 b l hb).2
    have hne : ∀ c, v'.ownBlock = some c → c ≠ b := by
      intro c hc e; subst e
      rcases hblk c hc with h | h
      · exact hn (hob c h).1
      · omega
    refine ⟨?_, hint b hlt (.inr (.inr trivial)) hne hn⟩
    show (if some b = v'.ownBlock then some l else if l2.isSome && G.g b == l2 then some l else G.g b) = some l
    split
    · rfl
    · split
      · rfl
      · exact hb
  have hR2 : RepL w' (fun b => G'.g b = some l ∧ b ≠ G'.r l) ds us := by
    rcases hl2 with ⟨_, hf⟩ | ⟨q, e', s', hq', hne, hs⟩
    · exact RepL.flat ds us hf hus
    · subst hs
      by_cases hk0 : k = 0
      · have hdn : ds = [] := List.eq_nil_of_length_eq_zero (by rw [hlen, hk0]; simp)
        have hun : us = [] := List.eq_nil_of_length_eq_zero (by rw [hus.length, hdn]; rfl)
        rw [hdn, hun]; rfl
      have hoy' := hE.ev hy
      simp only [Ok] at hoy'
      obtain ⟨us', hoq, hbq, hrq⟩ := hoy'
      -- the cells of the source row are its own
      have hsame : RepL w (fun b => G.g b = some q) ds us := by simpa [foot] using hus
      have huq : RepL w (fun b => G.g b = some q ∧ b ≠ G.r q) ds us' := hrq
      have heq : us = us' := by
        have hl1 : us.length = us'.length := by rw [hus.length, hrq.length]
        -- both are read off the same cells
        have h1 := (hE.ev hy).rep hsy
        simp only [Rep] at h1
        cases hus0 : us with
        | nil => subst hus0; exact (List.eq_nil_of_length_eq_zero (by simpa using hl1.symm)).symm
        | cons u0 ur =>
          rw [← hus0]
          -- 'us' are the last cells of the row that the append has read; compare with the run on the other list
          have hlq : us'.length = k * size := by rw [hrq.length]; exact hlen
          rcases hoq.2 with ⟨hnil, hk⟩ | ⟨g, cap, cur, hv, hbg, hgg, hkc, hcm, hcs, htake⟩
          · subst hk; rw [hus0] at hl1; simp [hlq] at hl1
          · obtain ⟨hh1, i, z, hh2, hh3, hh4, hh5, hh6, hh7, hh8, _⟩ := hty
            have hcell : ∀ (j : Nat) u, us'[j]? = some u → w.cell? ((⟨g, 0, none⟩ : Addr).add j) = some u := hoq.cells (g := g) (by rw [hv]; rfl)
            have h63 : m + k ≤ maxLen := by
              have : (m + k) * 1 ≤ (m + k) * bytes := Nat.mul_le_mul_left _ hh8
              simp only [maxLen]; omega
            obtain ⟨v2, w2, hr2, ho2, _⟩ := append_run (P := P) w 0 t ty e i z size bytes hh1 hh2 hh3 hh4 hh5 hh6 hh7 (a.eval x) m vs ho ⟨g, 0, none⟩ k cap us' hlq hcell hrq.oneCells h63 hby (Nat.zero_le _)
            rw [← hv, hrun] at hr2
            injection hr2 with e1 e2
            subst e1; subst e2
            rcases ho'.2 with ⟨_, hz⟩ | ⟨g1, c1, cur1, hv1, _, hh1', _, _, _, ht1⟩
            · have : k = 0 := by omega
              subst this; rw [hus0] at hl1; simp [hlq] at hl1
            · rcases ho2.2 with ⟨hn2, _⟩ | ⟨g2, c2, cur2, hv2, _, hh2', _, _, _, ht2⟩
              · rw [hv1] at hn2; cases hn2
              · rw [hv1] at hv2
                injection hv2 with e3 _ _
                injection e3 with e4
                injection e4 with e5
                subst e5
                rw [hh1'] at hh2'
                injection hh2' with e6
                injection e6 with e7
                subst e7
                rw [ht1] at ht2
                exact List.append_cancel_left ht2
      rw [heq]
      refine RepL.mono (fun b ⟨hb, hn⟩ => ?_) (fun b ⟨hb, hn⟩ => hmem b (fun e => ?_) (hG.1 b q hb).2) ds us' huq
      · have hlt := (hG.1 b q hb).2
        have hnr : ∀ c, v'.ownBlock = some c → c ≠ b := by
          intro c hc e; subst e
          rcases hgb c hc with h | h
          · rw [hb] at h; exact hne (Option.some.inj h)
          · omega
        refine ⟨?_, ?_⟩
        · show (if some b = v'.ownBlock then some l else if l2.isSome && G.g b == l2 then some l else G.g b) = some l
          split
          · rfl
          · rw [hq', hb]; simp
        · rw [hrl]
          cases hv : v'.ownBlock with
          | none =>
            exfalso
            rcases ho'.2 with ⟨_, hz⟩ | ⟨g1, c1, cur1, hv1, _⟩
            · omega
            · rw [hv1] at hv; simp [Value.ownBlock] at hv
          | some c => simpa using (hnr c hv).symm
      · rw [hrow b e] at hb; exact hne (Option.some.inj hb).symm
  have hok : Ok C w' G' (.own l e size (m + k) (cs ++ ds)) v' := ⟨vs ++ us, ho', hroot, RepL.append hR1 hR2⟩
  refine hK' _ _ _ hK ?_
  have hS' : Sim n C σ' a w' := ⟨hS.fp, hS.below.trans hbel, hS.dfs, hS.size, G', hG', hE2⟩
  exact hS'.put hG' hE2 hd hok

/-- A slice of parts that are read through one label: it is read through that label too. -/
theorem op_buildSliceB {t e size bytes : Nat} {zc : List PV} (hty : SlTy P t e size bytes zc) {l len : Nat} {parts : List (Nat × Operand)} {ps : List (Nat × PV)} {cs : List PV} (hp : σ.evpl l parts = some ps)
    (hf : fillP (fun i => some (i * size, size)) (zeros zc len) ps = some cs) (hcs : cs.length = len * size) (hb : len * size ≤ 16777216) (hd : d < n) (hl0 : l ≠ 2000)
    (hK : K ((d, .bor l (.sl len cs)) :: σ)) : opT P n ⟨some d, .buildSlice t len parts.toArray, ty, pos, af, gd⟩ σ K := by
  intro C a w hS K' Q hK'
  obtain ⟨G, hG, hE⟩ := hS.gh
  obtain ⟨h1, i, z, h2, h3, h4, h5, h6, h7, h8, h9⟩ := hty
  have hB : C.B ≤ w.heap.size := hS.below.size
  have hlen63 : len ≤ maxLen := by
    have : len * 1 ≤ len * size := Nat.mul_le_mul_left _ h7
    simp only [maxLen]; omega
  have hzs : z.cells.size = zc.length := by rw [← Array.length_toList]; exact (cvs_ok (F := fun _ => True) (w := w) h9).length
  have hinit := zeros_rep (w := w) (F := G.see C l) h9 len
  obtain ⟨arr, hfill, hr⟩ := fill_rep hinit (evpl_ok hE hp) hf
  have hasz : arr.size = len * size := by rw [← Array.length_toList, hr.length, hcs]
  let w' := w.alloc (.cells arr e)
  have hop : (execOp a.eval ⟨some d, .buildSlice t len parts.toArray, ty, pos, af, gd⟩).run P w = .ok (.value (.slice (some ⟨w.heap.size, 0, none⟩) len len)) w' := by
    have hb' : ¬ 16777216 < len * size := by omega
    by_cases h0 : len * size = 0
    · have hr0 : ∀ f : Nat → Value, Array.map f (Array.range 0) = #[] := fun f => Array.eq_empty_of_size_eq_zero (by simp)
      rw [h6, h0, hr0] at hfill
      simp [execOp, Instr.buildSlice, run_underlying h1, sizeOf, typeInfo, h2, h4, h0, newRow, w', hr0, hfill]
    · have hfill' : Instr.fill (fun i => some (i * size, size)) (Array.map (fun x => z.cells[x % size]!) (Array.range (len * size))) (List.map (fun e => (e.fst, a.eval e.snd)) parts) = some arr := by
        rw [← hfill, h6]
      simp [execOp, Instr.buildSlice, run_underlying h1, sizeOf, typeInfo, h2, h4, h0, hb', zeroValue, h3, newRow, w', h6, hfill']
  unfold Oper.wp
  rw [hop, Oper.upon_value]
  let G' : Gh := ⟨fun b => if b = w.heap.size then some l else G.g b, G.r⟩
  have hsz : w'.heap.size = w.heap.size + 1 := by simp [w']
  have hold : ∀ b, b < w.heap.size → w'.heap[b]? = w.heap[b]? := fun b hb => heap_alloc_old w _ hb
  have hbel : Stays C.old w w' := ⟨rfl, rfl, rfl, by simp [w'], fun k hk => hold k (Nat.lt_of_lt_of_le hk.1 hB), fun k hk => by rw [hold k hk]⟩
  have g2 : ∀ b j, G.g b = some j → G'.g b = some j := fun b j hb => by
    show (if b = w.heap.size then some l else G.g b) = some j
    rw [if_neg (by have := (hG.1 b j hb).2; omega)]; exact hb
  have hG' : G'.fits C w' := by
    refine ⟨fun b q hq => ?_, hG.2.1, fun b hb => g2 b 2000 (hG.2.2 b hb)⟩
    have hq' : (if b = w.heap.size then some l else G.g b) = some q := hq
    split at hq'
    · rename_i he; subst he; exact ⟨fun ho => by have := ho.1; omega, by omega⟩
    · have := hG.1 b q hq'; exact ⟨this.1, by omega⟩
  have hE' : Env C σ a w' G' := fun s y hy => Ok.keep (G := G) (G' := G') hS.fp hbel y _ (fun q hq => ⟨rfl, fun b hb' => g2 b q hb', fun b hb' => hold b (hG.1 b q hb').2⟩) (hE s y hy)
  have hrow : w'.ownsRow 0 e size (.slice (some ⟨w.heap.size, 0, none⟩) len len) len arr.toList :=
    ⟨by simpa using hasz, .inr ⟨w.heap.size, len, arr, rfl, Nat.zero_le _, heap_alloc_new w _, Nat.le_refl _, hlen63, hasz, by rw [List.take_of_length_le (by simp [hasz])]⟩⟩
  have hsee : ∀ b, G.see C l b → b < w.heap.size ∧ G'.see C l b := fun b hb => hb.elim (fun z => ⟨(hG.1 b l z).2, .inl (g2 b l z)⟩) (fun z => ⟨Nat.lt_of_lt_of_le (hS.fp.2 b z).1 hB, .inr z⟩)
  have hr' : RepL w' (G'.see C l) cs arr.toList := RepL.mono (fun b hb => (hsee b hb).2) (fun b hb => hold b (hsee b hb).1) cs _ hr
  have hok : Ok C w' G' (.bor l (.sl len cs)) (.slice (some ⟨w.heap.size, 0, none⟩) len len) := by
    refine own_rep (F := G'.see C l) hrow (fun b hb => ?_) hr' (fun b h => h)
    simp [Value.ownBlock] at hb
    subst hb
    refine .inl ?_
    show (if w.heap.size = w.heap.size then some l else _) = _
    rw [if_pos rfl]
  refine hK' _ _ _ hK ?_
  have hS' : Sim n C σ a w' := ⟨hS.fp, hS.below.trans hbel, hS.dfs, hS.size, G', hG', hE'⟩
  exact hS'.put hG' hE' hd hok

end
end Go.Proofs.YtgpgjaebhfhjoaaDoor
