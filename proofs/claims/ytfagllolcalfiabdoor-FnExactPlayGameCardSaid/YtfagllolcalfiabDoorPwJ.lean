/- A drawn region as code; a label renamed; slices of slices. Own work; no conditions; nothing here is about one program. -/
import Derived.Test.YtfagllolcalfiabDoorPwI
namespace Go.Proofs.YtfagllolcalfiabDoor
open Go.RowKit
theorem code_draw {P : Program} {n : Nat} {σ : St} {Q : Exit → St → Prop} {id : Nat} {lo : List Oper} (hm : P.follows .mixedOrders = true) (hB : Region.lexB .any lo.toArray = true) (h : drawT P n lo.toArray lo σ (Q .normal)) :
    codeT P n (.region id lo.toArray true) σ Q := by
  intro C a w hS N
  refine region_any hS hm ?_ N
  simp only [Region.lexB, Bool.and_eq_true] at hB
  refine wpAny_of_quiet (C := fun w2 => Below w.heap.size w w2) (Q := fun a' => ∀ w', Below w.heap.size w w' → regPost n C (Q .normal) .normal a' w') (fun _ w' hw' h => h w' hw') _ _ _ _ (Below.refl _ _).drew ?_
  have h2 := wpAnyQ_lex (C := fun w2 => Below w.heap.size w w2) (md := .any) hB.1 lo.toArray.toList 0 (Array.replicate lo.toArray.size false) a (by simp) (by simpa using hB.2)
    (by simpa using h C a w hS (fun a' => ∀ w', Below w.heap.size w w' → regPost n C (Q .normal) .normal a' w') fun σ' a' hK hS' w' hw' => ⟨rfl, σ', hK, hS'.later hw'⟩)
  simpa using h2
def SV.ren (l q : Nat) : SV → SV
  | .own m e s k cs => .own (if m = l then q else m) e s k cs
  | .box m e cs => .box (if m = l then q else m) e cs
  | .adr m o => .adr (if m = l then q else m) o
  | .bor m p => .bor (if m = l then q else m) p
  | .rbor m cs => .rbor (if m = l then q else m) cs
  | .map m es => .map (if m = l then q else m) es
  | .sit m s i => .sit (if m = l then q else m) s i
  | .bld m T e s => .bld (if m = l then q else m) T e s
  | .gmap m e b es => .gmap (if m = l then q else m) e b es
  | .ownL m qs e s k cs => if qs.contains l then .dead else .ownL (if m = l then q else m) qs e s k cs
  | x => if x.labels.contains l then .dead else x
def St.ren (l q : Nat) (σ : St) : St := σ.map fun e => (e.1, e.2.ren l q)
theorem ren_at {l q : Nat} : ∀ {σ : St} {s : Nat} {x : SV}, (σ.ren l q).at s = some x → ∃ y, σ.at s = some y ∧ x = y.ren l q
  | [], s, x, h => by simp [St.ren, St.at] at h
  | (t, y) :: r, s, x, h => by
    simp only [St.ren, List.map_cons, St.at] at h ⊢
    split at h
    · rename_i he; subst he
      exact ⟨y, by simp, (Option.some.inj h).symm⟩
    · rename_i hne
      rw [if_neg hne]
      exact ren_at (σ := r) h
theorem imp_ren {n : Nat} {σ : St} (l q : Nat) (hl0 : l ≠ 2000) (hq0 : q ≠ 2000) (h : σ.labels.all (· != q) = true) : Imp n σ (σ.ren l q) := by
  intro C a w hS
  obtain ⟨G, hG, hE⟩ := hS.gh
  have hq : ∀ m ∈ σ.labels, m ≠ q := by simpa using h
  let G' : Gh := ⟨fun b => if G.g b = some l then some q else if G.g b = some q then none else G.g b, fun m => if m = q then G.r l else G.r m⟩
  have g1 : ∀ b, G.g b = some l → G'.g b = some q := fun b hb => by show (if G.g b = some l then some q else _) = _; rw [if_pos hb]
  have g2 : ∀ m b, m ≠ l → m ≠ q → G.g b = some m → G'.g b = some m := fun m b h1 h2 hb => by
    show (if G.g b = some l then some q else if G.g b = some q then none else G.g b) = _
    rw [hb, if_neg (fun e => h1 (Option.some.inj e)), if_neg (fun e => h2 (Option.some.inj e))]
  have r1 : G'.r q = G.r l := by show (if q = q then _ else _) = _; rw [if_pos rfl]
  have r2 : ∀ m, m ≠ q → G'.r m = G.r m := fun m hm => by show (if m = q then _ else _) = _; rw [if_neg hm]
  refine ⟨hS.fp, hS.below, hS.dfs, hS.size, G', ⟨fun b m hb => ?_, (r2 2000 (Ne.symm hq0)).trans hG.2.1, fun b hb => g2 2000 b (Ne.symm hl0) (Ne.symm hq0) (hG.2.2 b hb)⟩, fun s x hx => ?_⟩
  · have hb' : (if G.g b = some l then some q else if G.g b = some q then none else G.g b) = some m := hb
    split at hb'
    · rename_i hc; exact hG.1 b l hc
    · split at hb'
      · cases hb'
      · exact hG.1 b m hb'
  · obtain ⟨y, hy, rfl⟩ := ren_at hx
    have hok := hE s y hy
    have hlab := St.labels_at hy
    have same : l ∉ y.labels → Ok C w G' y (a.tmps.getD s undef) := fun hl =>
      Ok.keep hS.fp (Stays.refl _ _) y _ (fun m hm => ⟨r2 m (hq m (hlab m hm)), fun b hb => g2 m b (fun e => hl (e ▸ hm)) (hq m (hlab m hm)) hb, fun _ _ => rfl⟩) hok
    cases y with
    | own m e s k cs =>
      simp only [SV.ren]
      split
      · rename_i hm; subst hm
        obtain ⟨vs, h1, h2, h3⟩ := hok
        refine ⟨vs, h1, fun b hb => ⟨by rw [r1]; exact (h2 b hb).1, g1 b (h2 b hb).2⟩, RepL.mono (fun b ⟨hb, hn⟩ => ⟨g1 b hb, by rw [r1]; exact hn⟩) (fun _ _ => rfl) cs vs h3⟩
      · rename_i hm; exact same (by simpa [SV.labels] using fun e => hm e.symm)
    | box m e cs =>
      simp only [SV.ren]
      split
      · rename_i hm; subst hm
        obtain ⟨vs, h1, h2, h3, h4⟩ := hok
        refine ⟨vs, by rw [r1]; exact h1, by rw [r1]; exact g1 _ h2, by rw [r1]; exact h3, RepL.mono (fun b hb => hb.imp (fun ⟨hb, hn⟩ => ⟨g1 b hb, by rw [r1]; exact hn⟩) id) (fun _ _ => rfl) cs vs h4⟩
      · rename_i hm; exact same (by simpa [SV.labels] using fun e => hm e.symm)
    | adr m o =>
      simp only [SV.ren]
      split
      · rename_i hm; subst hm
        simp only [Ok] at hok ⊢
        rw [r1]; exact hok
      · rename_i hm; exact same (by simpa [SV.labels] using fun e => hm e.symm)
    | bor m p =>
      simp only [SV.ren]
      split
      · rename_i hm; subst hm
        exact Rep.mono (fun b hb => hb.imp (g1 b) id) (fun _ _ => rfl) p _ hok
      · rename_i hm; exact same (by simpa [SV.labels] using fun e => hm e.symm)
    | rbor m cs =>
      simp only [SV.ren]
      split
      · rename_i hm; subst hm
        obtain ⟨b, off, vs, h1, h2, h3, h4⟩ := hok
        exact ⟨b, off, vs, h1, h2, h3.imp (g1 b) id, RepL.mono (fun b hb => hb.imp (g1 b) id) (fun _ _ => rfl) cs vs h4⟩
      · rename_i hm; exact same (by simpa [SV.labels] using fun e => hm e.symm)
    | map m es =>
      simp only [SV.ren]
      split
      · rename_i hm; subst hm
        obtain ⟨arr, clock, h1, h2, h3, h4⟩ := hok
        exact ⟨arr, clock, by rw [r1]; exact h1, by rw [r1]; exact g1 _ h2, by rw [r1]; exact h3, h4⟩
      · rename_i hm; exact same (by simpa [SV.labels] using fun e => hm e.symm)
    | sit m s' i =>
      simp only [SV.ren]
      split
      · rename_i hm; subst hm
        obtain ⟨h1, h2, h3⟩ := hok
        exact ⟨by rw [r1]; exact h1, by rw [r1]; exact g1 _ h2, by rw [r1]; exact h3⟩
      · rename_i hm; exact same (by simpa [SV.labels] using fun e => hm e.symm)
    | bld m T e s' =>
      simp only [SV.ren]
      split
      · rename_i hm; subst hm
        obtain ⟨h1, h2, h3, p, u, h4, h5, h6, h7, h8⟩ := hok
        exact ⟨by rw [r1]; exact h1, by rw [r1]; exact g1 _ h2, by rw [r1]; exact h3, p, u, by rw [r1]; exact h4, by rw [r1]; exact h5, h6, by rw [r1]; exact h7, fun g hg => g1 _ (h8 g hg)⟩
      · rename_i hm; exact same (by simpa [SV.labels] using fun e => hm e.symm)
    | gmap m e b es =>
      simp only [SV.ren]
      split
      · rename_i hm; subst hm
        rcases hok with h | ⟨arr, clock, h1, h2, h3, h4⟩
        · exact .inl h
        exact .inr ⟨arr, clock, by rw [r1]; exact h1, by rw [r1]; exact g1 _ h2, by rw [r1]; exact h3, h4.keep r1 g1 (fun _ _ _ => rfl)⟩
      · rename_i hm; exact same (by simpa [SV.labels] using fun e => hm e.symm)
    | ownL m qs e s' k cs =>
      simp only [SV.ren]
      split
      · trivial
      · rename_i hqs
        have hqs' : l ∉ qs := by simpa using hqs
        split
        · rename_i hm; subst hm
          obtain ⟨vs, h1, h2, h3⟩ := hok
          refine ⟨vs, h1, fun b hb => ⟨by rw [r1]; exact (h2 b hb).1, g1 b (h2 b hb).2⟩, RepL.mono (fun b ⟨⟨q', hq1, hq2⟩, hn⟩ => ⟨?_, by rw [r1]; exact hn⟩) (fun _ _ => rfl) cs vs h3⟩
          exact ⟨q', hq1, g2 q' b (fun e => hqs' (e ▸ hq1)) (hq q' (hlab q' (by simp [SV.labels, hq1]))) hq2⟩
        · rename_i hm; exact same (by simp only [SV.labels, List.mem_cons, not_or]; exact ⟨fun e => hm e.symm, hqs'⟩)
    | frz m p =>
      simp only [SV.ren]
      split
      · trivial
      · rename_i hm; exact same (by simpa using hm)
    | inl m p =>
      simp only [SV.ren]
      split
      · trivial
      · rename_i hm; exact same (by simpa using hm)
    | arr m e s es =>
      simp only [SV.ren]
      split
      · trivial
      · rename_i hm; exact same (by simpa using hm)
    | boxR m t e s es =>
      simp only [SV.ren]
      split
      · trivial
      · rename_i hm; exact same (by simpa using hm)
    | boxS m t q' e s k cs =>
      simp only [SV.ren]
      split
      · trivial
      · rename_i hm; exact same (by simpa using hm)
    | iop p =>
      simp only [SV.ren]
      split
      · trivial
      · rename_i hm; exact same (by simpa using hm)
    | iow e' s' k cs =>
      simp only [SV.ren]
      split
      · trivial
      · rename_i hm; exact same (by simpa using hm)
    | view m o k =>
      simp only [SV.ren]
      split
      · trivial
      · rename_i hm; exact same (by simpa using hm)
    | vbox m T o k cs =>
      simp only [SV.ren]
      split
      · trivial
      · rename_i hm; exact same (by simpa using hm)
    | tup ss =>
      simp only [SV.ren]
      split
      · trivial
      · rename_i hm; exact same (by simpa using hm)
    | dead => simp only [SV.ren]; split <;> trivial
    | val p => simp only [SV.ren]; split; · trivial
               · rename_i hm; exact same (by simpa using hm)
    | par i p => simp only [SV.ren]; split; · trivial
                 · rename_i hm; exact same (by simpa using hm)
    | ext p => simp only [SV.ren]; split; · trivial
               · rename_i hm; exact same (by simpa using hm)
    | rpar i p => simp only [SV.ren]; split; · trivial
                  · rename_i hm; exact same (by simpa using hm)
    | fn f => simp only [SV.ren]; split; · trivial
              · rename_i hm; exact same (by simpa using hm)
    | yld l2 => simp only [SV.ren]; split; · trivial
                · rename_i hm; exact same (by simpa using hm)
section
variable {P : Program} {n : Nat} {σ : St} {K : St → Prop} {d : Nat} {ty : TypeId} {pos : String} {af : Array Edge} {gd : Option (Nat × Bool)}
theorem op_buildSlice_own {t e bytes : Nat} {zc : List PV} (hty : SlTy P t e 1 bytes zc) {x : Operand} {l e' s' m : Nat} {cs : List PV} (hx : σ.ev x = some (.own l e' s' m cs)) (hd : d < n) (hd0 : d ≠ 2000) (hl0 : l ≠ 2000) (hfr : σ.labels.all (· != d) = true)
    (hK : K ((d, .own d e 1 1 [.sl m cs]) :: σ.kill l)) : opT P n ⟨some d, .buildSlice t 1 #[(0, x)], ty, pos, af, gd⟩ σ K := by
  intro C a w hS K' Q hK'
  obtain ⟨G, hG, hE⟩ := hS.gh
  obtain ⟨h1, i, z, h2, h3, h4, h5, h6, h7, h8, h9⟩ := hty
  have hB : C.B ≤ w.heap.size := hS.below.size
  have hfr' : ∀ q ∈ σ.labels, q ≠ d := by simpa using hfr
  have hl : l ∈ σ.labels := by
    cases x with
    | tmp s => exact St.labels_at (σ := σ) (s := s) hx l (by simp [SV.labels])
    | const c => obtain ⟨p, _, hp⟩ := Option.map_eq_some_iff.1 hx; simp at hp
    | func f => simp [St.ev] at hx
    | global g => simp [St.ev] at hx
  have hld : l ≠ d := hfr' l hl
  obtain ⟨vs, ho, hb, hr⟩ := hE.ev hx
  have hone : (a.eval x).cells = #[a.eval x] := by
    rcases ho.2 with ⟨hv, _⟩ | ⟨g, cap, cur, hv, _⟩ <;> rw [hv] <;> rfl
  let w' := w.alloc (.cells #[a.eval x] e)
  have hop : (execOp a.eval ⟨some d, .buildSlice t 1 #[(0, x)], ty, pos, af, gd⟩).run P w = .ok (.value (.slice (some ⟨w.heap.size, 0, none⟩) 1 1)) w' := by
    have h1r : ∀ f : Nat → Value, (Array.map f (Array.range 1)).setIfInBounds 0 (a.eval x) = #[a.eval x] := fun f => by
      apply Array.ext'
      simp [Array.toList_range, List.range_succ]
    simp [execOp, Instr.buildSlice, run_underlying h1, sizeOf, typeInfo, h2, h4, zeroValue, h3, newRow, w', Instr.fill, hone, h1r]
  unfold Oper.wp
  rw [hop, Oper.upon_value]
  let G' : Gh := ⟨fun b => if b = w.heap.size then some d else if G.g b = some l then some d else G.g b, fun q => if q = d then w.heap.size else G.r q⟩
  have hG' : G'.fits C w' := by
    have hsz : w'.heap.size = w.heap.size + 1 := by simp [w']
    refine ⟨fun b q hq => ?_, ?_, fun b hb => ?_⟩
    · have hq' : (if b = w.heap.size then some d else if G.g b = some l then some d else G.g b) = some q := hq
      split at hq'
      · rename_i he; subst he; exact ⟨fun ho => by have := ho.1; omega, by omega⟩
      · split at hq'
        · rename_i hc; have := hG.1 b l hc; exact ⟨this.1, by omega⟩
        · have := hG.1 b q hq'; exact ⟨this.1, by omega⟩
    · show (if 2000 = d then _ else G.r 2000) = _
      rw [if_neg (Ne.symm hd0)]; exact hG.2.1
    · have h2 := hG.2.2 b hb
      show (if b = w.heap.size then some d else if G.g b = some l then some d else G.g b) = some 2000
      rw [if_neg (by have := (hG.1 b _ h2).2; omega), if_neg (fun e => by rw [h2] at e; exact hl0 (Option.some.inj e).symm)]
      exact h2
  have hold : ∀ b, b < w.heap.size → w'.heap[b]? = w.heap[b]? := fun b hb => heap_alloc_old w _ hb
  have hbel : Stays C.old w w' := ⟨rfl, rfl, rfl, by simp [w'], fun k hk => hold k (Nat.lt_of_lt_of_le hk.1 hB), fun k hk => by rw [hold k hk]⟩
  have hE' : Env C (σ.kill l) a w' G' := by
    intro s y hy
    rcases kill_at hy with rfl | ⟨hy', hly⟩
    · trivial
    · refine Ok.keep hS.fp hbel y _ (fun q hq => ⟨?_, fun b hb' => ?_, fun b hb' => hold b (hG.1 b q hb').2⟩) (hE s y hy')
      · show (if q = d then _ else G.r q) = G.r q
        rw [if_neg (hfr' q (St.labels_at hy' q hq))]
      · show (if b = w.heap.size then some d else if G.g b = some l then some d else G.g b) = some q
        rw [if_neg (by have := (hG.1 b q hb').2; omega), if_neg (fun e => ?_)]
        · exact hb'
        · rw [hb'] at e; exact hly (Option.some.inj e ▸ hq)
  have hroot : G'.r d = w.heap.size := by show (if d = d then _ else _) = _; rw [if_pos rfl]
  have hin : ∀ b, G.g b = some l → G'.g b = some d ∧ b ≠ G'.r d := fun b hb' => by
    have hlt := (hG.1 b l hb').2
    refine ⟨?_, by rw [hroot]; omega⟩
    show (if b = w.heap.size then some d else if G.g b = some l then some d else G.g b) = some d
    rw [if_neg (by omega), if_pos hb']
  have hrow : w'.ownsRow 0 e 1 (.slice (some ⟨w.heap.size, 0, none⟩) 1 1) 1 [a.eval x] :=
    ⟨rfl, .inr ⟨w.heap.size, 1, #[a.eval x], rfl, Nat.zero_le _, heap_alloc_new w _, Nat.le_refl _, by simp [maxLen], rfl, rfl⟩⟩
  have hrep : Rep w' (G'.inn d) (.sl m cs) (a.eval x) := by
    have := own_rep (F := fun b => G.g b = some l) ho (fun b hv => (hb b hv).2) hr (fun b h => h.1)
    exact Rep.mono (fun b hb' => hin b hb') (fun b hb' => hold b (hG.1 b l hb').2) _ _ this
  have hok : Ok C w' G' (.own d e 1 1 [.sl m cs]) (.slice (some ⟨w.heap.size, 0, none⟩) 1 1) := by
    refine ⟨[a.eval x], hrow, fun b hv => ?_, ⟨_, _, rfl, rfl, hrep, rfl⟩⟩
    simp [Value.ownBlock] at hv
    subst hv
    refine ⟨hroot.symm, ?_⟩
    show (if w.heap.size = w.heap.size then some d else _) = _
    rw [if_pos rfl]
  refine hK' _ _ _ hK ?_
  have hS' : Sim n C (σ.kill l) a w' := ⟨hS.fp, hS.below.trans hbel, hS.dfs, hS.size, G', hG', hE'⟩
  exact hS'.put hG' hE' hd hok
end
end Go.Proofs.YtfagllolcalfiabDoor
