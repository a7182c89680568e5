/- Slices of variables that are arrays, handed on to functions that write to them. Own work; no conditions; nothing here is about one program. -/
import Derived.Test.YtfagllolcalfiaaDoorPwVx
namespace Go.Proofs.YtfagllolcalfiaaDoor
open Go.RowKit
set_option linter.unusedVariables false
set_option linter.unusedSimpArgs false

section
variable {P : Program} {n : Nat} {σ : St} {K : St → Prop} {d : Nat} {ty : TypeId} {pos : String} {af : Array Edge} {gd : Option (Nat × Bool)}

/-- A slice of a variable that is an array, with the variable's cells; of the variable itself its address is left. -/
theorem imp_vbox {n : Nat} {σ : St} {h x l T off m : Nat} {cs : List PV} (hh : σ.at h = some (.box l T cs)) (hx : σ.at x = some (.view l off m)) : Imp n σ ((x, .vbox l T off m cs) :: (h, .adr l 0) :: σ) := by
  intro C a w hS
  obtain ⟨G, hG, hE⟩ := hS.gh
  refine ⟨hS.fp, hS.below, hS.dfs, hS.size, G, hG, fun t z hz => ?_⟩
  obtain ⟨vs, hv, hg, hhb, hr⟩ := hE h _ hh
  obtain ⟨off', cap, hxv, hmc, ho⟩ := hE x _ hx
  simp only [St.at] at hz
  split at hz
  · rename_i he; subst he
    simp only [Option.some.injEq] at hz; subst hz
    exact ⟨off', cap, vs, hxv, hmc, ho, hg, hhb, hr⟩
  · split at hz
    · rename_i he; subst he
      simp only [Option.some.injEq] at hz; subst hz
      exact hv
    · exact hE t z hz

/-- Back to the variable. -/
theorem imp_unvbox {n : Nat} {σ : St} {h x l T off m : Nat} {cs : List PV} (hh : σ.at h = some (.adr l 0)) (hx : σ.at x = some (.vbox l T off m cs)) : Imp n σ ((x, .dead) :: (h, .box l T cs) :: σ) := by
  intro C a w hS
  obtain ⟨G, hG, hE⟩ := hS.gh
  refine ⟨hS.fp, hS.below, hS.dfs, hS.size, G, hG, fun t z hz => ?_⟩
  have hv := hE h _ hh
  obtain ⟨off', cap, vs, hxv, hmc, ho, hg, hhb, hr⟩ := hE x _ hx
  simp only [St.at] at hz
  split at hz
  · simp only [Option.some.injEq] at hz; subst hz; trivial
  · split at hz
    · rename_i he; subst he
      simp only [Option.some.injEq] at hz; subst hz
      exact ⟨vs, hv, hg, hhb, hr⟩
    · exact hE t z hz

theorem q_indexAddr_vb {t e bytes : Nat} {zc : List PV} (hty : SlTy P t e 1 bytes zc) {x y : Operand} {l T off m : Nat} {cs : List PV} {k : IntKind} {i : Int} (hx : σ.ev x = some (.vbox l T off m cs)) (hy : σ.ev y = some (.val (.int k i)))
    (h0 : 0 ≤ i) (h1 : i < m) (hd : d < n) : quietT P n ⟨some d, .indexAddr t x y, ty, pos, af, gd⟩ σ d (.adr l (off + i.toNat)) := by
  refine ⟨rfl, hd, fun C a w G hS hG hE => ?_⟩
  obtain ⟨g1, ii, z, g2, g3, g4, _⟩ := hty
  obtain ⟨off', cap, vs, hv, hmc, ho, hg, hh, hr⟩ := hE.ev hx
  have e2 := hE.ev hy
  simp only [Ok, Rep] at e2
  have ho' := ho (by omega)
  subst ho'
  have hlt : i.toNat < m := by omega
  refine ⟨.pointer (some ⟨G.r l, off' + i.toNat, none⟩), fun w2 _ => ?_, rfl⟩
  have hc : 0 ≤ i ∧ i < (m : Int) := ⟨h0, h1⟩
  simp [execOp, hv, e2, Instr.indexAt, run_underlying g1, asIntOf, hc, sizeOf, typeInfo, g2, g4, Addr.add_lit]

theorem q_len_vb {t e : Nat} (hty : P.underlying t = some (.slice e)) {x : Operand} {l T off m : Nat} {cs : List PV} (hx : σ.ev x = some (.vbox l T off m cs)) (hd : d < n) :
    quietT P n ⟨some d, .call { callee := .builtin .len, args := #[x], argTypes := #[t] }, ty, pos, af, gd⟩ σ d (.val (.int .i64 m)) := by
  refine ⟨rfl, hd, fun C a w G hS hG hE => ?_⟩
  obtain ⟨off', cap, vs, hv, hmc, ho, hg, hh, hr⟩ := hE.ev hx
  refine ⟨.int .i64 m, fun w2 _ => ?_, by simp [Ok, Rep]⟩
  simp [execOp, resolve, invoke, builtin, hv, Builtin.len_, run_underlying hty, goInt]
end

/-- A write, in a drawn region, through an address into a row whose one handle is the slot h. -/
theorem post_updA {σ : St} {h l L : Nat} {s : SV} {cs : List PV} (ads : List Nat) (hh : σ.at h = some s) (ha : ∀ a ∈ ads, ∃ o, σ.at a = some (.adr l o)) (hl : Nat.beq (l % 1000) L = true) (hf : frh L (h :: ads) σ) : Post [(h, s.upd cs)] σ (σ.upd [h] l cs) := by
  refine ⟨fun t => ?_, fun k hk => .inl (upd_labels σ k hk)⟩
  rw [at_one, upd_at_eq]
  by_cases ht : h = t
  · subst ht; rw [hh, if_pos rfl]; simp
  · rw [if_neg ht, Option.none_or]
    have h4 : ([h].contains t) = false := by simpa using fun k : t = h => ht k.symm
    by_cases hm : t ∈ ads
    · obtain ⟨o, ho⟩ := ha t hm
      rw [ho]
      simp only [Option.map_some, h4]
      rfl
    · cases e : σ.at t with
      | none => rfl
      | some y =>
        have h1 := List.all_eq_true.1 (hf t y (by simp only [List.mem_cons, not_or]; exact ⟨fun k => ht k.symm, hm⟩) e)
        have h2 : y.labels.contains l = false := by
          cases hc : y.labels.contains l with
          | false => rfl
          | true =>
            have h3 := h1 l (by simpa using hc)
            rw [Nat.eq_of_beq_eq_true hl] at h3
            simp at h3
        simp only [Option.map_some, h4, h2]
        simp

section
variable {P : Program} {n : Nat} {σ : St} {K : St → Prop} {d : Nat} {ty : TypeId} {pos : String} {af : Array Edge} {gd : Option (Nat × Bool)}

/-- A slice of one slice that the call has made: what was its own is now inside, under the same label. -/
theorem op_buildSlice_ownL {t e bytes : Nat} {zc : List PV} (hty : SlTy P t e 1 bytes zc) {x : Operand} {l e' s' m : Nat} {cs : List PV} (hx : σ.ev x = some (.own l e' s' m cs)) (hd : d < n) (hl0 : l ≠ 2000)
    (hK : K ((d, .own l e 1 1 [.sl m cs]) :: σ.kill l)) : opT P n ⟨some d, .buildSlice t 1 #[(0, x)], ty, pos, af, gd⟩ σ K := by
  intro C a w hS K' Q hK'
  obtain ⟨G, hG, hE⟩ := hS.gh
  obtain ⟨h1, i, z, h2, h3, h4, h5, h6, h7, h8, h9⟩ := hty
  have hB : C.B ≤ w.heap.size := hS.below.size
  have hl : l ∈ σ.labels := by
    cases x with
    | tmp s => exact St.labels_at (σ := σ) (s := s) hx l (by simp [SV.labels])
    | const c => obtain ⟨p, _, hp⟩ := Option.map_eq_some_iff.1 hx; simp at hp
    | func f => simp [St.ev] at hx
    | global g => simp [St.ev] at hx
  obtain ⟨vs, ho, hb, hr⟩ := hE.ev hx
  have hone : (a.eval x).cells = #[a.eval x] := by
    rcases ho.2 with ⟨hv, _⟩ | ⟨g, cap, cur, hv, _⟩ <;> rw [hv] <;> rfl
  let w' := w.alloc (.cells #[a.eval x] e)
  have hop : (execOp a.eval ⟨some d, .buildSlice t 1 #[(0, x)], ty, pos, af, gd⟩).run P w = .ok (.value (.slice (some ⟨w.heap.size, 0, none⟩) 1 1)) w' := by
    have h1r : ∀ f : Nat → Value, (Array.map f (Array.range 1)).setIfInBounds 0 (a.eval x) = #[a.eval x] := fun f => by
      apply Array.ext'
      simp [Array.toList_range, List.range_succ]
    simp [execOp, Instr.buildSlice, run_underlying h1, sizeOf, typeInfo, h2, h4, zeroValue, h3, newRow, w', Instr.fill, hone, h1r]
  unfold Oper.wp
  rw [hop, Oper.upon_value]
  let G' : Gh := ⟨fun b => if b = w.heap.size then some l else G.g b, fun q => if q = l then w.heap.size else G.r q⟩
  have hG' : G'.fits C w' := by
    have hsz : w'.heap.size = w.heap.size + 1 := by simp [w']
    refine ⟨fun b q hq => ?_, ?_, fun b hb => ?_⟩
    · have hq' : (if b = w.heap.size then some l else G.g b) = some q := hq
      split at hq'
      · rename_i he; subst he; exact ⟨fun ho => by have := ho.1; omega, by omega⟩
      · have := hG.1 b q hq'; exact ⟨this.1, by omega⟩
    · show (if 2000 = l then _ else G.r 2000) = _
      rw [if_neg (Ne.symm hl0)]; exact hG.2.1
    · have h2 := hG.2.2 b hb
      show (if b = w.heap.size then some l else G.g b) = some 2000
      rw [if_neg (by have := (hG.1 b _ h2).2; omega)]
      exact h2
  have hold : ∀ b, b < w.heap.size → w'.heap[b]? = w.heap[b]? := fun b hb => heap_alloc_old w _ hb
  have hbel : Stays C.old w w' := ⟨rfl, rfl, rfl, by simp [w'], fun k hk => hold k (Nat.lt_of_lt_of_le hk.1 hB), fun k hk => by rw [hold k hk]⟩
  have hE' : Env C (σ.kill l) a w' G' := by
    intro s y hy
    rcases kill_at hy with rfl | ⟨hy', hly⟩
    · trivial
    · refine Ok.keep hS.fp hbel y _ (fun q hq => ⟨?_, fun b hb' => ?_, fun b hb' => hold b (hG.1 b q hb').2⟩) (hE s y hy')
      · show (if q = l then _ else G.r q) = G.r q
        rw [if_neg (fun e => hly (by rw [← e]; exact hq))]
      · show (if b = w.heap.size then some l else G.g b) = some q
        rw [if_neg (by have := (hG.1 b q hb').2; omega)]
        exact hb'
  have hroot : G'.r l = w.heap.size := by show (if l = l then _ else _) = _; rw [if_pos rfl]
  have hin : ∀ b, G.g b = some l → G'.g b = some l ∧ b ≠ G'.r l := fun b hb' => by
    have hlt := (hG.1 b l hb').2
    refine ⟨?_, by rw [hroot]; omega⟩
    show (if b = w.heap.size then some l else G.g b) = some l
    rw [if_neg (by omega)]; exact hb'
  have hrow : w'.ownsRow 0 e 1 (.slice (some ⟨w.heap.size, 0, none⟩) 1 1) 1 [a.eval x] :=
    ⟨rfl, .inr ⟨w.heap.size, 1, #[a.eval x], rfl, Nat.zero_le _, heap_alloc_new w _, Nat.le_refl _, by simp [maxLen], rfl, rfl⟩⟩
  have hrep : Rep w' (G'.inn l) (.sl m cs) (a.eval x) := by
    have := own_rep (F := fun b => G.g b = some l) ho (fun b hv => (hb b hv).2) hr (fun b h => h.1)
    exact Rep.mono (fun b hb' => hin b hb') (fun b hb' => hold b (hG.1 b l hb').2) _ _ this
  have hok : Ok C w' G' (.own l e 1 1 [.sl m cs]) (.slice (some ⟨w.heap.size, 0, none⟩) 1 1) := by
    refine ⟨[a.eval x], hrow, fun b hv => ?_, ⟨_, _, rfl, rfl, hrep, rfl⟩⟩
    simp [Value.ownBlock] at hv
    subst hv
    refine ⟨hroot.symm, ?_⟩
    show (if w.heap.size = w.heap.size then some l else _) = _
    rw [if_pos rfl]
  refine hK' _ _ _ hK ?_
  have hS' : Sim n C (σ.kill l) a w' := ⟨hS.fp, hS.below.trans hbel, hS.dfs, hS.size, G', hG', hE'⟩
  exact hS'.put hG' hE' hd hok
end
end Go.Proofs.YtfagllolcalfiaaDoor
