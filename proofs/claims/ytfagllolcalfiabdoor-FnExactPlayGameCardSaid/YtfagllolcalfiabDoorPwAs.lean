/- Nil slices that are known to be such; captured functions' values; interfaces that are nil or not; jumps back to a label. Own work; no conditions; nothing here is about one program. -/
import Derived.Test.YtfagllolcalfiabDoorPwAr
namespace Go.Proofs.YtfagllolcalfiabDoor
open Go.RowKit
set_option linter.unusedVariables false
set_option linter.unusedSimpArgs false
section
variable {P : Program} {n : Nat} {σ : St} {K : St → Prop} {d : Nat} {ty : TypeId} {pos : String} {af : Array Edge} {gd : Option (Nat × Bool)}
theorem imp_nil {s l e size : Nat} (h : σ.at s = some (.val (.cst 0)) ∨ σ.at s = some (.val (.sl 0 []))) : Imp n σ ((s, .own l e size 0 []) :: σ) := by
  intro C a w hS
  obtain ⟨G, hG, hE⟩ := hS.gh
  refine ⟨hS.fp, hS.below, hS.dfs, hS.size, G, hG, fun t x hx => ?_⟩
  simp only [St.at] at hx
  split at hx
  · rename_i he
    subst he
    cases hx
    have hv : a.tmps.getD s undef = .slice none 0 0 := by
      rcases h with h | h
      · have := hE _ _ h; simp only [Ok, Rep, cstV] at this; exact this
      · have := hE _ _ h
        simp only [Ok, Rep] at this
        rcases this with ⟨hv, _⟩ | ⟨b, _, _, _, _, hf, _⟩
        · exact hv
        · exact hf.elim
    rw [hv]
    exact ⟨[], World.ownsRow_nil _ _ _ _, fun b hb => by simp [Value.ownBlock] at hb, rfl⟩
  · exact hE t x hx
def SV.reLs (ls : List Nat) (d : Nat) : SV → SV
  | .bor l p => if ls.contains l then .bor d p else .bor l p
  | x => if ls.any (fun l => x.labels.contains l) then .dead else x
def St.reLs (ls : List Nat) (d : Nat) (σ : St) : St := σ.map fun e => (e.1, e.2.reLs ls d)
theorem reLs_at {ls : List Nat} {d : Nat} : ∀ {σ : St} {s : Nat} {x : SV}, (σ.reLs ls d).at s = some x → ∃ y, σ.at s = some y ∧ x = y.reLs ls d
  | [], s, x, h => by simp [St.reLs, St.at] at h
  | (t, y) :: r, s, x, h => by
    simp only [St.reLs, List.map_cons, St.at] at h ⊢
    split at h
    · rename_i he
      subst he
      simp only [Option.some.injEq] at h
      exact ⟨y, by simp, h.symm⟩
    · rename_i hne
      rw [if_neg hne]
      exact reLs_at (σ := r) h
theorem op_makeFuncC {f : FuncId} {xs : List Operand} {ss : List SV} {bs : List (Nat × List PV)} (hxs : σ.evs xs = some ss) (hbs : boxesAny ss = some bs) (h2 : (bs.map (·.1)).contains 2000 = false) (hd : d < n) (hd0 : d ≠ 2000) (hfr : σ.labels.all (· != d) = true)
    (hK : K ((d, .bor d (.clo f (bs.map fun b => .ptr b.2))) :: σ.reLs (bs.map (·.1)) d)) : opT P n ⟨some d, .makeFunc (.func f) #[] xs.toArray, ty, pos, af, gd⟩ σ K := by
  intro C a w hS K' Q hK'
  obtain ⟨G, hG, hE⟩ := hS.gh
  have hfr' : ∀ q ∈ σ.labels, q ≠ d := by simpa using hfr
  let ls := bs.map (·.1)
  let G' : Gh := ⟨fun b => match G.g b with | some m => if ls.contains m then some d else some m | none => none, G.r⟩
  have hop : (execOp a.eval ⟨some d, .makeFunc (.func f) #[] xs.toArray, ty, pos, af, gd⟩).run P w = .ok (.value (.func (.func f) #[] (xs.map a.eval).toArray)) w := by
    simp [execOp, Instr.makeFunc]
  unfold Oper.wp
  rw [hop, Oper.upon_value]
  have hin : ∀ b q, G.g b = some q → q ∈ ls → G'.g b = some d := fun b q hb hq => by
    show (match G.g b with | some m => if ls.contains m then some d else some m | none => none) = some d
    rw [hb]; simp [hq]
  have hout : ∀ b q, G.g b = some q → q ∉ ls → G'.g b = some q := fun b q hb hq => by
    show (match G.g b with | some m => if ls.contains m then some d else some m | none => none) = some q
    rw [hb]; simp [hq]
  have hinv : ∀ b q, G'.g b = some q → ∃ q', G.g b = some q' := fun b q hb => by
    have hb' : (match G.g b with | some m => if ls.contains m then some d else some m | none => none) = some q := hb
    cases hgb : G.g b with
    | none => rw [hgb] at hb'; cases hb'
    | some m => exact ⟨m, rfl⟩
  have hG' : G'.fits C w := ⟨fun b q hb => let ⟨q', h⟩ := hinv b q hb; hG.1 b q' h, hG.2.1, fun b hb => hout b 2000 (hG.2.2 b hb) (by simpa [ls] using h2)⟩
  have hkeep : ∀ (s : Nat) (y : SV), σ.at s = some y → (∀ l ∈ ls, l ∉ y.labels) → Ok C w G' y (a.tmps.getD s undef) := fun s y hy hl =>
    Ok.keep (G := G) (G' := G') hS.fp (Stays.refl _ _) y _ (fun q hq => ⟨rfl, fun b hb => hout b q hb (fun hm => hl q hm hq), fun _ _ => rfl⟩) (hE s y hy)
  have hE' : Env C (σ.reLs ls d) a w G' := fun s x hx => by
    obtain ⟨y, hy, rfl⟩ := reLs_at hx
    have key : Ok C w G' (if ls.any (fun l => y.labels.contains l) then .dead else y) (a.tmps.getD s undef) := by
      split
      · trivial
      · rename_i hn
        refine hkeep s y hy (fun l hl hm => hn ?_)
        exact List.any_eq_true.2 ⟨l, hl, by simpa using hm⟩
    cases y with
    | bor l p =>
      show Ok C w G' (if ls.contains l then .bor d p else .bor l p) _
      have h0 : Rep w (G.see C l) p (a.tmps.getD s undef) := hE s _ hy
      split
      · rename_i hl
        exact Rep.mono (fun b hb => hb.imp (fun h => hin b l h (by simpa using hl)) id) (fun _ _ => rfl) p _ h0
      · rename_i hl
        refine Rep.mono (fun b hb => hb.imp (fun h => hout b l h (by simpa using hl)) id) (fun _ _ => rfl) p _ h0
    | _ => exact key
  have hok : Ok C w G' (.bor d (.clo f (bs.map fun b => .ptr b.2))) (.func (.func f) #[] (xs.map a.eval).toArray) := by
    refine ⟨_, rfl, boxesAny_rep (G := G) hbs (evs_okL hE hxs) (fun b hb k hk => .inl (hin k b.1 hk (List.mem_map.2 ⟨b, hb, rfl⟩))) (fun k hk => .inr hk)⟩
  have hS' : Sim n C (σ.reLs ls d) a w := ⟨hS.fp, hS.below, hS.dfs, hS.size, G', hG', hE'⟩
  exact hK' _ _ _ hK (hS'.put hG' hE' hd hok)
theorem op_eqnil {t t' e : TypeId} (ht : P.underlying t = some (.slice e)) {x : Operand} {s : SV} {m : Nat} {cs : List PV} (hx : σ.ev x = some s) (hs : s.pv = some (.sl m cs)) (hd : d < n)
    (h1 : m = 0 → cs = [] → K ((d, .val (.bool true)) :: σ)) (h2 : K ((d, .val (.bool false)) :: σ)) : opT P n ⟨some d, .binOp .eql t x (.const (.slice none 0 0)) t', ty, pos, af, gd⟩ σ K := by
  intro C a w hS K' Q hK'
  obtain ⟨G, hG, hE⟩ := hS.gh
  have hr := (hE.ev hx).rep hs
  simp only [Rep] at hr
  have run : ∀ b : Bool, ((a.eval x = .slice none 0 0 ∧ b = true) ∨ ((∃ q off cap, a.eval x = .slice (some ⟨q, off, none⟩) m cap) ∧ b = false)) → (execOp a.eval ⟨some d, .binOp .eql t x (.const (.slice none 0 0)) t', ty, pos, af, gd⟩).run P w = .ok (.value (.bool b)) w := fun b hb => by
    have k0 : ∀ d : Nat, (Op.equalIn (d + 1) t (a.eval x) (.slice none 0 0)).run P w = .ok b w := fun d => by
      rcases hb with ⟨hv, rfl⟩ | ⟨⟨q, off, cap, hv⟩, rfl⟩ <;> rw [hv] <;> simp [Op.equalIn, run_underlying ht]
    have k : (Op.equal t (a.eval x) (.slice none 0 0)).run P w = .ok b w := k0 9999
    have hc : a.eval (.const (.slice none 0 0)) = .slice none 0 0 := rfl
    rcases hb with ⟨hv, rfl⟩ | ⟨⟨q, off, cap, hv⟩, rfl⟩ <;> rw [hv] at k <;> simp [execOp, eqGuard, hv, hc, binOp, k]
  rcases hr with ⟨hv, hm, hc⟩ | ⟨b, off, cap, vs, hv, hb, _⟩
  · unfold Oper.wp
    rw [run true (.inl ⟨hv, rfl⟩), Oper.upon_value]
    exact hK' _ _ _ (h1 hm hc) (hS.put hG hE hd rfl)
  · unfold Oper.wp
    rw [run false (.inr ⟨⟨b, off, cap, hv⟩, rfl⟩), Oper.upon_value]
    exact hK' _ _ _ h2 (hS.put hG hE hd rfl)
end
/-! ### Jumps back -/
section
variable {P : Program} {n : Nat} {σ : St} {Q : Exit → St → Prop}
def JumpS (l : Nat) (J : St → Prop) (Q : Exit → St → Prop) : Exit → St → Prop
  | .goto l', s => l' = l ∧ J s
  | e, s => Q e s
theorem code_scope_goto {X : Type} {c rest : Code} (l : Nat) (mk : X → St) (I : X → Prop) (μ : X → Nat) (hf : findLabel c l = some rest) (hd : (cdsts rest).all (fun s => (cdsts c).contains s) = true) (hrf : rfFree rest = rfFree c)
    (first : codeT P n c σ (JumpS l (fun s => ∃ x, Imp n s (mk x) ∧ I x) Q))
    (pass : ∀ x, I x → codeT P n rest (mk x) (JumpS l (fun s => ∃ x', Imp n s (mk x') ∧ I x' ∧ μ x' < μ x) Q)) : codeT P n (.scope c) σ Q := by
  have hdm : ∀ s, s ∈ cdsts rest → s ∈ cdsts c := fun s hs => by
    have := List.all_eq_true.1 hd s hs
    simpa using this
  have hg : ∀ k : List Item, gotoIn l (.inScope c :: k) = some (.code rest :: .inScope c :: k) := fun k => by simp [gotoIn, hf]
  have key : ∀ (m : Nat) x, μ x = m → I x → ∀ C a w, Sim n C (mk x) a w → ∀ N (b : Frame) (k : List Item) (cs : List Frame), b.roundOf = (RF C.ro).round → (RF C.ro).fn b.fn → (RF C.ro).room (cs.length + 1 + N) →
      ∃ e a' w', codePost n C (.scope c) Q a e a' w' ∧ ArrivesIn (Machine.fenced P (RF C.ro)) P (lone (b.atR a (.code rest :: .inScope c :: k)) cs w) b k cs e a' w' := by
    intro m
    induction m using Nat.strongRecOn with
    | _ m ih =>
      intro x hm hx C a w hS N b k cs hro hb hr
      obtain ⟨e, a₁, w₁, ⟨C₁, σ₁, h0, hq, hS₁, hk, hD⟩, harr⟩ := pass x hx C a w hS N b (.inScope c :: k) cs hro hb hr
      have hk' : KeptS (cdsts (.scope c)) a a₁ := hk.mono hdm
      have hD' : rfFree (.scope c) = true → C₁.D = C.D := fun h => hD (by rw [hrf]; exact h)
      cases e with
      | normal => exact ⟨.normal, a₁, w₁, ⟨C₁, σ₁, h0, hq, hS₁, hk', hD'⟩, StepsIn.trans harr (.one (fenced_calm hb hr rfl) stepR_inScope)⟩
      | exit id => exact ⟨.exit id, a₁, w₁, ⟨C₁, σ₁, h0, hq, hS₁, hk', hD'⟩, fun k' hkk => harr.1 k' (by simp [exitTo, hkk]), fun hr' hkk => harr.2 hr' (by simp [exitTo, hkk])⟩
      | goto l' =>
        obtain ⟨rfl, x', hge, hx', hlt⟩ := hq
        obtain ⟨e₂, a₂, w₂, ⟨C₂, σ₂, k0, k1, k2, kk, kD⟩, harr₂⟩ := ih (μ x') (hm ▸ hlt) x' rfl hx' C₁ a₁ w₁ (hge C₁ a₁ w₁ hS₁) N b k cs (by rw [h0.ro]; exact hro) trivial (by rw [h0.ro]; exact hr)
        rw [h0.ro] at harr₂
        exact ⟨e₂, a₂, w₂, ⟨C₂, σ₂, h0.trans k0, k1, k2, hk'.trans kk, fun h => (kD h).trans (hD' h)⟩, .of_steps (harr.1 _ (hg k)) harr₂⟩
      | ret => exact ⟨_, a₁, w₁, ⟨C₁, σ₁, h0, hq, hS₁, hk', hD'⟩, harr⟩
      | panic ch => exact ⟨_, a₁, w₁, ⟨C₁, σ₁, h0, hq, hS₁, hk', hD'⟩, harr⟩
      | outgrown => exact ⟨_, a₁, w₁, ⟨C₁, σ₁, h0, hq, hS₁, hk', hD'⟩, harr⟩
  intro C a w hS N b k cs hro hb hr
  have hs0 : (lone (b.atR a (.code (.scope c) :: k)) cs w).fenced P (RF C.ro) := fenced_calm hb hr rfl
  obtain ⟨e, a₁, w₁, ⟨C₁, σ₁, h0, hq, hS₁, hk, hD⟩, harr⟩ := first C a w hS N b (.inScope c :: k) cs hro hb hr
  cases e with
  | normal => exact ⟨.normal, a₁, w₁, ⟨C₁, σ₁, h0, hq, hS₁, hk, hD⟩, .head hs0 stepR_scope (StepsIn.trans harr (.one (fenced_calm hb hr rfl) stepR_inScope))⟩
  | exit id => exact ⟨.exit id, a₁, w₁, ⟨C₁, σ₁, h0, hq, hS₁, hk, hD⟩, fun k' hkk => .head hs0 stepR_scope (harr.1 k' (by simp [exitTo, hkk])), fun hr' hkk => let ⟨k₁, h1, h2⟩ := harr.2 hr' (by simp [exitTo, hkk]); ⟨k₁, h1, .head hs0 stepR_scope h2⟩⟩
  | goto l' =>
    obtain ⟨rfl, x, hge, hx⟩ := hq
    obtain ⟨e₂, a₂, w₂, ⟨C₂, σ₂, k0, k1, k2, kk, kD⟩, harr₂⟩ := key _ x rfl hx C₁ a₁ w₁ (hge C₁ a₁ w₁ hS₁) N b k cs (by rw [h0.ro]; exact hro) trivial (by rw [h0.ro]; exact hr)
    rw [h0.ro] at harr₂
    exact ⟨e₂, a₂, w₂, ⟨C₂, σ₂, h0.trans k0, k1, k2, hk.trans kk, fun h => (kD h).trans (hD h)⟩, .of_steps (.head hs0 stepR_scope (harr.1 _ (hg k))) harr₂⟩
  | ret => exact ⟨_, a₁, w₁, ⟨C₁, σ₁, h0, hq, hS₁, hk, hD⟩, .of_steps (.one hs0 stepR_scope) harr⟩
  | panic ch => exact ⟨_, a₁, w₁, ⟨C₁, σ₁, h0, hq, hS₁, hk, hD⟩, .of_steps (.one hs0 stepR_scope) harr⟩
  | outgrown => exact ⟨_, a₁, w₁, ⟨C₁, σ₁, h0, hq, hS₁, hk, hD⟩, .of_steps (.one hs0 stepR_scope) harr⟩
theorem code_goto {l : Nat} (h : Q (.goto l) σ) : codeT P n (.goto l) σ Q := fun C a _ hS _ => wpIn_goto ⟨C, σ, Ctx.ext.refl C, h, hS, KeptS.refl _ a, fun _ => rfl⟩
theorem then_g {K : St → Prop} {l : Nat} (h : Q (.goto l) σ) : Then K Q (.goto l) σ := h
theorem jp_r {l : Nat} {J : St → Prop} (h : Q .ret σ) : JumpS l J Q .ret σ := h
theorem jp_g {l : Nat} {J : St → Prop} (h : J σ) : JumpS l J Q (.goto l) σ := ⟨rfl, h⟩
end
end Go.Proofs.YtfagllolcalfiabDoor
