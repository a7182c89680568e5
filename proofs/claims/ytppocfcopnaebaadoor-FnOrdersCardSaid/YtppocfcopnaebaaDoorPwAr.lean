/- Calls of functions' values; functions' values that have captured what reaches memory; arrays of rows; copy. Own work; no conditions; nothing here is about one program. -/
import Derived.Test.YtppocfcopnaebaaDoorPwRg
import Derived.Laws.IdiomCopy
import Derived.Laws.CopyRow
namespace Go.Proofs.YtppocfcopnaebaaDoor
open Go.RowKit
set_option linter.unusedVariables false
set_option linter.unusedSimpArgs false
section
variable {P : Program} {n : Nat} {σ : St} {K : St → Prop} {d : Nat} {ty : TypeId} {pos : String} {af : Array Edge} {gd : Option (Nat × Bool)}
/-! ### Functions' values that have captured what reaches memory -/
def boxesAny : List SV → Option (List (Nat × List PV))
  | [] => some []
  | .box l _ cs :: r => match boxesAny r with
    | some bs => some ((l, cs) :: bs)
    | none => none
  | _ => none
theorem boxesAny_rep {C : Ctx} {w : World} {G : Gh} {F : Nat → Prop} : ∀ {ss : List SV} {bs : List (Nat × List PV)} {vs : List Value}, boxesAny ss = some bs → OkL C w G ss vs → (∀ b ∈ bs, ∀ k, G.g k = some b.1 → F k) → (∀ k, C.ex k → F k) → RepL w F (bs.map fun b => .ptr b.2) vs
  | [], bs, vs, h, hk, hF, hX => by simp only [boxesAny, Option.some.injEq] at h; subst h; simpa [OkL, RepL] using hk
  | s :: ss, bs, vs, h, hk, hF, hX => by
    cases s <;> simp only [boxesAny, reduceCtorEq] at h
    rename_i l e cs
    split at h
    · rename_i bs' hb
      simp only [Option.some.injEq] at h; subst h
      obtain ⟨v, r, rfl, h1, h2⟩ := hk
      obtain ⟨us, hv, hg, hh, hr⟩ := h1
      refine ⟨v, r, rfl, rfl, ?_, boxesAny_rep hb h2 (fun b hm => hF b (List.mem_cons_of_mem _ hm)) hX⟩
      refine ⟨G.r l, 0, us, hv, hF (l, cs) List.mem_cons_self _ hg, fun j u hu => ?_, RepL.mono (fun b hb => hb.elim (fun h => hF (l, cs) List.mem_cons_self _ h.1) (hX b)) (fun _ _ => rfl) cs us hr⟩
      rw [cell_of_row w _ (0 + j) _ e (0, 0) hh]; simpa using hu
    · cases h
/-! ### Arrays of rows -/
def SV.isR (l : Nat) : SV → Bool
  | .boxR l' _ _ _ _ => Nat.beq l' l
  | _ => false
def St.setR (l : Nat) (y : SV) (σ : St) : St := σ.map fun e => (e.1, bif e.2.isR l then y else bif e.2.isAdr then e.2 else bif e.2.labels.contains l then .dead else e.2)
theorem setR_at {l : Nat} {y : SV} : ∀ {σ : St} {s : Nat} {x : SV}, (σ.setR l y).at s = some x → (x = y ∧ ∃ t e k es, σ.at s = some (.boxR l t e k es)) ∨ x = .dead ∨ ((∃ q o, x = .adr q o) ∧ σ.at s = some x) ∨ (σ.at s = some x ∧ l ∉ x.labels)
  | [], s, x, hx => by simp [St.setR, St.at] at hx
  | (t, z) :: r, s, x, hx => by
    simp only [St.setR, List.map_cons, St.at] at hx ⊢
    split at hx
    · rename_i he; subst he
      simp only [Option.some.injEq] at hx
      cases hb : z.isR l with
      | true =>
        rw [hb] at hx
        refine .inl ⟨hx.symm, ?_⟩
        cases z with
        | boxR l' t e k es =>
          simp only [SV.isR] at hb
          obtain rfl := Nat.eq_of_beq_eq_true hb
          exact ⟨t, e, k, es, by simp⟩
        | _ => simp [SV.isR] at hb
      | false =>
        rw [hb] at hx
        cases ha : z.isAdr with
        | true =>
          rw [ha] at hx
          simp only [cond_false, cond_true] at hx
          subst hx
          refine .inr (.inr (.inl ⟨?_, by simp⟩))
          cases z with
          | adr q o => exact ⟨q, o, rfl⟩
          | _ => simp [SV.isAdr] at ha
        | false =>
          rw [ha] at hx
          cases hc : z.labels.contains l with
          | true => rw [hc] at hx; exact .inr (.inl hx.symm)
          | false =>
            rw [hc] at hx
            simp only [cond_false] at hx
            subst hx
            exact .inr (.inr (.inr ⟨by simp, by simpa using hc⟩))
    · rename_i hne
      rw [if_neg hne]
      exact setR_at (σ := r) hx
theorem RepS.drop {w : World} {G : Gh} {l e size : Nat} {es : List (Option (Nat × List PV))} {xs : List Value} (h : RepS w G l e size es xs) (i : Nat) : RepS w G l e size (es.set i none) xs := by
  have at_ : ∀ j p, (es.set i none)[j]? = some (some p) → j ≠ i ∧ es[j]? = some (some p) := by
    intro j p hj
    by_cases e : j = i
    · subst e
      have hil := (List.getElem?_eq_some_iff.1 hj).1
      rw [List.length_set] at hil
      rw [List.getElem?_set_self hil] at hj; cases hj
    · rw [List.getElem?_set_ne (Ne.symm e)] at hj; exact ⟨e, hj⟩
  exact ⟨by rw [h.len, List.length_set], h.one, fun j n cs x h1 h2 => h.row j n cs x (at_ j _ h1).2 h2, fun j j' o o' x y b hne h1 h2 h3 h4 h5 => h.apart j j' o o' x y b hne (at_ j _ h1).2 (at_ j' _ h2).2 h3 h4 h5⟩
theorem RepS.set {w : World} {G : Gh} {l e size : Nat} {es : List (Option (Nat × List PV))} {xs : List Value} (h : RepS w G l e size es xs) {i : Nat} {n : Nat} {cs : List PV} {x : Value} (hi : i < es.length) (h1x : x.oneCell' = true) (hr : RowS w G l e size n cs x)
    (ha : ∀ (j : Nat) o' y b, j ≠ i → es[j]? = some (some o') → xs[j]? = some y → x.ownBlock = some b → y.ownBlock ≠ some b) : RepS w G l e size (es.set i (some (n, cs))) (xs.set i x) := by
  have hxi : i < xs.length := by rw [h.len]; exact hi
  have at_ : ∀ j p, (es.set i (some (n, cs)))[j]? = some p → (j = i ∧ p = some (n, cs)) ∨ (j ≠ i ∧ es[j]? = some p) := by
    intro j p hj
    by_cases e : j = i
    · subst e; rw [List.getElem?_set_self hi] at hj; exact .inl ⟨rfl, (Option.some.inj hj).symm⟩
    · rw [List.getElem?_set_ne (Ne.symm e)] at hj; exact .inr ⟨e, hj⟩
  have xat : ∀ j y, (xs.set i x)[j]? = some y → (j = i → y = x) ∧ (j ≠ i → xs[j]? = some y) := by
    intro j y hj
    refine ⟨fun e => ?_, fun e => ?_⟩
    · subst e; rw [List.getElem?_set_self hxi] at hj; exact (Option.some.inj hj).symm
    · rwa [List.getElem?_set_ne (Ne.symm e)] at hj
  refine ⟨by rw [List.length_set, h.len, List.length_set], fun y hy => ?_, fun j n' cs' y h1 h2 => ?_, fun j j' o1 o2 y1 y2 b hne h1 h2 h3 h4 h5 => ?_⟩
  · rcases List.mem_or_eq_of_mem_set hy with h1 | h1
    · exact h.one y h1
    · rw [h1]; exact h1x
  · rcases at_ j _ h1 with ⟨e, hp⟩ | ⟨e, hp⟩
    · cases hp; obtain rfl := (xat j y h2).1 e; exact hr
    · exact h.row j n' cs' y hp ((xat j y h2).2 e)
  · rcases at_ j _ h1 with ⟨e, hp⟩ | ⟨e, hp⟩
    · obtain rfl := (xat j y1 h3).1 e
      rcases at_ j' _ h2 with ⟨e', hq⟩ | ⟨e', hq⟩
      · exact absurd (e.trans e'.symm) hne
      · exact ha j' o2 y2 b e' hq ((xat j' y2 h4).2 e') h5
    · rcases at_ j' _ h2 with ⟨e', hq⟩ | ⟨e', hq⟩
      · obtain rfl := (xat j' y2 h4).1 e'
        exact fun h6 => ha j o1 y1 b e hp ((xat j y1 h3).2 e) h6 h5
      · exact h.apart j j' o1 o2 y1 y2 b hne hp hq ((xat j y1 h3).2 e) ((xat j' y2 h4).2 e') h5
theorem op_boxR {t : TypeId} {x : Operand} {q e size m : Nat} {cs : List PV} (hx : σ.ev x = some (.own q e size m cs)) (hp : PV.flatL cs = true) (hq0 : q ≠ 2000) (hd : d < n) (hd0 : d ≠ 2000) (hfr : σ.labels.all (· != d) = true)
    (hK : K ((d, .boxR d t e size [some (m, cs)]) :: σ.kill q)) : opT P n ⟨some d, .box t x, ty, pos, af, gd⟩ σ K := by
  intro C a w hS K' Q hK'
  obtain ⟨G, hG, hE⟩ := hS.gh
  obtain ⟨us, ho, hb, hc⟩ := hE.ev hx
  have hfr' : ∀ j ∈ σ.labels, j ≠ d := by simpa using hfr
  have hone : (a.eval x).cells = #[a.eval x] ∧ (a.eval x).oneCell' = true := by
    rcases ho.2 with ⟨hv, _⟩ | ⟨g, cap, cur, hv, _⟩ <;> rw [hv] <;> exact ⟨rfl, rfl⟩
  let w' := w.alloc (.cells #[a.eval x] t)
  have hop : (execOp a.eval ⟨some d, .box t x, ty, pos, af, gd⟩).run P w = .ok (.value (.pointer (some ⟨w.heap.size, 0, none⟩))) w' := by
    simp [execOp, Instr.box, newVar, newRow, hone.1, w']
  unfold Oper.wp
  rw [hop, Oper.upon_value]
  have hB : C.B ≤ w.heap.size := hS.below.size
  let G' : Gh := ⟨fun b => if b = w.heap.size then some d else if G.g b = some q then some d else G.g b, fun j => if j = d then w.heap.size else G.r j⟩
  have hsz : w'.heap.size = w.heap.size + 1 := by simp [w']
  have hG' : G'.fits C w' := by
    refine ⟨fun b j hj => ?_, ?_, fun b hb => ?_⟩
    · have hj' : (if b = w.heap.size then some d else if G.g b = some q then some d else G.g b) = some j := hj
      split at hj'
      · rename_i he; subst he; exact ⟨fun ho => by have := ho.1; omega, by omega⟩
      · split at hj'
        · rename_i hc; have := hG.1 b q hc; exact ⟨this.1, by omega⟩
        · have := hG.1 b j hj'; exact ⟨this.1, by omega⟩
    · show (if 2000 = d then _ else G.r 2000) = _
      rw [if_neg (Ne.symm hd0)]; exact hG.2.1
    · have h2 := hG.2.2 b hb
      show (if b = w.heap.size then some d else if G.g b = some q then some d else G.g b) = some 2000
      rw [if_neg (by have := (hG.1 b _ h2).2; omega), if_neg (fun e => by rw [h2] at e; exact hq0 (Option.some.inj e).symm)]
      exact h2
  have hold : ∀ b, b < w.heap.size → w'.heap[b]? = w.heap[b]? := fun b hb => heap_alloc_old w _ hb
  have hbel : Stays C.old w w' := ⟨rfl, rfl, rfl, by omega, fun k hk => hold k (Nat.lt_of_lt_of_le hk.1 hB), fun k hk => by rw [hold k hk]⟩
  have hE' : Env C (σ.kill q) a w' G' := by
    intro s y hy
    rcases kill_at hy with rfl | ⟨hy', hly⟩
    · trivial
    · refine Ok.keep hS.fp hbel y _ (fun j hj => ⟨?_, fun b hb' => ?_, fun b hb' => hold b (hG.1 b j hb').2⟩) (hE s y hy')
      · show (if j = d then _ else G.r j) = G.r j
        rw [if_neg (hfr' j (St.labels_at hy' j hj))]
      · show (if b = w.heap.size then some d else if G.g b = some q then some d else G.g b) = some j
        rw [if_neg (by have := (hG.1 b j hb').2; omega), if_neg (fun e => ?_)]
        · exact hb'
        · rw [hb'] at e; exact hly (Option.some.inj e ▸ hj)
  have hroot : G'.r d = w.heap.size := by show (if d = d then _ else _) = _; rw [if_pos rfl]
  have hgr : G'.g w.heap.size = some d := by show (if w.heap.size = w.heap.size then some d else _) = _; rw [if_pos rfl]
  have hin : ∀ b, G.g b = some q → G'.g b = some d ∧ b ≠ G'.r d := fun b hb' => by
    have hlt := (hG.1 b q hb').2
    refine ⟨?_, by rw [hroot]; omega⟩
    show (if b = w.heap.size then some d else if G.g b = some q then some d else G.g b) = some d
    rw [if_neg (by omega), if_pos hb']
  have hrow : RowS w' G' d e size m cs (a.eval x) := by
    refine ⟨us, ⟨ho.1, ?_⟩, fun b hv => hin b (hb b hv).2, RepL.flat cs us hp hc⟩
    rcases ho.2 with hn | ⟨g, cap, cur, hv, hbg, hgg, rest⟩
    · exact .inl hn
    · exact .inr ⟨g, cap, cur, hv, hbg, by rw [hold g (hG.1 g q (hb g (by rw [hv]; rfl)).2).2]; exact hgg, rest⟩
  have hok : Ok C w' G' (.boxR d t e size [some (m, cs)]) (.pointer (some ⟨w.heap.size, 0, none⟩)) := by
    refine ⟨[a.eval x], by rw [hroot], by rw [hroot]; exact hgr, by rw [hroot]; exact heap_alloc_new w _, rfl, fun y hy => ?_, fun i n' cs' y h1 h2 => ?_, fun i j o o' y z b hne h1 h2 _ _ _ => ?_⟩
    · simp at hy; subst hy; exact hone.2
    · cases i with
      | zero => simp at h1 h2; obtain ⟨rfl, rfl⟩ := h1; subst h2; exact hrow
      | succ i => simp at h1
    · cases i with
      | zero => cases j with
        | zero => exact absurd rfl hne
        | succ j => simp at h2
      | succ i => simp at h1
  refine hK' _ _ _ hK ?_
  have hS' : Sim n C (σ.kill q) a w' := ⟨hS.fp, hS.below.trans hbel, hS.dfs, hS.size, G', hG', hE'⟩
  exact hS'.put hG' hE' hd hok
theorem op_loadR {t : TypeId} (ht : OneTy P t) {x : Operand} {l off T e size m : Nat} {cs : List PV} {es : List (Option (Nat × List PV))} (h : Nat) (hx : σ.ev x = some (.adr l off) ∨ (off = 0 ∧ σ.ev x = some (.boxR l T e size es))) (hh : σ.at h = some (.boxR l T e size es)) (hi : es[off]? = some (some (m, cs)))
    (hd : d < n) (hd0 : d ≠ 2000) (hl0 : l ≠ 2000) (hfr : σ.labels.all (· != d) = true) (hK : K ((d, .own d e size m cs) :: σ.setR l (.boxR l T e size (es.set off none)))) : opT P n ⟨some d, .load t x, ty, pos, af, gd⟩ σ K := by
  intro C a w hS K' Q hK'
  obtain ⟨G, hG, hE⟩ := hS.gh
  have hfr' : ∀ q ∈ σ.labels, q ≠ d := by simpa using hfr
  obtain ⟨vs, hbv, hg, hhb, hr⟩ := hE h _ hh
  have hxv : a.eval x = .pointer (some ⟨G.r l, off, none⟩) := by
    rcases hx with hx | ⟨rfl, hx⟩
    · exact hE.ev hx
    · obtain ⟨_, hv, _⟩ := hE.ev hx; exact hv
  have hol : off < vs.length := by rw [hr.len]; exact (List.getElem?_eq_some_iff.1 hi).1
  have hu := List.getElem?_eq_getElem hol
  let u := vs[off]
  have hu : vs[off]? = some u := hu
  have hc0 : w.cell? ⟨G.r l, off, none⟩ = some u := by rw [cell_of_row w _ off _ T (0, 0) hhb]; simpa using hu
  obtain ⟨us, ho, hb, hc⟩ := hr.row off m cs u hi hu
  have hop : (execOp a.eval ⟨some d, .load t x, ty, pos, af, gd⟩).run P w = .ok (.value u) w := by
    simp [execOp, hxv, Instr.loadAt, Instr.sureAddr, run_loadVar_one ht hc0]
  unfold Oper.wp
  rw [hop, Oper.upon_value]
  let G' : Gh := ⟨fun b => if u.ownBlock = some b then some d else G.g b, fun q => if q = d then u.ownBlock.getD 0 else G.r q⟩
  have hld : l ≠ d := hfr' l (St.labels_at hh l (by simp [SV.labels]))
  have g2 : ∀ b q, u.ownBlock ≠ some b → G.g b = some q → G'.g b = some q := fun b q hn hq => by show (if u.ownBlock = some b then some d else G.g b) = _; rw [if_neg hn]; exact hq
  have hG' : G'.fits C w := by
    refine ⟨fun b q hq => ?_, ?_, fun b hx => ?_⟩
    · have hq' : (if u.ownBlock = some b then some d else G.g b) = some q := hq
      split at hq'
      · rename_i hv; exact hG.1 b l (hb b hv).1
      · exact hG.1 b q hq'
    · show (if 2000 = d then _ else G.r 2000) = _
      rw [if_neg (Ne.symm hd0)]; exact hG.2.1
    · have h2 := hG.2.2 b hx
      refine g2 b _ (fun hv => ?_) h2
      rw [(hb b hv).1] at h2; exact hl0 (Option.some.inj h2)
  have hrl : ∀ q ∈ σ.labels, G'.r q = G.r q := fun q hq => by show (if q = d then _ else G.r q) = G.r q; rw [if_neg (hfr' q hq)]
  have hlm : l ∈ σ.labels := St.labels_at hh l (by simp [SV.labels])
  have hE' : Env C (σ.setR l (.boxR l T e size (es.set off none))) a w G' := by
    intro s y' hy'
    rcases setR_at hy' with ⟨rfl, t2, e2, k2, es2, hz⟩ | rfl | ⟨⟨q, o, rfl⟩, hz⟩ | ⟨hx', hl⟩
    · obtain ⟨vs2, hv2, _, _, _⟩ := hE s _ hz
      refine ⟨vs, by rw [hrl l hlm]; exact hv2, by rw [hrl l hlm]; exact g2 _ _ (fun hv => (hb _ hv).2 rfl) hg, by rw [hrl l hlm]; exact hhb, ?_⟩
      have hr' := hr.drop off
      refine ⟨hr'.len, hr'.one, fun j nj cj xj h1 h2 => ?_, hr'.apart⟩
      obtain ⟨vj, oj, bj, rj⟩ := hr'.row j nj cj xj h1 h2
      refine ⟨vj, oj, fun b hv => ⟨g2 b l (fun hu' => ?_) (bj b hv).1, by rw [hrl l hlm]; exact (bj b hv).2⟩, rj⟩
      have hji : j ≠ off := fun e => by
        subst e
        rw [List.getElem?_set_self (by rw [← hr.len]; exact hol)] at h1; cases h1
      rw [List.getElem?_set_ne (Ne.symm hji)] at h1
      exact hr.apart off j _ _ u xj b (Ne.symm hji) hi h1 hu h2 hu' hv
    · trivial
    · have := hE s _ hz
      simp only [Ok] at this ⊢
      rw [hrl q (St.labels_at hz q (by simp [SV.labels]))]; exact this
    · refine Ok.keep hS.fp (Stays.refl _ _) y' _ (fun q hq => ⟨hrl q (St.labels_at hx' q hq), fun b hb' => ?_, fun _ _ => rfl⟩) (hE s y' hx')
      refine g2 b q (fun hv => ?_) hb'
      rw [(hb b hv).1] at hb'; exact hl (Option.some.inj hb' ▸ hq)
  refine hK' _ _ _ hK ?_
  have hS' : Sim n C (σ.setR l (.boxR l T e size (es.set off none))) a w := ⟨hS.fp, hS.below, hS.dfs, hS.size, G', hG', hE'⟩
  refine hS'.put hG' hE' hd ⟨us, ho, fun b hv => ⟨?_, ?_⟩, RepL.mono (fun _ h => h.elim) (fun _ h => h.elim) cs us hc⟩
  · show b = (if d = d then u.ownBlock.getD 0 else _)
    rw [if_pos rfl, hv]; rfl
  · show (if u.ownBlock = some b then some d else _) = _
    rw [if_pos hv]
theorem op_storeR {t : TypeId} (ht : ∀ w, (sizeOf t).run P w = .ok 1 w) {x y : Operand} {l off T e size m q : Nat} {cs : List PV} {es : List (Option (Nat × List PV))} {dst : Option Nat} (h : Nat) (hx : σ.ev x = some (.adr l off) ∨ (off = 0 ∧ σ.ev x = some (.boxR l T e size es))) (hh : σ.at h = some (.boxR l T e size es)) (hy : σ.ev y = some (.own q e size m cs))
    (hql : q ≠ l) (hq0 : q ≠ 2000) (hp : PV.flatL cs = true) (hi : off < es.length) (hdst : dst = none) (hK : K ((σ.setR l (.boxR l T e size (es.set off (some (m, cs))))).kill q)) : opT P n ⟨dst, .store t x y, ty, pos, af, gd⟩ σ K := by
  subst hdst
  intro C a w hS K' Q hK'
  obtain ⟨G, hG, hE⟩ := hS.gh
  obtain ⟨vs, hbv, hg, hhb, hr⟩ := hE h _ hh
  have hxv : a.eval x = .pointer (some ⟨G.r l, off, none⟩) := by
    rcases hx with hx | ⟨rfl, hx⟩
    · exact hE.ev hx
    · obtain ⟨_, hv, _⟩ := hE.ev hx; exact hv
  obtain ⟨us, ho, hyb, hc⟩ := hE.ev hy
  have hol : off < vs.length := by rw [hr.len]; exact hi
  have hone : (a.eval y).cells = #[a.eval y] ∧ (a.eval y).oneCell' = true := by
    rcases ho.2 with ⟨hv, _⟩ | ⟨g, cap, cur, hv, _⟩ <;> rw [hv] <;> exact ⟨rfl, rfl⟩
  let cur' : Array Value := (vs.take off ++ [a.eval y] ++ vs.drop (off + 1)).toArray
  have hset : vs.take off ++ [a.eval y] ++ vs.drop (off + 1) = vs.set off (a.eval y) := by
    rw [List.set_eq_take_append_cons_drop, if_pos hol]; simp
  let w' := w.setRow (G.r l) cur'
  have hrun : (execOp a.eval ⟨none, .store t x y, ty, pos, af, gd⟩).run P w = .ok .skip w' := by
    have hst := run_storeCells_at P (G.r l) off T [a.eval y] 0 vs.toArray w hhb (by simp; omega) (fun u hu => by simp at hu; subst hu; exact hone.2)
    simp only [Nat.add_zero] at hst
    simp only [execOp, hxv, Instr.storeAt, Instr.sureAddr, Sem.run_bind, Sem.run_pure, Result.andThen_ok, storeVar, ht, hone.1, ne_eq]
    simp only [List.size_toArray, List.length_cons, List.length_nil, Nat.zero_add, not_true_eq_false, if_false]
    show ((storeCells ⟨G.r l, off, none⟩ [a.eval y]).run P w).andThen _ = _
    rw [hst]; rfl
  have hother : ∀ b, b ≠ G.r l → w'.heap[b]? = w.heap[b]? := fun b hb => setRow_other w _ b _ hb
  have hnew : w'.heap[G.r l]? = some (.cells cur' T (0, 0)) := setRow_heap w _ vs.toArray _ T _ hhb
  have hsz : w'.heap.size = w.heap.size := by simp [w', World.setRow]
  have hcs' : cur'.size = vs.toArray.size := by
    show (vs.take off ++ [a.eval y] ++ vs.drop (off + 1)).length = vs.length
    rw [hset]; simp
  have hnold : ∀ b, C.old b → b ≠ G.r l := fun b hb e => (hG.1 _ _ hg).1 (e ▸ hb)
  have hbel : Stays C.old w w' := ⟨rfl, rfl, rfl, by omega, fun b hb => hother b (hnold b hb), fun b _ => by
    by_cases hb : b = G.r l
    · rw [hb, hnew, hhb]; simp [rowForm, hcs']
    · rw [hother b hb]⟩
  let G' : Gh := ⟨fun b => if G.g b = some q then some l else G.g b, G.r⟩
  have g1 : ∀ b, G.g b = some q → G'.g b = some l := fun b hb => by show (if G.g b = some q then some l else _) = _; rw [if_pos hb]
  have g2 : ∀ b j, j ≠ q → G.g b = some j → G'.g b = some j := fun b j hj hb => by
    show (if G.g b = some q then some l else G.g b) = _
    rw [hb, if_neg (fun e => hj (Option.some.inj e))]
  have hnr : ∀ b, G.g b = some q → b ≠ G.r l := fun b hb e => by subst e; rw [hg] at hb; exact hql (Option.some.inj hb).symm
  have hrow : RowS w' G' l e size m cs (a.eval y) := by
    refine ⟨us, ⟨ho.1, ?_⟩, fun b hb => ⟨g1 b (hyb b hb).2, hnr b (hyb b hb).2⟩, RepL.flat cs us hp hc⟩
    rcases ho.2 with hn | ⟨g, cap, cur, hvv, hbg, hgg, rest⟩
    · exact .inl hn
    · exact .inr ⟨g, cap, cur, hvv, hbg, by rw [hother g (hnr g (hyb g (by rw [hvv]; rfl)).2)]; exact hgg, rest⟩
  have happ : ∀ (j : Nat) o' z b, j ≠ off → es[j]? = some (some o') → vs[j]? = some z → (a.eval y).ownBlock = some b → z.ownBlock ≠ some b := by
    intro j o' z b _ h1 h2 h3 h4
    obtain ⟨n', cs'⟩ := o'
    obtain ⟨_, _, hb', _⟩ := hr.row j n' cs' z h1 h2
    have e1 := (hb' b h4).1
    have e2 := (hyb b h3).2
    rw [e1] at e2; exact hql (Option.some.inj e2).symm
  have hr' : RepS w' G' l e size (es.set off (some (m, cs))) (vs.set off (a.eval y)) :=
    (hr.keep (G' := G') (w' := w') rfl (fun b hb => g2 b l (Ne.symm hql) hb) (fun b _ hn => hother b hn)).set hi hone.2 hrow happ
  unfold Oper.wp
  rw [hrun, Oper.upon_skip]
  have hG' : G'.fits C w' := by
    refine ⟨fun b j hb => ?_, hG.2.1, fun b hb => g2 b 2000 (Ne.symm hq0) (hG.2.2 b hb)⟩
    have hb' : (if G.g b = some q then some l else G.g b) = some j := hb
    split at hb'
    · rename_i hc; have := hG.1 b q hc; exact ⟨this.1, by rw [hsz]; exact this.2⟩
    · have := hG.1 b j hb'; exact ⟨this.1, by rw [hsz]; exact this.2⟩
  refine hK' _ _ _ hK ⟨hS.fp, hS.below.trans hbel, hS.dfs, hS.size, G', hG', fun s z hz => ?_⟩
  rcases kill_at hz with rfl | ⟨hz1, hzq⟩
  · trivial
  rcases setR_at hz1 with ⟨rfl, t2, e2, k2, es2, hz⟩ | rfl | ⟨⟨j, o, rfl⟩, hz⟩ | ⟨hz', hl⟩
  · obtain ⟨vs2, hv2, _, _, _⟩ := hE s _ hz
    refine ⟨vs.set off (a.eval y), hv2, g2 _ _ (Ne.symm hql) hg, ?_, hr'⟩
    rw [← hset]; exact hnew
  · trivial
  · exact hE s _ hz
  · refine Ok.keep (G := G) (G' := G') hS.fp hbel z _ (fun j hj => ⟨rfl, fun b hb => g2 b j (fun e => hzq (e ▸ hj)) hb, fun b hb => hother b (fun e => ?_)⟩) (hE s z hz')
    subst e
    rw [hg] at hb
    exact hl (Option.some.inj hb ▸ hj)
end
/-! ### Guarded calls in drawn regions; two pure ways made one -/
theorem code_seq_same {P : Program} {n : Nat} {σ : St} {Q : Exit → St → Prop} {x y : Code} (h1 : codeT P n x σ (Then (fun σ' => Imp n σ' σ) Q)) (h2 : codeT P n y σ Q) : codeT P n (.seq x y) σ Q :=
  code_seq fun K hK => codeT.mono h1 fun e σ' h => by
    cases e with
    | normal => exact hK σ' (h2.imp h)
    | _ => exact h
section
variable {P : Program} {n : Nat} {σ : St} {K : St → Prop} {d : Nat} {ty : TypeId} {pos : String} {af : Array Edge} {gd : Option (Nat × Bool)}
theorem draw_callW {ops : Array Oper} {l : List Oper} {f : FuncId} {xs : List Operand} {ts : Array TypeId} {ps : List PV} {p : PV} (ss : List SV) (hc : PCalls P f ps (· = [.val p])) (hf : p.flat = true) (hss : σ.evs xs = some ss) (hps : pvs ss = some ps) (hd : d < n) (hwant : ∀ C a w, Sim n C σ a w → Region.wanted ⟨some d, .call { callee := .value (.func f), args := xs.toArray, argTypes := ts }, ty, pos, af, gd⟩ (yielded ops a.tmps) = true)
    (hl : drawT P n ops l ((d, .val p) :: σ) K) : drawT P n ops (⟨some d, .call { callee := .value (.func f), args := xs.toArray, argTypes := ts }, ty, pos, af, gd⟩ :: l) σ K := by
  intro C a w hS Q hQ
  obtain ⟨G, hG, hE⟩ := hS.gh
  have run : ∀ w2, Below w.heap.size w w2 → Calls P f (xs.map a.eval).toArray w2 fun e w3 => e = .returned p.toV ∧ Below w.heap.size w w3 ∧ Rep w3 (fun _ => False) p p.toV := by
    intro w2 hw2
    have hS2 := hS.later hw2
    have hB2 : C.B ≤ w2.heap.size := hS2.below.size
    have hE2 : Env C σ a w2 G := fun s x hx => Ok.keep hS.fp (Stays.of_below hw2 (fun k hk => Nat.lt_of_lt_of_le hk.1 hS.below.size)) x _ (fun l _ => ⟨rfl, fun _ hb => hb, fun b hb => hw2.block b (hG.1 b l hb).2⟩) (hE s x hx)
    have hG2 : G.fits C w2 := ⟨fun b l hb => by have h1 := hG.1 b l hb; have h2 := hw2.size; exact ⟨h1.1, by omega⟩, hG.2⟩
    let C' := calleeC C G w2 false none 0 ss (calleeX_gl hS hG false _ ss hw2) (fun b hb => Nat.lt_of_lt_of_le (hG.1 b 0 hb).2 hw2.size)
    have hfeet : ∀ i b, feet C G ss 0 i b → C'.old b := by
      intro i b hb
      unfold feet at hb
      rw [if_neg (by omega)] at hb
      cases hsi : ss[i - 0]? with
      | none => simp only [hsi] at hb
      | some s =>
        simp only [hsi] at hb
        exact ⟨(foot_old hS2.fp hG2 hB2 hb).1, fun h => by cases h.1⟩
    have hargs : RepArgs w2 C'.Fp 0 ps (xs.map a.eval) := evs_ok hE2 hss hps _ 0 (fun j s hj => by
      show feet C G ss 0 (0 + j) = _
      unfold feet
      rw [if_neg (by omega), show 0 + j - 0 = j by omega, hj])
    have hex : ∀ b, C'.ex b → C'.old b := fun b hb => by
      rcases hb with hb | ⟨he, _⟩
      · exact ⟨Nat.lt_of_lt_of_le (hS2.fp.2 b hb).1 hB2, fun h => by cases h.1⟩
      · cases he
    have hrun := hc.run C' (calleeG G none 0) undef (xs.map a.eval) ⟨rfl, rfl, fun _ h => h⟩ ⟨hfeet, hex⟩ (fun h => by cases h) ⟨fun b q hb => by simp [calleeG] at hb, rfl, fun b hb => by cases hb.1⟩ (fun x hx => by cases hx) hargs
    refine Calls.mono hrun ?_
    rintro e w3 ⟨v, rs, cs', rfl, rfl, hst, G', us, _, hL, hv, _, _, _⟩
    obtain ⟨u, r, hu, h1, h2⟩ := hL
    simp only [OkL] at h2
    rw [h2] at hu
    rw [hu] at hv
    have hu2 := Rep.toV p u hf h1
    have hv2 : v = p.toV := hv.trans hu2
    have hbel : Below w2.heap.size w2 w3 := (hst.mono (S' := (· < w2.heap.size)) (fun k hk => ⟨hk, fun h => by cases h.1⟩)).below
    refine ⟨congrArg Ending.returned hv2, hw2.trans (hbel.mono hw2.size), ?_⟩
    rw [← hu2]; exact h1
  unfold wpQuiet
  rw [if_pos (hwant C a w hS)]
  refine ⟨p.toV, fun w2 hw2 => ?_, ?_⟩
  · unfold Oper.quietAt
    have hrun : (execOp a.eval ⟨some d, .call { callee := .value (.func f), args := xs.toArray, argTypes := ts }, ty, pos, af, gd⟩).run P w2 = .ok (.enter f (xs.map a.eval).toArray) w2 := by
      simp [execOp, resolve, Act.eval, Deferred.ofValue, invoke]
      exact hc.ent _ _
    rw [hrun]
    exact ⟨rfl, (run w2 hw2).mono fun _ _ ⟨h1, h2, _⟩ => ⟨h1, h2⟩⟩
  · obtain ⟨e, w3, fr, ⟨_, _, h3⟩, _⟩ := run w (Below.refl _ _) []
    exact hl C _ w (hS.put hG hE hd (Rep.flat p _ hf h3)) Q hQ
theorem wanted_of {o : Oper} {ops : Array Oper} {j dj : Nat} {want : Bool} (hg : o.guard = some (j, want)) (hj : (ops[j]?).bind (·.dst) = some dj) (hdj : σ.at dj = some (.val (.bool want))) (hn : dj < n) : ∀ C a w, Sim n C σ a w → Region.wanted o (yielded ops a.tmps) = true := by
  intro C a w hS
  obtain ⟨G, hG, hE⟩ := hS.gh
  have hy : yielded ops a.tmps j = some want := by
    have := hE dj _ hdj
    simp only [Ok, Rep] at this
    unfold yielded
    rw [hj]
    have hlt : dj < a.tmps.size := by rw [hS.size]; exact hn
    simp only [Array.getD_eq_getD_getElem?, Array.getElem?_eq_getElem hlt, Option.getD_some] at this
    simp [Array.getElem?_eq_getElem hlt, this]
  simp only [Region.wanted, hg, hy]
  cases want <;> rfl
end
end Go.Proofs.YtppocfcopnaebaaDoor
