/- Calls of functions' values; functions' values that have captured what reaches memory; arrays of rows; copy. Own work; no conditions; nothing here is about one program. -/
import Derived.Test.YtfagllolcalfiabDoorPwRg
import Derived.Laws.IdiomCopy
import Derived.Laws.CopyRow
namespace Go.Proofs.YtfagllolcalfiabDoor
open Go.RowKit
set_option linter.unusedVariables false
set_option linter.unusedSimpArgs false
/-! ### Calls of functions' values -/
def SV.clos : SV → Option (FuncId × List PV × List SV)
  | .fn f => some (f, [], [])
  | .val (.clo f cs) => some (f, cs, cs.map .val)
  | .par i (.clo f cs) => some (f, cs, cs.map (.par i))
  | .ext (.clo f cs) => some (f, cs, cs.map .ext)
  | .bor l (.clo f cs) => some (f, cs, cs.map (.bor l))
  | .frz l (.clo f cs) => some (f, cs, cs.map (.frz l))
  | _ => none
theorem clos_ok {C : Ctx} {w : World} {G : Gh} {sf : SV} {v : Value} {f : FuncId} {cs : List PV} {fs : List SV} (h : Ok C w G sf v) (hc : sf.clos = some (f, cs, fs)) :
    ∃ vs, v = .func (.func f) #[] vs.toArray ∧ RepL w (foot C G sf) cs vs ∧ fs.length = cs.length ∧ ∀ s ∈ fs, foot C G s = foot C G sf := by
  have key : ∀ (F : Nat → Prop) (k : PV → SV) (f0 : FuncId) (cs0 : List PV), Rep w F (.clo f0 cs0) v → (∀ p, foot C G (k p) = F) → some (f0, cs0, cs0.map k) = some (f, cs, fs) →
      ∃ vs, v = .func (.func f) #[] vs.toArray ∧ RepL w F cs vs ∧ fs.length = cs.length ∧ ∀ s ∈ fs, foot C G s = F := by
    intro F k f0 cs0 hr hk he
    simp only [Option.some.injEq, Prod.mk.injEq] at he
    obtain ⟨rfl, rfl, rfl⟩ := he
    obtain ⟨vs, hv, hl⟩ := hr
    refine ⟨vs, hv, hl, by simp, fun s hs => ?_⟩
    obtain ⟨p, _, rfl⟩ := List.mem_map.1 hs
    exact hk p
  cases sf with
  | fn g =>
    simp only [SV.clos, Option.some.injEq, Prod.mk.injEq] at hc
    obtain ⟨rfl, rfl, rfl⟩ := hc
    exact ⟨[], h, rfl, rfl, fun s hs => by simp at hs⟩
  | val p => cases p with
    | clo f0 cs0 => exact key _ .val f0 cs0 h (fun _ => rfl) (by simpa only [SV.clos] using hc)
    | _ => simp [SV.clos] at hc
  | par i p => cases p with
    | clo f0 cs0 => exact key _ (.par i) f0 cs0 h (fun _ => rfl) (by simpa only [SV.clos] using hc)
    | _ => simp [SV.clos] at hc
  | ext p => cases p with
    | clo f0 cs0 => exact key _ .ext f0 cs0 h (fun _ => rfl) (by simpa only [SV.clos] using hc)
    | _ => simp [SV.clos] at hc
  | bor l p => cases p with
    | clo f0 cs0 => exact key _ (.bor l) f0 cs0 h (fun _ => rfl) (by simpa only [SV.clos] using hc)
    | _ => simp [SV.clos] at hc
  | frz l p => cases p with
    | clo f0 cs0 => exact key _ (.frz l) f0 cs0 h (fun _ => rfl) (by simpa only [SV.clos] using hc)
    | _ => simp [SV.clos] at hc
  | _ => simp [SV.clos] at hc
theorem repArgs_app {w : World} {Fp : Nat → Nat → Prop} : ∀ {ps cs : List PV} {us vs : List Value} {i : Nat}, RepArgs w Fp i ps us → RepArgs w Fp (i + ps.length) cs vs → RepArgs w Fp i (ps ++ cs) (us ++ vs)
  | [], cs, us, vs, i, h, k => by simp only [RepArgs] at h; subst h; simpa using k
  | p :: ps, cs, us, vs, i, h, k => by
    obtain ⟨v, r, rfl, h1, h2⟩ := h
    exact ⟨v, r ++ vs, rfl, h1, repArgs_app h2 (by rw [show i + 1 + ps.length = i + (p :: ps).length by simp; omega]; exact k)⟩
theorem repArgs_of {w : World} {Fp : Nat → Nat → Prop} {F : Nat → Prop} : ∀ {cs : List PV} {vs : List Value} {i : Nat}, RepL w F cs vs → (∀ j, j < cs.length → Fp (i + j) = F) → RepArgs w Fp i cs vs
  | [], vs, i, h, _ => by simpa [RepL, RepArgs] using h
  | c :: cs, vs, i, h, hF => by
    obtain ⟨v, r, rfl, _, h1, h2⟩ := h
    exact ⟨v, r, rfl, by rw [show Fp i = F from hF 0 (by simp)]; exact h1, repArgs_of h2 (fun j hj => by rw [show i + 1 + j = i + (j + 1) by omega]; exact hF (j + 1) (by simpa using hj))⟩
theorem pvs_len : ∀ {ss : List SV} {ps : List PV}, pvs ss = some ps → ps.length = ss.length
  | [], ps, h => by simp only [pvs, Option.some.injEq] at h; subst h; rfl
  | s :: ss, ps, h => by
    unfold pvs at h
    split at h
    · rename_i p ps' h1 h2
      simp only [Option.some.injEq] at h; subst h
      simp [pvs_len h2]
    · cases h
section
variable {P : Program} {n : Nat} {σ : St} {K : St → Prop} {d : Nat} {ty : TypeId} {pos : String} {af : Array Edge} {gd : Option (Nat × Bool)}
theorem pcV {f : FuncId} {ps : List PV} {p : PV} (h : PCalls P f ps (· = [.val p])) : PCalls P f ps (fun rs => ∃ q, rs = [.val q] ∧ q = p) := h.mono fun _ hr => ⟨_, hr, rfl⟩
theorem op_callV {fo : Operand} {sf : SV} {f : FuncId} {cs : List PV} {fs : List SV} {xs : List Operand} {ts : Array TypeId} {ps : List PV} {R : PV → Prop} (ss : List SV) (hf : σ.ev fo = some sf) (hc : sf.clos = some (f, cs, fs))
    (hss : σ.evs xs = some ss) (hps : pvs ss = some ps) (hcall : PCalls P f (ps ++ cs) (fun rs => ∃ p, rs = [.val p] ∧ R p)) (hd : d < n) (hK : ∀ p, R p → K ((d, .val p) :: σ)) :
    opT P n ⟨some d, .call { callee := .value fo, args := xs.toArray, argTypes := ts }, ty, pos, af, gd⟩ σ K := by
  intro C a w hS K' Q hK'
  obtain ⟨G, hG, hE⟩ := hS.gh
  have hB : C.B ≤ w.heap.size := hS.below.size
  obtain ⟨vs, hv, hcv, hfl, hff⟩ := clos_ok (hE.ev hf) hc
  let ss' := ss ++ fs
  let C' := calleeC C G w false none 0 ss' (calleeX_gl hS hG false _ ss' (Below.refl _ _)) (fun b hb => (hG.1 b 0 hb).2)
  have hfeet : ∀ i b, feet C G ss' 0 i b → C'.old b := by
    intro i b hb
    unfold feet at hb
    rw [if_neg (by omega)] at hb
    cases hsi : ss'[i - 0]? with
    | none => simp only [hsi] at hb
    | some s =>
      simp only [hsi] at hb
      exact ⟨(foot_old hS.fp hG hB hb).1, fun h => by cases h.1⟩
  have hfeq : ∀ j s, ss'[j]? = some s → C'.Fp j = foot C G s := fun j s hj => by
    show feet C G ss' 0 j = _
    unfold feet
    rw [if_neg (by omega), show j - 0 = j by omega, hj]
  have hargs : RepArgs w C'.Fp 0 (ps ++ cs) (xs.map a.eval ++ vs) := by
    refine repArgs_app (evs_ok hE hss hps _ 0 (fun j s hj => ?_)) (repArgs_of hcv (fun j hj => ?_))
    · rw [Nat.zero_add]
      exact hfeq j s (by rw [List.getElem?_append_left (List.getElem?_eq_some_iff.1 hj).1]; exact hj)
    · have hl := pvs_len hps
      have hjf : j < fs.length := by rw [hfl]; exact hj
      rw [Nat.zero_add, hfeq _ fs[j] (by rw [hl, List.getElem?_append_right (by omega), Nat.add_sub_cancel_left]; exact List.getElem?_eq_getElem hjf)]
      exact hff _ (List.getElem_mem hjf)
  have hex : ∀ b, C'.ex b → C'.old b := fun b hb => by
    rcases hb with hb | ⟨he, _⟩
    · exact ⟨Nat.lt_of_lt_of_le (hS.fp.2 b hb).1 hB, fun h => by cases h.1⟩
    · cases he
  have hrun := hcall.run C' (calleeG G none 0) undef (xs.map a.eval ++ vs) ⟨rfl, rfl, fun _ h => h⟩ ⟨hfeet, hex⟩ (fun h => by cases h) ⟨fun b q hb => by simp [calleeG] at hb, rfl, fun b hb => by cases hb.1⟩ (fun x hx => by cases hx) hargs
  unfold Oper.wp
  have hop : (execOp a.eval ⟨some d, .call { callee := .value fo, args := xs.toArray, argTypes := ts }, ty, pos, af, gd⟩).run P w = .ok (.enter f (xs.map a.eval ++ vs).toArray) w := by
    have := hcall.ent (xs.map a.eval ++ vs).toArray w
    simp [execOp, resolve, hv, Deferred.ofValue, invoke] at this ⊢
    exact this
  rw [hop, Oper.upon_enter]
  refine Calls.mono hrun ?_
  rintro e w3 ⟨v, rs, cs', rfl, ⟨p, rfl, hR⟩, hst, G', us, _, hL, hvv, _, _, _⟩
  obtain ⟨u, r, hu, h1, h2⟩ := hL
  simp only [OkL] at h2
  subst h2; subst hu
  have hv3 : v = u := hvv
  subst hv3
  have hbel : Below w.heap.size w w3 := (hst.mono (S' := (· < w.heap.size)) (fun k hk => ⟨hk, fun h => by cases h.1⟩)).below
  have hS3 := hS.later hbel
  obtain ⟨G3, hG3, hE3⟩ := hS3.gh
  exact hK' _ _ _ (hK p hR) (hS3.put hG3 hE3 hd h1)
/-! ### Functions' values that have captured what reaches memory -/
def boxesAny : List SV → Option (List (Nat × List PV))
  | [] => some []
  | .box l _ cs :: r => match boxesAny r with
    | some bs => some ((l, cs) :: bs)
    | none => none
  | _ => none
theorem boxesAny_rep {C : Ctx} {w : World} {G : Gh} {F : Nat → Prop} : ∀ {ss : List SV} {bs : List (Nat × List PV)} {vs : List Value}, boxesAny ss = some bs → OkL C w G ss vs → (∀ b ∈ bs, ∀ k, G.g k = some b.1 → F k) → (∀ k, C.ex k → F k) → RepL w F (bs.map fun b => .ptr b.2) vs
  | [], bs, vs, h, hk, hF, hX => by simp only [boxesAny, Option.some.injEq] at h; subst h; simpa [OkL, RepL] using hk
  | s :: ss, bs, vs, h, hk, hF, hX => by
    cases s <;> simp only [boxesAny, reduceCtorEq] at h
    rename_i l e cs
    split at h
    · rename_i bs' hb
      simp only [Option.some.injEq] at h; subst h
      obtain ⟨v, r, rfl, h1, h2⟩ := hk
      obtain ⟨us, hv, hg, hh, hr⟩ := h1
      refine ⟨v, r, rfl, rfl, ?_, boxesAny_rep hb h2 (fun b hm => hF b (List.mem_cons_of_mem _ hm)) hX⟩
      refine ⟨G.r l, 0, us, hv, hF (l, cs) List.mem_cons_self _ hg, fun j u hu => ?_, RepL.mono (fun b hb => hb.elim (fun h => hF (l, cs) List.mem_cons_self _ h.1) (hX b)) (fun _ _ => rfl) cs us hr⟩
      rw [cell_of_row w _ (0 + j) _ e (0, 0) hh]; simpa using hu
    · cases h
theorem RepS.drop {w : World} {G : Gh} {l e size : Nat} {es : List (Option (Nat × List PV))} {xs : List Value} (h : RepS w G l e size es xs) (i : Nat) : RepS w G l e size (es.set i none) xs := by
  have at_ : ∀ j p, (es.set i none)[j]? = some (some p) → j ≠ i ∧ es[j]? = some (some p) := by
    intro j p hj
    by_cases e : j = i
    · subst e
      have hil := (List.getElem?_eq_some_iff.1 hj).1
      rw [List.length_set] at hil
      rw [List.getElem?_set_self hil] at hj; cases hj
    · rw [List.getElem?_set_ne (Ne.symm e)] at hj; exact ⟨e, hj⟩
  exact ⟨by rw [h.len, List.length_set], h.one, fun j n cs x h1 h2 => h.row j n cs x (at_ j _ h1).2 h2, fun j j' o o' x y b hne h1 h2 h3 h4 h5 => h.apart j j' o o' x y b hne (at_ j _ h1).2 (at_ j' _ h2).2 h3 h4 h5⟩
theorem RepS.set {w : World} {G : Gh} {l e size : Nat} {es : List (Option (Nat × List PV))} {xs : List Value} (h : RepS w G l e size es xs) {i : Nat} {n : Nat} {cs : List PV} {x : Value} (hi : i < es.length) (h1x : x.oneCell' = true) (hr : RowS w G l e size n cs x)
    (ha : ∀ (j : Nat) o' y b, j ≠ i → es[j]? = some (some o') → xs[j]? = some y → x.ownBlock = some b → y.ownBlock ≠ some b) : RepS w G l e size (es.set i (some (n, cs))) (xs.set i x) := by
  have hxi : i < xs.length := by rw [h.len]; exact hi
  have at_ : ∀ j p, (es.set i (some (n, cs)))[j]? = some p → (j = i ∧ p = some (n, cs)) ∨ (j ≠ i ∧ es[j]? = some p) := by
    intro j p hj
    by_cases e : j = i
    · subst e; rw [List.getElem?_set_self hi] at hj; exact .inl ⟨rfl, (Option.some.inj hj).symm⟩
    · rw [List.getElem?_set_ne (Ne.symm e)] at hj; exact .inr ⟨e, hj⟩
  have xat : ∀ j y, (xs.set i x)[j]? = some y → (j = i → y = x) ∧ (j ≠ i → xs[j]? = some y) := by
    intro j y hj
    refine ⟨fun e => ?_, fun e => ?_⟩
    · subst e; rw [List.getElem?_set_self hxi] at hj; exact (Option.some.inj hj).symm
    · rwa [List.getElem?_set_ne (Ne.symm e)] at hj
  refine ⟨by rw [List.length_set, h.len, List.length_set], fun y hy => ?_, fun j n' cs' y h1 h2 => ?_, fun j j' o1 o2 y1 y2 b hne h1 h2 h3 h4 h5 => ?_⟩
  · rcases List.mem_or_eq_of_mem_set hy with h1 | h1
    · exact h.one y h1
    · rw [h1]; exact h1x
  · rcases at_ j _ h1 with ⟨e, hp⟩ | ⟨e, hp⟩
    · cases hp; obtain rfl := (xat j y h2).1 e; exact hr
    · exact h.row j n' cs' y hp ((xat j y h2).2 e)
  · rcases at_ j _ h1 with ⟨e, hp⟩ | ⟨e, hp⟩
    · obtain rfl := (xat j y1 h3).1 e
      rcases at_ j' _ h2 with ⟨e', hq⟩ | ⟨e', hq⟩
      · exact absurd (e.trans e'.symm) hne
      · exact ha j' o2 y2 b e' hq ((xat j' y2 h4).2 e') h5
    · rcases at_ j' _ h2 with ⟨e', hq⟩ | ⟨e', hq⟩
      · obtain rfl := (xat j' y2 h4).1 e'
        exact fun h6 => ha j o1 y1 b e hp ((xat j y1 h3).2 e) h6 h5
      · exact h.apart j j' o1 o2 y1 y2 b hne hp hq ((xat j y1 h3).2 e) ((xat j' y2 h4).2 e') h5
theorem q_load_boxD {t : TypeId} (ht : OneTy P t) {x : Operand} {l T : Nat} {c : PV} (hx : σ.ev x = some (.box l T [c])) (hd : d < n) : quietT P n ⟨some d, .load t x, ty, pos, af, gd⟩ σ d (.bor l c) := by
  refine ⟨rfl, hd, fun C a w G hS hG hE => ?_⟩
  obtain ⟨vs, hv, hg, hh, hr⟩ := hE.ev hx
  obtain ⟨u, h3, _, h4⟩ := hr.get 0 c rfl
  have hc0 : w.cell? ⟨G.r l, 0, none⟩ = some u := by rw [cell_of_row w _ 0 _ T (0, 0) hh]; simpa using h3
  refine ⟨u, fun w2 hw2 => ?_, Rep.mono (fun b hb => hb.imp (fun h => h.1) id) (fun _ _ => rfl) c u h4⟩
  have hc2 := (hw2.cell (p := ⟨G.r l, 0, none⟩) (World.block_lt_of_cell? w _ hc0)).trans hc0
  simp [execOp, hv, Instr.loadAt, Instr.sureAddr, run_loadVar_one ht hc2]
end
section
variable {P : Program} {n : Nat} {σ : St} {K : St → Prop} {d : Nat} {ty : TypeId} {pos : String} {af : Array Edge} {gd : Option (Nat × Bool)}
theorem draw_callW {ops : Array Oper} {l : List Oper} {f : FuncId} {xs : List Operand} {ts : Array TypeId} {ps : List PV} {p : PV} (ss : List SV) (hc : PCalls P f ps (· = [.val p])) (hf : p.flat = true) (hss : σ.evs xs = some ss) (hps : pvs ss = some ps) (hd : d < n) (hwant : ∀ C a w, Sim n C σ a w → Region.wanted ⟨some d, .call { callee := .value (.func f), args := xs.toArray, argTypes := ts }, ty, pos, af, gd⟩ (yielded ops a.tmps) = true)
    (hl : drawT P n ops l ((d, .val p) :: σ) K) : drawT P n ops (⟨some d, .call { callee := .value (.func f), args := xs.toArray, argTypes := ts }, ty, pos, af, gd⟩ :: l) σ K := by
  intro C a w hS Q hQ
  obtain ⟨G, hG, hE⟩ := hS.gh
  have run : ∀ w2, Below w.heap.size w w2 → Calls P f (xs.map a.eval).toArray w2 fun e w3 => e = .returned p.toV ∧ Below w.heap.size w w3 ∧ Rep w3 (fun _ => False) p p.toV := by
    intro w2 hw2
    have hS2 := hS.later hw2
    have hB2 : C.B ≤ w2.heap.size := hS2.below.size
    have hE2 : Env C σ a w2 G := fun s x hx => Ok.keep hS.fp (Stays.of_below hw2 (fun k hk => Nat.lt_of_lt_of_le hk.1 hS.below.size)) x _ (fun l _ => ⟨rfl, fun _ hb => hb, fun b hb => hw2.block b (hG.1 b l hb).2⟩) (hE s x hx)
    have hG2 : G.fits C w2 := ⟨fun b l hb => by have h1 := hG.1 b l hb; have h2 := hw2.size; exact ⟨h1.1, by omega⟩, hG.2⟩
    let C' := calleeC C G w2 false none 0 ss (calleeX_gl hS hG false _ ss hw2) (fun b hb => Nat.lt_of_lt_of_le (hG.1 b 0 hb).2 hw2.size)
    have hfeet : ∀ i b, feet C G ss 0 i b → C'.old b := by
      intro i b hb
      unfold feet at hb
      rw [if_neg (by omega)] at hb
      cases hsi : ss[i - 0]? with
      | none => simp only [hsi] at hb
      | some s =>
        simp only [hsi] at hb
        exact ⟨(foot_old hS2.fp hG2 hB2 hb).1, fun h => by cases h.1⟩
    have hargs : RepArgs w2 C'.Fp 0 ps (xs.map a.eval) := evs_ok hE2 hss hps _ 0 (fun j s hj => by
      show feet C G ss 0 (0 + j) = _
      unfold feet
      rw [if_neg (by omega), show 0 + j - 0 = j by omega, hj])
    have hex : ∀ b, C'.ex b → C'.old b := fun b hb => by
      rcases hb with hb | ⟨he, _⟩
      · exact ⟨Nat.lt_of_lt_of_le (hS2.fp.2 b hb).1 hB2, fun h => by cases h.1⟩
      · cases he
    have hrun := hc.run C' (calleeG G none 0) undef (xs.map a.eval) ⟨rfl, rfl, fun _ h => h⟩ ⟨hfeet, hex⟩ (fun h => by cases h) ⟨fun b q hb => by simp [calleeG] at hb, rfl, fun b hb => by cases hb.1⟩ (fun x hx => by cases hx) hargs
    refine Calls.mono hrun ?_
    rintro e w3 ⟨v, rs, cs', rfl, rfl, hst, G', us, _, hL, hv, _, _, _⟩
    obtain ⟨u, r, hu, h1, h2⟩ := hL
    simp only [OkL] at h2
    rw [h2] at hu
    rw [hu] at hv
    have hu2 := Rep.toV p u hf h1
    have hv2 : v = p.toV := hv.trans hu2
    have hbel : Below w2.heap.size w2 w3 := (hst.mono (S' := (· < w2.heap.size)) (fun k hk => ⟨hk, fun h => by cases h.1⟩)).below
    refine ⟨congrArg Ending.returned hv2, hw2.trans (hbel.mono hw2.size), ?_⟩
    rw [← hu2]; exact h1
  unfold wpQuiet
  rw [if_pos (hwant C a w hS)]
  refine ⟨p.toV, fun w2 hw2 => ?_, ?_⟩
  · unfold Oper.quietAt
    have hrun : (execOp a.eval ⟨some d, .call { callee := .value (.func f), args := xs.toArray, argTypes := ts }, ty, pos, af, gd⟩).run P w2 = .ok (.enter f (xs.map a.eval).toArray) w2 := by
      simp [execOp, resolve, Act.eval, Deferred.ofValue, invoke]
      exact hc.ent _ _
    rw [hrun]
    exact ⟨rfl, (run w2 hw2).mono fun _ _ ⟨h1, h2, _⟩ => ⟨h1, h2⟩⟩
  · obtain ⟨e, w3, fr, ⟨_, _, h3⟩, _⟩ := run w (Below.refl _ _) []
    exact hl C _ w (hS.put hG hE hd (Rep.flat p _ hf h3)) Q hQ
theorem wanted_of {o : Oper} {ops : Array Oper} {j dj : Nat} {want : Bool} (hg : o.guard = some (j, want)) (hj : (ops[j]?).bind (·.dst) = some dj) (hdj : σ.at dj = some (.val (.bool want))) (hn : dj < n) : ∀ C a w, Sim n C σ a w → Region.wanted o (yielded ops a.tmps) = true := by
  intro C a w hS
  obtain ⟨G, hG, hE⟩ := hS.gh
  have hy : yielded ops a.tmps j = some want := by
    have := hE dj _ hdj
    simp only [Ok, Rep] at this
    unfold yielded
    rw [hj]
    have hlt : dj < a.tmps.size := by rw [hS.size]; exact hn
    simp only [Array.getD_eq_getD_getElem?, Array.getElem?_eq_getElem hlt, Option.getD_some] at this
    simp [Array.getElem?_eq_getElem hlt, this]
  simp only [Region.wanted, hg, hy]
  cases want <;> rfl
end
end Go.Proofs.YtfagllolcalfiabDoor
