/- Calls of functions' values; functions' values that have captured what reaches memory; arrays of rows; copy. Own work; no conditions; nothing here is about one program. -/
import Derived.Test.YtfagllolcalfiaaDoorPwRg
import Derived.Laws.IdiomCopy
import Derived.Laws.CopyRow
namespace Go.Proofs.YtfagllolcalfiaaDoor
open Go.RowKit
set_option linter.unusedVariables false
set_option linter.unusedSimpArgs false

/-! ### Calls of functions' values -/

/-- A function's value that a slot holds: the function, what it has captured, and each of that as a slot would hold it. -/
def SV.clos : SV → Option (FuncId × List PV × List SV)
  | .fn f => some (f, [], [])
  | .val (.clo f cs) => some (f, cs, cs.map .val)
  | .par i (.clo f cs) => some (f, cs, cs.map (.par i))
  | .ext (.clo f cs) => some (f, cs, cs.map .ext)
  | .bor l (.clo f cs) => some (f, cs, cs.map (.bor l))
  | .frz l (.clo f cs) => some (f, cs, cs.map (.frz l))
  | _ => none

theorem clos_ok {C : Ctx} {w : World} {G : Gh} {sf : SV} {v : Value} {f : FuncId} {cs : List PV} {fs : List SV} (h : Ok C w G sf v) (hc : sf.clos = some (f, cs, fs)) :
    ∃ vs, v = .func (.func f) #[] vs.toArray ∧ RepL w (foot C G sf) cs vs ∧ fs.length = cs.length ∧ ∀ s ∈ fs, foot C G s = foot C G sf := by
  have key : ∀ (F : Nat → Prop) (k : PV → SV) (f0 : FuncId) (cs0 : List PV), Rep w F (.clo f0 cs0) v → (∀ p, foot C G (k p) = F) → some (f0, cs0, cs0.map k) = some (f, cs, fs) →
      ∃ vs, v = .func (.func f) #[] vs.toArray ∧ RepL w F cs vs ∧ fs.length = cs.length ∧ ∀ s ∈ fs, foot C G s = F := by
    intro F k f0 cs0 hr hk he
    simp only [Option.some.injEq, Prod.mk.injEq] at he
    obtain ⟨rfl, rfl, rfl⟩ := he
    obtain ⟨vs, hv, hl⟩ := hr
    refine ⟨vs, hv, hl, by simp, fun s hs => ?_⟩
    obtain ⟨p, _, rfl⟩ := List.mem_map.1 hs
    exact hk p
  cases sf with
  | fn g =>
    simp only [SV.clos, Option.some.injEq, Prod.mk.injEq] at hc
    obtain ⟨rfl, rfl, rfl⟩ := hc
    exact ⟨[], h, rfl, rfl, fun s hs => by simp at hs⟩
  | val p => cases p with
    | clo f0 cs0 => exact key _ .val f0 cs0 h (fun _ => rfl) (by simpa only [SV.clos] using hc)
    | _ => simp [SV.clos] at hc
  | par i p => cases p with
    | clo f0 cs0 => exact key _ (.par i) f0 cs0 h (fun _ => rfl) (by simpa only [SV.clos] using hc)
    | _ => simp [SV.clos] at hc
  | ext p => cases p with
    | clo f0 cs0 => exact key _ .ext f0 cs0 h (fun _ => rfl) (by simpa only [SV.clos] using hc)
    | _ => simp [SV.clos] at hc
  | bor l p => cases p with
    | clo f0 cs0 => exact key _ (.bor l) f0 cs0 h (fun _ => rfl) (by simpa only [SV.clos] using hc)
    | _ => simp [SV.clos] at hc
  | frz l p => cases p with
    | clo f0 cs0 => exact key _ (.frz l) f0 cs0 h (fun _ => rfl) (by simpa only [SV.clos] using hc)
    | _ => simp [SV.clos] at hc
  | _ => simp [SV.clos] at hc

theorem repArgs_app {w : World} {Fp : Nat → Nat → Prop} : ∀ {ps cs : List PV} {us vs : List Value} {i : Nat}, RepArgs w Fp i ps us → RepArgs w Fp (i + ps.length) cs vs → RepArgs w Fp i (ps ++ cs) (us ++ vs)
  | [], cs, us, vs, i, h, k => by simp only [RepArgs] at h; subst h; simpa using k
  | p :: ps, cs, us, vs, i, h, k => by
    obtain ⟨v, r, rfl, h1, h2⟩ := h
    exact ⟨v, r ++ vs, rfl, h1, repArgs_app h2 (by rw [show i + 1 + ps.length = i + (p :: ps).length by simp; omega]; exact k)⟩

theorem repArgs_of {w : World} {Fp : Nat → Nat → Prop} {F : Nat → Prop} : ∀ {cs : List PV} {vs : List Value} {i : Nat}, RepL w F cs vs → (∀ j, j < cs.length → Fp (i + j) = F) → RepArgs w Fp i cs vs
  | [], vs, i, h, _ => by simpa [RepL, RepArgs] using h
  | c :: cs, vs, i, h, hF => by
    obtain ⟨v, r, rfl, _, h1, h2⟩ := h
    exact ⟨v, r, rfl, by rw [show Fp i = F from hF 0 (by simp)]; exact h1, repArgs_of h2 (fun j hj => by rw [show i + 1 + j = i + (j + 1) by omega]; exact hF (j + 1) (by simpa using hj))⟩

theorem pvs_len : ∀ {ss : List SV} {ps : List PV}, pvs ss = some ps → ps.length = ss.length
  | [], ps, h => by simp only [pvs, Option.some.injEq] at h; subst h; rfl
  | s :: ss, ps, h => by
    unfold pvs at h
    split at h
    · rename_i p ps' h1 h2
      simp only [Option.some.injEq] at h; subst h
      simp [pvs_len h2]
    · cases h

section
variable {P : Program} {n : Nat} {σ : St} {K : St → Prop} {d : Nat} {ty : TypeId} {pos : String} {af : Array Edge} {gd : Option (Nat × Bool)}

theorem pcV {f : FuncId} {ps : List PV} {p : PV} (h : PCalls P f ps (· = [.val p])) : PCalls P f ps (fun rs => ∃ q, rs = [.val q] ∧ q = p) := h.mono fun _ hr => ⟨_, hr, rfl⟩

/-- A call of a function's value that hands back one plain value. -/
theorem op_callV {fo : Operand} {sf : SV} {f : FuncId} {cs : List PV} {fs : List SV} {xs : List Operand} {ts : Array TypeId} {ps : List PV} {R : PV → Prop} (ss : List SV) (hf : σ.ev fo = some sf) (hc : sf.clos = some (f, cs, fs))
    (hss : σ.evs xs = some ss) (hps : pvs ss = some ps) (hcall : PCalls P f (ps ++ cs) (fun rs => ∃ p, rs = [.val p] ∧ R p)) (hd : d < n) (hK : ∀ p, R p → K ((d, .val p) :: σ)) :
    opT P n ⟨some d, .call { callee := .value fo, args := xs.toArray, argTypes := ts }, ty, pos, af, gd⟩ σ K := by
  intro C a w hS K' Q hK'
  obtain ⟨G, hG, hE⟩ := hS.gh
  have hB : C.B ≤ w.heap.size := hS.below.size
  obtain ⟨vs, hv, hcv, hfl, hff⟩ := clos_ok (hE.ev hf) hc
  let ss' := ss ++ fs
  let C' := calleeC C G w false none 0 ss' (calleeX_gl hS hG false _ ss' (Below.refl _ _)) (fun b hb => (hG.1 b 0 hb).2)
  have hfeet : ∀ i b, feet C G ss' 0 i b → C'.old b := by
    intro i b hb
    unfold feet at hb
    rw [if_neg (by omega)] at hb
    cases hsi : ss'[i - 0]? with
    | none => simp only [hsi] at hb
    | some s =>
      simp only [hsi] at hb
      exact ⟨(foot_old hS.fp hG hB hb).1, fun h => by cases h.1⟩
  have hfeq : ∀ j s, ss'[j]? = some s → C'.Fp j = foot C G s := fun j s hj => by
    show feet C G ss' 0 j = _
    unfold feet
    rw [if_neg (by omega), show j - 0 = j by omega, hj]
  have hargs : RepArgs w C'.Fp 0 (ps ++ cs) (xs.map a.eval ++ vs) := by
    refine repArgs_app (evs_ok hE hss hps _ 0 (fun j s hj => ?_)) (repArgs_of hcv (fun j hj => ?_))
    · rw [Nat.zero_add]
      exact hfeq j s (by rw [List.getElem?_append_left (List.getElem?_eq_some_iff.1 hj).1]; exact hj)
    · have hl := pvs_len hps
      have hjf : j < fs.length := by rw [hfl]; exact hj
      rw [Nat.zero_add, hfeq _ fs[j] (by rw [hl, List.getElem?_append_right (by omega), Nat.add_sub_cancel_left]; exact List.getElem?_eq_getElem hjf)]
      exact hff _ (List.getElem_mem hjf)
  have hex : ∀ b, C'.ex b → C'.old b := fun b hb => by
    rcases hb with hb | ⟨he, _⟩
    · exact ⟨Nat.lt_of_lt_of_le (hS.fp.2 b hb).1 hB, fun h => by cases h.1⟩
    · cases he
  have hrun := hcall.run C' (calleeG G none 0) undef (xs.map a.eval ++ vs) ⟨rfl, rfl, fun _ h => h⟩ ⟨hfeet, hex⟩ (fun h => by cases h) ⟨fun b q hb => by simp [calleeG] at hb, rfl, fun b hb => by cases hb.1⟩ (fun x hx => by cases hx) hargs
  unfold Oper.wp
  have hop : (execOp a.eval ⟨some d, .call { callee := .value fo, args := xs.toArray, argTypes := ts }, ty, pos, af, gd⟩).run P w = .ok (.enter f (xs.map a.eval ++ vs).toArray) w := by
    have := hcall.ent (xs.map a.eval ++ vs).toArray w
    simp [execOp, resolve, hv, Deferred.ofValue, invoke] at this ⊢
    exact this
  rw [hop, Oper.upon_enter]
  refine Calls.mono hrun ?_
  rintro e w3 ⟨v, rs, cs', rfl, ⟨p, rfl, hR⟩, hst, G', us, _, hL, hvv, _, _, _⟩
  obtain ⟨u, r, hu, h1, h2⟩ := hL
  simp only [OkL] at h2
  subst h2; subst hu
  have hv3 : v = u := hvv
  subst hv3
  have hbel : Below w.heap.size w w3 := (hst.mono (S' := (· < w.heap.size)) (fun k hk => ⟨hk, fun h => by cases h.1⟩)).below
  have hS3 := hS.later hbel
  obtain ⟨G3, hG3, hE3⟩ := hS3.gh
  exact hK' _ _ _ (hK p hR) (hS3.put hG3 hE3 hd h1)

/-! ### Functions' values that have captured what reaches memory -/

/-- Variables, with their labels. -/
def boxesAny : List SV → Option (List (Nat × List PV))
  | [] => some []
  | .box l _ cs :: r => match boxesAny r with
    | some bs => some ((l, cs) :: bs)
    | none => none
  | _ => none

theorem boxesAny_rep {C : Ctx} {w : World} {G : Gh} {F : Nat → Prop} : ∀ {ss : List SV} {bs : List (Nat × List PV)} {vs : List Value}, boxesAny ss = some bs → OkL C w G ss vs → (∀ b ∈ bs, ∀ k, G.g k = some b.1 → F k) → (∀ k, C.ex k → F k) → RepL w F (bs.map fun b => .ptr b.2) vs
  | [], bs, vs, h, hk, hF, hX => by simp only [boxesAny, Option.some.injEq] at h; subst h; simpa [OkL, RepL] using hk
  | s :: ss, bs, vs, h, hk, hF, hX => by
    cases s <;> simp only [boxesAny, reduceCtorEq] at h
    rename_i l e cs
    split at h
    · rename_i bs' hb
      simp only [Option.some.injEq] at h; subst h
      obtain ⟨v, r, rfl, h1, h2⟩ := hk
      obtain ⟨us, hv, hg, hh, hr⟩ := h1
      refine ⟨v, r, rfl, rfl, ?_, boxesAny_rep hb h2 (fun b hm => hF b (List.mem_cons_of_mem _ hm)) hX⟩
      refine ⟨G.r l, 0, us, hv, hF (l, cs) List.mem_cons_self _ hg, fun j u hu => ?_, RepL.mono (fun b hb => hb.elim (fun h => hF (l, cs) List.mem_cons_self _ h.1) (hX b)) (fun _ _ => rfl) cs us hr⟩
      rw [cell_of_row w _ (0 + j) _ e (0, 0) hh]; simpa using hu
    · cases h

theorem op_makeFuncB {f : FuncId} {xs : List Operand} {ss : List SV} {bs : List (Nat × List PV)} (hxs : σ.evs xs = some ss) (hbs : boxesAny ss = some bs) (h2 : (bs.map (·.1)).contains 2000 = false) (hd : d < n) (hd0 : d ≠ 2000) (hfr : σ.labels.all (· != d) = true)
    (hK : K ((d, .bor d (.clo f (bs.map fun b => .ptr b.2))) :: σ.killLs (bs.map (·.1)))) : opT P n ⟨some d, .makeFunc (.func f) #[] xs.toArray, ty, pos, af, gd⟩ σ K := by
  intro C a w hS K' Q hK'
  obtain ⟨G, hG, hE⟩ := hS.gh
  have hfr' : ∀ q ∈ σ.labels, q ≠ d := by simpa using hfr
  let ls := bs.map (·.1)
  let G' : Gh := ⟨fun b => match G.g b with | some m => if ls.contains m then some d else some m | none => none, G.r⟩
  have hop : (execOp a.eval ⟨some d, .makeFunc (.func f) #[] xs.toArray, ty, pos, af, gd⟩).run P w = .ok (.value (.func (.func f) #[] (xs.map a.eval).toArray)) w := by
    simp [execOp, Instr.makeFunc]
  unfold Oper.wp
  rw [hop, Oper.upon_value]
  have hin : ∀ b q, G.g b = some q → q ∈ ls → G'.g b = some d := fun b q hb hq => by
    show (match G.g b with | some m => if ls.contains m then some d else some m | none => none) = some d
    rw [hb]; simp [hq]
  have hout : ∀ b q, G.g b = some q → q ∉ ls → G'.g b = some q := fun b q hb hq => by
    show (match G.g b with | some m => if ls.contains m then some d else some m | none => none) = some q
    rw [hb]; simp [hq]
  have hinv : ∀ b q, G'.g b = some q → ∃ q', G.g b = some q' := fun b q hb => by
    have hb' : (match G.g b with | some m => if ls.contains m then some d else some m | none => none) = some q := hb
    cases hgb : G.g b with
    | none => rw [hgb] at hb'; cases hb'
    | some m => exact ⟨m, rfl⟩
  have hG' : G'.fits C w := ⟨fun b q hb => let ⟨q', h⟩ := hinv b q hb; hG.1 b q' h, hG.2.1, fun b hb => hout b 2000 (hG.2.2 b hb) (by simpa [ls] using h2)⟩
  have hE' : Env C (σ.killLs ls) a w G' := fun s x hx => by
    rcases killLs_at hx with rfl | ⟨hx', hl⟩
    · trivial
    · exact Ok.keep (G := G) (G' := G') hS.fp (Stays.refl _ _) x _ (fun q hq => ⟨rfl, fun b hb => hout b q hb (fun hm => hl q hm hq), fun _ _ => rfl⟩) (hE s x hx')
  have hok : Ok C w G' (.bor d (.clo f (bs.map fun b => .ptr b.2))) (.func (.func f) #[] (xs.map a.eval).toArray) := by
    refine ⟨_, rfl, boxesAny_rep (G := G) hbs (evs_okL hE hxs) (fun b hb k hk => .inl (hin k b.1 hk (List.mem_map.2 ⟨b, hb, rfl⟩))) (fun k hk => .inr hk)⟩
  have hS' : Sim n C (σ.killLs ls) a w := ⟨hS.fp, hS.below, hS.dfs, hS.size, G', hG', hE'⟩
  exact hK' _ _ _ hK (hS'.put hG' hE' hd hok)

/-! ### Arrays of rows -/

def SV.isR (l : Nat) : SV → Bool
  | .boxR l' _ _ _ _ => Nat.beq l' l
  | _ => false

/-- The handles of a variable of rows hold y; what else hangs on its label, but for addresses in it, is forgotten. -/
def St.setR (l : Nat) (y : SV) (σ : St) : St := σ.map fun e => (e.1, bif e.2.isR l then y else bif e.2.isAdr then e.2 else bif e.2.labels.contains l then .dead else e.2)

theorem setR_at {l : Nat} {y : SV} : ∀ {σ : St} {s : Nat} {x : SV}, (σ.setR l y).at s = some x → (x = y ∧ ∃ t e k es, σ.at s = some (.boxR l t e k es)) ∨ x = .dead ∨ ((∃ q o, x = .adr q o) ∧ σ.at s = some x) ∨ (σ.at s = some x ∧ l ∉ x.labels)
  | [], s, x, hx => by simp [St.setR, St.at] at hx
  | (t, z) :: r, s, x, hx => by
    simp only [St.setR, List.map_cons, St.at] at hx ⊢
    split at hx
    · rename_i he; subst he
      simp only [Option.some.injEq] at hx
      cases hb : z.isR l with
      | true =>
        rw [hb] at hx
        refine .inl ⟨hx.symm, ?_⟩
        cases z with
        | boxR l' t e k es =>
          simp only [SV.isR] at hb
          obtain rfl := Nat.eq_of_beq_eq_true hb
          exact ⟨t, e, k, es, by simp⟩
        | _ => simp [SV.isR] at hb
      | false =>
        rw [hb] at hx
        cases ha : z.isAdr with
        | true =>
          rw [ha] at hx
          simp only [cond_false, cond_true] at hx
          subst hx
          refine .inr (.inr (.inl ⟨?_, by simp⟩))
          cases z with
          | adr q o => exact ⟨q, o, rfl⟩
          | _ => simp [SV.isAdr] at ha
        | false =>
          rw [ha] at hx
          cases hc : z.labels.contains l with
          | true => rw [hc] at hx; exact .inr (.inl hx.symm)
          | false =>
            rw [hc] at hx
            simp only [cond_false] at hx
            subst hx
            exact .inr (.inr (.inr ⟨by simp, by simpa using hc⟩))
    · rename_i hne
      rw [if_neg hne]
      exact setR_at (σ := r) hx

theorem RepS.drop {w : World} {G : Gh} {l e size : Nat} {es : List (Option (Nat × List PV))} {xs : List Value} (h : RepS w G l e size es xs) (i : Nat) : RepS w G l e size (es.set i none) xs := by
  have at_ : ∀ j p, (es.set i none)[j]? = some (some p) → j ≠ i ∧ es[j]? = some (some p) := by
    intro j p hj
    by_cases e : j = i
    · subst e
      have hil := (List.getElem?_eq_some_iff.1 hj).1
      rw [List.length_set] at hil
      rw [List.getElem?_set_self hil] at hj; cases hj
    · rw [List.getElem?_set_ne (Ne.symm e)] at hj; exact ⟨e, hj⟩
  exact ⟨by rw [h.len, List.length_set], h.one, fun j n cs x h1 h2 => h.row j n cs x (at_ j _ h1).2 h2, fun j j' o o' x y b hne h1 h2 h3 h4 h5 => h.apart j j' o o' x y b hne (at_ j _ h1).2 (at_ j' _ h2).2 h3 h4 h5⟩

theorem RepS.set {w : World} {G : Gh} {l e size : Nat} {es : List (Option (Nat × List PV))} {xs : List Value} (h : RepS w G l e size es xs) {i : Nat} {n : Nat} {cs : List PV} {x : Value} (hi : i < es.length) (h1x : x.oneCell' = true) (hr : RowS w G l e size n cs x)
    (ha : ∀ (j : Nat) o' y b, j ≠ i → es[j]? = some (some o') → xs[j]? = some y → x.ownBlock = some b → y.ownBlock ≠ some b) : RepS w G l e size (es.set i (some (n, cs))) (xs.set i x) := by
  have hxi : i < xs.length := by rw [h.len]; exact hi
  have at_ : ∀ j p, (es.set i (some (n, cs)))[j]? = some p → (j = i ∧ p = some (n, cs)) ∨ (j ≠ i ∧ es[j]? = some p) := by
    intro j p hj
    by_cases e : j = i
    · subst e; rw [List.getElem?_set_self hi] at hj; exact .inl ⟨rfl, (Option.some.inj hj).symm⟩
    · rw [List.getElem?_set_ne (Ne.symm e)] at hj; exact .inr ⟨e, hj⟩
  have xat : ∀ j y, (xs.set i x)[j]? = some y → (j = i → y = x) ∧ (j ≠ i → xs[j]? = some y) := by
    intro j y hj
    refine ⟨fun e => ?_, fun e => ?_⟩
    · subst e; rw [List.getElem?_set_self hxi] at hj; exact (Option.some.inj hj).symm
    · rwa [List.getElem?_set_ne (Ne.symm e)] at hj
  refine ⟨by rw [List.length_set, h.len, List.length_set], fun y hy => ?_, fun j n' cs' y h1 h2 => ?_, fun j j' o1 o2 y1 y2 b hne h1 h2 h3 h4 h5 => ?_⟩
  · rcases List.mem_or_eq_of_mem_set hy with h1 | h1
    · exact h.one y h1
    · rw [h1]; exact h1x
  · rcases at_ j _ h1 with ⟨e, hp⟩ | ⟨e, hp⟩
    · cases hp; obtain rfl := (xat j y h2).1 e; exact hr
    · exact h.row j n' cs' y hp ((xat j y h2).2 e)
  · rcases at_ j _ h1 with ⟨e, hp⟩ | ⟨e, hp⟩
    · obtain rfl := (xat j y1 h3).1 e
      rcases at_ j' _ h2 with ⟨e', hq⟩ | ⟨e', hq⟩
      · exact absurd (e.trans e'.symm) hne
      · exact ha j' o2 y2 b e' hq ((xat j' y2 h4).2 e') h5
    · rcases at_ j' _ h2 with ⟨e', hq⟩ | ⟨e', hq⟩
      · obtain rfl := (xat j' y2 h4).1 e'
        exact fun h6 => ha j o1 y1 b e hp ((xat j y1 h3).2 e) h6 h5
      · exact h.apart j j' o1 o2 y1 y2 b hne hp hq ((xat j y1 h3).2 e) ((xat j' y2 h4).2 e') h5

theorem nils_rep {w : World} {G : Gh} {l e size : Nat} {F : Nat → Prop} {k : Nat} {vs : List Value} (h : RepL w F (List.replicate k (.sl 0 [])) vs) (hF : ∀ b, ¬ F b) : RepS w G l e size (List.replicate k (some (0, []))) vs := by
  have hv : ∀ (i : Nat) x, vs[i]? = some x → x = .slice none 0 0 := by
    intro i x hx
    have hlt := (List.getElem?_eq_some_iff.1 hx).1
    have hl := h.length
    rw [List.length_replicate] at hl
    obtain ⟨v, h1, _, h2⟩ := h.get i (.sl 0 []) (by rw [List.getElem?_replicate, if_pos (by omega)])
    rw [hx] at h1; cases h1
    rcases h2 with ⟨h3, _⟩ | ⟨b, _, _, _, _, hf, _⟩
    · exact h3
    · exact absurd hf (hF b)
  refine ⟨by rw [h.length]; simp, fun x hx => ?_, fun i n cs x h1 h2 => ?_, fun i j o o' x y b _ _ _ h3 _ h5 => ?_⟩
  · obtain ⟨i, hi, rfl⟩ := List.getElem_of_mem hx
    rw [hv i _ (List.getElem?_eq_getElem hi)]; rfl
  · rw [List.getElem?_replicate] at h1
    split at h1
    · cases h1
      rw [hv i x h2]
      exact ⟨[], World.ownsRow_nil _ _ _ _, fun b hb => by simp [Value.ownBlock] at hb, rfl⟩
    · cases h1
  · rw [hv i x h3] at h5; simp [Value.ownBlock] at h5

/-- A variable of an array of slices, all nil. -/
theorem op_allocR {t e size k : Nat} (hz : ZeroTy P t (List.replicate k (.sl 0 []))) (hd : d < n) (hd0 : d ≠ 2000) (hfr : σ.labels.all (· != d) = true) (hK : K ((d, .boxR d t e size (List.replicate k (some (0, [])))) :: σ)) : opT P n ⟨some d, .alloc t, ty, pos, af, gd⟩ σ K := by
  intro C a w hS K' Q hK'
  obtain ⟨G, hG, hE⟩ := hS.gh
  obtain ⟨z, h1, h2⟩ := hz
  have hop : (execOp a.eval ⟨some d, .alloc t, ty, pos, af, gd⟩).run P w = .ok (.value (.pointer (some ⟨w.heap.size, 0, none⟩))) (w.alloc (.cells z.cells t)) := by
    simp [execOp, Instr.alloc, h1, newVar, newRow]
  unfold Oper.wp
  rw [hop, Oper.upon_value]
  obtain ⟨hG', hE', hbel⟩ := new_env (w' := w.alloc (.cells z.cells t)) hS hG hE (World.grownBy_alloc w _ none) (by simp) hd0 hfr
  have hroot := new_root (G := G) (b0 := w.heap.size) (d := d)
  have hok : Ok C (w.alloc (.cells z.cells t)) (G.new w.heap.size d) (.boxR d t e size (List.replicate k (some (0, [])))) (.pointer (some ⟨w.heap.size, 0, none⟩)) := by
    refine ⟨z.cells.toList, by rw [hroot.1], by rw [hroot.1]; exact hroot.2, by rw [hroot.1]; simpa using heap_alloc_new w _, nils_rep (F := fun _ => False) (cvs_ok h2) (fun _ h => h)⟩
  refine hK' _ _ _ hK ?_
  have hS' : Sim n C σ a (w.alloc (.cells z.cells t)) := ⟨hS.fp, hbel, hS.dfs, hS.size, _, hG', hE'⟩
  exact hS'.put hG' hE' hd hok

/-- A variable whose value is a row of one's own. -/
theorem op_boxR {t : TypeId} {x : Operand} {q e size m : Nat} {cs : List PV} (hx : σ.ev x = some (.own q e size m cs)) (hp : PV.flatL cs = true) (hq0 : q ≠ 2000) (hd : d < n) (hd0 : d ≠ 2000) (hfr : σ.labels.all (· != d) = true)
    (hK : K ((d, .boxR d t e size [some (m, cs)]) :: σ.kill q)) : opT P n ⟨some d, .box t x, ty, pos, af, gd⟩ σ K := by
  intro C a w hS K' Q hK'
  obtain ⟨G, hG, hE⟩ := hS.gh
  obtain ⟨us, ho, hb, hc⟩ := hE.ev hx
  have hfr' : ∀ j ∈ σ.labels, j ≠ d := by simpa using hfr
  have hone : (a.eval x).cells = #[a.eval x] ∧ (a.eval x).oneCell' = true := by
    rcases ho.2 with ⟨hv, _⟩ | ⟨g, cap, cur, hv, _⟩ <;> rw [hv] <;> exact ⟨rfl, rfl⟩
  let w' := w.alloc (.cells #[a.eval x] t)
  have hop : (execOp a.eval ⟨some d, .box t x, ty, pos, af, gd⟩).run P w = .ok (.value (.pointer (some ⟨w.heap.size, 0, none⟩))) w' := by
    simp [execOp, Instr.box, newVar, newRow, hone.1, w']
  unfold Oper.wp
  rw [hop, Oper.upon_value]
  have hB : C.B ≤ w.heap.size := hS.below.size
  let G' : Gh := ⟨fun b => if b = w.heap.size then some d else if G.g b = some q then some d else G.g b, fun j => if j = d then w.heap.size else G.r j⟩
  have hsz : w'.heap.size = w.heap.size + 1 := by simp [w']
  have hG' : G'.fits C w' := by
    refine ⟨fun b j hj => ?_, ?_, fun b hb => ?_⟩
    · have hj' : (if b = w.heap.size then some d else if G.g b = some q then some d else G.g b) = some j := hj
      split at hj'
      · rename_i he; subst he; exact ⟨fun ho => by have := ho.1; omega, by omega⟩
      · split at hj'
        · rename_i hc; have := hG.1 b q hc; exact ⟨this.1, by omega⟩
        · have := hG.1 b j hj'; exact ⟨this.1, by omega⟩
    · show (if 2000 = d then _ else G.r 2000) = _
      rw [if_neg (Ne.symm hd0)]; exact hG.2.1
    · have h2 := hG.2.2 b hb
      show (if b = w.heap.size then some d else if G.g b = some q then some d else G.g b) = some 2000
      rw [if_neg (by have := (hG.1 b _ h2).2; omega), if_neg (fun e => by rw [h2] at e; exact hq0 (Option.some.inj e).symm)]
      exact h2
  have hold : ∀ b, b < w.heap.size → w'.heap[b]? = w.heap[b]? := fun b hb => heap_alloc_old w _ hb
  have hbel : Stays C.old w w' := ⟨rfl, rfl, rfl, by omega, fun k hk => hold k (Nat.lt_of_lt_of_le hk.1 hB), fun k hk => by rw [hold k hk]⟩
  have hE' : Env C (σ.kill q) a w' G' := by
    intro s y hy
    rcases kill_at hy with rfl | ⟨hy', hly⟩
    · trivial
    · refine Ok.keep hS.fp hbel y _ (fun j hj => ⟨?_, fun b hb' => ?_, fun b hb' => hold b (hG.1 b j hb').2⟩) (hE s y hy')
      · show (if j = d then _ else G.r j) = G.r j
        rw [if_neg (hfr' j (St.labels_at hy' j hj))]
      · show (if b = w.heap.size then some d else if G.g b = some q then some d else G.g b) = some j
        rw [if_neg (by have := (hG.1 b j hb').2; omega), if_neg (fun e => ?_)]
        · exact hb'
        · rw [hb'] at e; exact hly (Option.some.inj e ▸ hj)
  have hroot : G'.r d = w.heap.size := by show (if d = d then _ else _) = _; rw [if_pos rfl]
  have hgr : G'.g w.heap.size = some d := by show (if w.heap.size = w.heap.size then some d else _) = _; rw [if_pos rfl]
  have hin : ∀ b, G.g b = some q → G'.g b = some d ∧ b ≠ G'.r d := fun b hb' => by
    have hlt := (hG.1 b q hb').2
    refine ⟨?_, by rw [hroot]; omega⟩
    show (if b = w.heap.size then some d else if G.g b = some q then some d else G.g b) = some d
    rw [if_neg (by omega), if_pos hb']
  have hrow : RowS w' G' d e size m cs (a.eval x) := by
    refine ⟨us, ⟨ho.1, ?_⟩, fun b hv => hin b (hb b hv).2, RepL.flat cs us hp hc⟩
    rcases ho.2 with hn | ⟨g, cap, cur, hv, hbg, hgg, rest⟩
    · exact .inl hn
    · exact .inr ⟨g, cap, cur, hv, hbg, by rw [hold g (hG.1 g q (hb g (by rw [hv]; rfl)).2).2]; exact hgg, rest⟩
  have hok : Ok C w' G' (.boxR d t e size [some (m, cs)]) (.pointer (some ⟨w.heap.size, 0, none⟩)) := by
    refine ⟨[a.eval x], by rw [hroot], by rw [hroot]; exact hgr, by rw [hroot]; exact heap_alloc_new w _, rfl, fun y hy => ?_, fun i n' cs' y h1 h2 => ?_, fun i j o o' y z b hne h1 h2 _ _ _ => ?_⟩
    · simp at hy; subst hy; exact hone.2
    · cases i with
      | zero => simp at h1 h2; obtain ⟨rfl, rfl⟩ := h1; subst h2; exact hrow
      | succ i => simp at h1
    · cases i with
      | zero => cases j with
        | zero => exact absurd rfl hne
        | succ j => simp at h2
      | succ i => simp at h1
  refine hK' _ _ _ hK ?_
  have hS' : Sim n C (σ.kill q) a w' := ⟨hS.fp, hS.below.trans hbel, hS.dfs, hS.size, G', hG', hE'⟩
  exact hS'.put hG' hE' hd hok

/-- An element of a slice that came in, where variables may lead to it. -/
theorem q_indexAddr_ext {t e size bytes : Nat} {zc : List PV} (hty : SlTy P t e size bytes zc) {s : Nat} {y : Operand} {m : Nat} {cs : List PV} {k : IntKind} {i : Int} (hx : σ.at s = some (.ext (.sl m cs)))
    (hy : St.ev ((s, .bor 2999 (.sl m cs)) :: σ) y = some (.val (.int k i))) (h0 : 0 ≤ i) (h1 : i < m) (hd : d < n) : quietT P n ⟨some d, .indexAddr t (.tmp s) y, ty, pos, af, gd⟩ σ d (.rbor 2999 (cs.drop (i.toNat * size))) := by
  have h := q_indexAddr_rd (P := P) (n := n) (σ := (s, .bor 2999 (.sl m cs)) :: σ) (d := d) (ty := ty) (pos := pos) (af := af) (gd := gd) hty (x := .tmp s) (s := .bor 2999 (.sl m cs)) (by simp [St.ev, St.at]) (.inr ⟨_, rfl, rfl⟩) hy h0 h1 hd
  refine ⟨h.1, h.2.1, fun C a w G hS hG hE => ?_⟩
  have hE' : Env C ((s, .bor 2999 (.sl m cs)) :: σ) a w G := fun t x hx' => by
    simp only [St.at] at hx'
    split at hx'
    · rename_i he; subst he; cases hx'
      exact Rep.mono (fun b hb => .inr hb) (fun _ _ => rfl) _ _ (hE s _ hx)
    · exact hE t x hx'
  exact h.2.2 C a w G ⟨hS.fp, hS.below, hS.dfs, hS.size, G, hG, hE'⟩ hG hE'

/-- A variable's slice, read. -/
theorem q_load_boxD {t : TypeId} (ht : OneTy P t) {x : Operand} {l T : Nat} {c : PV} (hx : σ.ev x = some (.box l T [c])) (hd : d < n) : quietT P n ⟨some d, .load t x, ty, pos, af, gd⟩ σ d (.bor l c) := by
  refine ⟨rfl, hd, fun C a w G hS hG hE => ?_⟩
  obtain ⟨vs, hv, hg, hh, hr⟩ := hE.ev hx
  obtain ⟨u, h3, _, h4⟩ := hr.get 0 c rfl
  have hc0 : w.cell? ⟨G.r l, 0, none⟩ = some u := by rw [cell_of_row w _ 0 _ T (0, 0) hh]; simpa using h3
  refine ⟨u, fun w2 hw2 => ?_, Rep.mono (fun b hb => hb.imp (fun h => h.1) id) (fun _ _ => rfl) c u h4⟩
  have hc2 := (hw2.cell (p := ⟨G.r l, 0, none⟩) (World.block_lt_of_cell? w _ hc0)).trans hc0
  simp [execOp, hv, Instr.loadAt, Instr.sureAddr, run_loadVar_one ht hc2]

/-- A variable's row, read: another handle of it. -/
theorem q_loadS {t : TypeId} (ht : OneTy P t) {x : Operand} {l T q e size m : Nat} {cs : List PV} (hx : σ.ev x = some (.boxS l T q e size m cs)) (hd : d < n) : quietT P n ⟨some d, .load t x, ty, pos, af, gd⟩ σ d (.own q e size m cs) := by
  refine ⟨rfl, hd, fun C a w G hS hG hE => ?_⟩
  obtain ⟨u, hv, hg, hh, hne, hown⟩ := hE.ev hx
  have hc0 : w.cell? ⟨G.r l, 0, none⟩ = some u := by rw [cell_of_row w _ 0 _ T (0, 0) hh]; rfl
  refine ⟨u, fun w2 hw2 => ?_, hown⟩
  have hc2 := (hw2.cell (p := ⟨G.r l, 0, none⟩) (World.block_lt_of_cell? w _ hc0)).trans hc0
  simp [execOp, hv, Instr.loadAt, Instr.sureAddr, run_loadVar_one ht hc2]

/-- A variable is given a row of one's own, which stays one's own. -/
theorem op_storeS {t : TypeId} (ht : ∀ w, (sizeOf t).run P w = .ok 1 w) {y : Operand} {h l T q e size m : Nat} {c : PV} {cs : List PV} {dst : Option Nat} (hx : σ.at h = some (.box l T [c])) (hy : σ.ev y = some (.own q e size m cs)) (hlq : l ≠ q) (hdst : dst = none)
    (hK : K ((h, .boxS l T q e size m cs) :: σ.kill l)) : opT P n ⟨dst, .store t (.tmp h) y, ty, pos, af, gd⟩ σ K := by
  subst hdst
  intro C a w hS K' Q hK'
  obtain ⟨G, hG, hE⟩ := hS.gh
  obtain ⟨vs, hv, hg, hhb, hr⟩ := hE h _ hx
  obtain ⟨us, ho, hyb, hc⟩ := hE.ev hy
  have hvl : vs.length = 1 := by rw [hr.length]; rfl
  have hone : (a.eval y).cells = #[a.eval y] ∧ (a.eval y).oneCell' = true := by
    rcases ho.2 with ⟨hv, _⟩ | ⟨g, cap, cur, hv, _⟩ <;> rw [hv] <;> exact ⟨rfl, rfl⟩
  have hxv : a.eval (.tmp h) = .pointer (some ⟨G.r l, 0, none⟩) := hv
  let w' := w.setRow (G.r l) #[a.eval y]
  have hrun : (execOp a.eval ⟨none, .store t (.tmp h) y, ty, pos, af, gd⟩).run P w = .ok .skip w' := by
    have hst := run_storeCells_at P (G.r l) 0 T [a.eval y] 0 vs.toArray w hhb (by simp; omega) (fun u hu => by simp at hu; subst hu; exact hone.2)
    simp only [execOp, hxv, Instr.storeAt, Instr.sureAddr, Sem.run_bind, Sem.run_pure, Result.andThen_ok, storeVar, ht, hone.1, ne_eq]
    simp only [List.size_toArray, List.length_cons, List.length_nil, Nat.zero_add, not_true_eq_false, if_false]
    show ((storeCells ⟨G.r l, 0, none⟩ [a.eval y]).run P w).andThen _ = _
    rw [hst]
    have e : (List.take (0 + 0) vs.toArray.toList ++ [a.eval y] ++ List.drop (0 + 0 + [a.eval y].length) vs.toArray.toList) = [a.eval y] := by
      rw [List.drop_of_length_le (by simp; omega), List.append_nil]; rfl
    rw [e]; rfl
  have hother : ∀ b, b ≠ G.r l → w'.heap[b]? = w.heap[b]? := fun b hb => setRow_other w _ b _ hb
  have hnew : w'.heap[G.r l]? = some (.cells #[a.eval y] T (0, 0)) := setRow_heap w _ vs.toArray _ T _ hhb
  have hsz : w'.heap.size = w.heap.size := by simp [w', World.setRow]
  have hnold : ∀ b, C.old b → b ≠ G.r l := fun b hb e => (hG.1 _ _ hg).1 (e ▸ hb)
  have hbel : Stays C.old w w' := ⟨rfl, rfl, rfl, by omega, fun b hb => hother b (hnold b hb), fun b _ => by
    by_cases hb : b = G.r l
    · rw [hb, hnew, hhb]; simp [rowForm, hvl]
    · rw [hother b hb]⟩
  have hqr : ∀ b, G.g b = some q → b ≠ G.r l := fun b hb e => by subst e; rw [hg] at hb; exact hlq (Option.some.inj hb)
  unfold Oper.wp
  rw [hrun, Oper.upon_skip]
  refine hK' _ _ _ hK ⟨hS.fp, hS.below.trans hbel, hS.dfs, hS.size, G, ⟨fun b j hb => by rw [hsz]; exact hG.1 b j hb, hG.2⟩, fun s z hz => ?_⟩
  simp only [St.at] at hz
  split at hz
  · rename_i he; subst he
    simp only [Option.some.injEq] at hz; subst hz
    refine ⟨a.eval y, hv, hg, hnew, hlq, us, ⟨ho.1, ?_⟩, hyb, RepL.mono (fun _ h => h) (fun b hb => hother b (hqr b hb.1)) cs us hc⟩
    rcases ho.2 with hn | ⟨g, cap, cur, hvv, hbg, hgg, rest⟩
    · exact .inl hn
    · exact .inr ⟨g, cap, cur, hvv, hbg, by rw [hother g (hqr g (hyb g (by rw [hvv]; rfl)).2)]; exact hgg, rest⟩
  · rcases kill_at hz with rfl | ⟨hz', hl⟩
    · trivial
    · refine Ok.keep hS.fp hbel z _ (fun j hj => ⟨rfl, fun b hb => hb, fun b hb => hother b (fun e => ?_)⟩) (hE s z hz')
      subst e
      rw [hg] at hb
      exact hl (Option.some.inj hb ▸ hj)

/-- A row taken out of a variable: of its place nothing is said till one is stored there again. -/
theorem op_loadR {t : TypeId} (ht : OneTy P t) {x : Operand} {l off T e size m : Nat} {cs : List PV} {es : List (Option (Nat × List PV))} (h : Nat) (hx : σ.ev x = some (.adr l off) ∨ (off = 0 ∧ σ.ev x = some (.boxR l T e size es))) (hh : σ.at h = some (.boxR l T e size es)) (hi : es[off]? = some (some (m, cs)))
    (hd : d < n) (hd0 : d ≠ 2000) (hl0 : l ≠ 2000) (hfr : σ.labels.all (· != d) = true) (hK : K ((d, .own d e size m cs) :: σ.setR l (.boxR l T e size (es.set off none)))) : opT P n ⟨some d, .load t x, ty, pos, af, gd⟩ σ K := by
  intro C a w hS K' Q hK'
  obtain ⟨G, hG, hE⟩ := hS.gh
  have hfr' : ∀ q ∈ σ.labels, q ≠ d := by simpa using hfr
  obtain ⟨vs, hbv, hg, hhb, hr⟩ := hE h _ hh
  have hxv : a.eval x = .pointer (some ⟨G.r l, off, none⟩) := by
    rcases hx with hx | ⟨rfl, hx⟩
    · exact hE.ev hx
    · obtain ⟨_, hv, _⟩ := hE.ev hx; exact hv
  have hol : off < vs.length := by rw [hr.len]; exact (List.getElem?_eq_some_iff.1 hi).1
  have hu := List.getElem?_eq_getElem hol
  let u := vs[off]
  have hu : vs[off]? = some u := hu
  have hc0 : w.cell? ⟨G.r l, off, none⟩ = some u := by rw [cell_of_row w _ off _ T (0, 0) hhb]; simpa using hu
  obtain ⟨us, ho, hb, hc⟩ := hr.row off m cs u hi hu
  have hop : (execOp a.eval ⟨some d, .load t x, ty, pos, af, gd⟩).run P w = .ok (.value u) w := by
    simp [execOp, hxv, Instr.loadAt, Instr.sureAddr, run_loadVar_one ht hc0]
  unfold Oper.wp
  rw [hop, Oper.upon_value]
  let G' : Gh := ⟨fun b => if u.ownBlock = some b then some d else G.g b, fun q => if q = d then u.ownBlock.getD 0 else G.r q⟩
  have hld : l ≠ d := hfr' l (St.labels_at hh l (by simp [SV.labels]))
  have g2 : ∀ b q, u.ownBlock ≠ some b → G.g b = some q → G'.g b = some q := fun b q hn hq => by show (if u.ownBlock = some b then some d else G.g b) = _; rw [if_neg hn]; exact hq
  have hG' : G'.fits C w := by
    refine ⟨fun b q hq => ?_, ?_, fun b hx => ?_⟩
    · have hq' : (if u.ownBlock = some b then some d else G.g b) = some q := hq
      split at hq'
      · rename_i hv; exact hG.1 b l (hb b hv).1
      · exact hG.1 b q hq'
    · show (if 2000 = d then _ else G.r 2000) = _
      rw [if_neg (Ne.symm hd0)]; exact hG.2.1
    · have h2 := hG.2.2 b hx
      refine g2 b _ (fun hv => ?_) h2
      rw [(hb b hv).1] at h2; exact hl0 (Option.some.inj h2)
  have hrl : ∀ q ∈ σ.labels, G'.r q = G.r q := fun q hq => by show (if q = d then _ else G.r q) = G.r q; rw [if_neg (hfr' q hq)]
  have hlm : l ∈ σ.labels := St.labels_at hh l (by simp [SV.labels])
  have hE' : Env C (σ.setR l (.boxR l T e size (es.set off none))) a w G' := by
    intro s y' hy'
    rcases setR_at hy' with ⟨rfl, t2, e2, k2, es2, hz⟩ | rfl | ⟨⟨q, o, rfl⟩, hz⟩ | ⟨hx', hl⟩
    · obtain ⟨vs2, hv2, _, _, _⟩ := hE s _ hz
      refine ⟨vs, by rw [hrl l hlm]; exact hv2, by rw [hrl l hlm]; exact g2 _ _ (fun hv => (hb _ hv).2 rfl) hg, by rw [hrl l hlm]; exact hhb, ?_⟩
      have hr' := hr.drop off
      refine ⟨hr'.len, hr'.one, fun j nj cj xj h1 h2 => ?_, hr'.apart⟩
      obtain ⟨vj, oj, bj, rj⟩ := hr'.row j nj cj xj h1 h2
      refine ⟨vj, oj, fun b hv => ⟨g2 b l (fun hu' => ?_) (bj b hv).1, by rw [hrl l hlm]; exact (bj b hv).2⟩, rj⟩
      have hji : j ≠ off := fun e => by
        subst e
        rw [List.getElem?_set_self (by rw [← hr.len]; exact hol)] at h1; cases h1
      rw [List.getElem?_set_ne (Ne.symm hji)] at h1
      exact hr.apart off j _ _ u xj b (Ne.symm hji) hi h1 hu h2 hu' hv
    · trivial
    · have := hE s _ hz
      simp only [Ok] at this ⊢
      rw [hrl q (St.labels_at hz q (by simp [SV.labels]))]; exact this
    · refine Ok.keep hS.fp (Stays.refl _ _) y' _ (fun q hq => ⟨hrl q (St.labels_at hx' q hq), fun b hb' => ?_, fun _ _ => rfl⟩) (hE s y' hx')
      refine g2 b q (fun hv => ?_) hb'
      rw [(hb b hv).1] at hb'; exact hl (Option.some.inj hb' ▸ hq)
  refine hK' _ _ _ hK ?_
  have hS' : Sim n C (σ.setR l (.boxR l T e size (es.set off none))) a w := ⟨hS.fp, hS.below, hS.dfs, hS.size, G', hG', hE'⟩
  refine hS'.put hG' hE' hd ⟨us, ho, fun b hv => ⟨?_, ?_⟩, RepL.mono (fun _ h => h.elim) (fun _ h => h.elim) cs us hc⟩
  · show b = (if d = d then u.ownBlock.getD 0 else _)
    rw [if_pos rfl, hv]; rfl
  · show (if u.ownBlock = some b then some d else _) = _
    rw [if_pos hv]

/-- A row stored into a place of a variable. -/
theorem op_storeR {t : TypeId} (ht : ∀ w, (sizeOf t).run P w = .ok 1 w) {x y : Operand} {l off T e size m q : Nat} {cs : List PV} {es : List (Option (Nat × List PV))} {dst : Option Nat} (h : Nat) (hx : σ.ev x = some (.adr l off) ∨ (off = 0 ∧ σ.ev x = some (.boxR l T e size es))) (hh : σ.at h = some (.boxR l T e size es)) (hy : σ.ev y = some (.own q e size m cs))
    (hql : q ≠ l) (hq0 : q ≠ 2000) (hp : PV.flatL cs = true) (hi : off < es.length) (hdst : dst = none) (hK : K ((σ.setR l (.boxR l T e size (es.set off (some (m, cs))))).kill q)) : opT P n ⟨dst, .store t x y, ty, pos, af, gd⟩ σ K := by
  subst hdst
  intro C a w hS K' Q hK'
  obtain ⟨G, hG, hE⟩ := hS.gh
  obtain ⟨vs, hbv, hg, hhb, hr⟩ := hE h _ hh
  have hxv : a.eval x = .pointer (some ⟨G.r l, off, none⟩) := by
    rcases hx with hx | ⟨rfl, hx⟩
    · exact hE.ev hx
    · obtain ⟨_, hv, _⟩ := hE.ev hx; exact hv
  obtain ⟨us, ho, hyb, hc⟩ := hE.ev hy
  have hol : off < vs.length := by rw [hr.len]; exact hi
  have hone : (a.eval y).cells = #[a.eval y] ∧ (a.eval y).oneCell' = true := by
    rcases ho.2 with ⟨hv, _⟩ | ⟨g, cap, cur, hv, _⟩ <;> rw [hv] <;> exact ⟨rfl, rfl⟩
  let cur' : Array Value := (vs.take off ++ [a.eval y] ++ vs.drop (off + 1)).toArray
  have hset : vs.take off ++ [a.eval y] ++ vs.drop (off + 1) = vs.set off (a.eval y) := by
    rw [List.set_eq_take_append_cons_drop, if_pos hol]; simp
  let w' := w.setRow (G.r l) cur'
  have hrun : (execOp a.eval ⟨none, .store t x y, ty, pos, af, gd⟩).run P w = .ok .skip w' := by
    have hst := run_storeCells_at P (G.r l) off T [a.eval y] 0 vs.toArray w hhb (by simp; omega) (fun u hu => by simp at hu; subst hu; exact hone.2)
    simp only [Nat.add_zero] at hst
    simp only [execOp, hxv, Instr.storeAt, Instr.sureAddr, Sem.run_bind, Sem.run_pure, Result.andThen_ok, storeVar, ht, hone.1, ne_eq]
    simp only [List.size_toArray, List.length_cons, List.length_nil, Nat.zero_add, not_true_eq_false, if_false]
    show ((storeCells ⟨G.r l, off, none⟩ [a.eval y]).run P w).andThen _ = _
    rw [hst]; rfl
  have hother : ∀ b, b ≠ G.r l → w'.heap[b]? = w.heap[b]? := fun b hb => setRow_other w _ b _ hb
  have hnew : w'.heap[G.r l]? = some (.cells cur' T (0, 0)) := setRow_heap w _ vs.toArray _ T _ hhb
  have hsz : w'.heap.size = w.heap.size := by simp [w', World.setRow]
  have hcs' : cur'.size = vs.toArray.size := by
    show (vs.take off ++ [a.eval y] ++ vs.drop (off + 1)).length = vs.length
    rw [hset]; simp
  have hnold : ∀ b, C.old b → b ≠ G.r l := fun b hb e => (hG.1 _ _ hg).1 (e ▸ hb)
  have hbel : Stays C.old w w' := ⟨rfl, rfl, rfl, by omega, fun b hb => hother b (hnold b hb), fun b _ => by
    by_cases hb : b = G.r l
    · rw [hb, hnew, hhb]; simp [rowForm, hcs']
    · rw [hother b hb]⟩
  let G' : Gh := ⟨fun b => if G.g b = some q then some l else G.g b, G.r⟩
  have g1 : ∀ b, G.g b = some q → G'.g b = some l := fun b hb => by show (if G.g b = some q then some l else _) = _; rw [if_pos hb]
  have g2 : ∀ b j, j ≠ q → G.g b = some j → G'.g b = some j := fun b j hj hb => by
    show (if G.g b = some q then some l else G.g b) = _
    rw [hb, if_neg (fun e => hj (Option.some.inj e))]
  have hnr : ∀ b, G.g b = some q → b ≠ G.r l := fun b hb e => by subst e; rw [hg] at hb; exact hql (Option.some.inj hb).symm
  have hrow : RowS w' G' l e size m cs (a.eval y) := by
    refine ⟨us, ⟨ho.1, ?_⟩, fun b hb => ⟨g1 b (hyb b hb).2, hnr b (hyb b hb).2⟩, RepL.flat cs us hp hc⟩
    rcases ho.2 with hn | ⟨g, cap, cur, hvv, hbg, hgg, rest⟩
    · exact .inl hn
    · exact .inr ⟨g, cap, cur, hvv, hbg, by rw [hother g (hnr g (hyb g (by rw [hvv]; rfl)).2)]; exact hgg, rest⟩
  have happ : ∀ (j : Nat) o' z b, j ≠ off → es[j]? = some (some o') → vs[j]? = some z → (a.eval y).ownBlock = some b → z.ownBlock ≠ some b := by
    intro j o' z b _ h1 h2 h3 h4
    obtain ⟨n', cs'⟩ := o'
    obtain ⟨_, _, hb', _⟩ := hr.row j n' cs' z h1 h2
    have e1 := (hb' b h4).1
    have e2 := (hyb b h3).2
    rw [e1] at e2; exact hql (Option.some.inj e2).symm
  have hr' : RepS w' G' l e size (es.set off (some (m, cs))) (vs.set off (a.eval y)) :=
    (hr.keep (G' := G') (w' := w') rfl (fun b hb => g2 b l (Ne.symm hql) hb) (fun b _ hn => hother b hn)).set hi hone.2 hrow happ
  unfold Oper.wp
  rw [hrun, Oper.upon_skip]
  have hG' : G'.fits C w' := by
    refine ⟨fun b j hb => ?_, hG.2.1, fun b hb => g2 b 2000 (Ne.symm hq0) (hG.2.2 b hb)⟩
    have hb' : (if G.g b = some q then some l else G.g b) = some j := hb
    split at hb'
    · rename_i hc; have := hG.1 b q hc; exact ⟨this.1, by rw [hsz]; exact this.2⟩
    · have := hG.1 b j hb'; exact ⟨this.1, by rw [hsz]; exact this.2⟩
  refine hK' _ _ _ hK ⟨hS.fp, hS.below.trans hbel, hS.dfs, hS.size, G', hG', fun s z hz => ?_⟩
  rcases kill_at hz with rfl | ⟨hz1, hzq⟩
  · trivial
  rcases setR_at hz1 with ⟨rfl, t2, e2, k2, es2, hz⟩ | rfl | ⟨⟨j, o, rfl⟩, hz⟩ | ⟨hz', hl⟩
  · obtain ⟨vs2, hv2, _, _, _⟩ := hE s _ hz
    refine ⟨vs.set off (a.eval y), hv2, g2 _ _ (Ne.symm hql) hg, ?_, hr'⟩
    rw [← hset]; exact hnew
  · trivial
  · exact hE s _ hz
  · refine Ok.keep (G := G) (G' := G') hS.fp hbel z _ (fun j hj => ⟨rfl, fun b hb => g2 b j (fun e => hzq (e ▸ hj)) hb, fun b hb => hother b (fun e => ?_)⟩) (hE s z hz')
    subst e
    rw [hg] at hb
    exact hl (Option.some.inj hb ▸ hj)

/-- The array, out of its variable, which is not used any longer. -/
theorem op_loadArr {t k : Nat} (ht : AggTy P t k) {x : Operand} {l T e size : Nat} {es : List (Option (Nat × List PV))} (hx : σ.ev x = some (.boxR l T e size es)) (hk : es.length = k) (hd : d < n) (hK : K ((d, .arr l e size es) :: σ.kill l)) : opT P n ⟨some d, .load t x, ty, pos, af, gd⟩ σ K := by
  intro C a w hS K' Q hK'
  obtain ⟨G, hG, hE⟩ := hS.gh
  obtain ⟨vs, hv, hg, hhb, hr⟩ := hE.ev hx
  have hop : (execOp a.eval ⟨some d, .load t x, ty, pos, af, gd⟩).run P w = .ok (.value (.agg vs.toArray)) w := by
    have := run_loadVar_agg (P := P) ht (w := w) (b := G.r l) (o := 0) (us := vs) (by rw [hr.len, hk]) (fun j u hu => by rw [cell_of_row w _ (0 + j) _ T (0, 0) hhb]; simpa using hu)
    simp only [execOp, hv, Instr.loadAt, Instr.sureAddr, Sem.run_bind, Sem.run_pure, Result.andThen_ok, this]
  unfold Oper.wp
  rw [hop, Oper.upon_value]
  have hE' : Env C (σ.kill l) a w G := fun s z hz => by
    rcases kill_at hz with rfl | ⟨hz', _⟩
    · trivial
    · exact hE s z hz'
  refine hK' _ _ _ hK ?_
  have hS' : Sim n C (σ.kill l) a w := ⟨hS.fp, hS.below, hS.dfs, hS.size, G, hG, hE'⟩
  exact hS'.put hG hE' hd ⟨vs, rfl, hr⟩

/-- An element of an array of rows, to be read alone. -/
theorem q_index_arrV {t len e0 : Nat} (h1 : P.underlying t = some (.array len e0)) (hsz : ∀ w, (sizeOf e0).run P w = .ok 1 w) (ht : OneTy P e0) {x y : Operand} {k : IntKind} {i : Int} {l e size m : Nat} {cs : List PV} {es : List (Option (Nat × List PV))}
    (hx : σ.ev x = some (.arr l e size es)) (hy : σ.ev y = some (.val (.int k i))) (h2 : 0 ≤ i) (h3 : i < len) (hi : es[i.toNat]? = some (some (m, cs))) (hd : d < n) : quietT P n ⟨some d, .index t x y, ty, pos, af, gd⟩ σ d (.bor l (.sl m cs)) := by
  refine ⟨rfl, hd, fun C a w G hS hG hE => ?_⟩
  obtain ⟨vs, hv, hr⟩ := hE.ev hx
  have e2 := hE.ev hy
  simp only [Ok, Rep] at e2
  have hol : i.toNat < vs.length := by rw [hr.len]; exact (List.getElem?_eq_some_iff.1 hi).1
  have hu := List.getElem?_eq_getElem hol
  obtain ⟨us, ho, hb, hc⟩ := hr.row i.toNat m cs _ hi hu
  have hcc : 0 ≤ i ∧ i < (len : Int) := ⟨h2, h3⟩
  have hp : ∀ w2, (part e0 vs.toArray i.toNat).run P w2 = .ok vs[i.toNat] w2 := fun w2 => by simp [part, ht.1, hol]
  refine ⟨vs[i.toNat], fun w2 _ => ?_, own_rep ho (fun b hbb => .inl (hb b hbb).1) hc (fun _ h => h.elim)⟩
  simp [execOp, hv, e2, Instr.index, run_underlying h1, asIntOf, hcc, hsz, hp]

/-- An element of an array of rows, as one's own; the rest of the array is forgotten. -/
theorem op_index_arrO {t len e0 : Nat} (h1 : P.underlying t = some (.array len e0)) (hsz : ∀ w, (sizeOf e0).run P w = .ok 1 w) (ht : OneTy P e0) {x y : Operand} {k : IntKind} {i : Int} {l e size m : Nat} {cs : List PV} {es : List (Option (Nat × List PV))}
    (hx : σ.ev x = some (.arr l e size es)) (hy : σ.ev y = some (.val (.int k i))) (h2 : 0 ≤ i) (h3 : i < len) (hi : es[i.toNat]? = some (some (m, cs))) (hd : d < n) (hd0 : d ≠ 2000) (hl0 : l ≠ 2000) (hfr : σ.labels.all (· != d) = true)
    (hK : K ((d, .own d e size m cs) :: σ.kill l)) : opT P n ⟨some d, .index t x y, ty, pos, af, gd⟩ σ K := by
  intro C a w hS K' Q hK'
  obtain ⟨G, hG, hE⟩ := hS.gh
  have hfr' : ∀ q ∈ σ.labels, q ≠ d := by simpa using hfr
  obtain ⟨vs, hv, hr⟩ := hE.ev hx
  have e2 := hE.ev hy
  simp only [Ok, Rep] at e2
  have hol : i.toNat < vs.length := by rw [hr.len]; exact (List.getElem?_eq_some_iff.1 hi).1
  have hu := List.getElem?_eq_getElem hol
  obtain ⟨us, ho, hb, hc⟩ := hr.row i.toNat m cs _ hi hu
  have hcc : 0 ≤ i ∧ i < (len : Int) := ⟨h2, h3⟩
  have hp : ∀ w2, (part e0 vs.toArray i.toNat).run P w2 = .ok vs[i.toNat] w2 := fun w2 => by simp [part, ht.1, hol]
  have hop : (execOp a.eval ⟨some d, .index t x y, ty, pos, af, gd⟩).run P w = .ok (.value vs[i.toNat]) w := by
    simp [execOp, hv, e2, Instr.index, run_underlying h1, asIntOf, hcc, hsz, hp]
  generalize vs[i.toNat] = u at ho hb hop
  unfold Oper.wp
  rw [hop, Oper.upon_value]
  let G' : Gh := ⟨fun b => if u.ownBlock = some b then some d else G.g b, fun q => if q = d then u.ownBlock.getD 0 else G.r q⟩
  have g2 : ∀ b q, u.ownBlock ≠ some b → G.g b = some q → G'.g b = some q := fun b q hn hq => by show (if u.ownBlock = some b then some d else G.g b) = _; rw [if_neg hn]; exact hq
  have hG' : G'.fits C w := by
    refine ⟨fun b q hq => ?_, ?_, fun b hx => ?_⟩
    · have hq' : (if u.ownBlock = some b then some d else G.g b) = some q := hq
      split at hq'
      · rename_i hv; exact hG.1 b l (hb b hv).1
      · exact hG.1 b q hq'
    · show (if 2000 = d then _ else G.r 2000) = _
      rw [if_neg (Ne.symm hd0)]; exact hG.2.1
    · have h2 := hG.2.2 b hx
      refine g2 b _ (fun hv => ?_) h2
      rw [(hb b hv).1] at h2; exact hl0 (Option.some.inj h2)
  have hE' : Env C (σ.kill l) a w G' := by
    intro s y' hy'
    rcases kill_at hy' with rfl | ⟨hx', hl⟩
    · trivial
    · refine Ok.keep hS.fp (Stays.refl _ _) y' _ (fun q hq => ⟨?_, fun b hb' => ?_, fun _ _ => rfl⟩) (hE s y' hx')
      · show (if q = d then _ else G.r q) = G.r q
        rw [if_neg (hfr' q (St.labels_at hx' q hq))]
      · refine g2 b q (fun hv => ?_) hb'
        rw [(hb b hv).1] at hb'; exact hl (Option.some.inj hb' ▸ hq)
  refine hK' _ _ _ hK ?_
  have hS' : Sim n C (σ.kill l) a w := ⟨hS.fp, hS.below, hS.dfs, hS.size, G', hG', hE'⟩
  refine hS'.put hG' hE' hd ⟨us, ho, fun b hv => ⟨?_, ?_⟩, RepL.mono (fun _ h => h.elim) (fun _ h => h.elim) cs us hc⟩
  · show b = (if d = d then u.ownBlock.getD 0 else _)
    rw [if_pos rfl, hv]; rfl
  · show (if u.ownBlock = some b then some d else _) = _
    rw [if_pos hv]

/-- An array of rows stored into a variable. -/
theorem op_storeArr {t k : Nat} (ht : ∀ w, (sizeOf t).run P w = .ok k w) {x y : Operand} {l T e size q : Nat} {es es0 : List (Option (Nat × List PV))} {dst : Option Nat} (hx : σ.ev x = some (.boxR l T e size es0)) (hy : σ.ev y = some (.arr q e size es))
    (hql : q ≠ l) (hq0 : q ≠ 2000) (hk : es.length = k) (hk0 : es0.length = k) (hdst : dst = none) (hK : K ((σ.setR l (.boxR l T e size es)).kill q)) : opT P n ⟨dst, .store t x y, ty, pos, af, gd⟩ σ K := by
  subst hdst
  intro C a w hS K' Q hK'
  obtain ⟨G, hG, hE⟩ := hS.gh
  obtain ⟨vs, hxv, hg, hhb, hr⟩ := hE.ev hx
  obtain ⟨us, hyv, hr2⟩ := hE.ev hy
  have hul : us.length = k := by rw [hr2.len, hk]
  have hvl : vs.length = k := by rw [hr.len, hk0]
  let w' := w.setRow (G.r l) us.toArray
  have hrun : (execOp a.eval ⟨none, .store t x y, ty, pos, af, gd⟩).run P w = .ok .skip w' := by
    have hst := run_storeCells_at P (G.r l) 0 T us 0 vs.toArray w hhb (by simp; omega) hr2.one
    have hcells : (Value.agg us.toArray).cells = us.toArray := rfl
    simp only [execOp, hxv, hyv, Instr.storeAt, Instr.sureAddr, Sem.run_bind, Sem.run_pure, Result.andThen_ok, storeVar, ht, hcells, List.size_toArray, hul, ne_eq, not_true_eq_false, if_false]
    show ((storeCells ⟨G.r l, 0, none⟩ us).run P w).andThen _ = _
    rw [hst]
    have e : (List.take (0 + 0) vs.toArray.toList ++ us ++ List.drop (0 + 0 + us.length) vs.toArray.toList) = us := by
      rw [List.drop_of_length_le (by simp; omega), List.append_nil]; rfl
    rw [e]; rfl
  have hother : ∀ b, b ≠ G.r l → w'.heap[b]? = w.heap[b]? := fun b hb => setRow_other w _ b _ hb
  have hnew : w'.heap[G.r l]? = some (.cells us.toArray T (0, 0)) := setRow_heap w _ vs.toArray _ T _ hhb
  have hsz : w'.heap.size = w.heap.size := by simp [w', World.setRow]
  have hnold : ∀ b, C.old b → b ≠ G.r l := fun b hb e => (hG.1 _ _ hg).1 (e ▸ hb)
  have hbel : Stays C.old w w' := ⟨rfl, rfl, rfl, by omega, fun b hb => hother b (hnold b hb), fun b _ => by
    by_cases hb : b = G.r l
    · rw [hb, hnew, hhb]; simp [rowForm, hul, hvl]
    · rw [hother b hb]⟩
  let G' : Gh := ⟨fun b => if G.g b = some q then some l else G.g b, G.r⟩
  have g1 : ∀ b, G.g b = some q → G'.g b = some l := fun b hb => by show (if G.g b = some q then some l else _) = _; rw [if_pos hb]
  have g2 : ∀ b j, j ≠ q → G.g b = some j → G'.g b = some j := fun b j hj hb => by
    show (if G.g b = some q then some l else G.g b) = _
    rw [hb, if_neg (fun e => hj (Option.some.inj e))]
  have hnr : ∀ b, G.g b = some q → b ≠ G.r l := fun b hb e => by subst e; rw [hg] at hb; exact hql (Option.some.inj hb).symm
  have hr' : RepS w' G' l e size es us := by
    refine ⟨hr2.len, hr2.one, fun i m cs x h1 h2 => ?_, hr2.apart⟩
    obtain ⟨zs, ho, hb, hc⟩ := hr2.row i m cs x h1 h2
    refine ⟨zs, ⟨ho.1, ?_⟩, fun b hv => ⟨g1 b (hb b hv).1, hnr b (hb b hv).1⟩, RepL.mono (fun _ => id) (fun _ h => h.elim) cs zs hc⟩
    rcases ho.2 with hn | ⟨g, cap, cur, rfl, hbg, hgg, rest⟩
    · exact .inl hn
    · exact .inr ⟨g, cap, cur, rfl, hbg, by rw [hother g (hnr g (hb g rfl).1)]; exact hgg, rest⟩
  unfold Oper.wp
  rw [hrun, Oper.upon_skip]
  have hG' : G'.fits C w' := by
    refine ⟨fun b j hb => ?_, hG.2.1, fun b hb => g2 b 2000 (Ne.symm hq0) (hG.2.2 b hb)⟩
    have hb' : (if G.g b = some q then some l else G.g b) = some j := hb
    split at hb'
    · rename_i hc; have := hG.1 b q hc; exact ⟨this.1, by rw [hsz]; exact this.2⟩
    · have := hG.1 b j hb'; exact ⟨this.1, by rw [hsz]; exact this.2⟩
  refine hK' _ _ _ hK ⟨hS.fp, hS.below.trans hbel, hS.dfs, hS.size, G', hG', fun s z hz => ?_⟩
  rcases kill_at hz with rfl | ⟨hz1, hzq⟩
  · trivial
  rcases setR_at hz1 with ⟨rfl, t2, e2, k2, es2, hz⟩ | rfl | ⟨⟨j, o, rfl⟩, hz⟩ | ⟨hz', hl⟩
  · obtain ⟨vs2, hv2, _, _, _⟩ := hE s _ hz
    exact ⟨us, hv2, g2 _ _ (Ne.symm hql) hg, hnew, hr'⟩
  · trivial
  · exact hE s _ hz
  · refine Ok.keep (G := G) (G' := G') hS.fp hbel z _ (fun j hj => ⟨rfl, fun b hb => g2 b j (fun e => hzq (e ▸ hj)) hb, fun b hb => hother b (fun e => ?_)⟩) (hE s z hz')
    subst e
    rw [hg] at hb
    exact hl (Option.some.inj hb ▸ hj)

/-! ### copy -/

/-- A slice of one's own is filled by one as long. -/
theorem op_copy {t u e bytes : Nat} {zc : List PV} (hty : SlTy P t e 1 bytes zc) {x y : Operand} {l m : Nat} {cs ds : List PV} {sy : SV} (hs : List Nat) (hhs : ∀ s ∈ hs, σ.at s = some (.own l e 1 m cs)) (hx : σ.ev x = some (.own l e 1 m cs))
    (hy : σ.ev y = some sy) (hsy : sy.pv = some (.sl m ds)) (hf : PV.flatL ds = true) (hlen : ds.length = m) (hd : d < n) (hK : K ((d, .val (.int .i64 m)) :: σ.upd hs l ds)) :
    opT P n ⟨some d, .call { callee := .builtin .copy, args := #[x, y], argTypes := #[t, u] }, ty, pos, af, gd⟩ σ K := by
  intro C a w hS K' Q hK'
  obtain ⟨G, hG, hE⟩ := hS.gh
  obtain ⟨vs, ho, hob, hr⟩ := hE.ev hx
  have hoy := (hE.ev hy).rep hsy
  have hsz1 : (P.info? e).map (·.size) = some 1 := by
    obtain ⟨_, i, z, h2, _, h4, _⟩ := hty
    simp [h2, h4]
  have key : ∃ w' us, (Builtin.copy_ #[t, u] ty #[a.eval x, a.eval y]).run P w = .ok (goInt m) w' ∧ RepL w (fun _ => False) ds us ∧ w'.heap.size = w.heap.size ∧ w'.os = w.os ∧ w'.tape = w.tape ∧ w'.output = w.output ∧ (∀ b : Nat, (a.eval x).ownBlock ≠ some b → w'.heap[b]? = w.heap[b]?) ∧
      (∀ b : Nat, rowForm w'.heap[b]? = rowForm w.heap[b]?) ∧ w'.ownsRow 0 e 1 (a.eval x) m us := by
    by_cases hm : m = 0
    · subst hm
      have hds : ds = [] := List.eq_nil_of_length_eq_zero hlen
      subst hds
      refine ⟨w, [], ?_, rfl, rfl, rfl, rfl, rfl, fun _ _ => rfl, fun _ => rfl, ?_⟩
      · have hxv : ∃ ad cp, a.eval x = .slice ad 0 cp := by
          rcases ho.2 with ⟨hv, _⟩ | ⟨g, cap, cur, hv, _⟩
          · exact ⟨_, _, hv⟩
          · exact ⟨_, _, hv⟩
        have hyv : ∃ ad cp, a.eval y = .slice ad 0 cp := by
          simp only [Rep] at hoy
          rcases hoy with ⟨hv, _⟩ | ⟨b, off, cap, us, hv, _⟩
          · exact ⟨_, _, hv⟩
          · exact ⟨_, _, hv⟩
        obtain ⟨a1, c1, e1⟩ := hxv
        obtain ⟨a2, c2, e2⟩ := hyv
        rw [e1, e2]
        exact run_copy_none (P := P) w t u ty e a1 a2 0 c1 0 c2 hty.1 hsz1 (by rfl)
      · have hvs : vs = [] := List.eq_nil_of_length_eq_zero (by have := ho.1; simpa using this)
        rw [← hvs]; exact ho
    · rcases ho.2 with ⟨_, hm0⟩ | ⟨g, cap, cur, hv, hbg, hgg, hmc, hcm, hcs, htk⟩
      · exact absurd hm0 hm
      simp only [Rep] at hoy
      rcases hoy with ⟨_, hm0, _⟩ | ⟨b, off, cap2, us, hv2, hb2, hkc, hcell, hus⟩
      · exact absurd hm0 hm
      have hul : us.length = m := by rw [hus.length, hlen]
      have hrun := run_copy_row (P := P) w t u ty e g 0 m cap ⟨b, off, none⟩ m cap2 cur e us hty.1 hsz1 hgg (by rw [hul]; exact (Nat.min_self m).symm) (fun j v hj => by rw [Addr.add_lit]; exact hcell j v hj) (by rw [hul]; omega) hus.oneCells
      rw [← hv, ← hv2, hul] at hrun
      simp only [List.take_zero, List.nil_append, Nat.zero_add] at hrun
      have hcl : cur.toList.length = cap := by simp [hcs]
      have hnew := setRow_heap w g cur (us ++ cur.toList.drop m).toArray e (0, 0) hgg
      refine ⟨_, us, hrun, RepL.flat ds us hf hus, by simp [World.setRow], rfl, rfl, rfl, fun b' hb' => setRow_other w g b' _ (fun e => hb' (by rw [hv, e]; rfl)), fun b' => ?_, ⟨by rw [hul, Nat.mul_one], .inr ⟨g, cap, (us ++ cur.toList.drop m).toArray, hv, hbg, hnew, hmc, hcm, ?_, ?_⟩⟩⟩
      · by_cases hbb : b' = g
        · rw [hbb, hnew, hgg]; simp [rowForm, hul]; omega
        · rw [setRow_other w g b' _ hbb]
      · show (us ++ cur.toList.drop m).length = _
        simp [hul]; omega
      · show (us ++ cur.toList.drop m).take (m * 1) = us
        rw [Nat.mul_one, ← hul, List.take_left']; rfl
  obtain ⟨w', us, hrun, hus, hsz, hos, htp, hou, hother, hform, ho'⟩ := key
  have hop : (execOp a.eval ⟨some d, .call { callee := .builtin .copy, args := #[x, y], argTypes := #[t, u] }, ty, pos, af, gd⟩).run P w = .ok (.value (goInt m)) w' := by
    simp [execOp, resolve, invoke, builtin, hrun]
  unfold Oper.wp
  rw [hop, Oper.upon_value]
  have hlb : ∀ b, (a.eval x).ownBlock = some b → G.g b = some l := fun b hb => (hob b hb).2
  have hoth2 : ∀ b, G.g b ≠ some l → w'.heap[b]? = w.heap[b]? := fun b hb => hother b (fun e => hb (hlb b e))
  have hbel : Stays C.old w w' := ⟨hos, htp, hou, by omega, fun b hb => hoth2 b (fun e => (hG.1 b l e).1 hb), fun b _ => hform b⟩
  have hG' : G.fits C w' := ⟨fun b q hb => by rw [hsz]; exact hG.1 b q hb, hG.2⟩
  have hin : ∀ b, G.inn l b → w'.heap[b]? = w.heap[b]? := fun b hb => hother b (fun e => hb.2 (hob b e).1)
  have hE' : Env C (σ.upd hs l ds) a w' G := by
    intro s' y' hy'
    obtain ⟨z, hz, rfl⟩ := upd_at hy'
    split
    · rename_i hin'
      have hzs : z = .own l e 1 m cs := by
        have := hhs s' (by simpa using hin')
        rw [hz] at this; exact Option.some.inj this
      subst hzs
      obtain ⟨vs2, ho2, hob2, _⟩ := hE s' _ hz
      refine ⟨us, ?_, hob2, RepL.mono (fun _ h => h.elim) (fun _ h => h.elim) ds us hus⟩
      rcases ho2.2 with ⟨hv2, hm0⟩ | ⟨g, cap, cur, hv2, hbg, hgg, hmc, hcm, hcs, htk⟩
      · refine ⟨ho'.1, .inl ⟨hv2, hm0⟩⟩
      · have hg1 := (hob2 g (by rw [hv2]; rfl)).1
        rcases ho'.2 with ⟨hv1, hm0⟩ | ⟨g', cap', cur', hv1, hbg', hgg', hmc', hcm', hcs', htk'⟩
        · refine ⟨ho'.1, .inr ⟨g, cap, cur, hv2, hbg, ?_, hmc, hcm, hcs, ?_⟩⟩
          · rw [hother g (fun e => by rw [hv1] at e; simp [Value.ownBlock] at e)]; exact hgg
          · subst hm0
            have : us = [] := List.eq_nil_of_length_eq_zero (by have := ho'.1; simpa using this)
            rw [this]; simp
        · have hg2 := (hob g' (by rw [hv1]; rfl)).1
          have hgg2 : g' = g := hg2.trans hg1.symm
          subst hgg2
          have hcap : cap' = cap := by
            have h1 := hform g'
            rw [hgg', hgg] at h1
            simp only [rowForm, Option.some.injEq, Prod.mk.injEq] at h1
            have := h1.1
            omega
          subst hcap
          exact ⟨ho'.1, .inr ⟨g', cap', cur', hv2, hbg', hgg', hmc', hcm', hcs', htk'⟩⟩
    · split
      · rename_i had
        cases z with
        | adr q o => exact hE s' _ hz
        | _ => simp [SV.isAdr] at had
      · split
        · trivial
        · rename_i hl
          refine Ok.keep hS.fp hbel z _ (fun q hq => ⟨rfl, fun b hb => hb, fun b hb => hoth2 b (fun e => ?_)⟩) (hE s' z hz)
          rw [hb] at e
          exact hl (by simpa using (Option.some.inj e ▸ hq : l ∈ z.labels))
  refine hK' _ _ _ hK ?_
  have hS' : Sim n C (σ.upd hs l ds) a w' := ⟨hS.fp, hS.below.trans hbel, hS.dfs, hS.size, G, hG', hE'⟩
  exact hS'.put hG' hE' hd (by simp [Ok, Rep, goInt])

/-! ### A call of a function's value in a drawn region -/

theorem draw_callV {ops : Array Oper} {lo : List Oper} {fo : Operand} {sf : SV} {f : FuncId} {cs : List PV} {fs : List SV} {xs : List Operand} {ts : Array TypeId} {ps : List PV} {p : PV} (ss : List SV) (hf : σ.ev fo = some sf) (hc : sf.clos = some (f, cs, fs))
    (hss : σ.evs xs = some ss) (hps : pvs ss = some ps) (hcall : PCalls P f (ps ++ cs) (· = [.val p])) (hpf : p.flat = true) (hd : d < n)
    (hl : drawT P n ops lo ((d, .val p) :: σ) K) : drawT P n ops (⟨some d, .call { callee := .value fo, args := xs.toArray, argTypes := ts }, ty, pos, af, none⟩ :: lo) σ K := by
  intro C a w hS Q hQ
  obtain ⟨G, hG, hE⟩ := hS.gh
  obtain ⟨vs, hv, _, _, _⟩ := clos_ok (hE.ev hf) hc
  have run : ∀ w2, Below w.heap.size w w2 → Calls P f (xs.map a.eval ++ vs).toArray w2 fun e w3 => e = .returned p.toV ∧ Below w.heap.size w w3 ∧ Rep w3 (fun _ => False) p p.toV := by
    intro w2 hw2
    have hS2 := hS.later hw2
    have hB2 : C.B ≤ w2.heap.size := hS2.below.size
    have hE2 : Env C σ a w2 G := fun s x hx => Ok.keep hS.fp (Stays.of_below hw2 (fun k hk => Nat.lt_of_lt_of_le hk.1 hS.below.size)) x _ (fun l _ => ⟨rfl, fun _ hb => hb, fun b hb => hw2.block b (hG.1 b l hb).2⟩) (hE s x hx)
    have hG2 : G.fits C w2 := ⟨fun b l hb => by have h1 := hG.1 b l hb; have h2 := hw2.size; exact ⟨h1.1, by omega⟩, hG.2⟩
    obtain ⟨vs', hv', hcv, hfl, hff⟩ := clos_ok (hE2.ev hf) hc
    have hvv : vs' = vs := by
      rw [hv] at hv'
      injection hv' with _ _ h3
      exact (List.toArray_inj h3).symm
    subst hvv
    let ss' := ss ++ fs
    let C' := calleeC C G w2 false none 0 ss' (calleeX_gl hS hG false _ ss' hw2) (fun b hb => Nat.lt_of_lt_of_le (hG.1 b 0 hb).2 hw2.size)
    have hfeet : ∀ i b, feet C G ss' 0 i b → C'.old b := by
      intro i b hb
      unfold feet at hb
      rw [if_neg (by omega)] at hb
      cases hsi : ss'[i - 0]? with
      | none => simp only [hsi] at hb
      | some s =>
        simp only [hsi] at hb
        exact ⟨(foot_old hS2.fp hG2 hB2 hb).1, fun h => by cases h.1⟩
    have hfeq : ∀ j s, ss'[j]? = some s → C'.Fp j = foot C G s := fun j s hj => by
      show feet C G ss' 0 j = _
      unfold feet
      rw [if_neg (by omega), show j - 0 = j by omega, hj]
    have hargs : RepArgs w2 C'.Fp 0 (ps ++ cs) (xs.map a.eval ++ vs') := by
      refine repArgs_app (evs_ok hE2 hss hps _ 0 (fun j s hj => ?_)) (repArgs_of hcv (fun j hj => ?_))
      · rw [Nat.zero_add]
        exact hfeq j s (by rw [List.getElem?_append_left (List.getElem?_eq_some_iff.1 hj).1]; exact hj)
      · have hll := pvs_len hps
        have hjf : j < fs.length := by rw [hfl]; exact hj
        rw [Nat.zero_add, hfeq _ fs[j] (by rw [hll, List.getElem?_append_right (by omega), Nat.add_sub_cancel_left]; exact List.getElem?_eq_getElem hjf)]
        exact hff _ (List.getElem_mem hjf)
    have hex : ∀ b, C'.ex b → C'.old b := fun b hb => by
      rcases hb with hb | ⟨he, _⟩
      · exact ⟨Nat.lt_of_lt_of_le (hS2.fp.2 b hb).1 hB2, fun h => by cases h.1⟩
      · cases he
    have hrun := hcall.run C' (calleeG G none 0) undef (xs.map a.eval ++ vs') ⟨rfl, rfl, fun _ h => h⟩ ⟨hfeet, hex⟩ (fun h => by cases h) ⟨fun b q hb => by simp [calleeG] at hb, rfl, fun b hb => by cases hb.1⟩ (fun x hx => by cases hx) hargs
    refine Calls.mono hrun ?_
    rintro e w3 ⟨v, rs, cs', rfl, rfl, hst, G', us, _, hL, hv, _, _, _⟩
    obtain ⟨u, r, hu, h1, h2⟩ := hL
    simp only [OkL] at h2
    rw [h2] at hu
    rw [hu] at hv
    have hu2 := Rep.toV p u hpf h1
    have hv2 : v = p.toV := hv.trans hu2
    have hbel : Below w2.heap.size w2 w3 := (hst.mono (S' := (· < w2.heap.size)) (fun k hk => ⟨hk, fun h => by cases h.1⟩)).below
    refine ⟨congrArg Ending.returned hv2, hw2.trans (hbel.mono hw2.size), ?_⟩
    rw [← hu2]; exact h1
  unfold wpQuiet
  rw [if_pos (by simp [Region.wanted])]
  refine ⟨p.toV, fun w2 hw2 => ?_, ?_⟩
  · unfold Oper.quietAt
    have hrun : (execOp a.eval ⟨some d, .call { callee := .value fo, args := xs.toArray, argTypes := ts }, ty, pos, af, none⟩).run P w2 = .ok (.enter f (xs.map a.eval ++ vs).toArray) w2 := by
      have := hcall.ent (xs.map a.eval ++ vs).toArray w2
      simp [execOp, resolve, hv, Deferred.ofValue, invoke] at this ⊢
      exact this
    rw [hrun]
    exact ⟨rfl, (run w2 hw2).mono fun _ _ ⟨h1, h2, _⟩ => ⟨h1, h2⟩⟩
  · obtain ⟨e, w3, fr, ⟨_, _, h3⟩, _⟩ := run w (Below.refl _ _) []
    exact hl C _ w (hS.put hG hE hd (Rep.flat p _ hpf h3)) Q hQ

end
/-! ### Guarded calls in drawn regions; two pure ways made one -/
theorem code_seq_same {P : Program} {n : Nat} {σ : St} {Q : Exit → St → Prop} {x y : Code} (h1 : codeT P n x σ (Then (fun σ' => Imp n σ' σ) Q)) (h2 : codeT P n y σ Q) : codeT P n (.seq x y) σ Q :=
  code_seq fun K hK => codeT.mono h1 fun e σ' h => by
    cases e with
    | normal => exact hK σ' (h2.imp h)
    | _ => exact h

section
variable {P : Program} {n : Nat} {σ : St} {K : St → Prop} {d : Nat} {ty : TypeId} {pos : String} {af : Array Edge} {gd : Option (Nat × Bool)}
theorem draw_callW {ops : Array Oper} {l : List Oper} {f : FuncId} {xs : List Operand} {ts : Array TypeId} {ps : List PV} {p : PV} (ss : List SV) (hc : PCalls P f ps (· = [.val p])) (hf : p.flat = true) (hss : σ.evs xs = some ss) (hps : pvs ss = some ps) (hd : d < n) (hwant : ∀ C a w, Sim n C σ a w → Region.wanted ⟨some d, .call { callee := .value (.func f), args := xs.toArray, argTypes := ts }, ty, pos, af, gd⟩ (yielded ops a.tmps) = true)
    (hl : drawT P n ops l ((d, .val p) :: σ) K) : drawT P n ops (⟨some d, .call { callee := .value (.func f), args := xs.toArray, argTypes := ts }, ty, pos, af, gd⟩ :: l) σ K := by
  intro C a w hS Q hQ
  obtain ⟨G, hG, hE⟩ := hS.gh
  -- the call, in each later world
  have run : ∀ w2, Below w.heap.size w w2 → Calls P f (xs.map a.eval).toArray w2 fun e w3 => e = .returned p.toV ∧ Below w.heap.size w w3 ∧ Rep w3 (fun _ => False) p p.toV := by
    intro w2 hw2
    have hS2 := hS.later hw2
    have hB2 : C.B ≤ w2.heap.size := hS2.below.size
    have hE2 : Env C σ a w2 G := fun s x hx => Ok.keep hS.fp (Stays.of_below hw2 (fun k hk => Nat.lt_of_lt_of_le hk.1 hS.below.size)) x _ (fun l _ => ⟨rfl, fun _ hb => hb, fun b hb => hw2.block b (hG.1 b l hb).2⟩) (hE s x hx)
    have hG2 : G.fits C w2 := ⟨fun b l hb => by have h1 := hG.1 b l hb; have h2 := hw2.size; exact ⟨h1.1, by omega⟩, hG.2⟩
    let C' := calleeC C G w2 false none 0 ss (calleeX_gl hS hG false _ ss hw2) (fun b hb => Nat.lt_of_lt_of_le (hG.1 b 0 hb).2 hw2.size)
    have hfeet : ∀ i b, feet C G ss 0 i b → C'.old b := by
      intro i b hb
      unfold feet at hb
      rw [if_neg (by omega)] at hb
      cases hsi : ss[i - 0]? with
      | none => simp only [hsi] at hb
      | some s =>
        simp only [hsi] at hb
        exact ⟨(foot_old hS2.fp hG2 hB2 hb).1, fun h => by cases h.1⟩
    have hargs : RepArgs w2 C'.Fp 0 ps (xs.map a.eval) := evs_ok hE2 hss hps _ 0 (fun j s hj => by
      show feet C G ss 0 (0 + j) = _
      unfold feet
      rw [if_neg (by omega), show 0 + j - 0 = j by omega, hj])
    have hex : ∀ b, C'.ex b → C'.old b := fun b hb => by
      rcases hb with hb | ⟨he, _⟩
      · exact ⟨Nat.lt_of_lt_of_le (hS2.fp.2 b hb).1 hB2, fun h => by cases h.1⟩
      · cases he
    have hrun := hc.run C' (calleeG G none 0) undef (xs.map a.eval) ⟨rfl, rfl, fun _ h => h⟩ ⟨hfeet, hex⟩ (fun h => by cases h) ⟨fun b q hb => by simp [calleeG] at hb, rfl, fun b hb => by cases hb.1⟩ (fun x hx => by cases hx) hargs
    refine Calls.mono hrun ?_
    rintro e w3 ⟨v, rs, cs', rfl, rfl, hst, G', us, _, hL, hv, _, _, _⟩
    obtain ⟨u, r, hu, h1, h2⟩ := hL
    simp only [OkL] at h2
    rw [h2] at hu
    rw [hu] at hv
    have hu2 := Rep.toV p u hf h1
    have hv2 : v = p.toV := hv.trans hu2
    have hbel : Below w2.heap.size w2 w3 := (hst.mono (S' := (· < w2.heap.size)) (fun k hk => ⟨hk, fun h => by cases h.1⟩)).below
    refine ⟨congrArg Ending.returned hv2, hw2.trans (hbel.mono hw2.size), ?_⟩
    rw [← hu2]; exact h1
  unfold wpQuiet
  rw [if_pos (hwant C a w hS)]
  refine ⟨p.toV, fun w2 hw2 => ?_, ?_⟩
  · unfold Oper.quietAt
    have hrun : (execOp a.eval ⟨some d, .call { callee := .value (.func f), args := xs.toArray, argTypes := ts }, ty, pos, af, gd⟩).run P w2 = .ok (.enter f (xs.map a.eval).toArray) w2 := by
      simp [execOp, resolve, Act.eval, Deferred.ofValue, invoke]
      exact hc.ent _ _
    rw [hrun]
    exact ⟨rfl, (run w2 hw2).mono fun _ _ ⟨h1, h2, _⟩ => ⟨h1, h2⟩⟩
  · obtain ⟨e, w3, fr, ⟨_, _, h3⟩, _⟩ := run w (Below.refl _ _) []
    exact hl C _ w (hS.put hG hE hd (Rep.flat p _ hf h3)) Q hQ
theorem wanted_of {o : Oper} {ops : Array Oper} {j dj : Nat} {want : Bool} (hg : o.guard = some (j, want)) (hj : (ops[j]?).bind (·.dst) = some dj) (hdj : σ.at dj = some (.val (.bool want))) (hn : dj < n) : ∀ C a w, Sim n C σ a w → Region.wanted o (yielded ops a.tmps) = true := by
  intro C a w hS
  obtain ⟨G, hG, hE⟩ := hS.gh
  have hy : yielded ops a.tmps j = some want := by
    have := hE dj _ hdj
    simp only [Ok, Rep] at this
    unfold yielded
    rw [hj]
    have hlt : dj < a.tmps.size := by rw [hS.size]; exact hn
    simp only [Array.getD_eq_getD_getElem?, Array.getElem?_eq_getElem hlt, Option.getD_some] at this
    simp [Array.getElem?_eq_getElem hlt, this]
  simp only [Region.wanted, hg, hy]
  cases want <;> rfl
theorem draw_split {ops : Array Oper} {l : List Oper} {dj : Nat} {p : Prop} [Decidable p] (hdj : σ.at dj = some (.val (.bool (decide p)))) (h1 : p → drawT P n ops l ((dj, .val (.bool true)) :: σ) K) (h2 : ¬ p → drawT P n ops l ((dj, .val (.bool false)) :: σ) K) : drawT P n ops l σ K := by
  intro C a w hS
  by_cases hp : p
  · exact h1 hp C a w (Imp.setb hdj (decide_eq_true hp) C a w hS)
  · exact h2 hp C a w (Imp.setb hdj (decide_eq_false hp) C a w hS)
end

end Go.Proofs.YtfagllolcalfiaaDoor
