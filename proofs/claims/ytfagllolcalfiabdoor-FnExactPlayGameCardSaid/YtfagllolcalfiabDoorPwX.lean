/- A region that draws its order, whose operations make memory or call: one walk of the lexical order serves every order, where each operation adds one slot; what lies behind them all goes in its order. Own work; no conditions; nothing here is about one program. -/
import Derived.Test.YtfagllolcalfiabDoorPwW
namespace Go.Proofs.YtfagllolcalfiabDoor
open Go.RowKit
set_option linter.unusedVariables false
set_option linter.unusedSimpArgs false
structure Post (ws : St) (σ σ' : St) : Prop where
  at_ : ∀ s, σ'.at s = (ws.at s).or (σ.at s)
  lab : ∀ l ∈ σ'.labels, l ∈ σ.labels ∨ l ∈ ws.labels
def frh (L : Nat) (hs : List Nat) (σ : St) : Prop := match hs with
  | [] => σ.labels.all (fun l => l % 1000 != L) = true
  | _ :: _ => ∀ s y, s ∉ hs → σ.at s = some y → y.labels.all (fun l => l % 1000 != L) = true
def anyT (P : Program) (n : Nat) (o : Oper) (lex : St) (rd : List Nat) (L : Nat) (hs : List Nat) (ws : St) : Prop :=
  ∀ σ : St, (∀ s ∈ rd, σ.at s = lex.at s) → frh L hs σ → opT P n o σ fun σ' => Post ws σ σ'
def addT (P : Program) (n : Nat) (o : Oper) (lex : St) (rd : List Nat) (d : Nat) (x : SV) : Prop :=
  ∀ σ : St, (∀ s ∈ rd, σ.at s = lex.at s) → σ.labels.all (fun l => l % 1000 != d) = true → opT P n o σ fun σ' => σ' = (d, x) :: σ
theorem at_app : ∀ (ws σ : St) (s : Nat), St.at (ws ++ σ) s = (ws.at s).or (σ.at s)
  | [], σ, s => by simp [St.at]
  | (t, x) :: ws, σ, s => by
    simp only [List.cons_append, St.at]
    split
    · rfl
    · exact at_app ws σ s
theorem post_app (ws σ : St) : Post ws σ (ws ++ σ) := ⟨at_app ws σ, fun l hm => by
  simp only [St.labels, List.flatMap_append, List.mem_append] at hm
  exact hm.elim .inr .inl⟩
theorem addT.any {P : Program} {n : Nat} {o : Oper} {lex : St} {rd : List Nat} {d : Nat} {x : SV} (h : addT P n o lex rd d x) : anyT P n o lex rd d [] [(d, x)] := fun σ hag hf => (h σ hag hf).mono fun σ' e => e ▸ post_app [(d, x)] σ
abbrev AE := (List Nat × Nat × List Nat) × St
def anyL (P : Program) (n : Nat) : St → List Oper → List AE → Prop
  | _, _, [] => True
  | _, [], _ :: _ => False
  | lex, o :: os, e :: T => o.guard = none ∧ anyT P n o lex e.1.1 e.1.2.1 e.1.2.2 e.2 ∧ anyL P n (e.2 ++ lex) os T
def lexT : St → List AE → St
  | σ, [] => σ
  | σ, e :: T => lexT (e.2 ++ σ) T
theorem anyL_snoc {P : Program} {n : Nat} : ∀ {lex : St} {os : List Oper} {T : List AE} {o : Oper} {e : AE}, anyL P n lex os T → os[T.length]? = some o → o.guard = none → anyT P n o (lexT lex T) e.1.1 e.1.2.1 e.1.2.2 e.2 → anyL P n lex os (T ++ [e])
  | lex, os, [], o, e, h, ho, hg, hx => by
    cases os with
    | nil => simp at ho
    | cons o' os => simp at ho; subst ho; exact ⟨hg, hx, by cases os <;> trivial⟩
  | lex, [], _ :: _, o, e, h, ho, hg, hx => h.elim
  | lex, o' :: os, f :: T, o, e, h, ho, hg, hx => ⟨h.1, h.2.1, anyL_snoc h.2.2 (by simpa using ho) hg hx⟩
theorem anyL_at {P : Program} {n : Nat} : ∀ {lex : St} {os : List Oper} {T : List AE}, anyL P n lex os T → ∀ (i : Nat) (e : AE), T[i]? = some e → ∃ o, os[i]? = some o ∧ o.guard = none ∧ anyT P n o (lexT lex (T.take i)) e.1.1 e.1.2.1 e.1.2.2 e.2
  | lex, os, [], h, i, e, he => by simp at he
  | lex, [], _ :: _, h, i, e, he => h.elim
  | lex, o :: os, f :: T, h, 0, e, he => by simp at he; subst he; exact ⟨o, rfl, h.1, h.2.1⟩
  | lex, o :: os, f :: T, h, i + 1, e, he => by
    obtain ⟨o', h1, h2⟩ := anyL_at h.2.2 i e (by simpa using he)
    exact ⟨o', by simpa using h1, h2⟩
def needB (ops : List Oper) (i j : Nat) : Bool := match ops[i]? with
  | some o => o.after.toList.any fun e => Region.binds .any e && Nat.beq e.on j
  | none => false
def ancB (A : List (List Nat)) (i j : Nat) : Bool := (A.getD i []).any (Nat.beq j)
def allLt (k : Nat) (p : Nat → Bool) : Bool := match k with
  | 0 => true
  | k + 1 => p k && allLt k p
theorem allLt_ok : ∀ {k : Nat} {p : Nat → Bool}, allLt k p = true → ∀ i, i < k → p i = true
  | k + 1, p, h, i, hi => by
    simp only [allLt, Bool.and_eq_true] at h
    by_cases e : i = k
    · rw [e]; exact h.1
    · exact allLt_ok h.2 i (by omega)
def chkE (ops : List Oper) : Bool := allLt ops.length fun i => (match ops[i]? with | some o => o.after.toList.all (fun e => !(Region.binds .any e) || Nat.blt e.on i) | none => true)
def chkA (ops : List Oper) (A : List (List Nat)) : Bool := allLt ops.length fun i => (A.getD i []).all fun j => Nat.blt j i && (needB ops i j || (List.range i).any fun k => needB ops i k && ancB A k j)
def chkT (ops : List Oper) (A : List (List Nat)) (m : Nat) : Bool := allLt ops.length fun t => Nat.blt t m || allLt t fun j => ancB A t j
def wrB (ws : St) (s : Nat) : Bool := ws.any fun w => Nat.beq w.1 s
theorem wrB_at : ∀ (ws : St) (s : Nat), wrB ws s = (ws.at s).isSome
  | [], s => rfl
  | (t, x) :: ws, s => by
    have ih := wrB_at ws s
    unfold wrB at ih ⊢
    simp only [List.any_cons, St.at]
    by_cases e : t = s
    · subst e; simp
    · rw [if_neg e, ← ih]
      cases hb : Nat.beq t s with
      | true => exact absurd (Nat.eq_of_beq_eq_true hb) e
      | false => rfl
theorem at_mem : ∀ {ws : St} {s : Nat} {x : SV}, ws.at s = some x → (s, x) ∈ ws
  | [], s, x, h => by simp [St.at] at h
  | (t, y) :: ws, s, x, h => by
    simp only [St.at] at h
    split at h
    · rename_i e; cases h; rw [e]; exact List.mem_cons_self
    · exact List.mem_cons_of_mem _ (at_mem h)
def chkR (A : List (List Nat)) (T : List AE) : Bool := allLt T.length fun i => allLt T.length fun j => Nat.beq i j || (match T[i]?, T[j]? with
  | some e, some f => !(e.1.1.any (wrB f.2)) || ancB A i j || ancB A j i
  | _, _ => true)
def chkD (A : List (List Nat)) (T : List AE) : Bool := allLt T.length fun i => allLt T.length fun j => Nat.beq i j || (match T[i]?, T[j]? with
  | some e, some f => !(e.2.any fun w => wrB f.2 w.1) || ancB A i j || ancB A j i
  | _, _ => true)
def ovrB (A : List (List Nat)) (T : List AE) (i : Nat) (j : Option Nat) (s : Nat) : Bool := (List.range T.length).any fun k => ancB A i k && (match j with | some j => Nat.blt j k | none => true) && (match T[k]? with | some g => wrB g.2 s | none => false)
def avoid (L : Nat) (y : SV) : Bool := y.labels.all fun l => !(Nat.beq (l % 1000) L)
def holdB (A : List (List Nat)) (T : List AE) (i : Nat) (j : Option Nat) (e : AE) (w : Nat × SV) : Bool := avoid e.1.2.1 w.2 || (!(e.1.2.2.isEmpty) && (e.1.2.2.any (Nat.beq w.1) || ovrB A T i j w.1))
def chkF (A : List (List Nat)) (T : List AE) : Bool := allLt T.length fun i => allLt T.length fun j => Nat.beq i j || (match T[i]?, T[j]? with
  | some e, some f => (f.2.all fun w => holdB A T i (some j) e w) || ancB A j i
  | _, _ => true)
def chkS (A : List (List Nat)) (σ : St) (T : List AE) : Bool := allLt T.length fun i => (match T[i]? with
  | some e => σ.all fun w => holdB A T i none e w
  | none => true)
theorem ancB_mem {A : List (List Nat)} {i j : Nat} (h : ancB A i j = true) : j ∈ A.getD i [] := by
  unfold ancB at h
  obtain ⟨k, hk, hb⟩ := List.any_eq_true.1 h
  rw [Nat.eq_of_beq_eq_true hb]; exact hk
section
variable {P : Program} {n : Nat} {σ0 : St} {ops : List Oper} {A : List (List Nat)} {T : List AE}
def rdyP (ops : List Oper) (lst : Nat → Bool) (i : Nat) : Prop := ∀ j, needB ops i j = true → lst j = true
theorem anc_lst (hE : chkE ops = true) (hA : chkA ops A = true) {lst : Nat → Bool} (hcl : ∀ i, lst i = true → rdyP ops lst i) : ∀ i, i < ops.length → rdyP ops lst i → ∀ j, ancB A i j = true → lst j = true := by
  intro i
  induction i using Nat.strongRecOn with
  | _ i ih =>
    intro hi hr j hj
    have h := allLt_ok hA i hi
    have h2 := List.all_eq_true.1 h j (ancB_mem hj)
    simp only [Bool.and_eq_true, Bool.or_eq_true] at h2
    rcases h2.2 with h3 | h3
    · exact hr j h3
    · obtain ⟨k, hk, h4⟩ := List.any_eq_true.1 h3
      simp only [Bool.and_eq_true] at h4
      have hki : k < i := by simpa using hk
      exact ih k hki (by omega) (hcl k (hr k h4.1)) j h4.2
structure RelA (σ0 : St) (T : List AE) (lst : Nat → Bool) (σ : St) : Prop where
  hit : ∀ (i : Nat) (e : AE) (s : Nat) (x : SV), T[i]? = some e → lst i = true → e.2.at s = some x → (∀ (j : Nat) (f : AE), T[j]? = some f → lst j = true → wrB f.2 s = true → j ≤ i) → σ.at s = some x
  miss : ∀ s, (∀ (i : Nat) (e : AE), T[i]? = some e → lst i = true → wrB e.2 s = false) → σ.at s = σ0.at s
  lab : ∀ l ∈ σ.labels, l ∈ σ0.labels ∨ ∃ (i : Nat) (e : AE), T[i]? = some e ∧ lst i = true ∧ l ∈ e.2.labels
  src : ∀ s y, σ.at s = some y → (σ0.at s = some y ∧ ∀ (i : Nat) (e : AE), T[i]? = some e → lst i = true → wrB e.2 s = false) ∨ ∃ (i : Nat) (e : AE), T[i]? = some e ∧ lst i = true ∧ e.2.at s = some y ∧ ∀ (j : Nat) (f : AE), T[j]? = some f → lst j = true → wrB f.2 s = true → j ≤ i
theorem wr_some {ws : St} {s : Nat} (h : wrB ws s = true) : ∃ x, ws.at s = some x := by
  rw [wrB_at] at h; exact Option.isSome_iff_exists.1 h
theorem wr_none {ws : St} {s : Nat} (h : wrB ws s = false) : ws.at s = none := by
  rw [wrB_at] at h
  cases e : ws.at s with
  | none => rfl
  | some x => rw [e] at h; cases h
theorem wr_of {ws : St} {s : Nat} {x : SV} (h : ws.at s = some x) : wrB ws s = true := by rw [wrB_at, h]; rfl
theorem lexT_at : ∀ {σ : St} {T : List AE}, (∀ (i : Nat) (e : AE) (s : Nat) (x : SV), T[i]? = some e → e.2.at s = some x → (∀ (j : Nat) (f : AE), T[j]? = some f → wrB f.2 s = true → j ≤ i) → (lexT σ T).at s = some x) ∧ ∀ s, (∀ (i : Nat) (e : AE), T[i]? = some e → wrB e.2 s = false) → (lexT σ T).at s = σ.at s
  | σ, [] => ⟨fun i e s x h => by simp at h, fun s _ => rfl⟩
  | σ, g :: T => by
    have ih := lexT_at (σ := g.2 ++ σ) (T := T)
    refine ⟨fun i e s x he hx hm => ?_, fun s hs => ?_⟩
    · cases i with
      | zero =>
        simp at he; subst he
        have := ih.2 s (fun i e h => by
          cases hw : wrB e.2 s with
          | false => rfl
          | true => have := hm (i + 1) e (by simpa using h) hw; omega)
        show (lexT (g.2 ++ σ) T).at s = some x
        rw [this, at_app, hx]; rfl
      | succ i => exact ih.1 i e s x (by simpa using he) hx fun j f hf k => by have := hm (j + 1) f (by simpa using hf) k; omega
    · have := ih.2 s (fun i e h => hs (i + 1) e (by simpa using h))
      show (lexT (g.2 ++ σ) T).at s = _
      rw [this, at_app, wr_none (hs 0 g (by simp)), Option.none_or]
theorem max_ex : ∀ (k : Nat) (p : Nat → Prop), (∃ i, i < k ∧ p i) → ∃ i, i < k ∧ p i ∧ ∀ j, j < k → p j → j ≤ i
  | 0, p, ⟨i, hi, _⟩ => by omega
  | k + 1, p, ⟨i, hi, hp⟩ => by
    by_cases h : p k
    · exact ⟨k, by omega, h, fun j hj _ => by omega⟩
    · have hik : i < k := by
        by_cases e : i = k
        · exact absurd (e ▸ hp) h
        · omega
      obtain ⟨m, h1, h2, h3⟩ := max_ex k p ⟨i, hik, hp⟩
      refine ⟨m, by omega, h2, fun j hj hpj => ?_⟩
      by_cases e : j = k
      · exact absurd (e ▸ hpj) h
      · exact h3 j (by omega) hpj
theorem chkD_ok (h : chkD A T = true) : ∀ (i j : Nat) (e f : AE) (s : Nat), T[i]? = some e → T[j]? = some f → i ≠ j → wrB e.2 s = true → wrB f.2 s = true → ancB A i j = true ∨ ancB A j i = true := by
  intro i j e f s h1 h2 hne hs hs2
  have hi := (List.getElem?_eq_some_iff.1 h1).1
  have hj := (List.getElem?_eq_some_iff.1 h2).1
  have := allLt_ok (allLt_ok h i hi) j hj
  simp only [h1, h2, Bool.or_eq_true, Bool.not_eq_true'] at this
  rcases this with h3 | (h3 | h3) | h3
  · exact absurd (Nat.eq_of_beq_eq_true h3) hne
  · obtain ⟨x, hx⟩ := wr_some hs
    have : (e.2.any fun w => wrB f.2 w.1) = true := List.any_eq_true.2 ⟨_, at_mem hx, hs2⟩
    rw [this] at h3; cases h3
  · exact .inl h3
  · exact .inr h3
theorem RelA.add {lst lst' : Nat → Bool} {σ σ' : St} (hD : chkD A T = true) (h : RelA σ0 T lst σ) {i : Nat} {e : AE} (hi : T[i]? = some e) (hl : ∀ j, lst' j = true ↔ (lst j = true ∨ j = i)) (hp : Post e.2 σ σ')
    (hafter : ∀ j, ancB A j i = true → lst j = false) (hlt : ∀ j k, k < T.length → ancB A k j = true → j < k) : RelA σ0 T lst' σ' := by
  have hd := chkD_ok hD
  have him := (List.getElem?_eq_some_iff.1 hi).1
  have hbef : ∀ (j : Nat) (f : AE) (s : Nat), T[j]? = some f → lst j = true → wrB f.2 s = true → wrB e.2 s = true → j ≠ i → j < i := fun j f s hf hlj hw hwe hji => by
    rcases hd j i f e s hf hi hji hw hwe with h1 | h1
    · rw [hafter j h1] at hlj; cases hlj
    · exact hlt j i him h1
  refine ⟨fun j f s x hf hj hx hm => ?_, fun s hs => ?_, fun l hm => ?_, fun s y hy => ?_⟩
  · by_cases hji : j = i
    · subst hji
      rw [hi] at hf; cases hf
      rw [hp.at_, hx]; rfl
    · have hlj := ((hl j).1 hj).resolve_right hji
      have hne : wrB e.2 s = false := by
        cases hw : wrB e.2 s with
        | false => rfl
        | true =>
          have h1 := hm i e hi ((hl i).2 (.inr rfl)) hw
          have h2 := hbef j f s hf hlj (wr_of hx) hw hji
          omega
      rw [hp.at_, wr_none hne, Option.none_or]
      exact h.hit j f s x hf hlj hx fun k g hg hk he => hm k g hg ((hl k).2 (.inl hk)) he
  · have hne := hs i e hi ((hl i).2 (.inr rfl))
    rw [hp.at_, wr_none hne, Option.none_or]
    exact h.miss s fun j f hf hj => hs j f hf ((hl j).2 (.inl hj))
  · rcases hp.lab l hm with hm | hm
    · rcases h.lab l hm with h1 | ⟨j, f, h1, h2, h3⟩
      · exact .inl h1
      · exact .inr ⟨j, f, h1, (hl j).2 (.inl h2), h3⟩
    · exact .inr ⟨i, e, hi, (hl i).2 (.inr rfl), hm⟩
  · rw [hp.at_] at hy
    cases hw : wrB e.2 s with
    | true =>
      obtain ⟨x, hx⟩ := wr_some hw
      rw [hx] at hy
      have hyx : x = y := by simpa using hy
      subst hyx
      refine .inr ⟨i, e, hi, (hl i).2 (.inr rfl), hx, fun j f hf hj hwf => ?_⟩
      by_cases hji : j = i
      · omega
      · have := hbef j f s hf (((hl j).1 hj).resolve_right hji) hwf hw hji
        omega
    | false =>
      rw [wr_none hw, Option.none_or] at hy
      rcases h.src s y hy with ⟨h1, h2⟩ | ⟨j, f, h1, h2, h3, h4⟩
      · refine .inl ⟨h1, fun k g hg hk => ?_⟩
        rcases (hl k).1 hk with hk | hk
        · exact h2 k g hg hk
        · subst hk; rw [hi] at hg; cases hg; exact hw
      · refine .inr ⟨j, f, h1, (hl j).2 (.inl h2), h3, fun k g hg hk hwg => ?_⟩
        rcases (hl k).1 hk with hk | hk
        · exact h4 k g hg hk hwg
        · subst hk; rw [hi] at hg; cases hg; rw [hw] at hwg; cases hwg
theorem RelA.all {lst : Nat → Bool} {σ : St} (h : RelA σ0 T lst σ) (hall : ∀ i, i < T.length → lst i = true) : Imp n σ (lexT σ0 T) := by
  have hl := lexT_at (σ := σ0) (T := T)
  intro C a w hS
  obtain ⟨G, hG, hE⟩ := hS.gh
  refine ⟨hS.fp, hS.below, hS.dfs, hS.size, G, hG, fun s x hx => ?_⟩
  by_cases hs : ∃ i, i < T.length ∧ ∃ e : AE, T[i]? = some e ∧ wrB e.2 s = true
  · obtain ⟨i, him, ⟨e, he, hw⟩, hm⟩ := max_ex T.length (fun i => ∃ e : AE, T[i]? = some e ∧ wrB e.2 s = true) hs
    obtain ⟨z, hz⟩ := wr_some hw
    rw [hl.1 i e s z he hz fun j f hf k => hm j (List.getElem?_eq_some_iff.1 hf).1 ⟨f, hf, k⟩] at hx
    cases hx
    exact hE _ _ (h.hit i e s _ he (hall i him) hz fun j f hf _ k => hm j (List.getElem?_eq_some_iff.1 hf).1 ⟨f, hf, k⟩)
  · have hs' : ∀ (i : Nat) (e : AE), T[i]? = some e → wrB e.2 s = false := fun i e he => by
      cases hw : wrB e.2 s with
      | false => rfl
      | true => exact absurd ⟨i, (List.getElem?_eq_some_iff.1 he).1, e, he, hw⟩ hs
    rw [hl.2 s hs'] at hx
    exact hE s x (by rw [h.miss s fun i e he _ => hs' i e he]; exact hx)
theorem avoid_ok {L : Nat} {y : SV} (h : avoid L y = true) : ∀ l ∈ y.labels, ¬ l % 1000 = L := fun l hl e => by
  have := List.all_eq_true.1 h l hl
  rw [e] at this; simp at this
theorem labels_mem {l : Nat} : ∀ {σ : St}, l ∈ σ.labels → ∃ w ∈ σ, l ∈ w.2.labels := fun {σ} h => by
  obtain ⟨w, h1, h2⟩ := List.mem_flatMap.1 h
  exact ⟨w, h1, h2⟩
theorem RelA.op {lst : Nat → Bool} {σ : St} (hE : chkE ops = true) (hA : chkA ops A = true) (hR : chkR A T = true) (hF : chkF A T = true) (hSs : chkS A σ0 T = true) (hTl : T.length ≤ ops.length)
    (hcl : ∀ i, lst i = true → rdyP ops lst i) (hlt : ∀ i, lst i = true → i < ops.length) (h : RelA σ0 T lst σ) {i : Nat} {e : AE} (hi : T[i]? = some e) (hni : lst i = false) (hr : rdyP ops lst i) :
    (∀ s ∈ e.1.1, σ.at s = (lexT σ0 (T.take i)).at s) ∧ frh e.1.2.1 e.1.2.2 σ ∧ (∀ j, ancB A j i = true → lst j = false) ∧ ∀ j k, k < T.length → ancB A k j = true → j < k := by
  have him := (List.getElem?_eq_some_iff.1 hi).1
  have hanc := anc_lst hE hA hcl
  have hafter : ∀ j, ancB A j i = true → lst j = false := fun j hj => by
    cases hlj : lst j with
    | false => rfl
    | true =>
      have := hanc j (hlt j hlj) (hcl j hlj) i hj
      rw [this] at hni; cases hni
  have hlt' : ∀ j k, k < ops.length → ancB A k j = true → j < k := fun j k hk hj => by
    have := List.all_eq_true.1 (allLt_ok hA k hk) j (ancB_mem hj)
    simp only [Bool.and_eq_true] at this
    exact Nat.blt_eq.mp this.1
  refine ⟨fun s hs => ?_, ?_, hafter, fun j k hk => hlt' j k (by omega)⟩
  · have htk : ∀ (j : Nat) (f : AE), (T.take i)[j]? = some f ↔ (T[j]? = some f ∧ j < i) := fun j f => by
      rw [List.getElem?_take]
      by_cases hj : j < i
      · rw [if_pos hj]; exact ⟨fun h => ⟨h, hj⟩, fun h => h.1⟩
      · rw [if_neg hj]; exact ⟨fun h => (by cases h), fun h => absurd h.2 hj⟩
    have hl := lexT_at (σ := σ0) (T := T.take i)
    have hw : ∀ (j : Nat) (f : AE), T[j]? = some f → wrB f.2 s = true → j ≠ i → (j < i ∧ lst j = true) ∨ (i < j ∧ lst j = false) := fun j f hf hfs hji => by
      have hjm := (List.getElem?_eq_some_iff.1 hf).1
      have := allLt_ok (allLt_ok hR i him) j hjm
      simp only [hi, hf, Bool.or_eq_true, Bool.not_eq_true'] at this
      rcases this with h1 | ((h1 | h1) | h1)
      · exact absurd (Nat.eq_of_beq_eq_true h1).symm hji
      · have : e.1.1.any (wrB f.2) = true := List.any_eq_true.2 ⟨s, hs, hfs⟩
        rw [this] at h1; cases h1
      · exact .inl ⟨hlt' j i (by omega) h1, hanc i (by omega) hr j h1⟩
      · exact .inr ⟨hlt' i j (by omega) h1, hafter j h1⟩
    by_cases hx : ∃ j, j < i ∧ ∃ f : AE, T[j]? = some f ∧ wrB f.2 s = true
    · obtain ⟨j, hji, ⟨f, hf, hwf⟩, hm⟩ := max_ex i (fun j => ∃ f : AE, T[j]? = some f ∧ wrB f.2 s = true) hx
      obtain ⟨z, hz⟩ := wr_some hwf
      have hlj : lst j = true := by
        rcases hw j f hf hwf (by omega) with h1 | h1
        · exact h1.2
        · omega
      rw [h.hit j f s z hf hlj hz fun k g hg hk hgs => ?_]
      · exact (hl.1 j f s z ((htk j f).2 ⟨hf, hji⟩) hz fun k g hg hgs => hm k ((htk k g).1 hg).2 ⟨g, ((htk k g).1 hg).1, hgs⟩).symm
      · by_cases hki : k = i
        · subst hki; rw [hni] at hk; cases hk
        · rcases hw k g hg hgs hki with h1 | h1
          · exact hm k h1.1 ⟨g, hg, hgs⟩
          · rw [h1.2] at hk; cases hk
    · rw [h.miss s fun k g hg hk => ?_, hl.2 s fun k g hg => ?_]
      · cases hgs : wrB g.2 s with
        | false => rfl
        | true => exact absurd ⟨k, ((htk k g).1 hg).2, g, ((htk k g).1 hg).1, hgs⟩ hx
      · cases hgs : wrB g.2 s with
        | false => rfl
        | true =>
          by_cases hki : k = i
          · subst hki; rw [hni] at hk; cases hk
          · rcases hw k g hg hgs hki with h1 | h1
            · exact absurd ⟨k, h1.1, g, hg, hgs⟩ hx
            · rw [h1.2] at hk; cases hk
  · have hS1 : ∀ w ∈ σ0, holdB A T i none e w = true := fun w hw => by
      have := allLt_ok hSs i him
      simp only [hi] at this
      exact List.all_eq_true.1 this w hw
    have hF1 : ∀ (j : Nat) (f : AE), T[j]? = some f → lst j = true → ∀ w ∈ f.2, holdB A T i (some j) e w = true := fun j f hf hlj w hw => by
      have hjm := (List.getElem?_eq_some_iff.1 hf).1
      have := allLt_ok (allLt_ok hF i him) j hjm
      simp only [hi, hf, Bool.or_eq_true] at this
      rcases this with h2 | (h2 | h2)
      · have := Nat.eq_of_beq_eq_true h2
        subst this; rw [hni] at hlj; cases hlj
      · exact List.all_eq_true.1 h2 w hw
      · rw [hafter j h2] at hlj; cases hlj
    have hovr : ∀ (j : Option Nat) (s : Nat), ovrB A T i j s = true → ∃ (k : Nat) (g : AE), T[k]? = some g ∧ lst k = true ∧ wrB g.2 s = true ∧ ∀ m, j = some m → m < k := fun j s ho => by
      obtain ⟨k, hk, hb⟩ := List.any_eq_true.1 ho
      simp only [Bool.and_eq_true] at hb
      cases hg : T[k]? with
      | none => rw [hg] at hb; exact absurd hb.2 (by simp)
      | some g =>
        rw [hg] at hb
        refine ⟨k, g, hg, hanc i (by omega) hr k hb.1.1, hb.2, fun m hm => ?_⟩
        subst hm
        exact Nat.blt_eq.mp hb.1.2
    unfold frh
    split
    · rename_i hnil
      rw [List.all_eq_true]
      intro l hl
      have hne : ¬ l % 1000 = e.1.2.1 := by
        have hno : ∀ (j : Option Nat) (w : Nat × SV), holdB A T i j e w = true → avoid e.1.2.1 w.2 = true := fun j w hw => by
          unfold holdB at hw
          rw [hnil] at hw
          simpa using hw
        rcases h.lab l hl with h1 | ⟨j, f, hf, hlj, h1⟩
        · obtain ⟨w, hw, hlw⟩ := labels_mem h1
          exact avoid_ok (hno _ w (hS1 w hw)) l hlw
        · obtain ⟨w, hw, hlw⟩ := labels_mem h1
          exact avoid_ok (hno _ w (hF1 j f hf hlj w hw)) l hlw
      simpa using hne
    · rename_i h0 hs0 hcons
      intro s y hs hy
      rw [List.all_eq_true]
      intro l hl
      have hne : ¬ l % 1000 = e.1.2.1 := by
        have hno : ∀ (j : Option Nat) (w : Nat × SV), w.1 = s → holdB A T i j e w = true → avoid e.1.2.1 w.2 = true ∨ ovrB A T i j s = true := fun j w hws hw => by
          unfold holdB at hw
          simp only [Bool.or_eq_true, Bool.and_eq_true] at hw
          rcases hw with hw | ⟨_, hw | hw⟩
          · exact .inl hw
          · exfalso
            obtain ⟨t, ht, hb⟩ := List.any_eq_true.1 hw
            have := Nat.eq_of_beq_eq_true hb
            rw [hws] at this
            exact hs (this ▸ ht)
          · exact .inr (hws ▸ hw)
        rcases h.src s y hy with ⟨h1, h2⟩ | ⟨j, f, hf, hlj, h1, h2⟩
        · rcases hno none (s, y) rfl (hS1 _ (at_mem h1)) with h3 | h3
          · exact avoid_ok h3 l hl
          · obtain ⟨k, g, hg, hk, hw, _⟩ := hovr none s h3
            rw [h2 k g hg hk] at hw; cases hw
        · rcases hno (some j) (s, y) rfl (hF1 j f hf hlj _ (at_mem h1)) with h3 | h3
          · exact avoid_ok h3 l hl
          · obtain ⟨k, g, hg, hk, hw, hjk⟩ := hovr (some j) s h3
            have h4 := h2 k g hg hk hw
            have h5 := hjk j rfl
            omega
      simpa using hne
theorem filter_one (t : Nat) : ∀ k, (List.range k).filter (fun i => decide (i = t)) = if t < k then [t] else []
  | 0 => by simp
  | k + 1 => by
    rw [List.range_succ, List.filter_append, filter_one t k]
    by_cases h : k = t
    · subst h; simp
    · by_cases h2 : t < k
      · rw [if_pos h2, if_pos (by omega)]; simp [h]
      · rw [if_neg h2, if_neg (by omega)]; simp [h]
theorem mem_ready {listed : Array Bool} {i : Nat} (hsz : listed.size = ops.length) : i ∈ Region.ready .any ops.toArray listed ↔ i < ops.length ∧ listed.getD i false = false ∧ rdyP ops (fun j => listed.getD j false) i := by
  unfold Region.ready
  simp only [List.mem_filter, List.mem_range, List.size_toArray, Bool.and_eq_true, Bool.not_eq_true']
  constructor
  · rintro ⟨h1, h2, h3⟩
    have hl : listed.getD i true = listed.getD i false := by simp [Array.getD_eq_getD_getElem?, hsz, h1]
    refine ⟨h1, by rw [← hl]; exact h2, fun j hj => ?_⟩
    have ho : ops.toArray[i]? = some ops[i] := by simp [h1]
    rw [ho] at h3
    simp only [Option.map_some, Option.getD_some, Array.all_eq_true', Bool.or_eq_true, Bool.not_eq_true'] at h3
    unfold needB at hj
    rw [List.getElem?_eq_getElem h1] at hj
    obtain ⟨e, he, hb⟩ := List.any_eq_true.1 hj
    simp only [Bool.and_eq_true] at hb
    have := h3 e (by simpa using he)
    rw [hb.1] at this
    rw [← Nat.eq_of_beq_eq_true hb.2]
    simpa using this
  · rintro ⟨h1, h2, h3⟩
    have hl : listed.getD i true = listed.getD i false := by simp [Array.getD_eq_getD_getElem?, hsz, h1]
    refine ⟨h1, by rw [hl]; exact h2, ?_⟩
    have ho : ops.toArray[i]? = some ops[i] := by simp [h1]
    rw [ho]
    simp only [Option.map_some, Option.getD_some, Array.all_eq_true', Bool.or_eq_true, Bool.not_eq_true']
    intro e he
    cases hb : Region.binds .any e with
    | false => exact .inl rfl
    | true =>
      refine .inr (h3 e.on ?_)
      unfold needB
      rw [List.getElem?_eq_getElem h1]
      exact List.any_eq_true.2 ⟨e, by simpa using he, by simp [hb]⟩
theorem need_lt (hE : chkE ops = true) {i j : Nat} (h : needB ops i j = true) : j < i := by
  unfold needB at h
  split at h
  · rename_i o ho
    have hi := (List.getElem?_eq_some_iff.1 ho).1
    obtain ⟨e, he, hb⟩ := List.any_eq_true.1 h
    simp only [Bool.and_eq_true] at hb
    have h2 := allLt_ok hE i hi
    simp only [ho] at h2
    have h3 := List.all_eq_true.1 h2 e he
    simp only [hb.1, Bool.not_true, Bool.false_or] at h3
    rw [← Nat.eq_of_beq_eq_true hb.2]
    exact Nat.blt_eq.mp h3
  · cases h
theorem any_tail {P : Program} {Q : Exit → Act → World → Prop} (hE : chkE ops = true) (hA : chkA ops A = true) {m : Nat} (hTl : chkT ops A m = true) :
    ∀ (k t : Nat) (listed : Array Bool) (a : Act) (w : World), t + k = ops.length → m ≤ t → listed.size = ops.length → (∀ i, i < ops.length → listed.getD i false = decide (i < t)) →
      wpList P ops.toArray Q (ops.drop t) a w → wpAny P .any ops.toArray Q k listed a w := by
  have hrdy : ∀ (t : Nat) (listed : Array Bool), m ≤ t → listed.size = ops.length → (∀ i, i < ops.length → listed.getD i false = decide (i < t)) → Region.ready .any ops.toArray listed = if t < ops.length then [t] else [] := by
    intro t listed hmt hsz hls
    have hlst : ∀ i, listed.getD i false = decide (i < t) ∨ ops.length ≤ i := fun i => by
      by_cases hi : i < ops.length
      · exact .inl (hls i hi)
      · exact .inr (by omega)
    have hout : ∀ i, ops.length ≤ i → listed.getD i false = false := fun i hi => by simp [Array.getD_eq_getD_getElem?, hsz, hi]
    have hp : ∀ i, i < ops.length → (i ∈ Region.ready .any ops.toArray listed ↔ i = t) := by
      intro i hi
      rw [mem_ready hsz]
      constructor
      · rintro ⟨_, h2, h3⟩
        rw [hls i hi] at h2
        have hti : t ≤ i := by simpa using h2
        by_cases e : i = t
        · exact e
        · have hcl : ∀ k, listed.getD k false = true → rdyP ops (fun j => listed.getD j false) k := by
            intro k hk j hj
            have hkl : k < ops.length := by
              by_cases h : k < ops.length
              · exact h
              · rw [hout k (by omega)] at hk; cases hk
            rw [hls k hkl] at hk
            have hkt : k < t := by simpa using hk
            have hjk := need_lt hE hj
            show listed.getD j false = true
            rw [hls j (by omega)]; simp; omega
          have ha : ancB A i t = true := by
            have := allLt_ok hTl i hi
            simp only [Bool.or_eq_true] at this
            rcases this with h4 | h4
            · have := Nat.blt_eq.mp h4; omega
            · exact allLt_ok h4 t (by omega)
          have := anc_lst hE hA hcl i hi h3 t ha
          have h5 : listed.getD t false = true := this
          rw [hls t (by omega)] at h5
          simp at h5
      · rintro rfl
        refine ⟨hi, by rw [hls i hi]; simp, fun j hj => ?_⟩
        have hji := need_lt hE hj
        show listed.getD j false = true
        rw [hls j (by omega)]; simp; exact hji
    have hf : Region.ready .any ops.toArray listed = (List.range ops.length).filter fun i => decide (i = t) := by
      unfold Region.ready
      simp only [List.size_toArray]
      apply List.filter_congr
      intro i hi
      have hi' : i < ops.length := by simpa using hi
      have h1 := hp i hi'
      unfold Region.ready at h1
      simp only [List.mem_filter, List.mem_range, List.size_toArray, hi', true_and] at h1
      rw [Bool.eq_iff_iff, h1]; simp
    rw [hf, filter_one]
  intro k
  induction k with
  | zero =>
    intro t listed a w ht hmt hsz hls h
    have h0 : t = ops.length := by omega
    refine wpAny_done (by rw [hrdy t listed hmt hsz hls, if_neg (by omega)]) ?_ 0
    rw [List.drop_of_length_le (by omega)] at h
    exact h
  | succ k ih =>
    intro t listed a w ht hmt hsz hls h
    have hlt : t < ops.length := by omega
    refine wpAny_all (hrdy t listed hmt hsz hls) (by rw [if_pos hlt]; simp) ?_
    rw [if_pos hlt]
    intro i hi
    simp only [List.mem_singleton] at hi
    subst hi
    rw [List.drop_eq_getElem_cons hlt] at h
    have hn := fun a' w' => ih (i + 1) (listed.setIfInBounds i true) a' w' (by omega) (by omega) (by simpa using hsz) (fun j hj => by
      simp only [Array.getD_eq_getD_getElem?, Array.getElem?_setIfInBounds]
      have := hls j hj
      simp only [Array.getD_eq_getD_getElem?] at this
      by_cases hij : i = j
      · subst hij; simp [hsz, hlt]
      · simp only [if_neg hij, this]
        by_cases h3 : j < i
        · simp [h3]; omega
        · have : ¬ j < i + 1 := by omega
          simp [h3, this])
    unfold wpOp
    have ho : ops.toArray[i]? = some ops[i] := by simp [hlt]
    simp only [ho]
    unfold wpList at h
    split
    · rename_i hw; rw [if_pos hw] at h; exact h.imp (Oper.wp_mono hn) id
    · rename_i hw; rw [if_neg hw] at h; exact hn _ _ h
theorem cnt_add {m i : Nat} {p q : Nat → Bool} (hi : i < m) (hp : p i = false) (hq : ∀ j, q j = true ↔ (p j = true ∨ j = i)) : ∀ k, i < k → ((List.range k).filter q).length = ((List.range k).filter p).length + 1
  | 0, h => by omega
  | k + 1, h => by
    rw [List.range_succ, List.filter_append, List.filter_append, List.length_append, List.length_append]
    by_cases e : i = k
    · subst e
      have h1 : (List.range i).filter q = (List.range i).filter p := List.filter_congr fun j hj => by
        have hj' : j < i := by simpa using hj
        rw [Bool.eq_iff_iff, hq j]
        constructor
        · rintro (h | h)
          · exact h
          · omega
        · exact fun h => .inl h
      have h2 : q i = true := (hq i).2 (.inr rfl)
      rw [h1]; simp [h2, hp]
    · have ih := cnt_add hi hp hq k (by omega)
      have h1 : q k = p k := by
        rw [Bool.eq_iff_iff, hq k]
        constructor
        · rintro (h | h)
          · exact h
          · omega
        · exact fun h => .inl h
      rw [ih]; simp only [List.filter_cons, h1, List.filter_nil]
      split <;> simp <;> omega
theorem any_pre {P : Program} {n : Nat} {Q : Exit → Act → World → Prop} {C : Ctx} (hE : chkE ops = true) (hA : chkA ops A = true) (hTl : chkT ops A T.length = true) (hR : chkR A T = true) (hF : chkF A T = true) (hSs : chkS A σ0 T = true) (hD : chkD A T = true)
    (hlen : T.length ≤ ops.length) (hob : anyL P n σ0 ops T) (htail : ∀ a w, Sim n C (lexT σ0 T) a w → wpList P ops.toArray Q (ops.drop T.length) a w) :
    ∀ (k : Nat) (listed : Array Bool) (σ : St) (a : Act) (w : World), listed.size = ops.length → (∀ i, T.length ≤ i → listed.getD i false = false) → (∀ i, listed.getD i false = true → rdyP ops (fun j => listed.getD j false) i) →
      k + ((List.range T.length).filter fun i => listed.getD i false).length = ops.length → RelA σ0 T (fun i => listed.getD i false) σ → Sim n C σ a w → wpAny P .any ops.toArray Q k listed a w := by
  intro k
  induction k with
  | zero =>
    intro listed σ a w hsz hout hcl hcnt hrel hS
    have hall : ∀ i, i < T.length → listed.getD i false = true := by
      have h1 := List.length_filter_le (fun i => listed.getD i false) (List.range T.length)
      have h2 : ((List.range T.length).filter fun i => listed.getD i false).length = (List.range T.length).length := by rw [List.length_range] at h1 ⊢; omega
      have h3 := List.length_filter_eq_length_iff.1 h2
      intro i hi; exact h3 i (by simpa using hi)
    have hS2 := hrel.all hall C a w hS
    refine any_tail hE hA hTl 0 T.length listed a w ?_ (Nat.le_refl _) hsz (fun i hi => ?_) (htail a w hS2)
    · have h1 := List.length_filter_le (fun i => listed.getD i false) (List.range T.length)
      rw [List.length_range] at h1; omega
    · by_cases h : i < T.length
      · rw [hall i h]; simp [h]
      · rw [hout i (by omega)]; simp [h]
  | succ k ih =>
    intro listed σ a w hsz hout hcl hcnt hrel hS
    by_cases hall : ∀ i, i < T.length → listed.getD i false = true
    · have hS2 := hrel.all hall C a w hS
      have hfl : ((List.range T.length).filter fun i => listed.getD i false) = List.range T.length := List.filter_eq_self.2 fun i hi => hall i (by simpa using hi)
      rw [hfl, List.length_range] at hcnt
      refine any_tail hE hA hTl (k + 1) T.length listed a w (by omega) (Nat.le_refl _) hsz (fun i hi => ?_) (htail a w hS2)
      by_cases h : i < T.length
      · rw [hall i h]; simp [h]
      · rw [hout i (by omega)]; simp [h]
    · -- one that is ready
      have hex : ∃ i, i < T.length ∧ listed.getD i false = false := by
        apply Classical.byContradiction
        intro hn
        exact hall fun i hi => by
          cases hl : listed.getD i false with
          | true => rfl
          | false => exact absurd ⟨i, hi, hl⟩ hn
      have hltl : ∀ i, listed.getD i false = true → i < ops.length := fun i hi => by
        by_cases h : i < T.length
        · omega
        · rw [hout i (by omega)] at hi; cases hi
      have hanc := anc_lst hE hA (lst := fun j => listed.getD j false) hcl
      have hne : Region.ready .any ops.toArray listed ≠ [] := by
        obtain ⟨i, hi, hli⟩ := hex
        have key : ∀ b i, i ≤ b → i < T.length → listed.getD i false = false → ∃ j, j ∈ Region.ready .any ops.toArray listed := by
          intro b
          induction b with
          | zero =>
            intro i hib hi hli
            refine ⟨i, (mem_ready hsz).2 ⟨by omega, hli, fun j hj => ?_⟩⟩
            have := need_lt hE hj; omega
          | succ b ihb =>
            intro i hib hi hli
            by_cases hj : ∃ j, needB ops i j = true ∧ listed.getD j false = false
            · obtain ⟨j, hj1, hj2⟩ := hj
              have := need_lt hE hj1
              exact ihb j (by omega) (by omega) hj2
            · refine ⟨i, (mem_ready hsz).2 ⟨by omega, hli, fun j hj1 => ?_⟩⟩
              show listed.getD j false = true
              cases hl : listed.getD j false with
              | true => rfl
              | false => exact absurd ⟨j, hj1, hl⟩ hj
        obtain ⟨j, hj⟩ := key i i (Nat.le_refl _) hi hli
        intro e; rw [e] at hj; cases hj
      refine wpAny_all rfl hne fun i hi => ?_
      obtain ⟨h1, h2, h3⟩ := (mem_ready hsz).1 hi
      have him : i < T.length := by
        by_cases h : i < T.length
        · exact h
        · exfalso
          obtain ⟨j, hj, hlj⟩ := hex
          have h4 := allLt_ok hTl i h1
          simp only [Bool.or_eq_true] at h4
          rcases h4 with h4 | h4
          · exact h (Nat.blt_eq.mp h4)
          · have := hanc i h1 h3 j (allLt_ok h4 j (by omega))
            have h5 : listed.getD j false = true := this
            rw [hlj] at h5; cases h5
      obtain ⟨e, he⟩ : ∃ e, T[i]? = some e := ⟨T[i], by simp [him]⟩
      obtain ⟨o, ho, hg, hany⟩ := anyL_at hob i e he
      obtain ⟨hag, hfr, haf, hlt2⟩ := hrel.op hE hA hR hF hSs hlen hcl hltl he h2 h3
      have hset : ∀ j, (listed.setIfInBounds i true).getD j false = true ↔ (listed.getD j false = true ∨ j = i) := by
        intro j
        simp only [Array.getD_eq_getD_getElem?, Array.getElem?_setIfInBounds]
        by_cases hij : i = j
        · subst hij; simp [hsz, h1]
        · simp only [if_neg hij]
          constructor
          · exact fun h => .inl h
          · rintro (h | h)
            · exact h
            · exact absurd h.symm hij
      unfold wpOp
      have ho' : ops.toArray[i]? = some o := by simpa using ho
      simp only [ho']
      rw [if_pos (by simp [Region.wanted, hg])]
      refine .inl (hany σ hag hfr C a w hS _ _ fun σ' a' w' hσ hS' => ?_)
      refine ih (listed.setIfInBounds i true) _ a' w' (by simpa using hsz) (fun j hj => ?_) (fun j hj => ?_) ?_ (hrel.add hD he hset hσ haf hlt2) hS'
      · cases hl : (listed.setIfInBounds i true).getD j false with
        | false => rfl
        | true =>
          rcases (hset j).1 hl with h | h
          · rw [hout j hj] at h; cases h
          · omega
      · intro j' hj'
        show (listed.setIfInBounds i true).getD j' false = true
        rcases (hset j).1 hj with h | h
        · exact (hset j').2 (.inl (hcl j h j' hj'))
        · subst h; exact (hset j').2 (.inl (h3 j' hj'))
      · have := cnt_add (p := fun j => listed.getD j false) (q := fun j => (listed.setIfInBounds i true).getD j false) him h2 hset T.length him
        rw [this]; omega
theorem any_end {P : Program} {n : Nat} {id : Nat} {Q : Exit → St → Prop} (A : List (List Nat)) (hob : anyL P n σ0 ops T) (hm : P.follows .mixedOrders = true) (hlen : T.length ≤ ops.length) (hE : chkE ops = true) (hA : chkA ops A = true) (hTl : chkT ops A T.length = true) (hR : chkR A T = true) (hF : chkF A T = true) (hSs : chkS A σ0 T = true) (hD : chkD A T = true)
    (h : listT P n ops.toArray (ops.drop T.length) (lexT σ0 T) (Q .normal)) : codeT P n (.region id ops.toArray true) σ0 Q := by
  intro C a w hS N
  refine region_any hS hm ?_ N
  have hS2 : Sim n C σ0 a { w with drawn := w.drawn + 1 } := hS.later (Below.refl _ w).drew
  refine any_pre (C := C) hE hA hTl hR hF hSs hD hlen hob (fun a w hS => h C a w hS _ fun σ' a' w' hK hS' => ⟨rfl, σ', hK, hS'⟩) _ _ σ0 a _ (by simp) (fun i _ => ?_) (fun i hi => ?_) ?_ ⟨fun i e s x he hi _ _ => ?_, fun s _ => rfl, fun l hl => .inl hl, fun s y hy => .inl ⟨hy, fun i e he hi => ?_⟩⟩ hS2
  · simp [Array.getD_eq_getD_getElem?, Array.getElem?_replicate]; split <;> rfl
  · exfalso
    simp [Array.getD_eq_getD_getElem?, Array.getElem?_replicate] at hi
    split at hi <;> simp at hi
  · have : ((List.range T.length).filter fun i => (Array.replicate ops.toArray.size false).getD i false) = [] := List.filter_eq_nil_iff.2 fun i _ => by
      simp [Array.getD_eq_getD_getElem?, Array.getElem?_replicate]; split <;> simp
    rw [this]; simp
  · exfalso
    simp [Array.getD_eq_getD_getElem?, Array.getElem?_replicate] at hi
    split at hi <;> simp at hi
  · exfalso
    simp [Array.getD_eq_getD_getElem?, Array.getElem?_replicate] at hi
    split at hi <;> simp at hi
theorem any_start {P : Program} {n : Nat} {id : Nat} {Q : Exit → St → Prop} (h : anyL P n σ0 ops [] → codeT P n (.region id ops.toArray true) σ0 Q) : codeT P n (.region id ops.toArray true) σ0 Q := h (by cases ops <;> trivial)
theorem any_op {P : Program} {n : Nat} {o : Oper} {rd : List Nat} {d : Nat} {x : SV} {G : Prop} (hob : anyL P n σ0 ops T) (ho : ops[T.length]? = some o) (hg : o.guard = none) (hnr : rd.any (Nat.beq d) = false) (hx : addT P n o (lexT σ0 T) rd d x) (h : anyL P n σ0 ops (T ++ [((rd, d, []), [(d, x)])]) → G) : G := h (anyL_snoc (e := ((rd, d, []), [(d, x)])) hob ho hg hx.any)
theorem anyT_quiet {P : Program} {n : Nat} {o : Oper} {rd : List Nat} {lex : St} {d : Nat} {x : SV} (σc : St) (hc : Covers lex σc) (hk : (σc.all fun e => rd.any (Nat.beq e.1)) = true) (h : quietT P n o σc d x) : addT P n o lex rd d x := by
  intro σ hag _
  have hcov : Covers σ σc := by
    clear h
    induction σc with
    | nil => trivial
    | cons e r ih =>
      obtain ⟨s, y⟩ := e
      obtain ⟨h1, h2⟩ := hc
      simp only [List.all_cons, Bool.and_eq_true] at hk
      refine ⟨?_, ih h2 hk.2⟩
      obtain ⟨k, hk1, hk2⟩ := List.any_eq_true.1 hk.1
      have : s ∈ rd := by rw [show s = k from Nat.eq_of_beq_eq_true hk2]; exact hk1
      rw [hag s this]; exact h1
  have himp := imp_covers (n := n) hcov
  obtain ⟨h1, h2, h3⟩ := h
  refine op_q ⟨h1, h2, fun C a w G hS hG hE => ?_⟩ rfl
  have hE2 : Env C σc a w G := by
    have key : ∀ (σc : St), Covers σ σc → Env C σc a w G := by
      intro σc
      induction σc with
      | nil => intro _ s y hy; simp [St.at] at hy
      | cons e r ih =>
        obtain ⟨t, z⟩ := e
        rintro ⟨k1, k2⟩ s y hy
        simp only [St.at] at hy
        split at hy
        · rename_i he; subst he; cases hy; exact hE _ _ k1
        · exact ih k2 s y hy
    exact key σc hcov
  exact h3 C a w G (himp C a w hS) hG hE2
theorem flat_drop : ∀ (cs : List PV) (b : Nat), PV.flatL cs = true → PV.flatL (cs.drop b) = true
  | _, 0, h => h
  | [], _ + 1, h => h
  | c :: cs, b + 1, h => by
    simp only [PV.flatL, Bool.and_eq_true] at h
    exact flat_drop cs b h.2
theorem flat_take : ∀ (cs : List PV) (a : Nat), PV.flatL cs = true → PV.flatL (cs.take a) = true
  | _, 0, _ => rfl
  | [], _ + 1, h => h
  | c :: cs, a + 1, h => by
    simp only [PV.flatL, Bool.and_eq_true] at h
    simp only [List.take_succ_cons, PV.flatL, Bool.and_eq_true]
    exact ⟨h.1, flat_take cs a h.2⟩
theorem flat_part {cs : List PV} (h : PV.flatL cs = true) (a b : Nat) : PV.flatL ((cs.drop b).take a) = true := flat_take _ a (flat_drop cs b h)
theorem fr1000 {σ : St} {d : Nat} (h : σ.labels.all (fun l => l % 1000 != d) = true) (hd : d < 1000) : σ.labels.all (· != d) = true := by
  rw [List.all_eq_true] at h ⊢
  intro l hl
  have := h l hl
  simp only [bne_iff_ne, ne_eq] at this ⊢
  intro e; subst e; exact this (Nat.mod_eq_of_lt hd)
theorem evs_cons {σ : St} {x : Operand} {xs : List Operand} {s : SV} {ss : List SV} (h : σ.ev x = some s) (h2 : σ.evs xs = some ss) : σ.evs (x :: xs) = some (s :: ss) := by simp [St.evs, h, h2]
theorem evp_cons {σ : St} {i : Nat} {x : Operand} {xs : List (Nat × Operand)} {s : SV} {q : PV} {ps : List (Nat × PV)} (h : σ.ev x = some s) (hs : s.pv = some q) (hf : q.flat = true) (h2 : σ.evp xs = some ps) : σ.evp ((i, x) :: xs) = some ((i, q) :: ps) := by simp [St.evp, h, h2, hs, hf]
theorem evp_nil {σ : St} : σ.evp [] = some [] := rfl
theorem evs_nil {σ : St} : σ.evs [] = some [] := rfl
end
end Go.Proofs.YtfagllolcalfiabDoor
