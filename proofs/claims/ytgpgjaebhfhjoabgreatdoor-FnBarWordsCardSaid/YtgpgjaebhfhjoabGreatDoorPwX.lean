/- A region that draws its order, whose operations make memory or call: one walk of the lexical order serves every order, where each operation adds one slot; what lies behind them all goes in its order. Own work; no conditions; nothing here is about one program. -/
import Derived.Test.YtgpgjaebhfhjoabGreatDoorPwW
namespace Go.Proofs.YtgpgjaebhfhjoabGreatDoor
open Go.RowKit
set_option linter.unusedVariables false
set_option linter.unusedSimpArgs false
structure Post (ws : St) (σ σ' : St) : Prop where
  at_ : ∀ s, σ'.at s = (ws.at s).or (σ.at s)
  lab : ∀ l ∈ σ'.labels, l ∈ σ.labels ∨ l ∈ ws.labels
def frh (L : Nat) (hs : List Nat) (σ : St) : Prop := match hs with
  | [] => σ.labels.all (fun l => l % 1000 != L) = true
  | _ :: _ => ∀ s y, s ∉ hs → σ.at s = some y → y.labels.all (fun l => l % 1000 != L) = true
def anyT (P : Program) (n : Nat) (o : Oper) (lex : St) (rd : List Nat) (L : Nat) (hs : List Nat) (ws : St) : Prop :=
  ∀ σ : St, (∀ s ∈ rd, σ.at s = lex.at s) → frh L hs σ → opT P n o σ fun σ' => Post ws σ σ'
def addT (P : Program) (n : Nat) (o : Oper) (lex : St) (rd : List Nat) (d : Nat) (x : SV) : Prop :=
  ∀ σ : St, (∀ s ∈ rd, σ.at s = lex.at s) → σ.labels.all (fun l => l % 1000 != d) = true → opT P n o σ fun σ' => σ' = (d, x) :: σ
theorem at_app : ∀ (ws σ : St) (s : Nat), St.at (ws ++ σ) s = (ws.at s).or (σ.at s)
  | [], σ, s => by simp [St.at]
  | (t, x) :: ws, σ, s => by
    simp only [List.cons_append, St.at]
    split
    · rfl
    · exact at_app ws σ s
theorem post_app (ws σ : St) : Post ws σ (ws ++ σ) := ⟨at_app ws σ, fun l hm => by
  simp only [St.labels, List.flatMap_append, List.mem_append] at hm
  exact hm.elim .inr .inl⟩
theorem addT.any {P : Program} {n : Nat} {o : Oper} {lex : St} {rd : List Nat} {d : Nat} {x : SV} (h : addT P n o lex rd d x) : anyT P n o lex rd d [] [(d, x)] := fun σ hag hf => (h σ hag hf).mono fun σ' e => e ▸ post_app [(d, x)] σ
abbrev AE := (List Nat × Nat × List Nat) × St
def lexT : St → List AE → St
  | σ, [] => σ
  | σ, e :: T => lexT (e.2 ++ σ) T
def needB (ops : List Oper) (i j : Nat) : Bool := match ops[i]? with
  | some o => o.after.toList.any fun e => Region.binds .any e && Nat.beq e.on j
  | none => false
def ancB (A : List (List Nat)) (i j : Nat) : Bool := (A.getD i []).any (Nat.beq j)
def allLt (k : Nat) (p : Nat → Bool) : Bool := match k with
  | 0 => true
  | k + 1 => p k && allLt k p
theorem allLt_ok : ∀ {k : Nat} {p : Nat → Bool}, allLt k p = true → ∀ i, i < k → p i = true
  | k + 1, p, h, i, hi => by
    simp only [allLt, Bool.and_eq_true] at h
    by_cases e : i = k
    · rw [e]; exact h.1
    · exact allLt_ok h.2 i (by omega)
def chkE (ops : List Oper) : Bool := allLt ops.length fun i => (match ops[i]? with | some o => o.after.toList.all (fun e => !(Region.binds .any e) || Nat.blt e.on i) | none => true)
def chkA (ops : List Oper) (A : List (List Nat)) : Bool := allLt ops.length fun i => (A.getD i []).all fun j => Nat.blt j i && (needB ops i j || (List.range i).any fun k => needB ops i k && ancB A k j)
def wrB (ws : St) (s : Nat) : Bool := ws.any fun w => Nat.beq w.1 s
theorem wrB_at : ∀ (ws : St) (s : Nat), wrB ws s = (ws.at s).isSome
  | [], s => rfl
  | (t, x) :: ws, s => by
    have ih := wrB_at ws s
    unfold wrB at ih ⊢
    simp only [List.any_cons, St.at]
    by_cases e : t = s
    · subst e; simp
    · rw [if_neg e, ← ih]
      cases hb : Nat.beq t s with
      | true => exact absurd (Nat.eq_of_beq_eq_true hb) e
      | false => rfl
theorem at_mem : ∀ {ws : St} {s : Nat} {x : SV}, ws.at s = some x → (s, x) ∈ ws
  | [], s, x, h => by simp [St.at] at h
  | (t, y) :: ws, s, x, h => by
    simp only [St.at] at h
    split at h
    · rename_i e; cases h; rw [e]; exact List.mem_cons_self
    · exact List.mem_cons_of_mem _ (at_mem h)
def chkR (A : List (List Nat)) (T : List AE) : Bool := allLt T.length fun i => allLt T.length fun j => Nat.beq i j || (match T[i]?, T[j]? with
  | some e, some f => !(e.1.1.any (wrB f.2)) || ancB A i j || ancB A j i
  | _, _ => true)
def chkD (A : List (List Nat)) (T : List AE) : Bool := allLt T.length fun i => allLt T.length fun j => Nat.beq i j || (match T[i]?, T[j]? with
  | some e, some f => !(e.2.any fun w => wrB f.2 w.1) || ancB A i j || ancB A j i
  | _, _ => true)
def ovrB (A : List (List Nat)) (T : List AE) (i : Nat) (j : Option Nat) (s : Nat) : Bool := (List.range T.length).any fun k => ancB A i k && (match j with | some j => Nat.blt j k | none => true) && (match T[k]? with | some g => wrB g.2 s | none => false)
def avoid (L : Nat) (y : SV) : Bool := y.labels.all fun l => !(Nat.beq (l % 1000) L)
def holdB (A : List (List Nat)) (T : List AE) (i : Nat) (j : Option Nat) (e : AE) (w : Nat × SV) : Bool := avoid e.1.2.1 w.2 || (!(e.1.2.2.isEmpty) && (e.1.2.2.any (Nat.beq w.1) || ovrB A T i j w.1))
def chkF (A : List (List Nat)) (T : List AE) : Bool := allLt T.length fun i => allLt T.length fun j => Nat.beq i j || (match T[i]?, T[j]? with
  | some e, some f => (f.2.all fun w => holdB A T i (some j) e w) || ancB A j i
  | _, _ => true)
def chkS (A : List (List Nat)) (σ : St) (T : List AE) : Bool := allLt T.length fun i => (match T[i]? with
  | some e => σ.all fun w => holdB A T i none e w
  | none => true)
theorem ancB_mem {A : List (List Nat)} {i j : Nat} (h : ancB A i j = true) : j ∈ A.getD i [] := by
  unfold ancB at h
  obtain ⟨k, hk, hb⟩ := List.any_eq_true.1 h
  rw [Nat.eq_of_beq_eq_true hb]; exact hk
section
variable {P : Program} {n : Nat} {σ0 : St} {ops : List Oper} {A : List (List Nat)} {T : List AE}
def rdyP (ops : List Oper) (lst : Nat → Bool) (i : Nat) : Prop := ∀ j, needB ops i j = true → lst j = true
theorem anc_lst (hE : chkE ops = true) (hA : chkA ops A = true) {lst : Nat → Bool} (hcl : ∀ i, lst i = true → rdyP ops lst i) : ∀ i, i < ops.length → rdyP ops lst i → ∀ j, ancB A i j = true → lst j = true := by
  intro i
  induction i using Nat.strongRecOn with
  | _ i ih =>
    intro hi hr j hj
    have h := allLt_ok hA i hi
    have h2 := List.all_eq_true.1 h j (ancB_mem hj)
    simp only [Bool.and_eq_true, Bool.or_eq_true] at h2
    rcases h2.2 with h3 | h3
    · exact hr j h3
    · obtain ⟨k, hk, h4⟩ := List.any_eq_true.1 h3
      simp only [Bool.and_eq_true] at h4
      have hki : k < i := by simpa using hk
      exact ih k hki (by omega) (hcl k (hr k h4.1)) j h4.2
structure RelA (σ0 : St) (T : List AE) (lst : Nat → Bool) (σ : St) : Prop where
  hit : ∀ (i : Nat) (e : AE) (s : Nat) (x : SV), T[i]? = some e → lst i = true → e.2.at s = some x → (∀ (j : Nat) (f : AE), T[j]? = some f → lst j = true → wrB f.2 s = true → j ≤ i) → σ.at s = some x
  miss : ∀ s, (∀ (i : Nat) (e : AE), T[i]? = some e → lst i = true → wrB e.2 s = false) → σ.at s = σ0.at s
  lab : ∀ l ∈ σ.labels, l ∈ σ0.labels ∨ ∃ (i : Nat) (e : AE), T[i]? = some e ∧ lst i = true ∧ l ∈ e.2.labels
  src : ∀ s y, σ.at s = some y → (σ0.at s = some y ∧ ∀ (i : Nat) (e : AE), T[i]? = some e → lst i = true → wrB e.2 s = false) ∨ ∃ (i : Nat) (e : AE), T[i]? = some e ∧ lst i = true ∧ e.2.at s = some y ∧ ∀ (j : Nat) (f : AE), T[j]? = some f → lst j = true → wrB f.2 s = true → j ≤ i
theorem wr_some {ws : St} {s : Nat} (h : wrB ws s = true) : ∃ x, ws.at s = some x := by
  rw [wrB_at] at h; exact Option.isSome_iff_exists.1 h
theorem wr_none {ws : St} {s : Nat} (h : wrB ws s = false) : ws.at s = none := by
  rw [wrB_at] at h
  cases e : ws.at s with
  | none => rfl
  | some x => rw [e] at h; cases h
theorem wr_of {ws : St} {s : Nat} {x : SV} (h : ws.at s = some x) : wrB ws s = true := by rw [wrB_at, h]; rfl
theorem lexT_at : ∀ {σ : St} {T : List AE}, (∀ (i : Nat) (e : AE) (s : Nat) (x : SV), T[i]? = some e → e.2.at s = some x → (∀ (j : Nat) (f : AE), T[j]? = some f → wrB f.2 s = true → j ≤ i) → (lexT σ T).at s = some x) ∧ ∀ s, (∀ (i : Nat) (e : AE), T[i]? = some e → wrB e.2 s = false) → (lexT σ T).at s = σ.at s
  | σ, [] => ⟨fun i e s x h => by simp at h, fun s _ => rfl⟩
  | σ, g :: T => by
    have ih := lexT_at (σ := g.2 ++ σ) (T := T)
    refine ⟨fun i e s x he hx hm => ?_, fun s hs => ?_⟩
    · cases i with
      | zero =>
        simp at he; subst he
        have := ih.2 s (fun i e h => by
          cases hw : wrB e.2 s with
          | false => rfl
          | true => have := hm (i + 1) e (by simpa using h) hw; omega)
        show (lexT (g.2 ++ σ) T).at s = some x
        rw [this, at_app, hx]; rfl
      | succ i => exact ih.1 i e s x (by simpa using he) hx fun j f hf k => by have := hm (j + 1) f (by simpa using hf) k; omega
    · have := ih.2 s (fun i e h => hs (i + 1) e (by simpa using h))
      show (lexT (g.2 ++ σ) T).at s = _
      rw [this, at_app, wr_none (hs 0 g (by simp)), Option.none_or]
theorem max_ex : ∀ (k : Nat) (p : Nat → Prop), (∃ i, i < k ∧ p i) → ∃ i, i < k ∧ p i ∧ ∀ j, j < k → p j → j ≤ i
  | 0, p, ⟨i, hi, _⟩ => by omega
  | k + 1, p, ⟨i, hi, hp⟩ => by
    by_cases h : p k
    · exact ⟨k, by omega, h, fun j hj _ => by omega⟩
    · have hik : i < k := by
        by_cases e : i = k
        · exact absurd (e ▸ hp) h
        · omega
      obtain ⟨m, h1, h2, h3⟩ := max_ex k p ⟨i, hik, hp⟩
      refine ⟨m, by omega, h2, fun j hj hpj => ?_⟩
      by_cases e : j = k
      · exact absurd (e ▸ hpj) h
      · exact h3 j (by omega) hpj
theorem chkD_ok (h : chkD A T = true) : ∀ (i j : Nat) (e f : AE) (s : Nat), T[i]? = some e → T[j]? = some f → i ≠ j → wrB e.2 s = true → wrB f.2 s = true → ancB A i j = true ∨ ancB A j i = true := by
  intro i j e f s h1 h2 hne hs hs2
  have hi := (List.getElem?_eq_some_iff.1 h1).1
  have hj := (List.getElem?_eq_some_iff.1 h2).1
  have := allLt_ok (allLt_ok h i hi) j hj
  simp only [h1, h2, Bool.or_eq_true, Bool.not_eq_true'] at this
  rcases this with h3 | (h3 | h3) | h3
  · exact absurd (Nat.eq_of_beq_eq_true h3) hne
  · obtain ⟨x, hx⟩ := wr_some hs
    have : (e.2.any fun w => wrB f.2 w.1) = true := List.any_eq_true.2 ⟨_, at_mem hx, hs2⟩
    rw [this] at h3; cases h3
  · exact .inl h3
  · exact .inr h3
theorem RelA.add {lst lst' : Nat → Bool} {σ σ' : St} (hD : chkD A T = true) (h : RelA σ0 T lst σ) {i : Nat} {e : AE} (hi : T[i]? = some e) (hl : ∀ j, lst' j = true ↔ (lst j = true ∨ j = i)) (hp : Post e.2 σ σ')
    (hafter : ∀ j, ancB A j i = true → lst j = false) (hlt : ∀ j k, k < T.length → ancB A k j = true → j < k) : RelA σ0 T lst' σ' := by
  have hd := chkD_ok hD
  have him := (List.getElem?_eq_some_iff.1 hi).1
  have hbef : ∀ (j : Nat) (f : AE) (s : Nat), T[j]? = some f → lst j = true → wrB f.2 s = true → wrB e.2 s = true → j ≠ i → j < i := fun j f s hf hlj hw hwe hji => by
    rcases hd j i f e s hf hi hji hw hwe with h1 | h1
    · rw [hafter j h1] at hlj; cases hlj
    · exact hlt j i him h1
  refine ⟨fun j f s x hf hj hx hm => ?_, fun s hs => ?_, fun l hm => ?_, fun s y hy => ?_⟩
  · by_cases hji : j = i
    · subst hji
      rw [hi] at hf; cases hf
      rw [hp.at_, hx]; rfl
    · have hlj := ((hl j).1 hj).resolve_right hji
      have hne : wrB e.2 s = false := by
        cases hw : wrB e.2 s with
        | false => rfl
        | true =>
          have h1 := hm i e hi ((hl i).2 (.inr rfl)) hw
          have h2 := hbef j f s hf hlj (wr_of hx) hw hji
          omega
      rw [hp.at_, wr_none hne, Option.none_or]
      exact h.hit j f s x hf hlj hx fun k g hg hk he => hm k g hg ((hl k).2 (.inl hk)) he
  · have hne := hs i e hi ((hl i).2 (.inr rfl))
    rw [hp.at_, wr_none hne, Option.none_or]
    exact h.miss s fun j f hf hj => hs j f hf ((hl j).2 (.inl hj))
  · rcases hp.lab l hm with hm | hm
    · rcases h.lab l hm with h1 | ⟨j, f, h1, h2, h3⟩
      · exact .inl h1
      · exact .inr ⟨j, f, h1, (hl j).2 (.inl h2), h3⟩
    · exact .inr ⟨i, e, hi, (hl i).2 (.inr rfl), hm⟩
  · rw [hp.at_] at hy
    cases hw : wrB e.2 s with
    | true =>
      obtain ⟨x, hx⟩ := wr_some hw
      rw [hx] at hy
      have hyx : x = y := by simpa using hy
      subst hyx
      refine .inr ⟨i, e, hi, (hl i).2 (.inr rfl), hx, fun j f hf hj hwf => ?_⟩
      by_cases hji : j = i
      · omega
      · have := hbef j f s hf (((hl j).1 hj).resolve_right hji) hwf hw hji
        omega
    | false =>
      rw [wr_none hw, Option.none_or] at hy
      rcases h.src s y hy with ⟨h1, h2⟩ | ⟨j, f, h1, h2, h3, h4⟩
      · refine .inl ⟨h1, fun k g hg hk => ?_⟩
        rcases (hl k).1 hk with hk | hk
        · exact h2 k g hg hk
        · subst hk; rw [hi] at hg; cases hg; exact hw
      · refine .inr ⟨j, f, h1, (hl j).2 (.inl h2), h3, fun k g hg hk hwg => ?_⟩
        rcases (hl k).1 hk with hk | hk
        · exact h4 k g hg hk hwg
        · subst hk; rw [hi] at hg; cases hg; rw [hw] at hwg; cases hwg
theorem RelA.all {lst : Nat → Bool} {σ : St} (h : RelA σ0 T lst σ) (hall : ∀ i, i < T.length → lst i = true) : Imp n σ (lexT σ0 T) := by
  have hl := lexT_at (σ := σ0) (T := T)
  intro C a w hS
  obtain ⟨G, hG, hE⟩ := hS.gh
  refine ⟨hS.fp, hS.below, hS.dfs, hS.size, G, hG, fun s x hx => ?_⟩
  by_cases hs : ∃ i, i < T.length ∧ ∃ e : AE, T[i]? = some e ∧ wrB e.2 s = true
  · obtain ⟨i, him, ⟨e, he, hw⟩, hm⟩ := max_ex T.length (fun i => ∃ e : AE, T[i]? = some e ∧ wrB e.2 s = true) hs
    obtain ⟨z, hz⟩ := wr_some hw
    rw [hl.1 i e s z he hz fun j f hf k => hm j (List.getElem?_eq_some_iff.1 hf).1 ⟨f, hf, k⟩] at hx
    cases hx
    exact hE _ _ (h.hit i e s _ he (hall i him) hz fun j f hf _ k => hm j (List.getElem?_eq_some_iff.1 hf).1 ⟨f, hf, k⟩)
  · have hs' : ∀ (i : Nat) (e : AE), T[i]? = some e → wrB e.2 s = false := fun i e he => by
      cases hw : wrB e.2 s with
      | false => rfl
      | true => exact absurd ⟨i, (List.getElem?_eq_some_iff.1 he).1, e, he, hw⟩ hs
    rw [hl.2 s hs'] at hx
    exact hE s x (by rw [h.miss s fun i e he _ => hs' i e he]; exact hx)
theorem avoid_ok {L : Nat} {y : SV} (h : avoid L y = true) : ∀ l ∈ y.labels, ¬ l % 1000 = L := fun l hl e => by
  have := List.all_eq_true.1 h l hl
  rw [e] at this; simp at this
theorem labels_mem {l : Nat} : ∀ {σ : St}, l ∈ σ.labels → ∃ w ∈ σ, l ∈ w.2.labels := fun {σ} h => by
  obtain ⟨w, h1, h2⟩ := List.mem_flatMap.1 h
  exact ⟨w, h1, h2⟩
theorem RelA.op {lst : Nat → Bool} {σ : St} (hE : chkE ops = true) (hA : chkA ops A = true) (hR : chkR A T = true) (hF : chkF A T = true) (hSs : chkS A σ0 T = true) (hTl : T.length ≤ ops.length)
    (hcl : ∀ i, lst i = true → rdyP ops lst i) (hlt : ∀ i, lst i = true → i < ops.length) (h : RelA σ0 T lst σ) {i : Nat} {e : AE} (hi : T[i]? = some e) (hni : lst i = false) (hr : rdyP ops lst i) :
    (∀ s ∈ e.1.1, σ.at s = (lexT σ0 (T.take i)).at s) ∧ frh e.1.2.1 e.1.2.2 σ ∧ (∀ j, ancB A j i = true → lst j = false) ∧ ∀ j k, k < T.length → ancB A k j = true → j < k := by
  have him := (List.getElem?_eq_some_iff.1 hi).1
  have hanc := anc_lst hE hA hcl
  have hafter : ∀ j, ancB A j i = true → lst j = false := fun j hj => by
    cases hlj : lst j with
    | false => rfl
    | true =>
      have := hanc j (hlt j hlj) (hcl j hlj) i hj
      rw [this] at hni; cases hni
  have hlt' : ∀ j k, k < ops.length → ancB A k j = true → j < k := fun j k hk hj => by
    have := List.all_eq_true.1 (allLt_ok hA k hk) j (ancB_mem hj)
    simp only [Bool.and_eq_true] at this
    exact Nat.blt_eq.mp this.1
  refine ⟨fun s hs => ?_, ?_, hafter, fun j k hk => hlt' j k (by omega)⟩
  · have htk : ∀ (j : Nat) (f : AE), (T.take i)[j]? = some f ↔ (T[j]? = some f ∧ j < i) := fun j f => by
      rw [List.getElem?_take]
      by_cases hj : j < i
      · rw [if_pos hj]; exact ⟨fun h => ⟨h, hj⟩, fun h => h.1⟩
      · rw [if_neg hj]; exact ⟨fun h => (by cases h), fun h => absurd h.2 hj⟩
    have hl := lexT_at (σ := σ0) (T := T.take i)
    have hw : ∀ (j : Nat) (f : AE), T[j]? = some f → wrB f.2 s = true → j ≠ i → (j < i ∧ lst j = true) ∨ (i < j ∧ lst j = false) := fun j f hf hfs hji => by
      have hjm := (List.getElem?_eq_some_iff.1 hf).1
      have := allLt_ok (allLt_ok hR i him) j hjm
      simp only [hi, hf, Bool.or_eq_true, Bool.not_eq_true'] at this
      rcases this with h1 | ((h1 | h1) | h1)
      · exact absurd (Nat.eq_of_beq_eq_true h1).symm hji
      · have : e.1.1.any (wrB f.2) = true := List.any_eq_true.2 ⟨s, hs, hfs⟩
        rw [this] at h1; cases h1
      · exact .inl ⟨hlt' j i (by omega) h1, hanc i (by omega) hr j h1⟩
      · exact .inr ⟨hlt' i j (by omega) h1, hafter j h1⟩
    by_cases hx : ∃ j, j < i ∧ ∃ f : AE, T[j]? = some f ∧ wrB f.2 s = true
    · obtain ⟨j, hji, ⟨f, hf, hwf⟩, hm⟩ := max_ex i (fun j => ∃ f : AE, T[j]? = some f ∧ wrB f.2 s = true) hx
      obtain ⟨z, hz⟩ := wr_some hwf
      have hlj : lst j = true := by
        rcases hw j f hf hwf (by omega) with h1 | h1
        · exact h1.2
        · omega
      rw [h.hit j f s z hf hlj hz fun k g hg hk hgs => ?_]
      · exact (hl.1 j f s z ((htk j f).2 ⟨hf, hji⟩) hz fun k g hg hgs => hm k ((htk k g).1 hg).2 ⟨g, ((htk k g).1 hg).1, hgs⟩).symm
      · by_cases hki : k = i
        · subst hki; rw [hni] at hk; cases hk
        · rcases hw k g hg hgs hki with h1 | h1
          · exact hm k h1.1 ⟨g, hg, hgs⟩
          · rw [h1.2] at hk; cases hk
    · rw [h.miss s fun k g hg hk => ?_, hl.2 s fun k g hg => ?_]
      · cases hgs : wrB g.2 s with
        | false => rfl
        | true => exact absurd ⟨k, ((htk k g).1 hg).2, g, ((htk k g).1 hg).1, hgs⟩ hx
      · cases hgs : wrB g.2 s with
        | false => rfl
        | true =>
          by_cases hki : k = i
          · subst hki; rw [hni] at hk; cases hk
          · rcases hw k g hg hgs hki with h1 | h1
            · exact absurd ⟨k, h1.1, g, hg, hgs⟩ hx
            · rw [h1.2] at hk; cases hk
  · have hS1 : ∀ w ∈ σ0, holdB A T i none e w = true := fun w hw => by
      have := allLt_ok hSs i him
      simp only [hi] at this
      exact List.all_eq_true.1 this w hw
    have hF1 : ∀ (j : Nat) (f : AE), T[j]? = some f → lst j = true → ∀ w ∈ f.2, holdB A T i (some j) e w = true := fun j f hf hlj w hw => by
      have hjm := (List.getElem?_eq_some_iff.1 hf).1
      have := allLt_ok (allLt_ok hF i him) j hjm
      simp only [hi, hf, Bool.or_eq_true] at this
      rcases this with h2 | (h2 | h2)
      · have := Nat.eq_of_beq_eq_true h2
        subst this; rw [hni] at hlj; cases hlj
      · exact List.all_eq_true.1 h2 w hw
      · rw [hafter j h2] at hlj; cases hlj
    have hovr : ∀ (j : Option Nat) (s : Nat), ovrB A T i j s = true → ∃ (k : Nat) (g : AE), T[k]? = some g ∧ lst k = true ∧ wrB g.2 s = true ∧ ∀ m, j = some m → m < k := fun j s ho => by
      obtain ⟨k, hk, hb⟩ := List.any_eq_true.1 ho
      simp only [Bool.and_eq_true] at hb
      cases hg : T[k]? with
      | none => rw [hg] at hb; exact absurd hb.2 (by simp)
      | some g =>
        rw [hg] at hb
        refine ⟨k, g, hg, hanc i (by omega) hr k hb.1.1, hb.2, fun m hm => ?_⟩
        subst hm
        exact Nat.blt_eq.mp hb.1.2
    unfold frh
    split
    · rename_i hnil
      rw [List.all_eq_true]
      intro l hl
      have hne : ¬ l % 1000 = e.1.2.1 := by
        have hno : ∀ (j : Option Nat) (w : Nat × SV), holdB A T i j e w = true → avoid e.1.2.1 w.2 = true := fun j w hw => by
          unfold holdB at hw
          rw [hnil] at hw
          simpa using hw
        rcases h.lab l hl with h1 | ⟨j, f, hf, hlj, h1⟩
        · obtain ⟨w, hw, hlw⟩ := labels_mem h1
          exact avoid_ok (hno _ w (hS1 w hw)) l hlw
        · obtain ⟨w, hw, hlw⟩ := labels_mem h1
          exact avoid_ok (hno _ w (hF1 j f hf hlj w hw)) l hlw
      simpa using hne
    · rename_i h0 hs0 hcons
      intro s y hs hy
      rw [List.all_eq_true]
      intro l hl
      have hne : ¬ l % 1000 = e.1.2.1 := by
        have hno : ∀ (j : Option Nat) (w : Nat × SV), w.1 = s → holdB A T i j e w = true → avoid e.1.2.1 w.2 = true ∨ ovrB A T i j s = true := fun j w hws hw => by
          unfold holdB at hw
          simp only [Bool.or_eq_true, Bool.and_eq_true] at hw
          rcases hw with hw | ⟨_, hw | hw⟩
          · exact .inl hw
          · exfalso
            obtain ⟨t, ht, hb⟩ := List.any_eq_true.1 hw
            have := Nat.eq_of_beq_eq_true hb
            rw [hws] at this
            exact hs (this ▸ ht)
          · exact .inr (hws ▸ hw)
        rcases h.src s y hy with ⟨h1, h2⟩ | ⟨j, f, hf, hlj, h1, h2⟩
        · rcases hno none (s, y) rfl (hS1 _ (at_mem h1)) with h3 | h3
          · exact avoid_ok h3 l hl
          · obtain ⟨k, g, hg, hk, hw, _⟩ := hovr none s h3
            rw [h2 k g hg hk] at hw; cases hw
        · rcases hno (some j) (s, y) rfl (hF1 j f hf hlj _ (at_mem h1)) with h3 | h3
          · exact avoid_ok h3 l hl
          · obtain ⟨k, g, hg, hk, hw, hjk⟩ := hovr (some j) s h3
            have h4 := h2 k g hg hk hw
            have h5 := hjk j rfl
            omega
      simpa using hne
end
end Go.Proofs.YtgpgjaebhfhjoabGreatDoor
