/- The state of a frame over pure values, triples on operations, on regions and on code, and the calls' contracts. Own work; no conditions; nothing here is about one program. -/
import Derived.Test.YthgiialammjcbabDoorPwA
namespace Go.Proofs.YthgiialammjcbabDoor
open Go.RowKit

abbrev St := List (Nat × SV)

def St.at : St → Nat → Option SV
  | [], _ => none
  | (t, x) :: r, s => if t = s then some x else St.at r s

/-- A constant, as what a slot holds. -/
def cv1 : Value → Option PV
  | .bool b => some (.bool b)
  | .int k n => some (.int k n)
  | .string s => some (.str s.data.toList)
  | .slice none 0 0 => some (.sl 0 [])
  | _ => none

def cvs : List Value → Option (List PV)
  | [] => some []
  | v :: r => match cv1 v, cvs r with
    | some p, some ps => some (p :: ps)
    | _, _ => none

def cv : Value → Option PV
  | .agg vs => (cvs vs.toList).map .agg
  | v => cv1 v

def St.ev (σ : St) : Operand → Option SV
  | .tmp t => σ.at t
  | .const v => (cv v).map .val
  | .func f => some (.fn f)
  | .global _ => none

def Env (C : Ctx) (σ : St) (a : Act) (w : World) (G : Gh) : Prop :=
  ∀ s x, σ.at s = some x → Ok C w G x (a.tmps.getD s undef)

/-- The frame and the world are as the state says. -/
structure Sim (n : Nat) (C : Ctx) (σ : St) (a : Act) (w : World) : Prop where
  fp : (∀ i b, C.Fp i b → C.old b) ∧ ∀ b, C.ex b → C.old b
  below : Stays C.old C.w0 w
  dfs : a.defers = []
  size : a.tmps.size = n
  gh : ∃ G : Gh, G.fits C w ∧ Env C σ a w G

theorem cv1_ok {F : Nat → Prop} {w : World} {v : Value} {p : PV} (h : cv1 v = some p) : Rep w F p v ∧ p.one = true := by
  unfold cv1 at h
  split at h <;> simp at h <;> subst h <;> simp [Rep, PV.one]

theorem cvs_ok {F : Nat → Prop} {w : World} : ∀ {vs : List Value} {ps : List PV}, cvs vs = some ps → RepL w F ps vs
  | [], ps, h => by simp [cvs] at h; subst h; rfl
  | v :: r, ps, h => by
    unfold cvs at h
    split at h
    · rename_i p ps' h1 h2
      simp at h; subst h
      exact ⟨v, r, rfl, (cv1_ok (F := F) (w := w) h1).2, (cv1_ok h1).1, cvs_ok h2⟩
    · simp at h

theorem cv_ok {F : Nat → Prop} {w : World} {v : Value} {p : PV} (h : cv v = some p) : Rep w F p v := by
  unfold cv at h
  split at h
  · rename_i vs
    obtain ⟨ps, h1, rfl⟩ := Option.map_eq_some_iff.1 h
    simp only [Rep]
    exact ⟨vs.toList, by simp, cvs_ok h1⟩
  · exact (cv1_ok h).1

theorem Env.ev {C : Ctx} {σ : St} {a : Act} {w : World} {G : Gh} (hE : Env C σ a w G) {x : Operand} {s : SV} (h : σ.ev x = some s) :
    Ok C w G s (a.eval x) := by
  cases x with
  | tmp t => exact hE t s h
  | const v =>
    obtain ⟨p, hp, rfl⟩ := Option.map_eq_some_iff.1 h
    exact cv_ok hp
  | func f => simp [St.ev] at h; subst h; rfl
  | global g => simp [St.ev] at h

/-! ### Triples -/

/-- From whatever frame and world the state describes the operation goes on into one that a state of K describes. -/
def opT (P : Program) (n : Nat) (o : Oper) (σ : St) (K : St → Prop) : Prop :=
  ∀ C a w, Sim n C σ a w → ∀ (K' : Act → World → Prop) (Q : Exit → Act → World → Prop), (∀ σ' a' w', K σ' → Sim n C σ' a' w' → K' a' w') → o.wp P a w K' Q

/-- The rest l of a region's operations ops. -/
def listT (P : Program) (n : Nat) (ops : Array Oper) (l : List Oper) (σ : St) (K : St → Prop) : Prop :=
  ∀ C a w, Sim n C σ a w → ∀ (Q : Exit → Act → World → Prop), (∀ σ' a' w', K σ' → Sim n C σ' a' w' → Q .normal a' w') → wpList P ops Q l a w

def codeT (P : Program) (n : Nat) (c : Code) (σ : St) (Q : Exit → St → Prop) : Prop :=
  ∀ C a w, Sim n C σ a w → c.wp P (fun e a' w' => ∃ σ', Q e σ' ∧ Sim n C σ' a' w') a w

section
variable {P : Program} {n : Nat} {σ : St} {K : St → Prop} {ops : Array Oper} {l : List Oper}

theorem list_nil (h : K σ) : listT P n ops [] σ K := fun _ _ _ hS _ hQ => hQ _ _ _ h hS

theorem list_cons {o : Oper} (hg : o.guard = none) (h : opT P n o σ fun σ' => listT P n ops l σ' K) : listT P n ops (o :: l) σ K := by
  intro C a w hS Q hQ
  refine wpList_plain hg fun K' hK' => ?_
  exact h C a w hS K' Q fun σ' a' w' hl hS' => hK' _ _ (hl C a' w' hS' Q hQ)

/-- What is forgotten of a slot that the operation passes over. -/
theorem Sim.put_dead {C : Ctx} {a : Act} {w : World} (hS : Sim n C σ a w) {d : Nat} (hd : σ.at d = none) (v : Value) : Sim n C σ (a.put (some d) v) w := by
  refine ⟨hS.fp, hS.below, hS.dfs, by simpa [Act.put] using hS.size, ?_⟩
  obtain ⟨G, h1, h2⟩ := hS.gh
  refine ⟨G, h1, fun s x hx => ?_⟩
  have hne : s ≠ d := fun e => by rw [e, hd] at hx; cases hx
  have := h2 s x hx
  simp only [Act.put, Array.getD_eq_getD_getElem?] at this ⊢
  rw [Array.getElem?_setIfInBounds_ne (Ne.symm hne)]
  exact this

theorem list_guard {o : Oper} {d j dj : Nat} {want b : Bool} (hg : o.guard = some (j, want)) (hd : o.dst = some d) (hj : (ops[j]?).bind (·.dst) = some dj) (hdj : σ.at dj = some (.val (.bool b)))
    (hn : dj < n) (hdd : σ.at d = none) (h1 : b = want → opT P n o σ fun σ' => listT P n ops l σ' K) (h2 : b ≠ want → listT P n ops l σ K) : listT P n ops (o :: l) σ K := by
  intro C a w hS Q hQ
  have hy : yielded ops a.tmps j = some b := by
    obtain ⟨G, _, hE⟩ := hS.gh
    have := hE dj _ hdj
    simp only [Ok, Rep] at this
    unfold yielded
    rw [hj]
    have hlt : dj < a.tmps.size := by rw [hS.size]; exact hn
    simp only [Array.getD_eq_getD_getElem?, Array.getElem?_eq_getElem hlt, Option.getD_some] at this
    simp [Array.getElem?_eq_getElem hlt, this]
  refine wpList_step fun K' hK' => ?_
  have hw : Region.wanted o (yielded ops a.tmps) = (b == want) := by
    simp only [Region.wanted, hg, hy]
    cases b <;> cases want <;> rfl
  rw [hw]
  by_cases hb : b = want
  · rw [if_pos (by simp [hb])]
    exact h1 hb C a w hS K' Q fun σ' a' w' hl hS' => hK' _ _ (hl C a' w' hS' Q hQ)
  · rw [if_neg (by simp [hb]), hd]
    exact hK' _ _ (h2 hb C _ w (hS.put_dead hdd undef) Q hQ)

theorem opT.mono {o : Oper} {K' : St → Prop} (h : opT P n o σ K) (hk : ∀ σ', K σ' → K' σ') : opT P n o σ K' :=
  fun C a w hS L Q hL => h C a w hS L Q fun σ' a' w' hKs hS' => hL σ' a' w' (hk _ hKs) hS'

theorem listT.mono {K' : St → Prop} (h : listT P n ops l σ K) (hk : ∀ σ', K σ' → K' σ') : listT P n ops l σ K' :=
  fun C a w hS Q hQ => h C a w hS Q fun σ' a' w' hKs hS' => hQ σ' a' w' (hk _ hKs) hS'
end

section
variable {P : Program} {n : Nat} {σ : St} {Q : Exit → St → Prop}

theorem codeT.mono {c : Code} {Q' : Exit → St → Prop} (h : codeT P n c σ Q) (hq : ∀ e σ', Q e σ' → Q' e σ') : codeT P n c σ Q' :=
  fun C a w hS => wp_mono (h C a w hS) fun e _ _ ⟨σ', h1, h2⟩ => ⟨σ', hq e σ' h1, h2⟩

theorem code_region {id : Nat} {lo : List Oper} (h : listT P n lo.toArray lo σ (Q .normal)) : codeT P n (.region id lo.toArray false) σ Q :=
  fun C a w hS => wp_region_lit (h C a w hS _ fun σ' _ _ hk hS' => ⟨σ', hk, hS'⟩)

/-- Behind the first of two: what the second one asks, for a normal end. -/
def Then (K : St → Prop) (Q : Exit → St → Prop) : Exit → St → Prop
  | .normal, σ => K σ
  | e, σ => Q e σ

theorem code_seq {x y : Code} (h : ∀ K : St → Prop, (∀ σ', codeT P n y σ' Q → K σ') → codeT P n x σ (Then K Q)) : codeT P n (.seq x y) σ Q := by
  intro C a w hS
  refine wp_seq (wp_mono (h (fun σ' => codeT P n y σ' Q) (fun _ h => h) C a w hS) ?_)
  rintro e a' w' ⟨σ', h1, h2⟩
  cases e <;> first
    | exact h1 C a' w' h2
    | exact ⟨σ', h1, h2⟩

theorem code_skip (h : Q .normal σ) : codeT P n .skip σ Q := fun _ _ _ hS => wp_skip ⟨σ, h, hS⟩
theorem code_exit {id : Nat} (h : Q (.exit id) σ) : codeT P n (.exit id) σ Q := fun _ _ _ hS => wp_exit ⟨σ, h, hS⟩
theorem code_ret (h : Q .ret σ) : codeT P n .ret σ Q := fun _ _ _ hS => wp_ret ⟨σ, h, hS⟩

def InBlock (id : Nat) (Q : Exit → St → Prop) : Exit → St → Prop
  | .exit id', σ => if id' = id then Q .normal σ else Q (.exit id') σ
  | e, σ => Q e σ

theorem code_block {id : Nat} {c : Code} (h : codeT P n c σ (InBlock id Q)) : codeT P n (.block id c) σ Q := by
  intro C a w hS
  refine wp_block (wp_mono (h C a w hS) ?_)
  rintro e _ _ ⟨σ', h1, h2⟩
  cases e <;> try exact ⟨σ', h1, h2⟩
  rename_i id'
  simp only [Exit.inBlock, InBlock] at h1 ⊢
  split at h1
  · rename_i he; rw [if_pos he]; exact ⟨σ', h1, h2⟩
  · rename_i he; rw [if_neg he]; exact ⟨σ', h1, h2⟩

theorem code_cond {c : Operand} {x y : Code} {b : Bool} (hc : σ.ev c = some (.val (.bool b))) (ht : b = true → codeT P n x σ Q) (hf : b = false → codeT P n y σ Q) : codeT P n (.cond c x y) σ Q := by
  intro C a w hS
  obtain ⟨G, _, hE⟩ := hS.gh
  have he : a.eval c = .bool b := by simpa [Ok, Rep] using hE.ev hc
  exact wp_cond_split he (fun h => ht h C a w hS) (fun h => hf h C a w hS)

/-- σ' says no more than σ. -/
def St.ge (σ σ' : St) : Prop := ∀ s x, σ'.at s = some x → σ.at s = some x

theorem Sim.weaken {C : Ctx} {a : Act} {w : World} {σ' : St} (hS : Sim n C σ a w) (h : σ.ge σ') : Sim n C σ' a w := by
  obtain ⟨G, h1, h2⟩ := hS.gh
  exact ⟨hS.fp, hS.below, hS.dfs, hS.size, G, h1, fun s x hx => h2 s x (h s x hx)⟩

/-- Whatever the state σ describes, σ' describes. -/
def Imp (n : Nat) (σ σ' : St) : Prop := ∀ C a w, Sim n C σ a w → Sim n C σ' a w

theorem Imp.refl (n : Nat) (σ : St) : Imp n σ σ := fun _ _ _ h => h
theorem Imp.trans {n : Nat} {σ σ' σ'' : St} (h : Imp n σ σ') (k : Imp n σ' σ'') : Imp n σ σ'' := fun C a w hS => k C a w (h C a w hS)

def Covers (σ : St) : St → Prop
  | [] => True
  | (s, x) :: r => σ.at s = some x ∧ Covers σ r

theorem imp_covers {n : Nat} {σ : St} : ∀ {σ' : St}, Covers σ σ' → Imp n σ σ' := by
  intro σ' h C a w hS
  have key : ∀ (σ' : St), Covers σ σ' → σ.ge σ' := by
    intro σ'
    induction σ' with
    | nil => intro _ s x hx; simp [St.at] at hx
    | cons e r ih =>
      obtain ⟨t, y⟩ := e
      intro ⟨h1, h2⟩ s x hx
      simp only [St.at] at hx
      split at hx
      · rename_i he; subst he; cases hx; exact h1
      · exact ih h2 s x hx
  exact hS.weaken (key σ' h)

theorem codeT.imp {c : Code} {σ' : St} (h : codeT P n c σ' Q) (hi : Imp n σ σ') : codeT P n c σ Q := fun C a w hS => h C a w (hi C a w hS)

theorem codeT.weaken {c : Code} {σ' : St} (h : codeT P n c σ' Q) (hge : σ.ge σ') : codeT P n c σ Q := fun C a w hS => h C a w (hS.weaken hge)

/-- A loop: 'mk x' is the state at the head of a round, for an x of which 'I' holds; each round that goes on lowers the measure. -/
theorem code_loop {X : Type} {c : Code} (mk : X → St) (I : X → Prop) (μ : X → Nat) (x₀ : X) (h₀ : Imp n σ (mk x₀)) (hI : I x₀)
    (round : ∀ x, I x → codeT P n c (mk x) (Then (fun σ' => ∃ x', Imp n σ' (mk x') ∧ I x' ∧ μ x' < μ x) Q)) : codeT P n (.loop c) σ Q := by
  have key : ∀ (m : Nat) x, μ x = m → I x → ∀ C a w, Sim n C (mk x) a w → ∀ (b : Frame) (k : List Item) (cs : List Frame),
      ∃ e a' w', (∃ σ', Q e σ' ∧ Sim n C σ' a' w') ∧ Arrives P (lone (b.at a (.code c :: .inLoop c :: k)) cs w) b k cs e a' w' := by
    intro m
    induction m using Nat.strongRecOn with
    | _ m ih =>
      intro x hm hx C a w hS b k cs
      obtain ⟨e, a₁, w₁, ⟨σ₁, hq, hS₁⟩, harr⟩ := round x hx C a w hS b (.inLoop c :: k) cs
      cases e with
      | normal =>
        obtain ⟨x', hge, hx', hlt⟩ := hq
        obtain ⟨e₂, a₂, w₂, hq₂, harr₂⟩ := ih (μ x') (hm ▸ hlt) x' rfl hx' C a₁ w₁ (hge C a₁ w₁ hS₁) b k cs
        exact ⟨e₂, a₂, w₂, hq₂, .of_steps (Steps.trans harr (.one step_inLoop)) harr₂⟩
      | exit id => exact ⟨_, a₁, w₁, ⟨σ₁, hq, hS₁⟩, .pass (x := .inLoop c) rfl (fun _ _ => .inl (by simp)) harr⟩
      | goto l => exact ⟨_, a₁, w₁, ⟨σ₁, hq, hS₁⟩, .pass (x := .inLoop c) rfl (fun _ _ => .inl (by simp)) harr⟩
      | ret => exact ⟨_, a₁, w₁, ⟨σ₁, hq, hS₁⟩, .pass (x := .inLoop c) rfl (fun _ _ => .inl (by simp)) harr⟩
      | panic ch => exact ⟨_, a₁, w₁, ⟨σ₁, hq, hS₁⟩, .pass (x := .inLoop c) rfl (fun _ _ => .inl (by simp)) harr⟩
      | outgrown => exact ⟨_, a₁, w₁, ⟨σ₁, hq, hS₁⟩, .pass (x := .inLoop c) rfl (fun _ _ => .inl (by simp)) harr⟩
  intro C a w hS b k cs
  obtain ⟨e, a', w', hq, harr⟩ := key _ x₀ rfl hI C a w (h₀ C a w hS) b k cs
  exact ⟨e, a', w', hq, .of_steps (.one step_loop) harr⟩
end

end Go.Proofs.YthgiialammjcbabDoor
