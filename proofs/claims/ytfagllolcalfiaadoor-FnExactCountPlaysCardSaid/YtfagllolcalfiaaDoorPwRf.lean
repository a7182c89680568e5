/- Ranges over functions in the pure state: the contract of an iterator; the statement; functions' values with what they have captured; variables of one cell. Own work; no conditions; nothing here is about one program. -/
import Derived.Test.YtfagllolcalfiaaDoorPwY
import Derived.RangeFuncIn
import Derived.RangeFuncRecord
import Derived.RangeFuncSeq
import Derived.RangeFuncNested
namespace Go.Proofs.YtfagllolcalfiaaDoor
open Go.RowKit
set_option linter.unusedVariables false

section
variable {P : Program} {n : Nat} {σ : St} {K : St → Prop} {d : Nat} {ty : TypeId} {pos : String} {af : Array Edge} {gd : Option (Nat × Bool)}

/-- A variable of one cell, read. -/
theorem q_load_box1 {t : TypeId} (ht : OneTy P t) {x : Operand} {l e : Nat} {c : PV} (hx : σ.ev x = some (.box l e [c])) (hf : c.flat = true) (hd : d < n) : quietT P n ⟨some d, .load t x, ty, pos, af, gd⟩ σ d (.val c) := by
  refine ⟨rfl, hd, fun C a w G hS hG hE => ?_⟩
  obtain ⟨vs, hv, hg, hh, hr⟩ := hE.ev hx
  obtain ⟨v, r, hus, _, hr1, hr2⟩ := hr
  simp only [RepL] at hr2
  subst hr2
  subst hus
  have hc0 : w.cell? ⟨G.r l, 0, none⟩ = some v := by rw [cell_of_row w _ 0 _ e (0, 0) hh]; rfl
  refine ⟨v, fun w2 hw2 => ?_, Rep.flat c v hf hr1⟩
  have hc2 := (hw2.cell (p := ⟨G.r l, 0, none⟩) (World.block_lt_of_cell? w _ hc0)).trans hc0
  simp [execOp, hv, Instr.loadAt, Instr.sureAddr, run_loadVar_one ht hc2]

/-- The greater, the less of two numbers. -/
theorem q_max {x y : Operand} {k k2 : IntKind} {i j : Int} {ts : Array TypeId} (hx : σ.ev x = some (.val (.int k i))) (hy : σ.ev y = some (.val (.int k2 j))) (hd : d < n) :
    quietT P n ⟨some d, .call { callee := .builtin .max, args := #[x, y], argTypes := ts }, ty, pos, af, gd⟩ σ d (.val (.int k (if j > i then j else i))) := by
  refine ⟨rfl, hd, fun C a w G hS hG hE => ?_⟩
  have h1 := hE.ev hx
  have h2 := hE.ev hy
  simp only [Ok, Rep] at h1 h2
  exact ⟨_, fun _ _ => by simp [execOp, resolve, invoke, builtin, h1, h2, Builtin.max_, Builtin.max2], rfl⟩
theorem q_min {x y : Operand} {k k2 : IntKind} {i j : Int} {ts : Array TypeId} (hx : σ.ev x = some (.val (.int k i))) (hy : σ.ev y = some (.val (.int k2 j))) (hd : d < n) :
    quietT P n ⟨some d, .call { callee := .builtin .min, args := #[x, y], argTypes := ts }, ty, pos, af, gd⟩ σ d (.val (.int k (if j < i then j else i))) := by
  refine ⟨rfl, hd, fun C a w G hS hG hE => ?_⟩
  have h1 := hE.ev hx
  have h2 := hE.ev hy
  simp only [Ok, Rep] at h1 h2
  exact ⟨_, fun _ _ => by simp [execOp, resolve, invoke, builtin, h1, h2, Builtin.min_, Builtin.min2], rfl⟩

theorem op_makeI {t e size bytes : Nat} {zc : List PV} (hty : SlTy P t e size bytes zc) {x y : Operand} {kl kc : IntKind} {i : Int} (hx : σ.ev x = some (.val (.int kl i))) (hy : σ.ev y = some (.val (.int kc i))) (hi : 0 ≤ i)
    (hb : bytes * i.toNat ≤ 140737488355328) (hd : d < n) (hd0 : d ≠ 2000) (hfr : σ.labels.all (· != d) = true)
    (hK : K ((d, .own d e size i.toNat (zeros zc i.toNat)) :: σ)) : opT P n ⟨some d, .makeSlice t x y, ty, pos, af, gd⟩ σ K := by
  obtain ⟨m, rfl⟩ := Int.eq_ofNat_of_zero_le hi
  simp only [Int.toNat_natCast] at hb hK
  exact op_make hty hx hy hb hd hd0 hfr hK
end

/-! ### Ranges over functions -/

/-- What the steps of an iterator leave as it is: O: the blocks that are the iterator's own. -/
def ItAb (J : Nat → (Nat → Prop) → World → Prop) : Prop :=
  ∀ k O O' W W', J k O W → (∀ b, O b → O' b) → (∀ b, O' b → O b ∨ (W.heap.size ≤ b ∧ b < W'.heap.size)) → Stays (fun b => b < W.heap.size ∧ ¬ O b) W W' → J k O' W'

/-- The contract of an iterator: it hands on e 0, .., e (N - 1), one after the other, or stops where it is told to. J, Jx: what its caller says of the world between two rounds, and behind a round that has said 'no more'. -/
structure ITer (P : Program) (g : FuncId) (caps : List PV) (N : Nat) (e : Nat → List PV) : Prop where
  ent : Enters P g
  run : ∀ (w : World) (F : Nat → Prop) (l : Nat) (cvs : List Value) (J Jx : Nat → (Nat → Prop) → World → Prop), RepL w F caps cvs → (∀ b, F b → b < w.heap.size) → GlP w F → ItAb J → ItAb Jx → J 0 (fun _ => False) w →
    (∀ k, k < N → ∀ O W, J k O W → ∀ m, YieldAt Fence.wide m P l (PV.toVs (e k)).toArray W fun x W' =>
      Stays (fun b => O b ∨ F b) W W' ∧ ((x = .returned (.bool true) ∧ J (k + 1) O W') ∨ (x = .returned (.bool false) ∧ Jx (k + 1) O W'))) →
    Calls P g (.func (.yield l) #[] #[] :: cvs).toArray w fun x W' => (∃ v, x = .returned v) ∧ ((∃ O, J N O W') ∨ ∃ k O, k ≤ N ∧ Jx k O W')

def St.noB (σ : St) : Bool := σ.all fun e => e.2.noB
/-- The state speaks of no builder and of no slot of S. -/
def okS (S : List Nat) (σ : St) : Bool := σ.all fun e => e.2.noB && !(S.contains e.1)

/-- What hangs on one of some labels is forgotten. -/
def St.killLs (ls : List Nat) (σ : St) : St := σ.map fun e => (e.1, if ls.any (fun l => e.2.labels.contains l) then .dead else e.2)

theorem noB_at {σ : St} (h : σ.noB = true) {s : Nat} {x : SV} (hx : σ.at s = some x) : x.noB = true := by
  induction σ with
  | nil => simp [St.at] at hx
  | cons e r ih =>
    simp only [St.noB, List.all_cons, Bool.and_eq_true] at h
    simp only [St.at] at hx
    split at hx
    · cases hx; exact h.1
    · exact ih h.2 hx
theorem okS_at {S : List Nat} {σ : St} (h : okS S σ = true) {s : Nat} {x : SV} (hx : σ.at s = some x) : x.noB = true ∧ s ∉ S := by
  induction σ with
  | nil => simp [St.at] at hx
  | cons e r ih =>
    simp only [okS, List.all_cons, Bool.and_eq_true] at h
    simp only [St.at] at hx
    split at hx
    · rename_i he
      cases hx; subst he
      exact ⟨h.1.1, by simpa using h.1.2⟩
    · exact ih h.2 hx
theorem killLs_at {ls : List Nat} : ∀ {σ : St} {s : Nat} {x : SV}, (σ.killLs ls).at s = some x → x = .dead ∨ (σ.at s = some x ∧ ∀ l ∈ ls, l ∉ x.labels)
  | [], s, x, h => by simp [St.killLs, St.at] at h
  | (t, y) :: r, s, x, h => by
    simp only [St.killLs, List.map_cons, St.at] at h ⊢
    split at h
    · rename_i he
      subst he
      simp only [if_true]
      split at h
      · exact .inl (Option.some.inj h).symm
      · rename_i hn
        refine .inr ⟨h, fun l hl hm => hn (List.any_eq_true.2 ⟨l, hl, ?_⟩)⟩
        rw [Option.some.inj h]; simpa using hm
    · rename_i hne
      rw [if_neg hne]
      exact killLs_at (σ := r) h

theorem noB_of {S : List Nat} {σ : St} (h : okS S σ = true) : σ.noB = true := by
  unfold St.noB
  unfold okS at h
  rw [List.all_eq_true] at h ⊢
  intro e he
  have := h e he
  simp only [Bool.and_eq_true] at this
  exact this.1
theorem at_append {s : Nat} {x : SV} : ∀ {σ τ : St}, (σ ++ τ).at s = some x → σ.at s = some x ∨ τ.at s = some x
  | [], τ, h => .inr h
  | (t, y) :: r, τ, h => by
    simp only [List.cons_append, St.at] at h ⊢
    split at h
    · rename_i he; rw [if_pos he]; exact .inl h
    · rename_i he; rw [if_neg he]; exact at_append h

/-- The context of a round, or behind a range over a function: all that bears no label is old. -/
def rctx (C : Ctx) (G : Gh) (w : World) (D : List Nat) (ro : Option Nat) (hgl : GlP w C.ex) (hx : ∀ b, C.X0 b → b < w.heap.size ∧ (G.g b).isSome = true) (hd : D.Nodup) (hdk : ∀ b ∈ D, w.heap[b]? = some (.deferred (some [])) ∧ G.g b = none)
    (hro : ∀ l, ro = some l → (∃ r, w.heap[l]? = some (.loop r)) ∧ G.g l = none) : Ctx :=
  { w0 := w, X := fun b => b < w.heap.size ∧ (G.g b).isSome = true, X0 := C.X0, Fp := C.Fp, ex := C.ex, pin := C.pin, D := D, ro := ro, gl := hgl, xlt := fun _ h => h.1, x0 := hx, dn := hd,
    dok := fun b hb => ⟨(hdk b hb).1, fun h => by rw [(hdk b hb).2] at h; simp at h⟩, rok := fun l hl => ⟨(hro l hl).1, fun h => by rw [(hro l hl).2] at h; simp at h⟩ }

theorem rctx_old {C : Ctx} {G : Gh} {w : World} {D : List Nat} {ro : Option Nat} {hgl hx hd hdk hro} (b : Nat) : (rctx C G w D ro hgl hx hd hdk hro).old b ↔ b < w.heap.size ∧ G.g b = none := by
  show (b < w.heap.size ∧ ¬ (b < w.heap.size ∧ (G.g b).isSome = true)) ↔ _
  constructor
  · rintro ⟨h1, h2⟩
    refine ⟨h1, ?_⟩
    cases hg : G.g b with
    | none => rfl
    | some m => exact absurd ⟨h1, by rw [hg]; rfl⟩ h2
  · rintro ⟨h1, h2⟩
    exact ⟨h1, fun h => by rw [h2] at h; simp at h⟩

/-- Into such a context. -/
theorem rebase {n : Nat} {C : Ctx} {σ : St} {a a' : Act} {w w' : World} {G : Gh} (hfp : (∀ i b, C.Fp i b → C.old b) ∧ ∀ b, C.ex b → C.old b) (hB : C.B ≤ w.heap.size) (hG : G.fits C w) (hE : Env C σ a w G) (hnb : σ.noB = true) (hsz : a'.tmps.size = n)
    (ht : ∀ s x, σ.at s = some x → a'.tmps.getD s undef = a.tmps.getD s undef) (hle : w.heap.size ≤ w'.heap.size) (hlab : ∀ b m, G.g b = some m → w'.heap[b]? = w.heap[b]?) (hold : ∀ b, ((∃ i, C.Fp i b) ∨ C.ex b) → w'.heap[b]? = w.heap[b]?)
    {D : List Nat} {ro : Option Nat} {hgl hx hd hdk hro} (hdf : a'.defers = D.map fun b => { target := .collected b, args := #[] }) : Sim n (rctx C G w' D ro hgl hx hd hdk hro) σ a' w' := by
  have hun : ∀ b, C.old b → G.g b = none := fun b hb => by
    cases hg : G.g b with
    | none => rfl
    | some m => exact absurd hb (hG.1 b m hg).1
  have hro' : ∀ b, C.old b → (rctx C G w' D ro hgl hx hd hdk hro).old b := fun b hb => (rctx_old b).2 ⟨Nat.lt_of_lt_of_le hb.1 (Nat.le_trans hB hle), hun b hb⟩
  refine ⟨⟨fun i b hb => hro' b (hfp.1 i b hb), fun b hb => hro' b (hfp.2 b hb)⟩, Stays.refl _ _, hdf, hsz, G, ⟨fun b m hb => ⟨fun ho => ?_, Nat.lt_of_lt_of_le (hG.1 b m hb).2 hle⟩, hG.2⟩, fun s x hx' => ?_⟩
  · have := ((rctx_old b).1 ho).2; rw [hb] at this; cases this
  · rw [ht s x hx']
    exact Ok.keepC (C := C) (C' := rctx C G w' D ro hgl hx hd hdk hro) (w := w) rfl rfl (fun i b hb => hold b (.inl ⟨i, hb⟩)) (fun b hb => hold b (.inr hb)) x _ (.inr (noB_at hnb hx')) (fun m _ => ⟨rfl, fun _ h => h, fun b hb => hlab b m hb⟩) (hE s x hx')

/-- How the body of a round may end: S: what the round writes in its own frame; I: what holds where it goes on. -/
def RoundPost (n : Nat) (S : List Nat) (Q : Exit → St → Prop) (I : St → Prop) : Exit → St → Prop
  | .normal, s => I s
  | .ret, s => ∃ τ, Imp n s τ ∧ okS S τ = true ∧ Q .ret τ
  | .exit id, s => ∃ τ, Imp n s τ ∧ okS S τ = true ∧ Q (.exit id) τ
  | _, _ => False

/-- What the statement says of the world between two rounds. w: where it begins; l: its record; M: the block for the rounds' deferred calls. -/
structure RInv (C : Ctx) (σ : St) (a : Act) (w : World) (F : Nat → Prop) (l : Nat) (M : List Nat) (ob : Obj) (O : Nat → Prop) (W : World) : Prop where
  st : Stays C.old w W
  gh : ∃ G : Gh, G.fits C W ∧ Env C σ a W G ∧ (∀ b, O b → G.g b = none) ∧ (∀ b, F b → G.g b = none) ∧ G.g l = none ∧ ∀ b ∈ M, G.g b = none
  o : ∀ b, O b → w.heap.size ≤ b ∧ b ≠ l ∧ b ∉ M
  olt : ∀ b, O b → b < W.heap.size
  rcd : W.heap[l]? = some ob
  md : ∀ b ∈ M, W.heap[b]? = some (.deferred (some []))

theorem RInv.ab {C : Ctx} {σ : St} {a : Act} {w : World} {F : Nat → Prop} {l : Nat} {M : List Nat} {ob : Obj} {O O' : Nat → Prop} {W W' : World} (hfp : (∀ i b, C.Fp i b → C.old b) ∧ ∀ b, C.ex b → C.old b) (hB : C.B ≤ w.heap.size) (hF : ∀ b, F b → b < w.heap.size)
    (h : RInv C σ a w F l M ob O W) (h2 : ∀ b, O' b → O b ∨ (W.heap.size ≤ b ∧ b < W'.heap.size)) (hs : Stays (fun b => b < W.heap.size ∧ ¬ O b) W W') : RInv C σ a w F l M ob O' W' := by
  obtain ⟨hst, ⟨G, hG, hE, g1, g2, g3, g4⟩, ho, hol, hr, hm⟩ := h
  have hlt : l < W.heap.size := (Array.getElem?_eq_some_iff.1 hr).1
  have hkeep : ∀ b, C.old b → b < W.heap.size ∧ ¬ O b := fun b hb => ⟨Nat.lt_of_lt_of_le hb.1 (Nat.le_trans hB hst.size), fun hO => by have := (ho b hO).1; have := hb.1; omega⟩
  have hst' : Stays C.old W W' := hs.mono hkeep
  have hlab : ∀ b m, G.g b = some m → W'.heap[b]? = W.heap[b]? := fun b m hb => hs.block b ⟨(hG.1 b m hb).2, fun hO => by rw [g1 b hO] at hb; cases hb⟩
  refine ⟨hst.trans hst', ⟨G, ⟨fun b m hb => ⟨(hG.1 b m hb).1, Nat.lt_of_lt_of_le (hG.1 b m hb).2 hs.size⟩, hG.2⟩, fun s x hx => Ok.keep hfp hst' x _ (fun m _ => ⟨rfl, fun _ h => h, fun b hb => hlab b m hb⟩) (hE s x hx), fun b hb => ?_, g2, g3, g4⟩, fun b hb => ?_, fun b hb => ?_, ?_, fun b hb => ?_⟩
  · rcases h2 b hb with h | h
    · exact g1 b h
    · cases hg : G.g b with
      | none => rfl
      | some m => have := (hG.1 b m hg).2; omega
  · rcases h2 b hb with h | h
    · exact ho b h
    · refine ⟨Nat.le_trans hst.size h.1, by omega, fun hM => ?_⟩
      have := (Array.getElem?_eq_some_iff.1 (hm b hM)).1; omega
  · rcases h2 b hb with h | h
    · exact Nat.lt_of_lt_of_le (hol b h) hs.size
    · exact h.2
  · rw [hs.block l ⟨hlt, fun hO => (ho l hO).2.1 rfl⟩]; exact hr
  · rw [hs.block b ⟨(Array.getElem?_eq_some_iff.1 (hm b hb)).1, fun hO => (ho b hO).2.2 hb⟩]; exact hm b hb

theorem stays_putObj {S : Nat → Prop} {w : World} {l : Nat} {r r' : Loop} (hl : w.heap[l]? = some (.loop r)) (hS : ¬ S l) : Stays S w (w.putObj l (.loop r')) := by
  have hlt := (Array.getElem?_eq_some_iff.1 hl).1
  refine ⟨rfl, rfl, rfl, by simp [World.putObj], fun k hk => World.putObj_heap_other (fun e => hS (e ▸ hk)), fun k _ => ?_⟩
  by_cases e : k = l
  · subst e; rw [World.putObj_heap_same hlt, hl]; rfl
  · rw [World.putObj_heap_other e]

theorem fold_set {vs : List Value} : ∀ {ps : List Nat} (t : Array Value) (s : Nat), s ∉ ps → (((ps.zip vs).foldl (fun t (p, v) => t.setIfInBounds p v) t).getD s undef) = t.getD s undef ∧ ((ps.zip vs).foldl (fun t (p, v) => t.setIfInBounds p v) t).size = t.size := by
  intro ps
  induction ps generalizing vs with
  | nil => intro t s _; simp
  | cons p ps ih =>
    intro t s hs
    simp only [List.mem_cons, not_or] at hs
    cases vs with
    | nil => simp
    | cons v vs =>
      simp only [List.zip_cons_cons, List.foldl_cons]
      obtain ⟨h1, h2⟩ := ih (vs := vs) (t.setIfInBounds p v) s hs.2
      refine ⟨h1.trans ?_, by rw [h2]; simp⟩
      simp only [Array.getD_eq_getD_getElem?]
      rw [Array.getElem?_setIfInBounds_ne (Ne.symm hs.1)]

/-- The loop's variables behind the assignment of what an iterator hands on. -/
def parSt (ps : List Nat) (x : List PV) : St := (ps.zip x).map fun e => (e.1, .val e.2)

/-- Plain values: numbers, bools, texts. -/
def PV.plain1 : PV → Bool
  | .bool _ => true
  | .int _ _ => true
  | .str _ => true
  | _ => false
/-- What may be handed on: plain values, structs and arrays of such. -/
def okv : PV → Bool
  | .agg cs => cs.all PV.plain1
  | p => p.plain1

theorem plain1_rep {w : World} {F : Nat → Prop} (c : PV) (h : c.plain1 = true) : Rep w F c c.toV ∧ c.one = true := by
  cases c <;> simp [PV.plain1] at h <;> simp [Rep, PV.toV, PV.one]
theorem plain1_repL {w : World} {F : Nat → Prop} : ∀ cs : List PV, cs.all PV.plain1 = true → RepL w F cs (PV.toVs cs)
  | [], _ => rfl
  | c :: cs, h => by
    simp only [List.all_cons, Bool.and_eq_true] at h
    exact ⟨_, _, rfl, (plain1_rep (w := w) (F := F) c h.1).2, (plain1_rep c h.1).1, plain1_repL cs h.2⟩
theorem okv_rep {w : World} {F : Nat → Prop} (c : PV) (h : okv c = true) : Rep w F c c.toV := by
  cases c with
  | agg cs => simp only [Rep, PV.toV]; exact ⟨_, rfl, plain1_repL cs h⟩
  | bool b => exact (plain1_rep (.bool b) rfl).1
  | int k n => exact (plain1_rep (.int k n) rfl).1
  | str s => exact (plain1_rep (.str s) rfl).1
  | sl n cs => cases h
  | ptr cs => cases h
  | clo f cs => cases h
  | cst k => cases h
  | ifc => cases h
  | mth f cs => cases h
  | mp cs => cases h
theorem toVs_len : ∀ x : List PV, (PV.toVs x).length = x.length
  | [] => rfl
  | c :: x => by simp [PV.toVs, toVs_len x]

theorem parSt_at {C : Ctx} {w : World} {G : Gh} : ∀ {ps : List Nat} {x : List PV} (t : Array Value), x.all okv = true → ps.Nodup → (∀ p ∈ ps, p < t.size) → x.length = ps.length → ∀ s y, (parSt ps x).at s = some y →
    Ok C w G y (((ps.zip (PV.toVs x)).foldl (fun t (p, v) => t.setIfInBounds p v) t).getD s undef)
  | [], x, t, _, _, _, _, s, y, h => by simp [parSt, St.at] at h
  | p :: ps, [], t, _, _, _, hl, s, y, h => by simp at hl
  | p :: ps, c :: x, t, hf, hn, hp, hl, s, y, h => by
    simp only [List.all_cons, Bool.and_eq_true] at hf
    obtain ⟨hn1, hn2⟩ := List.nodup_cons.1 hn
    have hl' : x.length = ps.length := by simpa using hl
    simp only [parSt, List.zip_cons_cons, List.map_cons, St.at] at h
    simp only [PV.toVs, List.zip_cons_cons, List.foldl_cons]
    split at h
    · rename_i he
      subst he
      cases h
      rw [(fold_set (ps := ps) (vs := PV.toVs x) (t.setIfInBounds p c.toV) p hn1).1]
      have hlt := hp p List.mem_cons_self
      have : (t.setIfInBounds p c.toV).getD p undef = c.toV := by
        simp [Array.getD_eq_getD_getElem?, hlt]
      rw [this]
      exact okv_rep c hf.1
    · exact parSt_at (t.setIfInBounds p c.toV) hf.2 hn2 (fun q hq => by simpa using hp q (List.mem_cons_of_mem _ hq)) hl' s y h

theorem glP_keep {C : Ctx} {w : World} (h : ∀ b, C.ex b → w.heap[b]? = C.w0.heap[b]?) : GlP w C.ex := C.gl.mono h fun _ hb => hb

/-- The walk of one round, from what is said between two rounds. -/
theorem round_in {P : Program} {n : Nat} {C : Ctx} {σ1 : St} {a : Act} {w : World} {F : Nat → Prop} {l : Nat} {M : List Nat} {O : Nat → Prop} {W : World} {S : List Nat} {Q : Exit → St → Prop} {fn : FuncId} {ps : Array Tmp} {assign body : Code} {dd : Nat} {x : List PV} {σ2 : St} {p : Prop}
    (hS0 : Stays C.old C.w0 w) (hfp : (∀ i b, C.Fp i b → C.old b) ∧ ∀ b, C.ex b → C.old b) (hlw : w.heap.size ≤ l) (hsz : a.tmps.size = n) (hSd : S = ps.toList ++ cdsts assign ++ cdsts body)
    (hn : ps.toList.Nodup) (hp : ∀ p ∈ ps.toList, p < n) (hx : x.all okv = true) (hxl : x.length = ps.toList.length) (hF : ∀ b, F b → b < w.heap.size)
    (hok : okS S σ1 = true) (hok2 : okS S σ2 = true)
    (hround : ∀ K : St → Prop, (∀ s, s.noB = true → codeT P n body s (RoundPost n S Q fun s => p ∧ Imp n s σ2) → K s) → codeT P n assign (parSt ps.toList x ++ σ1) (Then K fun _ _ => False))
    (rc : LoopState → Option Code → Loop) (hrc : rc = fun st pe => { state := st, pending := pe, fn, tmps := a.tmps, params := ps, assign, body, defers := dd })
    (hI : RInv C σ1 a w F l M (.loop (rc .ready none)) O W) (m : Nat) :
    YieldAt Fence.wide m P l (PV.toVs x).toArray W fun e W' => Stays (fun b => O b ∨ F b) W W' ∧
      ((e = .returned (.bool true) ∧ p ∧ RInv C σ2 a w F l M (.loop (rc .ready none)) O W') ∨
       (e = .returned (.bool false) ∧ ∃ c e2 τ, (c = .ret ∧ e2 = .ret ∨ ∃ id, c = .exit id ∧ e2 = .exit id) ∧ okS S τ = true ∧ Q e2 τ ∧ RInv C τ a w F l M (.loop (rc .done (some c))) O W')) := by
  obtain ⟨hst, ⟨G, hG, hE, g1, g2, g3, g4⟩, ho, hOlt, hr, hm⟩ := hI
  have hlt : l < W.heap.size := (Array.getElem?_eq_some_iff.1 hr).1
  have hBw : C.B ≤ w.heap.size := hS0.size
  have hBW : C.B ≤ W.heap.size := Nat.le_trans hBw hst.size
  have hol : ∀ b, C.old b → b ≠ l := fun b hb e => by subst e; have := hb.1; omega
  have hunC : ∀ b, C.old b → G.g b = none := fun b hb => by
    cases hg : G.g b with
    | none => rfl
    | some q => exact absurd hb (hG.1 b q hg).1
  have hglW : GlP W C.ex := glP_keep fun b hb => ((hS0.trans hst).block b (hfp.2 b hb))
  have hX0 : ∀ b, C.X0 b → b < W.heap.size ∧ (G.g b).isSome = true := fun b hb => by
    have := hG.2.2 b hb
    exact ⟨(hG.1 b _ this).2, by rw [this]; rfl⟩
  have hy := run_yield (P := P) (args := (PV.toVs x).toArray) hr (by rw [hrc]; simp [toVs_len, hxl])
  let Cr := rctx C G W [] (some l) hglW hX0 List.nodup_nil (fun b hb => by cases hb) (fun q hq => by cases hq; exact ⟨⟨_, hr⟩, g3⟩)
  have hCr : ∀ b, Cr.old b ↔ b < W.heap.size ∧ G.g b = none := fun b => rctx_old b
  let T := (ps.toList.zip (PV.toVs x)).foldl (fun t (p, v) => t.setIfInBounds p v) a.tmps
  have hTs : T.size = n := by
    by_cases hz : ∃ s, s ∉ ps.toList
    · obtain ⟨s, hs⟩ := hz
      exact ((fold_set (vs := PV.toVs x) a.tmps s hs).2).trans hsz
    · exact ((fold_set (vs := PV.toVs x) a.tmps n (fun hm => Nat.lt_irrefl _ (hp n hm))).2).trans hsz
  have hT : ∀ s, s ∉ S → T.getD s undef = a.tmps.getD s undef := fun s hs => (fold_set (vs := PV.toVs x) a.tmps s (fun hm => hs (by rw [hSd]; simp [hm]))).1
  have hfold : ((ps.zip (PV.toVs x).toArray).foldl (fun t (p, v) => t.setIfInBounds p v) a.tmps) = T := by
    show _ = (ps.toList.zip (PV.toVs x)).foldl _ a.tmps
    rw [← Array.foldl_toList]
    simp
  -- the round's frame
  have hS1 : Sim n Cr σ1 { tmps := T, defers := [] } W :=
    rebase hfp hBW hG hE (noB_of hok) hTs (fun s y hs => hT s (okS_at hok hs).2) (Nat.le_refl _) (fun _ _ _ => rfl) (fun _ _ => rfl) rfl
  have hS2 : Sim n Cr (parSt ps.toList x ++ σ1) { tmps := T, defers := [] } W := by
    obtain ⟨k1, k2, k3, k4, G1, k5, k6⟩ := hS1
    refine ⟨k1, k2, k3, k4, G1, k5, fun s y hs => ?_⟩
    rcases at_append hs with h | h
    · exact parSt_at a.tmps hx hn (fun p hm => by rw [hsz]; exact hp p hm) hxl s y h
    · exact k6 s y h
  have hcode := hround (fun s => s.noB = true ∧ codeT P n body s (RoundPost n S Q fun s => p ∧ Imp n s σ2)) (fun s h1 h2 => ⟨h1, h2⟩) Cr _ W hS2 m
  rw [hrc] at hy
  refine ⟨fn, _, assign, body, hy, roundIn_of_wpIn (F := Fence.wide) trivial ?_⟩
  simp only
  rw [hfold]
  refine wpIn_mono (hcode : assign.wpIn (Fence.wide.inRound l) m P _ _ W) ?_
  rintro e a1 w1 ⟨C1, s1, x1, hq, hsim1, hk1, _⟩
  cases e <;> try exact hq.elim
  obtain ⟨hnb1, hbody⟩ := hq
  have hd1 : C1.D = [] := x1.dro l rfl
  have hst1 : Stays Cr.old W w1 := x1.st.trans (hsim1.below.mono x1.old)
  have hl1 : w1.heap[l]? = some (.loop (rc .ready none)) := by rw [hst1.block l ((hCr l).2 ⟨hlt, g3⟩)]; exact hr
  have hl1' := hl1
  rw [hrc] at hl1'
  have hbr : (Instr.beginRound l).run P w1 = .ok () (w1.putObj l (.loop { rc .ready none with state := .busy })) := by rw [hrc]; exact run_beginRound hl1' rfl
  refine ⟨_, hbr, ?_⟩
  have hlt1 : l < w1.heap.size := (Array.getElem?_eq_some_iff.1 hl1).1
  obtain ⟨G1, hG1, hE1⟩ := hsim1.gh
  have hun1 : ∀ b, Cr.old b → G1.g b = none := fun b hb => by
    cases hg : G1.g b with
    | none => rfl
    | some q => exact absurd (x1.old b hb) (hG1.1 b q hg).1
  let w2 := w1.putObj l (.loop { rc .ready none with state := .busy })
  have hw2s : w2.heap.size = w1.heap.size := by simp [w2, World.putObj]
  have hw2o : ∀ b, b ≠ l → w2.heap[b]? = w1.heap[b]? := fun b hb => World.putObj_heap_other hb
  have hw2l : w2.heap[l]? = some (.loop { rc .ready none with state := .busy }) := World.putObj_heap_same hlt1
  have hCrC : ∀ b, C.old b → Cr.old b := fun b hb => (hCr b).2 ⟨Nat.lt_of_lt_of_le hb.1 hBW, hunC b hb⟩
  have hg1l : G1.g l = none := hun1 l ((hCr l).2 ⟨hlt, g3⟩)
  have hgl2 : GlP w2 C1.ex := by
    rw [x1.ex]
    exact hglW.mono (fun b hb => by
      have := hfp.2 b hb
      rw [hw2o b (hol b this)]; exact hst1.block b (hCrC b this)) (fun _ h => h)
  let Cb := rctx C1 G1 w2 [] (some l) hgl2 (fun b hb => by
      have := hG1.2.2 b hb
      exact ⟨by rw [hw2s]; exact (hG1.1 b _ this).2, by rw [this]; rfl⟩) List.nodup_nil (fun b hb => by cases hb) (fun q hq => by cases hq; exact ⟨⟨_, hw2l⟩, hg1l⟩)
  have hCb : ∀ b, Cb.old b ↔ b < w2.heap.size ∧ G1.g b = none := fun b => rctx_old b
  have hC1l : ∀ b m', G1.g b = some m' → b ≠ l := fun b m' hb e => by rw [e, hg1l] at hb; cases hb
  have hfp1 := hsim1.fp
  have hS3 : Sim n Cb s1 a1 w2 :=
    rebase hfp1 hsim1.below.size hG1 hE1 hnb1 hsim1.size (fun _ _ _ => rfl) (by rw [hw2s]; exact Nat.le_refl _) (fun b m' hb => hw2o b (hC1l b m' hb))
      (fun b hb => hw2o b (hol b (by
        rcases hb with ⟨i, hb⟩ | hb
        · exact hfp.1 i b (by rw [x1.fp] at hb; exact hb)
        · exact hfp.2 b (by rw [x1.ex] at hb; exact hb)))) (by rw [hsim1.dfs]; simp [Ctx.marks, hd1])
  refine wpIn_mono (hbody Cb a1 w2 hS3 m : body.wpIn (Fence.wide.inRound l) m P _ a1 w2) ?_
  rintro e a3 w3 ⟨C2, s2, x2, hq2, hsim2, hk2, _⟩
  -- behind the body
  have hst2 : Stays Cb.old w2 w3 := x2.st.trans (hsim2.below.mono x2.old)
  have hCbl : Cb.old l := (hCb l).2 ⟨by rw [hw2s]; exact hlt1, hg1l⟩
  have hl3 : w3.heap[l]? = some (.loop { rc .ready none with state := .busy }) := by rw [hst2.block l hCbl]; exact hw2l
  have hlt3 : l < w3.heap.size := (Array.getElem?_eq_some_iff.1 hl3).1
  have hCrb : ∀ b, Cr.old b → Cb.old b := fun b hb => (hCb b).2 ⟨by rw [hw2s]; exact Nat.lt_of_lt_of_le ((hCr b).1 hb).1 hst1.size, hun1 b hb⟩
  -- a block that bore no label lies as it lay, but for the record
  have hkeep : ∀ b, Cr.old b → b ≠ l → w3.heap[b]? = W.heap[b]? := fun b hb hne => by rw [hst2.block b (hCrb b hb), hw2o b hne, hst1.block b hb]
  have hform : ∀ k, k < W.heap.size → rowForm w3.heap[k]? = rowForm W.heap[k]? := fun k hk => by
    rw [hst2.form k (by rw [hw2s]; exact Nat.lt_of_lt_of_le hk hst1.size), (stays_putObj (S := fun _ => False) hl1 (fun h => h)).form k (Nat.lt_of_lt_of_le hk hst1.size), hst1.form k hk]
  have hend : ∀ (jump : Option Code) (τ : St), Imp n s2 τ → okS S τ = true → ∃ W4, (Instr.endRound l jump).run P w3 = .ok (.bool jump.isNone) W4 ∧ Stays (fun b => O b ∨ F b) W W4 ∧
      RInv C τ a w F l M (.loop (rc (if jump.isNone then .ready else .done) jump)) O W4 := by
    intro jump τ himp hokτ
    have hre := run_endRound (P := P) jump hl3
    obtain ⟨k1, k2, k3, k4, G3, hG3, hE3⟩ := himp C2 a3 w3 hsim2
    let W4 := w3.putObj l (.loop (rc (if jump.isNone then .ready else .done) jump))
    have hW4s : W4.heap.size = w3.heap.size := by simp [W4, World.putObj]
    have hW4o : ∀ b, b ≠ l → W4.heap[b]? = w3.heap[b]? := fun b hb => World.putObj_heap_other hb
    have hun3 : ∀ b, Cr.old b → G3.g b = none := fun b hb => by
      cases hg : G3.g b with
      | none => rfl
      | some q => exact absurd (x2.old b (hCrb b hb)) (hG3.1 b q hg).1
    have hst4 : ∀ T : Nat → Prop, (∀ b, T b → Cr.old b ∧ b ≠ l) → Stays T W W4 := fun T hT => by
      refine ⟨(hst2.os.trans (show w2.os = W.os from hst1.os)), (hst2.tape.trans hst1.tape), (hst2.output.trans hst1.output), by rw [hW4s]; exact Nat.le_trans hst1.size (by rw [← hw2s]; exact hst2.size), fun b hb => ?_, fun k hk => ?_⟩
      · rw [hW4o b (hT b hb).2]; exact hkeep b (hT b hb).1 (hT b hb).2
      · rw [← hform k hk]
        exact (stays_putObj (S := fun _ => False) (r' := rc (if jump.isNone then .ready else .done) jump) hl3 (fun h => h)).form k (Nat.lt_of_lt_of_le hk (Nat.le_trans hst1.size (by rw [← hw2s]; exact hst2.size)))
    have hO : ∀ b, O b → Cr.old b ∧ b ≠ l → Cr.old b ∧ b ≠ l := fun _ _ h => h
    have hlabl : ∀ b q, G3.g b = some q → b ≠ l := fun b q hb e => by rw [e, hun3 l ((hCr l).2 ⟨hlt, g3⟩)] at hb; cases hb
    have hstC : Stays C.old W W4 := hst4 C.old fun b hb => ⟨hCrC b hb, hol b hb⟩
    refine ⟨W4, by rw [hre]; simp only [W4, hrc], ?_, ⟨hst.trans hstC, ⟨G3, ⟨fun b q hb => ⟨fun hob => (hG3.1 b q hb).1 (x2.old b (hCrb b (hCrC b hob))), by rw [hW4s]; exact (hG3.1 b q hb).2⟩, ?_, ?_⟩, ?_, ?_, ?_, ?_, ?_⟩, ho, fun b hb => Nat.lt_of_lt_of_le (hOlt b hb) hstC.size, ?_, ?_⟩⟩
    · -- what is the iterator's own lies as it lay
      refine ⟨hstC.os, hstC.tape, hstC.output, hstC.size, fun b hb => ?_, hstC.form⟩
      have hb2 : Cr.old b ∧ b ≠ l := by
        rcases hb with hb | hb
        · exact ⟨(hCr b).2 ⟨hOlt b hb, g1 b hb⟩, (ho b hb).2.1⟩
        · exact ⟨(hCr b).2 ⟨Nat.lt_of_lt_of_le (hF b hb) hst.size, g2 b hb⟩, by have := hF b hb; omega⟩
      rw [hW4o b hb2.2]; exact hkeep b hb2.1 hb2.2
    · rw [hG3.2.1, x2.pin]; exact x1.pin
    · intro b hb; exact hG3.2.2 b (by rw [x2.x0]; show C1.X0 b; rw [x1.x0]; exact hb)
    · intro s y hs
      obtain ⟨hnby, hsS⟩ := okS_at hokτ hs
      have htm : a3.tmps.getD s undef = a.tmps.getD s undef := by
        rw [hk2 s (fun hm => hsS (by rw [hSd]; simp [hm])), hk1 s (fun hm => hsS (by rw [hSd]; simp [hm]))]
        exact hT s hsS
      rw [← htm]
      have hb1 : C.Fp = C2.Fp := (x2.fp.trans x1.fp).symm
      have hb2 : C.ex = C2.ex := (x2.ex.trans x1.ex).symm
      refine Ok.keepC (C := C2) (C' := C) (w := w3) hb1 hb2 (fun i b hb => hW4o b (hol b (hfp.1 i b (by rw [hb1]; exact hb)))) (fun b hb => hW4o b (hol b (hfp.2 b (by rw [hb2]; exact hb)))) y _ (.inr hnby) (fun q _ => ⟨rfl, fun _ h => h, fun b hb => hW4o b (hlabl b q hb)⟩) (hE3 s y hs)
    · intro b hb
      exact hun3 b ((hCr b).2 ⟨hOlt b hb, g1 b hb⟩)
    · intro b hb; exact hun3 b ((hCr b).2 ⟨Nat.lt_of_lt_of_le (hF b hb) hst.size, g2 b hb⟩)
    · exact hun3 l ((hCr l).2 ⟨hlt, g3⟩)
    · intro b hb; exact hun3 b ((hCr b).2 ⟨(Array.getElem?_eq_some_iff.1 (hm b hb)).1, g4 b hb⟩)
    · exact World.putObj_heap_same hlt3
    · intro b hb
      have hne : b ≠ l := fun e => by
        have := hm b hb; rw [e, hr] at this; cases this
      rw [hW4o b hne, hkeep b ((hCr b).2 ⟨(Array.getElem?_eq_some_iff.1 (hm b hb)).1, g4 b hb⟩) hne]; exact hm b hb
  cases e with
  | normal =>
    obtain ⟨W4, hre, hs4, hinv⟩ := hend none σ2 hq2.2 hok2
    exact ⟨_, W4, hre, hs4, .inl ⟨rfl, hq2.1, hinv⟩⟩
  | ret =>
    obtain ⟨τ, himp, hokτ, hQ⟩ := hq2
    obtain ⟨W4, hre, hs4, hinv⟩ := hend (some .ret) τ himp hokτ
    exact ⟨_, W4, hre, hs4, .inr ⟨rfl, .ret, .ret, τ, .inl ⟨rfl, rfl⟩, hokτ, hQ, hinv⟩⟩
  | exit id =>
    obtain ⟨τ, himp, hokτ, hQ⟩ := hq2
    obtain ⟨W4, hre, hs4, hinv⟩ := hend (some (.exit id)) τ himp hokτ
    exact ⟨_, W4, hre, hs4, .inr ⟨rfl, .exit id, .exit id, τ, .inr ⟨id, rfl, rfl⟩, hokτ, hQ, hinv⟩⟩
  | goto t => exact hq2.elim
  | panic ch => exact hq2.elim
  | outgrown => exact hq2.elim

/-- How a range over a function begins: the record, and at an outermost one the block for the rounds' deferred calls. -/
theorem enter_rf {P : Program} {C : Ctx} {w : World} (hst : Stays C.old C.w0 w) (fn : FuncId) (tmps : Array Value) (ps : Array Tmp) (assign body : Code) :
    ∃ (l dd : Nat) (M : List Nat) (W : World), (Instr.enterLoop fn tmps ps assign body C.ro).run P w = .ok (l, M.map fun b => { target := .collected b, args := #[] }) W ∧
      W.heap[l]? = some (.loop { state := .ready, pending := none, fn, tmps, params := ps, assign, body, defers := dd }) ∧ w.heap.size ≤ l ∧ Below w.heap.size w W ∧ M.Nodup ∧ (∀ b ∈ M, w.heap.size ≤ b ∧ b ≠ l ∧ W.heap[b]? = some (.deferred (some []))) ∧
      ∀ q, C.ro = some q → M = [] := by
  cases hro : C.ro with
  | none =>
    refine ⟨w.heap.size + 1, w.heap.size, [w.heap.size], _, run_enterLoop_outer fn tmps ps assign body, ?_, by omega, ?_, by simp, fun b hb => ?_, fun q h => by cases h⟩
    · have := World.alloc_heap_new (w.alloc (.deferred (some []))) (.loop { state := .ready, pending := none, fn, tmps, params := ps, assign, body, defers := w.heap.size })
      rwa [World.size_alloc] at this
    · exact ((Below.refl _ w).alloc (Nat.le_refl _) _).alloc (by simp) _
    · simp only [List.mem_singleton] at hb
      subst hb
      exact ⟨Nat.le_refl _, by omega, (Below.heap_alloc _ _ _ (by simp)).trans (World.alloc_heap_new w _)⟩
  | some q =>
    obtain ⟨⟨r, hr⟩, hX⟩ := C.rok q hro
    have hr2 : w.heap[q]? = some (.loop r) := by
      rw [hst.block q ⟨(Array.getElem?_eq_some_iff.1 hr).1, hX⟩]; exact hr
    refine ⟨w.heap.size, r.defers, [], _, run_enterLoop_inner hr2 fn tmps ps assign body, World.alloc_heap_new w _, Nat.le_refl _, (Below.refl _ w).alloc (Nat.le_refl _) _, List.nodup_nil, (fun b hb => absurd hb (by simp)), fun _ _ => rfl⟩

/-- Behind a range over a function. -/
theorem rf_after {n : Nat} {C : Ctx} {σ τ : St} {a : Act} {w : World} {F : Nat → Prop} {l : Nat} {M : List Nat} {O : Nat → Prop} {W : World} {r r' : Loop} (hS : Sim n C σ a w) (hlw : w.heap.size ≤ l) (hMn : M.Nodup) (hMw : ∀ b ∈ M, w.heap.size ≤ b) (hMro : ∀ q, C.ro = some q → M = [])
    (hnb : τ.noB = true) (hI : RInv C τ a w F l M (.loop r) O W) :
    ∃ C4, C.ext C4 ∧ Sim n C4 τ { a with defers := (M.map fun b => { target := .collected b, args := #[] }) ++ a.defers } (W.putObj l (.loop r')) := by
  obtain ⟨hst, ⟨G, hG, hE, g1, g2, g3, g4⟩, ho, hOlt, hr, hm⟩ := hI
  have hfp := hS.fp
  have hB : C.B ≤ w.heap.size := hS.below.size
  have hlt : l < W.heap.size := (Array.getElem?_eq_some_iff.1 hr).1
  let W4 := W.putObj l (.loop r')
  have hs4 : W4.heap.size = W.heap.size := by simp [W4, World.putObj]
  have ho4 : ∀ b, b ≠ l → W4.heap[b]? = W.heap[b]? := fun b hb => World.putObj_heap_other hb
  have hol : ∀ b, C.old b → b ≠ l := fun b hb e => by subst e; have := hb.1; omega
  have hunC : ∀ b, C.old b → G.g b = none := fun b hb => by
    cases hg : G.g b with
    | none => rfl
    | some q => exact absurd hb (hG.1 b q hg).1
  have hstW : Stays C.old C.w0 W := hS.below.trans hst
  have hst4 : Stays C.old C.w0 W4 := hstW.trans (stays_putObj hr fun h => hol l h rfl)
  have hDold : ∀ b ∈ C.D, C.old b := fun b hb => ⟨(Array.getElem?_eq_some_iff.1 (C.dok b hb).1).1, (C.dok b hb).2⟩
  let C4 := rctx C G W4 (M ++ C.D) C.ro (glP_keep fun b hb => hst4.block b (hfp.2 b hb)) (fun b hb => by
      have := hG.2.2 b hb
      exact ⟨by rw [hs4]; exact (hG.1 b _ this).2, by rw [this]; rfl⟩)
    (List.nodup_append.2 ⟨hMn, C.dn, fun x hx z hz e => by subst e; have := hMw x hx; have := (hDold x hz).1; omega⟩)
    (fun b hb => by
      rcases List.mem_append.1 hb with hb | hb
      · have hne : b ≠ l := fun e => by have := hm b hb; rw [e, hr] at this; cases this
        exact ⟨by rw [ho4 b hne]; exact hm b hb, g4 b hb⟩
      · exact ⟨by rw [hst4.block b (hDold b hb)]; exact (C.dok b hb).1, hunC b (hDold b hb)⟩)
    (fun q hq => by
      obtain ⟨⟨r2, hr2⟩, hX⟩ := C.rok q hq
      have hqo : C.old q := ⟨(Array.getElem?_eq_some_iff.1 hr2).1, hX⟩
      exact ⟨⟨r2, by rw [hst4.block q hqo]; exact hr2⟩, hunC q hqo⟩)
  have h4o : ∀ b, C4.old b ↔ b < W4.heap.size ∧ G.g b = none := fun b => rctx_old b
  refine ⟨C4, ⟨rfl, rfl, rfl, rfl, rfl, fun b hb => (h4o b).2 ⟨Nat.lt_of_lt_of_le hb.1 hst4.size, hunC b hb⟩, hst4.size, hst4, fun b hb => ?_, fun q hq => ?_⟩, ?_⟩
  · rcases List.mem_append.1 hb with hb | hb
    · exact .inr (Nat.le_trans hB (hMw b hb))
    · exact .inl hb
  · show M ++ C.D = C.D
    rw [hMro q hq]; rfl
  · refine rebase (a := a) (a' := { a with defers := (M.map fun b => { target := .collected b, args := #[] }) ++ a.defers }) hfp (Nat.le_trans hB hst.size) hG hE hnb hS.size (fun _ _ _ => rfl) (by rw [hs4]; exact Nat.le_refl _) (fun b q hb => ho4 b fun e => by rw [e, g3] at hb; cases hb) (fun b hb => ho4 b (hol b ?_)) ?_
    · rcases hb with ⟨i, hb⟩ | hb
      · exact hfp.1 i b hb
      · exact hfp.2 b hb
    · show (M.map _) ++ a.defers = (M ++ C.D).map _
      rw [hS.dfs, List.map_append]; rfl

/-- A range over a function: 'mk k': the state behind k rounds. -/
theorem code_rangeFuncE {P : Program} {n : Nat} {σ : St} {Q : Exit → St → Prop} {g : Operand} {ps : Array Tmp} {assign body : Code} {y : SV} {gf : FuncId} {caps : List PV} {N : Nat} {e : Nat → List PV} {S : List Nat}
    (hit : ITer P gf caps N e) (mk : Nat → St) (I : Nat → Prop) (hI0 : I 0) (hg : ∀ (C : Ctx) (a : Act) (w : World) (G : Gh), Env C σ a w G → Ok C w G y (a.eval g)) (hy : y.pv = some (.clo gf caps)) (hSd : S = ps.toList ++ cdsts assign ++ cdsts body) (hn : ps.toList.Nodup) (hp : ps.toList.all (Nat.blt · n) = true)
    (he : ∀ k, k < N → (e k).all okv = true ∧ (e k).length = ps.toList.length) (hmk : ∀ k, okS S (mk k) = true) (hy2 : y.labels.contains 2000 = false) (hnb : (σ.killLs y.labels).noB = true) (h0 : Imp n (σ.killLs y.labels) (mk 0))
    (hround : ∀ k, k < N → I k → ∀ K : St → Prop, (∀ s, s.noB = true → codeT P n body s (RoundPost n S Q fun s => I (k + 1) ∧ Imp n s (mk (k + 1))) → K s) → codeT P n assign (parSt ps.toList (e k) ++ mk k) (Then K fun _ _ => False))
    (hdone : I N → Q .normal (mk N)) : codeT P n (.rangeFunc g ps assign body) σ Q := by
  intro C a w hS N0
  obtain ⟨G0, hG0, hE0⟩ := hS.gh
  have hfp := hS.fp
  have hp' : ∀ p ∈ ps.toList, p < n := fun p hm => by
    have := List.all_eq_true.1 hp p hm
    exact Nat.blt_eq.mp this
  have hrep := (hg _ _ _ _ hE0).rep hy
  simp only [Rep] at hrep
  obtain ⟨cvs, hv, hcv⟩ := hrep
  let F := fun b => foot C G0 y b ∨ C.ex b
  have hB : C.B ≤ w.heap.size := hS.below.size
  have hF : ∀ b, F b → b < w.heap.size ∧ ∀ q, q ∉ y.labels → G0.g b ≠ some q := fun b hb => by
    rcases hb with hb | hb
    · exact foot_old hfp hG0 hB hb
    · have hbo := hfp.2 b hb
      exact ⟨Nat.lt_of_lt_of_le hbo.1 hB, fun q _ hq => (hG0.1 b q hq).1 hbo⟩
  -- what hangs on the function's value is the iterator's
  let G1 : Gh := ⟨fun b => match G0.g b with | some m => if y.labels.contains m then none else some m | none => none, G0.r⟩
  have hG1g : ∀ b q, G1.g b = some q → G0.g b = some q ∧ q ∉ y.labels := fun b q hb => by
    have hb' : (match G0.g b with | some m => if y.labels.contains m then none else some m | none => none) = some q := hb
    cases hgb : G0.g b with
    | none => rw [hgb] at hb'; cases hb'
    | some m =>
      rw [hgb] at hb'
      simp only at hb'
      split at hb'
      · cases hb'
      · rename_i hc; cases hb'; exact ⟨rfl, by simpa using hc⟩
  have hG1k : ∀ b q, G0.g b = some q → q ∉ y.labels → G1.g b = some q := fun b q hb hq => by
    show (match G0.g b with | some m => if y.labels.contains m then none else some m | none => none) = some q
    rw [hb]
    simp [hq]
  have hFn : ∀ b, F b → G1.g b = none := fun b hb => by
    cases hg1 : G1.g b with
    | none => rfl
    | some q => obtain ⟨k1, k2⟩ := hG1g b q hg1; exact absurd k1 ((hF b hb).2 q k2)
  have hunC0 : ∀ b, C.old b → G1.g b = none := fun b hb => by
    cases hg1 : G1.g b with
    | none => rfl
    | some q => exact absurd hb (hG0.1 b q (hG1g b q hg1).1).1
  have hE1 : Env C (σ.killLs y.labels) a w G1 := fun s x hx => by
    rcases killLs_at hx with rfl | ⟨hx', hl⟩
    · trivial
    · exact Ok.keep (G := G0) (G' := G1) hfp (Stays.refl _ _) x _ (fun q hq => ⟨rfl, fun b hb => hG1k b q hb (fun hm => hl q hm hq), fun _ _ => rfl⟩) (hE0 s x hx')
  have hG1f : G1.fits C w := ⟨fun b q hb => hG0.1 b q (hG1g b q hb).1, hG0.2.1, fun b hb => hG1k b 2000 (hG0.2.2 b hb) (by simpa using hy2)⟩
  let Ca := rctx C G1 w C.D C.ro (glP_keep fun b hb => hS.below.block b (hfp.2 b hb)) (fun b hb => by
      have := hG1f.2.2 b hb
      exact ⟨(hG1f.1 b _ this).2, by rw [this]; rfl⟩) C.dn
    (fun b hb => by
      have hbo : C.old b := ⟨(Array.getElem?_eq_some_iff.1 (C.dok b hb).1).1, (C.dok b hb).2⟩
      exact ⟨by rw [hS.below.block b hbo]; exact (C.dok b hb).1, hunC0 b hbo⟩)
    (fun q hq => by
      obtain ⟨⟨r2, hr2⟩, hX⟩ := C.rok q hq
      have hqo : C.old q := ⟨(Array.getElem?_eq_some_iff.1 hr2).1, hX⟩
      exact ⟨⟨r2, by rw [hS.below.block q hqo]; exact hr2⟩, hunC0 q hqo⟩)
  have hCa : ∀ b, Ca.old b ↔ b < w.heap.size ∧ G1.g b = none := fun b => rctx_old b
  have hSa : Sim n Ca (σ.killLs y.labels) a w := rebase hfp hB hG1f hE1 hnb hS.size (fun _ _ _ => rfl) (Nat.le_refl _) (fun _ _ _ => rfl) (fun _ _ => rfl) hS.dfs
  obtain ⟨_, _, _, _, G2, hG2, hE2⟩ := h0 Ca a w hSa
  have hun2 : ∀ b, Ca.old b → G2.g b = none := fun b hb => by
    cases hg : G2.g b with
    | none => rfl
    | some q => exact absurd hb (hG2.1 b q hg).1
  have hE2' : Env C (mk 0) a w G2 := fun s x hx => Ok.keepC (C := Ca) (C' := C) (w := w) (w' := w) (G := G2) (G' := G2) rfl rfl (fun _ _ _ => rfl) (fun _ _ => rfl) x _ (.inr (okS_at (hmk 0) hx).1) (fun _ _ => ⟨rfl, fun _ h => h, fun _ _ => rfl⟩) (hE2 s x hx)
  refine wpIn_rangeFunc (fun fn _ => ?_)
  obtain ⟨l, dd, M, W1, hen, hl, hlw, hbel, hMn, hM, hMro⟩ := enter_rf (P := P) hS.below fn a.tmps ps assign body
  have hst1 : Stays C.old w W1 := Stays.of_below hbel fun k hk => Nat.lt_of_lt_of_le hk.1 hB
  obtain ⟨rc, hrc⟩ : ∃ rc : LoopState → Option Code → Loop, rc = fun st pe => { state := st, pending := pe, fn, tmps := a.tmps, params := ps, assign, body, defers := dd } := ⟨_, rfl⟩
  have hR0 : RInv C (mk 0) a w F l M (.loop (rc .ready none)) (fun _ => False) W1 := by
    refine ⟨hst1, ⟨G2, ⟨fun b q hb => ⟨fun ho => (hG2.1 b q hb).1 ((hCa b).2 ⟨Nat.lt_of_lt_of_le ho.1 hB, hunC0 b ho⟩), Nat.lt_of_lt_of_le (hG2.1 b q hb).2 hbel.size⟩, hG2.2⟩, fun s x hx => ?_, fun _ h => h.elim, fun b hb => hun2 b ((hCa b).2 ⟨(hF b hb).1, hFn b hb⟩), ?_, fun b hb => ?_⟩, fun _ h => h.elim, fun _ h => h.elim, by rw [hl, hrc], fun b hb => (hM b hb).2.2⟩
    · exact Ok.keep hfp hst1 x _ (fun q _ => ⟨rfl, fun _ h => h, fun b hb => hbel.block b (hG2.1 b q hb).2⟩) (hE2' s x hx)
    · cases hg : G2.g l with
      | none => rfl
      | some q => have := (hG2.1 l q hg).2; omega
    · cases hg : G2.g b with
      | none => rfl
      | some q => have := (hG2.1 b q hg).2; have := (hM b hb).1; omega
  refine ⟨l, _, W1, { target := .fn (.func gf) cvs.toArray, args := #[.func (.yield l) #[] #[]] }, W1, gf, (.func (.yield l) #[] #[] :: cvs).toArray, W1, hen, ?_, fun _ _ => trivial, ?_, fun h => by simp [RF] at h, ?_⟩
  · simp only [resolve, hv]
    simp [go_sem]
  · have := hit.ent
    unfold Enters at this
    simp [invoke, go_sem, this]
  · refine callsIn_RF ((hit.run W1 F l cvs (fun k O W => I k ∧ RInv C (mk k) a w F l M (.loop (rc .ready none)) O W)
      (fun _ O W => ∃ (c : Code) (e2 : Exit) (τ : St), (c = .ret ∧ e2 = .ret ∨ ∃ id, c = .exit id ∧ e2 = .exit id) ∧ okS S τ = true ∧ Q e2 τ ∧ RInv C τ a w F l M (.loop (rc .done (some c))) O W)
      (RepL.mono (fun _ h => .inl h) (fun b hb => hbel.block b (hF b (.inl hb)).1) caps cvs hcv) (fun b hb => Nat.lt_of_lt_of_le (hF b hb).1 hbel.size)
      (C.gl.mono (fun b hb => (hS.below.trans hst1).block b (hfp.2 b hb)) (fun b hb => .inr hb))
      (fun k O O' W W' h _ h2 hs => ⟨h.1, h.2.ab hfp hB (fun b hb => (hF b hb).1) h2 hs⟩)
      (fun k O O' W W' ⟨c, e2, τ, h1, h3, h4, h⟩ _ h2 hs => ⟨c, e2, τ, h1, h3, h4, h.ab hfp hB (fun b hb => (hF b hb).1) h2 hs⟩)
      ⟨hI0, hR0⟩ (fun k hk O W hI m => round_in hS.below hfp hlw hS.size hSd hn hp' (he k hk).1 (he k hk).2 (fun b hb => (hF b hb).1) (hmk k) (hmk (k + 1)) (hround k hk hI.1) rc hrc hI.2 m)).mono ?_)
    rintro x W3 ⟨⟨v, rfl⟩, ⟨O, hIN, hI⟩ | ⟨k, O, _, c, e2, τ, hce, hok, hQ, hI⟩⟩
    · obtain ⟨C4, x4, hS4⟩ := rf_after (r' := { rc .ready none with state := .exhausted }) hS hlw hMn (fun b hb => (hM b hb).1) hMro (noB_of (hmk N)) hI
      have h1 := run_endLoop (P := P) hI.rcd (by rw [hrc]; simp)
      have hpe : (rc .ready none).pending = none := by rw [hrc]
      exact ⟨none, _, h1.trans (congrArg (fun z => Result.ok z _) hpe), C4, mk N, x4, hdone hIN, hS4, fun _ _ => rfl, fun h => by cases h⟩
    · obtain ⟨C4, x4, hS4⟩ := rf_after (r' := { rc .done (some c) with state := .exhausted }) hS hlw hMn (fun b hb => (hM b hb).1) hMro (noB_of hok) hI
      have h1 := run_endLoop (P := P) hI.rcd (by rw [hrc]; simp)
      have hpe : (rc .done (some c)).pending = some c := by rw [hrc]
      refine ⟨some c, _, h1.trans (congrArg (fun z => Result.ok z _) hpe), ?_⟩
      rcases hce with ⟨rfl, rfl⟩ | ⟨id, rfl, rfl⟩
      · exact wpIn_ret ⟨C4, τ, x4, hQ, hS4, fun _ _ => rfl, fun h => by cases h⟩
      · exact wpIn_exit ⟨C4, τ, x4, hQ, hS4, fun _ _ => rfl, fun h => by cases h⟩

theorem code_rangeFunc {P : Program} {n : Nat} {σ : St} {Q : Exit → St → Prop} {g : Operand} {ps : Array Tmp} {assign body : Code} {y : SV} {gf : FuncId} {caps : List PV} {N : Nat} {e : Nat → List PV} {S : List Nat}
    (hit : ITer P gf caps N e) (mk : Nat → St) (I : Nat → Prop) (hI0 : I 0) (hg : σ.ev g = some y) (hy : y.pv = some (.clo gf caps)) (hSd : S = ps.toList ++ cdsts assign ++ cdsts body) (hn : ps.toList.Nodup) (hp : ps.toList.all (Nat.blt · n) = true)
    (he : ∀ k, k < N → (e k).all okv = true ∧ (e k).length = ps.toList.length) (hmk : ∀ k, okS S (mk k) = true) (hy2 : y.labels.contains 2000 = false) (hnb : (σ.killLs y.labels).noB = true) (h0 : Imp n (σ.killLs y.labels) (mk 0))
    (hround : ∀ k, k < N → I k → ∀ K : St → Prop, (∀ s, s.noB = true → codeT P n body s (RoundPost n S Q fun s => I (k + 1) ∧ Imp n s (mk (k + 1))) → K s) → codeT P n assign (parSt ps.toList (e k) ++ mk k) (Then K fun _ _ => False))
    (hdone : I N → Q .normal (mk N)) : codeT P n (.rangeFunc g ps assign body) σ Q :=
  code_rangeFuncE hit mk I hI0 (fun _ _ _ _ hE => hE.ev hg) hy hSd hn hp he hmk hy2 hnb h0 hround hdone

/-- A range over a function of the package: no variables are captured. -/
theorem code_rangeFunc0 {P : Program} {n : Nat} {σ : St} {Q : Exit → St → Prop} {ps : Array Tmp} {assign body : Code} {gf : FuncId} {N : Nat} {e : Nat → List PV} {S : List Nat}
    (hit : ITer P gf [] N e) (mk : Nat → St) (I : Nat → Prop) (hI0 : I 0) (hSd : S = ps.toList ++ cdsts assign ++ cdsts body) (hn : ps.toList.Nodup) (hp : ps.toList.all (Nat.blt · n) = true)
    (he : ∀ k, k < N → (e k).all okv = true ∧ (e k).length = ps.toList.length) (hmk : ∀ k, okS S (mk k) = true) (hnb : (σ.killLs (SV.val (.clo gf [])).labels).noB = true) (h0 : Imp n (σ.killLs (SV.val (.clo gf [])).labels) (mk 0))
    (hround : ∀ k, k < N → I k → ∀ K : St → Prop, (∀ s, s.noB = true → codeT P n body s (RoundPost n S Q fun s => I (k + 1) ∧ Imp n s (mk (k + 1))) → K s) → codeT P n assign (parSt ps.toList (e k) ++ mk k) (Then K fun _ _ => False))
    (hdone : I N → Q .normal (mk N)) : codeT P n (.rangeFunc (.func gf) ps assign body) σ Q :=
  code_rangeFuncE (y := .val (.clo gf [])) hit mk I hI0 (fun _ _ _ _ _ => ⟨[], rfl, rfl⟩) rfl hSd hn hp he hmk rfl hnb h0 hround hdone

end Go.Proofs.YtfagllolcalfiaaDoor
