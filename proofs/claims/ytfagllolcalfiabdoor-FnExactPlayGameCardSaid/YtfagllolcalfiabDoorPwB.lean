/- The state of a frame over pure values, triples on operations, on regions and on code, and the calls' contracts. Own work; no conditions; nothing here is about one program. -/
import Derived.Test.YtfagllolcalfiabDoorPwA
import Derived.Scope
import Derived.OrdersIn
import Derived.TacticsIn
import Derived.CallsIn
namespace Go.Proofs.YtfagllolcalfiabDoor
open Go.RowKit
abbrev St := List (Nat × SV)
def St.at : St → Nat → Option SV
  | [], _ => none
  | (t, x) :: r, s => if t = s then some x else St.at r s
def cv1 : Value → Option PV
  | .bool b => some (.bool b)
  | .int k n => some (.int k n)
  | .string s => some (.str s.data.toList)
  | .slice none 0 0 => some (.sl 0 [])
  | .nilIface => some (.cst 1)
  | .nilFunc => some (.cst 2)
  | .map none => some (.cst 3)
  | _ => none
def cvs : List Value → Option (List PV)
  | [] => some []
  | v :: r => match cv1 v, cvs r with
    | some p, some ps => some (p :: ps)
    | _, _ => none
def cv : Value → Option PV
  | .agg vs => (cvs vs.toList).map .agg
  | v => cv1 v
def St.ev (σ : St) : Operand → Option SV
  | .tmp t => σ.at t
  | .const v => (cv v).map .val
  | .func f => some (.fn f)
  | .global _ => none
def Env (C : Ctx) (σ : St) (a : Act) (w : World) (G : Gh) : Prop :=
  ∀ s x, σ.at s = some x → Ok C w G x (a.tmps.getD s undef)
structure Sim (n : Nat) (C : Ctx) (σ : St) (a : Act) (w : World) : Prop where
  fp : (∀ i b, C.Fp i b → C.old b) ∧ ∀ b, C.ex b → C.old b
  below : Stays C.old C.w0 w
  dfs : a.defers = C.marks
  size : a.tmps.size = n
  gh : ∃ G : Gh, G.fits C w ∧ Env C σ a w G
theorem cv1_ok {F : Nat → Prop} {w : World} {v : Value} {p : PV} (h : cv1 v = some p) : Rep w F p v ∧ p.one = true := by
  unfold cv1 at h
  split at h <;> simp at h <;> subst h <;> simp [Rep, PV.one, cstV]
theorem cvs_ok {F : Nat → Prop} {w : World} : ∀ {vs : List Value} {ps : List PV}, cvs vs = some ps → RepL w F ps vs
  | [], ps, h => by simp [cvs] at h; subst h; rfl
  | v :: r, ps, h => by
    unfold cvs at h
    split at h
    · rename_i p ps' h1 h2
      simp at h; subst h
      exact ⟨v, r, rfl, (cv1_ok (F := F) (w := w) h1).2, (cv1_ok h1).1, cvs_ok h2⟩
    · simp at h
theorem cv_ok {F : Nat → Prop} {w : World} {v : Value} {p : PV} (h : cv v = some p) : Rep w F p v := by
  unfold cv at h
  split at h
  · rename_i vs
    obtain ⟨ps, h1, rfl⟩ := Option.map_eq_some_iff.1 h
    simp only [Rep]
    exact ⟨vs.toList, by simp, cvs_ok h1⟩
  · exact (cv1_ok h).1
theorem Env.ev {C : Ctx} {σ : St} {a : Act} {w : World} {G : Gh} (hE : Env C σ a w G) {x : Operand} {s : SV} (h : σ.ev x = some s) :
    Ok C w G s (a.eval x) := by
  cases x with
  | tmp t => exact hE t s h
  | const v =>
    obtain ⟨p, hp, rfl⟩ := Option.map_eq_some_iff.1 h
    exact cv_ok hp
  | func f => simp [St.ev] at h; subst h; rfl
  | global g => simp [St.ev] at h
/-! ### Triples -/
def opT (P : Program) (n : Nat) (o : Oper) (σ : St) (K : St → Prop) : Prop :=
  ∀ C a w, Sim n C σ a w → ∀ (K' : Act → World → Prop) (Q : Exit → Act → World → Prop), (∀ σ' a' w', K σ' → Sim n C σ' a' w' → K' a' w') → o.wp P a w K' Q
def listT (P : Program) (n : Nat) (ops : Array Oper) (l : List Oper) (σ : St) (K : St → Prop) : Prop :=
  ∀ C a w, Sim n C σ a w → ∀ (Q : Exit → Act → World → Prop), (∀ σ' a' w', K σ' → Sim n C σ' a' w' → Q .normal a' w') → wpList P ops Q l a w
def RF (ρ : Option Nat) : Fence := { fn := fun _ => True, depth := none, alive := false, round := ρ }
def cdsts : Code → List Nat
  | .region _ ops _ => ops.toList.filterMap (·.dst)
  | .seq a b => cdsts a ++ cdsts b
  | .cond _ a b => cdsts a ++ cdsts b
  | .block _ a => cdsts a
  | .loop a => cdsts a
  | .scope a => cdsts a
  | _ => []
def rfFree : Code → Bool
  | .seq a b => rfFree a && rfFree b
  | .cond _ a b => rfFree a && rfFree b
  | .block _ a => rfFree a
  | .loop a => rfFree a
  | .scope a => rfFree a
  | .rangeFunc _ _ _ _ => false
  | _ => true
def KeptS (S : List Nat) (a a' : Act) : Prop := ∀ s, s ∉ S → a'.tmps.getD s undef = a.tmps.getD s undef
theorem KeptS.refl (S : List Nat) (a : Act) : KeptS S a a := fun _ _ => rfl
theorem KeptS.trans {S : List Nat} {a b c : Act} (h : KeptS S a b) (k : KeptS S b c) : KeptS S a c := fun s hs => (k s hs).trans (h s hs)
theorem KeptS.mono {S S' : List Nat} {a b : Act} (h : KeptS S a b) (hs : ∀ s ∈ S, s ∈ S') : KeptS S' a b := fun s hn => h s fun hm => hn (hs s hm)
structure Ctx.ext (C C' : Ctx) : Prop where
  fp : C'.Fp = C.Fp
  ex : C'.ex = C.ex
  pin : C'.pin = C.pin
  x0 : C'.X0 = C.X0
  ro : C'.ro = C.ro
  old : ∀ b, C.old b → C'.old b
  size : C.B ≤ C'.B
  st : Stays C.old C.w0 C'.w0
  d : ∀ b ∈ C'.D, b ∈ C.D ∨ C.B ≤ b
  dro : ∀ l, C.ro = some l → C'.D = C.D
theorem Ctx.ext.refl (C : Ctx) : C.ext C := ⟨rfl, rfl, rfl, rfl, rfl, fun _ h => h, Nat.le_refl _, Stays.refl _ _, fun _ h => .inl h, fun _ _ => rfl⟩
theorem Ctx.ext.trans {A B C : Ctx} (h : A.ext B) (k : B.ext C) : A.ext C :=
  ⟨k.fp.trans h.fp, k.ex.trans h.ex, k.pin.trans h.pin, k.x0.trans h.x0, k.ro.trans h.ro, fun b hb => k.old b (h.old b hb), Nat.le_trans h.size k.size, h.st.trans (k.st.mono h.old),
   fun b hb => (k.d b hb).elim (fun hb => h.d b hb) (fun hb => .inr (Nat.le_trans h.size hb)), fun l hl => (k.dro l (h.ro.trans hl)).trans (h.dro l hl)⟩
def codePost (n : Nat) (C : Ctx) (c : Code) (Q : Exit → St → Prop) (a : Act) (e : Exit) (a' : Act) (w' : World) : Prop :=
  ∃ C' σ', C.ext C' ∧ Q e σ' ∧ Sim n C' σ' a' w' ∧ KeptS (cdsts c) a a' ∧ (rfFree c = true → C'.D = C.D)
def codeT (P : Program) (n : Nat) (c : Code) (σ : St) (Q : Exit → St → Prop) : Prop :=
  ∀ C a w, Sim n C σ a w → ∀ N, c.wpIn (RF C.ro) N P (codePost n C c Q a) a w
/-! ### From the calculus of activations to that of rounds -/
section bridge
variable {P : Program} {Q0 Q : Exit → Act → World → Prop} {ρ : Option Nat} {N m : Nat}
theorem callsIn_RF {ρ : Option Nat} {N : Nat} {f : FuncId} {args : Array Value} {w : World} {R : Ending → World → Prop} (h : Calls P f args w R) : CallsIn (RF ρ) N P f args w R :=
  (callsIn_wide (n := N)).2 h
theorem rowsIn_RF {ρ : Option Nat} {N : Nat} {row : String} {args : Array Value} {w : World} {R : Value → World → Prop} (h : Rows P row args w R) : RowsIn (RF ρ) N P row args w R :=
  fun c cs _ => let ⟨v, w', r, s⟩ := h c cs; ⟨v, w', r, (stepsIn_wide (P := P)).2 s⟩
theorem put_defers (a : Act) (d : Option Tmp) (v : Value) : (a.put d v).defers = a.defers := by cases d <;> rfl
theorem oper_grow (hn : ∀ e a w, Q0 e a w → e = .normal) {o : Oper} {a : Act} {w : World} {K : Act → World → Prop} (hK : ∀ a' w', K a' w' → a'.defers.length ≤ m) (h : o.wp P a w K Q0) : a.defers.length ≤ m := by
  unfold Oper.wp at h
  generalize (execOp a.eval o).run P w = r at h
  cases r with
  | ok x w' =>
    cases x <;> simp only [Oper.upon] at h <;>
      first
        | exact h.elim
        | (have := hK _ _ h; rw [put_defers] at this; first | exact this | (simp only [List.length_cons] at this; omega))
        | (obtain ⟨e, w2, fr, hR, _⟩ := h []
           cases e with
           | returned v => have := hK _ _ hR; rwa [put_defers] at this
           | panicked c => exact absurd (hn _ _ _ hR) (by simp)
           | outgrown => obtain ⟨_, _, hq⟩ := hR; exact absurd (hn _ _ _ hq) (by simp))
        | (obtain ⟨v, w2, hR, _⟩ := h (default : Frame) []
           have := hK _ _ hR
           rwa [put_defers] at this)
  | halt x w' =>
    cases x <;> simp only [Oper.upon] at h <;> first
      | exact h.elim
      | exact absurd (hn _ _ _ h) (by simp)
theorem oper_in (hn : ∀ e a w, Q0 e a w → e = .normal) {o : Oper} {a : Act} {w : World} {K K' : Act → World → Prop} (hm : a.defers.length = m) (hg : ∀ a' w', K a' w' → a'.defers.length ≤ m)
    (hK : ∀ v w', K (a.put o.dst v) w' → K' (a.put o.dst v) w') (h : o.wp P a w K Q0) : o.wpIn (RF ρ) N P a w K' Q := by
  refine ⟨fun _ _ => trivial, ?_⟩
  have hdef : ∀ d w', K ({ a with defers := d :: a.defers }.put o.dst undef) w' → False := fun d w' hk => by
    have := hg _ _ hk; rw [put_defers] at this; simp only [List.length_cons] at this; omega
  unfold Oper.wp at h
  by_cases hd : ∃ c, o.op = .defer c
  · exfalso
    obtain ⟨c, hc⟩ := hd
    have he : execOp a.eval o = (do let d ← resolve a.eval c o.type; pure (.defer d)) := by unfold execOp; rw [hc]
    rw [he, Sem.run_bind] at h
    cases hr : (resolve a.eval c o.type).run P w with
    | ok d w1 => rw [hr] at h; simp only [Result.andThen, Sem.run_pure, Oper.upon] at h; exact hdef d w1 h
    | halt x w1 =>
      rw [hr] at h
      cases x <;> simp only [Result.andThen, Oper.upon] at h <;> first
        | exact h.elim
        | exact absurd (hn _ _ _ h) (by simp)
  · rw [Oper.semAt_eq _ _ _ (fun c hc => hd ⟨c, hc⟩)]
    generalize (execOp a.eval o).run P w = r at h ⊢
    cases r with
    | ok x w' =>
      cases x <;> simp only [Oper.upon] at h <;> simp only [Oper.uponIn] <;>
        first
          | exact h.elim
          | exact hK _ _ h
          | exact (hdef _ _ h).elim
          | exact ⟨fun h => by simp [RF] at h, callsIn_RF (h.mono fun e w2 hR => by
              cases e with
              | returned v => exact hK _ _ hR
              | panicked c => exact absurd (hn _ _ _ hR) (by simp)
              | outgrown => obtain ⟨_, _, hq⟩ := hR; exact absurd (hn _ _ _ hq) (by simp))⟩
          | exact ⟨fun h => by simp [RF] at h, rowsIn_RF (h.mono fun v w2 hR => hK _ _ hR)⟩
    | halt x w' =>
      cases x <;> simp only [Oper.upon] at h <;> first
        | exact h.elim
        | exact absurd (hn _ _ _ h) (by simp)
theorem list_grow {ops : Array Oper} (hn : ∀ e a w, Q0 e a w → e = .normal ∧ a.defers.length = m) : ∀ (l : List Oper) (a : Act) (w : World), wpList P ops Q0 l a w → a.defers.length ≤ m
  | [], a, w, h => by have := (hn _ _ _ h).2; omega
  | o :: l, a, w, h => by
    unfold wpList at h
    split at h
    · rcases h with h | ⟨_, _, _, hq⟩
      · exact oper_grow (fun e a w hq => (hn e a w hq).1) (fun a' w' h' => list_grow hn l a' w' h') h
      · exact absurd (hn _ _ _ hq).1 (by simp)
    · have := list_grow hn l _ w h
      rwa [put_defers] at this
theorem kept_put {S : List Nat} {a0 a : Act} {o : Oper} (hS : ∀ d, o.dst = some d → d ∈ S) (hk : KeptS S a0 a) (v : Value) : KeptS S a0 (a.put o.dst v) := by
  cases hd : o.dst with
  | none => exact hk
  | some d =>
    intro s hs
    have hne : d ≠ s := fun e => hs (e ▸ hS d hd)
    have := hk s hs
    simp only [Act.put, Array.getD_eq_getD_getElem?] at this ⊢
    rw [Array.getElem?_setIfInBounds_ne hne]
    exact this
theorem list_in {ops : Array Oper} {S : List Nat} {a0 : Act} (hn : ∀ e a w, Q0 e a w → e = .normal ∧ a.defers.length = m) (hQ : ∀ a w, Q0 .normal a w → KeptS S a0 a → Q .normal a w) :
    ∀ (l : List Oper) (a : Act) (w : World), (∀ o ∈ l, ∀ d, o.dst = some d → d ∈ S) → a.defers.length = m → KeptS S a0 a → wpList P ops Q0 l a w → wpListIn (RF ρ) N P ops Q l a w
  | [], a, w, _, _, hk, h => hQ a w h hk
  | o :: l, a, w, hS, hm, hk, h => by
    unfold wpList at h
    unfold wpListIn
    have hSo := hS o List.mem_cons_self
    split at h
    · rename_i hw
      rw [if_pos hw]
      rcases h with h | ⟨_, _, _, hq⟩
      · exact oper_in (fun e a w hq => (hn e a w hq).1) hm (fun a' w' h' => list_grow hn l a' w' h')
          (fun v w' h' => list_in hn hQ l _ w' (fun o' ho' => hS o' (List.mem_cons_of_mem _ ho')) (by rw [put_defers]; exact hm) (kept_put hSo hk v) h') h
      · exact absurd (hn _ _ _ hq).1 (by simp)
    · rename_i hw
      rw [if_neg hw]
      exact ⟨fun _ _ => trivial, list_in hn hQ l _ w (fun o' ho' => hS o' (List.mem_cons_of_mem _ ho')) (by rw [put_defers]; exact hm) (kept_put hSo hk undef) h⟩
theorem any_grow {md : Region.Mode} {ops : Array Oper} (hn : ∀ e a w, Q0 e a w → e = .normal ∧ a.defers.length = m) : ∀ (k : Nat) (ls : Array Bool) (a : Act) (w : World), wpAny P md ops Q0 k ls a w → a.defers.length ≤ m
  | 0, ls, a, w, h => by have := (hn _ _ _ h.2).2; omega
  | k + 1, ls, a, w, h => by
    obtain ⟨h0, h1⟩ := h
    cases hr : Region.ready md ops ls with
    | nil => have := (hn _ _ _ (h0 hr)).2; omega
    | cons i r =>
      have h2 := h1 i (by rw [hr]; exact List.mem_cons_self)
      unfold wpOp at h2
      split at h2
      · exact any_grow hn k _ a w h2
      · split at h2
        · rcases h2 with h2 | ⟨_, _, _, hq⟩
          · exact oper_grow (fun e a w hq => (hn e a w hq).1) (fun a' w' h' => any_grow hn k _ a' w' h') h2
          · exact absurd (hn _ _ _ hq).1 (by simp)
        · have := any_grow hn k _ _ w h2
          rwa [put_defers] at this
theorem any_in {md : Region.Mode} {ops : Array Oper} {S : List Nat} {a0 : Act} (hn : ∀ e a w, Q0 e a w → e = .normal ∧ a.defers.length = m) (hQ : ∀ a w, Q0 .normal a w → KeptS S a0 a → Q .normal a w)
    (hS : ∀ o ∈ ops, ∀ d, o.dst = some d → d ∈ S) : ∀ (k : Nat) (ls : Array Bool) (a : Act) (w : World), a.defers.length = m → KeptS S a0 a → wpAny P md ops Q0 k ls a w → wpAnyIn (RF ρ) N P md ops Q k ls a w
  | 0, ls, a, w, _, hk, h => ⟨h.1, hQ a w h.2 hk⟩
  | k + 1, ls, a, w, hm, hk, h => by
    obtain ⟨h0, h1⟩ := h
    refine ⟨fun hr => hQ a w (h0 hr) hk, fun i hi => ?_⟩
    have h2 := h1 i hi
    unfold wpOp at h2
    unfold wpOpIn
    split at h2
    · rename_i ho
      rw [ho]
      exact any_in hn hQ hS k _ a w hm hk h2
    · rename_i o ho
      rw [ho]
      have hSo := hS o (Array.mem_of_getElem? ho)
      simp only []
      split at h2
      · rename_i hw
        rw [if_pos hw]
        rcases h2 with h2 | ⟨_, _, _, hq⟩
        · exact oper_in (fun e a w hq => (hn e a w hq).1) hm (fun a' w' h' => any_grow hn k _ a' w' h')
            (fun v w' h' => any_in hn hQ hS k _ _ w' (by rw [put_defers]; exact hm) (kept_put hSo hk v) h') h2
        · exact absurd (hn _ _ _ hq).1 (by simp)
      · rename_i hw
        rw [if_neg hw]
        exact ⟨fun _ _ => trivial, any_in hn hQ hS k _ _ w (by rw [put_defers]; exact hm) (kept_put hSo hk undef) h2⟩
end bridge
def regPost (n : Nat) (C : Ctx) (K : St → Prop) (e : Exit) (a' : Act) (w' : World) : Prop := e = .normal ∧ ∃ σ', K σ' ∧ Sim n C σ' a' w'
theorem regPost_n {n : Nat} {C : Ctx} {K : St → Prop} (e : Exit) (a : Act) (w : World) (h : regPost n C K e a w) : e = .normal ∧ a.defers.length = C.marks.length := by
  obtain ⟨he, σ', _, hS⟩ := h
  exact ⟨he, by rw [hS.dfs]⟩
theorem region_any {P : Program} {n : Nat} {σ : St} {C : Ctx} {a : Act} {w : World} {id : Nat} {ops : Array Oper} {Q : Exit → St → Prop} (hS : Sim n C σ a w) (hm : P.follows .mixedOrders = true)
    (h : wpAny P .any ops (regPost n C (Q .normal)) ops.size (Array.replicate ops.size false) a { w with drawn := w.drawn + 1 }) (N : Nat) : (Code.region id ops true).wpIn (RF C.ro) N P (codePost n C (.region id ops true) Q a) a w := by
  refine wpIn_region_any hm ?_
  refine any_in (S := cdsts (.region id ops true)) (a0 := a) regPost_n (fun a' w' h1 hk => ?_) (fun o ho d hd => ?_) _ _ a _ (by rw [hS.dfs]) (KeptS.refl _ _) h
  · obtain ⟨_, σ', h2, h3⟩ := h1
    exact ⟨C, σ', Ctx.ext.refl C, h2, h3, hk, fun _ => rfl⟩
  · exact List.mem_filterMap.2 ⟨o, by simpa using ho, hd⟩
section
variable {P : Program} {n : Nat} {σ : St} {K : St → Prop} {ops : Array Oper} {l : List Oper}
theorem list_nil (h : K σ) : listT P n ops [] σ K := fun _ _ _ hS _ hQ => hQ _ _ _ h hS
theorem list_cons {o : Oper} (hg : o.guard = none) (h : opT P n o σ fun σ' => listT P n ops l σ' K) : listT P n ops (o :: l) σ K := by
  intro C a w hS Q hQ
  refine wpList_plain hg fun K' hK' => ?_
  exact h C a w hS K' Q fun σ' a' w' hl hS' => hK' _ _ (hl C a' w' hS' Q hQ)
theorem Sim.put_dead {C : Ctx} {a : Act} {w : World} (hS : Sim n C σ a w) {d : Nat} (hd : σ.at d = none) (v : Value) : Sim n C σ (a.put (some d) v) w := by
  refine ⟨hS.fp, hS.below, hS.dfs, by simpa [Act.put] using hS.size, ?_⟩
  obtain ⟨G, h1, h2⟩ := hS.gh
  refine ⟨G, h1, fun s x hx => ?_⟩
  have hne : s ≠ d := fun e => by rw [e, hd] at hx; cases hx
  have := h2 s x hx
  simp only [Act.put, Array.getD_eq_getD_getElem?] at this ⊢
  rw [Array.getElem?_setIfInBounds_ne (Ne.symm hne)]
  exact this
theorem list_guard {o : Oper} {d j dj : Nat} {want b : Bool} (hg : o.guard = some (j, want)) (hd : o.dst = some d) (hj : (ops[j]?).bind (·.dst) = some dj) (hdj : σ.at dj = some (.val (.bool b)))
    (hn : dj < n) (hdd : σ.at d = none) (h1 : b = want → opT P n o σ fun σ' => listT P n ops l σ' K) (h2 : b ≠ want → listT P n ops l σ K) : listT P n ops (o :: l) σ K := by
  intro C a w hS Q hQ
  have hy : yielded ops a.tmps j = some b := by
    obtain ⟨G, _, hE⟩ := hS.gh
    have := hE dj _ hdj
    simp only [Ok, Rep] at this
    unfold yielded
    rw [hj]
    have hlt : dj < a.tmps.size := by rw [hS.size]; exact hn
    simp only [Array.getD_eq_getD_getElem?, Array.getElem?_eq_getElem hlt, Option.getD_some] at this
    simp [Array.getElem?_eq_getElem hlt, this]
  refine wpList_step fun K' hK' => ?_
  have hw : Region.wanted o (yielded ops a.tmps) = (b == want) := by
    simp only [Region.wanted, hg, hy]
    cases b <;> cases want <;> rfl
  rw [hw]
  by_cases hb : b = want
  · rw [if_pos (by simp [hb])]
    exact h1 hb C a w hS K' Q fun σ' a' w' hl hS' => hK' _ _ (hl C a' w' hS' Q hQ)
  · rw [if_neg (by simp [hb]), hd]
    exact hK' _ _ (h2 hb C _ w (hS.put_dead hdd undef) Q hQ)
theorem opT.mono {o : Oper} {K' : St → Prop} (h : opT P n o σ K) (hk : ∀ σ', K σ' → K' σ') : opT P n o σ K' :=
  fun C a w hS L Q hL => h C a w hS L Q fun σ' a' w' hKs hS' => hL σ' a' w' (hk _ hKs) hS'
theorem listT.mono {K' : St → Prop} (h : listT P n ops l σ K) (hk : ∀ σ', K σ' → K' σ') : listT P n ops l σ K' :=
  fun C a w hS Q hQ => h C a w hS Q fun σ' a' w' hKs hS' => hQ σ' a' w' (hk _ hKs) hS'
end
section
variable {P : Program} {n : Nat} {σ : St} {Q : Exit → St → Prop}
theorem codeT.mono {c : Code} {Q' : Exit → St → Prop} (h : codeT P n c σ Q) (hq : ∀ e σ', Q e σ' → Q' e σ') : codeT P n c σ Q' :=
  fun C a w hS N => wpIn_mono (h C a w hS N) fun e _ _ ⟨C', σ', h0, h1, h2⟩ => ⟨C', σ', h0, hq e σ' h1, h2⟩
theorem code_region {id : Nat} {lo : List Oper} (h : listT P n lo.toArray lo σ (Q .normal)) : codeT P n (.region id lo.toArray false) σ Q := by
  intro C a w hS N
  have h1 := h C a w hS (regPost n C (Q .normal)) fun σ' a' w' hk hS' => ⟨rfl, σ', hk, hS'⟩
  refine wpIn_region_lit (list_in (S := cdsts (.region id lo.toArray false)) (a0 := a) regPost_n (fun a' w' h1 hk => ?_) lo a w (fun o ho d hd => ?_) (by rw [hS.dfs]) (KeptS.refl _ _) h1)
  · obtain ⟨_, σ', h2, h3⟩ := h1
    exact ⟨C, σ', Ctx.ext.refl C, h2, h3, hk, fun _ => rfl⟩
  · exact List.mem_filterMap.2 ⟨o, by simpa using ho, hd⟩
def Then (K : St → Prop) (Q : Exit → St → Prop) : Exit → St → Prop
  | .normal, σ => K σ
  | e, σ => Q e σ
theorem code_seq {x y : Code} (h : ∀ K : St → Prop, (∀ σ', codeT P n y σ' Q → K σ') → codeT P n x σ (Then K Q)) : codeT P n (.seq x y) σ Q := by
  intro C a w hS N
  refine wpIn_seq (wpIn_mono (h (fun σ' => codeT P n y σ' Q) (fun _ h => h) C a w hS N) ?_)
  rintro e a' w' ⟨C', σ', h0, h1, h2, hk, hD⟩
  have hD' : rfFree (.seq x y) = true → C'.D = C.D := fun h => hD (by simp only [rfFree, Bool.and_eq_true] at h; exact h.1)
  have hk' : KeptS (cdsts (.seq x y)) a a' := hk.mono fun s hs => List.mem_append_left _ hs
  cases e <;> first
    | (have h3 := h1 C' a' w' h2 N
       rw [h0.ro] at h3
       refine wpIn_mono h3 ?_
       rintro e2 a2 w2 ⟨C2, σ2, k0, k1, k2, kk, kD⟩
       exact ⟨C2, σ2, h0.trans k0, k1, k2, hk'.trans (kk.mono fun s hs => List.mem_append_right _ hs), fun h => (kD (by simp only [rfFree, Bool.and_eq_true] at h; exact h.2)).trans (hD' h)⟩)
    | exact ⟨C', σ', h0, h1, h2, hk', hD'⟩
theorem code_skip (h : Q .normal σ) : codeT P n .skip σ Q := fun C a _ hS _ => wpIn_skip ⟨C, σ, Ctx.ext.refl C, h, hS, KeptS.refl _ a, fun _ => rfl⟩
theorem code_label {l : Nat} (h : Q .normal σ) : codeT P n (.label l) σ Q := fun C a _ hS _ => wpIn_label ⟨C, σ, Ctx.ext.refl C, h, hS, KeptS.refl _ a, fun _ => rfl⟩
theorem code_exit {id : Nat} (h : Q (.exit id) σ) : codeT P n (.exit id) σ Q := fun C a _ hS _ => wpIn_exit ⟨C, σ, Ctx.ext.refl C, h, hS, KeptS.refl _ a, fun _ => rfl⟩
theorem code_ret (h : Q .ret σ) : codeT P n .ret σ Q := fun C a _ hS _ => wpIn_ret ⟨C, σ, Ctx.ext.refl C, h, hS, KeptS.refl _ a, fun _ => rfl⟩
def InBlock (id : Nat) (Q : Exit → St → Prop) : Exit → St → Prop
  | .exit id', σ => if id' = id then Q .normal σ else Q (.exit id') σ
  | e, σ => Q e σ
theorem code_block {id : Nat} {c : Code} (h : codeT P n c σ (InBlock id Q)) : codeT P n (.block id c) σ Q := by
  intro C a w hS N
  refine wpIn_block (wpIn_mono (h C a w hS N) ?_)
  rintro e _ _ ⟨C', σ', h0, h1, h2⟩
  cases e <;> try exact ⟨C', σ', h0, h1, h2⟩
  rename_i id'
  simp only [Exit.inBlock, InBlock] at h1 ⊢
  split at h1
  · rename_i he; subst he; rw [if_pos rfl]; exact ⟨C', σ', h0, h1, h2⟩
  · rename_i he; rw [if_neg he]; exact ⟨C', σ', h0, h1, h2⟩
theorem code_cond {c : Operand} {x y : Code} {b : Bool} (hc : σ.ev c = some (.val (.bool b))) (ht : b = true → codeT P n x σ Q) (hf : b = false → codeT P n y σ Q) : codeT P n (.cond c x y) σ Q := by
  intro C a w hS N
  obtain ⟨G, _, hE⟩ := hS.gh
  have he : a.eval c = .bool b := by simpa [Ok, Rep] using hE.ev hc
  refine wpIn_cond_split he (fun h => ?_) (fun h => ?_)
  · exact wpIn_mono (ht h C a w hS N) fun e _ _ ⟨C', σ', h0, h1, h2, hk, hD⟩ => ⟨C', σ', h0, h1, h2, hk.mono fun s hs => List.mem_append_left _ hs, fun h => hD (by simp only [rfFree, Bool.and_eq_true] at h; exact h.1)⟩
  · exact wpIn_mono (hf h C a w hS N) fun e _ _ ⟨C', σ', h0, h1, h2, hk, hD⟩ => ⟨C', σ', h0, h1, h2, hk.mono fun s hs => List.mem_append_right _ hs, fun h => hD (by simp only [rfFree, Bool.and_eq_true] at h; exact h.2)⟩
def InScope (Q : Exit → St → Prop) : Exit → St → Prop
  | .goto _, _ => False
  | e, σ => Q e σ
theorem stepR_scope {P : Program} {b : Frame} {a : Act} {k : List Item} {cs : List Frame} {w : World} {c : Code} : step P (lone (b.atR a (.code (.scope c) :: k)) cs w) = .next (lone (b.atR a (.code c :: .inScope c :: k)) cs w) :=
  step_lone_go (by simp [stepG, stepG.exec, Frame.atR])
theorem stepR_inScope {P : Program} {b : Frame} {a : Act} {k : List Item} {cs : List Frame} {w : World} {c : Code} : step P (lone (b.atR a (.inScope c :: k)) cs w) = .next (lone (b.atR a k) cs w) :=
  step_lone_go (by simp [stepG, stepG.exec, Frame.atR])
theorem code_scope {c : Code} (h : codeT P n c σ (InScope Q)) : codeT P n (.scope c) σ Q := by
  intro C a w hS N b k cs hro hb hr
  have h0 : (lone (b.atR a (.code (.scope c) :: k)) cs w).fenced P (RF C.ro) := fenced_calm hb hr rfl
  obtain ⟨e, a₁, w₁, hq, harr⟩ := h C a w hS N b (.inScope c :: k) cs hro hb hr
  obtain ⟨C', σ', g0, g1, g2⟩ := hq
  cases e with
  | normal => exact ⟨.normal, a₁, w₁, ⟨C', σ', g0, g1, g2⟩, .head h0 stepR_scope (StepsIn.trans harr (.one (fenced_calm hb hr rfl) stepR_inScope))⟩
  | exit id => exact ⟨.exit id, a₁, w₁, ⟨C', σ', g0, g1, g2⟩, fun k' hk => .head h0 stepR_scope (harr.1 k' (by simp [exitTo, hk])), fun hr' hk => let ⟨k₁, h1, h2⟩ := harr.2 hr' (by simp [exitTo, hk]); ⟨k₁, h1, .head h0 stepR_scope h2⟩⟩
  | goto l => exact g1.elim
  | ret => exact ⟨_, a₁, w₁, ⟨C', σ', g0, g1, g2⟩, .of_steps (.one h0 stepR_scope) harr⟩
  | panic ch => exact ⟨_, a₁, w₁, ⟨C', σ', g0, g1, g2⟩, .of_steps (.one h0 stepR_scope) harr⟩
  | outgrown => exact ⟨_, a₁, w₁, ⟨C', σ', g0, g1, g2⟩, .of_steps (.one h0 stepR_scope) harr⟩
theorem sc_r (h : Q .ret σ) : InScope Q .ret σ := h
def St.ge (σ σ' : St) : Prop := ∀ s x, σ'.at s = some x → σ.at s = some x
theorem Sim.weaken {C : Ctx} {a : Act} {w : World} {σ' : St} (hS : Sim n C σ a w) (h : σ.ge σ') : Sim n C σ' a w := by
  obtain ⟨G, h1, h2⟩ := hS.gh
  exact ⟨hS.fp, hS.below, hS.dfs, hS.size, G, h1, fun s x hx => h2 s x (h s x hx)⟩
def Imp (n : Nat) (σ σ' : St) : Prop := ∀ C a w, Sim n C σ a w → Sim n C σ' a w
theorem Imp.refl (n : Nat) (σ : St) : Imp n σ σ := fun _ _ _ h => h
theorem Imp.trans {n : Nat} {σ σ' σ'' : St} (h : Imp n σ σ') (k : Imp n σ' σ'') : Imp n σ σ'' := fun C a w hS => k C a w (h C a w hS)
def Covers (σ : St) : St → Prop
  | [] => True
  | (s, x) :: r => σ.at s = some x ∧ Covers σ r
theorem imp_covers {n : Nat} {σ : St} : ∀ {σ' : St}, Covers σ σ' → Imp n σ σ' := by
  intro σ' h C a w hS
  have key : ∀ (σ' : St), Covers σ σ' → σ.ge σ' := by
    intro σ'
    induction σ' with
    | nil => intro _ s x hx; simp [St.at] at hx
    | cons e r ih =>
      obtain ⟨t, y⟩ := e
      intro ⟨h1, h2⟩ s x hx
      simp only [St.at] at hx
      split at hx
      · rename_i he; subst he; cases hx; exact h1
      · exact ih h2 s x hx
  exact hS.weaken (key σ' h)
theorem codeT.imp {c : Code} {σ' : St} (h : codeT P n c σ' Q) (hi : Imp n σ σ') : codeT P n c σ Q := fun C a w hS N => h C a w (hi C a w hS) N
theorem codeT.post {c : Code} {Q' : Exit → St → Prop} (h : codeT P n c σ Q) (hq : ∀ e σ', Q e σ' → ∃ σ2, Imp n σ' σ2 ∧ Q' e σ2) : codeT P n c σ Q' :=
  fun C a w hS N => wpIn_mono (h C a w hS N) fun e _ _ ⟨C', σ', h0, h1, h2, hk⟩ => let ⟨σ2, h3, h4⟩ := hq e σ' h1; ⟨C', σ2, h0, h4, h3 C' _ _ h2, hk⟩
theorem codeT.weaken {c : Code} {σ' : St} (h : codeT P n c σ' Q) (hge : σ.ge σ') : codeT P n c σ Q := fun C a w hS N => h C a w (hS.weaken hge) N
theorem code_loop {X : Type} {c : Code} (mk : X → St) (I : X → Prop) (μ : X → Nat) (x₀ : X) (h₀ : Imp n σ (mk x₀)) (hI : I x₀)
    (round : ∀ x, I x → codeT P n c (mk x) (Then (fun σ' => ∃ x', Imp n σ' (mk x') ∧ I x' ∧ μ x' < μ x) Q)) : codeT P n (.loop c) σ Q := by
  have key : ∀ (m : Nat) x, μ x = m → I x → ∀ C a w, Sim n C (mk x) a w → ∀ N (b : Frame) (k : List Item) (cs : List Frame), b.roundOf = (RF C.ro).round → (RF C.ro).fn b.fn → (RF C.ro).room (cs.length + 1 + N) →
      ∃ e a' w', codePost n C (.loop c) Q a e a' w' ∧ ArrivesIn (Machine.fenced P (RF C.ro)) P (lone (b.atR a (.code c :: .inLoop c :: k)) cs w) b k cs e a' w' := by
    intro m
    induction m using Nat.strongRecOn with
    | _ m ih =>
      intro x hm hx C a w hS N b k cs hro hb hr
      obtain ⟨e, a₁, w₁, ⟨C₁, σ₁, h0, hq, hS₁, hk, hD⟩, harr⟩ := round x hx C a w hS N b (.inLoop c :: k) cs hro hb hr
      cases e with
      | normal =>
        obtain ⟨x', hge, hx', hlt⟩ := hq
        obtain ⟨e₂, a₂, w₂, ⟨C₂, σ₂, k0, k1, k2, kk, kD⟩, harr₂⟩ := ih (μ x') (hm ▸ hlt) x' rfl hx' C₁ a₁ w₁ (hge C₁ a₁ w₁ hS₁) N b k cs (by rw [h0.ro]; exact hro) trivial (by rw [h0.ro]; exact hr)
        rw [h0.ro] at harr₂
        exact ⟨e₂, a₂, w₂, ⟨C₂, σ₂, h0.trans k0, k1, k2, hk.trans kk, fun h => (kD h).trans (hD h)⟩, .of_steps (StepsIn.trans harr (.one (fenced_calm hb hr rfl) stepR_inLoop)) harr₂⟩
      | exit id => exact ⟨_, a₁, w₁, ⟨C₁, σ₁, h0, hq, hS₁, hk, hD⟩, .pass (x := .inLoop c) rfl (fun _ _ => .inl (by simp)) harr⟩
      | goto l => exact ⟨_, a₁, w₁, ⟨C₁, σ₁, h0, hq, hS₁, hk, hD⟩, .pass (x := .inLoop c) rfl (fun _ _ => .inl (by simp)) harr⟩
      | ret => exact ⟨_, a₁, w₁, ⟨C₁, σ₁, h0, hq, hS₁, hk, hD⟩, .pass (x := .inLoop c) rfl (fun _ _ => .inl (by simp)) harr⟩
      | panic ch => exact ⟨_, a₁, w₁, ⟨C₁, σ₁, h0, hq, hS₁, hk, hD⟩, .pass (x := .inLoop c) rfl (fun _ _ => .inl (by simp)) harr⟩
      | outgrown => exact ⟨_, a₁, w₁, ⟨C₁, σ₁, h0, hq, hS₁, hk, hD⟩, .pass (x := .inLoop c) rfl (fun _ _ => .inl (by simp)) harr⟩
  intro C a w hS N b k cs hro hb hr
  obtain ⟨e, a', w', hq, harr⟩ := key _ x₀ rfl hI C a w (h₀ C a w hS) N b k cs hro hb hr
  exact ⟨e, a', w', hq, .of_steps (.one (fenced_calm hb hr rfl) stepR_loop) harr⟩
end
end Go.Proofs.YtfagllolcalfiabDoor
