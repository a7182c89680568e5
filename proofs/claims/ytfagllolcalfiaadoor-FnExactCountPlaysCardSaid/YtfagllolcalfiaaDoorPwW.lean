/- A strings.Builder in a slot: contracts that write to one, and how a call uses them. Own work; no conditions; nothing here is about one program. -/
import Derived.Test.YtfagllolcalfiaaDoorPwV
import Derived.Lib.OthersKept
namespace Go.Proofs.YtfagllolcalfiaaDoor
open Go.RowKit
set_option linter.unusedVariables false
set_option linter.unusedSimpArgs false

/-- What a result is, where no memory is reached, or nothing is known. -/
def RepD (w : World) : List SV → List Value → Prop
  | [], us => us = []
  | .val p :: ps, us => ∃ u r, us = u :: r ∧ Rep w (fun _ => False) p u ∧ RepD w ps r
  | .dead :: ps, us => ∃ u r, us = u :: r ∧ RepD w ps r
  | _ :: _, _ => False

theorem RepD.okl {C : Ctx} {G : Gh} {w : World} : ∀ {ps : List SV} {us : List Value}, RepD w ps us → OkL C w G ps us
  | [], us, h => by simpa [RepD, OkL] using h
  | .val p :: ps, us, h => by
    obtain ⟨u, r, rfl, h1, h2⟩ := h
    exact ⟨u, r, rfl, by simpa [Ok] using h1, h2.okl⟩
  | .dead :: ps, us, h => by
    obtain ⟨u, r, rfl, h2⟩ := h
    exact ⟨u, r, rfl, trivial, h2.okl⟩

/-- Called with a builder that holds s (ahead of the arguments) the function leaves one that holds s', and returns rs; of all other memory it turns none but rows of bytes that the caller has made. -/
def BCalls (P : Program) (f : FuncId) (T e : TypeId) (ps : List PV) (s s' : List UInt8) (rs : List SV) : Prop :=
  Enters P f ∧ ∀ (w : World) (B b : Nat) (vs : List Value), Lib.IsBuilderF T e B b (Lib.byteCells s) w → B ≤ w.heap.size → RepArgs w (fun _ _ => False) 0 ps vs →
    Calls P f (.pointer (some ⟨b, 0, none⟩) :: vs).toArray w fun r w' => ∃ us, r = .returned (packV us) ∧ RepD w' rs us ∧ Lib.IsBuilderF T e B b (Lib.byteCells s') w' ∧ Below B w w' ∧ Lib.OthersKept e (some b) w w'

/-- What stays known of a slot behind a call that writes to a builder of bytes (their type e). -/
def SV.safe (e : Nat) : SV → Bool
  | .sit _ _ _ => true
  | .map _ _ => true
  | .own _ e' _ _ cs => !Nat.beq e' e && PV.flatL cs
  | .box _ e' cs => !Nat.beq e' e && PV.flatL cs
  | .dead => true
  | .val _ => true
  | .par _ _ => true
  | .ext _ => true
  | .rpar _ _ => true
  | .fn _ => true
  | .yld _ => true
  | _ => false

def SV.isBld (l : Nat) : SV → Bool
  | .bld l' _ _ _ => Nat.beq l' l
  | _ => false

def St.bset (l e : Nat) (y : SV) (σ : St) : St := σ.map fun x => (x.1, bif x.2.isBld l then y else bif x.2.safe e && !x.2.labels.contains l then x.2 else .dead)

theorem bset_at {l e : Nat} {y : SV} : ∀ {σ : St} {s : Nat} {x : SV}, (σ.bset l e y).at s = some x → ∃ z, σ.at s = some z ∧ ((z.isBld l = true ∧ x = y) ∨ x = .dead ∨ (z.safe e = true ∧ l ∉ z.labels ∧ x = z))
  | [], s, x, h => by simp [St.bset, St.at] at h
  | (t, z) :: r, s, x, h => by
    simp only [St.bset, List.map_cons, St.at] at h ⊢
    split at h
    · rename_i he; subst he
      refine ⟨z, by simp, ?_⟩
      have h' := (Option.some.inj h).symm
      cases hb : z.isBld l with
      | true => rw [hb] at h'; exact .inl ⟨rfl, h'⟩
      | false =>
        rw [hb] at h'
        cases hs : z.safe e && !z.labels.contains l with
        | true =>
          rw [hs] at h'
          simp only [Bool.and_eq_true, Bool.not_eq_true'] at hs
          exact .inr (.inr ⟨hs.1, by simpa using hs.2, h'⟩)
        | false => rw [hs] at h'; exact .inr (.inl h')
    · rename_i hne
      rw [if_neg hne]
      exact bset_at (σ := r) h

section
variable {P : Program} {n : Nat} {σ : St} {K : St → Prop} {d : Nat} {ty : TypeId} {pos : String} {af : Array Edge} {gd : Option (Nat × Bool)} {t t' : TypeId} {x y : Operand}

/-- The root of a safe slot's memory is no row of e's. -/
theorem safe_root {C : Ctx} {w : World} {G : Gh} {e : Nat} {z : SV} {v : Value} (hs : z.safe e = true) (h : Ok C w G z v) : ∀ m ∈ z.labels, (∃ o, w.heap[G.r m]? = some o ∧ ∀ c fz, o ≠ .cells c e fz) ∨ ∃ l2 e2 s2 n2 cs2, z = .own l2 e2 s2 n2 cs2 ∧ v.ownBlock = none := by
  intro m hm
  cases z with
  | sit l s i => simp only [SV.labels, List.mem_singleton] at hm; subst hm; obtain ⟨_, _, hh⟩ := h; exact .inl ⟨_, hh, fun c fz k => by cases k⟩
  | map l es => simp only [SV.labels, List.mem_singleton] at hm; subst hm; obtain ⟨_, _, _, _, hh, _⟩ := h; exact .inl ⟨_, hh, fun c fz k => by cases k⟩
  | own l e' sz k cs =>
    simp only [SV.labels, List.mem_singleton] at hm; subst hm
    simp only [SV.safe, Bool.and_eq_true, Bool.not_eq_true'] at hs
    obtain ⟨vs, ho, hb, _⟩ := h
    rcases ho.2 with ⟨hv, _⟩ | ⟨g, cap, cur, hv, _, hg, _⟩
    · exact .inr ⟨_, _, _, _, _, rfl, by rw [hv]; rfl⟩
    · have := (hb g (by rw [hv]; rfl)).1
      subst this
      refine .inl ⟨_, hg, fun c fz k => ?_⟩
      injection k with _ k2 _
      subst k2; simp at hs
  | box l e' cs =>
    simp only [SV.labels, List.mem_singleton] at hm; subst hm
    simp only [SV.safe, Bool.and_eq_true, Bool.not_eq_true'] at hs
    obtain ⟨vs, _, _, hh, _⟩ := h
    refine .inl ⟨_, hh, fun c fz k => ?_⟩
    injection k with _ k2 _
    subst k2; simp at hs
  | _ => first | (simp [SV.labels] at hm; done) | (simp [SV.safe] at hs; done)

theorem op_bld {f : FuncId} {ts : Array TypeId} {T e : TypeId} {ps : List PV} {s s' : List UInt8} {rs : List SV} (hc : BCalls P f T e ps s s' rs) (x0 : Operand) (l : Nat) (xs : List Operand) (ss : List SV)
    (hx0 : σ.ev x0 = some (.bld l T e s)) (hss : σ.evs xs = some ss) (hps : pvs ss = some ps) (hpf : PV.flatL ps = true) (hl0 : l ≠ 2000) (hrl : SV.labelsL rs = []) (hd : d < n) (hK : K ((d, packS rs) :: σ.bset l e (.bld l T e s'))) :
    opT P n ⟨some d, .call { callee := .value (.func f), args := (x0 :: xs).toArray, argTypes := ts }, ty, pos, af, gd⟩ σ K := by
  intro C a w hS K' Q hK'
  obtain ⟨G, hG, hE⟩ := hS.gh
  have hB : C.B ≤ w.heap.size := hS.below.size
  obtain ⟨hv, hg, hB0, p, u, hh, hp, ho, hne, hu⟩ := hE.ev hx0
  have hargs0 := evs_ok hE hss hps (fun j => match ss[j]? with | some s => foot C G s | none => fun _ => False) 0 (fun j q hj => by rw [Nat.zero_add, hj])
  have hargs : RepArgs w (fun _ _ => False) 0 ps (xs.map a.eval) := by
    have key : ∀ (ps : List PV) (i : Nat) (vs : List Value) (F : Nat → Nat → Prop), PV.flatL ps = true → RepArgs w F i ps vs → RepArgs w (fun _ _ => False) i ps vs := by
      intro ps
      induction ps with
      | nil => intro i vs F _ h; exact h
      | cons p ps ih =>
        intro i vs F hf h
        simp only [PV.flatL, Bool.and_eq_true] at hf
        obtain ⟨v, r, hv, h1, h2⟩ := h
        exact ⟨v, r, hv, Rep.flat p v hf.1 h1, ih _ _ _ hf.2 h2⟩
    exact key _ _ _ _ hpf hargs0
  have hIs : Lib.IsBuilderF T e C.B (G.r l) (Lib.byteCells s) w := by
    have hA : Lib.BuilderAtF T e C.B (G.r l) p (Lib.byteCells s) w := ⟨hB0, u, hh, by rw [Lib.byteCells_length]; exact ho, hne⟩
    rcases hp with rfl | rfl
    · exact .inl hA
    · exact .inr hA
  unfold Oper.wp
  have hrun : (execOp a.eval ⟨some d, .call { callee := .value (.func f), args := (x0 :: xs).toArray, argTypes := ts }, ty, pos, af, gd⟩).run P w = .ok (.enter f (.pointer (some ⟨G.r l, 0, none⟩) :: xs.map a.eval).toArray) w := by
    rw [← hv]
    simp [execOp, resolve, Act.eval, Deferred.ofValue, invoke]
    exact hc.1 _ _
  rw [hrun, Oper.upon_enter]
  refine (hc.2 w C.B (G.r l) (xs.map a.eval) hIs hB hargs).mono ?_
  rintro r w' ⟨us, rfl, hR, hIs', hbel, hoth⟩
  obtain ⟨p', hp', hB1, u', hh', ho', hne'⟩ : ∃ p', (p' = .pointer none ∨ p' = .pointer (some ⟨G.r l, 0, none⟩)) ∧ Lib.BuilderAtF T e C.B (G.r l) p' (Lib.byteCells s') w' := by
    rcases hIs' with h | h
    · exact ⟨_, .inl rfl, h⟩
    · exact ⟨_, .inr rfl, h⟩
  rw [Lib.byteCells_length] at ho'
  have hrlt : G.r l < w'.heap.size := by
    rcases Nat.lt_or_ge (G.r l) w'.heap.size with h | h
    · exact h
    · rw [Array.getElem?_eq_none h] at hh'; cases hh'
  -- the builder's own row, behind the call
  have hrow : ∀ g, u'.ownBlock = some g → C.B ≤ g ∧ g < w'.heap.size ∧ ∃ c fz, w'.heap[g]? = some (.cells c e fz) := by
    intro g hgu
    rcases ho'.2 with ⟨rfl, _⟩ | ⟨g', cap, cur, fz, rfl, hbg, hgg, _⟩
    · simp [Value.ownBlock] at hgu
    · simp only [Value.ownBlock, Option.some.injEq] at hgu; subst hgu
      refine ⟨hbg, ?_, _, _, hgg⟩
      rcases Nat.lt_or_ge g' w'.heap.size with h | h
      · exact h
      · rw [Array.getElem?_eq_none h] at hgg; cases hgg
  have hXr : ¬ C.X0 (G.r l) := fun h => by have := hG.2.2 _ h; rw [hg] at this; exact hl0 (Option.some.inj this)
  have hXu : ∀ g, u'.ownBlock = some g → ¬ C.X0 g := fun g hgu h => by have := (hrow g hgu).1; have := C.xlt g (C.x0 g h); simp only [Ctx.B] at *; omega
  -- a label's root that is no row of bytes
  let keepR : Nat → Prop := fun b => ∃ s z, σ.at s = some z ∧ z.safe e = true ∧ ∃ m ∈ z.labels, b = G.r m ∧ G.g b = some m ∧ l ∉ z.labels ∧ ∃ o, w.heap[b]? = some o ∧ ∀ c fz, o ≠ .cells c e fz
  have hkeepH : ∀ b, keepR b → b ≠ G.r l → w'.heap[b]? = w.heap[b]? := by
    rintro b ⟨s, z, hz, hsz, m, hm, rfl, hgm, hlz, o, ho1, ho2⟩ hbl
    rw [hoth _ o ho1 (fun e => hbl (Option.some.inj e)) ho2, ho1]
  have hkl : ∀ b, keepR b → b ≠ G.r l ∧ u'.ownBlock ≠ some b := by
    intro b hk
    have hk' := hk
    obtain ⟨s, z, hz, hsz, m, hm, rfl, hgm, hlz, o, ho1, ho2⟩ := hk
    have h1 : G.r m ≠ G.r l := fun e => by rw [e, hg] at hgm; exact hlz (Option.some.inj hgm ▸ hm)
    refine ⟨h1, fun e2 => ?_⟩
    obtain ⟨_, _, c, fz, hc2⟩ := hrow _ e2
    rw [hkeepH _ hk' h1, ho1] at hc2
    exact ho2 _ _ (Option.some.inj hc2)
  open Classical in
  let G2 : Gh := ⟨fun b => if C.X0 b then some 2000 else if b = G.r l ∨ u'.ownBlock = some b then some l else if keepR b then G.g b else none, G.r⟩
  have hg2l : ∀ b, (b = G.r l ∨ u'.ownBlock = some b) → G2.g b = some l := by
    intro b hb
    have hx : ¬ C.X0 b := by rcases hb with rfl | hb; exact hXr; exact hXu b hb
    show (if C.X0 b then some 2000 else if b = G.r l ∨ u'.ownBlock = some b then some l else if keepR b then G.g b else none) = some l
    rw [if_neg hx, if_pos hb]
  have hg2k : ∀ b m, keepR b → G.g b = some m → G2.g b = some m := by
    intro b m hk hb
    obtain ⟨h1, h2⟩ := hkl b hk
    show (if C.X0 b then some 2000 else if b = G.r l ∨ u'.ownBlock = some b then some l else if keepR b then G.g b else none) = some m
    by_cases hx : C.X0 b
    · rw [if_pos hx, ← hG.2.2 b hx, hb]
    · rw [if_neg hx, if_neg (fun h => h.elim h1 h2), if_pos hk, hb]
  have hsz : w.heap.size ≤ w'.heap.size := hbel.size
  have hfits : G2.fits C w' := by
    refine ⟨fun b q hb => ?_, hG.2.1, fun b hb => ?_⟩
    · have hb' : (if C.X0 b then some 2000 else if b = G.r l ∨ u'.ownBlock = some b then some l else if keepR b then G.g b else none) = some q := hb
      split at hb'
      · rename_i hx
        exact ⟨fun ho => ho.2 (C.x0 b hx), Nat.lt_of_lt_of_le (C.xlt b (C.x0 b hx)) (Nat.le_trans hB hsz)⟩
      · split at hb'
        · rename_i hx hbb
          rcases hbb with rfl | hbb
          · exact ⟨fun ho => by have := ho.1; omega, hrlt⟩
          · obtain ⟨h1, h2, _⟩ := hrow b hbb
            exact ⟨fun ho => by have := ho.1; omega, h2⟩
        · split at hb'
          · exact ⟨(hG.1 b q hb').1, Nat.lt_of_lt_of_le (hG.1 b q hb').2 hsz⟩
          · cases hb'
    · show (if C.X0 b then some 2000 else _) = some 2000
      rw [if_pos hb]
  have hst : Stays C.old C.w0 w' := by
    have h0 := hS.below
    refine ⟨hbel.os.trans h0.os, hbel.tape.trans h0.tape, hbel.output.trans h0.output, Nat.le_trans h0.size hsz, fun k hk => ?_, fun k hk => ?_⟩
    · rw [hbel.block k hk.1]; exact h0.block k hk
    · rw [hbel.block k hk]; exact h0.form k hk
  have hE2 : Env C (σ.bset l e (.bld l T e s')) a w' G2 := by
    intro sl xx hx
    obtain ⟨z, hz, hcase⟩ := bset_at hx
    rcases hcase with ⟨hbl, rfl⟩ | rfl | ⟨hsafe, hlz, rfl⟩
    · -- the builder itself
      have hval : a.tmps.getD sl undef = .pointer (some ⟨G.r l, 0, none⟩) := by
        have h0 := hE sl _ hz
        cases z with
        | bld l' T' e' s0 =>
          simp only [SV.isBld] at hbl
          have := Nat.eq_of_beq_eq_true hbl
          subst this
          exact h0.1
        | _ => simp [SV.isBld] at hbl
      exact ⟨hval, hg2l _ (.inl rfl), hB0, p', u', hh', hp', ho', hne', fun g hgu => hg2l g (.inr hgu)⟩
    · trivial
    · have h0 := hE sl _ hz
      have hr := safe_root hsafe h0
      have hk : ∀ m ∈ xx.labels, G.g (G.r m) = some m → (∃ o, w.heap[G.r m]? = some o ∧ ∀ c fz, o ≠ .cells c e fz) → keepR (G.r m) := fun m hm hgm ho => ⟨sl, xx, hz, hsafe, m, hm, rfl, hgm, hlz, ho⟩
      cases xx with
      | sit m s0 i =>
        obtain ⟨k1, k2, k3⟩ := h0
        have := hk m (by simp [SV.labels]) k2 ⟨_, k3, fun c fz q => by cases q⟩
        exact ⟨k1, hg2k _ _ this k2, by rw [hkeepH _ this (hkl _ this).1]; exact k3⟩
      | map m es =>
        obtain ⟨arr, clock, k1, k2, k3, k4⟩ := h0
        have := hk m (by simp [SV.labels]) k2 ⟨_, k3, fun c fz q => by cases q⟩
        exact ⟨arr, clock, k1, hg2k _ _ this k2, by rw [hkeepH _ this (hkl _ this).1]; exact k3, k4.mono⟩
      | own m e' sz k cs =>
        simp only [SV.safe, Bool.and_eq_true] at hsafe
        obtain ⟨vs, ho1, hb1, hr1⟩ := h0
        have hfl : RepL w' (G2.inn m) cs vs := RepL.flat cs vs hsafe.2 hr1
        rcases ho1.2 with hn | ⟨g, cap, cur, hvv, hbg, hgg, rest⟩
        · refine ⟨vs, ⟨ho1.1, .inl hn⟩, fun b hb => ?_, hfl⟩
          rw [hn.1] at hb; simp [Value.ownBlock] at hb
        · have hgb := hb1 g (by rw [hvv]; rfl)
          have hgr : g = G.r m := hgb.1
          subst hgr
          have hne2 : ∀ c fz, (Obj.cells cur e' (0, 0)) ≠ .cells c e fz := fun c fz q => by injection q with _ q2 _; subst q2; simp at hsafe
          have := hk m (by simp [SV.labels]) hgb.2 ⟨_, hgg, hne2⟩
          refine ⟨vs, ⟨ho1.1, .inr ⟨G.r m, cap, cur, hvv, hbg, by rw [hkeepH _ this (hkl _ this).1]; exact hgg, rest⟩⟩, fun b hb => ?_, hfl⟩
          rw [hvv] at hb; simp only [Value.ownBlock, Option.some.injEq] at hb; subst hb
          exact ⟨rfl, hg2k _ _ this hgb.2⟩
      | box m e' cs =>
        simp only [SV.safe, Bool.and_eq_true] at hsafe
        obtain ⟨vs, k1, k2, k3, k4⟩ := h0
        have hne2 : ∀ c fz, (Obj.cells vs.toArray e' (0, 0)) ≠ .cells c e fz := fun c fz q => by injection q with _ q2 _; subst q2; simp at hsafe
        have := hk m (by simp [SV.labels]) k2 ⟨_, k3, hne2⟩
        exact ⟨vs, k1, hg2k _ _ this k2, by rw [hkeepH _ this (hkl _ this).1]; exact k3, RepL.flat cs vs hsafe.2 k4⟩
      | dead => trivial
      | val p => exact Rep.mono (fun _ => id) (fun _ h => h.elim) p _ h0
      | par i p => exact Rep.mono (fun _ => id) (fun b hb => hbel.block b (hS.fp.1 i b hb).1) p _ h0
      | ext p => exact Rep.mono (fun _ => id) (fun b hb => hbel.block b (hS.fp.2 b hb).1) p _ h0
      | rpar i cs =>
        obtain ⟨b, off, vs, k1, k2, k3, k4⟩ := h0
        exact ⟨b, off, vs, k1, fun j u hu => by rw [← k2 j u hu]; exact World.cell?_of_block (hbel.block b (hS.fp.1 i b k3).1), k3, RepL.mono (fun _ => id) (fun b hb => hbel.block b (hS.fp.1 i b hb).1) cs vs k4⟩
      | fn f => exact h0
      | yld l2 => exact h0
      | _ => simp [SV.safe] at hsafe
  have hok : Ok C w' G2 (packS rs) (packV us) := by
    have hAll : OkL C w' G2 rs us := hR.okl
    rcases rs with _ | ⟨x, _ | ⟨y, xs⟩⟩
    · simp only [OkL] at hAll; subst hAll
      exact ⟨[], rfl, rfl⟩
    · obtain ⟨u, r, rfl, h1, h2⟩ := hAll
      simp only [OkL] at h2; subst h2
      exact h1
    · obtain ⟨u, r, hu, h1, h2⟩ := hAll
      obtain ⟨u', r', hu', h3, h4⟩ := h2
      subst hu'; subst hu
      exact ⟨_, rfl, u, _, rfl, h1, u', _, rfl, h3, h4⟩
  refine hK' _ _ _ hK ?_
  have hS' : Sim n C (σ.bset l e (.bld l T e s')) a w' := ⟨hS.fp, hst, hS.dfs, hS.size, G2, hfits, hE2⟩
  exact hS'.put hfits hE2 hd hok

/-- A new builder. -/
theorem op_allocB {e : TypeId} (hz : ∀ w, (zeroValue t).run P w = .ok (.agg #[.pointer none, .slice none 0 0]) w) (hd : d < n) (hd0 : d ≠ 2000) (hfr : σ.labels.all (· != d) = true) (hK : K ((d, .bld d t e []) :: σ)) : opT P n ⟨some d, .alloc t, ty, pos, af, gd⟩ σ K := by
  refine op_obj hd hd0 hfr (.bld d t e []) (.cells #[.pointer none, .slice none 0 0] t (0, 0)) (fun C a w G hS hG hE => ?_) hK
  have hroot := new_root (G := G) (b0 := w.heap.size) (d := d)
  refine ⟨.pointer (some ⟨w.heap.size, 0, none⟩), ?_, ?_⟩
  · simp [execOp, Instr.alloc, hz, newVar, newRow, Value.cells]
  · refine ⟨by rw [hroot.1], by rw [hroot.1]; exact hroot.2, by rw [hroot.1]; exact hS.below.size, .pointer none, .slice none 0 0, by rw [hroot.1]; exact heap_alloc_new w _, .inl rfl, ?_, by simp [Value.ownBlock], fun g hg => by simp [Value.ownBlock] at hg⟩
    exact World.ownsRowF_nil _ _ _ _

end
end Go.Proofs.YtfagllolcalfiaaDoor
