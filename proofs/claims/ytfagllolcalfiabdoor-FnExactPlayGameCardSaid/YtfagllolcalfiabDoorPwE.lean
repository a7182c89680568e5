/- A call over the pure state, by the callee's contract. Own work; no conditions; nothing here is about one program. -/
import Derived.Test.YtfagllolcalfiabDoorPwD
namespace Go.Proofs.YtfagllolcalfiabDoor
open Go.RowKit
def SV.pv : SV → Option PV
  | .val p => some p
  | .par _ p => some p
  | .ext p => some p
  | .bor _ p => some p
  | .own _ _ _ m cs => some (.sl m cs)
  | .frz _ p => some p
  | .fn f => some (.clo f [])
  | _ => none
def pvs : List SV → Option (List PV)
  | [] => some []
  | s :: ss => match s.pv, pvs ss with
    | some p, some ps => some (p :: ps)
    | _, _ => none
def St.evs (σ : St) : List Operand → Option (List SV)
  | [] => some []
  | x :: xs => match σ.ev x, St.evs σ xs with
    | some s, some ss => some (s :: ss)
    | _, _ => none
def foot (C : Ctx) (G : Gh) : SV → Nat → Prop
  | .par i _ => C.Fp i
  | .ext _ => C.ex
  | .bor l _ => G.see C l
  | .own l _ _ _ _ => fun b => G.g b = some l
  | .frz l _ => fun b => G.g b = some l
  | _ => fun _ => False
theorem ownsRow_base {w : World} {B B' : Nat} {e size : Nat} {v : Value} {m : Nat} {xs : List Value} (h : w.ownsRow B e size v m xs) (hB : B' ≤ B) : w.ownsRow B' e size v m xs := by
  refine ⟨h.1, ?_⟩
  rcases h.2 with hn | ⟨g, cap, cur, hv, hb, rest⟩
  · exact .inl hn
  · exact .inr ⟨g, cap, cur, hv, Nat.le_trans hB hb, rest⟩
theorem own_rep {w : World} {B e size m : Nat} {v : Value} {vs : List Value} {F F' : Nat → Prop} {cs : List PV} (ho : w.ownsRow B e size v m vs) (hb : ∀ b, v.ownBlock = some b → F b) (hr : RepL w F' cs vs) (hF : ∀ b, F' b → F b) :
    Rep w F (.sl m cs) v := by
  simp only [Rep]
  rcases ho.2 with ⟨hv, hm⟩ | ⟨g, cap, cur, hv, hbg, hg, hmc, _⟩
  · left
    have hvs : vs = [] := List.eq_nil_of_length_eq_zero (by have := ho.1; rw [hm] at this; simpa using this)
    subst hvs
    have := hr.length
    exact ⟨hv, hm, List.eq_nil_of_length_eq_zero (by simpa using this.symm)⟩
  · right
    refine ⟨g, 0, cap, vs, hv, hb g (by rw [hv]; rfl), hmc, fun j u hu => ?_, RepL.mono hF (fun _ _ => rfl) cs vs hr⟩
    have := ho.cells (g := g) (by rw [hv]; rfl) j u hu
    have hadd : (⟨g, 0, none⟩ : Addr).add j = ⟨g, j, none⟩ := by unfold Addr.add; split <;> simp_all
    rw [hadd] at this
    simpa using this
theorem Ok.rep {C : Ctx} {w : World} {G : Gh} {s : SV} {v : Value} {p : PV} (h : Ok C w G s v) (hp : s.pv = some p) : Rep w (foot C G s) p v := by
  cases s with
  | val q => simp only [SV.pv, Option.some.injEq] at hp; subst hp; exact h
  | par i q => simp only [SV.pv, Option.some.injEq] at hp; subst hp; exact h
  | ext q => simp only [SV.pv, Option.some.injEq] at hp; subst hp; exact h
  | frz l q => simp only [SV.pv, Option.some.injEq] at hp; subst hp; exact h
  | fn f => simp only [SV.pv, Option.some.injEq] at hp; subst hp; exact ⟨[], h, rfl⟩
  | bor l q => simp only [SV.pv, Option.some.injEq] at hp; subst hp; exact h
  | own l e size m cs =>
    simp only [SV.pv, Option.some.injEq] at hp; subst hp
    simp only [Ok] at h
    obtain ⟨vs, ho, hb, hr⟩ := h
    exact own_rep ho (fun b hv => (hb b hv).2) hr (fun b hb => hb.1)
  | _ => simp [SV.pv] at hp
theorem foot_old {C : Ctx} {w : World} {G : Gh} {s : SV} (hfp : (∀ i b, C.Fp i b → C.old b) ∧ ∀ b, C.ex b → C.old b) (hG : G.fits C w) (hB : C.B ≤ w.heap.size) {b : Nat} (h : foot C G s b) :
    b < w.heap.size ∧ ∀ l, l ∉ s.labels → G.g b ≠ some l := by
  have old : C.old b → b < w.heap.size ∧ ∀ l, G.g b ≠ some l := fun ho => ⟨Nat.lt_of_lt_of_le ho.1 hB, fun l hl => (hG.1 b l hl).1 ho⟩
  have lab : ∀ q, G.g b = some q → b < w.heap.size ∧ ∀ l, l ≠ q → G.g b ≠ some l := fun q hq => ⟨(hG.1 b q hq).2, fun l hl e => by rw [hq] at e; exact hl (Option.some.inj e).symm⟩
  cases s with
  | par i p => exact ⟨(old (hfp.1 i b h)).1, fun l _ => (old (hfp.1 i b h)).2 l⟩
  | ext p => exact ⟨(old (hfp.2 b h)).1, fun l _ => (old (hfp.2 b h)).2 l⟩
  | bor q p =>
    rcases h with h | h
    · exact ⟨(lab q h).1, fun l hl => (lab q h).2 l (by simpa [SV.labels] using hl)⟩
    · exact ⟨(old (hfp.2 b h)).1, fun l _ => (old (hfp.2 b h)).2 l⟩
  | own q e s m cs => exact ⟨(lab q h).1, fun l hl => (lab q h).2 l (by simpa [SV.labels] using hl)⟩
  | frz q p => exact ⟨(lab q h).1, fun l hl => (lab q h).2 l (by simpa [SV.labels] using hl)⟩
  | _ => exact h.elim
def St.labels (σ : St) : List Nat := σ.flatMap fun e => e.2.labels
theorem St.labels_at : ∀ {σ : St} {s : Nat} {x : SV}, σ.at s = some x → ∀ l ∈ x.labels, l ∈ σ.labels
  | [], s, x, h, l, hl => by simp [St.at] at h
  | (t, y) :: r, s, x, h, l, hl => by
    simp only [St.at] at h
    simp only [St.labels, List.flatMap_cons, List.mem_append]
    split at h
    · cases h; exact .inl hl
    · exact .inr (St.labels_at h l hl)
def SV.noMem : SV → Bool
  | .val _ => true
  | .ext _ => true
  | .fn _ => true
  | _ => false
def SV.back (ss : List SV) (off d : Nat) (exm : Bool := true) (l0 : Option Nat := none) : SV → SV
  | .par i p => match ss[i - off]? with
    | some (.par j _) => .par j p
    | some (.ext _) => .ext p
    | some (.bor l _) => .bor l p
    | some (.own l _ _ _ _) => .bor l p
    | some (.frz l _) => .frz l p
    | _ => .val p
  | .own j e s m cs => .own (d + 1000 * j) e s m cs
  | .map j es => .map (d + 1000 * j) es
  | .gmap j e b es => .gmap (d + 1000 * j) e b es
  | .frz j p => .frz (d + 1000 * j) p
  | .arr j e s es => .arr (d + 1000 * j) e s es
  | .bor j p => if ss.all SV.noMem || !exm then .bor (d + 1000 * j) p else .dead
  | .iop p => match l0 with
    | some l => .bor l p
    | none => .dead
  | .iow e s m cs => match l0 with
    | some l => .own l e s m cs
    | none => .dead
  | x => x
def feet (C : Ctx) (G : Gh) (ss : List SV) (off i : Nat) : Nat → Prop := if i < off then fun _ => False else match ss[i - off]? with
  | some s => foot C G s
  | none => fun _ => False
def packS : List SV → SV
  | [x] => x
  | xs => .tup xs
theorem evs_ok {C : Ctx} {σ : St} {a : Act} {w : World} {G : Gh} (hE : Env C σ a w G) : ∀ {xs : List Operand} {ss : List SV} {ps : List PV}, σ.evs xs = some ss → pvs ss = some ps → ∀ (Fp : Nat → Nat → Prop) (i : Nat),
    (∀ j s, ss[j]? = some s → Fp (i + j) = foot C G s) → RepArgs w Fp i ps (xs.map a.eval)
  | [], ss, ps, h, hp, Fp, i, hF => by
    simp only [St.evs, Option.some.injEq] at h; subst h
    simp only [pvs, Option.some.injEq] at hp; subst hp
    rfl
  | x :: xs, ss, ps, h, hp, Fp, i, hF => by
    unfold St.evs at h
    split at h
    · rename_i s ss' h1 h2
      simp only [Option.some.injEq] at h; subst h
      unfold pvs at hp
      split at hp
      · rename_i p ps' h3 h4
        simp only [Option.some.injEq] at hp; subst hp
        refine ⟨_, _, rfl, ?_, evs_ok hE h2 h4 Fp (i + 1) (fun j s hj => ?_)⟩
        · rw [show Fp i = foot C G s from hF 0 s rfl]
          exact (hE.ev h1).rep h3
        · rw [show i + 1 + j = i + (j + 1) by omega]
          exact hF (j + 1) s (by simpa using hj)
      · simp at hp
    · simp at h
def SV.upd (cs : List PV) : SV → SV
  | .own q e s m _ => .own q e s m cs
  | .box q e _ => .box q e cs
  | .boxS l t q e s m _ => .boxS l t q e s m cs
  | .vbox q T o n _ => .vbox q T o n cs
  | x => x
def SV.isAdr : SV → Bool
  | .adr _ _ => true
  | _ => false
def St.upd (hs : List Nat) (l : Nat) (cs : List PV) (σ : St) : St := σ.map fun e => (e.1, if hs.contains e.1 then e.2.upd cs else if e.2.isAdr then e.2 else if e.2.labels.contains l then .dead else e.2)
theorem upd_at {hs : List Nat} {l : Nat} {cs : List PV} : ∀ {σ : St} {s : Nat} {x : SV}, (σ.upd hs l cs).at s = some x → ∃ y, σ.at s = some y ∧ x = (if hs.contains s then y.upd cs else if y.isAdr then y else if y.labels.contains l then .dead else y)
  | [], s, x, h => by simp [St.upd, St.at] at h
  | (t, y) :: r, s, x, h => by
    simp only [St.upd, List.map_cons, St.at] at h ⊢
    split at h
    · rename_i he; subst he
      exact ⟨y, by simp, (Option.some.inj h).symm⟩
    · rename_i hne
      rw [if_neg hne]
      exact upd_at (σ := r) h
def Iov.at (l : Nat) : Iov → SV
  | .own e s m cs => .own l e s m cs
  | .box e cs => .box l e cs
  | .vw T o n cs => .vbox l T o n cs
section
variable {P : Program} {n : Nat} {σ : St} {K : St → Prop} {d : Nat} {ty : TypeId} {pos : String} {af : Array Edge} {gd : Option (Nat × Bool)}
def calleeX (C : Ctx) (G : Gh) (exm : Bool) (off : Nat) (ss : List SV) (b : Nat) : Prop := C.ex b ∨ (exm = true ∧ ∃ i, feet C G ss off i b)
def calleeC (C : Ctx) (G : Gh) (w : World) (exm : Bool) (io : Option Iov) (l : Nat) (ss : List SV) (hgl : GlP w (calleeX C G exm (if io.isSome then 1 else 0) ss)) (hxl : ∀ b, G.g b = some l → b < w.heap.size) : Ctx :=
  { w0 := w, X := fun b => io.isSome = true ∧ G.g b = some l, X0 := fun b => io.isSome = true ∧ G.g b = some l, D := [], ro := none, x0 := fun _ h => h, dn := List.nodup_nil, dok := (fun _ h => absurd h (by simp)), rok := (fun _ h => absurd h (by simp)), Fp := feet C G ss (if io.isSome then 1 else 0), ex := calleeX C G exm (if io.isSome then 1 else 0) ss, pin := G.r l, gl := hgl, xlt := fun b hb => hxl b hb.2 }
theorem calleeX_gl {C : Ctx} {a : Act} {w w2 : World} {G : Gh} (hS : Sim n C σ a w) (_ : G.fits C w) (exm : Bool) (off : Nat) (ss : List SV) (hw : Below w.heap.size w w2) : GlP w2 (calleeX C G exm off ss) :=
  C.gl.mono (fun b hb => by
    have h1 := hS.fp.2 b hb
    have h2 := hS.below.size
    rw [hw.block b (Nat.lt_of_lt_of_le h1.1 h2)]; exact hS.below.block b h1) fun b hb => .inl hb
def calleeG (G : Gh) (io : Option Iov) (l : Nat) : Gh := { g := fun b => if io.isSome = true ∧ G.g b = some l then some 2000 else none, r := fun _ => G.r l }
theorem op_callMG {f : FuncId} {exm : Bool} {io : Option Iov} {ts : Array TypeId} {ps : List PV} {R : List SV → List PV → Prop} (hc : MCalls P f exm io ps R) (fo : Operand) (hfo : ∀ C a w G, Env C σ a w G → a.eval fo = .func (.func f) #[] #[]) (x0 : Operand) (l : Nat) (hs : List Nat) (xs : List Operand) (ss : List SV)
    (hss : ∀ C a w G, Env C σ a w G → ∀ (Fp : Nat → Nat → Prop) (i : Nat), (∀ j s, ss[j]? = some s → Fp (i + j) = foot C G s) → RepArgs w Fp i ps (xs.map a.eval)) (hio : ∀ y, io = some y → σ.ev x0 = some (y.at l) ∧ (∀ t ∈ hs, σ.at t = some (y.at l)) ∧ ∀ s ∈ ss, l ∉ s.labels) (hd : d < n) (hd0 : 0 < d) (hd' : d < 1000)
    (hfr : σ.labels.all (fun l => l % 1000 != d) = true) (hxe : io.isSome = true → exm = false)
    (hK : ∀ rs cs', R rs cs' → K ((d, packS (rs.map (SV.back ss (if io.isSome then 1 else 0) d exm (if io.isSome then some l else none)))) :: (if io.isSome then σ.upd hs l cs' else σ))) :
    opT P n ⟨some d, .call { callee := .value fo, args := (if io.isSome then x0 :: xs else xs).toArray, argTypes := ts }, ty, pos, af, gd⟩ σ K := by
  intro C a w hS K' Q hK'
  obtain ⟨G, hG, hE⟩ := hS.gh
  have hB : C.B ≤ w.heap.size := hS.below.size
  have hfr' : ∀ q ∈ σ.labels, q % 1000 ≠ d := by simpa using hfr
  let off := if io.isSome then 1 else 0
  let C' := calleeC C G w exm io l ss (calleeX_gl hS hG exm _ ss (Below.refl _ _)) (fun b hb => (hG.1 b l hb).2)
  let G0 := calleeG G io l
  have hold' : ∀ b, C'.old b ↔ b < w.heap.size ∧ ¬ (io.isSome = true ∧ G.g b = some l) := fun b => Iff.rfl
  have hCold : ∀ b, C.old b → C'.old b := fun b hb => ⟨Nat.lt_of_lt_of_le hb.1 hB, fun h => (hG.1 b l h.2).1 hb⟩
  have hlab : ∀ (y : Iov), io = some y → l ∈ σ.labels := by
    intro y hy
    have h1 := (hio y hy).1
    cases x0 with
    | tmp s => exact St.labels_at (σ := σ) (s := s) h1 l (by cases y <;> simp [Iov.at, SV.labels])
    | const c => obtain ⟨p, _, hp⟩ := Option.map_eq_some_iff.1 h1; cases y <;> simp [Iov.at] at hp
    | func f => cases y <;> simp [St.ev, Iov.at] at h1
    | global g => simp [St.ev] at h1
  have hfeet : ∀ i b, feet C G ss off i b → C'.old b := by
    intro i b hb
    unfold feet at hb
    split at hb
    · exact hb.elim
    · cases hsi : ss[i - off]? with
      | none => simp only [hsi] at hb
      | some s =>
        simp only [hsi] at hb
        have := foot_old hS.fp hG hB hb
        refine ⟨this.1, fun ⟨h1, h2⟩ => ?_⟩
        obtain ⟨y, hy⟩ := Option.isSome_iff_exists.1 h1
        exact this.2 l ((hio y hy).2.2 s (List.mem_of_getElem? hsi)) h2
  have hfp' : (∀ i b, C'.Fp i b → C'.old b) ∧ ∀ b, C'.ex b → C'.old b := by
    refine ⟨hfeet, fun b hb => ?_⟩
    rcases hb with hb | ⟨_, i, hb⟩
    · exact hCold b (hS.fp.2 b hb)
    · exact hfeet i b hb
  have hexm : exm = true → ∀ i b, C'.Fp i b → C'.ex b := by
    intro he i b hb
    exact .inr ⟨he, i, hb⟩
  have hG0 : G0.fits C' w := by
    refine ⟨fun b q hb => ?_, rfl, fun b hb => ?_⟩
    · have hb' : (if io.isSome = true ∧ G.g b = some l then some 2000 else none) = some q := hb
      split at hb'
      · rename_i hc
        exact ⟨fun ho => ho.2 hc, (hG.1 b l hc.2).2⟩
      · cases hb'
    · show (if io.isSome = true ∧ G.g b = some l then some 2000 else none) = some 2000
      rw [if_pos (show io.isSome = true ∧ G.g b = some l from hb)]
  have hio0 : ∀ (y : Iov) (u : Value), io = some y → Ok C w G (y.at l) u → Ok C' w G0 y.sv u := by
    intro y u hy h
    have hsome : io.isSome = true := by rw [hy]; rfl
    have g1 : ∀ b, G.g b = some l → G0.g b = some 2000 := fun b hb => by
      show (if io.isSome = true ∧ G.g b = some l then some 2000 else none) = some 2000
      rw [if_pos ⟨hsome, hb⟩]
    cases y with
    | own e s m cs =>
      obtain ⟨vs, h1, h2, h3⟩ := h
      exact ⟨vs, h1, fun b hb => ⟨(h2 b hb).1, g1 b (h2 b hb).2⟩, RepL.mono (fun b ⟨hb, hn⟩ => ⟨g1 b hb, hn⟩) (fun _ _ => rfl) cs vs h3⟩
    | box e cs =>
      obtain ⟨vs, h1, h2, h3, h4⟩ := h
      refine ⟨vs, h1, g1 _ h2, h3, RepL.mono (fun b hb => hb.imp (fun ⟨hb, hn⟩ => ⟨g1 b hb, hn⟩) (fun hb => .inl hb)) (fun _ _ => rfl) cs vs h4⟩
    | vw T o n cs =>
      obtain ⟨o', cap, vs, h1, hc, ho, h2, h3, h4⟩ := h
      exact ⟨o', cap, vs, h1, hc, ho, g1 _ h2, h3, RepL.mono (fun b hb => hb.imp (fun ⟨hb, hn⟩ => ⟨g1 b hb, hn⟩) (fun hb => .inl hb)) (fun _ _ => rfl) cs vs h4⟩
  have hargs : RepArgs w C'.Fp off ps (xs.map a.eval) := hss C a w G hE _ off (fun j s hj => by
    show feet C G ss off (off + j) = _
    unfold feet
    rw [if_neg (by omega), show off + j - off = j by omega, hj])
  unfold Oper.wp
  have hrun : (execOp a.eval ⟨some d, .call { callee := .value fo, args := (if io.isSome then x0 :: xs else xs).toArray, argTypes := ts }, ty, pos, af, gd⟩).run P w = .ok (.enter f (if io.isSome then a.eval x0 :: xs.map a.eval else xs.map a.eval).toArray) w := by
    cases hi : io.isSome
    · simp [execOp, resolve, hfo C a w G hE, Deferred.ofValue, invoke]
      exact hc.ent _ _
    · simp [execOp, resolve, hfo C a w G hE, Deferred.ofValue, invoke]
      exact hc.ent _ _
  rw [hrun, Oper.upon_enter]
  refine (hc.run C' G0 (a.eval x0) (xs.map a.eval) ⟨rfl, rfl, fun _ h => h⟩ hfp' hexm hG0 (fun y hy => hio0 y _ hy (hE.ev (hio y hy).1)) hargs).mono ?_
  rintro e w' ⟨v, rs, cs', rfl, hR, hst, G', us, hG', hL, hv, hret, hlabs, hfin⟩
  let G2 : Gh := ⟨fun b => if b < w.heap.size then G.g b else match G'.g b with | some j => if j = 2000 then some l else some (d + 1000 * j) | none => none, fun q => if q % 1000 = d then G'.r (q / 1000) else G.r q⟩
  have hsz : w.heap.size ≤ w'.heap.size := hst.size
  have hk1 : ∀ b, C.old b → w'.heap[b]? = w.heap[b]? := fun b hb => hst.block b (hCold b hb)
  have hst2 : Stays C.old w w' := ⟨hst.os, hst.tape, hst.output, hst.size, hk1, hst.form⟩
  have hg2 : ∀ b q, G.g b = some q → G2.g b = some q := by
    intro b q hb
    have := (hG.1 b q hb).2
    show (if b < w.heap.size then G.g b else _) = _
    rw [if_pos this, hb]
  have hr2 : ∀ q, q % 1000 ≠ d → G2.r q = G.r q := fun q hq => by
    show (if q % 1000 = d then _ else G.r q) = _
    rw [if_neg hq]
  have hold2 : ∀ b, b < w.heap.size → ∀ q, G'.g b = some q → io.isSome = true ∧ G.g b = some l := by
    intro b hb q hq
    have := (hG'.1 b q hq).1
    by_cases hx : io.isSome = true ∧ G.g b = some l
    · exact hx
    · exact absurd ⟨hb, hx⟩ this
  have hX2 : ∀ b, io.isSome = true ∧ G.g b = some l → G'.g b = some 2000 := fun b hb => hG'.2.2 b hb
  have hnew : ∀ b j, j ≠ 2000 → G'.g b = some j → G2.g b = some (d + 1000 * j) := by
    intro b j hj hb
    have hge : ¬ b < w.heap.size := fun hlt => by
      have := hX2 b (hold2 b hlt j hb)
      rw [hb] at this; exact hj (Option.some.inj this)
    show (if b < w.heap.size then G.g b else match G'.g b with | some j => if j = 2000 then some l else some (d + 1000 * j) | none => none) = _
    rw [if_neg hge, hb]
    show (if j = 2000 then some l else some (d + 1000 * j)) = _
    rw [if_neg hj]
  have hiol : io.isSome = true → ∀ b, G'.g b = some 2000 → G2.g b = some l := by
    intro _ b hb
    by_cases hlt : b < w.heap.size
    · exact hg2 b l (hold2 b hlt _ hb).2
    · show (if b < w.heap.size then G.g b else match G'.g b with | some j => if j = 2000 then some l else some (d + 1000 * j) | none => none) = _
      rw [if_neg hlt, hb]; rfl
  have hfits : G2.fits C w' := by
    refine ⟨fun b q hb => ?_, ?_, fun b hb => hg2 b _ (hG.2.2 b hb)⟩
    · by_cases hlt : b < w.heap.size
      · have hb' : (if b < w.heap.size then G.g b else match G'.g b with | some j => if j = 2000 then some l else some (d + 1000 * j) | none => none) = some q := hb
        rw [if_pos hlt] at hb'
        exact ⟨(hG.1 b q hb').1, by omega⟩
      · refine ⟨fun ho => hlt (Nat.lt_of_lt_of_le ho.1 hB), ?_⟩
        have hb' : (if b < w.heap.size then G.g b else match G'.g b with | some j => if j = 2000 then some l else some (d + 1000 * j) | none => none) = some q := hb
        rw [if_neg hlt] at hb'
        cases hgb : G'.g b with
        | none => rw [hgb] at hb'; cases hb'
        | some j => exact (hG'.1 b j hgb).2
    · exact (hr2 2000 (by omega)).trans hG.2.1
  have keep : ∀ (s : Nat) (x : SV), σ.at s = some x → (io.isSome = true → l ∉ x.labels) → Ok C w' G2 x (a.tmps.getD s undef) := by
    intro s x hx hl
    refine Ok.keep hS.fp hst2 x _ (fun q hq => ⟨hr2 q (hfr' q (St.labels_at hx q hq)), fun b hb => hg2 b q hb, fun b hb => hst.block b ⟨(hG.1 b q hb).2, fun ⟨h1, h2⟩ => ?_⟩⟩) (hE s x hx)
    rw [hb] at h2; exact hl h1 (Option.some.inj h2 ▸ hq)
  let σ' : St := if io.isSome then σ.upd hs l cs' else σ
  have hE2 : Env C σ' a w' G2 := by
    intro s x hx
    cases hi : io with
    | none =>
      have hσ : σ' = σ := by show (if io.isSome then _ else σ) = σ; rw [hi]; rfl
      rw [hσ] at hx
      exact keep s x hx (fun h => by rw [hi] at h; cases h)
    | some y =>
      have hsome : io.isSome = true := by rw [hi]; rfl
      have hσ : σ' = σ.upd hs l cs' := by show (if io.isSome then σ.upd hs l cs' else σ) = _; rw [if_pos hsome]
      rw [hσ] at hx
      obtain ⟨z, hz, rfl⟩ := upd_at hx
      have hll := hlab y hi
      split
      · rename_i hin
        have hzy : z = y.at l := by
          have := (hio y hi).2.1 s (by simpa using hin)
          rw [hz] at this; exact Option.some.inj this
        subst hzy
        have h0 := hio0 y _ hi (hE s _ hz)
        have h1 := io_same (fun _ h => h) h0 hG0 (hfin y hi) hG' hst (fun b hb => hb) rfl
        have hrl : G'.r 2000 = G2.r l := by rw [hr2 l (hfr' l hll), hG'.2.1]; rfl
        cases y with
        | own e' s' m cs =>
          obtain ⟨vs, h3, h4, h5⟩ := h1
          exact ⟨vs, h3, fun b hb => ⟨by rw [← hrl]; exact (h4 b hb).1, hiol hsome b (h4 b hb).2⟩, RepL.mono (fun b ⟨hb, hn⟩ => ⟨hiol hsome b hb, by rw [← hrl]; exact hn⟩) (fun _ _ => rfl) _ vs h5⟩
        | box e' cs =>
          obtain ⟨vs, h3, h4, h5, h6⟩ := h1
          refine ⟨vs, by rw [← hrl]; exact h3, by rw [← hrl]; exact hiol hsome _ h4, by rw [← hrl]; exact h5, RepL.mono (fun b hb => ?_) (fun _ _ => rfl) _ vs h6⟩
          rcases hb with ⟨hb, hn⟩ | hb
          · exact .inl ⟨hiol hsome b hb, by rw [← hrl]; exact hn⟩
          · rcases hb with hb | ⟨he, _⟩
            · exact .inr hb
            · rw [hxe hsome] at he; cases he
        | vw T o n cs =>
          obtain ⟨o', cap, vs, h3, hc, ho, h4, h5, h6⟩ := h1
          refine ⟨o', cap, vs, by rw [← hrl]; exact h3, hc, ho, by rw [← hrl]; exact hiol hsome _ h4, by rw [← hrl]; exact h5, RepL.mono (fun b hb => ?_) (fun _ _ => rfl) _ vs h6⟩
          rcases hb with ⟨hb, hn⟩ | hb
          · exact .inl ⟨hiol hsome b hb, by rw [← hrl]; exact hn⟩
          · rcases hb with hb | ⟨he, _⟩
            · exact .inr hb
            · rw [hxe hsome] at he; cases he
      · split
        · rename_i had
          cases z with
          | adr q o =>
            have := hE s _ hz
            simp only [Ok] at this ⊢
            rw [hr2 q (hfr' q (St.labels_at hz q (by simp [SV.labels])))]
            exact this
          | _ => simp [SV.isAdr] at had
        · split
          · trivial
          · rename_i hl
            exact keep s z hz (fun _ => by simpa using hl)
  have hok : Ok C w' G2 (packS (rs.map (SV.back ss off d exm (if io.isSome then some l else none)))) v := by
    have one : ∀ (x : SV) (u : Value), x.ret = true → (∀ j, x.rl = some j → j ≠ 2000) → Ok C' w' G' x u → Ok C w' G2 (x.back ss off d exm (if io.isSome then some l else none)) u := by
      intro x u hx hj h
      cases x with
      | val p => exact h
      | par i p =>
        have h' : Rep w' (feet C G ss off i) p u := h
        simp only [SV.back]
        by_cases hio' : i < off
        · have hF : ∀ b, ¬ feet C G ss off i b := fun b hb => by unfold feet at hb; rw [if_pos hio'] at hb; exact hb
          have any : ∀ F, Rep w' F p u := fun F => Rep.mono (fun b hb => (hF b hb).elim) (fun _ _ => rfl) p u h'
          split <;> exact any _
        · have hfe : feet C G ss off i = match ss[i - off]? with | some s => foot C G s | none => fun _ => False := by unfold feet; rw [if_neg hio']
          rw [hfe] at h'
          cases hi : ss[i - off]? with
          | none => rw [hi] at h'; exact h'
          | some s =>
            rw [hi] at h'
            cases s with
            | par j q => exact h'
            | ext q => exact h'
            | bor q p' => exact Rep.mono (fun b hb => hb.imp (hg2 b q) id) (fun _ _ => rfl) p u h'
            | own q e s m cs => exact Rep.mono (fun b hb => .inl (hg2 b q hb)) (fun _ _ => rfl) p u h'
            | frz q p' => exact Rep.mono (fun b hb => hg2 b q hb) (fun _ _ => rfl) p u h'
            | _ => exact h'
      | own j e s m cs =>
        have hj' := hj j rfl
        have hrj : G2.r (d + 1000 * j) = G'.r j := by
          show (if (d + 1000 * j) % 1000 = d then G'.r ((d + 1000 * j) / 1000) else _) = _
          rw [if_pos (by omega), show (d + 1000 * j) / 1000 = j by omega]
        obtain ⟨us, h1, h2, h3⟩ := h
        exact ⟨us, h1, fun b hb => ⟨by rw [hrj]; exact (h2 b hb).1, hnew b j hj' (h2 b hb).2⟩, RepL.mono (fun b ⟨hb, hn⟩ => ⟨hnew b j hj' hb, by rw [hrj]; exact hn⟩) (fun _ _ => rfl) cs us h3⟩
      | map j es =>
        have hj' := hj j rfl
        have hrj : G2.r (d + 1000 * j) = G'.r j := by
          show (if (d + 1000 * j) % 1000 = d then G'.r ((d + 1000 * j) / 1000) else _) = _
          rw [if_pos (by omega), show (d + 1000 * j) / 1000 = j by omega]
        obtain ⟨arr, clock, h1, h2, h3, h4⟩ := h
        exact ⟨arr, clock, by rw [hrj]; exact h1, by rw [hrj]; exact hnew _ j hj' h2, by rw [hrj]; exact h3, h4⟩
      | frz j p => exact Rep.mono (fun b hb => hnew b j (hj j rfl) hb) (fun _ _ => rfl) p u h
      | arr j e s es =>
        have hj' := hj j rfl
        have hrj : G2.r (d + 1000 * j) = G'.r j := by
          show (if (d + 1000 * j) % 1000 = d then G'.r ((d + 1000 * j) / 1000) else _) = _
          rw [if_pos (by omega), show (d + 1000 * j) / 1000 = j by omega]
        obtain ⟨us, h1, h2⟩ := h
        exact ⟨us, h1, h2.keep hrj (fun b hb => hnew b j hj' hb) (fun _ _ _ => rfl)⟩
      | bor j p =>
        simp only [SV.back]
        split
        · rename_i hall
          refine Rep.mono (fun b hb => ?_) (fun _ _ => rfl) p u h
          rcases hb with hb | hb | ⟨he, i, hb⟩
          · exact .inl (hnew b j (hj j rfl) hb)
          · exact .inr hb
          · have hall : ss.all SV.noMem = true := by
              simp only [Bool.or_eq_true, Bool.not_eq_true'] at hall
              rcases hall with h | h
              · exact h
              · have he' : exm = true := he
                rw [h] at he'; cases he'
            have hb' : feet C G ss off i b := hb
            unfold feet at hb'
            by_cases hio' : i < off
            · rw [if_pos hio'] at hb'; exact hb'.elim
            · rw [if_neg hio'] at hb'
              cases hsi : ss[i - off]? with
              | none => simp only [hsi] at hb'
              | some s =>
                simp only [hsi] at hb'
                have hb := hb'
                have hs := List.all_eq_true.1 hall s (List.mem_of_getElem? hsi)
                cases s with
                | val p => exact hb.elim
                | ext p => exact .inr hb
                | fn f => exact hb.elim
                | _ => simp [SV.noMem] at hs
        · trivial
      | iop p =>
        cases hi : io.isSome with
        | true =>
          have hef := hxe hi
          refine Rep.mono (fun b hb => ?_) (fun _ _ => rfl) p u h
          rcases hb with hb | hb | ⟨he, _⟩
          · exact .inl (hiol hi b hb)
          · exact .inr hb
          · have he' : exm = true := he
            rw [hef] at he'; cases he'
        | false => trivial
      | iow e s m cs =>
        cases hi : io.isSome with
        | true =>
          obtain ⟨y, hy⟩ := Option.isSome_iff_exists.1 hi
          have hrl : G'.r 2000 = G2.r l := by rw [hr2 l (hfr' l (hlab y hy)), hG'.2.1]; rfl
          obtain ⟨us, h1, h2, h3⟩ := h
          exact ⟨us, h1, fun b hb => ⟨by rw [← hrl]; exact (h2 b hb).1, hiol hi b (h2 b hb).2⟩, RepL.mono (fun b ⟨hb, hn⟩ => ⟨hiol hi b hb, by rw [← hrl]; exact hn⟩) (fun _ _ => rfl) cs us h3⟩
        | false => trivial
      | gmap j e b es =>
        have hj' := hj j rfl
        have hrj : G2.r (d + 1000 * j) = G'.r j := by
          show (if (d + 1000 * j) % 1000 = d then G'.r ((d + 1000 * j) / 1000) else _) = _
          rw [if_pos (by omega), show (d + 1000 * j) / 1000 = j by omega]
        rcases h with h | ⟨arr, clock, h1, h2, h3, h4⟩
        · exact .inl h
        exact .inr ⟨arr, clock, by rw [hrj]; exact h1, by rw [hrj]; exact hnew _ j hj' h2, by rw [hrj]; exact h3, h4.keep hrj (fun b hb => hnew b j hj' hb) (fun _ _ _ => rfl)⟩
      | fn f => exact h
      | _ => simp [SV.ret] at hx
    have all : ∀ (xs : List SV) (us : List Value), xs.all SV.ret = true → (∀ x ∈ xs, ∀ j, x.rl = some j → j ≠ 2000) → OkL C' w' G' xs us → OkL C w' G2 (xs.map (SV.back ss off d exm (if io.isSome then some l else none))) us := by
      intro xs
      induction xs with
      | nil => intro us _ _ h; exact h
      | cons x xs ih =>
        intro us hx hj h
        obtain ⟨u, r, rfl, h1, h2⟩ := h
        simp only [List.all_cons, Bool.and_eq_true] at hx
        exact ⟨u, r, rfl, one x u hx.1 (hj x List.mem_cons_self) h1, ih r hx.2 (fun y hy => hj y (List.mem_cons_of_mem _ hy)) h2⟩
    have hAll := all rs us hret hlabs hL
    rw [hv]
    rcases rs with _ | ⟨x, _ | ⟨y, xs⟩⟩
    · simp only [List.map_nil, OkL] at hAll; subst hAll
      exact ⟨[], rfl, rfl⟩
    · simp only [List.map_cons, List.map_nil] at hAll ⊢
      obtain ⟨u, r, rfl, h1, h2⟩ := hAll
      simp only [OkL] at h2; subst h2
      exact h1
    · simp only [List.map_cons] at hAll ⊢
      obtain ⟨u, r, hu, h1, h2⟩ := hAll
      obtain ⟨u', r', hu', h3, h4⟩ := h2
      subst hu'; subst hu
      exact ⟨_, rfl, u, _, rfl, h1, u', _, rfl, h3, h4⟩
  refine hK' _ _ _ (hK rs cs' hR) ?_
  have hS' : Sim n C σ' a w' := ⟨hS.fp, hS.below.trans hst2, hS.dfs, hS.size, G2, hfits, hE2⟩
  exact hS'.put hfits hE2 hd hok
theorem op_callM {f : FuncId} {exm : Bool} {io : Option Iov} {ts : Array TypeId} {ps : List PV} {R : List SV → List PV → Prop} (hc : MCalls P f exm io ps R) (x0 : Operand) (l : Nat) (hs : List Nat) (xs : List Operand) (ss : List SV)
    (hss : σ.evs xs = some ss) (hps : pvs ss = some ps) (hio : ∀ y, io = some y → σ.ev x0 = some (y.at l) ∧ (∀ t ∈ hs, σ.at t = some (y.at l)) ∧ ∀ s ∈ ss, l ∉ s.labels) (hd : d < n) (hd0 : 0 < d) (hd' : d < 1000)
    (hfr : σ.labels.all (fun l => l % 1000 != d) = true) (hxe : io.isSome = true → exm = false)
    (hK : ∀ rs cs', R rs cs' → K ((d, packS (rs.map (SV.back ss (if io.isSome then 1 else 0) d exm (if io.isSome then some l else none)))) :: (if io.isSome then σ.upd hs l cs' else σ))) :
    opT P n ⟨some d, .call { callee := .value (.func f), args := (if io.isSome then x0 :: xs else xs).toArray, argTypes := ts }, ty, pos, af, gd⟩ σ K :=
  op_callMG hc (.func f) (fun _ _ _ _ _ => rfl) x0 l hs xs ss (fun _ _ _ _ hE Fp i hF => evs_ok hE hss hps Fp i hF) hio hd hd0 hd' hfr hxe hK
def pvsN (σ : St) : List Operand → List SV → List PV → Prop
  | [], ss, ps => ss = [] ∧ ps = []
  | x :: xs, ss, ps => ∃ s ss' p ps', ss = s :: ss' ∧ ps = p :: ps' ∧ ((σ.ev x = some s ∧ s.pv = some p) ∨ (x = .const (.slice none 0 0) ∧ p = .cst 0)) ∧ pvsN σ xs ss' ps'
theorem pvsN_nil : pvsN σ [] [] [] := ⟨rfl, rfl⟩
theorem pvsN_x {x : Operand} {xs : List Operand} {s : SV} {ss : List SV} {p : PV} {ps : List PV} (h : σ.ev x = some s) (hp : s.pv = some p) (k : pvsN σ xs ss ps) : pvsN σ (x :: xs) (s :: ss) (p :: ps) := ⟨s, ss, p, ps, rfl, rfl, .inl ⟨h, hp⟩, k⟩
theorem pvsN_c {xs : List Operand} {s : SV} {ss : List SV} {ps : List PV} (k : pvsN σ xs ss ps) : pvsN σ (.const (.slice none 0 0) :: xs) (s :: ss) (.cst 0 :: ps) := ⟨s, ss, _, ps, rfl, rfl, .inr ⟨rfl, rfl⟩, k⟩
theorem pvsN_ok {C : Ctx} {a : Act} {w : World} {G : Gh} (hE : Env C σ a w G) : ∀ {xs : List Operand} {ss : List SV} {ps : List PV}, pvsN σ xs ss ps → ∀ (Fp : Nat → Nat → Prop) (i : Nat), (∀ j s, ss[j]? = some s → Fp (i + j) = foot C G s) → RepArgs w Fp i ps (xs.map a.eval)
  | [], _, _, h, Fp, i, hF => by obtain ⟨rfl, rfl⟩ := h; rfl
  | x :: xs, _, _, h, Fp, i, hF => by
    obtain ⟨s, ss', p, ps', rfl, rfl, h1, h2⟩ := h
    refine ⟨_, _, rfl, ?_, pvsN_ok hE h2 Fp (i + 1) (fun j s hj => by rw [show i + 1 + j = i + (j + 1) by omega]; exact hF (j + 1) s (by simpa using hj))⟩
    rcases h1 with ⟨h3, h4⟩ | ⟨rfl, rfl⟩
    · rw [show Fp i = foot C G s from hF 0 s rfl]
      exact (hE.ev h3).rep h4
    · simp only [Rep, Act.eval]; rfl
theorem op_call {f : FuncId} {xs : List Operand} {ts : Array TypeId} {ps : List PV} {R : List SV → Prop} (ss : List SV) (hc : PCalls P f ps R) (hss : σ.evs xs = some ss) (hps : pvs ss = some ps) (hd : d < n) (hd0 : 0 < d) (hd' : d < 1000)
    (hfr : σ.labels.all (fun l => l % 1000 != d) = true) (hK : ∀ rs, R rs → K ((d, packS (rs.map (SV.back ss 0 d false))) :: σ)) :
    opT P n ⟨some d, .call { callee := .value (.func f), args := xs.toArray, argTypes := ts }, ty, pos, af, gd⟩ σ K :=
  op_callM hc (.tmp 0) 0 [] xs ss hss hps (fun y hy => by cases hy) hd hd0 hd' hfr (fun h => by cases h) (fun rs _ hR => hK rs hR)
theorem op_callN {f : FuncId} {exm : Bool} {xs : List Operand} {ts : Array TypeId} {ps : List PV} {R : List SV → List PV → Prop} (ss : List SV) (hc : MCalls P f exm none ps R) (hss : pvsN σ xs ss ps) (hd : d < n) (hd0 : 0 < d) (hd' : d < 1000)
    (hfr : σ.labels.all (fun l => l % 1000 != d) = true) (hK : ∀ rs cs', R rs cs' → K ((d, packS (rs.map (SV.back ss 0 d exm))) :: σ)) :
    opT P n ⟨some d, .call { callee := .value (.func f), args := xs.toArray, argTypes := ts }, ty, pos, af, gd⟩ σ K :=
  op_callMG hc (.func f) (fun _ _ _ _ _ => rfl) (.tmp 0) 0 [] xs ss (fun _ _ _ _ hE Fp i hF => pvsN_ok hE hss Fp i hF) (fun _ hy => by cases hy) hd hd0 hd' hfr (fun h => by cases h) (fun rs cs' hR => hK rs cs' hR)
end
end Go.Proofs.YtfagllolcalfiabDoor
