/- Contracts of calls over pure values: how a function's code gives one, and how a call uses it. Own work; no conditions; nothing here is about one program. -/
import Derived.Test.YtfagllolcalfiabDoorPwC
import Derived.RangeFuncLeaves
import Derived.RangeFuncRecord
namespace Go.Proofs.YtfagllolcalfiabDoor
open Go.RowKit
mutual
def PV.flat : PV → Bool
  | .sl _ _ => false
  | .agg cs => PV.flatL cs
  | .ptr _ => false
  | .clo _ cs => PV.flatL cs
  | .ifc => false
  | .mth _ cs => PV.flatL cs
  | .mp _ => false
  | _ => true
def PV.flatL : List PV → Bool
  | [] => true
  | c :: cs => c.flat && PV.flatL cs
end
mutual
theorem Rep.flat {w w' : World} {F F' : Nat → Prop} : ∀ (p : PV) (v : Value), p.flat = true → Rep w F p v → Rep w' F' p v
  | .bool b, v, _, h => by simpa [Rep] using h
  | .int k n, v, _, h => by simpa [Rep] using h
  | .str s, v, _, h => by simpa [Rep] using h
  | .sl n cs, v, hf, _ => by simp [PV.flat] at hf
  | .agg cs, v, hf, h => by
    simp only [Rep] at h ⊢
    obtain ⟨vs, hv, hr⟩ := h
    exact ⟨vs, hv, RepL.flat cs vs (by simpa [PV.flat] using hf) hr⟩
  | .ptr cs, v, hf, _ => by simp [PV.flat] at hf
  | .clo f cs, v, hf, h => by
    simp only [Rep] at h ⊢
    obtain ⟨vs, hv, hr⟩ := h
    exact ⟨vs, hv, RepL.flat cs vs (by simpa [PV.flat] using hf) hr⟩
  | .cst k, v, _, h => by simpa [Rep] using h
  | .ifc, v, hf, _ => by simp [PV.flat] at hf
  | .mth f cs, v, hf, h => by
    simp only [Rep] at h ⊢
    obtain ⟨vs, hv, hr⟩ := h
    exact ⟨vs, hv, RepL.flat cs vs (by simpa [PV.flat] using hf) hr⟩
  | .mp cs, v, hf, _ => by simp [PV.flat] at hf
theorem RepL.flat {w w' : World} {F F' : Nat → Prop} : ∀ (cs : List PV) (vs : List Value), PV.flatL cs = true → RepL w F cs vs → RepL w' F' cs vs
  | [], vs, _, h => by simpa [RepL] using h
  | c :: cs, vs, hf, h => by
    simp only [RepL] at h ⊢
    simp only [PV.flatL, Bool.and_eq_true] at hf
    obtain ⟨v, r, hv, ho, h1, h2⟩ := h
    exact ⟨v, r, hv, ho, Rep.flat c v hf.1 h1, RepL.flat cs r hf.2 h2⟩
end
def PV.start (exm : Bool) (i : Nat) (p : PV) : SV := if p.flat then .val p else if exm then .ext p else .par i p
def inits (exm : Bool) : Nat → List PV → St
  | _, [] => []
  | i, p :: ps => (i, p.start exm i) :: inits exm (i + 1) ps
theorem inits_at {exm : Bool} : ∀ (ps : List PV) (i s : Nat) (x : SV), (inits exm i ps).at s = some x → ∃ p, i ≤ s ∧ ps[s - i]? = some p ∧ x = p.start exm s
  | [], i, s, x, h => by simp [inits, St.at] at h
  | p :: ps, i, s, x, h => by
    simp only [inits, St.at] at h
    split at h
    · rename_i he; subst he; cases h; exact ⟨p, Nat.le_refl _, by simp, rfl⟩
    · rename_i hne
      obtain ⟨q, h1, h2, h3⟩ := inits_at ps (i + 1) s x h
      refine ⟨q, by omega, ?_, h3⟩
      have : s - i = (s - (i + 1)) + 1 := by omega
      rw [this]; simpa using h2
def SV.ret : SV → Bool
  | .val _ => true
  | .par _ _ => true
  | .own _ _ _ _ _ => true
  | .map _ _ => true
  | .gmap _ _ _ _ => true
  | .frz _ _ => true
  | .arr _ _ _ _ => true
  | .bor _ _ => true
  | .fn _ => true
  | .iop _ => true
  | .iow _ _ _ _ => true
  | _ => false
def SV.rl : SV → Option Nat
  | .own l _ _ _ _ => some l
  | .map l _ => some l
  | .gmap l _ _ _ => some l
  | .ownL l _ _ _ _ _ => some l
  | .frz l _ => some l
  | .arr l _ _ _ => some l
  | .bor l _ => some l
  | _ => none
def SV.labR : SV → List Nat
  | .iop _ => []
  | .iow _ _ _ _ => []
  | x => x.labels
def SV.labRL : List SV → List Nat
  | [] => []
  | s :: ss => s.labR ++ SV.labRL ss
theorem SV.rl_labels {x : SV} {l : Nat} (h : x.rl = some l) : l ∈ x.labR := by
  cases x <;> simp [SV.rl] at h <;> subst h <;> simp [SV.labR, SV.labels]
theorem rl_labelsL : ∀ (ys : List SV) (i l : Nat), (ys[i]?).bind SV.rl = some l → l ∈ SV.labRL ys
  | [], i, l, h => by simp at h
  | y :: ys, 0, l, h => by
    simp only [SV.labRL, List.mem_append]
    exact .inl (SV.rl_labels (by simpa using h))
  | y :: ys, i + 1, l, h => by
    simp only [SV.labRL, List.mem_append]
    exact .inr (rl_labelsL ys i l (by simpa using h))
def packV : List Value → Value
  | [v] => v
  | vs => .tuple vs.toArray
def Enters (P : Program) (f : FuncId) : Prop := ∀ args w, (callFunc f args).run P w = .ok (.enter f args) w
theorem enters_of {P : Program} {f : FuncId} {fn : Func} {c : Code} (hf : P.funcs[f]? = some fn) (hn : (fn.name == "runtime.NumGoroutine") = false) (hb : fn.body = some c) : Enters P f := by
  intro args w
  have hn' : ¬ fn.name = "runtime.NumGoroutine" := by simpa using hn
  simp [callFunc, hf, hn', hb]
def RepArgs (w : World) (Fp : Nat → Nat → Prop) : Nat → List PV → List Value → Prop
  | _, [], vs => vs = []
  | i, p :: ps, vs => ∃ v r, vs = v :: r ∧ Rep w (Fp i) p v ∧ RepArgs w Fp (i + 1) ps r
inductive Iov where
  | own (e size m : Nat) (cs : List PV)
  | box (e : Nat) (cs : List PV)
  | vw (T off n : Nat) (cs : List PV)
def Iov.sv : Iov → SV
  | .own e s m cs => .own 2000 e s m cs
  | .box e cs => .box 2000 e cs
  | .vw T o n cs => .vbox 2000 T o n cs
def Iov.put (cs : List PV) : Iov → Iov
  | .own e s m _ => .own e s m cs
  | .box e _ => .box e cs
  | .vw T o n _ => .vw T o n cs
structure MCalls (P : Program) (f : FuncId) (exm : Bool) (io : Option Iov) (ps : List PV) (R : List SV → List PV → Prop) : Prop where
  ent : Enters P f
  run : ∀ (C : Ctx) (G0 : Gh) (v0 : Value) (vs : List Value), C.plain → ((∀ i b, C.Fp i b → C.old b) ∧ ∀ b, C.ex b → C.old b) → (exm = true → ∀ i b, C.Fp i b → C.ex b) → G0.fits C C.w0 → (∀ x, io = some x → Ok C C.w0 G0 x.sv v0) →
    RepArgs C.w0 C.Fp (if io.isSome then 1 else 0) ps vs →
    Calls P f (if io.isSome then v0 :: vs else vs).toArray C.w0 fun e w' => ∃ v rs cs', e = .returned v ∧ R rs cs' ∧ Stays C.old C.w0 w' ∧
      ∃ (G : Gh) (us : List Value), G.fits C w' ∧ OkL C w' G rs us ∧ v = packV us ∧ rs.all SV.ret = true ∧ (∀ x ∈ rs, ∀ j, x.rl = some j → j ≠ 2000) ∧ ∀ x, io = some x → Ok C w' G (x.put cs').sv v0
theorem MCalls.mono {P : Program} {f : FuncId} {exm : Bool} {io : Option Iov} {ps : List PV} {R R' : List SV → List PV → Prop} (h : MCalls P f exm io ps R) (hr : ∀ rs cs, R rs cs → R' rs cs) : MCalls P f exm io ps R' :=
  ⟨h.ent, fun C G0 v0 vs hp h1 h0 h2 h3 h4 => (h.run C G0 v0 vs hp h1 h0 h2 h3 h4).mono fun _ _ ⟨v, rs, cs', a, b, c⟩ => ⟨v, rs, cs', a, hr _ _ b, c⟩⟩
def PCalls (P : Program) (f : FuncId) (ps : List PV) (R : List SV → Prop) : Prop := MCalls P f false none ps fun rs _ => R rs
theorem PCalls.mono {P : Program} {f : FuncId} {ps : List PV} {R R' : List SV → Prop} (h : PCalls P f ps R) (hr : ∀ rs, R rs → R' rs) : PCalls P f ps R' := MCalls.mono h fun rs _ => hr rs
theorem RepArgs.get {w : World} {Fp : Nat → Nat → Prop} : ∀ {ps : List PV} {vs : List Value} {i : Nat}, RepArgs w Fp i ps vs → ∀ (j : Nat) (p : PV), ps[j]? = some p → ∃ v, vs[j]? = some v ∧ Rep w (Fp (i + j)) p v
  | [], vs, i, h, j, p, hp => by simp at hp
  | q :: ps, vs, i, h, j, p, hp => by
    obtain ⟨v, r, rfl, h1, h2⟩ := h
    cases j with
    | zero => simp at hp; subst hp; exact ⟨v, rfl, h1⟩
    | succ j =>
      obtain ⟨u, h3, h4⟩ := RepArgs.get h2 j p (by simpa using hp)
      exact ⟨u, by simpa using h3, by rw [show i + (j + 1) = i + 1 + j by omega]; exact h4⟩
theorem RepArgs.length {w : World} {Fp : Nat → Nat → Prop} : ∀ {ps : List PV} {vs : List Value} {i : Nat}, RepArgs w Fp i ps vs → vs.length = ps.length
  | [], vs, i, h => by simp only [RepArgs] at h; simp [h]
  | q :: ps, vs, i, h => by
    obtain ⟨v, r, rfl, h1, h2⟩ := h
    simp [h2.length]
/-! ### The end of a function -/
def SV.out (j : Nat) : SV → Option SV
  | .val p => some (.val p)
  | .par i p => some (.par i p)
  | .own _ e s m cs => some (.own j e s m cs)
  | .map _ es => some (.map j es)
  | .gmap _ e b es => some (.gmap j e b es)
  | .ownL _ _ e s m cs => some (.own j e s m cs)
  | .frz _ p => some (.frz j p)
  | .arr _ e s es => some (.arr j e s es)
  | .bor _ p => some (.bor j p)
  | .fn f => some (.fn f)
  | .iop p => some (.iop p)
  | .iow e s m cs => some (.iow e s m cs)
  | _ => none
def outs : Nat → List SV → Option (List SV)
  | _, [] => some []
  | j, x :: xs => match x.out j, outs (j + 1) xs with
    | some y, some ys => some (y :: ys)
    | _, _ => none
def AggTy (P : Program) (u : TypeId) (k : Nat) : Prop := (∀ w, (isAgg u).run P w = .ok true w) ∧ ∀ w, (sizeOf u).run P w = .ok k w
def ResTy (P : Program) (u : TypeId) (k : Nat) : Prop := (k ≠ 0 → AggTy P u k) ∧ (k = 0 → ∀ w, (isAgg u).run P w = .ok false w)
theorem resTy_agg {P : Program} {u : TypeId} {k : Nat} (h : AggTy P u k) (hk : k ≠ 0) : ResTy P u k := ⟨fun _ => h, fun e => absurd e hk⟩
def St.res (az : TypeId → Nat) (σ : St) : List ResultVar → Option (List SV)
  | [] => some []
  | .tmp t :: r => match σ.at t, St.res az σ r with
    | some x, some xs => some (x :: xs)
    | _, _ => none
  | .cell t u :: r => match σ.at t, St.res az σ r with
    | some (.box _ _ cs), some xs => if az u == 0 then (match cs with | [c] => if c.flat then some (.val c :: xs) else none | _ => none) else if PV.flatL cs && cs.length == az u then some (.val (.agg cs) :: xs) else none
    | some (.boxR l _ e s es), some xs => if az u != 0 && es.length == az u then some (.arr l e s es :: xs) else none
    | some (.boxS _ _ q e s n cs), some xs => if az u == 0 then some (.own q e s n cs :: xs) else none
    | _, _ => none
def ioEnd (io : Option Iov) (cs : List PV) (σ : St) : Prop := match io with
  | none => True
  | some x => σ.at 0 = some (x.put cs).sv
def Ends (az : TypeId → Nat) (fn : Func) (io : Option Iov) (R : List SV → List PV → Prop) : Exit → St → Prop
  | .normal, σ | .ret, σ => ∃ xs rs cs, σ.res az fn.results.toList = some xs ∧ outs 0 xs = some rs ∧ (SV.labRL xs).Nodup ∧ (SV.labRL xs).all (· != 2000) = true ∧ xs.length ≤ 100 ∧ ioEnd io cs σ ∧ R rs cs
  | _, _ => False
def labelAt : Nat → List SV → Nat → Option Nat
  | _, [], _ => none
  | j, x :: xs, m => if x.labR.contains m then some j else labelAt (j + 1) xs m
theorem outs_ok {C : Ctx} {w : World} {G G' : Gh} : ∀ (xs rs : List SV) (j : Nat) (vs : List Value), outs j xs = some rs → OkL C w G xs vs →
    (∀ i l, (xs[i]?).bind SV.rl = some l → G'.r (j + i) = G.r l ∧ ∀ m ∈ ((xs[i]?).map SV.labR).getD [], ∀ b, G.g b = some m → G'.g b = some (j + i)) → (∀ b, G.g b = some 2000 → G'.g b = some 2000) → G'.r 2000 = G.r 2000 → OkL C w G' rs vs
  | [], rs, j, vs, h, hk, _, _, _ => by simp only [outs, Option.some.injEq] at h; subst h; exact hk
  | x :: xs, rs, j, vs, h, hk, hl, h2k, h2r => by
    unfold outs at h
    split at h
    · rename_i y ys h1 h2
      simp only [Option.some.injEq] at h; subst h
      obtain ⟨v, r, rfl, h3, h4⟩ := hk
      refine ⟨v, r, rfl, ?_, outs_ok xs ys (j + 1) r h2 h4 (fun i l hi => ?_) h2k h2r⟩
      · cases x with
        | val p => simp only [SV.out, Option.some.injEq] at h1; subst h1; exact h3
        | par i p => simp only [SV.out, Option.some.injEq] at h1; subst h1; exact h3
        | own l e s m cs =>
          simp only [SV.out, Option.some.injEq] at h1; subst h1
          obtain ⟨g1, g2'⟩ := hl 0 l rfl
          have g2 : ∀ b, G.g b = some l → G'.g b = some (j + 0) := fun b hb => g2' l (by simp [SV.labR, SV.labels]) b hb
          simp only [Nat.add_zero] at g1 g2
          simp only [Ok] at h3 ⊢
          obtain ⟨us, ho, hb, hr⟩ := h3
          exact ⟨us, ho, fun b hv => ⟨by rw [g1]; exact (hb b hv).1, g2 b (hb b hv).2⟩, RepL.mono (fun b ⟨hb, hn⟩ => ⟨g2 b hb, by rw [g1]; exact hn⟩) (fun _ _ => rfl) cs us hr⟩
        | frz l p =>
          simp only [SV.out, Option.some.injEq] at h1; subst h1
          obtain ⟨_, g2'⟩ := hl 0 l rfl
          have g2 : ∀ b, G.g b = some l → G'.g b = some (j + 0) := fun b hb => g2' l (by simp [SV.labR, SV.labels]) b hb
          exact Rep.mono g2 (fun _ _ => rfl) p v h3
        | arr l e s es =>
          simp only [SV.out, Option.some.injEq] at h1; subst h1
          obtain ⟨g1, g2'⟩ := hl 0 l rfl
          have g2 : ∀ b, G.g b = some l → G'.g b = some (j + 0) := fun b hb => g2' l (by simp [SV.labR, SV.labels]) b hb
          simp only [Nat.add_zero] at g1 g2
          obtain ⟨vs, hv, hr⟩ := h3
          exact ⟨vs, hv, hr.keep g1 g2 (fun _ _ _ => rfl)⟩
        | bor l p =>
          simp only [SV.out, Option.some.injEq] at h1; subst h1
          obtain ⟨_, g2'⟩ := hl 0 l rfl
          have g2 : ∀ b, G.g b = some l → G'.g b = some (j + 0) := fun b hb => g2' l (by simp [SV.labR, SV.labels]) b hb
          exact Rep.mono (fun b hb => hb.imp (g2 b) id) (fun _ _ => rfl) p v h3
        | gmap l e b es =>
          simp only [SV.out, Option.some.injEq] at h1; subst h1
          obtain ⟨g1, g2'⟩ := hl 0 l rfl
          have g2 : ∀ b, G.g b = some l → G'.g b = some (j + 0) := fun b hb => g2' l (by simp [SV.labR, SV.labels]) b hb
          simp only [Nat.add_zero] at g1 g2
          simp only [Ok] at h3 ⊢
          rcases h3 with h3 | ⟨arr, clock, hv, hg, hh, hr⟩
          · exact .inl h3
          right
          rw [g1]
          exact ⟨arr, clock, hv, g2 _ hg, hh, hr.keep g1 g2 (fun _ _ _ => rfl)⟩
        | ownL l qs e s m cs =>
          simp only [SV.out, Option.some.injEq] at h1; subst h1
          obtain ⟨g1, g2'⟩ := hl 0 l rfl
          have g2 : ∀ b, G.g b = some l → G'.g b = some (j + 0) := fun b hb => g2' l (by simp [SV.labR, SV.labels]) b hb
          have g3 : ∀ q ∈ qs, ∀ b, G.g b = some q → G'.g b = some (j + 0) := fun q hq b hb => g2' q (by simp [SV.labR, SV.labels, hq]) b hb
          simp only [Nat.add_zero] at g1 g2 g3
          simp only [Ok] at h3 ⊢
          obtain ⟨us, ho, hb, hr⟩ := h3
          exact ⟨us, ho, fun b hv => ⟨by rw [g1]; exact (hb b hv).1, g2 b (hb b hv).2⟩, RepL.mono (fun b ⟨⟨q, hq, hb'⟩, hn⟩ => ⟨g3 q hq b hb', by rw [g1]; exact hn⟩) (fun _ _ => rfl) cs us hr⟩
        | map l es =>
          simp only [SV.out, Option.some.injEq] at h1; subst h1
          obtain ⟨g1, g2'⟩ := hl 0 l rfl
          have g2 : ∀ b, G.g b = some l → G'.g b = some (j + 0) := fun b hb => g2' l (by simp [SV.labR, SV.labels]) b hb
          simp only [Nat.add_zero] at g1 g2
          simp only [Ok] at h3 ⊢
          obtain ⟨arr, clock, hv, hg, hh, hr⟩ := h3
          rw [g1]
          exact ⟨arr, clock, hv, g2 _ hg, hh, hr⟩
        | fn f => simp only [SV.out, Option.some.injEq] at h1; subst h1; exact h3
        | iop p => simp only [SV.out, Option.some.injEq] at h1; subst h1; exact Rep.mono (fun b hb => hb.imp (h2k b) id) (fun _ _ => rfl) p v h3
        | iow e s m cs =>
          simp only [SV.out, Option.some.injEq] at h1; subst h1
          simp only [Ok] at h3 ⊢
          obtain ⟨us, ho, hb, hr⟩ := h3
          exact ⟨us, ho, fun b hv => ⟨by rw [h2r]; exact (hb b hv).1, h2k b (hb b hv).2⟩, RepL.mono (fun b ⟨hb, hn⟩ => ⟨h2k b hb, by rw [h2r]; exact hn⟩) (fun _ _ => rfl) cs us hr⟩
        | _ => simp [SV.out] at h1
      · have := hl (i + 1) l (by simpa using hi)
        rw [show j + 1 + i = j + (i + 1) by omega]
        exact this
    · simp at h
theorem outs_ret : ∀ (xs rs : List SV) (j : Nat), outs j xs = some rs → rs.all SV.ret = true
  | [], rs, j, h => by simp only [outs, Option.some.injEq] at h; subst h; rfl
  | x :: xs, rs, j, h => by
    unfold outs at h
    split at h
    · rename_i y ys h1 h2
      simp only [Option.some.injEq] at h; subst h
      have ih := outs_ret xs ys (j + 1) h2
      cases x <;> simp only [SV.out, Option.some.injEq, reduceCtorEq] at h1 <;> subst h1 <;> simpa [SV.ret] using ih
    · simp at h
theorem outs_lt : ∀ (xs rs : List SV) (i : Nat), outs i xs = some rs → ∀ x ∈ rs, ∀ j, x.rl = some j → j < i + xs.length
  | [], rs, i, h, x, hx => by simp only [outs, Option.some.injEq] at h; subst h; simp at hx
  | y :: xs, rs, i, h, x, hx => by
    unfold outs at h
    split at h
    · rename_i z zs h1 h2
      simp only [Option.some.injEq] at h; subst h
      intro j hj
      rcases List.mem_cons.1 hx with rfl | hx
      · cases y <;> simp only [SV.out, Option.some.injEq, reduceCtorEq] at h1 <;> subst h1 <;> simp [SV.rl] at hj <;> simp <;> omega
      · have := outs_lt xs zs (i + 1) h2 x hx j hj
        simp; omega
    · simp at h
theorem mem_labelsL : ∀ (xs : List SV) (i l : Nat), l ∈ ((xs[i]?).map SV.labR).getD [] → l ∈ SV.labRL xs
  | [], i, l, h => by simp at h
  | x :: xs, 0, l, h => by simp only [SV.labRL, List.mem_append]; exact .inl (by simpa using h)
  | x :: xs, i + 1, l, h => by simp only [SV.labRL, List.mem_append]; exact .inr (mem_labelsL xs i l (by simpa using h))
theorem labelAt_spec : ∀ (xs : List SV) (j i l : Nat), (SV.labRL xs).Nodup → l ∈ ((xs[i]?).map SV.labR).getD [] → labelAt j xs l = some (j + i)
  | [], j, i, l, _, h => by simp at h
  | x :: xs, j, i, l, hn, h => by
    simp only [SV.labRL] at hn
    have hn2 := (List.nodup_append.1 hn).2.1
    have hdis := (List.nodup_append.1 hn).2.2
    cases i with
    | zero =>
      have h' : l ∈ x.labR := by simpa using h
      simp [labelAt, h']
    | succ i =>
      have h' : l ∈ ((xs[i]?).map SV.labR).getD [] := by simpa using h
      have ih := labelAt_spec xs (j + 1) i l hn2 h'
      have hmem : l ∈ SV.labRL xs := mem_labelsL xs i l h'
      rw [show j + (i + 1) = j + 1 + i by omega]
      have hne : ¬ l ∈ x.labR := fun e => hdis l e l hmem rfl
      simp only [labelAt, List.contains_eq_mem, decide_eq_true_eq, if_neg hne]; exact ih
def resVal (tmps : Array Value) : ResultVar → Sem Value
  | .tmp t => pure (tmps.getD t undef)
  | .cell x t => do loadVar t (← asAddr (tmps.getD x undef))
theorem results_eq (fn : Func) (tmps : Array Value) : results fn tmps = (do let vs ← fn.results.mapM (resVal tmps); pure (if h : vs.size = 1 then vs[0] else .tuple vs)) := by
  unfold results
  exact congrArg (fun g : ResultVar → Sem Value => (do let vs ← fn.results.mapM g; pure (if h : vs.size = 1 then vs[0] else Value.tuple vs))) (funext fun r => by cases r <;> rfl)
theorem res_run {P : Program} {C : Ctx} {σ : St} {a : Act} {w : World} {G : Gh} {az : TypeId → Nat} (hE : Env C σ a w G) (fn : Func)
    (hagg : ∀ t u, ResultVar.cell t u ∈ fn.results.toList → ResTy P u (az u)) :
    ∀ {xs : List SV}, σ.res az fn.results.toList = some xs → ∃ vs, OkL C w G xs vs ∧ (results fn a.tmps).run P w = .ok (packV vs) w := by
  have key : ∀ (l : List ResultVar) (xs : List SV), (∀ t u, ResultVar.cell t u ∈ l → ResTy P u (az u)) → σ.res az l = some xs →
      ∃ vs, OkL C w G xs vs ∧ (l.mapM (resVal a.tmps)).run P w = .ok vs w := by
    intro l
    induction l with
    | nil => intro xs _ h; simp only [St.res, Option.some.injEq] at h; subst h; exact ⟨[], rfl, by simp⟩
    | cons r l ih =>
      intro xs hag h
      cases r with
      | tmp t =>
        simp only [St.res] at h
        split at h
        · rename_i x ys h1 h2
          simp only [Option.some.injEq] at h; subst h
          obtain ⟨vs, h3, h4⟩ := ih ys (fun t u hm => hag t u (List.mem_cons_of_mem _ hm)) h2
          refine ⟨a.tmps.getD t undef :: vs, ⟨_, _, rfl, hE t x h1, h3⟩, ?_⟩
          have hr : (resVal a.tmps (.tmp t)).run P w = .ok (a.tmps.getD t undef) w := rfl
          simp only [List.mapM_cons, Sem.run_bind, hr, Result.andThen_ok, h4, Sem.run_pure]
        · simp at h
      | cell t u =>
        simp only [St.res] at h
        split at h
        · rename_i l' e cs ys h1 h2
          have hb := hE t _ h1
          simp only [Ok] at hb
          obtain ⟨us, hv, hg, hh, hr⟩ := hb
          split at h
          · rename_i haz
            simp only [beq_iff_eq] at haz
            have ha := (hag t u List.mem_cons_self).2 haz
            split at h
            · rename_i c
              split at h
              · rename_i hf
                simp only [Option.some.injEq] at h; subst h
                obtain ⟨vs, h3, h4⟩ := ih ys (fun t u hm => hag t u (List.mem_cons_of_mem _ hm)) h2
                obtain ⟨v, r, hus, _, hr1, hr2⟩ := hr
                simp only [RepL] at hr2
                subst hr2
                subst hus
                have hc0 : w.cell? ⟨G.r l', 0, none⟩ = some v := by rw [cell_of_row w _ 0 _ e (0, 0) hh]; rfl
                have hrr : (resVal a.tmps (.cell t u)).run P w = .ok v w := by
                  simp only [resVal, hv, asAddr, Sem.run_bind, Sem.run_pure, Result.andThen_ok]
                  simp [loadVar, ha, hc0]
                refine ⟨v :: vs, ⟨_, _, rfl, Rep.flat c v hf hr1, h3⟩, ?_⟩
                simp only [List.mapM_cons, Sem.run_bind, hrr, Result.andThen_ok, h4, Sem.run_pure]
              · simp at h
            · simp at h
          split at h
          · rename_i haz hflat
            simp only [Bool.and_eq_true, beq_iff_eq] at hflat
            simp only [beq_iff_eq] at haz
            simp only [Option.some.injEq] at h; subst h
            obtain ⟨vs, h3, h4⟩ := ih ys (fun t u hm => hag t u (List.mem_cons_of_mem _ hm)) h2
            obtain ⟨ha, hsz⟩ := (hag t u List.mem_cons_self).1 haz
            have hcell : ∀ j v, us[j]? = some v → w.cell? ((⟨G.r l', 0, none⟩ : Addr).add j) = some v := by
              intro j v hj
              have hadd : (⟨G.r l', 0, none⟩ : Addr).add j = ⟨G.r l', j, none⟩ := by unfold Addr.add; split <;> simp_all
              rw [hadd, cell_of_row w _ j _ e (0, 0) hh]; simpa using hj
            have hload := run_loadCells_list (P := P) (w := w) ⟨G.r l', 0, none⟩ us hcell
            rw [hr.length, hflat.2] at hload
            have hrr : (resVal a.tmps (.cell t u)).run P w = .ok (.agg us.toArray) w := by
              simp only [resVal, hv, asAddr, Sem.run_bind, Sem.run_pure, Result.andThen_ok, loadVar, ha, hsz, if_true, hload]
            refine ⟨.agg us.toArray :: vs, ⟨_, _, rfl, ?_, h3⟩, ?_⟩
            · simp only [Ok, Rep]; exact ⟨us, rfl, RepL.flat cs us hflat.1 hr⟩
            · simp only [List.mapM_cons, Sem.run_bind, hrr, Result.andThen_ok, h4, Sem.run_pure]
          · simp at h
        · rename_i l' t' e s es ys h1 h2
          split at h
          · rename_i hc
            simp only [Bool.and_eq_true, bne_iff_ne, ne_eq, beq_iff_eq] at hc
            simp only [Option.some.injEq] at h; subst h
            obtain ⟨us, hv, hg, hh, hr⟩ := hE t _ h1
            obtain ⟨vs, h3, h4⟩ := ih ys (fun t u hm => hag t u (List.mem_cons_of_mem _ hm)) h2
            obtain ⟨ha, hsz⟩ := (hag t u List.mem_cons_self).1 hc.1
            have hcell : ∀ j v, us[j]? = some v → w.cell? ((⟨G.r l', 0, none⟩ : Addr).add j) = some v := by
              intro j v hj
              have hadd : (⟨G.r l', 0, none⟩ : Addr).add j = ⟨G.r l', j, none⟩ := by unfold Addr.add; split <;> simp_all
              rw [hadd, cell_of_row w _ j _ t' (0, 0) hh]; simpa using hj
            have hload := run_loadCells_list (P := P) (w := w) ⟨G.r l', 0, none⟩ us hcell
            rw [hr.len, hc.2] at hload
            have hrr : (resVal a.tmps (.cell t u)).run P w = .ok (.agg us.toArray) w := by
              simp only [resVal, hv, asAddr, Sem.run_bind, Sem.run_pure, Result.andThen_ok, loadVar, ha, hsz, if_true, hload]
            refine ⟨.agg us.toArray :: vs, ⟨_, _, rfl, ⟨us, rfl, hr⟩, h3⟩, ?_⟩
            simp only [List.mapM_cons, Sem.run_bind, hrr, Result.andThen_ok, h4, Sem.run_pure]
          · simp at h
        · rename_i l' t' q e s n cs ys h1 h2
          split at h
          · rename_i haz
            simp only [beq_iff_eq] at haz
            have ha := (hag t u List.mem_cons_self).2 haz
            simp only [Option.some.injEq] at h; subst h
            obtain ⟨uv, hv, hg, hh, hne, hown⟩ := hE t _ h1
            obtain ⟨vs, h3, h4⟩ := ih ys (fun t u hm => hag t u (List.mem_cons_of_mem _ hm)) h2
            have hc0 : w.cell? ⟨G.r l', 0, none⟩ = some uv := by rw [cell_of_row w _ 0 _ t' (0, 0) hh]; rfl
            have hrr : (resVal a.tmps (.cell t u)).run P w = .ok uv w := by
              simp only [resVal, hv, asAddr, Sem.run_bind, Sem.run_pure, Result.andThen_ok]
              simp [loadVar, ha, hc0]
            refine ⟨uv :: vs, ⟨_, _, rfl, hown, h3⟩, ?_⟩
            simp only [List.mapM_cons, Sem.run_bind, hrr, Result.andThen_ok, h4, Sem.run_pure]
          · simp at h
        · simp at h
  intro xs h
  obtain ⟨vs, h1, h2⟩ := key fn.results.toList xs hagg h
  refine ⟨vs, h1, ?_⟩
  rw [results_eq]
  have hm : fn.results.mapM (resVal a.tmps) = Functor.map List.toArray (fn.results.toList.mapM (resVal a.tmps)) := Array.mapM_eq_mapM_toList
  rw [hm]
  simp only [Sem.run_bind, Sem.run_map, h2, Result.andThen_ok, Sem.run_pure]
  rcases vs with _ | ⟨v, _ | ⟨u, vs⟩⟩ <;> simp [packV]
theorem io_same {C : Ctx} (hx0 : ∀ b, C.X b → C.X0 b) {w' : World} {G0 G G' : Gh} {x : Iov} {cs : List PV} {u v0 : Value} (h0 : Ok C C.w0 G0 x.sv v0) (hG0 : G0.fits C C.w0) (h : Ok C w' G (x.put cs).sv u) (hG : G.fits C w') (hw : Stays C.old C.w0 w')
    (hg : ∀ b, G.g b = some 2000 → G'.g b = some 2000) (hr : G'.r 2000 = G.r 2000) : Ok C w' G' (x.put cs).sv v0 := by
  have hpin : G.r 2000 = G0.r 2000 := by rw [hG.2.1, hG0.2.1]
  cases x with
  | own e s m cs0 =>
    obtain ⟨vs0, h1, h2, h3⟩ := h0
    obtain ⟨vs, h4, h5, h6⟩ := h
    have hR : RepL w' (G'.inn 2000) cs vs := RepL.mono (fun b ⟨hb, hn⟩ => ⟨hg b hb, by rw [hr]; exact hn⟩) (fun _ _ => rfl) cs vs h6
    rcases h1.2 with ⟨hv, hm⟩ | ⟨g, cap, cur, hv, hbg, hgg, hmc, hcm, hcs, htk⟩
    · have : vs = [] := List.eq_nil_of_length_eq_zero (by have := h4.1; rw [hm] at this; simpa using this)
      subst this
      refine ⟨[], ?_, fun b hb => ?_, hR⟩
      · rw [hv, hm]; exact World.ownsRow_nil _ _ _ _
      · rw [hv] at hb; simp [Value.ownBlock] at hb
    · have hgp := h2 g (by rw [hv]; rfl)
      have hlt : g < C.w0.heap.size := (hG0.1 g 2000 hgp.2).2
      have hform := hw.form g hlt
      rw [hgg] at hform
      have hrow : ∃ cur', w'.heap[g]? = some (.cells cur' e (0, 0)) ∧ cur'.size = cur.size := by
        cases ho : w'.heap[g]? with
        | none => rw [ho] at hform; simp [rowForm] at hform
        | some o =>
          rw [ho] at hform
          cases o <;> simp [rowForm] at hform
          rename_i c e' fr
          obtain ⟨f1, f2, f3⟩ := hform
          subst f2; subst f3
          exact ⟨c, rfl, f1⟩
      obtain ⟨cur', hcur', hsz⟩ := hrow
      have htake : cur'.toList.take (m * s) = vs := by
        rcases h4.2 with ⟨hu, hm0⟩ | ⟨g', cap', cur2, hu, _, hg2, _, _, _, ht2⟩
        · have : vs = [] := List.eq_nil_of_length_eq_zero (by have := h4.1; rw [hm0] at this; simpa using this)
          rw [this, hm0]; simp
        · have hg' := (h5 g' (by rw [hu]; rfl)).1
          have : g' = g := by rw [hg', hpin, ← hgp.1]
          subst this
          rw [hcur'] at hg2
          injection hg2 with hg2
          injection hg2 with hg3
          subst hg3
          exact ht2
      have hX : C.X g := by
        have := (hG0.1 g 2000 hgp.2).1
        by_cases hx : C.X g
        · exact hx
        · exact absurd ⟨hlt, hx⟩ this
      refine ⟨vs, ⟨h4.1, .inr ⟨g, cap, cur', hv, hbg, hcur', hmc, hcm, by rw [hsz, hcs], htake⟩⟩, fun b hb => ?_, hR⟩
      rw [hv] at hb
      simp [Value.ownBlock] at hb
      subst hb
      exact ⟨by rw [hr, hpin]; exact hgp.1, hg _ (hG.2.2 _ (hx0 _ hX))⟩
  | box e cs0 =>
    obtain ⟨vs0, h1, h2, h3, h4⟩ := h0
    obtain ⟨vs, h5, h6, h7, h8⟩ := h
    refine ⟨vs, by rw [h1, hr, hpin], by rw [hr]; exact hg _ h6, by rw [hr]; exact h7, RepL.mono (fun b hb => hb.imp (fun ⟨hb, hn⟩ => ⟨hg b hb, by rw [hr]; exact hn⟩) id) (fun _ _ => rfl) cs vs h8⟩
  | vw T o n cs0 =>
    obtain ⟨o0, cap, vs0, h1, hc, ho, h2, h3, h4⟩ := h0
    obtain ⟨o1, cap1, vs, h5, hc1, ho1, h6, h7, h8⟩ := h
    refine ⟨o0, cap, vs, by rw [h1, hr, hpin], hc, ho, by rw [hr]; exact hg _ h6, by rw [hr]; exact h7, RepL.mono (fun b hb => hb.imp (fun ⟨hb, hn⟩ => ⟨hg b hb, by rw [hr]; exact hn⟩) id) (fun _ _ => rfl) cs vs h8⟩
theorem Sim.back {n : Nat} {C C' : Ctx} {σ : St} {a : Act} {w w' : World} (hS : Sim n C' σ a w) (he : C.ext C') (hD : C.D = []) (hfp : (∀ i b, C.Fp i b → C.old b) ∧ ∀ b, C.ex b → C.old b)
    (hsz : w'.heap.size = w.heap.size) (hos : w'.os = w.os) (htape : w'.tape = w.tape) (hout : w'.output = w.output) (hw : ∀ b, b ∉ C'.D → w'.heap[b]? = w.heap[b]?) :
    Stays C.old C.w0 w' ∧ ∃ G : Gh, G.fits C w' ∧ Env C σ a w' G := by
  have hnd : ∀ b, b < C.B → b ∉ C'.D := fun b hb hm => by
    rcases he.d b hm with h | h
    · rw [hD] at h; cases h
    · omega
  have hst : Stays C.old C.w0 w := he.st.trans (hS.below.mono he.old)
  refine ⟨⟨hos.trans hst.os, htape.trans hst.tape, hout.trans hst.output, by rw [hsz]; exact hst.size, fun k hk => (hw k (hnd k hk.1)).trans (hst.block k hk), fun k hk => by rw [hw k (hnd k hk)]; exact hst.form k hk⟩, ?_⟩
  obtain ⟨G, hG, hE⟩ := hS.gh
  refine ⟨G, ⟨fun b l hb => ⟨fun ho => (hG.1 b l hb).1 (he.old b ho), by rw [hsz]; exact (hG.1 b l hb).2⟩, hG.2.1.trans he.pin, fun b hb => hG.2.2 b (by rw [he.x0]; exact hb)⟩, fun s x hx => ?_⟩
  have hlab : ∀ b l, G.g b = some l → w'.heap[b]? = w.heap[b]? := fun b l hb => hw b fun hm =>
    (hG.1 b l hb).1 ⟨(Array.getElem?_eq_some_iff.1 (C'.dok b hm).1).1, (C'.dok b hm).2⟩
  exact Ok.keepC he.fp.symm he.ex.symm (fun i b hb => hw b (hnd b (hfp.1 i b (by rw [← he.fp]; exact hb)).1)) (fun b hb => hw b (hnd b (hfp.2 b (by rw [← he.ex]; exact hb)).1)) x _ (.inl he.size)
    (fun l _ => ⟨rfl, fun _ h => h, fun b hb => hlab b l hb⟩) (hE s x hx)
theorem leaves_marks {P : Program} {fn : Func} {tmps : Array Value} {R : Ending → World → Prop} : ∀ (D : List Nat) (w : World), D.Nodup → (∀ b ∈ D, w.heap[b]? = some (.deferred (some []))) →
    (∀ w' : World, w'.heap.size = w.heap.size → w'.os = w.os → w'.tape = w.tape → w'.output = w.output → (∀ b, b ∉ D → w'.heap[b]? = w.heap[b]?) → ∃ v, (results fn tmps).run P w' = .ok v w' ∧ R (.returned v) w') →
    LeavesInM Fence.wide 0 P fn tmps R (D.map fun b => { target := .collected b, args := #[] }) .returning w
  | [], w, _, _, h => h w rfl rfl rfl rfl fun _ _ => rfl
  | b :: D, w, hn, hd, h => by
    have hb := hd b List.mem_cons_self
    have hn' := List.nodup_cons.1 hn
    refine ⟨by simp, .inl ⟨b, _, rfl, run_takeDeferred hb, ?_⟩⟩
    refine leaves_marks D _ hn'.2 (fun c hc => ?_) (fun w' h1 h2 h3 h4 h5 => ?_)
    · have hne : c ≠ b := fun e => hn'.1 (e ▸ hc)
      rw [World.putObj_heap_other hne]; exact hd c (List.mem_cons_of_mem _ hc)
    · refine h w' (h1.trans (by simp [World.putObj])) h2 h3 h4 fun c hc => ?_
      simp only [List.mem_cons, not_or] at hc
      rw [h5 c hc.2, World.putObj_heap_other hc.1]
def starts (exm : Bool) (io : Option Iov) (ps : List PV) : St := match io with
  | none => inits exm 0 ps
  | some x => (0, x.sv) :: inits exm 1 ps
theorem mcalls_of_code {P : Program} {f : FuncId} {fn : Func} {c : Code} {n : Nat} {exm : Bool} {io : Option Iov} {ps : List PV} {R : List SV → List PV → Prop} (az : TypeId → Nat) (hf : P.funcs[f]? = some fn) (hname : (fn.name == "runtime.NumGoroutine") = false)
    (hb : fn.body = some c) (hn : fn.ntmps = n) (hps : ps.length + 1 ≤ n) (hagg : ∀ t u, ResultVar.cell t u ∈ fn.results.toList → ResTy P u (az u))
    (hc : codeT P n c (starts exm io ps) (Ends az fn io R)) : MCalls P f exm io ps R := by
  refine ⟨enters_of hf hname hb, fun C G0 v0 vs hpl hfp hexm hG0 hio hargs => (callsIn_wide (n := 0)).1 (callsIn_of_wp_marks hf hb trivial ?_)⟩
  have hlen := hargs.length
  let args := if io.isSome then v0 :: vs else vs
  have halen : args.length ≤ n := by
    show (if io.isSome then v0 :: vs else vs).length ≤ n
    split <;> (try simp) <;> omega
  have hget : ∀ s v, args[s]? = some v → (args.toArray ++ Array.replicate (fn.ntmps - args.toArray.size) undef).getD s undef = v := by
    intro s v hv
    have hlt : s < args.length := (List.getElem?_eq_some_iff.1 hv).1
    simp only [Array.getD_eq_getD_getElem?]
    rw [Array.getElem?_append_left (by simpa using hlt)]
    simp [hv]
  have hpar : ∀ (i s : Nat) (x : SV), (inits exm i ps).at s = some x → RepArgs C.w0 C.Fp i ps vs → ∃ v, vs[s - i]? = some v ∧ i ≤ s ∧ Ok C C.w0 G0 x v := by
    intro i s x hx ha
    obtain ⟨p, his, hp, rfl⟩ := inits_at ps i s x hx
    obtain ⟨v, hv, hr⟩ := ha.get (s - i) p hp
    rw [show i + (s - i) = s by omega] at hr
    refine ⟨v, hv, his, ?_⟩
    unfold PV.start
    split
    · rename_i hfl; exact Rep.flat p v hfl hr
    · split
      · rename_i hx; exact Rep.mono (fun b hb => hexm hx s b hb) (fun _ _ => rfl) p v hr
      · exact hr
  have hE0 : Env C (starts exm io ps) { tmps := args.toArray ++ Array.replicate (fn.ntmps - args.toArray.size) undef, defers := [] } C.w0 G0 := by
    intro s x hx
    cases io with
    | none =>
      obtain ⟨v, hv, _, hok⟩ := hpar 0 s x hx (by simpa using hargs)
      have : args[s]? = some v := by simpa [args] using hv
      rw [hget s v this]; exact hok
    | some y =>
      simp only [starts, St.at] at hx
      split at hx
      · rename_i he; subst he; cases hx
        have : args[0]? = some v0 := by simp [args]
        rw [hget 0 v0 this]; exact hio y rfl
      · rename_i hne
        obtain ⟨v, hv, h1, hok⟩ := hpar 1 s x hx (by simpa using hargs)
        have : args[s]? = some v := by
          have hs : s = (s - 1) + 1 := by omega
          rw [hs]; simpa [args] using hv
        rw [hget s v this]; exact hok
  have hS : Sim n C (starts exm io ps) { tmps := args.toArray ++ Array.replicate (fn.ntmps - args.toArray.size) undef, defers := [] } C.w0 :=
    ⟨hfp, Stays.refl _ _, by simp [Ctx.marks, hpl.1], by simp [hn]; omega, G0, hG0, hE0⟩
  have hcw := hc C _ C.w0 hS 0
  rw [hpl.2.1] at hcw
  refine wpIn_mono hcw ?_
  rintro e a' w1 ⟨C', σ', hext, h1, h2, _⟩
  have fin : (∃ xs rs cs, σ'.res az fn.results.toList = some xs ∧ outs 0 xs = some rs ∧ (SV.labRL xs).Nodup ∧ (SV.labRL xs).all (· != 2000) = true ∧ xs.length ≤ 100 ∧ ioEnd io cs σ' ∧ R rs cs) →
      LeavesInM Fence.wide 0 P fn a'.tmps (fun e w' => ∃ v rs cs', e = .returned v ∧ R rs cs' ∧ Stays C.old C.w0 w' ∧
      ∃ (G : Gh) (us : List Value), G.fits C w' ∧ OkL C w' G rs us ∧ v = packV us ∧ rs.all SV.ret = true ∧ (∀ x ∈ rs, ∀ j, x.rl = some j → j ≠ 2000) ∧ ∀ x, io = some x → Ok C w' G (x.put cs').sv v0) a'.defers .returning w1 := by
    rintro ⟨xs, rs, cs, hx, ho, hnd, hne, hxl, hfin, hR⟩
    rw [h2.dfs]
    refine leaves_marks C'.D w1 C'.dn (fun b hb => ?_) (fun w' hsz hos htape hout hw' => ?_)
    · rw [h2.below.block b ⟨(Array.getElem?_eq_some_iff.1 (C'.dok b hb).1).1, (C'.dok b hb).2⟩]; exact (C'.dok b hb).1
    have hback := h2.back hext hpl.1 hfp hsz hos htape hout hw'
    obtain ⟨hbel, G, hG, hE⟩ := hback
    have hne' : ∀ l ∈ SV.labRL xs, l ≠ 2000 := by simpa using hne
    obtain ⟨us, hu, hrun⟩ := res_run (P := P) hE fn hagg hx
    have hlab : ∀ (i l : Nat), (xs[i]?).bind SV.rl = some l → l ≠ 2000 := fun i l hi => hne' l (rl_labelsL xs i l hi)
    let G' : Gh := ⟨fun b => if G.g b = some 2000 then some 2000 else (G.g b).bind (labelAt 0 xs), fun j => if j = 2000 then G.r 2000 else G.r (((xs[j]?).bind SV.rl).getD 0)⟩
    have hr2 : G'.r 2000 = G.r 2000 := by simp [G']
    have hg2 : ∀ b, G.g b = some 2000 → G'.g b = some 2000 := fun b hb => by simp [G', hb]
    have hG' : G'.fits C w' := by
      refine ⟨fun b l hb => ?_, hr2.trans hG.2.1, fun b hb => hg2 b (hG.2.2 b hb)⟩
      · have hb' : (if G.g b = some 2000 then some 2000 else (G.g b).bind (labelAt 0 xs)) = some l := hb
        split at hb'
        · rename_i hc; exact hG.1 b _ hc
        · obtain ⟨m, hm, _⟩ := Option.bind_eq_some_iff.1 hb'
          exact hG.1 b m hm
    refine ⟨_, hrun, _, rs, cs, rfl, hR, hbel, G', us, hG', ?_, rfl, outs_ret xs rs 0 ho, (fun x hx j hj => by have := outs_lt xs rs 0 ho x hx j hj; omega), ?_⟩
    · refine outs_ok xs rs 0 us ho hu (fun i l hi => ⟨?_, fun m hm b hb => ?_⟩) ?_ hr2
      · simp only [Nat.zero_add]
        have hi2 : i ≠ 2000 ∨ i = 2000 := by omega
        have hval : ((xs[i]?).bind SV.rl).getD 0 = l := by rw [hi]; rfl
        show (if i = 2000 then G.r 2000 else G.r (((xs[i]?).bind SV.rl).getD 0)) = G.r l
        have hlt : i ≠ 2000 := by
          have hsome : (xs[i]?).isSome := by
            cases hxi : xs[i]? with
            | none => rw [hxi] at hi; simp at hi
            | some x => rfl
          have : i < xs.length := by
            by_cases h : i < xs.length
            · exact h
            · rw [List.getElem?_eq_none (by omega)] at hsome; cases hsome
          omega
        rw [if_neg hlt, hval]
      · show (if G.g b = some 2000 then some 2000 else (G.g b).bind (labelAt 0 xs)) = _
        rw [hb, if_neg (fun e => hne' m (mem_labelsL xs i m hm) (Option.some.inj e))]
        exact labelAt_spec xs 0 i m hnd hm
      · exact hg2
    · intro x hx'
      subst hx'
      have h0 : Ok C w' G (x.put cs).sv (a'.tmps.getD 0 undef) := hE 0 _ (by simpa [ioEnd] using hfin)
      exact io_same hpl.2.2 (hio x rfl) hG0 h0 hG hbel hg2 hr2
  cases e <;> first
    | exact fin h1
    | exact h1.elim
theorem pcalls_of_code {P : Program} {f : FuncId} {fn : Func} {c : Code} {n : Nat} {ps : List PV} {R : List SV → Prop} (az : TypeId → Nat) (hf : P.funcs[f]? = some fn) (hname : (fn.name == "runtime.NumGoroutine") = false)
    (hb : fn.body = some c) (hn : fn.ntmps = n) (hps : ps.length + 1 ≤ n) (hagg : ∀ t u, ResultVar.cell t u ∈ fn.results.toList → ResTy P u (az u))
    (hc : codeT P n c (inits false 0 ps) (Ends az fn none fun rs _ => R rs)) : PCalls P f ps R := mcalls_of_code az hf hname hb hn hps hagg hc
end Go.Proofs.YtfagllolcalfiabDoor
