/- Methods' values: made of a receiver that a slot holds, and called. Own work; no conditions; nothing here is about one program. -/
import Derived.Test.YtfagllolcalfiaaDoorPwVz
namespace Go.Proofs.YtfagllolcalfiaaDoor
open Go.RowKit
set_option linter.unusedVariables false
set_option linter.unusedSimpArgs false

/-- A method's value that a slot holds: the function, its receiver, and that as a slot would hold it. -/
def SV.mths : SV → Option (FuncId × List PV × List SV)
  | .val (.mth f cs) => some (f, cs, cs.map .val)
  | .par i (.mth f cs) => some (f, cs, cs.map (.par i))
  | .ext (.mth f cs) => some (f, cs, cs.map .ext)
  | .bor l (.mth f cs) => some (f, cs, cs.map (.bor l))
  | .frz l (.mth f cs) => some (f, cs, cs.map (.frz l))
  | _ => none

theorem mths_ok {C : Ctx} {w : World} {G : Gh} {sf : SV} {v : Value} {f : FuncId} {cs : List PV} {fs : List SV} (h : Ok C w G sf v) (hc : sf.mths = some (f, cs, fs)) :
    ∃ vs, v = .func (.func f) vs.toArray #[] ∧ RepL w (foot C G sf) cs vs ∧ fs.length = cs.length ∧ ∀ s ∈ fs, foot C G s = foot C G sf := by
  have key : ∀ (F : Nat → Prop) (k : PV → SV) (f0 : FuncId) (cs0 : List PV), Rep w F (.mth f0 cs0) v → (∀ p, foot C G (k p) = F) → some (f0, cs0, cs0.map k) = some (f, cs, fs) →
      ∃ vs, v = .func (.func f) vs.toArray #[] ∧ RepL w F cs vs ∧ fs.length = cs.length ∧ ∀ s ∈ fs, foot C G s = F := by
    intro F k f0 cs0 hr hk he
    simp only [Option.some.injEq, Prod.mk.injEq] at he
    obtain ⟨rfl, rfl, rfl⟩ := he
    obtain ⟨vs, hv, hl⟩ := hr
    refine ⟨vs, hv, hl, by simp, fun s hs => ?_⟩
    obtain ⟨p, _, rfl⟩ := List.mem_map.1 hs
    exact hk p
  cases sf with
  | val p => cases p with
    | mth f0 cs0 => exact key _ .val f0 cs0 h (fun _ => rfl) (by simpa only [SV.mths] using hc)
    | _ => simp [SV.mths] at hc
  | par i p => cases p with
    | mth f0 cs0 => exact key _ (.par i) f0 cs0 h (fun _ => rfl) (by simpa only [SV.mths] using hc)
    | _ => simp [SV.mths] at hc
  | ext p => cases p with
    | mth f0 cs0 => exact key _ .ext f0 cs0 h (fun _ => rfl) (by simpa only [SV.mths] using hc)
    | _ => simp [SV.mths] at hc
  | bor l p => cases p with
    | mth f0 cs0 => exact key _ (.bor l) f0 cs0 h (fun _ => rfl) (by simpa only [SV.mths] using hc)
    | _ => simp [SV.mths] at hc
  | frz l p => cases p with
    | mth f0 cs0 => exact key _ (.frz l) f0 cs0 h (fun _ => rfl) (by simpa only [SV.mths] using hc)
    | _ => simp [SV.mths] at hc
  | _ => simp [SV.mths] at hc

/-- Something that hangs on what a slot's value hangs on. -/
def SV.asB : SV → PV → Option SV
  | .val _, p => some (.val p)
  | .par i _, p => some (.par i p)
  | .ext _, p => some (.ext p)
  | .bor l _, p => some (.bor l p)
  | .own l _ _ _ _, p => some (.bor l p)
  | .frz l _, p => some (.bor l p)
  | _, _ => none

theorem asB_ok {C : Ctx} {w : World} {G : Gh} {s s2 : SV} {p : PV} {u : Value} (hs : s.asB p = some s2) (h : Rep w (foot C G s) p u) : Ok C w G s2 u := by
  cases s <;> simp only [SV.asB, Option.some.injEq, reduceCtorEq] at hs <;> subst hs
  · exact h
  · exact h
  · exact h
  · exact h
  · exact Rep.mono (fun b hb => .inl hb) (fun _ _ => rfl) p u h
  · exact Rep.mono (fun b hb => .inl hb) (fun _ _ => rfl) p u h

section
variable {P : Program} {n : Nat} {σ : St} {K : St → Prop} {d : Nat} {ty : TypeId} {pos : String} {af : Array Edge} {gd : Option (Nat × Bool)}

/-- A method's value is made. -/
theorem q_makeMth {f : FuncId} {x : Operand} {s s2 : SV} {p : PV} (hx : σ.ev x = some s) (hp : s.pv = some p) (ho : p.one = true) (hs : s.asB (.mth f [p]) = some s2) (hd : d < n) : quietT P n ⟨some d, .makeFunc (.func f) #[x] #[], ty, pos, af, gd⟩ σ d s2 := by
  refine ⟨rfl, hd, fun C a w G hS hG hE => ⟨.func (.func f) #[a.eval x] #[], fun w2 _ => by simp [execOp, Instr.makeFunc], ?_⟩⟩
  have h1 := (hE.ev hx).rep hp
  refine asB_ok hs ?_
  simp only [Rep]
  exact ⟨[a.eval x], rfl, _, _, rfl, ho, h1, rfl⟩

/-- A call of a method's value that hands back one plain value. -/
theorem op_callW {fo : Operand} {sf : SV} {f : FuncId} {cs : List PV} {fs : List SV} {xs : List Operand} {ts : Array TypeId} {ps : List PV} {R : PV → Prop} (ss : List SV) (hf : σ.ev fo = some sf) (hc : sf.mths = some (f, cs, fs))
    (hss : σ.evs xs = some ss) (hps : pvs ss = some ps) (hcall : PCalls P f (cs ++ ps) (fun rs => ∃ p, rs = [.val p] ∧ R p)) (hd : d < n) (hK : ∀ p, R p → K ((d, .val p) :: σ)) :
    opT P n ⟨some d, .call { callee := .value fo, args := xs.toArray, argTypes := ts }, ty, pos, af, gd⟩ σ K := by
  intro C a w hS K' Q hK'
  obtain ⟨G, hG, hE⟩ := hS.gh
  have hB : C.B ≤ w.heap.size := hS.below.size
  obtain ⟨vs, hv, hcv, hfl, hff⟩ := mths_ok (hE.ev hf) hc
  let ss' := fs ++ ss
  let C' := calleeC C G w false none 0 ss' (calleeX_gl hS hG false _ ss' (Below.refl _ _)) (fun b hb => (hG.1 b 0 hb).2)
  have hfeet : ∀ i b, feet C G ss' 0 i b → C'.old b := by
    intro i b hb
    unfold feet at hb
    rw [if_neg (by omega)] at hb
    cases hsi : ss'[i - 0]? with
    | none => simp only [hsi] at hb
    | some s =>
      simp only [hsi] at hb
      exact ⟨(foot_old hS.fp hG hB hb).1, fun h => by cases h.1⟩
  have hfeq : ∀ j s, ss'[j]? = some s → C'.Fp j = foot C G s := fun j s hj => by
    show feet C G ss' 0 j = _
    unfold feet
    rw [if_neg (by omega), show j - 0 = j by omega, hj]
  have hvl : vs.length = fs.length := by rw [hcv.length, hfl]
  have hargs : RepArgs w C'.Fp 0 (cs ++ ps) (vs ++ xs.map a.eval) := by
    refine repArgs_app (repArgs_of hcv (fun j hj => ?_)) (evs_ok hE hss hps _ _ (fun j s hj => ?_))
    · have hjf : j < fs.length := by rw [hfl]; exact hj
      rw [Nat.zero_add, hfeq j fs[j] (by rw [List.getElem?_append_left hjf]; exact List.getElem?_eq_getElem hjf)]
      exact hff _ (List.getElem_mem hjf)
    · rw [Nat.zero_add, ← hfl]
      exact hfeq _ s (by rw [List.getElem?_append_right (by omega), Nat.add_sub_cancel_left]; exact hj)
  have hex : ∀ b, C'.ex b → C'.old b := fun b hb => by
    rcases hb with hb | ⟨he, _⟩
    · exact ⟨Nat.lt_of_lt_of_le (hS.fp.2 b hb).1 hB, fun h => by cases h.1⟩
    · cases he
  have hrun := hcall.run C' (calleeG G none 0) undef (vs ++ xs.map a.eval) ⟨rfl, rfl, fun _ h => h⟩ ⟨hfeet, hex⟩ (fun h => by cases h) ⟨fun b q hb => by simp [calleeG] at hb, rfl, fun b hb => by cases hb.1⟩ (fun x hx => by cases hx) hargs
  unfold Oper.wp
  have hop : (execOp a.eval ⟨some d, .call { callee := .value fo, args := xs.toArray, argTypes := ts }, ty, pos, af, gd⟩).run P w = .ok (.enter f (vs ++ xs.map a.eval).toArray) w := by
    have := hcall.ent (vs ++ xs.map a.eval).toArray w
    simp [execOp, resolve, hv, Deferred.ofValue, invoke] at this ⊢
    exact this
  rw [hop, Oper.upon_enter]
  refine Calls.mono hrun ?_
  rintro e w3 ⟨v, rs, cs', rfl, ⟨p, rfl, hR⟩, hst, G', us, _, hL, hvv, _, _, _⟩
  obtain ⟨u, r, hu, h1, h2⟩ := hL
  simp only [OkL] at h2
  subst h2; subst hu
  have hv3 : v = u := hvv
  subst hv3
  have hbel : Below w.heap.size w w3 := (hst.mono (S' := (· < w.heap.size)) (fun k hk => ⟨hk, fun h => by cases h.1⟩)).below
  have hS3 := hS.later hbel
  obtain ⟨G3, hG3, hE3⟩ := hS3.gh
  exact hK' _ _ _ (hK p hR) (hS3.put hG3 hE3 hd h1)

/-- An element of an array that is a value, of a type of more than one cell. -/
theorem q_index_arrA {t len size e : Nat} (h1 : P.underlying t = some (.array len e)) (ht : AggTy P e size) {x y : Operand} {k : IntKind} {i : Int} {cs : List PV}
    (hx : σ.ev x = some (.val (.agg cs))) (hy : σ.ev y = some (.val (.int k i))) (h2 : 0 ≤ i) (h3 : i < len) (hd : d < n) : quietT P n ⟨some d, .index t x y, ty, pos, af, gd⟩ σ d (.val (.agg ((cs.drop (i.toNat * size)).take size))) := by
  refine ⟨rfl, hd, fun C a w G hS hG hE => ?_⟩
  have e1 := hE.ev hx
  have e2 := hE.ev hy
  simp only [Ok, Rep] at e1 e2
  obtain ⟨vs, hv, hr⟩ := e1
  obtain ⟨v, h4, h5⟩ := run_part_agg (P := P) ht hr (i.toNat * size)
  have hcc : 0 ≤ i ∧ i < (len : Int) := ⟨h2, h3⟩
  refine ⟨v, fun w2 _ => ?_, h5⟩
  simp [execOp, hv, e2, Instr.index, run_underlying h1, asIntOf, hcc, ht.2, h4]
end
end Go.Proofs.YtfagllolcalfiaaDoor
