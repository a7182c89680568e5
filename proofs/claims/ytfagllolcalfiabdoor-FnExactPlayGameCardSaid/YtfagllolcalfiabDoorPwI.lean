/- Parts of slices, structs and arrays; regions that draw their order; labels renamed; a slice of slices. Own work; no conditions; nothing here is about one program. -/
import Derived.Test.YtfagllolcalfiabDoorPwH
import Derived.Deep.Quiet
namespace Go.Proofs.YtfagllolcalfiabDoor
open Go.RowKit
section
variable {P : Program} {n : Nat} {σ : St} {K : St → Prop} {d : Nat} {ty : TypeId} {pos : String} {af : Array Edge} {gd : Option (Nat × Bool)}
def SV.part (m : Nat) (cs : List PV) : SV → Option SV
  | .val (.sl _ _) => some (.val (.sl m cs))
  | .par i _ => some (.par i (.sl m cs))
  | .ext _ => some (.ext (.sl m cs))
  | .bor l _ => some (.bor l (.sl m cs))
  | .own l _ _ _ _ => some (.bor l (.sl m cs))
  | .frz l _ => some (.frz l (.sl m cs))
  | _ => none
theorem q_slice_sl {t e size bytes : Nat} {zc : List PV} (hty : SlTy P t e size bytes zc) {x : Operand} {lo hi : Option Operand} {s r : SV} {m : Nat} {cs : List PV} {i j : Int} (hx : σ.ev x = some s) (hs : s.pv = some (.sl m cs))
    (hl : match lo with | none => i = 0 | some l => ∃ k, σ.ev l = some (.val (.int k i))) (hh : match hi with | none => j = m | some h => ∃ k, σ.ev h = some (.val (.int k j)))
    (h0 : 0 ≤ i) (h1 : i ≤ j) (h2 : j ≤ m) (hr : s.part (j.toNat - i.toNat) ((cs.drop (i.toNat * size)).take ((j.toNat - i.toNat) * size)) = some r) (hd : d < n) : quietT P n ⟨some d, .slice t x lo hi none, ty, pos, af, gd⟩ σ d r := by
  refine ⟨rfl, hd, fun C a w G hS hG hE => ?_⟩
  obtain ⟨g1, ii, z, g2, g3, g4, _⟩ := hty
  have hR := (hE.ev hx).rep hs
  have hlb : ∀ (w2 : World) (y : Nat), i ≤ y → ∀ code, match lo with | none => True | some l => (Instr.sliceBound (a.eval l) y code).run P w2 = .ok i.toNat w2 := by
    intro w2 y hy code
    cases lo with
    | none => trivial
    | some l =>
      obtain ⟨k, hk⟩ := hl
      have e2 := hE.ev hk
      simp only [Ok, Rep] at e2
      simp [Instr.sliceBound, asIntOf, e2, h0, hy]
  have hhb : ∀ (w2 : World) (y : Nat), j ≤ y → ∀ code, match hi with | none => True | some h => (Instr.sliceBound (a.eval h) y code).run P w2 = .ok j.toNat w2 := by
    intro w2 y hy code
    cases hi with
    | none => trivial
    | some h =>
      obtain ⟨k, hk⟩ := hh
      have e2 := hE.ev hk
      simp only [Ok, Rep] at e2
      simp [Instr.sliceBound, asIntOf, e2, show 0 ≤ j by omega, hy]
  have key : ∃ v, (∀ w2, (execOp a.eval ⟨some d, .slice t x lo hi none, ty, pos, af, gd⟩).run P w2 = .ok (.value v) w2) ∧ ∀ F, Rep w F (.sl m cs) (a.eval x) → Rep w F (.sl (j.toNat - i.toNat) ((cs.drop (i.toNat * size)).take ((j.toNat - i.toNat) * size))) v := by
    have hrun : ∀ (b : Option Addr) (cap : Nat), a.eval x = .slice b m cap → m ≤ cap → ∀ w2, (execOp a.eval ⟨some d, .slice t x lo hi none, ty, pos, af, gd⟩).run P w2 =
        .ok (.value (.slice (if cap = i.toNat then b else b.map (·.add (i.toNat * size))) (j.toNat - i.toNat) (cap - i.toNat))) w2 := by
      intro b cap hv hmc w2
      have q1 := hlb w2 j.toNat (by omega)
      have q2 := hhb w2 cap (by omega)
      have q3 := hlb w2 m (by omega)
      cases lo <;> cases hi <;> simp only at hl hh q1 q2 q3
      · subst hl; subst hh
        simp [execOp, hv, Instr.sliceAt, Instr.slice, Instr.sliceBounds, run_underlying g1, sizeOf, typeInfo, g2]
      · subst hl
        simp [execOp, hv, Instr.sliceAt, Instr.slice, Instr.sliceBounds, run_underlying g1, sizeOf, typeInfo, g2, q2]
      · subst hh
        simp [execOp, hv, Instr.sliceAt, Instr.slice, Instr.sliceBounds, run_underlying g1, sizeOf, typeInfo, g2, g4, q3]
      · simp [execOp, hv, Instr.sliceAt, Instr.slice, Instr.sliceBounds, run_underlying g1, sizeOf, typeInfo, g2, g4, q1, q2]
    simp only [Rep] at hR
    rcases hR with ⟨hv, hm, hcs⟩ | ⟨b, off, cap, vs, hv, hb, hmc, hcell, hrr⟩
    · subst hm; subst hcs
      have hi0 : i = 0 := by omega
      have hj0 : j = 0 := by omega
      subst hi0; subst hj0
      exact ⟨_, fun w2 => hrun none 0 hv (Nat.le_refl _) w2, fun F _ => by simp [Rep]⟩
    · refine ⟨_, fun w2 => hrun _ cap hv hmc w2, fun F hF => ?_⟩
      simp only [Rep] at hF
      rcases hF with ⟨hv', _⟩ | ⟨b', off', cap', vs', hv', hb', hmc', hcell', hrr'⟩
      · rw [hv] at hv'; cases hv'
      · rw [hv] at hv'
        injection hv' with e1 e2 e3
        injection e1 with e1
        injection e1 with e4 e5
        subst e4; subst e5; subst e3
        simp only [Rep]
        right
        by_cases hc : cap = i.toNat
        · rw [if_pos hc]
          have hz : j.toNat - i.toNat = 0 := by omega
          refine ⟨b, off, cap - i.toNat, [], rfl, hb', by omega, fun j u hu => by simp at hu, ?_⟩
          rw [hz, Nat.zero_mul]; rfl
        · rw [if_neg hc]
          refine ⟨b, off + i.toNat * size, cap - i.toNat, (vs'.drop (i.toNat * size)).take ((j.toNat - i.toNat) * size), by simp [Addr.add_lit], hb', by omega, fun q u hu => ?_, (hrr'.drop _).take _⟩
          rw [Nat.add_assoc]
          refine hcell' _ u ?_
          rw [List.getElem?_take] at hu
          split at hu
          · simpa using hu
          · cases hu
  obtain ⟨v, h3, h4⟩ := key
  refine ⟨v, fun w2 _ => h3 w2, ?_⟩
  have e1 := hE.ev hx
  cases s with
  | val p =>
    simp only [SV.pv, Option.some.injEq] at hs; subst hs
    simp only [SV.part, Option.some.injEq] at hr; subst hr
    exact h4 _ e1
  | par q p =>
    simp only [SV.pv, Option.some.injEq] at hs; subst hs
    simp only [SV.part, Option.some.injEq] at hr; subst hr
    exact h4 _ e1
  | ext p =>
    simp only [SV.pv, Option.some.injEq] at hs; subst hs
    simp only [SV.part, Option.some.injEq] at hr; subst hr
    exact h4 _ e1
  | bor l p =>
    simp only [SV.pv, Option.some.injEq] at hs; subst hs
    simp only [SV.part, Option.some.injEq] at hr; subst hr
    exact h4 _ e1
  | frz l p =>
    simp only [SV.pv, Option.some.injEq] at hs; subst hs
    simp only [SV.part, Option.some.injEq] at hr; subst hr
    exact h4 _ e1
  | own l e' s' m' cs' =>
    have h5 := e1.rep hs
    simp only [SV.part, Option.some.injEq] at hr; subst hr
    exact Rep.mono (fun b hb => .inl hb) (fun _ _ => rfl) _ _ (h4 _ h5)
  | _ => simp [SV.pv] at hs
theorem run_part_one {t : TypeId} (ht : OneTy P t) {w : World} {F : Nat → Prop} {cs : List PV} {vs : List Value} (hr : RepL w F cs vs) {off : Nat} {c : PV} (hc : cs[off]? = some c) :
    ∃ v, (∀ w2, (part t vs.toArray off).run P w2 = .ok v w2) ∧ Rep w F c v := by
  obtain ⟨v, h1, _, h2⟩ := hr.get off c hc
  exact ⟨v, fun w2 => by simp [part, ht.1, h1], h2⟩
theorem run_part_agg {t : TypeId} {k : Nat} (ht : AggTy P t k) {w : World} {F : Nat → Prop} {cs : List PV} {vs : List Value} (hr : RepL w F cs vs) (off : Nat) :
    ∃ v, (∀ w2, (part t vs.toArray off).run P w2 = .ok v w2) ∧ Rep w F (.agg ((cs.drop off).take k)) v := by
  refine ⟨.agg ((vs.drop off).take k).toArray, fun w2 => ?_, ⟨_, rfl, (hr.drop off).take k⟩⟩
  simp [part, ht.1, ht.2]
theorem q_field {t f off : Nat} {fs : Array Field} {fd : Field} (h1 : P.underlying t = some (.struct fs)) (h2 : fs[f]? = some fd) (h3 : fd.offset = off) (ht : OneTy P fd.type) {x : Operand} {cs : List PV} {c : PV}
    (hx : σ.ev x = some (.val (.agg cs))) (hc : cs[off]? = some c) (hd : d < n) : quietT P n ⟨some d, .field t x f, ty, pos, af, gd⟩ σ d (.val c) := by
  refine ⟨rfl, hd, fun C a w G hS hG hE => ?_⟩
  have e1 := hE.ev hx
  simp only [Ok, Rep] at e1
  obtain ⟨vs, hv, hr⟩ := e1
  obtain ⟨v, h4, h5⟩ := run_part_one ht hr hc
  refine ⟨v, fun w2 _ => ?_, h5⟩
  subst h3
  simp [execOp, hv, Instr.field, run_underlying h1, h2, asAgg, h4]
theorem q_field_agg {t f off k : Nat} {fs : Array Field} {fd : Field} (h1 : P.underlying t = some (.struct fs)) (h2 : fs[f]? = some fd) (h3 : fd.offset = off) (ht : AggTy P fd.type k) {x : Operand} {cs : List PV}
    (hx : σ.ev x = some (.val (.agg cs))) (hd : d < n) : quietT P n ⟨some d, .field t x f, ty, pos, af, gd⟩ σ d (.val (.agg ((cs.drop off).take k))) := by
  refine ⟨rfl, hd, fun C a w G hS hG hE => ?_⟩
  have e1 := hE.ev hx
  simp only [Ok, Rep] at e1
  obtain ⟨vs, hv, hr⟩ := e1
  subst h3
  obtain ⟨v, h4, h5⟩ := run_part_agg (P := P) ht hr fd.offset
  refine ⟨v, fun w2 _ => ?_, h5⟩
  simp [execOp, hv, Instr.field, run_underlying h1, h2, asAgg, h4]
theorem q_index_arr {t len size e : Nat} (h1 : P.underlying t = some (.array len e)) (hsz : ∀ w, (sizeOf e).run P w = .ok 1 w) (ht : OneTy P e) {x y : Operand} {k : IntKind} {i : Int} {cs : List PV} {c : PV}
    (hx : σ.ev x = some (.val (.agg cs))) (hy : σ.ev y = some (.val (.int k i))) (h2 : 0 ≤ i) (h3 : i < len) (hc : cs[i.toNat]? = some c) (hd : d < n) (_hs : size = 1) : quietT P n ⟨some d, .index t x y, ty, pos, af, gd⟩ σ d (.val c) := by
  refine ⟨rfl, hd, fun C a w G hS hG hE => ?_⟩
  have e1 := hE.ev hx
  have e2 := hE.ev hy
  simp only [Ok, Rep] at e1 e2
  obtain ⟨vs, hv, hr⟩ := e1
  obtain ⟨v, h4, h5⟩ := run_part_one ht hr hc
  have hcc : 0 ≤ i ∧ i < (len : Int) := ⟨h2, h3⟩
  refine ⟨v, fun w2 _ => ?_, h5⟩
  simp [execOp, hv, e2, Instr.index, run_underlying h1, asIntOf, hcc, hsz, h4]
/-! ### A region that draws its order, whose operations only compute, read, and call what hands back plain values -/
mutual
def PV.toV : PV → Value
  | .bool b => .bool b
  | .int k n => .int k n
  | .str s => .string (.mk s.toArray)
  | .agg cs => .agg (PV.toVs cs).toArray
  | .sl _ _ => undef
  | .ptr _ => undef
  | .clo f cs => .func (.func f) #[] (PV.toVs cs).toArray
  | .cst k => cstV k
  | .ifc => undef
  | .mth f cs => .func (.func f) (PV.toVs cs).toArray #[]
  | .mp _ => undef
def PV.toVs : List PV → List Value
  | [] => []
  | c :: cs => c.toV :: PV.toVs cs
end
mutual
theorem Rep.toV {w : World} {F : Nat → Prop} : ∀ (p : PV) (v : Value), p.flat = true → Rep w F p v → v = p.toV
  | .bool b, v, _, h => by simpa [Rep, PV.toV] using h
  | .int k n, v, _, h => by simpa [Rep, PV.toV] using h
  | .str s, v, _, h => by simpa [Rep, PV.toV] using h
  | .sl n cs, v, hf, _ => by simp [PV.flat] at hf
  | .agg cs, v, hf, h => by
    simp only [Rep] at h
    obtain ⟨vs, hv, hr⟩ := h
    rw [hv, PV.toV, RepL.toVs cs vs (by simpa [PV.flat] using hf) hr]
  | .ptr cs, v, hf, _ => by simp [PV.flat] at hf
  | .clo f cs, v, hf, h => by
    simp only [Rep] at h
    obtain ⟨vs, hv, hr⟩ := h
    rw [hv, PV.toV, RepL.toVs cs vs (by simpa [PV.flat] using hf) hr]
  | .cst k, v, _, h => by simpa [Rep, PV.toV] using h
  | .ifc, v, hf, _ => by simp [PV.flat] at hf
  | .mth f cs, v, hf, h => by
    simp only [Rep] at h
    obtain ⟨vs, hv, hr⟩ := h
    rw [hv, PV.toV, RepL.toVs cs vs (by simpa [PV.flat] using hf) hr]
  | .mp cs, v, hf, _ => by simp [PV.flat] at hf
theorem RepL.toVs {w : World} {F : Nat → Prop} : ∀ (cs : List PV) (vs : List Value), PV.flatL cs = true → RepL w F cs vs → vs = PV.toVs cs
  | [], vs, _, h => by simpa [RepL, PV.toVs] using h
  | c :: cs, vs, hf, h => by
    simp only [RepL] at h
    simp only [PV.flatL, Bool.and_eq_true] at hf
    obtain ⟨v, r, hv, ho, h1, h2⟩ := h
    rw [hv, PV.toVs, Rep.toV c v hf.1 h1, RepL.toVs cs r hf.2 h2]
end
theorem Sim.later {C : Ctx} {a : Act} {w w2 : World} (hS : Sim n C σ a w) (h : Below w.heap.size w w2) : Sim n C σ a w2 := by
  obtain ⟨G, hG, hE⟩ := hS.gh
  have hB : C.B ≤ w.heap.size := hS.below.size
  have hst : Stays C.old w w2 := Stays.of_below h (fun k hk => Nat.lt_of_lt_of_le hk.1 hB)
  refine ⟨hS.fp, hS.below.trans hst, hS.dfs, hS.size, G, ⟨fun b l hb => ?_, hG.2⟩, fun s x hx => ?_⟩
  · have h1 := hG.1 b l hb; have h2 := h.size; exact ⟨h1.1, by omega⟩
  · exact Ok.keep hS.fp hst x _ (fun l _ => ⟨rfl, fun _ hb => hb, fun b hb => h.block b (hG.1 b l hb).2⟩) (hE s x hx)
def drawT (P : Program) (n : Nat) (ops : Array Oper) (l : List Oper) (σ : St) (K : St → Prop) : Prop :=
  ∀ C a w, Sim n C σ a w → ∀ Q : Act → Prop, (∀ σ' a', K σ' → Sim n C σ' a' w → Q a') → wpQuiet P ops (fun w2 => Below w.heap.size w w2) Q l a
theorem draw_nil {ops : Array Oper} (h : K σ) : drawT P n ops [] σ K := fun _ _ _ hS _ hQ => wpQuiet_nil (hQ _ _ h hS)
theorem draw_q {ops : Array Oper} {l : List Oper} {o : Oper} {x : SV} (hg : o.guard = none) (h : quietT P n o σ d x) (hl : drawT P n ops l ((d, x) :: σ) K) : drawT P n ops (o :: l) σ K := by
  intro C a w hS Q hQ
  obtain ⟨hd, hdn, hrun⟩ := h
  obtain ⟨G, hG, hE⟩ := hS.gh
  obtain ⟨v, hr, hv⟩ := hrun C a w G hS hG hE
  unfold wpQuiet
  rw [if_pos (by simp [Region.wanted, hg])]
  refine ⟨v, fun w2 hw2 => ?_, ?_⟩
  · unfold Oper.quietAt
    rw [hr w2 hw2]
    exact ⟨rfl, rfl⟩
  · rw [hd]
    exact hl C _ w (hS.put hG hE hdn hv) Q hQ
theorem draw_guard {ops : Array Oper} {l : List Oper} {o : Oper} {j dj : Nat} {want b : Bool} (hg : o.guard = some (j, want)) (hd : o.dst = some d) (hj : (ops[j]?).bind (·.dst) = some dj) (hdj : σ.at dj = some (.val (.bool b)))
    (hn : dj < n) (hdd : σ.at d = none) (h1 : b = want → ∃ x, quietT P n o σ d x ∧ drawT P n ops l ((d, x) :: σ) K) (h2 : b ≠ want → drawT P n ops l σ K) : drawT P n ops (o :: l) σ K := by
  intro C a w hS Q hQ
  obtain ⟨G, hG, hE⟩ := hS.gh
  have hy : yielded ops a.tmps j = some b := by
    have := hE dj _ hdj
    simp only [Ok, Rep] at this
    unfold yielded
    rw [hj]
    have hlt : dj < a.tmps.size := by rw [hS.size]; exact hn
    simp only [Array.getD_eq_getD_getElem?, Array.getElem?_eq_getElem hlt, Option.getD_some] at this
    simp [Array.getElem?_eq_getElem hlt, this]
  have hw : Region.wanted o (yielded ops a.tmps) = (b == want) := by
    simp only [Region.wanted, hg, hy]
    cases b <;> cases want <;> rfl
  unfold wpQuiet
  rw [hw]
  by_cases hb : b = want
  · rw [if_pos (by simp [hb])]
    obtain ⟨x, ⟨hd', hdn, hrun⟩, hl⟩ := h1 hb
    obtain ⟨v, hr, hv⟩ := hrun C a w G hS hG hE
    refine ⟨v, fun w2 hw2 => ?_, ?_⟩
    · unfold Oper.quietAt
      rw [hr w2 hw2]
      exact ⟨rfl, rfl⟩
    · rw [hd']
      exact hl C _ w (hS.put hG hE hdn hv) Q hQ
  · rw [if_neg (by simp [hb]), hd]
    exact h2 hb C _ w (hS.put_dead hdd undef) Q hQ
theorem draw_call {ops : Array Oper} {l : List Oper} {f : FuncId} {xs : List Operand} {ts : Array TypeId} {ps : List PV} {p : PV} (ss : List SV) (hc : PCalls P f ps (· = [.val p])) (hf : p.flat = true) (hss : σ.evs xs = some ss) (hps : pvs ss = some ps) (hd : d < n)
    (hl : drawT P n ops l ((d, .val p) :: σ) K) : drawT P n ops (⟨some d, .call { callee := .value (.func f), args := xs.toArray, argTypes := ts }, ty, pos, af, none⟩ :: l) σ K := by
  intro C a w hS Q hQ
  obtain ⟨G, hG, hE⟩ := hS.gh
  have run : ∀ w2, Below w.heap.size w w2 → Calls P f (xs.map a.eval).toArray w2 fun e w3 => e = .returned p.toV ∧ Below w.heap.size w w3 ∧ Rep w3 (fun _ => False) p p.toV := by
    intro w2 hw2
    have hS2 := hS.later hw2
    have hB2 : C.B ≤ w2.heap.size := hS2.below.size
    have hE2 : Env C σ a w2 G := fun s x hx => Ok.keep hS.fp (Stays.of_below hw2 (fun k hk => Nat.lt_of_lt_of_le hk.1 hS.below.size)) x _ (fun l _ => ⟨rfl, fun _ hb => hb, fun b hb => hw2.block b (hG.1 b l hb).2⟩) (hE s x hx)
    have hG2 : G.fits C w2 := ⟨fun b l hb => by have h1 := hG.1 b l hb; have h2 := hw2.size; exact ⟨h1.1, by omega⟩, hG.2⟩
    let C' := calleeC C G w2 false none 0 ss (calleeX_gl hS hG false _ ss hw2) (fun b hb => Nat.lt_of_lt_of_le (hG.1 b 0 hb).2 hw2.size)
    have hfeet : ∀ i b, feet C G ss 0 i b → C'.old b := by
      intro i b hb
      unfold feet at hb
      rw [if_neg (by omega)] at hb
      cases hsi : ss[i - 0]? with
      | none => simp only [hsi] at hb
      | some s =>
        simp only [hsi] at hb
        exact ⟨(foot_old hS2.fp hG2 hB2 hb).1, fun h => by cases h.1⟩
    have hargs : RepArgs w2 C'.Fp 0 ps (xs.map a.eval) := evs_ok hE2 hss hps _ 0 (fun j s hj => by
      show feet C G ss 0 (0 + j) = _
      unfold feet
      rw [if_neg (by omega), show 0 + j - 0 = j by omega, hj])
    have hex : ∀ b, C'.ex b → C'.old b := fun b hb => by
      rcases hb with hb | ⟨he, _⟩
      · exact ⟨Nat.lt_of_lt_of_le (hS2.fp.2 b hb).1 hB2, fun h => by cases h.1⟩
      · cases he
    have hrun := hc.run C' (calleeG G none 0) undef (xs.map a.eval) ⟨rfl, rfl, fun _ h => h⟩ ⟨hfeet, hex⟩ (fun h => by cases h) ⟨fun b q hb => by simp [calleeG] at hb, rfl, fun b hb => by cases hb.1⟩ (fun x hx => by cases hx) hargs
    refine Calls.mono hrun ?_
    rintro e w3 ⟨v, rs, cs', rfl, rfl, hst, G', us, _, hL, hv, _, _, _⟩
    obtain ⟨u, r, hu, h1, h2⟩ := hL
    simp only [OkL] at h2
    rw [h2] at hu
    rw [hu] at hv
    have hu2 := Rep.toV p u hf h1
    have hv2 : v = p.toV := hv.trans hu2
    have hbel : Below w2.heap.size w2 w3 := (hst.mono (S' := (· < w2.heap.size)) (fun k hk => ⟨hk, fun h => by cases h.1⟩)).below
    refine ⟨congrArg Ending.returned hv2, hw2.trans (hbel.mono hw2.size), ?_⟩
    rw [← hu2]; exact h1
  unfold wpQuiet
  rw [if_pos (by simp [Region.wanted])]
  refine ⟨p.toV, fun w2 hw2 => ?_, ?_⟩
  · unfold Oper.quietAt
    have hrun : (execOp a.eval ⟨some d, .call { callee := .value (.func f), args := xs.toArray, argTypes := ts }, ty, pos, af, none⟩).run P w2 = .ok (.enter f (xs.map a.eval).toArray) w2 := by
      simp [execOp, resolve, Act.eval, Deferred.ofValue, invoke]
      exact hc.ent _ _
    rw [hrun]
    exact ⟨rfl, (run w2 hw2).mono fun _ _ ⟨h1, h2, _⟩ => ⟨h1, h2⟩⟩
  · obtain ⟨e, w3, fr, ⟨_, _, h3⟩, _⟩ := run w (Below.refl _ _) []
    exact hl C _ w (hS.put hG hE hd (Rep.flat p _ hf h3)) Q hQ
end
end Go.Proofs.YtfagllolcalfiabDoor
