/- The package's tables, read. Own work; no conditions; nothing here is about one program. -/
import Derived.Test.YtfagllolcalfiabDoorPwS
namespace Go.Proofs.YtfagllolcalfiabDoor
open Go.RowKit
set_option linter.unusedVariables false
set_option linter.unusedSimpArgs false
section
variable {P : Program} {n : Nat} {σ : St} {K : St → Prop} {d : Nat} {ty : TypeId} {pos : String} {af : Array Edge} {gd : Option (Nat × Bool)}
theorem glob_at {C : Ctx} {a : Act} {w : World} (hS : Sim n C σ a w) (G : Gh) {g : Nat} {cs : List PV} (hg : glob g = some cs) : Ok C w G (.rbor 2999 cs) (.pointer (some ⟨g, 0, none⟩)) := by
  obtain ⟨vs, ⟨e, fr, h1⟩, h2, h3⟩ := (C.gl.mono (w' := w) (ex' := C.ex) (fun b hb => hS.below.block b (hS.fp.2 b hb)) (fun _ h => h)) g cs hg
  exact ⟨g, 0, vs, rfl, fun j u hu => by rw [Nat.zero_add, cell_of_row w g j _ e fr h1]; simpa using hu, .inr h2, RepL.mono (fun b h => .inr h) (fun _ _ => rfl) cs vs h3⟩
theorem q_indexAddr_g {t len size : Nat} (hty : ArTy P t len size) {g : Nat} {cs : List PV} {y : Operand} {k : IntKind} {i : Int} (hg : glob g = some cs) (hy : σ.ev y = some (.val (.int k i))) (h0 : 0 ≤ i) (h1 : i < len) (hd : d < n) :
    quietT P n ⟨some d, .indexAddr t (.global g) y, ty, pos, af, gd⟩ σ d (.rbor 2999 (cs.drop (i.toNat * size))) := by
  refine ⟨rfl, hd, fun C a w G hS hG hE => ?_⟩
  obtain ⟨e, g1, g2⟩ := hty
  have e2 := hE.ev hy
  simp only [Ok, Rep] at e2
  obtain ⟨ad, hv, hok⟩ := move_ok (k := i.toNat * size) (glob_at hS G hg) rfl
  refine ⟨_, fun _ _ => ?_, hok⟩
  have hc : 0 ≤ i ∧ i < (len : Int) := ⟨h0, h1⟩
  have hv' : a.eval (.global g) = .pointer (some ad) := hv
  simp [execOp, hv', e2, Instr.indexAt, run_underlying g1, asIntOf, Instr.sureAddr, hc, g2]
theorem q_fieldAddr_g {t f off : Nat} (hty : FiTy P t f off) {g : Nat} {cs : List PV} (hg : glob g = some cs) (hd : d < n) : quietT P n ⟨some d, .fieldAddr t (.global g) f, ty, pos, af, gd⟩ σ d (.rbor 2999 (cs.drop off)) := by
  refine ⟨rfl, hd, fun C a w G hS hG hE => ?_⟩
  obtain ⟨fs, fd, g1, g2, g3, k, hk, g4⟩ := hty
  obtain ⟨ad, hv, hok⟩ := move_ok (k := off) (glob_at hS G hg) rfl
  refine ⟨_, fun _ _ => ?_, hok⟩
  have hv' : a.eval (.global g) = .pointer (some ad) := hv
  simp [execOp, hv', Instr.fieldAt, run_underlying g1, g2, Instr.sureAddr, fieldPlace, g4, hk, g3]
theorem q_load_g {t : TypeId} (ht : OneTy P t) {g : Nat} {c : PV} {cs : List PV} (hg : glob g = some (c :: cs)) (hd : d < n) : quietT P n ⟨some d, .load t (.global g), ty, pos, af, gd⟩ σ d (if c.flat then .val c else .bor 2999 c) := by
  refine ⟨rfl, hd, fun C a w G hS hG hE => ?_⟩
  obtain ⟨b, off, vs, hv, hc, hb, hr⟩ := glob_at hS G hg
  obtain ⟨v, h3, _, h4⟩ := hr.get 0 c rfl
  have hc0 : w.cell? ⟨b, off, none⟩ = some v := by simpa using hc 0 v h3
  have hv' : a.eval (.global g) = .pointer (some ⟨b, off, none⟩) := hv
  refine ⟨v, fun w2 hw2 => by simp [execOp, hv', Instr.loadAt, Instr.sureAddr, run_loadVar_one ht ((hw2.cell (p := ⟨b, off, none⟩) (World.block_lt_of_cell? w _ hc0)).trans hc0)], ?_⟩
  split
  · rename_i hf; exact Rep.flat c v hf h4
  · exact h4
theorem q_load_agg_g {t : TypeId} {k : Nat} (ht : AggTy P t k) {g : Nat} {cs : List PV} (hg : glob g = some cs) (hk : k ≤ cs.length) (hf : PV.flatL (cs.take k) = true) (hd : d < n) : quietT P n ⟨some d, .load t (.global g), ty, pos, af, gd⟩ σ d (.val (.agg (cs.take k))) := by
  refine ⟨rfl, hd, fun C a w G hS hG hE => ?_⟩
  obtain ⟨b, off, vs, hv, hc, hb, hr⟩ := glob_at hS G hg
  have hv' : a.eval (.global g) = .pointer (some ⟨b, off, none⟩) := hv
  have h3 := hr.take k
  have hlen : (vs.take k).length = k := by rw [h3.length]; simp; omega
  refine ⟨.agg (vs.take k).toArray, fun w2 hw2 => ?_, ⟨_, rfl, RepL.flat _ _ hf h3⟩⟩
  have := run_loadVar_agg (P := P) ht (w := w2) (b := b) (o := off) hlen (fun j u hu => by
    have hc' : w.cell? ⟨b, off + j, none⟩ = some u := hc j u (by
      rw [List.getElem?_take] at hu
      split at hu
      · exact hu
      · cases hu)
    exact (hw2.cell (p := ⟨b, off + j, none⟩) (World.block_lt_of_cell? w _ hc')).trans hc')
  simp only [execOp, hv', Instr.loadAt, Instr.sureAddr, Sem.run_bind, Sem.run_pure, Result.andThen_ok, this]
end
end Go.Proofs.YtfagllolcalfiabDoor
