/- Addresses, loads, stores, parts of slices, structs and arrays over the pure state. Own work; no conditions; nothing here is about one program. -/
import Derived.Test.YtfagllolcalfiabDoorPwG
namespace Go.Proofs.YtfagllolcalfiabDoor
open Go.RowKit
def OneTy (P : Program) (t : TypeId) : Prop := (∀ w, (isAgg t).run P w = .ok false w) ∧ ∀ w, (sizeOf t).run P w = .ok 1 w
theorem oneTy_of {P : Program} {t : TypeId} {u : TypeDesc} (h : P.underlying t = some u) (hu : (match u with | .struct _ | .array _ _ => true | _ => false) = false) (hs : (P.info? t).map (·.size) = some 1) : OneTy P t := by
  obtain ⟨i, hi, h1⟩ := Option.map_eq_some_iff.1 hs
  refine ⟨fun w => ?_, fun w => by simp [sizeOf, typeInfo, hi, h1]⟩
  cases u <;> simp at hu <;> simp [isAgg, run_underlying h]
theorem aggTy_of {P : Program} {t : TypeId} {u : TypeDesc} {k : Nat} (h : P.underlying t = some u) (hu : (match u with | .struct _ | .array _ _ => true | _ => false) = true) (hs : (P.info? t).map (·.size) = some k) : AggTy P t k := by
  obtain ⟨i, hi, h1⟩ := Option.map_eq_some_iff.1 hs
  refine ⟨fun w => ?_, fun w => by simp [sizeOf, typeInfo, hi, h1]⟩
  cases u <;> simp at hu <;> simp [isAgg, run_underlying h]
def SV.root : SV → Option (Nat × List PV)
  | .own l _ _ _ cs => some (l, cs)
  | .box l _ cs => some (l, cs)
  | .vbox l _ _ _ cs => some (l, cs)
  | _ => none
theorem Ok.rooted {C : Ctx} {w : World} {G : Gh} {s : SV} {v : Value} {l : Nat} {cs : List PV} (h : Ok C w G s v) (hr : s.root = some (l, cs)) :
    ∃ vs, (∀ (j : Nat) u, vs[j]? = some u → w.cell? ⟨G.r l, j, none⟩ = some u) ∧ RepL w (G.bx C l) cs vs ∧ (cs ≠ [] → G.g (G.r l) = some l) := by
  cases s with
  | own q e size m ds =>
    simp only [SV.root, Option.some.injEq, Prod.mk.injEq] at hr
    obtain ⟨rfl, rfl⟩ := hr
    obtain ⟨vs, ho, hb, hR⟩ := h
    refine ⟨vs, fun j u hu => ?_, RepL.mono (fun b hb => .inl hb) (fun _ _ => rfl) ds vs hR, fun hne => ?_⟩
    · rcases ho.2 with ⟨hv, hm⟩ | ⟨g, cap, cur, hv, hbg, hg, rest⟩
      · have : vs = [] := List.eq_nil_of_length_eq_zero (by have := ho.1; rw [hm] at this; simpa using this)
        subst this; simp at hu
      · have := ho.cells (g := g) (by rw [hv]; rfl) j u hu
        rw [Addr.add_lit] at this
        rw [← (hb g (by rw [hv]; rfl)).1]
        simpa using this
    · rcases ho.2 with ⟨hv, hm⟩ | ⟨g, cap, cur, hv, hbg, hg, rest⟩
      · have : vs = [] := List.eq_nil_of_length_eq_zero (by have := ho.1; rw [hm] at this; simpa using this)
        subst this
        have := hR.length
        exact absurd (List.eq_nil_of_length_eq_zero (by simpa using this.symm)) hne
      · have := hb g (by rw [hv]; rfl)
        rw [← this.1]; exact this.2
  | box q e ds =>
    simp only [SV.root, Option.some.injEq, Prod.mk.injEq] at hr
    obtain ⟨rfl, rfl⟩ := hr
    obtain ⟨vs, hv, hg, hh, hR⟩ := h
    exact ⟨vs, fun j u hu => by rw [cell_of_row w _ j _ e (0, 0) hh]; simpa using hu, hR, fun _ => hg⟩
  | vbox q e o k ds =>
    simp only [SV.root, Option.some.injEq, Prod.mk.injEq] at hr
    obtain ⟨rfl, rfl⟩ := hr
    obtain ⟨o', cap, vs, hv, _, _, hg, hh, hR⟩ := h
    exact ⟨vs, fun j u hu => by rw [cell_of_row w _ j _ e (0, 0) hh]; simpa using hu, hR, fun _ => hg⟩
  | _ => simp [SV.root] at hr
section
variable {P : Program} {n : Nat} {σ : St} {K : St → Prop} {d : Nat} {ty : TypeId} {pos : String} {af : Array Edge} {gd : Option (Nat × Bool)}
/-! ### Addresses -/
theorem q_indexAddr_own {t e size bytes : Nat} {zc : List PV} (hty : SlTy P t e size bytes zc) {x y : Operand} {l e' s' m : Nat} {cs : List PV} {k : IntKind} {i : Int} (hx : σ.ev x = some (.own l e' s' m cs)) (hy : σ.ev y = some (.val (.int k i)))
    (h0 : 0 ≤ i) (h1 : i < m) (hd : d < n) : quietT P n ⟨some d, .indexAddr t x y, ty, pos, af, gd⟩ σ d (.adr l (i.toNat * size)) := by
  refine ⟨rfl, hd, fun C a w G hS hG hE => ?_⟩
  obtain ⟨g1, j, z, g2, g3, g4, _⟩ := hty
  have e1 := hE.ev hx
  have e2 := hE.ev hy
  simp only [Ok, Rep] at e1 e2
  obtain ⟨vs, ho, hb, hr⟩ := e1
  rcases ho.2 with ⟨hv, hm⟩ | ⟨g, cap, cur, hv, _⟩
  · omega
  · have hrt := (hb g (by rw [hv]; rfl)).1
    subst hrt
    refine ⟨.pointer (some ⟨G.r l, i.toNat * size, none⟩), fun _ _ => ?_, rfl⟩
    have hc : 0 ≤ i ∧ i < (m : Int) := ⟨h0, h1⟩
    simp [execOp, hv, e2, Instr.indexAt, run_underlying g1, asIntOf, hc, sizeOf, typeInfo, g2, g4, Addr.add_lit]
theorem q_indexAddr_rd {t e size bytes : Nat} {zc : List PV} (hty : SlTy P t e size bytes zc) {x y : Operand} {s : SV} {m : Nat} {cs : List PV} {k : IntKind} {i : Int} {r : SV} (hx : σ.ev x = some s)
    (hs : (∃ q, s = .par q (.sl m cs) ∧ r = .rpar q (cs.drop (i.toNat * size))) ∨ ∃ l, s = .bor l (.sl m cs) ∧ r = .rbor l (cs.drop (i.toNat * size))) (hy : σ.ev y = some (.val (.int k i)))
    (h0 : 0 ≤ i) (h1 : i < m) (hd : d < n) : quietT P n ⟨some d, .indexAddr t x y, ty, pos, af, gd⟩ σ d (r) := by
  refine ⟨rfl, hd, fun C a w G hS hG hE => ?_⟩
  obtain ⟨g1, j, z, g2, g3, g4, _⟩ := hty
  have e1 := hE.ev hx
  have e2 := hE.ev hy
  simp only [Ok, Rep] at e2
  have hc : 0 ≤ i ∧ i < (m : Int) := ⟨h0, h1⟩
  have key : ∀ F : Nat → Prop, Rep w F (.sl m cs) (a.eval x) → ∃ (b off : Nat) (vs : List Value), (∀ w2, (execOp a.eval ⟨some d, .indexAddr t x y, ty, pos, af, gd⟩).run P w2 = .ok (.value (.pointer (some ⟨b, off + i.toNat * size, none⟩))) w2) ∧
      (∀ (j : Nat) u, (vs.drop (i.toNat * size))[j]? = some u → w.cell? ⟨b, off + i.toNat * size + j, none⟩ = some u) ∧ F b ∧ RepL w F (cs.drop (i.toNat * size)) (vs.drop (i.toNat * size)) := by
    intro F h
    simp only [Rep] at h
    rcases h with ⟨_, hm, _⟩ | ⟨b, off, cap, vs, hv, hb, _, hcell, hr⟩
    · omega
    · refine ⟨b, off, vs, fun w2 => ?_, fun j u hu => ?_, hb, hr.drop _⟩
      · simp [execOp, hv, e2, Instr.indexAt, run_underlying g1, asIntOf, hc, sizeOf, typeInfo, g2, g4, Addr.add_lit]
      · rw [Nat.add_assoc]; exact hcell _ u (by simpa using hu)
  rcases hs with ⟨q, rfl, rfl⟩ | ⟨l, rfl, rfl⟩
  · obtain ⟨b, off, vs, h2, h3, h4, h5⟩ := key (C.Fp q) e1
    exact ⟨_, fun w2 _ => h2 w2, b, _, _, rfl, h3, h4, h5⟩
  · obtain ⟨b, off, vs, h2, h3, h4, h5⟩ := key _ e1
    exact ⟨_, fun w2 _ => h2 w2, b, _, _, rfl, h3, h4, h5⟩
def SV.move (k : Nat) : SV → Option SV
  | .box l _ _ => some (.adr l k)
  | .boxR l _ _ _ _ => some (.adr l k)
  | .adr l o => some (.adr l (o + k))
  | .rpar i cs => some (.rpar i (cs.drop k))
  | .rbor l cs => some (.rbor l (cs.drop k))
  | _ => none
theorem move_ok {C : Ctx} {w : World} {G : Gh} {s r : SV} {v : Value} {k : Nat} (h : Ok C w G s v) (hm : s.move k = some r) : ∃ a : Addr, v = .pointer (some a) ∧ Ok C w G r (.pointer (some (a.add k))) := by
  cases s with
  | box l e cs =>
    simp only [SV.move, Option.some.injEq] at hm; subst hm
    obtain ⟨vs, hv, _⟩ := h
    exact ⟨_, hv, by simp [Ok, Addr.add_lit]⟩
  | boxR l t e size es =>
    simp only [SV.move, Option.some.injEq] at hm; subst hm
    obtain ⟨vs, hv, _⟩ := h
    exact ⟨_, hv, by simp [Ok, Addr.add_lit]⟩
  | adr l o =>
    simp only [SV.move, Option.some.injEq] at hm; subst hm
    simp only [Ok] at h
    exact ⟨_, h, by simp [Ok, Addr.add_lit]⟩
  | rpar i cs =>
    simp only [SV.move, Option.some.injEq] at hm; subst hm
    obtain ⟨b, off, vs, hv, hc, hb, hr⟩ := h
    exact ⟨_, hv, b, off + k, vs.drop k, by simp [Addr.add_lit], fun j u hu => by rw [Nat.add_assoc]; exact hc _ u (by simpa using hu), hb, hr.drop _⟩
  | rbor l cs =>
    simp only [SV.move, Option.some.injEq] at hm; subst hm
    obtain ⟨b, off, vs, hv, hc, hb, hr⟩ := h
    exact ⟨_, hv, b, off + k, vs.drop k, by simp [Addr.add_lit], fun j u hu => by rw [Nat.add_assoc]; exact hc _ u (by simpa using hu), hb, hr.drop _⟩
  | _ => simp [SV.move] at hm
def ArTy (P : Program) (t len size : Nat) : Prop := ∃ e, P.underlying t = some (.array len e) ∧ ∀ w, (sizeOf e).run P w = .ok size w
theorem arTy_of {P : Program} {t len size e : Nat} (h : P.underlying t = some (.array len e)) (hs : (P.info? e).map (·.size) = some size) : ArTy P t len size := by
  obtain ⟨i, hi, h1⟩ := Option.map_eq_some_iff.1 hs
  exact ⟨e, h, fun w => by simp [sizeOf, typeInfo, hi, h1]⟩
theorem q_indexAddr_arr {t len size : Nat} (hty : ArTy P t len size) {x y : Operand} {s r : SV} {k : IntKind} {i : Int} (hx : σ.ev x = some s) (hy : σ.ev y = some (.val (.int k i))) (hm : s.move (i.toNat * size) = some r)
    (h0 : 0 ≤ i) (h1 : i < len) (hd : d < n) : quietT P n ⟨some d, .indexAddr t x y, ty, pos, af, gd⟩ σ d (r) := by
  refine ⟨rfl, hd, fun C a w G hS hG hE => ?_⟩
  obtain ⟨e, g1, g2⟩ := hty
  have e2 := hE.ev hy
  simp only [Ok, Rep] at e2
  obtain ⟨ad, hv, hok⟩ := move_ok (hE.ev hx) hm
  refine ⟨_, fun _ _ => ?_, hok⟩
  have hc : 0 ≤ i ∧ i < (len : Int) := ⟨h0, h1⟩
  simp [execOp, hv, e2, Instr.indexAt, run_underlying g1, asIntOf, Instr.sureAddr, hc, g2]
def FiTy (P : Program) (t f off : Nat) : Prop := ∃ fs fd, P.underlying t = some (.struct fs) ∧ fs[f]? = some fd ∧ fd.offset = off ∧ ∃ k, k ≠ 0 ∧ ∀ w, (sizeOf fd.type).run P w = .ok k w
theorem fiTy_of {P : Program} {t f off k : Nat} {fs : Array Field} {fd : Field} (h : P.underlying t = some (.struct fs)) (hf : fs[f]? = some fd) (ho : fd.offset = off) (hs : (P.info? fd.type).map (·.size) = some k) (hk : k ≠ 0) : FiTy P t f off := by
  obtain ⟨i, hi, h1⟩ := Option.map_eq_some_iff.1 hs
  exact ⟨fs, fd, h, hf, ho, k, hk, fun w => by simp [sizeOf, typeInfo, hi, h1]⟩
theorem q_fieldAddr {t f off : Nat} (hty : FiTy P t f off) {x : Operand} {s r : SV} (hx : σ.ev x = some s) (hm : s.move off = some r) (hd : d < n) : quietT P n ⟨some d, .fieldAddr t x f, ty, pos, af, gd⟩ σ d (r) := by
  refine ⟨rfl, hd, fun C a w G hS hG hE => ?_⟩
  obtain ⟨fs, fd, g1, g2, g3, k, hk, g4⟩ := hty
  obtain ⟨ad, hv, hok⟩ := move_ok (hE.ev hx) hm
  refine ⟨_, fun _ _ => ?_, hok⟩
  simp [execOp, hv, Instr.fieldAt, run_underlying g1, g2, Instr.sureAddr, fieldPlace, g4, hk, g3]
theorem q_nilCheck {x : Operand} {s r : SV} (hx : σ.ev x = some s) (hm : s.move 0 = some r) (hd : d < n) : quietT P n ⟨some d, .nilCheck x, ty, pos, af, gd⟩ σ d (s) := by
  refine ⟨rfl, hd, fun C a w G hS hG hE => ?_⟩
  obtain ⟨ad, hv, _⟩ := move_ok (hE.ev hx) hm
  refine ⟨_, fun _ _ => ?_, hv ▸ hE.ev hx⟩
  simp [execOp, hv]
/-! ### Loads -/
theorem run_loadVar_one {t : TypeId} (ht : OneTy P t) {w : World} {b o : Nat} {v : Value} (hc : w.cell? ⟨b, o, none⟩ = some v) : (loadVar t ⟨b, o, none⟩).run P w = .ok v w := by
  simp [loadVar, ht.1, hc]
theorem run_loadVar_agg {t : TypeId} {k : Nat} (ht : AggTy P t k) {w : World} {b o : Nat} {us : List Value} (hk : us.length = k) (hc : ∀ (j : Nat) u, us[j]? = some u → w.cell? ⟨b, o + j, none⟩ = some u) : (loadVar t ⟨b, o, none⟩).run P w = .ok (.agg us.toArray) w := by
  have := run_loadCells_list (P := P) (w := w) ⟨b, o, none⟩ us (fun j v hj => by rw [Addr.add_lit]; exact hc j v hj)
  rw [hk] at this
  simp [loadVar, ht.1, ht.2, this]
theorem root_seen {C : Ctx} {a : Act} {w : World} {G : Gh} (hE : Env C σ a w G) {h : Nat} {s : SV} {l : Nat} {cs : List PV} (hh : σ.at h = some s) (hr : s.root = some (l, cs)) :
    ∃ vs, (∀ (j : Nat) u, vs[j]? = some u → w.cell? ⟨G.r l, j, none⟩ = some u) ∧ RepL w (G.bx C l) cs vs := by
  obtain ⟨vs, h1, h2, _⟩ := (hE h s hh).rooted hr
  exact ⟨vs, h1, h2⟩
theorem q_load {t : TypeId} (ht : OneTy P t) {x : Operand} {l off : Nat} (h : Nat) {s : SV} {cs : List PV} {c : PV} (hx : σ.ev x = some (.adr l off)) (hh : σ.at h = some s) (hr : s.root = some (l, cs)) (hc : cs[off]? = some c) (hd : d < n) : quietT P n ⟨some d, .load t x, ty, pos, af, gd⟩ σ d (if c.flat then .val c else .bor l c) := by
  refine ⟨rfl, hd, fun C a w G hS hG hE => ?_⟩
  have e1 := hE.ev hx
  simp only [Ok] at e1
  obtain ⟨vs, h1, h2⟩ := root_seen hE hh hr
  obtain ⟨v, h3, _, h4⟩ := h2.get off c hc
  refine ⟨v, fun w2 hw2 => ?_, ?_⟩
  · have hc2 := (hw2.cell (p := ⟨G.r l, off, none⟩) (World.block_lt_of_cell? w _ (h1 off v h3))).trans (h1 off v h3)
    simp [execOp, e1, Instr.loadAt, Instr.sureAddr, run_loadVar_one ht hc2]
  · split
    · rename_i hf; exact Rep.flat c v hf h4
    · exact Rep.mono (fun b hb => hb.imp (fun h => h.1) id) (fun _ _ => rfl) c v h4
theorem q_load_agg {t : TypeId} {k : Nat} (ht : AggTy P t k) {x : Operand} {l off : Nat} (h : Nat) {s : SV} {cs : List PV} (hx : σ.ev x = some (.adr l off) ∨ (off = 0 ∧ ∃ e, σ.ev x = some (.box l e cs))) (hh : σ.at h = some s) (hr : s.root = some (l, cs))
    (hk : off + k ≤ cs.length) (hf : PV.flatL ((cs.drop off).take k) = true) (hd : d < n) : quietT P n ⟨some d, .load t x, ty, pos, af, gd⟩ σ d (.val (.agg ((cs.drop off).take k))) := by
  refine ⟨rfl, hd, fun C a w G hS hG hE => ?_⟩
  have e1 : a.eval x = .pointer (some ⟨G.r l, off, none⟩) := by
    rcases hx with hx | ⟨rfl, e, hx⟩
    · exact hE.ev hx
    · obtain ⟨vs, hv, _⟩ := hE.ev hx; exact hv
  obtain ⟨vs, h1, h2⟩ := root_seen hE hh hr
  have h3 := (h2.drop off).take k
  have hlen : ((vs.drop off).take k).length = k := by rw [h3.length]; simp; omega
  refine ⟨.agg ((vs.drop off).take k).toArray, fun w2 hw2 => ?_, ⟨_, rfl, RepL.flat _ _ hf h3⟩⟩
  have := run_loadVar_agg (P := P) ht (w := w2) (b := G.r l) (o := off) hlen (fun j u hu => by
    have hc : w.cell? ⟨G.r l, off + j, none⟩ = some u := h1 (off + j) u (by
      rw [List.getElem?_take] at hu
      split at hu
      · simpa using hu
      · cases hu)
    exact (hw2.cell (p := ⟨G.r l, off + j, none⟩) (World.block_lt_of_cell? w _ hc)).trans hc)
  simp only [execOp, e1, Instr.loadAt, Instr.sureAddr, Sem.run_bind, Sem.run_pure, Result.andThen_ok, this]
theorem q_load_rd {t : TypeId} (ht : OneTy P t) {x : Operand} {s : SV} {c : PV} {cs : List PV} {r : SV} (hx : σ.ev x = some s)
    (hs : (∃ i, s = .rpar i (c :: cs) ∧ r = if c.flat then .val c else .par i c) ∨ ∃ l, s = .rbor l (c :: cs) ∧ r = if c.flat then .val c else .bor l c) (hd : d < n) : quietT P n ⟨some d, .load t x, ty, pos, af, gd⟩ σ d (r) := by
  refine ⟨rfl, hd, fun C a w G hS hG hE => ?_⟩
  have e1 := hE.ev hx
  rcases hs with ⟨i, rfl, rfl⟩ | ⟨l, rfl, rfl⟩
  · obtain ⟨b, off, vs, hv, hc, hb, hr⟩ := e1
    obtain ⟨v, h3, _, h4⟩ := hr.get 0 c rfl
    have hc0 : w.cell? ⟨b, off, none⟩ = some v := by simpa using hc 0 v h3
    refine ⟨v, fun w2 hw2 => by simp [execOp, hv, Instr.loadAt, Instr.sureAddr, run_loadVar_one ht ((hw2.cell (p := ⟨b, off, none⟩) (World.block_lt_of_cell? w _ hc0)).trans hc0)], ?_⟩
    split
    · rename_i hf; exact Rep.flat c v hf h4
    · exact h4
  · obtain ⟨b, off, vs, hv, hc, hb, hr⟩ := e1
    obtain ⟨v, h3, _, h4⟩ := hr.get 0 c rfl
    have hc0 : w.cell? ⟨b, off, none⟩ = some v := by simpa using hc 0 v h3
    refine ⟨v, fun w2 hw2 => by simp [execOp, hv, Instr.loadAt, Instr.sureAddr, run_loadVar_one ht ((hw2.cell (p := ⟨b, off, none⟩) (World.block_lt_of_cell? w _ hc0)).trans hc0)], ?_⟩
    split
    · rename_i hf; exact Rep.flat c v hf h4
    · exact h4
theorem q_load_rd_agg {t : TypeId} {k : Nat} (ht : AggTy P t k) {x : Operand} {s : SV} {cs : List PV} (hx : σ.ev x = some s) (hs : (∃ i, s = .rpar i cs) ∨ ∃ l, s = .rbor l cs) (hk : k ≤ cs.length) (hf : PV.flatL (cs.take k) = true) (hd : d < n) : quietT P n ⟨some d, .load t x, ty, pos, af, gd⟩ σ d (.val (.agg (cs.take k))) := by
  refine ⟨rfl, hd, fun C a w G hS hG hE => ?_⟩
  have e1 := hE.ev hx
  have key : ∀ (F : Nat → Prop) (b off : Nat) (vs : List Value), a.eval x = .pointer (some ⟨b, off, none⟩) → (∀ (j : Nat) u, vs[j]? = some u → w.cell? ⟨b, off + j, none⟩ = some u) → RepL w F cs vs →
      ∃ v, (∀ w2, Below w.heap.size w w2 → (execOp a.eval ⟨some d, .load t x, ty, pos, af, gd⟩).run P w2 = .ok (.value v) w2) ∧ Ok C w G (.val (.agg (cs.take k))) v := by
    intro F b off vs hv hc hr
    have h3 := hr.take k
    have hlen : (vs.take k).length = k := by rw [h3.length]; simp; omega
    refine ⟨.agg (vs.take k).toArray, fun w2 hw2 => ?_, ⟨_, rfl, RepL.flat _ _ hf h3⟩⟩
    have := run_loadVar_agg (P := P) ht (w := w2) (b := b) (o := off) hlen (fun j u hu => by
      have hc' : w.cell? ⟨b, off + j, none⟩ = some u := hc j u (by
        rw [List.getElem?_take] at hu
        split at hu
        · exact hu
        · cases hu)
      exact (hw2.cell (p := ⟨b, off + j, none⟩) (World.block_lt_of_cell? w _ hc')).trans hc')
    simp only [execOp, hv, Instr.loadAt, Instr.sureAddr, Sem.run_bind, Sem.run_pure, Result.andThen_ok, this]
  rcases hs with ⟨i, rfl⟩ | ⟨l, rfl⟩
  · obtain ⟨b, off, vs, hv, hc, hb, hr⟩ := e1
    exact key _ b off vs hv hc hr
  · obtain ⟨b, off, vs, hv, hc, hb, hr⟩ := e1
    exact key _ b off vs hv hc hr
/-! ### Stores -/
def SV.bare : SV → SV
  | .boxS _ _ q e s n cs => .own q e s n cs
  | x => x
theorem op_storeG {t : TypeId} {k : Nat} (ht : ∀ w, (sizeOf t).run P w = .ok k w) {x y : Operand} {l off : Nat} (h : Nat) {s sy : SV} {cs : List PV} {p : PV} {dst : Option Nat} (hs : List Nat) (hhs : ∀ t ∈ hs, (σ.at t).map SV.bare = some s)
    (hx : σ.ev x = some (.adr l off) ∨ (off = 0 ∧ ∃ e, σ.ev x = some (.box l e cs))) (hh : σ.at h = some s) (hr : s.root = some (l, cs)) (hy : σ.ev y = some sy) (hsy : (sy.pv = some p ∧ p.flat = true) ∨ sy = .inl l p) (hpk : p.cells.length = k)
    (hk : off + k ≤ cs.length) (hk0 : 0 < k) (hdst : dst = none) (hK : K (σ.upd hs l (putAt cs off p.cells))) : opT P n ⟨dst, .store t x y, ty, pos, af, gd⟩ σ K := by
  subst hdst
  intro C a w hS K' Q hK'
  obtain ⟨G, hG, hE⟩ := hS.gh
  have hB : C.B ≤ w.heap.size := hS.below.size
  have e1 : a.eval x = .pointer (some ⟨G.r l, off, none⟩) := by
    rcases hx with hx | ⟨rfl, e, hx⟩
    · exact hE.ev hx
    · obtain ⟨vs, hv, _⟩ := hE.ev hx; exact hv
  have e2 : Rep w (G.inn l) p (a.eval y) := by
    rcases hsy with ⟨hsy, hf⟩ | rfl
    · exact Rep.flat p _ hf ((hE.ev hy).rep hsy)
    · exact hE.ev hy
  have hcells := e2.cells
  have hvlen : (a.eval y).cells.size = k := by rw [← Array.length_toList, hcells.length, hpk]
  have hne : cs ≠ [] := by rintro rfl; simp at hk; omega
  obtain ⟨vs, _, hR, hgl⟩ := (hE h s hh).rooted hr
  have hgl := hgl hne
  have hlt := (hG.1 _ _ hgl).2
  have hrow : ∃ cur e, w.heap[G.r l]? = some (.cells cur e (0, 0)) ∧ cs.length ≤ cur.size := by
    have h0 := hE h s hh
    cases s with
    | own q e size m ds =>
      simp only [SV.root, Option.some.injEq, Prod.mk.injEq] at hr
      obtain ⟨rfl, rfl⟩ := hr
      obtain ⟨us, ho, hb, hRR⟩ := h0
      rcases ho.2 with ⟨hv, hm⟩ | ⟨g, cap, cur, hv, hbg, hg, hmc, hcm, hcs, htk⟩
      · exfalso
        have : us = [] := List.eq_nil_of_length_eq_zero (by have := ho.1; rw [hm] at this; simpa using this)
        subst this
        exact hne (List.eq_nil_of_length_eq_zero (by simpa using hRR.length.symm))
      · have := (hb g (by rw [hv]; rfl)).1
        subst this
        refine ⟨cur, e, hg, ?_⟩
        rw [← hRR.length, ho.1, hcs]
        exact Nat.mul_le_mul_right _ hmc
    | box q e ds =>
      simp only [SV.root, Option.some.injEq, Prod.mk.injEq] at hr
      obtain ⟨rfl, rfl⟩ := hr
      obtain ⟨us, hv, hg, hhh, hRR⟩ := h0
      exact ⟨_, e, hhh, by simp [hRR.length]⟩
    | vbox q e o k ds =>
      simp only [SV.root, Option.some.injEq, Prod.mk.injEq] at hr
      obtain ⟨rfl, rfl⟩ := hr
      obtain ⟨o', cap, us, hv, _, _, hg, hhh, hRR⟩ := h0
      exact ⟨_, e, hhh, by simp [hRR.length]⟩
    | _ => simp [SV.root] at hr
  obtain ⟨cur, e, hcur, hcl⟩ := hrow
  let us := (a.eval y).cells.toList
  have husl : us.length = k := by show (a.eval y).cells.toList.length = k; rw [Array.length_toList]; exact hvlen
  let cur' : Array Value := (cur.toList.take off ++ us ++ cur.toList.drop (off + us.length)).toArray
  let w' := w.setRow (G.r l) cur'
  have hrun : (execOp a.eval ⟨none, .store t x y, ty, pos, af, gd⟩).run P w = .ok .skip w' := by
    have hst := run_storeCells_at P (G.r l) off e us 0 cur w hcur (by rw [husl]; omega) hcells.oneCells
    simp only [Nat.add_zero] at hst
    simp only [execOp, e1, Instr.storeAt, Instr.sureAddr, Sem.run_bind, Sem.run_pure, Result.andThen_ok, storeVar, ht, hvlen, ne_eq, not_true_eq_false, if_false]
    show ((storeCells ⟨G.r l, off, none⟩ us).run P w).andThen _ = _
    rw [hst]; rfl
  have hother : ∀ b, b ≠ G.r l → w'.heap[b]? = w.heap[b]? := fun b hb => setRow_other w _ b _ hb
  have hnew : w'.heap[G.r l]? = some (.cells cur' e (0, 0)) := setRow_heap w _ cur _ e _ hcur
  have hsz : w'.heap.size = w.heap.size := by simp [w', World.setRow]
  have hcur' : cur'.toList = cur.toList.take off ++ us ++ cur.toList.drop (off + us.length) := rfl
  have hcs' : cur'.size = cur.size := by
    have : cur'.toList.length = cur.toList.length := by rw [hcur']; simp [husl]; omega
    simpa using this
  have hnold : ∀ b, C.old b → b ≠ G.r l := fun b hb e => (hG.1 _ _ hgl).1 (e ▸ hb)
  have hbel : Stays C.old w w' := ⟨rfl, rfl, rfl, by omega, fun b hb => hother b (hnold b hb), fun b _ => by
    by_cases hb : b = G.r l
    · rw [hb, hnew, hcur]; simp [rowForm, hcs']
    · rw [hother b hb]⟩
  unfold Oper.wp
  rw [hrun, Oper.upon_skip]
  refine hK' _ _ _ hK ⟨hS.fp, hS.below.trans hbel, hS.dfs, hS.size, G, ⟨fun b q hb => by rw [hsz]; exact hG.1 b q hb, hG.2⟩, fun s' y' hy' => ?_⟩
  obtain ⟨z, hz, rfl⟩ := upd_at hy'
  have hzo := hE s' z hz
  have keep : ∀ z : SV, l ∉ z.labels → Ok C w G z ((a.put none undef).tmps.getD s' undef) → Ok C w' G z ((a.put none undef).tmps.getD s' undef) := by
    intro z hl hzo
    refine Ok.keep hS.fp hbel z _ (fun q hq => ⟨rfl, fun _ hb => hb, fun b hb => hother b (fun e => ?_)⟩) hzo
    subst e; rw [hgl] at hb; exact hl (Option.some.inj hb ▸ hq)
  have hint : ∀ {cs : List PV} {vs : List Value}, RepL w (G.inn l) cs vs → RepL w' (G.inn l) cs vs :=
    fun {cs vs} h => RepL.mono (fun _ h => h) (fun b hb => hother b hb.2) cs vs h
  have hintb : ∀ {cs : List PV} {vs : List Value}, RepL w (G.bx C l) cs vs → RepL w' (G.bx C l) cs vs :=
    fun {cs vs} h => RepL.mono (fun _ h => h) (fun b hb => hother b (hb.elim (fun h => h.2) (fun h => hnold b (hS.fp.2 b h)))) cs vs h
  have hp' : RepL w' (G.inn l) p.cells us := RepL.mono (fun _ h => h) (fun b hb => hother b hb.2) _ _ hcells
  have hpb : RepL w' (G.bx C l) p.cells us := RepL.mono (fun _ h => .inl h) (fun _ _ => rfl) _ _ hp'
  have hput : ∀ {vs : List Value}, RepL w (G.inn l) cs vs → RepL w' (G.inn l) (putAt cs off p.cells) (vs.take off ++ us ++ vs.drop (off + us.length)) := fun h => (hint h).putAt hp' off
  have hputb : ∀ {vs : List Value}, RepL w (G.bx C l) cs vs → RepL w' (G.bx C l) (putAt cs off p.cells) (vs.take off ++ us ++ vs.drop (off + us.length)) := fun h => (hintb h).putAt hpb off
  split
  · rename_i hin
    have hzs : z.bare = s := by
      have := hhs s' (by simpa using hin)
      rw [hz] at this; exact Option.some.inj this
    have ownp : ∀ (v : Value) (e' size m : Nat), (∃ vs', w.ownsRow 0 e' size v m vs' ∧ (∀ b, v.ownBlock = some b → b = G.r l ∧ G.g b = some l) ∧ RepL w (G.inn l) cs vs') →
        ∃ vs', w'.ownsRow 0 e' size v m vs' ∧ (∀ b, v.ownBlock = some b → b = G.r l ∧ G.g b = some l) ∧ RepL w' (G.inn l) (putAt cs off p.cells) vs' := by
      rintro v e' size m ⟨vs', ho, hb, hRR⟩
      rcases ho.2 with ⟨hv, hm⟩ | ⟨g, cap, cur0, hv, hbg, hg, hmc, hcm, hcs0, htk⟩
      · exfalso
        have : vs' = [] := List.eq_nil_of_length_eq_zero (by have := ho.1; rw [hm] at this; simpa using this)
        subst this
        exact hne (List.eq_nil_of_length_eq_zero (by simpa using hRR.length.symm))
      · have hgr := (hb g (by rw [hv]; rfl)).1
        subst hgr
        rw [hcur] at hg
        injection hg with hg
        injection hg with hg1 hg2
        subst hg1; subst hg2
        have hfit : off + us.length ≤ m * size := by rw [husl, ← ho.1, hRR.length]; exact hk
        have hvl : vs'.length = m * size := ho.1
        refine ⟨vs'.take off ++ us ++ vs'.drop (off + us.length), ⟨?_, .inr ⟨G.r l, cap, cur', hv, hbg, hnew, hmc, hcm, by rw [hcs', hcs0], ?_⟩⟩, hb, hput hRR⟩
        · simp [hvl]; omega
        · rw [hcur', ← htk]
          have hle : m * size ≤ cur.toList.length := by rw [Array.length_toList, hcs0]; exact Nat.mul_le_mul_right _ hmc
          have hlen1 : (cur.toList.take off ++ us).length = off + us.length := by simp; omega
          rw [List.take_append, hlen1, List.take_of_length_le (by rw [hlen1]; omega), List.take_take, Nat.min_eq_left (by omega), List.drop_take]
    have hglq : G.g (G.r l) = some l := hgl
    subst hzs
    cases z with
    | own q e' size m ds =>
      simp only [SV.bare, SV.root, Option.some.injEq, Prod.mk.injEq] at hr
      obtain ⟨rfl, rfl⟩ := hr
      exact ownp _ e' size m hzo
    | boxS bl bt q e' size m ds =>
      simp only [SV.bare, SV.root, Option.some.injEq, Prod.mk.injEq] at hr
      obtain ⟨rfl, rfl⟩ := hr
      obtain ⟨u, hv, hg, hhh, hblq, hown⟩ := hzo
      have hrne : G.r bl ≠ G.r q := fun e => by rw [e, hglq] at hg; exact hblq (Option.some.inj hg).symm
      exact ⟨u, hv, hg, by rw [hother _ hrne]; exact hhh, hblq, ownp u e' size m hown⟩
    | box q e' ds =>
      simp only [SV.bare, SV.root, Option.some.injEq, Prod.mk.injEq] at hr
      obtain ⟨rfl, rfl⟩ := hr
      obtain ⟨vs', hv, hg, hhh, hRR⟩ := hzo
      rw [hcur] at hhh
      injection hhh with hhh
      injection hhh with hh1 hh2
      subst hh1; subst hh2
      refine ⟨vs'.take off ++ us ++ vs'.drop (off + us.length), hv, hg, ?_, hputb hRR⟩
      rw [hnew]
    | vbox q e' o k ds =>
      simp only [SV.bare, SV.root, Option.some.injEq, Prod.mk.injEq] at hr
      obtain ⟨rfl, rfl⟩ := hr
      obtain ⟨o', cap, vs', hv, hc, ho, hg, hhh, hRR⟩ := hzo
      rw [hcur] at hhh
      injection hhh with hhh
      injection hhh with hh1 hh2
      subst hh1; subst hh2
      refine ⟨o', cap, vs'.take off ++ us ++ vs'.drop (off + us.length), hv, hc, ho, hg, ?_, hputb hRR⟩
      rw [hnew]
    | _ => simp [SV.bare, SV.root] at hr
  · split
    · rename_i had
      cases z with
      | adr q o => exact hzo
      | _ => simp [SV.isAdr] at had
    · split
      · trivial
      · rename_i hl
        exact keep z (by simpa using hl) hzo
theorem op_storeI {t : TypeId} {k : Nat} (ht : ∀ w, (sizeOf t).run P w = .ok k w) {x y : Operand} {l off : Nat} (h : Nat) {s sy : SV} {cs : List PV} {p : PV} {dst : Option Nat} (hs : List Nat) (hhs : ∀ t ∈ hs, σ.at t = some s)
    (hx : σ.ev x = some (.adr l off) ∨ (off = 0 ∧ ∃ e, σ.ev x = some (.box l e cs))) (hh : σ.at h = some s) (hr : s.root = some (l, cs)) (hy : σ.ev y = some sy) (hsy : (sy.pv = some p ∧ p.flat = true) ∨ sy = .inl l p) (hpk : p.cells.length = k)
    (hk : off + k ≤ cs.length) (hk0 : 0 < k) (hdst : dst = none) (hK : K (σ.upd hs l (putAt cs off p.cells))) : opT P n ⟨dst, .store t x y, ty, pos, af, gd⟩ σ K :=
  op_storeG ht h hs (fun t hm => by rw [hhs t hm]; cases s <;> first | rfl | simp [SV.root] at hr) hx hh hr hy hsy hpk hk hk0 hdst hK
theorem op_store {t : TypeId} {k : Nat} (ht : ∀ w, (sizeOf t).run P w = .ok k w) {x y : Operand} {l off : Nat} (h : Nat) {s sy : SV} {cs : List PV} {p : PV} {dst : Option Nat} (hs : List Nat) (hhs : ∀ t ∈ hs, σ.at t = some s)
    (hx : σ.ev x = some (.adr l off) ∨ (off = 0 ∧ ∃ e, σ.ev x = some (.box l e cs))) (hh : σ.at h = some s) (hr : s.root = some (l, cs)) (hy : σ.ev y = some sy) (hsy : sy.pv = some p) (hf : p.flat = true) (hpk : p.cells.length = k)
    (hk : off + k ≤ cs.length) (hk0 : 0 < k) (hdst : dst = none) (hK : K (σ.upd hs l (putAt cs off p.cells))) : opT P n ⟨dst, .store t x y, ty, pos, af, gd⟩ σ K :=
  op_storeI ht h hs hhs hx hh hr hy (.inl ⟨hsy, hf⟩) hpk hk hk0 hdst hK
end
end Go.Proofs.YtfagllolcalfiabDoor
