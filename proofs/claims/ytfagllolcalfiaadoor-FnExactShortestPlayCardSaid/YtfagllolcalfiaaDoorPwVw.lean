/- Parts of rows that are written to: slices of variables that are arrays, of slices that the function made; copy and clear over them. Own work; no conditions; nothing here is about one program. -/
import Derived.Test.YtfagllolcalfiaaDoorPwAs
namespace Go.Proofs.YtfagllolcalfiaaDoor
open Go.RowKit
set_option linter.unusedVariables false
set_option linter.unusedSimpArgs false

section
variable {P : Program} {n : Nat} {σ : St} {K : St → Prop} {d : Nat} {ty : TypeId} {pos : String} {af : Array Edge} {gd : Option (Nat × Bool)}

/-- A slice of a variable that is an array. -/
theorem q_sliceBox {t N e : Nat} (hty : P.underlying t = some (.array N e)) (hsz : ∀ w, (sizeOf e).run P w = .ok 1 w) {x : Operand} {lo hi : Option Operand} {l T : Nat} {cs : List PV} {i j : Int} (hx : σ.ev x = some (.box l T cs))
    (hl : match lo with | none => i = 0 | some l => ∃ k, σ.ev l = some (.val (.int k i))) (hh : match hi with | none => j = N | some h => ∃ k, σ.ev h = some (.val (.int k j)))
    (h0 : 0 ≤ i) (h1 : i ≤ j) (h2 : j ≤ N) (hd : d < n) : quietT P n ⟨some d, .slice t x lo hi none, ty, pos, af, gd⟩ σ d (.view l i.toNat (j.toNat - i.toNat)) := by
  refine ⟨rfl, hd, fun C a w G hS hG hE => ?_⟩
  obtain ⟨vs, hv, hg, hhb, hr⟩ := hE.ev hx
  have hlb : ∀ (w2 : World) (y : Nat), i ≤ y → ∀ code, match lo with | none => True | some l => (Instr.sliceBound (a.eval l) y code).run P w2 = .ok i.toNat w2 := by
    intro w2 y hy code
    cases lo with
    | none => trivial
    | some l =>
      obtain ⟨k, hk⟩ := hl
      have e2 := hE.ev hk
      simp only [Ok, Rep] at e2
      simp [Instr.sliceBound, asIntOf, e2, h0, hy]
  have hhb2 : ∀ (w2 : World) (y : Nat), j ≤ y → ∀ code, match hi with | none => True | some h => (Instr.sliceBound (a.eval h) y code).run P w2 = .ok j.toNat w2 := by
    intro w2 y hy code
    cases hi with
    | none => trivial
    | some h =>
      obtain ⟨k, hk⟩ := hh
      have e2 := hE.ev hk
      simp only [Ok, Rep] at e2
      simp [Instr.sliceBound, asIntOf, e2, show 0 ≤ j by omega, hy]
  have hrun : ∀ w2, (execOp a.eval ⟨some d, .slice t x lo hi none, ty, pos, af, gd⟩).run P w2 =
      .ok (.value (.slice (some (if N = i.toNat then (⟨G.r l, 0, none⟩ : Addr) else (⟨G.r l, 0, none⟩ : Addr).add (i.toNat * 1))) (j.toNat - i.toNat) (N - i.toNat))) w2 := by
    intro w2
    have q1 := hlb w2 j.toNat (by omega)
    have q2 := hhb2 w2 N (by omega)
    have q3 := hlb w2 N (by omega)
    cases lo <;> cases hi <;> simp only at hl hh q1 q2 q3
    · subst hl; subst hh
      simp [execOp, hv, Instr.sliceAt, Instr.sureAddr, Instr.sliceBounds, run_underlying hty, hsz]
    · subst hl
      simp [execOp, hv, Instr.sliceAt, Instr.sureAddr, Instr.sliceBounds, run_underlying hty, hsz, q2]
    · subst hh
      simp [execOp, hv, Instr.sliceAt, Instr.sureAddr, Instr.sliceBounds, run_underlying hty, hsz, q3]
    · simp [execOp, hv, Instr.sliceAt, Instr.sureAddr, Instr.sliceBounds, run_underlying hty, hsz, q1, q2]
  refine ⟨_, fun w2 _ => hrun w2, ?_⟩
  by_cases hN : N = i.toNat
  · rw [if_pos hN]
    exact ⟨0, _, rfl, by omega, fun h => by omega⟩
  · rw [if_neg hN]
    exact ⟨i.toNat, N - i.toNat, by simp [Addr.add_lit], by omega, fun _ => rfl⟩

/-- A slice of a slice that the function made, to be written to. -/
theorem q_sliceOwn {t e size bytes : Nat} {zc : List PV} (hty : SlTy P t e size bytes zc) {x : Operand} {lo hi : Option Operand} {l e' s' m : Nat} {cs : List PV} {i j : Int} (hx : σ.ev x = some (.own l e' s' m cs)) (hm0 : m ≠ 0)
    (hl : match lo with | none => i = 0 | some l => ∃ k, σ.ev l = some (.val (.int k i))) (hh : match hi with | none => j = m | some h => ∃ k, σ.ev h = some (.val (.int k j)))
    (h0 : 0 ≤ i) (h1 : i ≤ j) (h2 : j ≤ m) (hd : d < n) : quietT P n ⟨some d, .slice t x lo hi none, ty, pos, af, gd⟩ σ d (.view l (i.toNat * size) (j.toNat - i.toNat)) := by
  refine ⟨rfl, hd, fun C a w G hS hG hE => ?_⟩
  obtain ⟨g1, ii, z, g2, g3, g4, _⟩ := hty
  obtain ⟨vs, ho, hb, hr⟩ := hE.ev hx
  have hlb : ∀ (w2 : World) (y : Nat), i ≤ y → ∀ code, match lo with | none => True | some l => (Instr.sliceBound (a.eval l) y code).run P w2 = .ok i.toNat w2 := by
    intro w2 y hy code
    cases lo with
    | none => trivial
    | some l =>
      obtain ⟨k, hk⟩ := hl
      have e2 := hE.ev hk
      simp only [Ok, Rep] at e2
      simp [Instr.sliceBound, asIntOf, e2, h0, hy]
  have hhb2 : ∀ (w2 : World) (y : Nat), j ≤ y → ∀ code, match hi with | none => True | some h => (Instr.sliceBound (a.eval h) y code).run P w2 = .ok j.toNat w2 := by
    intro w2 y hy code
    cases hi with
    | none => trivial
    | some h =>
      obtain ⟨k, hk⟩ := hh
      have e2 := hE.ev hk
      simp only [Ok, Rep] at e2
      simp [Instr.sliceBound, asIntOf, e2, show 0 ≤ j by omega, hy]
  rcases ho.2 with ⟨_, hm⟩ | ⟨g, cap, cur, hv, hbg, hgg, hmc, rest⟩
  · exact absurd hm hm0
  have hrun : ∀ w2, (execOp a.eval ⟨some d, .slice t x lo hi none, ty, pos, af, gd⟩).run P w2 =
      .ok (.value (.slice (if cap = i.toNat then some ⟨g, 0, none⟩ else (some (⟨g, 0, none⟩ : Addr)).map (·.add (i.toNat * size))) (j.toNat - i.toNat) (cap - i.toNat))) w2 := by
    intro w2
    have q1 := hlb w2 j.toNat (by omega)
    have q2 := hhb2 w2 cap (by omega)
    have q3 := hlb w2 m (by omega)
    cases lo <;> cases hi <;> simp only at hl hh q1 q2 q3
    · subst hl; subst hh
      simp [execOp, hv, Instr.sliceAt, Instr.slice, Instr.sliceBounds, run_underlying g1, sizeOf, typeInfo, g2]
    · subst hl
      simp [execOp, hv, Instr.sliceAt, Instr.slice, Instr.sliceBounds, run_underlying g1, sizeOf, typeInfo, g2, q2]
    · subst hh
      simp [execOp, hv, Instr.sliceAt, Instr.slice, Instr.sliceBounds, run_underlying g1, sizeOf, typeInfo, g2, g4, q3]
    · simp [execOp, hv, Instr.sliceAt, Instr.slice, Instr.sliceBounds, run_underlying g1, sizeOf, typeInfo, g2, g4, q1, q2]
  have hgr : g = G.r l := (hb g (by rw [hv]; rfl)).1
  subst hgr
  refine ⟨_, fun w2 _ => hrun w2, ?_⟩
  by_cases hN : cap = i.toNat
  · rw [if_pos hN]
    exact ⟨0, _, rfl, by omega, fun h => by omega⟩
  · rw [if_neg hN]
    exact ⟨i.toNat * size, cap - i.toNat, by simp [Addr.add_lit], by omega, fun _ => rfl⟩

/-- Cells copied into a part of a variable that is an array. -/
theorem op_copyV {t u e : Nat} (hu : P.underlying t = some (.slice e)) (hs1 : (P.info? e).map (·.size) = some 1) {x y : Operand} {l off k m T : Nat} {cs ds : List PV} {sy : SV} (h : Nat) (hx : σ.ev x = some (.view l off k)) (hh : σ.at h = some (.box l T cs))
    (hy : σ.ev y = some sy) (hsy : sy.pv = some (.sl m ds)) (hf : PV.flatL ds = true) (hlen : ds.length = m) (hmk : m ≤ k) (hfit : off + k ≤ cs.length) (hd : d < n)
    (hK : K ((d, .val (.int .i64 m)) :: σ.upd [h] l (putAt cs off ds))) :
    opT P n ⟨some d, .call { callee := .builtin .copy, args := #[x, y], argTypes := #[t, u] }, ty, pos, af, gd⟩ σ K := by
  intro C a w hS K' Q hK'
  obtain ⟨G, hG, hE⟩ := hS.gh
  obtain ⟨off', cap, hxv, hkc, hoff⟩ := hE.ev hx
  obtain ⟨vs, hbv, hg, hhb, hr⟩ := hE h _ hh
  have hoy := (hE.ev hy).rep hsy
  have hvl : vs.length = cs.length := hr.length
  have key : ∃ w' ws, (Builtin.copy_ #[t, u] ty #[a.eval x, a.eval y]).run P w = .ok (goInt m) w' ∧ w' = w.setRow (G.r l) ws.toArray ∧ RepL w (G.bx C l) (putAt cs off ds) ws := by
    by_cases hm : m = 0
    · subst hm
      have hds : ds = [] := List.eq_nil_of_length_eq_zero hlen
      subst hds
      refine ⟨w, vs, ?_, (setRow_self w (G.r l) vs.toArray T (0, 0) hhb).symm, ?_⟩
      · have hyv : ∃ ad cp, a.eval y = .slice ad 0 cp := by
          simp only [Rep] at hoy
          rcases hoy with ⟨hv, _⟩ | ⟨b, off, cap, us, hv, _⟩
          · exact ⟨_, _, hv⟩
          · exact ⟨_, _, hv⟩
        obtain ⟨a2, c2, e2⟩ := hyv
        rw [hxv, e2]
        exact run_copy_none (P := P) w t u ty e _ a2 k cap 0 c2 hu hs1 (by simp)
      · unfold Go.Proofs.YtfagllolcalfiaaDoor.putAt
        simpa using hr
    · simp only [Rep] at hoy
      rcases hoy with ⟨_, hm0, _⟩ | ⟨b, off2, cap2, us, hv2, hb2, hkc2, hcell, hus⟩
      · exact absurd hm0 hm
      have hul : us.length = m := by rw [hus.length, hlen]
      have ho : off' = off := hoff (by omega)
      subst ho
      have hrun := run_copy_row (P := P) w t u ty e (G.r l) off' k cap ⟨b, off2, none⟩ m cap2 vs.toArray T us hu hs1 hhb (by rw [hul]; exact (Nat.min_eq_left hmk).symm) (fun j v hj => by rw [Addr.add_lit]; exact hcell j v hj) (by rw [hul]; simp; omega) hus.oneCells
      rw [← hxv, ← hv2, hul] at hrun
      refine ⟨_, _, hrun, rfl, ?_⟩
      have hus' : RepL w (G.bx C l) ds us := RepL.flat ds us hf hus
      show RepL w (G.bx C l) (cs.take off' ++ ds ++ cs.drop (off' + ds.length)) (vs.take off' ++ us ++ vs.drop (off' + m))
      rw [hlen]
      exact ((hr.take off').append hus').append (hr.drop _)
  obtain ⟨w', ws, hrun, rfl, hws⟩ := key
  have hop : (execOp a.eval ⟨some d, .call { callee := .builtin .copy, args := #[x, y], argTypes := #[t, u] }, ty, pos, af, gd⟩).run P w = .ok (.value (goInt m)) (w.setRow (G.r l) ws.toArray) := by
    simp [execOp, resolve, invoke, builtin, hrun]
  have hpl : (putAt cs off ds).length = cs.length := by
    unfold Go.Proofs.YtfagllolcalfiaaDoor.putAt
    simp only [List.length_append, List.length_take, List.length_drop]; omega
  have hwl : ws.length = vs.length := by rw [hws.length, hpl, hvl]
  have hother : ∀ b, b ≠ G.r l → (w.setRow (G.r l) ws.toArray).heap[b]? = w.heap[b]? := fun b hb => setRow_other w _ b _ hb
  have hnew : (w.setRow (G.r l) ws.toArray).heap[G.r l]? = some (.cells ws.toArray T (0, 0)) := setRow_heap w _ vs.toArray _ T _ hhb
  have hsz : (w.setRow (G.r l) ws.toArray).heap.size = w.heap.size := by simp [World.setRow]
  have hnold : ∀ b, C.old b → b ≠ G.r l := fun b hb e => (hG.1 _ _ hg).1 (e ▸ hb)
  have hbel : Stays C.old w (w.setRow (G.r l) ws.toArray) := ⟨rfl, rfl, rfl, by omega, fun b hb => hother b (hnold b hb), fun b _ => by
    by_cases hb : b = G.r l
    · rw [hb, hnew, hhb]; simp [rowForm, hwl]
    · rw [hother b hb]⟩
  unfold Oper.wp
  rw [hop, Oper.upon_value]
  have hG' : G.fits C (w.setRow (G.r l) ws.toArray) := ⟨fun b q hb => by rw [hsz]; exact hG.1 b q hb, hG.2⟩
  have hE' : Env C (σ.upd [h] l (putAt cs off ds)) a (w.setRow (G.r l) ws.toArray) G := by
    intro s' y' hy'
    obtain ⟨z, hz, rfl⟩ := upd_at hy'
    split
    · rename_i hin'
      have hsh : s' = h := by simpa using hin'
      subst hsh
      rw [hh] at hz; cases hz
      refine ⟨ws, hbv, hg, hnew, RepL.mono (fun _ hb => hb) (fun b hb => hother b ?_) _ ws hws⟩
      rcases hb with hb | hb
      · exact hb.2
      · exact hnold b (hS.fp.2 b hb)
    · split
      · rename_i had
        cases z with
        | adr q o => exact hE s' _ hz
        | _ => simp [SV.isAdr] at had
      · split
        · trivial
        · rename_i hl
          refine Ok.keep hS.fp hbel z _ (fun q hq => ⟨rfl, fun b hb => hb, fun b hb => hother b (fun e => ?_)⟩) (hE s' z hz)
          subst e
          rw [hg] at hb
          exact hl (by simpa using (Option.some.inj hb ▸ hq : l ∈ z.labels))
  refine hK' _ _ _ hK ?_
  have hS' : Sim n C (σ.upd [h] l (putAt cs off ds)) a (w.setRow (G.r l) ws.toArray) := ⟨hS.fp, hS.below.trans hbel, hS.dfs, hS.size, G, hG', hE'⟩
  exact hS'.put hG' hE' hd (by simp [Ok, Rep, goInt])

/-- A part of a slice that the function made, its elements of one cell, is filled with zeros. -/
theorem op_clearO {t e bytes : Nat} {zp : PV} (hty : SlTy P t e 1 bytes [zp]) (hzf : zp.flat = true) {x : Operand} {l off k m : Nat} {cs : List PV} {dst : Option Nat} (hs : List Nat) (hhs : ∀ s ∈ hs, σ.at s = some (.own l e 1 m cs)) (h : Nat) (hh : σ.at h = some (.own l e 1 m cs))
    (hx : σ.ev x = some (.view l off k)) (hfit : off + k ≤ m) (hdst : dst = none) (hK : K (σ.upd hs l (putAt cs off (List.replicate k zp)))) :
    opT P n ⟨dst, .call { callee := .builtin .clear, args := #[x], argTypes := #[t] }, ty, pos, af, gd⟩ σ K := by
  subst hdst
  intro C a w hS K' Q hK'
  obtain ⟨G, hG, hE⟩ := hS.gh
  obtain ⟨off', cap', hxv, hkc, hoff⟩ := hE.ev hx
  obtain ⟨vs, ho, hob, hr⟩ := hE h _ hh
  have hvl : vs.length = m := by have := ho.1; omega
  have hcl : cs.length = m := by rw [← hr.length, hvl]
  obtain ⟨ht, ii, z, g2, g3, g4, _, g6, _, _, g7⟩ := hty
  have hzv : ∀ w, (zeroValue e).run P w = .ok z w := fun w => by simp [zeroValue, typeInfo, g2, g3]
  obtain ⟨z1, hz1, hzr⟩ : ∃ z1, z.cells = #[z1] ∧ ∀ (F : Nat → Prop) (w : World), Rep w F zp z1 ∧ z1.oneCell' = true := by
    cases hzc : z.cells.toList with
    | nil => rw [hzc] at g7; simp [cvs] at g7
    | cons z1 r =>
      rw [hzc] at g7
      cases r with
      | cons _ _ => simp [← Array.length_toList, hzc] at g6
      | nil =>
        refine ⟨z1, by rw [← Array.toArray_toList (xs := z.cells), hzc], fun F w => ?_⟩
        obtain ⟨v, r2, hvr, ho1, h1, _⟩ := cvs_ok (F := F) (w := w) g7
        simp only [List.cons.injEq] at hvr
        rw [hvr.1]
        exact ⟨h1, h1.oneCell ho1⟩
  have hzl : (Builtin.zeroCells z.cells k).toList = List.replicate k z1 := by
    rw [hz1]
    simp [Builtin.zeroCells]
    apply List.ext_getElem
    · simp
    · intro i h1 h2
      simp [Nat.mod_one]
  have hrep : ∀ (F : Nat → Prop) (w : World), RepL w F (List.replicate k zp) (List.replicate k z1) := fun F w => by
    clear hfit hK hoff hxv hkc hzl hx
    induction k with
    | zero => rfl
    | succ k ih =>
      rw [List.replicate_succ, List.replicate_succ]
      have h1 := cvs_ok (F := F) (w := w) g7
      rw [hz1] at h1
      obtain ⟨v, r2, hvr, ho1, h1, _⟩ := h1
      simp only [List.cons.injEq] at hvr
      rw [hvr.1]
      exact ⟨v, _, rfl, ho1, h1, by rw [← hvr.1]; exact ih⟩
  by_cases hk : k = 0
  · subst hk
    have hrun : (execOp a.eval ⟨none, .call { callee := .builtin .clear, args := #[x], argTypes := #[t] }, ty, pos, af, gd⟩).run P w = .ok (.value (.tuple #[])) w := by
      simp [execOp, resolve, invoke, builtin, hxv, Builtin.clear_, run_underlying ht]
    unfold Oper.wp
    rw [hrun, Oper.upon_value]
    have hp : putAt cs off (List.replicate 0 zp) = cs := by unfold Go.Proofs.YtfagllolcalfiaaDoor.putAt; simp
    rw [hp] at hK
    refine hK' _ _ _ hK ⟨hS.fp, hS.below, hS.dfs, by simpa [Act.put] using hS.size, G, hG, fun s' y' hy' => ?_⟩
    obtain ⟨z, hz, rfl⟩ := upd_at hy'
    show Ok C w G _ ((a.put none (.tuple #[])).tmps.getD s' undef)
    have hsame : (a.put none (.tuple #[])).tmps.getD s' undef = a.tmps.getD s' undef := rfl
    rw [hsame]
    split
    · rename_i hin
      have := hhs s' (by simpa using hin)
      rw [hz] at this; cases this
      exact hE s' _ hz
    · split
      · exact hE s' _ hz
      · split
        · trivial
        · exact hE s' _ hz
  · have ho' : off' = off := hoff hk
    subst ho'
    rcases ho.2 with ⟨_, hm0⟩ | ⟨g, cap, cur, hv, hbg, hgg, hmc, hcm, hcs, htk⟩
    · exact absurd hm0 (by omega)
    have hgr : g = G.r l := (hob g (by rw [hv]; rfl)).1
    have hgl : G.g (G.r l) = some l := by have := (hob g (by rw [hv]; rfl)).2; rwa [hgr] at this
    subst hgr
    have hcul : cur.toList.length = cur.size := by simp
    have hst := run_storeCells_at P (G.r l) off' e (List.replicate k z1) 0 cur w hgg (by simp only [List.length_replicate]; omega) (fun u hu => by rw [List.eq_of_mem_replicate hu]; exact (hzr (fun _ => False) w).2)
    have hrun : (execOp a.eval ⟨none, .call { callee := .builtin .clear, args := #[x], argTypes := #[t] }, ty, pos, af, gd⟩).run P w = .ok (.value (.tuple #[])) (w.setRow (G.r l) (cur.toList.take (off' + 0) ++ List.replicate k z1 ++ cur.toList.drop (off' + 0 + (List.replicate k z1).length)).toArray) := by
      obtain ⟨k', rfl⟩ : ∃ k', k = k' + 1 := ⟨k - 1, by omega⟩
      simp only [execOp, resolve, invoke, builtin, Act.eval]
      simp [hxv, Builtin.clear_, run_underlying ht, hzv, hzl, hst]
    have hws0 : cur.toList.take (off' + 0) ++ List.replicate k z1 ++ cur.toList.drop (off' + 0 + (List.replicate k z1).length) = cur.toList.take off' ++ List.replicate k z1 ++ cur.toList.drop (off' + k) := by
      rw [Nat.add_zero, List.length_replicate]
    rw [hws0] at hrun
    generalize hws : cur.toList.take off' ++ List.replicate k z1 ++ cur.toList.drop (off' + k) = ws at hrun
    have hwl : ws.length = cur.size := by
      rw [← hws]; simp only [List.length_append, List.length_take, List.length_drop, List.length_replicate]; omega
    have htake : ws.take m = vs.take off' ++ List.replicate k z1 ++ vs.drop (off' + k) := by
      rw [← hws, ← htk, Nat.mul_one, List.take_append, List.take_append, List.take_take, List.take_take, List.take_of_length_le (l := List.replicate k z1) (by simp only [List.length_replicate, List.length_take]; omega), List.drop_take]
      simp only [List.length_append, List.length_take, List.length_replicate]
      rw [show min m off' = off' by omega, show min off' m = off' by omega, show m - (min off' cur.toList.length + k) = m - (off' + k) by omega]
    have hnew : (w.setRow (G.r l) ws.toArray).heap[G.r l]? = some (.cells ws.toArray e (0, 0)) := setRow_heap w _ cur _ e _ hgg
    have hother : ∀ b, b ≠ G.r l → (w.setRow (G.r l) ws.toArray).heap[b]? = w.heap[b]? := fun b hb => setRow_other w _ b _ hb
    have hsz : (w.setRow (G.r l) ws.toArray).heap.size = w.heap.size := by simp [World.setRow]
    have hnold2 : ∀ b, C.old b → b ≠ G.r l := fun b hb e => (hG.1 _ _ hgl).1 (e ▸ hb)
    have hbel : Stays C.old w (w.setRow (G.r l) ws.toArray) := ⟨rfl, rfl, rfl, by omega, fun b hb => hother b (hnold2 b hb), fun b _ => by
      by_cases hb : b = G.r l
      · rw [hb, hnew, hgg]; simp [rowForm, hwl]
      · rw [hother b hb]⟩
    have hrnew : RepL (w.setRow (G.r l) ws.toArray) (G.inn l) (putAt cs off' (List.replicate k zp)) (vs.take off' ++ List.replicate k z1 ++ vs.drop (off' + k)) := by
      show RepL _ (G.inn l) (cs.take off' ++ List.replicate k zp ++ cs.drop (off' + (List.replicate k zp).length)) _
      rw [List.length_replicate]
      have h1 := RepL.mono (w' := w.setRow (G.r l) ws.toArray) (F' := G.inn l) (fun _ hb => hb) (fun b hb => hother b hb.2) cs vs hr
      exact ((h1.take off').append (hrep _ _)).append (h1.drop _)
    unfold Oper.wp
    rw [hrun, Oper.upon_value]
    have hG' : G.fits C (w.setRow (G.r l) ws.toArray) := ⟨fun b q hb => by rw [hsz]; exact hG.1 b q hb, hG.2⟩
    refine hK' _ _ _ hK ⟨hS.fp, hS.below.trans hbel, hS.dfs, by simpa [Act.put] using hS.size, G, hG', fun s' y' hy' => ?_⟩
    obtain ⟨z', hz', rfl⟩ := upd_at hy'
    show Ok C _ G _ (a.tmps.getD s' undef)
    split
    · rename_i hin
      have := hhs s' (by simpa using hin)
      rw [hz'] at this; cases this
      obtain ⟨vs2, ho2, hob2, hr2⟩ := hE s' _ hz'
      refine ⟨vs.take off' ++ List.replicate k z1 ++ vs.drop (off' + k), ⟨?_, ?_⟩, hob2, hrnew⟩
      · simp only [List.length_append, List.length_take, List.length_drop, List.length_replicate]; omega
      · rcases ho2.2 with ⟨_, hm0⟩ | ⟨g2, cap2, cur2, hv2, hbg2, hgg2, hmc2, hcm2, hcs2, htk2⟩
        · exact absurd hm0 (by omega)
        · have hg2r := (hob2 g2 (by rw [hv2]; rfl)).1
          subst hg2r
          have hcc : cur2 = cur := by
            have h9 := hgg2.symm.trans hgg
            simp only [Option.some.injEq, Obj.cells.injEq] at h9
            exact h9.1
          subst hcc
          exact .inr ⟨G.r l, cap2, ws.toArray, hv2, hbg2, hnew, hmc2, hcm2, by simp only [List.size_toArray]; omega, by rw [Nat.mul_one]; exact htake⟩
    · split
      · rename_i had
        cases z' with
        | adr q o => exact hE s' _ hz'
        | _ => simp [SV.isAdr] at had
      · split
        · trivial
        · rename_i hl
          refine Ok.keep hS.fp hbel z' _ (fun q hq => ⟨rfl, fun b hb => hb, fun b hb => hother b (fun e => ?_)⟩) (hE s' z' hz')
          subst e
          rw [hgl] at hb
          exact hl (by simpa using (Option.some.inj hb ▸ hq : l ∈ z'.labels))

/-- What is handed back is part of the argument that is written to. -/
theorem imp_iop {n : Nat} {σ : St} {x : Nat} {p : PV} (h : σ.at x = some (.bor 2000 p)) : Imp n σ ((x, .iop p) :: σ) := by
  intro C a w hS
  obtain ⟨G, hG, hE⟩ := hS.gh
  refine ⟨hS.fp, hS.below, hS.dfs, hS.size, G, hG, fun t z hz => ?_⟩
  simp only [St.at] at hz
  split at hz
  · rename_i he; subst he
    simp only [Option.some.injEq] at hz; subst hz
    exact (hE x (.bor 2000 p) h : Rep w (G.see C 2000) p (a.tmps.getD x undef))
  · exact hE t z hz

theorem imp_iopO {n : Nat} {σ : St} {x e s m : Nat} {cs : List PV} (h : σ.at x = some (.own 2000 e s m cs)) : Imp n σ ((x, .iop (.sl m cs)) :: σ) := by
  intro C a w hS
  obtain ⟨G, hG, hE⟩ := hS.gh
  refine ⟨hS.fp, hS.below, hS.dfs, hS.size, G, hG, fun t z hz => ?_⟩
  simp only [St.at] at hz
  split at hz
  · rename_i he; subst he
    simp only [Option.some.injEq] at hz; subst hz
    exact Rep.mono (fun b hb => .inl hb) (fun _ _ => rfl) _ _ ((hE x _ h).rep (p := .sl m cs) rfl)
  · exact hE t z hz

end
end Go.Proofs.YtfagllolcalfiaaDoor
