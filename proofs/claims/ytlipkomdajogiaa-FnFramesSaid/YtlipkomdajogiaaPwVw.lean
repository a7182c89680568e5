/- Parts of rows that are written to: slices of variables that are arrays, of slices that the function made; copy and clear over them. Own work; no conditions; nothing here is about one program. -/
import Derived.Test.YtlipkomdajogiaaPwAs
namespace Go.Proofs.Ytlipkomdajogiaa
open Go.RowKit
set_option linter.unusedVariables false
set_option linter.unusedSimpArgs false
section
variable {P : Program} {n : Nat} {σ : St} {K : St → Prop} {d : Nat} {ty : TypeId} {pos : String} {af : Array Edge} {gd : Option (Nat × Bool)}
theorem q_sliceBox {t N e : Nat} (hty : P.underlying t = some (.array N e)) (hsz : ∀ w, (sizeOf e).run P w = .ok 1 w) {x : Operand} {lo hi : Option Operand} {l T : Nat} {cs : List PV} {i j : Int} (hx : σ.ev x = some (.box l T cs))
    (hl : match lo with | none => i = 0 | some l => ∃ k, σ.ev l = some (.val (.int k i))) (hh : match hi with | none => j = N | some h => ∃ k, σ.ev h = some (.val (.int k j)))
    (h0 : 0 ≤ i) (h1 : i ≤ j) (h2 : j ≤ N) (hd : d < n) : quietT P n ⟨some d, .slice t x lo hi none, ty, pos, af, gd⟩ σ d (.view l i.toNat (j.toNat - i.toNat)) := by
  refine ⟨rfl, hd, fun C a w G hS hG hE => ?_⟩
  obtain ⟨vs, hv, hg, hhb, hr⟩ := hE.ev hx
  have hlb : ∀ (w2 : World) (y : Nat), i ≤ y → ∀ code, match lo with | none => True | some l => (Instr.sliceBound (a.eval l) y code).run P w2 = .ok i.toNat w2 := by
    intro w2 y hy code
    cases lo with
    | none => trivial
    | some l =>
      obtain ⟨k, hk⟩ := hl
      have e2 := hE.ev hk
      simp only [Ok, Rep] at e2
      simp [Instr.sliceBound, asIntOf, e2, h0, hy]
  have hhb2 : ∀ (w2 : World) (y : Nat), j ≤ y → ∀ code, match hi with | none => True | some h => (Instr.sliceBound (a.eval h) y code).run P w2 = .ok j.toNat w2 := by
    intro w2 y hy code
    cases hi with
    | none => trivial
    | some h =>
      obtain ⟨k, hk⟩ := hh
      have e2 := hE.ev hk
      simp only [Ok, Rep] at e2
      simp [Instr.sliceBound, asIntOf, e2, show 0 ≤ j by omega, hy]
  have hrun : ∀ w2, (execOp a.eval ⟨some d, .slice t x lo hi none, ty, pos, af, gd⟩).run P w2 =
      .ok (.value (.slice (some (if N = i.toNat then (⟨G.r l, 0, none⟩ : Addr) else (⟨G.r l, 0, none⟩ : Addr).add (i.toNat * 1))) (j.toNat - i.toNat) (N - i.toNat))) w2 := by
    intro w2
    have q1 := hlb w2 j.toNat (by omega)
    have q2 := hhb2 w2 N (by omega)
    have q3 := hlb w2 N (by omega)
    cases lo <;> cases hi <;> simp only at hl hh q1 q2 q3
    · subst hl; subst hh
      simp [execOp, hv, Instr.sliceAt, Instr.sureAddr, Instr.sliceBounds, run_underlying hty, hsz]
    · subst hl
      simp [execOp, hv, Instr.sliceAt, Instr.sureAddr, Instr.sliceBounds, run_underlying hty, hsz, q2]
    · subst hh
      simp [execOp, hv, Instr.sliceAt, Instr.sureAddr, Instr.sliceBounds, run_underlying hty, hsz, q3]
    · simp [execOp, hv, Instr.sliceAt, Instr.sureAddr, Instr.sliceBounds, run_underlying hty, hsz, q1, q2]
  refine ⟨_, fun w2 _ => hrun w2, ?_⟩
  by_cases hN : N = i.toNat
  · rw [if_pos hN]
    exact ⟨0, _, rfl, by omega, fun h => by omega⟩
  · rw [if_neg hN]
    exact ⟨i.toNat, N - i.toNat, by simp [Addr.add_lit], by omega, fun _ => rfl⟩
theorem op_copyV {t u e : Nat} (hu : P.underlying t = some (.slice e)) (hs1 : (P.info? e).map (·.size) = some 1) {x y : Operand} {l off k m T : Nat} {cs ds : List PV} {sy : SV} (h : Nat) (hx : σ.ev x = some (.view l off k)) (hh : σ.at h = some (.box l T cs))
    (hy : σ.ev y = some sy) (hsy : sy.pv = some (.sl m ds)) (hf : PV.flatL ds = true) (hlen : ds.length = m) (hmk : m ≤ k) (hfit : off + k ≤ cs.length) (hd : d < n)
    (hK : K ((d, .val (.int .i64 m)) :: σ.upd [h] l (putAt cs off ds))) :
    opT P n ⟨some d, .call { callee := .builtin .copy, args := #[x, y], argTypes := #[t, u] }, ty, pos, af, gd⟩ σ K := by
  intro C a w hS K' Q hK'
  obtain ⟨G, hG, hE⟩ := hS.gh
  obtain ⟨off', cap, hxv, hkc, hoff⟩ := hE.ev hx
  obtain ⟨vs, hbv, hg, hhb, hr⟩ := hE h _ hh
  have hoy := (hE.ev hy).rep hsy
  have hvl : vs.length = cs.length := hr.length
  have key : ∃ w' ws, (Builtin.copy_ #[t, u] ty #[a.eval x, a.eval y]).run P w = .ok (goInt m) w' ∧ w' = w.setRow (G.r l) ws.toArray ∧ RepL w (G.bx C l) (putAt cs off ds) ws := by
    by_cases hm : m = 0
    · subst hm
      have hds : ds = [] := List.eq_nil_of_length_eq_zero hlen
      subst hds
      refine ⟨w, vs, ?_, (setRow_self w (G.r l) vs.toArray T (0, 0) hhb).symm, ?_⟩
      · have hyv : ∃ ad cp, a.eval y = .slice ad 0 cp := by
          simp only [Rep] at hoy
          rcases hoy with ⟨hv, _⟩ | ⟨b, off, cap, us, hv, _⟩
          · exact ⟨_, _, hv⟩
          · exact ⟨_, _, hv⟩
        obtain ⟨a2, c2, e2⟩ := hyv
        rw [hxv, e2]
        exact run_copy_none (P := P) w t u ty e _ a2 k cap 0 c2 hu hs1 (by simp)
      · unfold Go.Proofs.Ytlipkomdajogiaa.putAt
        simpa using hr
    · simp only [Rep] at hoy
      rcases hoy with ⟨_, hm0, _⟩ | ⟨b, off2, cap2, us, hv2, hb2, hkc2, hcell, hus⟩
      · exact absurd hm0 hm
      have hul : us.length = m := by rw [hus.length, hlen]
      have ho : off' = off := hoff (by omega)
      subst ho
      have hrun := run_copy_row (P := P) w t u ty e (G.r l) off' k cap ⟨b, off2, none⟩ m cap2 vs.toArray T us hu hs1 hhb (by rw [hul]; exact (Nat.min_eq_left hmk).symm) (fun j v hj => by rw [Addr.add_lit]; exact hcell j v hj) (by rw [hul]; simp; omega) hus.oneCells
      rw [← hxv, ← hv2, hul] at hrun
      refine ⟨_, _, hrun, rfl, ?_⟩
      have hus' : RepL w (G.bx C l) ds us := RepL.flat ds us hf hus
      show RepL w (G.bx C l) (cs.take off' ++ ds ++ cs.drop (off' + ds.length)) (vs.take off' ++ us ++ vs.drop (off' + m))
      rw [hlen]
      exact ((hr.take off').append hus').append (hr.drop _)
  obtain ⟨w', ws, hrun, rfl, hws⟩ := key
  have hop : (execOp a.eval ⟨some d, .call { callee := .builtin .copy, args := #[x, y], argTypes := #[t, u] }, ty, pos, af, gd⟩).run P w = .ok (.value (goInt m)) (w.setRow (G.r l) ws.toArray) := by
    simp [execOp, resolve, invoke, builtin, hrun]
  have hpl : (putAt cs off ds).length = cs.length := by
    unfold Go.Proofs.Ytlipkomdajogiaa.putAt
    simp only [List.length_append, List.length_take, List.length_drop]; omega
  have hwl : ws.length = vs.length := by rw [hws.length, hpl, hvl]
  have hother : ∀ b, b ≠ G.r l → (w.setRow (G.r l) ws.toArray).heap[b]? = w.heap[b]? := fun b hb => setRow_other w _ b _ hb
  have hnew : (w.setRow (G.r l) ws.toArray).heap[G.r l]? = some (.cells ws.toArray T (0, 0)) := setRow_heap w _ vs.toArray _ T _ hhb
  have hsz : (w.setRow (G.r l) ws.toArray).heap.size = w.heap.size := by simp [World.setRow]
  have hnold : ∀ b, C.old b → b ≠ G.r l := fun b hb e => (hG.1 _ _ hg).1 (e ▸ hb)
  have hbel : Stays C.old w (w.setRow (G.r l) ws.toArray) := ⟨rfl, rfl, rfl, by omega, fun b hb => hother b (hnold b hb), fun b _ => by
    by_cases hb : b = G.r l
    · rw [hb, hnew, hhb]; simp [rowForm, hwl]
    · rw [hother b hb]⟩
  unfold Oper.wp
  rw [hop, Oper.upon_value]
  have hG' : G.fits C (w.setRow (G.r l) ws.toArray) := ⟨fun b q hb => by rw [hsz]; exact hG.1 b q hb, hG.2⟩
  have hE' : Env C (σ.upd [h] l (putAt cs off ds)) a (w.setRow (G.r l) ws.toArray) G := by
    intro s' y' hy'
    obtain ⟨z, hz, rfl⟩ := upd_at hy'
    split
    · rename_i hin'
      have hsh : s' = h := by simpa using hin'
      subst hsh
      rw [hh] at hz; cases hz
      refine ⟨ws, hbv, hg, hnew, RepL.mono (fun _ hb => hb) (fun b hb => hother b ?_) _ ws hws⟩
      rcases hb with hb | hb
      · exact hb.2
      · exact hnold b (hS.fp.2 b hb)
    · split
      · rename_i had
        cases z with
        | adr q o => exact hE s' _ hz
        | _ => simp [SV.isAdr] at had
      · split
        · trivial
        · rename_i hl
          refine Ok.keep hS.fp hbel z _ (fun q hq => ⟨rfl, fun b hb => hb, fun b hb => hother b (fun e => ?_)⟩) (hE s' z hz)
          subst e
          rw [hg] at hb
          exact hl (by simpa using (Option.some.inj hb ▸ hq : l ∈ z.labels))
  refine hK' _ _ _ hK ?_
  have hS' : Sim n C (σ.upd [h] l (putAt cs off ds)) a (w.setRow (G.r l) ws.toArray) := ⟨hS.fp, hS.below.trans hbel, hS.dfs, hS.size, G, hG', hE'⟩
  exact hS'.put hG' hE' hd (by simp [Ok, Rep, goInt])
end
end Go.Proofs.Ytlipkomdajogiaa
