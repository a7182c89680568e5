/- A part of a slice of elements of any size is cleared. Own work; no conditions; nothing here is about one program. -/
import Derived.Test.YtfagllolcalfiabDoorPwMp
namespace Go.Proofs.YtfagllolcalfiabDoor
open Go.RowKit
set_option linter.unusedVariables false
set_option linter.unusedSimpArgs false
section
variable {P : Program} {n : Nat} {σ : St} {K : St → Prop} {d : Nat} {ty : TypeId} {pos : String} {af : Array Edge} {gd : Option (Nat × Bool)}
theorem op_clearG {t e size bytes : Nat} {zc : List PV} (hty : SlTy P t e size bytes zc) {x : Operand} {l off k m : Nat} {cs : List PV} {dst : Option Nat} (hs : List Nat) (hhs : ∀ s ∈ hs, σ.at s = some (.own l e size m cs)) (h : Nat) (hh : σ.at h = some (.own l e size m cs))
    (hx : σ.ev x = some (.view l off k)) (hfit : off + k * size ≤ m * size) (hdst : dst = none) (hK : K (σ.upd hs l (putAt cs off (zeros zc k)))) :
    opT P n ⟨dst, .call { callee := .builtin .clear, args := #[x], argTypes := #[t] }, ty, pos, af, gd⟩ σ K := by
  subst hdst
  intro C a w hS K' Q hK'
  obtain ⟨G, hG, hE⟩ := hS.gh
  obtain ⟨off', cap', hxv, hkc, hoff⟩ := hE.ev hx
  obtain ⟨vs, ho, hob, hr⟩ := hE h _ hh
  have hvl : vs.length = m * size := ho.1
  have hcl : cs.length = m * size := by rw [← hr.length, hvl]
  obtain ⟨ht, ii, z, g2, g3, g4, _, g6, g8, _, g7⟩ := hty
  have hzv : ∀ w, (zeroValue e).run P w = .ok z w := fun w => by simp [zeroValue, typeInfo, g2, g3]
  obtain ⟨zs, hzl⟩ : ∃ zs, (Builtin.zeroCells z.cells k).toList = zs := ⟨_, rfl⟩
  have hrep : ∀ (F : Nat → Prop) (w : World), RepL w F (zeros zc k) zs := fun F w => by rw [← hzl]; exact zeros_rep g7 k
  have hzcl : zc.length = size := by
    have := (cvs_ok (F := fun _ => False) (w := w) g7).length
    rw [← this, Array.length_toList]; exact g6
  have hzel : (zeros zc k).length = k * size := by simp [zeros, hzcl]
  have hzsl : zs.length = k * size := by rw [(hrep (fun _ => False) w).length, hzel]
  obtain ⟨M, hM⟩ : ∃ M, m * size = M := ⟨_, rfl⟩
  obtain ⟨N, hN⟩ : ∃ N, k * size = N := ⟨_, rfl⟩
  rw [hM] at hvl hcl hfit
  rw [hN] at hzel hzsl hfit
  by_cases hk : k = 0
  · subst hk
    have hrun : (execOp a.eval ⟨none, .call { callee := .builtin .clear, args := #[x], argTypes := #[t] }, ty, pos, af, gd⟩).run P w = .ok (.value (.tuple #[])) w := by
      simp [execOp, resolve, invoke, builtin, hxv, Builtin.clear_, run_underlying ht]
    unfold Oper.wp
    rw [hrun, Oper.upon_value]
    have hp : putAt cs off (zeros zc 0) = cs := by unfold Go.Proofs.YtfagllolcalfiabDoor.putAt; simp [zeros]
    rw [hp] at hK
    refine hK' _ _ _ hK ⟨hS.fp, hS.below, hS.dfs, by simpa [Act.put] using hS.size, G, hG, fun s' y' hy' => ?_⟩
    obtain ⟨z, hz, rfl⟩ := upd_at hy'
    show Ok C w G _ ((a.put none (.tuple #[])).tmps.getD s' undef)
    have hsame : (a.put none (.tuple #[])).tmps.getD s' undef = a.tmps.getD s' undef := rfl
    rw [hsame]
    split
    · rename_i hin
      have := hhs s' (by simpa using hin)
      rw [hz] at this; cases this
      exact hE s' _ hz
    · split
      · exact hE s' _ hz
      · split
        · trivial
        · exact hE s' _ hz
  · have ho' : off' = off := hoff hk
    subst ho'
    rcases ho.2 with ⟨_, hm0⟩ | ⟨g, cap, cur, hv, hbg, hgg, hmc, hcm, hcs, htk⟩
    · exact absurd hm0 (fun e => hk (by rw [e, Nat.zero_mul] at hM; have h0 : N = 0 := (by omega); rw [h0] at hN; exact (Nat.mul_eq_zero.1 hN).elim id fun z => by omega))
    have hgr : g = G.r l := (hob g (by rw [hv]; rfl)).1
    have hgl : G.g (G.r l) = some l := by have := (hob g (by rw [hv]; rfl)).2; rwa [hgr] at this
    subst hgr
    have hcul : cur.toList.length = cur.size := by simp
    rw [hM] at htk
    have hmc' : M ≤ cur.size := by have := congrArg List.length htk; rw [List.length_take, hvl] at this; omega
    have hst := run_storeCells_at P (G.r l) off' e (zs) 0 cur w hgg (by rw [hzsl]; omega) (fun u hu => (hrep (fun _ => False) w).oneCells u hu)
    have hrun : (execOp a.eval ⟨none, .call { callee := .builtin .clear, args := #[x], argTypes := #[t] }, ty, pos, af, gd⟩).run P w = .ok (.value (.tuple #[])) (w.setRow (G.r l) (cur.toList.take (off' + 0) ++ zs ++ cur.toList.drop (off' + 0 + zs.length)).toArray) := by
      obtain ⟨k', rfl⟩ : ∃ k', k = k' + 1 := ⟨k - 1, by omega⟩
      simp only [execOp, resolve, invoke, builtin, Act.eval]
      simp [hxv, Builtin.clear_, run_underlying ht, hzv, hzl, hst]
    have hws0 : cur.toList.take (off' + 0) ++ zs ++ cur.toList.drop (off' + 0 + zs.length) = cur.toList.take off' ++ zs ++ cur.toList.drop (off' + N) := by
      rw [Nat.add_zero, hzsl]
    rw [hws0] at hrun
    generalize hws : cur.toList.take off' ++ zs ++ cur.toList.drop (off' + N) = ws at hrun
    have hwl : ws.length = cur.size := by
      rw [← hws]; simp only [List.length_append, List.length_take, List.length_drop, hzsl]; omega
    have htake : ws.take M = vs.take off' ++ zs ++ vs.drop (off' + N) := by
      rw [← hws, ← htk, List.take_append, List.take_append, List.take_take, List.take_take, List.take_of_length_le (l := zs) (by simp only [hzsl, List.length_take]; omega), List.drop_take]
      simp only [List.length_append, List.length_take, hzsl]
      rw [show min M off' = off' by omega, show min off' M = off' by omega, show M - (min off' cur.toList.length + N) = M - (off' + N) by omega]
    have hnew : (w.setRow (G.r l) ws.toArray).heap[G.r l]? = some (.cells ws.toArray e (0, 0)) := setRow_heap w _ cur _ e _ hgg
    have hother : ∀ b, b ≠ G.r l → (w.setRow (G.r l) ws.toArray).heap[b]? = w.heap[b]? := fun b hb => setRow_other w _ b _ hb
    have hsz : (w.setRow (G.r l) ws.toArray).heap.size = w.heap.size := by simp [World.setRow]
    have hnold2 : ∀ b, C.old b → b ≠ G.r l := fun b hb e => (hG.1 _ _ hgl).1 (e ▸ hb)
    have hbel : Stays C.old w (w.setRow (G.r l) ws.toArray) := ⟨rfl, rfl, rfl, by omega, fun b hb => hother b (hnold2 b hb), fun b _ => by
      by_cases hb : b = G.r l
      · rw [hb, hnew, hgg]; simp [rowForm, hwl]
      · rw [hother b hb]⟩
    have hrnew : RepL (w.setRow (G.r l) ws.toArray) (G.inn l) (putAt cs off' (zeros zc k)) (vs.take off' ++ zs ++ vs.drop (off' + N)) := by
      show RepL _ (G.inn l) (cs.take off' ++ zeros zc k ++ cs.drop (off' + (zeros zc k).length)) _
      rw [hzel]
      have h1 := RepL.mono (w' := w.setRow (G.r l) ws.toArray) (F' := G.inn l) (fun _ hb => hb) (fun b hb => hother b hb.2) cs vs hr
      exact ((h1.take off').append (hrep _ _)).append (h1.drop _)
    unfold Oper.wp
    rw [hrun, Oper.upon_value]
    have hG' : G.fits C (w.setRow (G.r l) ws.toArray) := ⟨fun b q hb => by rw [hsz]; exact hG.1 b q hb, hG.2⟩
    refine hK' _ _ _ hK ⟨hS.fp, hS.below.trans hbel, hS.dfs, by simpa [Act.put] using hS.size, G, hG', fun s' y' hy' => ?_⟩
    obtain ⟨z', hz', rfl⟩ := upd_at hy'
    show Ok C _ G _ (a.tmps.getD s' undef)
    split
    · rename_i hin
      have := hhs s' (by simpa using hin)
      rw [hz'] at this; cases this
      obtain ⟨vs2, ho2, hob2, hr2⟩ := hE s' _ hz'
      refine ⟨vs.take off' ++ zs ++ vs.drop (off' + N), ⟨?_, ?_⟩, hob2, hrnew⟩
      · rw [hM]; simp only [List.length_append, List.length_take, List.length_drop, hzsl]; omega
      · rcases ho2.2 with ⟨_, hm0⟩ | ⟨g2, cap2, cur2, hv2, hbg2, hgg2, hmc2, hcm2, hcs2, htk2⟩
        · exact absurd hm0 (fun e => hk (by rw [e, Nat.zero_mul] at hM; have h0 : N = 0 := (by omega); rw [h0] at hN; exact (Nat.mul_eq_zero.1 hN).elim id fun z => by omega))
        · have hg2r := (hob2 g2 (by rw [hv2]; rfl)).1
          subst hg2r
          have hcc : cur2 = cur := by
            have h9 := hgg2.symm.trans hgg
            simp only [Option.some.injEq, Obj.cells.injEq] at h9
            exact h9.1
          subst hcc
          exact .inr ⟨G.r l, cap2, ws.toArray, hv2, hbg2, hnew, hmc2, hcm2, by simp only [List.size_toArray]; omega, by rw [hM]; exact htake⟩
    · split
      · rename_i had
        cases z' with
        | adr q o => exact hE s' _ hz'
        | _ => simp [SV.isAdr] at had
      · split
        · trivial
        · rename_i hl
          refine Ok.keep hS.fp hbel z' _ (fun q hq => ⟨rfl, fun b hb => hb, fun b hb => hother b (fun e => ?_)⟩) (hE s' z' hz')
          subst e
          rw [hgl] at hb
          exact hl (by simpa using (Option.some.inj hb ▸ hq : l ∈ z'.labels))
end
end Go.Proofs.YtfagllolcalfiabDoor
