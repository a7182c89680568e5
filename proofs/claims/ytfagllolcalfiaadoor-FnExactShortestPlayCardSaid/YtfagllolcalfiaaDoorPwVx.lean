/- Rows that the function made are copied into, elements of any size; a part of a variable that is an array is read as a slice. Own work; no conditions; nothing here is about one program. -/
import Derived.Test.YtfagllolcalfiaaDoorPwVw
namespace Go.Proofs.YtfagllolcalfiaaDoor
open Go.RowKit
set_option linter.unusedVariables false
set_option linter.unusedSimpArgs false

section
variable {P : Program} {n : Nat} {σ : St} {K : St → Prop} {d : Nat} {ty : TypeId} {pos : String} {af : Array Edge} {gd : Option (Nat × Bool)}

theorem run_copyS (w : World) (dT sT ty elem size : Nat) (g o dLen dCap : Nat) (a : Addr) (sLen sCap : Nat) (cur : Array Value) (t : TypeId) (cs : List Value)
    (hu : P.underlying dT = some (.slice elem)) (hs : (P.info? elem).map (·.size) = some size)
    (hg : w.heap[g]? = some (.cells cur t (0, 0))) (hm : sLen ≤ dLen) (hn : cs.length = sLen * size)
    (hsrc : ∀ j v, cs[j]? = some v → w.cell? (a.add j) = some v) (hfit : o + cs.length ≤ cur.size) (h1 : ∀ v ∈ cs, v.oneCell' = true) :
    (Builtin.copy_ #[dT, sT] ty #[.slice (some ⟨g, o, none⟩) dLen dCap, .slice (some a) sLen sCap]).run P w =
      .ok (goInt sLen) (w.setRow g (cur.toList.take o ++ cs ++ cur.toList.drop (o + cs.length)).toArray) := by
  have hl := run_loadCells_list (P := P) w a cs hsrc
  have hst := run_storeCells_at P g o t cs 0 cur w hg (by simpa using hfit) h1
  have hmin : Nat.min sLen dLen = sLen := Nat.min_eq_left hm
  cases hq : P.info? elem with
  | none => simp [hq] at hs
  | some i =>
    have hi : i.size = size := by simpa [hq] using hs
    rw [hn] at hl
    simp [Builtin.copy_, run_underlying hu, Builtin.lenOf, Builtin.firstCells, sizeOf, typeInfo, hq, hi, hmin, hl, hst]

theorem run_copyS0 (w : World) (dT sT ty elem size : Nat) (a1 a2 : Option Addr) (dLen dCap sCap : Nat)
    (hu : P.underlying dT = some (.slice elem)) (hs : (P.info? elem).map (·.size) = some size) :
    (Builtin.copy_ #[dT, sT] ty #[.slice a1 dLen dCap, .slice a2 0 sCap]).run P w = .ok (goInt 0) w := by
  have hmin : Nat.min 0 dLen = 0 := Nat.min_eq_left (Nat.zero_le _)
  cases hq : P.info? elem with
  | none => simp [hq] at hs
  | some i =>
    have hi : i.size = size := by simpa [hq] using hs
    have hl : ∀ a : Addr, (loadCells a 0).run P w = .ok #[] w := fun a => run_loadCells_list (P := P) w a [] (fun j v h => by simp at h)
    cases a1 <;> cases a2 <;> simp [Builtin.copy_, run_underlying hu, Builtin.lenOf, Builtin.firstCells, sizeOf, typeInfo, hq, hi, hmin, hl, storeCells]

/-- Elements copied into a slice that the function made, or a part of it. -/
theorem op_copyO {t u e size bytes : Nat} {zc : List PV} (hty : SlTy P t e size bytes zc) {x y : Operand} {l off k m m0 : Nat} {cs ds : List PV} {sy : SV} (hs : List Nat) (hhs : ∀ s ∈ hs, σ.at s = some (.own l e size m0 cs)) (h : Nat) (hh : σ.at h = some (.own l e size m0 cs))
    (hx : σ.ev x = some (.view l off k) ∨ (σ.ev x = some (.own l e size m0 cs) ∧ off = 0 ∧ k = m0) ∨ ∃ q c, σ.ev x = some (.bor q (.sl 0 c)) ∧ off = 0 ∧ k = 0)
    (hy : σ.ev y = some sy) (hsy : sy.pv = some (.sl m ds)) (hf : PV.flatL ds = true) (hlen : ds.length = m * size) (hmk : m ≤ k) (hfit : off + k * size ≤ m0 * size) (hd : d < n)
    (hK : K ((d, .val (.int .i64 m)) :: σ.upd hs l (putAt cs off ds))) :
    opT P n ⟨some d, .call { callee := .builtin .copy, args := #[x, y], argTypes := #[t, u] }, ty, pos, af, gd⟩ σ K := by
  intro C a w hS K' Q hK'
  obtain ⟨G, hG, hE⟩ := hS.gh
  obtain ⟨vs, ho, hob, hr⟩ := hE h _ hh
  have hoy := (hE.ev hy).rep hsy
  have hvl : vs.length = m0 * size := ho.1
  have hcl : cs.length = m0 * size := by rw [← hr.length, hvl]
  obtain ⟨ht, ii, z, g2, g3, g4, _⟩ := hty
  have hsz1 : (P.info? e).map (·.size) = some size := by simp [g2, g4]
  -- the destination's value
  have hdst : ∃ ad cap, a.eval x = .slice ad k cap ∧ (k ≠ 0 → m0 ≠ 0 → ad = some ⟨G.r l, off, none⟩) := by
    rcases hx with hx | ⟨hx, h1, h2⟩ | ⟨q, c, hx, h1, h2⟩
    · obtain ⟨off', cap, hxv, hkc, hoff⟩ := hE.ev hx
      exact ⟨_, cap, hxv, fun hk _ => by rw [hoff hk]⟩
    · obtain ⟨vs2, ho2, hob2, _⟩ := hE.ev hx
      subst h1; subst h2
      rcases ho2.2 with ⟨hv, hm0⟩ | ⟨g, cap, cur, hv, _⟩
      · subst hm0; exact ⟨none, 0, hv, fun hk _ => absurd rfl hk⟩
      · exact ⟨_, _, hv, fun _ _ => by rw [← (hob2 g (by rw [hv]; rfl)).1]⟩
    · have hb := (hE.ev hx).rep (p := .sl 0 c) rfl
      subst h1; subst h2
      simp only [Rep] at hb
      rcases hb with ⟨hv, _⟩ | ⟨b, o, cap, us, hv, _⟩
      · exact ⟨_, _, hv, fun hk _ => absurd rfl hk⟩
      · exact ⟨_, _, hv, fun hk _ => absurd rfl hk⟩
  obtain ⟨ad, dcap, hxv, had⟩ := hdst
  by_cases hm : m = 0
  · subst hm
    have hds : ds = [] := List.eq_nil_of_length_eq_zero (by simpa using hlen)
    subst hds
    have hyv : ∃ a2 cp, a.eval y = .slice a2 0 cp := by
      simp only [Rep] at hoy
      rcases hoy with ⟨hv, _⟩ | ⟨b, off, cap, us, hv, _⟩
      · exact ⟨_, _, hv⟩
      · exact ⟨_, _, hv⟩
    obtain ⟨a2, c2, e2⟩ := hyv
    have hrun := run_copyS0 (P := P) w t u ty e size ad a2 k dcap c2 ht hsz1
    rw [← hxv, ← e2] at hrun
    have hop : (execOp a.eval ⟨some d, .call { callee := .builtin .copy, args := #[x, y], argTypes := #[t, u] }, ty, pos, af, gd⟩).run P w = .ok (.value (goInt 0)) w := by
      simp [execOp, resolve, invoke, builtin, hrun]
    have hp : putAt cs off ([] : List PV) = cs := by unfold Go.Proofs.YtfagllolcalfiaaDoor.putAt; simp
    rw [hp] at hK
    unfold Oper.wp
    rw [hop, Oper.upon_value]
    have hE' : Env C (σ.upd hs l cs) a w G := by
      intro s' y' hy'
      obtain ⟨z, hz, rfl⟩ := upd_at hy'
      split
      · rename_i hin
        have := hhs s' (by simpa using hin)
        rw [hz] at this; cases this
        exact hE s' _ hz
      · split
        · exact hE s' _ hz
        · split
          · trivial
          · exact hE s' _ hz
    have hS' : Sim n C (σ.upd hs l cs) a w := ⟨hS.fp, hS.below, hS.dfs, hS.size, G, hG, hE'⟩
    refine hK' _ _ _ hK ?_
    exact hS'.put hG hE' hd (by simp [Ok, Rep, goInt])
  · have hk0 : k ≠ 0 := by omega
    rcases ho.2 with ⟨_, hm0⟩ | ⟨g, cap, cur, hv, hbg, hgg, hmc, hcm, hcs, htk⟩
    · exfalso
      subst hm0
      have h1 : k * size = 0 := by omega
      rcases Nat.mul_eq_zero.1 h1 with h | h
      · exact hk0 h
      · omega
    have hgr : g = G.r l := (hob g (by rw [hv]; rfl)).1
    have hgl : G.g (G.r l) = some l := by have := (hob g (by rw [hv]; rfl)).2; rwa [hgr] at this
    subst hgr
    have hm00 : m0 ≠ 0 := by
      intro e
      subst e
      have h1 : k * size = 0 := by omega
      rcases Nat.mul_eq_zero.1 h1 with h | h
      · exact hk0 h
      · omega
    have hade := had hk0 hm00
    subst hade
    simp only [Rep] at hoy
    rcases hoy with ⟨_, hm0, _⟩ | ⟨b, off2, cap2, us, hv2, hb2, hkc2, hcell, hus⟩
    · exact absurd hm0 hm
    have hul : us.length = m * size := by rw [hus.length, hlen]
    have hmk2 : m * size ≤ k * size := Nat.mul_le_mul_right _ hmk
    have hmc2 : m0 * size ≤ cap * size := Nat.mul_le_mul_right _ hmc
    have hrun := run_copyS (P := P) w t u ty e size (G.r l) off k dcap ⟨b, off2, none⟩ m cap2 cur e us ht hsz1 hgg hmk hul (fun j v hj => by rw [Addr.add_lit]; exact hcell j v hj) (by rw [hul]; omega) hus.oneCells
    rw [← hxv, ← hv2, hul] at hrun
    have hop : (execOp a.eval ⟨some d, .call { callee := .builtin .copy, args := #[x, y], argTypes := #[t, u] }, ty, pos, af, gd⟩).run P w = .ok (.value (goInt m)) (w.setRow (G.r l) (cur.toList.take off ++ us ++ cur.toList.drop (off + m * size)).toArray) := by
      simp [execOp, resolve, invoke, builtin, hrun]
    have hcul : cur.toList.length = cur.size := by simp
    generalize hws : cur.toList.take off ++ us ++ cur.toList.drop (off + m * size) = ws at hop
    have hwl : ws.length = cur.size := by
      rw [← hws]; simp only [List.length_append, List.length_take, List.length_drop, hul]; omega
    have htake : ws.take (m0 * size) = vs.take off ++ us ++ vs.drop (off + m * size) := by
      rw [← hws, ← htk, List.take_append, List.take_append, List.take_take, List.take_take, List.take_of_length_le (l := us) (by simp only [hul, List.length_take]; omega), List.drop_take]
      simp only [List.length_append, List.length_take, hul]
      rw [show min (m0 * size) off = off by omega, show min off (m0 * size) = off by omega, show m0 * size - (min off cur.toList.length + m * size) = m0 * size - (off + m * size) by omega]
    have hnew : (w.setRow (G.r l) ws.toArray).heap[G.r l]? = some (.cells ws.toArray e (0, 0)) := setRow_heap w _ cur _ e _ hgg
    have hother : ∀ b, b ≠ G.r l → (w.setRow (G.r l) ws.toArray).heap[b]? = w.heap[b]? := fun b hb => setRow_other w _ b _ hb
    have hsz : (w.setRow (G.r l) ws.toArray).heap.size = w.heap.size := by simp [World.setRow]
    have hnold2 : ∀ b, C.old b → b ≠ G.r l := fun b hb e => (hG.1 _ _ hgl).1 (e ▸ hb)
    have hbel : Stays C.old w (w.setRow (G.r l) ws.toArray) := ⟨rfl, rfl, rfl, by omega, fun b hb => hother b (hnold2 b hb), fun b _ => by
      by_cases hb : b = G.r l
      · rw [hb, hnew, hgg]; simp [rowForm, hwl]
      · rw [hother b hb]⟩
    have hus' : ∀ (F : Nat → Prop) (w' : World), RepL w' F ds us := fun F w' => RepL.flat ds us hf hus
    have hrnew : RepL (w.setRow (G.r l) ws.toArray) (G.inn l) (putAt cs off ds) (vs.take off ++ us ++ vs.drop (off + m * size)) := by
      show RepL _ (G.inn l) (cs.take off ++ ds ++ cs.drop (off + ds.length)) _
      rw [hlen]
      have h1 := RepL.mono (w' := w.setRow (G.r l) ws.toArray) (F' := G.inn l) (fun _ hb => hb) (fun b hb => hother b hb.2) cs vs hr
      exact ((h1.take off).append (hus' _ _)).append (h1.drop _)
    unfold Oper.wp
    rw [hop, Oper.upon_value]
    have hG' : G.fits C (w.setRow (G.r l) ws.toArray) := ⟨fun b q hb => by rw [hsz]; exact hG.1 b q hb, hG.2⟩
    have hE' : Env C (σ.upd hs l (putAt cs off ds)) a (w.setRow (G.r l) ws.toArray) G := by
      intro s' y' hy'
      obtain ⟨z', hz', rfl⟩ := upd_at hy'
      split
      · rename_i hin
        have := hhs s' (by simpa using hin)
        rw [hz'] at this; cases this
        obtain ⟨vs2, ho2, hob2, hr2⟩ := hE s' _ hz'
        refine ⟨vs.take off ++ us ++ vs.drop (off + m * size), ⟨?_, ?_⟩, hob2, hrnew⟩
        · simp only [List.length_append, List.length_take, List.length_drop, hul]; omega
        · rcases ho2.2 with ⟨_, hm0⟩ | ⟨g2, cap2, cur2, hv2, hbg2, hgg2, hmc2, hcm2, hcs2, htk2⟩
          · exact absurd hm0 hm00
          · have hg2r := (hob2 g2 (by rw [hv2]; rfl)).1
            subst hg2r
            have hcc : cur2 = cur := by
              have h9 := hgg2.symm.trans hgg
              simp only [Option.some.injEq, Obj.cells.injEq] at h9
              exact h9.1
            subst hcc
            exact .inr ⟨G.r l, cap2, ws.toArray, hv2, hbg2, hnew, hmc2, hcm2, by simp only [List.size_toArray]; omega, htake⟩
      · split
        · rename_i had
          cases z' with
          | adr q o => exact hE s' _ hz'
          | _ => simp [SV.isAdr] at had
        · split
          · trivial
          · rename_i hl
            refine Ok.keep hS.fp hbel z' _ (fun q hq => ⟨rfl, fun b hb => hb, fun b hb => hother b (fun e => ?_)⟩) (hE s' z' hz')
            subst e
            rw [hgl] at hb
            exact hl (by simpa using (Option.some.inj hb ▸ hq : l ∈ z'.labels))
    refine hK' _ _ _ hK ?_
    have hS' : Sim n C (σ.upd hs l (putAt cs off ds)) a (w.setRow (G.r l) ws.toArray) := ⟨hS.fp, hS.below.trans hbel, hS.dfs, hS.size, G, hG', hE'⟩
    exact hS'.put hG' hE' hd (by simp [Ok, Rep, goInt])

/-- A part of a variable that is an array, to be read as a slice. -/
theorem q_sliceBoxB {t N e : Nat} (hty : P.underlying t = some (.array N e)) (hsz : ∀ w, (sizeOf e).run P w = .ok 1 w) {x : Operand} {lo hi : Option Operand} {l T : Nat} {cs : List PV} {i j : Int} (hx : σ.ev x = some (.box l T cs))
    (hl : match lo with | none => i = 0 | some l => ∃ k, σ.ev l = some (.val (.int k i))) (hh : match hi with | none => j = N | some h => ∃ k, σ.ev h = some (.val (.int k j)))
    (h0 : 0 ≤ i) (h1 : i ≤ j) (h2 : j ≤ N) (hd : d < n) : quietT P n ⟨some d, .slice t x lo hi none, ty, pos, af, gd⟩ σ d (.bor l (.sl (j.toNat - i.toNat) ((cs.drop i.toNat).take (j.toNat - i.toNat)))) := by
  obtain ⟨g1, g2, g3⟩ := q_sliceBox (d := d) (ty := ty) (pos := pos) (af := af) (gd := gd) (n := n) hty hsz hx hl hh h0 h1 h2 hd
  refine ⟨g1, g2, fun C a w G hS hG hE => ?_⟩
  obtain ⟨v, hrun, off', cap, hv, hkc, hoff⟩ := g3 C a w G hS hG hE
  obtain ⟨vs, hbv, hg, hhb, hr⟩ := hE.ev hx
  refine ⟨v, hrun, ?_⟩
  show Rep w (G.see C l) (.sl _ _) v
  simp only [Rep]
  by_cases hn0 : j.toNat - i.toNat = 0
  · refine .inr ⟨G.r l, off', cap, [], hv, .inl hg, hkc, fun j u h => by simp at h, ?_⟩
    rw [hn0, List.take_zero]; rfl
  · have := hoff hn0
    subst this
    refine .inr ⟨G.r l, i.toNat, cap, (vs.drop i.toNat).take (j.toNat - i.toNat), hv, .inl hg, hkc, fun q u hq => ?_, ?_⟩
    · have hq2 : vs[i.toNat + q]? = some u := by
        rw [List.getElem?_take] at hq
        split at hq
        · rwa [List.getElem?_drop] at hq
        · simp at hq
      simp [World.cell?, hhb, hq2]
    · exact RepL.mono (fun b hb => hb.imp (fun h => h.1) id) (fun _ _ => rfl) _ _ ((hr.drop _).take _)
end
end Go.Proofs.YtfagllolcalfiaaDoor
