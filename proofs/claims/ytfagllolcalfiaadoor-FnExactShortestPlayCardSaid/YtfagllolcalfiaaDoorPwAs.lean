/- Nil slices that are known to be such; captured functions' values; interfaces that are nil or not; jumps back to a label. Own work; no conditions; nothing here is about one program. -/
import Derived.Test.YtfagllolcalfiaaDoorPwAr
namespace Go.Proofs.YtfagllolcalfiaaDoor
open Go.RowKit
set_option linter.unusedVariables false
set_option linter.unusedSimpArgs false

section
variable {P : Program} {n : Nat} {σ : St} {K : St → Prop} {d : Nat} {ty : TypeId} {pos : String} {af : Array Edge} {gd : Option (Nat × Bool)}

/-- The slice that is nil may be appended to. -/
theorem imp_nil {s l e size : Nat} (h : σ.at s = some (.val (.cst 0)) ∨ σ.at s = some (.val (.sl 0 []))) : Imp n σ ((s, .own l e size 0 []) :: σ) := by
  intro C a w hS
  obtain ⟨G, hG, hE⟩ := hS.gh
  refine ⟨hS.fp, hS.below, hS.dfs, hS.size, G, hG, fun t x hx => ?_⟩
  simp only [St.at] at hx
  split at hx
  · rename_i he
    subst he
    cases hx
    have hv : a.tmps.getD s undef = .slice none 0 0 := by
      rcases h with h | h
      · have := hE _ _ h; simp only [Ok, Rep, cstV] at this; exact this
      · have := hE _ _ h
        simp only [Ok, Rep] at this
        rcases this with ⟨hv, _⟩ | ⟨b, _, _, _, _, hf, _⟩
        · exact hv
        · exact hf.elim
    rw [hv]
    exact ⟨[], World.ownsRow_nil _ _ _ _, fun b hb => by simp [Value.ownBlock] at hb, rfl⟩
  · exact hE t x hx

/-- Read from what is only read: the value stays part of that memory. -/
theorem q_load_rdP {t : TypeId} (ht : OneTy P t) {x : Operand} {i : Nat} {c : PV} {cs : List PV} (hx : σ.ev x = some (.rpar i (c :: cs))) (hd : d < n) : quietT P n ⟨some d, .load t x, ty, pos, af, gd⟩ σ d (.par i c) := by
  refine ⟨rfl, hd, fun C a w G hS hG hE => ?_⟩
  have e1 := hE.ev hx
  obtain ⟨b, off, vs, hv, hc, hb, hr⟩ := e1
  obtain ⟨v, h3, _, h4⟩ := hr.get 0 c rfl
  have hc0 : w.cell? ⟨b, off, none⟩ = some v := by simpa using hc 0 v h3
  exact ⟨v, fun w2 hw2 => by simp [execOp, hv, Instr.loadAt, Instr.sureAddr, run_loadVar_one ht ((hw2.cell (p := ⟨b, off, none⟩) (World.block_lt_of_cell? w _ hc0)).trans hc0)], h4⟩

/-- The label whose memory such a value lies in. -/
def SV.qlab : SV → Option Nat
  | .own l _ _ _ _ => some l
  | .frz l _ => some l
  | .bor l _ => some l
  | _ => none

theorem qlab_foot {C : Ctx} {G : Gh} {s : SV} {q : Nat} (h : s.qlab = some q) {b : Nat} (hb : foot C G s b) : G.g b = some q ∨ C.ex b := by
  cases s <;> simp only [SV.qlab, Option.some.injEq, reduceCtorEq] at h <;> subst h
  · exact hb
  · exact .inl hb
  · exact .inl hb

/-- A variable is given what lies in another label's memory: that becomes part of the variable's own. -/
theorem op_storeB {t : TypeId} (ht : ∀ w, (sizeOf t).run P w = .ok 1 w) {y : Operand} {h l T q : Nat} {sy : SV} {c p : PV} {dst : Option Nat} (hx : σ.at h = some (.box l T [c])) (hy : σ.ev y = some sy) (hsy : sy.qlab = some q) (hp : sy.pv = some p) (h1 : p.one = true) (hlq : l ≠ q) (hq0 : q ≠ 2000) (hdst : dst = none)
    (hK : K ((h, .box l T [p]) :: (σ.kill l).kill q)) : opT P n ⟨dst, .store t (.tmp h) y, ty, pos, af, gd⟩ σ K := by
  subst hdst
  intro C a w hS K' Q hK'
  obtain ⟨G, hG, hE⟩ := hS.gh
  obtain ⟨vs, hv, hg, hhb, hr⟩ := hE h _ hx
  have hrp := (hE.ev hy).rep hp
  have hvl : vs.length = 1 := by rw [hr.length]; rfl
  have hone' := hrp.oneCell h1
  have hone : (a.eval y).cells = #[a.eval y] := by
    have h2 := hrp.cells
    cases p <;> simp only [PV.one, Bool.false_eq_true] at h1 <;> simp only [PV.cells] at h2 <;> (
      generalize hzz : (a.eval y).cells.toList = zs at h2
      obtain ⟨u, r, rfl, _, _, h3⟩ := h2
      cases hh : a.eval y <;> rw [hh] at hzz hone' <;> first | rfl | (simp [Value.oneCell'] at hone'))
  have hxv : a.eval (.tmp h) = .pointer (some ⟨G.r l, 0, none⟩) := hv
  let w' := w.setRow (G.r l) #[a.eval y]
  have hrun : (execOp a.eval ⟨none, .store t (.tmp h) y, ty, pos, af, gd⟩).run P w = .ok .skip w' := by
    have hst := run_storeCells_at P (G.r l) 0 T [a.eval y] 0 vs.toArray w hhb (by simp; omega) (fun u hu => by simp at hu; subst hu; exact hone')
    simp only [execOp, hxv, Instr.storeAt, Instr.sureAddr, Sem.run_bind, Sem.run_pure, Result.andThen_ok, storeVar, ht, hone, ne_eq]
    simp only [List.size_toArray, List.length_cons, List.length_nil, Nat.zero_add, not_true_eq_false, if_false]
    show ((storeCells ⟨G.r l, 0, none⟩ [a.eval y]).run P w).andThen _ = _
    rw [hst]
    have e : (List.take (0 + 0) vs.toArray.toList ++ [a.eval y] ++ List.drop (0 + 0 + [a.eval y].length) vs.toArray.toList) = [a.eval y] := by
      rw [List.drop_of_length_le (by simp; omega), List.append_nil]; rfl
    rw [e]; rfl
  have hother : ∀ b, b ≠ G.r l → w'.heap[b]? = w.heap[b]? := fun b hb => setRow_other w _ b _ hb
  have hnew : w'.heap[G.r l]? = some (.cells #[a.eval y] T (0, 0)) := setRow_heap w _ vs.toArray _ T _ hhb
  have hsz : w'.heap.size = w.heap.size := by simp [w', World.setRow]
  have hnold : ∀ b, C.old b → b ≠ G.r l := fun b hb e => (hG.1 _ _ hg).1 (e ▸ hb)
  have hbel : Stays C.old w w' := ⟨rfl, rfl, rfl, by omega, fun b hb => hother b (hnold b hb), fun b _ => by
    by_cases hb : b = G.r l
    · rw [hb, hnew, hhb]; simp [rowForm, hvl]
    · rw [hother b hb]⟩
  have hqr : ∀ b, G.g b = some q → b ≠ G.r l := fun b hb e => by subst e; rw [hg] at hb; exact hlq (Option.some.inj hb)
  let G' : Gh := ⟨fun b => if G.g b = some q then some l else G.g b, G.r⟩
  have g1 : ∀ b, G.g b = some q → G'.g b = some l := fun b hb => by show (if G.g b = some q then some l else _) = _; rw [if_pos hb]
  have g2 : ∀ b j, j ≠ q → G.g b = some j → G'.g b = some j := fun b j hj hb => by
    show (if G.g b = some q then some l else G.g b) = _
    rw [hb, if_neg (fun e => hj (Option.some.inj e))]
  have hG' : G'.fits C w' := by
    refine ⟨fun b j hb => ?_, hG.2.1, fun b hb => g2 b 2000 (Ne.symm hq0) (hG.2.2 b hb)⟩
    have hb' : (if G.g b = some q then some l else G.g b) = some j := hb
    rw [hsz]
    split at hb'
    · rename_i hc; exact hG.1 b q hc
    · exact hG.1 b j hb'
  unfold Oper.wp
  rw [hrun, Oper.upon_skip]
  refine hK' _ _ _ hK ⟨hS.fp, hS.below.trans hbel, hS.dfs, hS.size, G', hG', fun s z hz => ?_⟩
  simp only [St.at] at hz
  split at hz
  · rename_i he; subst he
    simp only [Option.some.injEq] at hz; subst hz
    refine ⟨[a.eval y], hv, g2 _ l (fun e => hlq e) hg, hnew, a.eval y, [], rfl, h1, Rep.mono (fun b hb => ?_) (fun b hb => hother b ?_) p _ hrp, rfl⟩
    · rcases qlab_foot hsy hb with hb | hb
      · exact .inl ⟨g1 b hb, hqr b hb⟩
      · exact .inr hb
    · rcases qlab_foot hsy hb with hb | hb
      · exact hqr b hb
      · exact hnold b (hS.fp.2 b hb)
  · rcases kill_at hz with rfl | ⟨hz', hzq⟩
    · trivial
    · rcases kill_at hz' with rfl | ⟨hz2, hzl⟩
      · trivial
      · refine Ok.keep (G := G) (G' := G') hS.fp hbel z _ (fun j hj => ⟨rfl, fun b hb => g2 b j (fun e => hzq (e ▸ hj)) hb, fun b hb => hother b (fun e => ?_)⟩) (hE s z hz2)
        subst e
        rw [hg] at hb
        exact hzl (Option.some.inj hb ▸ hj)

/-- A variable that is made with such a value. -/
theorem op_boxB {t : TypeId} {x : Operand} {q : Nat} {s : SV} {p : PV} (hx : σ.ev x = some s) (hsq : s.qlab = some q) (hp : s.pv = some p) (h1 : p.one = true) (hq0 : q ≠ 2000) (hd : d < n) (hd0 : d ≠ 2000) (hfr : σ.labels.all (· != d) = true)
    (hK : K ((d, .box d t [p]) :: σ.kill q)) : opT P n ⟨some d, .box t x, ty, pos, af, gd⟩ σ K := by
  intro C a w hS K' Q hK'
  obtain ⟨G, hG, hE⟩ := hS.gh
  have hrp := (hE.ev hx).rep hp
  have hfr' : ∀ j ∈ σ.labels, j ≠ d := by simpa using hfr
  have hone' := hrp.oneCell h1
  have hone : (a.eval x).cells = #[a.eval x] := by
    have h2 := hrp.cells
    cases p <;> simp only [PV.one, Bool.false_eq_true] at h1 <;> simp only [PV.cells] at h2 <;> (
      generalize hzz : (a.eval x).cells.toList = zs at h2
      obtain ⟨u, r, rfl, _, _, h3⟩ := h2
      cases hh : a.eval x <;> rw [hh] at hzz hone' <;> first | rfl | (simp [Value.oneCell'] at hone'))
  let w' := w.alloc (.cells #[a.eval x] t)
  have hop : (execOp a.eval ⟨some d, .box t x, ty, pos, af, gd⟩).run P w = .ok (.value (.pointer (some ⟨w.heap.size, 0, none⟩))) w' := by
    simp [execOp, Instr.box, newVar, newRow, hone, w']
  unfold Oper.wp
  rw [hop, Oper.upon_value]
  have hB : C.B ≤ w.heap.size := hS.below.size
  let G' : Gh := ⟨fun b => if b = w.heap.size then some d else if G.g b = some q then some d else G.g b, fun j => if j = d then w.heap.size else G.r j⟩
  have hsz : w'.heap.size = w.heap.size + 1 := by simp [w']
  have hG' : G'.fits C w' := by
    refine ⟨fun b j hj => ?_, ?_, fun b hb => ?_⟩
    · have hj' : (if b = w.heap.size then some d else if G.g b = some q then some d else G.g b) = some j := hj
      split at hj'
      · rename_i he; subst he; exact ⟨fun ho => by have := ho.1; omega, by omega⟩
      · split at hj'
        · rename_i hc; have := hG.1 b q hc; exact ⟨this.1, by omega⟩
        · have := hG.1 b j hj'; exact ⟨this.1, by omega⟩
    · show (if 2000 = d then _ else G.r 2000) = _
      rw [if_neg (Ne.symm hd0)]; exact hG.2.1
    · have h2 := hG.2.2 b hb
      show (if b = w.heap.size then some d else if G.g b = some q then some d else G.g b) = some 2000
      rw [if_neg (by have := (hG.1 b _ h2).2; omega), if_neg (fun e => by rw [h2] at e; exact hq0 (Option.some.inj e).symm)]
      exact h2
  have hold : ∀ b, b < w.heap.size → w'.heap[b]? = w.heap[b]? := fun b hb => heap_alloc_old w _ hb
  have hbel : Stays C.old w w' := ⟨rfl, rfl, rfl, by omega, fun k hk => hold k (Nat.lt_of_lt_of_le hk.1 hB), fun k hk => by rw [hold k hk]⟩
  have hE' : Env C (σ.kill q) a w' G' := by
    intro s y hy
    rcases kill_at hy with rfl | ⟨hy', hly⟩
    · trivial
    · refine Ok.keep hS.fp hbel y _ (fun j hj => ⟨?_, fun b hb' => ?_, fun b hb' => hold b (hG.1 b j hb').2⟩) (hE s y hy')
      · show (if j = d then _ else G.r j) = G.r j
        rw [if_neg (hfr' j (St.labels_at hy' j hj))]
      · show (if b = w.heap.size then some d else if G.g b = some q then some d else G.g b) = some j
        rw [if_neg (by have := (hG.1 b j hb').2; omega), if_neg (fun e => ?_)]
        · exact hb'
        · rw [hb'] at e; exact hly (Option.some.inj e ▸ hj)
  have hroot : G'.r d = w.heap.size := by show (if d = d then _ else _) = _; rw [if_pos rfl]
  have hgr : G'.g w.heap.size = some d := by show (if w.heap.size = w.heap.size then some d else _) = _; rw [if_pos rfl]
  have hin : ∀ b, G.g b = some q → G'.g b = some d ∧ b ≠ G'.r d := fun b hb' => by
    have hlt := (hG.1 b q hb').2
    refine ⟨?_, by rw [hroot]; omega⟩
    show (if b = w.heap.size then some d else if G.g b = some q then some d else G.g b) = some d
    rw [if_neg (by omega), if_pos hb']
  have hflt : ∀ b, foot C G s b → b < w.heap.size := fun b hb => by
    rcases qlab_foot hsq hb with hb | hb
    · exact (hG.1 b q hb).2
    · exact Nat.lt_of_lt_of_le (hS.fp.2 b hb).1 hB
  have hok : Ok C w' G' (.box d t [p]) (.pointer (some ⟨w.heap.size, 0, none⟩)) := by
    refine ⟨[a.eval x], by rw [hroot], by rw [hroot]; exact hgr, by rw [hroot]; exact heap_alloc_new w _, a.eval x, [], rfl, h1, Rep.mono (fun b hb => ?_) (fun b hb => hold b (hflt b hb)) p _ hrp, rfl⟩
    rcases qlab_foot hsq hb with hb | hb
    · exact .inl (hin b hb)
    · exact .inr hb
  refine hK' _ _ _ hK ?_
  have hS' : Sim n C (σ.kill q) a w' := ⟨hS.fp, hS.below.trans hbel, hS.dfs, hS.size, G', hG', hE'⟩
  exact hS'.put hG' hE' hd hok

/-- As a function's value takes the labels ls for its own, d: what was only read there may be read still; all else that hangs on them is forgotten. -/
def SV.reLs (ls : List Nat) (d : Nat) : SV → SV
  | .bor l p => if ls.contains l then .bor d p else .bor l p
  | x => if ls.any (fun l => x.labels.contains l) then .dead else x
def St.reLs (ls : List Nat) (d : Nat) (σ : St) : St := σ.map fun e => (e.1, e.2.reLs ls d)

theorem reLs_at {ls : List Nat} {d : Nat} : ∀ {σ : St} {s : Nat} {x : SV}, (σ.reLs ls d).at s = some x → ∃ y, σ.at s = some y ∧ x = y.reLs ls d
  | [], s, x, h => by simp [St.reLs, St.at] at h
  | (t, y) :: r, s, x, h => by
    simp only [St.reLs, List.map_cons, St.at] at h ⊢
    split at h
    · rename_i he
      subst he
      simp only [Option.some.injEq] at h
      exact ⟨y, by simp, h.symm⟩
    · rename_i hne
      rw [if_neg hne]
      exact reLs_at (σ := r) h

theorem op_makeFuncC {f : FuncId} {xs : List Operand} {ss : List SV} {bs : List (Nat × List PV)} (hxs : σ.evs xs = some ss) (hbs : boxesAny ss = some bs) (h2 : (bs.map (·.1)).contains 2000 = false) (hd : d < n) (hd0 : d ≠ 2000) (hfr : σ.labels.all (· != d) = true)
    (hK : K ((d, .bor d (.clo f (bs.map fun b => .ptr b.2))) :: σ.reLs (bs.map (·.1)) d)) : opT P n ⟨some d, .makeFunc (.func f) #[] xs.toArray, ty, pos, af, gd⟩ σ K := by
  intro C a w hS K' Q hK'
  obtain ⟨G, hG, hE⟩ := hS.gh
  have hfr' : ∀ q ∈ σ.labels, q ≠ d := by simpa using hfr
  let ls := bs.map (·.1)
  let G' : Gh := ⟨fun b => match G.g b with | some m => if ls.contains m then some d else some m | none => none, G.r⟩
  have hop : (execOp a.eval ⟨some d, .makeFunc (.func f) #[] xs.toArray, ty, pos, af, gd⟩).run P w = .ok (.value (.func (.func f) #[] (xs.map a.eval).toArray)) w := by
    simp [execOp, Instr.makeFunc]
  unfold Oper.wp
  rw [hop, Oper.upon_value]
  have hin : ∀ b q, G.g b = some q → q ∈ ls → G'.g b = some d := fun b q hb hq => by
    show (match G.g b with | some m => if ls.contains m then some d else some m | none => none) = some d
    rw [hb]; simp [hq]
  have hout : ∀ b q, G.g b = some q → q ∉ ls → G'.g b = some q := fun b q hb hq => by
    show (match G.g b with | some m => if ls.contains m then some d else some m | none => none) = some q
    rw [hb]; simp [hq]
  have hinv : ∀ b q, G'.g b = some q → ∃ q', G.g b = some q' := fun b q hb => by
    have hb' : (match G.g b with | some m => if ls.contains m then some d else some m | none => none) = some q := hb
    cases hgb : G.g b with
    | none => rw [hgb] at hb'; cases hb'
    | some m => exact ⟨m, rfl⟩
  have hG' : G'.fits C w := ⟨fun b q hb => let ⟨q', h⟩ := hinv b q hb; hG.1 b q' h, hG.2.1, fun b hb => hout b 2000 (hG.2.2 b hb) (by simpa [ls] using h2)⟩
  have hkeep : ∀ (s : Nat) (y : SV), σ.at s = some y → (∀ l ∈ ls, l ∉ y.labels) → Ok C w G' y (a.tmps.getD s undef) := fun s y hy hl =>
    Ok.keep (G := G) (G' := G') hS.fp (Stays.refl _ _) y _ (fun q hq => ⟨rfl, fun b hb => hout b q hb (fun hm => hl q hm hq), fun _ _ => rfl⟩) (hE s y hy)
  have hE' : Env C (σ.reLs ls d) a w G' := fun s x hx => by
    obtain ⟨y, hy, rfl⟩ := reLs_at hx
    have key : Ok C w G' (if ls.any (fun l => y.labels.contains l) then .dead else y) (a.tmps.getD s undef) := by
      split
      · trivial
      · rename_i hn
        refine hkeep s y hy (fun l hl hm => hn ?_)
        exact List.any_eq_true.2 ⟨l, hl, by simpa using hm⟩
    cases y with
    | bor l p =>
      show Ok C w G' (if ls.contains l then .bor d p else .bor l p) _
      have h0 : Rep w (G.see C l) p (a.tmps.getD s undef) := hE s _ hy
      split
      · rename_i hl
        exact Rep.mono (fun b hb => hb.imp (fun h => hin b l h (by simpa using hl)) id) (fun _ _ => rfl) p _ h0
      · rename_i hl
        refine Rep.mono (fun b hb => hb.imp (fun h => hout b l h (by simpa using hl)) id) (fun _ _ => rfl) p _ h0
    | _ => exact key
  have hok : Ok C w G' (.bor d (.clo f (bs.map fun b => .ptr b.2))) (.func (.func f) #[] (xs.map a.eval).toArray) := by
    refine ⟨_, rfl, boxesAny_rep (G := G) hbs (evs_okL hE hxs) (fun b hb k hk => .inl (hin k b.1 hk (List.mem_map.2 ⟨b, hb, rfl⟩))) (fun k hk => .inr hk)⟩
  have hS' : Sim n C (σ.reLs ls d) a w := ⟨hS.fp, hS.below, hS.dfs, hS.size, G', hG', hE'⟩
  exact hK' _ _ _ hK (hS'.put hG' hE' hd hok)

/-- A slice beside nil: it may be nil if it has no elements. -/
theorem op_eqnil {t t' e : TypeId} (ht : P.underlying t = some (.slice e)) {x : Operand} {s : SV} {m : Nat} {cs : List PV} (hx : σ.ev x = some s) (hs : s.pv = some (.sl m cs)) (hd : d < n)
    (h1 : m = 0 → cs = [] → K ((d, .val (.bool true)) :: σ)) (h2 : K ((d, .val (.bool false)) :: σ)) : opT P n ⟨some d, .binOp .eql t x (.const (.slice none 0 0)) t', ty, pos, af, gd⟩ σ K := by
  intro C a w hS K' Q hK'
  obtain ⟨G, hG, hE⟩ := hS.gh
  have hr := (hE.ev hx).rep hs
  simp only [Rep] at hr
  have run : ∀ b : Bool, ((a.eval x = .slice none 0 0 ∧ b = true) ∨ ((∃ q off cap, a.eval x = .slice (some ⟨q, off, none⟩) m cap) ∧ b = false)) → (execOp a.eval ⟨some d, .binOp .eql t x (.const (.slice none 0 0)) t', ty, pos, af, gd⟩).run P w = .ok (.value (.bool b)) w := fun b hb => by
    have k0 : ∀ d : Nat, (Op.equalIn (d + 1) t (a.eval x) (.slice none 0 0)).run P w = .ok b w := fun d => by
      rcases hb with ⟨hv, rfl⟩ | ⟨⟨q, off, cap, hv⟩, rfl⟩ <;> rw [hv] <;> simp [Op.equalIn, run_underlying ht]
    have k : (Op.equal t (a.eval x) (.slice none 0 0)).run P w = .ok b w := k0 9999
    have hc : a.eval (.const (.slice none 0 0)) = .slice none 0 0 := rfl
    rcases hb with ⟨hv, rfl⟩ | ⟨⟨q, off, cap, hv⟩, rfl⟩ <;> rw [hv] at k <;> simp [execOp, eqGuard, hv, hc, binOp, k]
  rcases hr with ⟨hv, hm, hc⟩ | ⟨b, off, cap, vs, hv, hb, _⟩
  · unfold Oper.wp
    rw [run true (.inl ⟨hv, rfl⟩), Oper.upon_value]
    exact hK' _ _ _ (h1 hm hc) (hS.put hG hE hd rfl)
  · unfold Oper.wp
    rw [run false (.inr ⟨⟨b, off, cap, hv⟩, rfl⟩), Oper.upon_value]
    exact hK' _ _ _ h2 (hS.put hG hE hd rfl)

/-- An interface beside nil. -/
theorem run_ifne {t : TypeId} {ms : Array (String × TypeId)} (h : P.underlying t = some (.interface ms)) {v : Value} {b : Bool} (hv : ((∃ u z, v = .iface u z) ∧ b = true) ∨ (v = .nilIface ∧ b = false)) (w : World) : (binOp .neq t v .nilIface).run P w = .ok (.bool b) w := by
  have k0 : ∀ d : Nat, (Op.equalIn (d + 1) t v .nilIface).run P w = .ok (!b) w := fun d => by
    rcases hv with ⟨⟨u, z, rfl⟩, rfl⟩ | ⟨rfl, rfl⟩ <;> simp [Op.equalIn, run_underlying h]
  have k : (Op.equal t v .nilIface).run P w = .ok (!b) w := k0 9999
  rcases hv with ⟨⟨u, z, rfl⟩, rfl⟩ | ⟨rfl, rfl⟩ <;> simp [binOp, k]

theorem q_ifne {t t' : TypeId} {ms : Array (String × TypeId)} (ht : P.underlying t = some (.interface ms)) {x : Operand} {p : PV} {b : Bool} (hx : σ.ev x = some (.val p)) (hp : (p = .ifc ∧ b = true) ∨ (p = .cst 1 ∧ b = false)) (hd : d < n) :
    quietT P n ⟨some d, .binOp .neq t x (.const .nilIface) t', ty, pos, af, gd⟩ σ d (.val (.bool b)) := by
  refine ⟨rfl, hd, fun C a w G hS hG hE => ?_⟩
  have e1 := hE.ev hx
  have hv : ((∃ u z, a.eval x = .iface u z) ∧ b = true) ∨ (a.eval x = .nilIface ∧ b = false) := by
    rcases hp with ⟨rfl, hb⟩ | ⟨rfl, hb⟩
    · simp only [Ok, Rep] at e1; exact .inl ⟨e1, hb⟩
    · simp only [Ok, Rep, cstV] at e1; exact .inr ⟨e1, hb⟩
  refine ⟨.bool b, fun w2 _ => ?_, by simp [Ok, Rep]⟩
  have k := run_ifne (P := P) ht hv w2
  rcases hv with ⟨⟨u, z, h⟩, hb⟩ | ⟨h, hb⟩
  · rw [h] at k
    have hc : a.eval (.const .nilIface) = .nilIface := rfl
    simp [execOp, eqGuard, h, hc, k]
  · rw [h] at k
    have hc : a.eval (.const .nilIface) = .nilIface := rfl
    simp [execOp, eqGuard, h, hc, k]

end
/-! ### Jumps back -/

section
variable {P : Program} {n : Nat} {σ : St} {Q : Exit → St → Prop}

/-- A scope in which a jump leads back to one label: what holds at each jump. -/
def JumpS (l : Nat) (J : St → Prop) (Q : Exit → St → Prop) : Exit → St → Prop
  | .goto l', s => l' = l ∧ J s
  | e, s => Q e s

theorem code_scope_goto {X : Type} {c rest : Code} (l : Nat) (mk : X → St) (I : X → Prop) (μ : X → Nat) (hf : findLabel c l = some rest) (hd : (cdsts rest).all (fun s => (cdsts c).contains s) = true) (hrf : rfFree rest = rfFree c)
    (first : codeT P n c σ (JumpS l (fun s => ∃ x, Imp n s (mk x) ∧ I x) Q))
    (pass : ∀ x, I x → codeT P n rest (mk x) (JumpS l (fun s => ∃ x', Imp n s (mk x') ∧ I x' ∧ μ x' < μ x) Q)) : codeT P n (.scope c) σ Q := by
  have hdm : ∀ s, s ∈ cdsts rest → s ∈ cdsts c := fun s hs => by
    have := List.all_eq_true.1 hd s hs
    simpa using this
  have hg : ∀ k : List Item, gotoIn l (.inScope c :: k) = some (.code rest :: .inScope c :: k) := fun k => by simp [gotoIn, hf]
  have key : ∀ (m : Nat) x, μ x = m → I x → ∀ C a w, Sim n C (mk x) a w → ∀ N (b : Frame) (k : List Item) (cs : List Frame), b.roundOf = (RF C.ro).round → (RF C.ro).fn b.fn → (RF C.ro).room (cs.length + 1 + N) →
      ∃ e a' w', codePost n C (.scope c) Q a e a' w' ∧ ArrivesIn (Machine.fenced P (RF C.ro)) P (lone (b.atR a (.code rest :: .inScope c :: k)) cs w) b k cs e a' w' := by
    intro m
    induction m using Nat.strongRecOn with
    | _ m ih =>
      intro x hm hx C a w hS N b k cs hro hb hr
      obtain ⟨e, a₁, w₁, ⟨C₁, σ₁, h0, hq, hS₁, hk, hD⟩, harr⟩ := pass x hx C a w hS N b (.inScope c :: k) cs hro hb hr
      have hk' : KeptS (cdsts (.scope c)) a a₁ := hk.mono hdm
      have hD' : rfFree (.scope c) = true → C₁.D = C.D := fun h => hD (by rw [hrf]; exact h)
      cases e with
      | normal => exact ⟨.normal, a₁, w₁, ⟨C₁, σ₁, h0, hq, hS₁, hk', hD'⟩, StepsIn.trans harr (.one (fenced_calm hb hr rfl) stepR_inScope)⟩
      | exit id => exact ⟨.exit id, a₁, w₁, ⟨C₁, σ₁, h0, hq, hS₁, hk', hD'⟩, fun k' hkk => harr.1 k' (by simp [exitTo, hkk]), fun hr' hkk => harr.2 hr' (by simp [exitTo, hkk])⟩
      | goto l' =>
        obtain ⟨rfl, x', hge, hx', hlt⟩ := hq
        obtain ⟨e₂, a₂, w₂, ⟨C₂, σ₂, k0, k1, k2, kk, kD⟩, harr₂⟩ := ih (μ x') (hm ▸ hlt) x' rfl hx' C₁ a₁ w₁ (hge C₁ a₁ w₁ hS₁) N b k cs (by rw [h0.ro]; exact hro) trivial (by rw [h0.ro]; exact hr)
        rw [h0.ro] at harr₂
        exact ⟨e₂, a₂, w₂, ⟨C₂, σ₂, h0.trans k0, k1, k2, hk'.trans kk, fun h => (kD h).trans (hD' h)⟩, .of_steps (harr.1 _ (hg k)) harr₂⟩
      | ret => exact ⟨_, a₁, w₁, ⟨C₁, σ₁, h0, hq, hS₁, hk', hD'⟩, harr⟩
      | panic ch => exact ⟨_, a₁, w₁, ⟨C₁, σ₁, h0, hq, hS₁, hk', hD'⟩, harr⟩
      | outgrown => exact ⟨_, a₁, w₁, ⟨C₁, σ₁, h0, hq, hS₁, hk', hD'⟩, harr⟩
  intro C a w hS N b k cs hro hb hr
  have hs0 : (lone (b.atR a (.code (.scope c) :: k)) cs w).fenced P (RF C.ro) := fenced_calm hb hr rfl
  obtain ⟨e, a₁, w₁, ⟨C₁, σ₁, h0, hq, hS₁, hk, hD⟩, harr⟩ := first C a w hS N b (.inScope c :: k) cs hro hb hr
  cases e with
  | normal => exact ⟨.normal, a₁, w₁, ⟨C₁, σ₁, h0, hq, hS₁, hk, hD⟩, .head hs0 stepR_scope (StepsIn.trans harr (.one (fenced_calm hb hr rfl) stepR_inScope))⟩
  | exit id => exact ⟨.exit id, a₁, w₁, ⟨C₁, σ₁, h0, hq, hS₁, hk, hD⟩, fun k' hkk => .head hs0 stepR_scope (harr.1 k' (by simp [exitTo, hkk])), fun hr' hkk => let ⟨k₁, h1, h2⟩ := harr.2 hr' (by simp [exitTo, hkk]); ⟨k₁, h1, .head hs0 stepR_scope h2⟩⟩
  | goto l' =>
    obtain ⟨rfl, x, hge, hx⟩ := hq
    obtain ⟨e₂, a₂, w₂, ⟨C₂, σ₂, k0, k1, k2, kk, kD⟩, harr₂⟩ := key _ x rfl hx C₁ a₁ w₁ (hge C₁ a₁ w₁ hS₁) N b k cs (by rw [h0.ro]; exact hro) trivial (by rw [h0.ro]; exact hr)
    rw [h0.ro] at harr₂
    exact ⟨e₂, a₂, w₂, ⟨C₂, σ₂, h0.trans k0, k1, k2, hk.trans kk, fun h => (kD h).trans (hD h)⟩, .of_steps (.head hs0 stepR_scope (harr.1 _ (hg k))) harr₂⟩
  | ret => exact ⟨_, a₁, w₁, ⟨C₁, σ₁, h0, hq, hS₁, hk, hD⟩, .of_steps (.one hs0 stepR_scope) harr⟩
  | panic ch => exact ⟨_, a₁, w₁, ⟨C₁, σ₁, h0, hq, hS₁, hk, hD⟩, .of_steps (.one hs0 stepR_scope) harr⟩
  | outgrown => exact ⟨_, a₁, w₁, ⟨C₁, σ₁, h0, hq, hS₁, hk, hD⟩, .of_steps (.one hs0 stepR_scope) harr⟩

/-- A jump. -/
theorem code_goto {l : Nat} (h : Q (.goto l) σ) : codeT P n (.goto l) σ Q := fun C a _ hS _ => wpIn_goto ⟨C, σ, Ctx.ext.refl C, h, hS, KeptS.refl _ a, fun _ => rfl⟩
theorem then_g {K : St → Prop} {l : Nat} (h : Q (.goto l) σ) : Then K Q (.goto l) σ := h
theorem blk_g {id l : Nat} (h : Q (.goto l) σ) : InBlock id Q (.goto l) σ := h
theorem jp_n {l : Nat} {J : St → Prop} (h : Q .normal σ) : JumpS l J Q .normal σ := h
theorem jp_x {l i : Nat} {J : St → Prop} (h : Q (.exit i) σ) : JumpS l J Q (.exit i) σ := h
theorem jp_r {l : Nat} {J : St → Prop} (h : Q .ret σ) : JumpS l J Q .ret σ := h
theorem jp_g {l : Nat} {J : St → Prop} (h : J σ) : JumpS l J Q (.goto l) σ := ⟨rfl, h⟩
end
end Go.Proofs.YtfagllolcalfiaaDoor
