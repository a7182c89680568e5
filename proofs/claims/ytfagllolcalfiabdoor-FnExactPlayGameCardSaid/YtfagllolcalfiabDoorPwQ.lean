/- The interpreter over the pure state, for the kernel to run: regions, code, loops, whole calls: what it answers of a call is a contract of that call. Own work; no conditions; nothing here is about one program. -/
import Derived.Test.YtfagllolcalfiabDoorPwP
import Derived.Scope
namespace Go.Proofs.YtfagllolcalfiabDoor
open Go.RowKit
set_option linter.unusedVariables false
set_option linter.unusedSimpArgs false
section
variable {P : Program} {n : Nat} {σ σ' : St} {ops : Array Oper}
/-! ### Regions -/
def dstAt : List Oper → Nat → Option Nat
  | [], _ => none
  | o :: _, 0 => o.dst
  | _ :: l, j + 1 => dstAt l j
theorem dstAt_eq : ∀ (l : List Oper) (j : Nat), dstAt l j = (l.toArray[j]?).bind (·.dst)
  | [], j => by simp [dstAt]
  | o :: l, 0 => by simp [dstAt]
  | o :: l, j + 1 => by
    have := dstAt_eq l j
    simp only [dstAt, List.getElem?_toArray, List.getElem?_cons_succ] at this ⊢
    exact this
theorem list_guard_nT {P : Program} {n : Nat} {σ : St} {K : St → Prop} {d : Nat} {ops : Array Oper} {l : List Oper} {o : Oper} {j dj : Nat} {want : Bool} (hg : o.guard = some (j, want)) (hd : o.dst = some d) (hj : (ops[j]?).bind (·.dst) = some dj) (hdj : σ.at dj = some (.val (.bool (!want))))
    (hn : dj < n) (hdn : d < n) (h1 : listT P n ops l ((d, .tup []) :: σ) K) : listT P n ops (o :: l) σ K := by
  intro C a w hS Q hQ
  obtain ⟨G, hG, hE⟩ := hS.gh
  have hy : yielded ops a.tmps j = some (!want) := by
    have := hE dj _ hdj
    simp only [Ok, Rep] at this
    unfold yielded
    rw [hj]
    have hlt : dj < a.tmps.size := by rw [hS.size]; exact hn
    simp only [Array.getD_eq_getD_getElem?, Array.getElem?_eq_getElem hlt, Option.getD_some] at this
    simp [Array.getElem?_eq_getElem hlt, this]
  refine wpList_step fun K' hK' => ?_
  have hw : Region.wanted o (yielded ops a.tmps) = false := by
    simp only [Region.wanted, hg, hy]
    cases want <;> rfl
  rw [hw, if_neg (by simp), hd]
  exact hK' _ _ (h1 C _ w (hS.put hG hE hdn ⟨[], rfl, rfl⟩) Q hQ)
theorem list_guard_u {P : Program} {n : Nat} {σ : St} {K : St → Prop} {d : Nat} {ops : Array Oper} {l : List Oper} {o : Oper} {j dj : Nat} {want : Bool} (hg : o.guard = some (j, want)) (hd : o.dst = some d) (hj : (ops[j]?).bind (·.dst) = some dj) (hdj : σ.at dj = some (.tup []))
    (hn : dj < n) (hdn : d < n) (h1 : listT P n ops l ((d, .tup []) :: σ) K) : listT P n ops (o :: l) σ K := by
  intro C a w hS Q hQ
  obtain ⟨G, hG, hE⟩ := hS.gh
  have hy : yielded ops a.tmps j = none := by
    have := hE dj _ hdj
    simp only [Ok] at this
    obtain ⟨vs, hv, h0⟩ := this
    simp only [OkL] at h0
    subst h0
    unfold yielded
    rw [hj]
    have hlt : dj < a.tmps.size := by rw [hS.size]; exact hn
    simp only [Array.getD_eq_getD_getElem?, Array.getElem?_eq_getElem hlt, Option.getD_some] at hv
    simp [Array.getElem?_eq_getElem hlt, hv]
  refine wpList_step fun K' hK' => ?_
  have hw : Region.wanted o (yielded ops a.tmps) = false := by
    simp only [Region.wanted, hg, hy]
    cases want <;> rfl
  rw [hw, if_neg (by simp), hd]
  exact hK' _ _ (h1 C _ w (hS.put hG hE hdn ⟨[], rfl, rfl⟩) Q hQ)
theorem draw_guard_nT {P : Program} {n : Nat} {σ : St} {K : St → Prop} {d : Nat} {ops : Array Oper} {l : List Oper} {o : Oper} {j dj : Nat} {want : Bool} (hg : o.guard = some (j, want)) (hd : o.dst = some d) (hj : (ops[j]?).bind (·.dst) = some dj) (hdj : σ.at dj = some (.val (.bool (!want))))
    (hn : dj < n) (hdn : d < n) (h1 : drawT P n ops l ((d, .tup []) :: σ) K) : drawT P n ops (o :: l) σ K := by
  intro C a w hS Q hQ
  obtain ⟨G, hG, hE⟩ := hS.gh
  have hy : yielded ops a.tmps j = some (!want) := by
    have := hE dj _ hdj
    simp only [Ok, Rep] at this
    unfold yielded
    rw [hj]
    have hlt : dj < a.tmps.size := by rw [hS.size]; exact hn
    simp only [Array.getD_eq_getD_getElem?, Array.getElem?_eq_getElem hlt, Option.getD_some] at this
    simp [Array.getElem?_eq_getElem hlt, this]
  have hw : Region.wanted o (yielded ops a.tmps) = false := by
    simp only [Region.wanted, hg, hy]
    cases want <;> rfl
  unfold wpQuiet
  rw [hw, if_neg (by simp), hd]
  exact h1 C _ w (hS.put hG hE hdn ⟨[], rfl, rfl⟩) Q hQ
theorem draw_guard_u {P : Program} {n : Nat} {σ : St} {K : St → Prop} {d : Nat} {ops : Array Oper} {l : List Oper} {o : Oper} {j dj : Nat} {want : Bool} (hg : o.guard = some (j, want)) (hd : o.dst = some d) (hj : (ops[j]?).bind (·.dst) = some dj) (hdj : σ.at dj = some (.tup []))
    (hn : dj < n) (hdn : d < n) (h1 : drawT P n ops l ((d, .tup []) :: σ) K) : drawT P n ops (o :: l) σ K := by
  intro C a w hS Q hQ
  obtain ⟨G, hG, hE⟩ := hS.gh
  have hy : yielded ops a.tmps j = none := by
    have := hE dj _ hdj
    simp only [Ok] at this
    obtain ⟨vs, hv, h0⟩ := this
    simp only [OkL] at h0
    subst h0
    unfold yielded
    rw [hj]
    have hlt : dj < a.tmps.size := by rw [hS.size]; exact hn
    simp only [Array.getD_eq_getD_getElem?, Array.getElem?_eq_getElem hlt, Option.getD_some] at hv
    simp [Array.getElem?_eq_getElem hlt, hv]
  have hw : Region.wanted o (yielded ops a.tmps) = false := by
    simp only [Region.wanted, hg, hy]
    cases want <;> rfl
  unfold wpQuiet
  rw [hw, if_neg (by simp), hd]
  exact h1 C _ w (hS.put hG hE hdn ⟨[], rfl, rfl⟩) Q hQ
noncomputable def guardQ (n : Nat) (all : List Oper) (σ : St) (d j : Nat) : Option Bool :=
  match dstAt all j with
  | some dj => bif Nat.blt dj n && !(Nat.beq dj d) then (match σ.get dj with
    | some (.val (.bool b)) => some b
    | _ => none) else none
  | none => none
noncomputable def guardU (n : Nat) (all : List Oper) (σ : St) (d j : Nat) : Option (Option Bool) :=
  match dstAt all j with
  | some dj => bif Nat.blt dj n && !(Nat.beq dj d) && Nat.blt d n then (match σ.get dj with
    | some (.val (.bool b)) => some (some b)
    | some (.tup []) => some none
    | _ => none) else none
  | none => none
theorem guardU_ok {all : List Oper} {d j : Nat} {r : Option Bool} (h : guardU n all σ d j = some r) : ∃ dj, (all.toArray[j]?).bind (·.dst) = some dj ∧ dj < n ∧ d < n ∧ (σ.del d).at dj = σ.at dj ∧ match r with | some b => σ.at dj = some (.val (.bool b)) | none => σ.at dj = some (.tup []) := by
  unfold guardU at h
  split at h
  · rename_i dj hj
    cases hb : (Nat.blt dj n && !(Nat.beq dj d) && Nat.blt d n) with
    | false => rw [hb] at h; cases h
    | true =>
      rw [hb] at h
      simp only [cond_true] at h
      simp only [Bool.and_eq_true] at hb
      have hne : (σ.del d).at dj = σ.at dj := by rw [del_at, if_neg (nbeq_of hb.1.2)]
      split at h
      · rename_i hg
        simp only [Option.some.injEq] at h; subst h
        rw [get_eq] at hg
        exact ⟨dj, by rw [← dstAt_eq]; exact hj, Nat.le_of_ble_eq_true hb.1.1, Nat.le_of_ble_eq_true hb.2, hne, hg⟩
      · rename_i hg
        simp only [Option.some.injEq] at h; subst h
        rw [get_eq] at hg
        exact ⟨dj, by rw [← dstAt_eq]; exact hj, Nat.le_of_ble_eq_true hb.1.1, Nat.le_of_ble_eq_true hb.2, hne, hg⟩
      · cases h
  · cases h
theorem guardQ_ok {all : List Oper} {d j : Nat} {b : Bool} (h : guardQ n all σ d j = some b) : ∃ dj, (all.toArray[j]?).bind (·.dst) = some dj ∧ dj < n ∧ (σ.del d).at dj = some (.val (.bool b)) := by
  unfold guardQ at h
  split at h
  · rename_i dj hj
    cases hb : (Nat.blt dj n && !(Nat.beq dj d)) with
    | false => rw [hb] at h; cases h
    | true =>
      rw [hb] at h
      simp only [cond_true] at h
      simp only [Bool.and_eq_true] at hb
      split at h
      · rename_i hg
        simp only [Option.some.injEq] at h; subst h
        rw [get_eq] at hg
        exact ⟨dj, by rw [← dstAt_eq]; exact hj, Nat.le_of_ble_eq_true hb.1, by rw [del_at, if_neg (nbeq_of hb.2)]; exact hg⟩
      · cases h
  · cases h
noncomputable def stepL {P : Program} (T : TF P) (call : CallF) (n : Nat) (all : List Oper) : List Oper → St → Option St
  | [], σ => some σ
  | o :: l, σ => match o.guard with
    | none => match stepO T call n σ o with
      | some σ' => stepL T call n all l σ'
      | none => none
    | some (j, want) => match o.dst with
      | none => none
      | some d => match guardU n all σ d j with
        | none => none
        | some none => stepL T call n all l ((d, .tup []) :: σ)
        | some (some b) => bif b == want then (match stepO T call n (σ.del d) o with
            | some σ' => stepL T call n all l σ'
            | none => none)
          else stepL T call n all l ((d, .tup []) :: σ)
theorem stepL_ok (T : TF P) {call : CallF} (hc : call.ok P) {all : List Oper} : ∀ (l : List Oper) (σ σ' : St), stepL T call n all l σ = some σ' → listT P n all.toArray l σ (fun s => Imp n s σ')
  | [], σ, σ', h => by
    simp only [stepL, Option.some.injEq] at h; subst h
    exact list_nil (Imp.refl n σ)
  | o :: l, σ, σ', h => by
    unfold stepL at h
    split at h
    · rename_i hg
      split at h
      · rename_i σ1 h1
        exact list_cons hg ((stepO_ok T hc h1).mono fun s hs => (stepL_ok T hc l σ1 σ' h).imp hs)
      · cases h
    · rename_i j want hg
      split at h
      · cases h
      · rename_i d hd
        split at h
        · cases h
        · rename_i hq
          obtain ⟨dj, h1, h2, h3, _, h5⟩ := guardU_ok hq
          exact list_guard_u hg hd h1 h5 h2 h3 (stepL_ok T hc l _ σ' h)
        · rename_i b hq
          obtain ⟨dj, h1, h2, h3, h4, h5⟩ := guardU_ok hq
          have hdd : (σ.del d).at d = none := by rw [del_at, if_pos rfl]
          cases hb : (b == want) with
          | true =>
            rw [hb] at h
            simp only [cond_true] at h
            split at h
            · rename_i σ1 h6
              exact listT.imp (list_guard hg hd h1 (h4.trans h5) h2 hdd (fun _ => (stepO_ok T hc h6).mono fun s hs => (stepL_ok T hc l σ1 σ' h).imp hs) (fun hn => absurd (eq_of_beq hb) hn)) (imp_del d)
            · cases h
          | false =>
            rw [hb] at h
            simp only [cond_false] at h
            have hw : b = !want := by cases b <;> cases want <;> simp_all
            exact list_guard_nT hg hd h1 (by rw [h5, hw]) h2 h3 (stepL_ok T hc l _ σ' h)
noncomputable def stepD {P : Program} (T : TF P) (call : CallF) (n : Nat) (all : List Oper) : List Oper → St → Option St
  | [], σ => some σ
  | ⟨some d, .call ⟨.value (.func f), xs, _⟩, _, _, _, none⟩ :: l, σ => bif Nat.blt d n then (match σ.evsq xs.toList with
      | some ss => match pvs ss with
        | some ps => match call f ps with
          | some [.val p] => bif p.flat then stepD T call n all l (σ.set d (.val p)) else none
          | _ => none
        | none => none
      | none => none) else none
  | ⟨some d, op, _, _, _, none⟩ :: l, σ => bif Nat.blt d n then (match qval T σ op with
      | some s => stepD T call n all l (σ.set d s)
      | none => none) else none
  | ⟨some d, op, _, _, _, some (j, want)⟩ :: l, σ => match guardQ n all σ d j with
      | none => none
      | some b => bif b == want then (bif Nat.blt d n then (match qval T (σ.del d) op with
          | some s => stepD T call n all l (σ.set d s)
          | none => none) else none)
        else stepD T call n all l (σ.del d)
  | _ :: _, _ => none
theorem stepD_ok (T : TF P) {call : CallF} (hc : call.ok P) {all : List Oper} : ∀ (l : List Oper) (σ σ' : St), stepD T call n all l σ = some σ' → drawT P n all.toArray l σ (fun s => Imp n s σ') := by
  intro l
  induction l with
  | nil =>
    intro σ σ' h
    simp only [stepD, Option.some.injEq] at h; subst h
    exact draw_nil (Imp.refl n σ)
  | cons o l ih =>
    intro σ σ' h
    unfold stepD at h
    split at h
    · rename_i he; cases he
    · rename_i d f xs ts ty pos af l' he
      obtain ⟨rfl, rfl⟩ := List.cons.inj he
      obtain ⟨xs⟩ := xs
      cases hb : Nat.blt d n with
      | false => rw [hb] at h; cases h
      | true =>
        rw [hb] at h
        simp only [cond_true] at h
        split at h
        · rename_i ss hss
          rw [evsq_eq] at hss
          split at h
          · rename_i ps hps
            split at h
            · rename_i p hp
              cases hf : p.flat with
              | false => rw [hf] at h; cases h
              | true =>
                rw [hf] at h
                simp only [cond_true] at h
                exact draw_call ss (hc _ _ _ hp) hf hss hps (Nat.le_of_ble_eq_true hb) ((ih _ _ h).imp (imp_put d _))
            · cases h
          · cases h
        · cases h
    · rename_i d op ty pos af l' _ he
      obtain ⟨rfl, rfl⟩ := List.cons.inj he
      cases hb : Nat.blt d n with
      | false => rw [hb] at h; cases h
      | true =>
        rw [hb] at h
        simp only [cond_true] at h
        split at h
        · rename_i s hq
          exact draw_q rfl (qval_ok T hq (Nat.le_of_ble_eq_true hb)) ((ih _ _ h).imp (imp_put d _))
        · cases h
    · rename_i d op ty pos af j want l' he
      obtain ⟨rfl, rfl⟩ := List.cons.inj he
      split at h
      · cases h
      · rename_i b hq
        obtain ⟨dj, h1, h2, h3⟩ := guardQ_ok hq
        have hdd : ∀ τ : St, (τ.del d).at d = none := fun τ => by rw [del_at, if_pos rfl]
        cases hw : (b == want) with
        | true =>
          rw [hw] at h
          simp only [cond_true] at h
          cases hb : Nat.blt d n with
          | false => rw [hb] at h; cases h
          | true =>
            rw [hb] at h
            simp only [cond_true] at h
            split at h
            · rename_i s hqv
              exact drawT.imp (draw_guard rfl rfl h1 h3 h2 (hdd _) (fun _ => ⟨s, qval_ok T hqv (Nat.le_of_ble_eq_true hb), (ih _ _ h).imp (imp_put2 d _)⟩) (fun hn => absurd (eq_of_beq hw) hn)) (imp_del d)
            · cases h
        | false =>
          rw [hw] at h
          simp only [cond_false] at h
          exact drawT.imp (draw_guard rfl rfl h1 h3 h2 (hdd _) (fun e => by subst e; simp at hw) (fun _ => ih _ _ h)) (imp_del d)
    · cases h
/-! ### Code -/
inductive EX where
  | nrm
  | ret
  | ext (i : Nat)
def EX.of : EX → Exit
  | .nrm => .normal
  | .ret => .ret
  | .ext i => .exit i
noncomputable def rounds (body : St → Option (EX × St)) : Nat → St → Option (EX × St)
  | 0, _ => none
  | k + 1, σ => match body σ with
    | some (.nrm, σ') => rounds body k σ'
    | r => r
noncomputable def evalC {P : Program} (T : TF P) (call : CallF) (n N : Nat) : Code → St → Option (EX × St)
  | .skip, σ => some (.nrm, σ)
  | .label _, σ => some (.nrm, σ)
  | .ret, σ => some (.ret, σ)
  | .exit i, σ => some (.ext i, σ)
  | .region _ ops false, σ => match stepL T call n ops.toList ops.toList σ with
    | some σ' => some (.nrm, σ')
    | none => none
  | .region _ ops true, σ => bif Region.lexB .any ops then (match stepD T call n ops.toList ops.toList σ with
    | some σ' => some (.nrm, σ')
    | none => none) else none
  | .seq a b, σ => match evalC T call n N a σ with
    | some (.nrm, σ') => evalC T call n N b σ'
    | r => r
  | .cond c a b, σ => match σ.evq c with
    | some (.val (.bool true)) => evalC T call n N a σ
    | some (.val (.bool false)) => evalC T call n N b σ
    | _ => none
  | .block i a, σ => match evalC T call n N a σ with
    | some (.ext j, σ') => bif Nat.beq j i then some (.nrm, σ') else some (.ext j, σ')
    | r => r
  | .scope a, σ => evalC T call n N a σ
  | .loop a, σ => rounds (evalC T call n N a) N σ
  | _, _ => none
def RunsT (P : Program) (n : Nat) (c : Code) (σ : St) (x : EX) (σ' : St) : Prop := codeT P n c σ fun e s => e = x.of ∧ Imp n s σ'
theorem runs_imp {c : Code} {x : EX} {σ1 : St} (h : RunsT P n c σ1 x σ') (hi : Imp n σ σ1) : RunsT P n c σ x σ' := codeT.imp h hi
theorem rounds_ok {c : Code} {body : St → Option (EX × St)} (hb : ∀ σ x σ', body σ = some (x, σ') → RunsT P n c σ x σ') : ∀ (k : Nat) (σ : St) (x : EX) (σ' : St), rounds body k σ = some (x, σ') →
    ∃ (m : Nat) (tr : Nat → St) (x' : EX) , tr 0 = σ ∧ (∀ i, i < m → body (tr i) = some (.nrm, tr (i + 1))) ∧ body (tr m) = some (x', σ') ∧ x' = x ∧ x ≠ .nrm
  | 0, σ, x, σ', h => by simp [rounds] at h
  | k + 1, σ, x, σ', h => by
    unfold rounds at h
    split at h
    · rename_i σ1 h1
      obtain ⟨m, tr, x', h2, h3, h4, h5, h6⟩ := rounds_ok hb k σ1 x σ' h
      refine ⟨m + 1, fun i => match i with | 0 => σ | i + 1 => tr i, x', rfl, fun i hi => ?_, h4, h5, h6⟩
      cases i with
      | zero => show body σ = some (.nrm, tr 0); rw [h2]; exact h1
      | succ i => exact h3 i (by omega)
    · rename_i r hr
      refine ⟨0, fun _ => σ, x, rfl, fun i hi => absurd hi (by omega), h, rfl, fun e => ?_⟩
      subst e
      exact hr σ' h
theorem evalC_ok (T : TF P) {call : CallF} (hc : call.ok P) {N : Nat} : ∀ (c : Code) (σ : St) (x : EX) (σ' : St), evalC T call n N c σ = some (x, σ') → RunsT P n c σ x σ'
  | .skip, σ, x, σ', h => by
    simp only [evalC, Option.some.injEq, Prod.mk.injEq] at h; obtain ⟨rfl, rfl⟩ := h
    exact code_skip ⟨rfl, Imp.refl n σ⟩
  | .label l, σ, x, σ', h => by
    simp only [evalC, Option.some.injEq, Prod.mk.injEq] at h; obtain ⟨rfl, rfl⟩ := h
    exact code_label ⟨rfl, Imp.refl n σ⟩
  | .ret, σ, x, σ', h => by
    simp only [evalC, Option.some.injEq, Prod.mk.injEq] at h; obtain ⟨rfl, rfl⟩ := h
    exact code_ret ⟨rfl, Imp.refl n σ⟩
  | .exit i, σ, x, σ', h => by
    simp only [evalC, Option.some.injEq, Prod.mk.injEq] at h; obtain ⟨rfl, rfl⟩ := h
    exact code_exit ⟨rfl, Imp.refl n σ⟩
  | .region id ⟨ops⟩ false, σ, x, σ', h => by
    simp only [evalC] at h
    split at h
    · rename_i σ1 h1
      simp only [Option.some.injEq, Prod.mk.injEq] at h; obtain ⟨rfl, rfl⟩ := h
      exact code_region ((stepL_ok T hc ops σ σ1 h1).mono fun s hs => ⟨rfl, hs⟩)
    · cases h
  | .region id ⟨ops⟩ true, σ, x, σ', h => by
    simp only [evalC] at h
    cases hb : Region.lexB .any ops.toArray with
    | false => rw [hb] at h; cases h
    | true =>
      rw [hb] at h
      simp only [cond_true] at h
      split at h
      · rename_i σ1 h1
        simp only [Option.some.injEq, Prod.mk.injEq] at h; obtain ⟨rfl, rfl⟩ := h
        refine code_draw T.mix hb ?_
        intro C a w hS Q hQ
        exact stepD_ok T hc ops σ σ1 h1 C a w hS Q fun s a' hs hS' => hQ s a' ⟨rfl, hs⟩ hS'
      · cases h
  | .seq a b, σ, x, σ', h => by
    simp only [evalC] at h
    refine code_seq fun K hK => ?_
    split at h
    · rename_i σ1 h1
      refine codeT.mono (evalC_ok T hc a σ .nrm σ1 h1) ?_
      rintro e s ⟨rfl, hs⟩
      exact hK s (runs_imp (evalC_ok T hc b σ1 x σ' h) hs)
    · rename_i r hr
      refine codeT.mono (evalC_ok T hc a σ x σ' h) ?_
      rintro e s ⟨rfl, hs⟩
      cases x with
      | nrm => exact absurd h (hr σ')
      | ret => exact ⟨rfl, hs⟩
      | ext i => exact ⟨rfl, hs⟩
  | .cond c a b, σ, x, σ', h => by
    simp only [evalC] at h
    split at h
    · rename_i hv
      rw [evq_eq] at hv
      exact code_cond_t hv (evalC_ok T hc a σ x σ' h)
    · rename_i hv
      rw [evq_eq] at hv
      exact code_cond_f hv (evalC_ok T hc b σ x σ' h)
    · cases h
  | .block i a, σ, x, σ', h => by
    simp only [evalC] at h
    refine code_block ?_
    split at h
    · rename_i j σ1 h1
      refine codeT.mono (evalC_ok T hc a σ (.ext j) σ1 h1) ?_
      rintro e s ⟨rfl, hs⟩
      cases hb : Nat.beq j i with
      | true =>
        rw [hb] at h
        simp only [cond_true, Option.some.injEq, Prod.mk.injEq] at h; obtain ⟨rfl, rfl⟩ := h
        obtain rfl := beq_of hb
        exact blk_hit ⟨rfl, hs⟩
      | false =>
        rw [hb] at h
        simp only [cond_false, Option.some.injEq, Prod.mk.injEq] at h; obtain ⟨rfl, rfl⟩ := h
        exact blk_miss (fun e => by subst e; simp at hb) ⟨rfl, hs⟩
    · rename_i r hr
      refine codeT.mono (evalC_ok T hc a σ x σ' h) ?_
      rintro e s ⟨rfl, hs⟩
      cases x with
      | nrm => exact ⟨rfl, hs⟩
      | ret => exact ⟨rfl, hs⟩
      | ext j => exact absurd h (hr j σ')
  | .scope a, σ, x, σ', h => by
    simp only [evalC] at h
    have h1 := evalC_ok T hc a σ x σ' h
    refine code_scope (codeT.mono h1 ?_)
    rintro e s ⟨rfl, hs⟩
    cases x <;> exact ⟨rfl, hs⟩
  | .loop a, σ, x, σ', h => by
    simp only [evalC] at h
    have hb : ∀ σ x σ', evalC T call n N a σ = some (x, σ') → RunsT P n a σ x σ' := fun σ x σ' => evalC_ok T hc a σ x σ'
    obtain ⟨m, tr, x', h2, h3, h4, h5, h6⟩ := rounds_ok hb N σ x σ' h
    subst h5
    refine code_loop (X := Nat) tr (fun i => i ≤ m) (fun i => m - i) 0 (by rw [h2]; exact Imp.refl n σ) (Nat.zero_le _) fun i hi => ?_
    by_cases hlt : i < m
    · refine codeT.mono (hb _ _ _ (h3 i hlt)) ?_
      rintro e s ⟨rfl, hs⟩
      exact ⟨i + 1, hs, hlt, by omega⟩
    · have : i = m := by omega
      subst this
      refine codeT.mono (hb _ _ _ h4) ?_
      rintro e s ⟨rfl, hs⟩
      cases x' with
      | nrm => exact absurd rfl h6
      | ret => exact ⟨rfl, hs⟩
      | ext j => exact ⟨rfl, hs⟩
  | .rangeFunc .., σ, x, σ', h => by simp [evalC] at h
  | .goto _, σ, x, σ', h => by simp [evalC] at h
  | .refuse _, σ, x, σ', h => by simp [evalC] at h
/-! ### Calls -/
def TF.az {P : Program} (T : TF P) (u : TypeId) : Nat := (lk T.agg u).getD 0
def cellsKnown {P : Program} (T : TF P) : List ResultVar → Bool
  | [] => true
  | .tmp _ :: r => cellsKnown T r
  | .cell _ u :: r => (match lk T.agg u with | some k => !(Nat.beq k 0) | none => false) && cellsKnown T r
theorem cellsKnown_ok (T : TF P) : ∀ {l : List ResultVar}, cellsKnown T l = true → ∀ t u, ResultVar.cell t u ∈ l → ResTy P u (T.az u)
  | [], _, t, u, hm => by cases hm
  | .tmp s :: r, h, t, u, hm => by
    rcases List.mem_cons.1 hm with e | hm
    · cases e
    · exact cellsKnown_ok T (l := r) h t u hm
  | .cell s v :: r, h, t, u, hm => by
    unfold cellsKnown at h
    simp only [Bool.and_eq_true] at h
    rcases List.mem_cons.1 hm with e | hm
    · cases e
      unfold TF.az
      cases hk : lk T.agg v with
      | none => rw [hk] at h; cases h.1
      | some k =>
        rw [hk] at h
        simp only [Option.getD_some]
        refine resTy_agg (T.aggOf hk) fun e => ?_
        subst e
        have := h.1
        simp at this
    · exact cellsKnown_ok T h.2 t u hm
noncomputable def fin {P : Program} (T : TF P) (g : Func) (σ : St) : Option (List SV) :=
  match σ.res T.az g.results.toList with
  | none => none
  | some xs => match outs 0 xs with
    | none => none
    | some rs => bif labsOk (SV.labRL xs) && Nat.ble xs.length 100 then some rs else none
theorem fin_ok (T : TF P) {g : Func} {rs : List SV} (h : fin T g σ = some rs) : ∃ xs, σ.res T.az g.results.toList = some xs ∧ outs 0 xs = some rs ∧ labsOk (SV.labRL xs) = true ∧ Nat.ble xs.length 100 = true := by
  unfold fin at h
  split at h
  · cases h
  · rename_i xs h1
    split at h
    · cases h
    · rename_i rs' h2
      cases hb : (labsOk (SV.labRL xs) && Nat.ble xs.length 100) with
      | false => rw [hb] at h; cases h
      | true =>
        rw [hb] at h
        simp only [cond_true, Option.some.injEq] at h; subst h
        simp only [Bool.and_eq_true] at hb
        exact ⟨xs, h1, h2, hb.1, hb.2⟩
noncomputable def crun {P : Program} (T : TF P) (ext : CallF) (N : Nat) : Nat → CallF
  | 0 => ext
  | k + 1 => fun f ps => match ext f ps with
    | some rs => some rs
    | none => match P.funcs[f]? with
      | none => none
      | some g => match g.body with
        | none => none
        | some c => bif Nat.blt ps.length g.ntmps && (cellsKnown T g.results.toList && !(g.name == "runtime.NumGoroutine")) then
            (match evalC T (crun T ext N k) g.ntmps N c (inits false 0 ps) with
              | some (.ret, σ) => fin T g σ
              | some (.nrm, σ) => fin T g σ
              | _ => none)
          else none
theorem crun_ok (T : TF P) {ext : CallF} (he : ext.ok P) {N : Nat} : ∀ k, (crun T ext N k).ok P
  | 0 => he
  | k + 1 => fun f ps rs h => by
    unfold crun at h
    split at h
    · rename_i rs' h1
      simp only [Option.some.injEq] at h; subst h
      exact he f ps _ h1
    · split at h
      · cases h
      · rename_i g hg
        split at h
        · cases h
        · rename_i c hbody
          cases hb : (Nat.blt ps.length g.ntmps && (cellsKnown T g.results.toList && !(g.name == "runtime.NumGoroutine"))) with
          | false => rw [hb] at h; cases h
          | true =>
            rw [hb] at h
            simp only [cond_true] at h
            simp only [Bool.and_eq_true, Bool.not_eq_true'] at hb
            obtain ⟨h1, h2, h3⟩ := hb
            refine pcalls_of_code (n := g.ntmps) T.az hg h3 hbody rfl (Nat.le_of_ble_eq_true h1) (cellsKnown_ok T h2) ?_
            have key : ∀ (x : EX) (σ1 : St), evalC T (crun T ext N k) g.ntmps N c (inits false 0 ps) = some (x, σ1) → (x = .nrm ∨ x = .ret) → fin T g σ1 = some rs → codeT P g.ntmps c (inits false 0 ps) (Ends T.az g none fun r _ => r = rs) := by
              intro x σ1 h4 hx h5
              obtain ⟨xs, e1, e2, e3, e4⟩ := fin_ok T h5
              have hr := evalC_ok T (crun_ok T he k) c _ _ _ h4
              refine codeT.post hr ?_
              rintro e s ⟨rfl, hs⟩
              refine ⟨σ1, hs, ?_⟩
              rcases hx with rfl | rfl
              · exact ends_nrm (cs := []) e1 e2 e3 e4 trivial rfl
              · exact ends_ret (cs := []) e1 e2 e3 e4 trivial rfl
            split at h
            · rename_i σ1 h4; exact key _ _ h4 (.inr rfl) h
            · rename_i σ1 h4; exact key _ _ h4 (.inl rfl) h
            · cases h
def noExt : CallF := fun _ _ => none
theorem noExt_ok : noExt.ok P := fun f ps rs h => by cases h
end
end Go.Proofs.YtfagllolcalfiabDoor
