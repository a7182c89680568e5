/- The interpreter over the pure state, for the kernel to run: operations that make or write memory, regions, code, calls. Whatever it answers is so. Own work; no conditions; nothing here is about one program. -/
import Derived.Test.YtfagllolcalfiabDoorPwO
namespace Go.Proofs.YtfagllolcalfiabDoor
open Go.RowKit
set_option linter.unusedVariables false
set_option linter.unusedSimpArgs false
section
variable {P : Program} {n : Nat} {σ σ' : St} {K : St → Prop} {ops : Array Oper} {l : List Oper}
theorem opT.imp {o : Oper} (h : opT P n o σ' K) (hi : Imp n σ σ') : opT P n o σ K := fun C a w hS => h C a w (hi C a w hS)
theorem listT.imp (h : listT P n ops l σ' K) (hi : Imp n σ σ') : listT P n ops l σ K := fun C a w hS => h C a w (hi C a w hS)
theorem drawT.imp (h : drawT P n ops l σ' K) (hi : Imp n σ σ') : drawT P n ops l σ K := fun C a w hS => h C a w (hi C a w hS)
/-! ### Labels -/
noncomputable def St.top (σ : St) : Nat := ((σ.labels.foldl Nat.max 0) / 1000 + 1) * 1000 + 999
noncomputable def St.mv (σ : St) (l : Nat) : St :=
  let q := σ.top
  bif !(Nat.beq l 2000) && (!(Nat.beq q 2000) && σ.labels.all (· != q)) then σ.ren l q else σ
theorem imp_mv (l : Nat) : Imp n σ (σ.mv l) := by
  unfold St.mv
  dsimp only
  cases h : (!(Nat.beq l 2000) && (!(Nat.beq σ.top 2000) && σ.labels.all (· != σ.top))) with
  | false => exact Imp.refl n σ
  | true =>
    simp only [Bool.and_eq_true, Bool.not_eq_true'] at h
    exact imp_ren l σ.top (fun e => by rw [e] at h; simp at h) (fun e => by rw [e] at h; simp at h) h.2.2
noncomputable def St.free (σ : St) (d : Nat) (p : Nat → Bool) : St :=
  let σ1 := σ.del d
  match σ1.labels.filter p with
  | [] => σ1
  | ls => ls.foldl St.mv σ1
theorem imp_foldmv : ∀ (ls : List Nat) (σ : St), Imp n σ (ls.foldl St.mv σ)
  | [], σ => Imp.refl n σ
  | l :: ls, σ => (imp_mv l).trans (imp_foldmv ls _)
theorem imp_free (d : Nat) (p : Nat → Bool) : Imp n σ (σ.free d p) := by
  unfold St.free
  dsimp only
  split
  · exact imp_del d
  · exact (imp_del d).trans (imp_foldmv _ _)
/-! ### Operations -/
noncomputable def St.evsq (σ : St) : List Operand → Option (List SV)
  | [] => some []
  | x :: xs => match σ.evq x, St.evsq σ xs with
    | some s, some ss => some (s :: ss)
    | _, _ => none
theorem evsq_eq (σ : St) : ∀ l : List Operand, σ.evsq l = σ.evs l
  | [] => rfl
  | x :: r => by
    unfold St.evsq St.evs; rw [evq_eq, evsq_eq σ r]
    cases σ.ev x <;> cases σ.evs r <;> rfl
abbrev CallF := FuncId → List PV → Option (List SV)
def CallF.ok (P : Program) (call : CallF) : Prop := ∀ f ps rs, call f ps = some rs → PCalls P f ps (· = rs)
def cellsN {P : Program} (T : TF P) (t : Nat) : Option Nat := match lk T.one t with
  | some _ => some 1
  | none => lk T.agg t
theorem cellsN_ok {P : Program} (T : TF P) {t k : Nat} (h : cellsN T t = some k) : ∀ w, (sizeOf t).run P w = .ok k w := by
  unfold cellsN at h
  split at h
  · rename_i ho
    simp only [Option.some.injEq] at h; subst h
    exact (T.oneOf ho).2
  · exact (T.aggOf h).2
noncomputable def appO {P : Program} (T : TF P) (n : Nat) (σ : St) (d t : Nat) (x y : Operand) : Option St :=
  match σ.evq x, σ.evq y, lk T.sl t with
  | some sx, some sy, some (e, size, bytes, _) => match sy.pv with
    | some (.sl k ds) => match sx with
      | .own l e' s' m cs =>
        bif Nat.beq e' e && (Nat.beq s' size && (Nat.beq ds.length (k * size) && (Nat.ble ((m + k) * bytes) 140737488355328 && (Nat.blt d n && !(Nat.beq l 2000))))) then
          bif PV.flatL ds then some (St.set (σ.kill l) d (.own l e size (m + k) (cs ++ ds)))
          else match sy with
            | .own q _ _ _ _ => bif !(Nat.beq q l) && !(Nat.beq q 2000) then some (St.set ((σ.kill l).kill q) d (.own l e size (m + k) (cs ++ ds))) else none
            | _ => none
        else none
      | .val (.sl 0 []) =>
        bif Nat.beq ds.length (k * size) && (Nat.ble (k * bytes) 140737488355328 && (Nat.blt d n && (!(Nat.beq d 2000) && !(σ.labels.contains d)))) then
          bif PV.flatL ds then some (St.set (σ.kill d) d (.own d e size k ds))
          else match sy with
            | .own q _ _ _ _ => bif !(Nat.beq q d) && !(Nat.beq q 2000) then some (St.set ((σ.kill d).kill q) d (.own d e size k ds)) else none
            | _ => none
        else none
      | _ => none
    | _ => none
  | _, _, _ => none
theorem beq_of {a b : Nat} (h : Nat.beq a b = true) : a = b := Nat.eq_of_beq_eq_true h
theorem nbeq_of {a b : Nat} (h : (!Nat.beq a b) = true) : a ≠ b := fun e => by subst e; simp at h
variable {d : Nat} {ty : TypeId} {pos : String} {af : Array Edge} {gd : Option (Nat × Bool)}
theorem appO_ok (T : TF P) {t : TypeId} {x y : Operand} (h : appO T n σ d t x y = some σ') : opT P n ⟨some d, .call { callee := .builtin .append, args := #[x, y], argTypes := #[t, t] }, ty, pos, af, gd⟩ σ (fun s => Imp n s σ') := by
  unfold appO at h
  split at h
  · rename_i sx sy e size bytes z hx hy hsl
    rw [evq_eq] at hx hy
    split at h
    · rename_i k ds hpv
      split at h
      · rename_i l e' s' m cs
        cases hb : (Nat.beq e' e && (Nat.beq s' size && (Nat.beq ds.length (k * size) && (Nat.ble ((m + k) * bytes) 140737488355328 && (Nat.blt d n && !(Nat.beq l 2000)))))) with
        | false => rw [hb] at h; cases h
        | true =>
          rw [hb] at h
          simp only [cond_true] at h
          simp only [Bool.and_eq_true] at hb
          obtain ⟨h1, h2, h3, h4, h5, h6⟩ := hb
          obtain rfl := beq_of h1
          obtain rfl := beq_of h2
          cases hf : PV.flatL ds with
          | true =>
            rw [hf] at h
            simp only [cond_true, Option.some.injEq] at h; subst h
            exact op_append_gen (T.slOf hsl) (l := l) (l2 := none) (.inl hx) hy hpv (.inl ⟨rfl, hf⟩) (beq_of h3) (Nat.le_of_ble_eq_true h4) (Nat.le_of_ble_eq_true h5) (nbeq_of h6) (by simp) (imp_put d _)
          | false =>
            rw [hf] at h
            simp only [cond_false] at h
            split at h
            · rename_i q e2 s2 m2 cs2
              cases hq : (!(Nat.beq q l) && !(Nat.beq q 2000)) with
              | false => rw [hq] at h; cases h
              | true =>
                rw [hq] at h
                simp only [cond_true, Option.some.injEq] at h; subst h
                simp only [Bool.and_eq_true] at hq
                have hpv' := hpv
                simp only [SV.pv, Option.some.injEq, PV.sl.injEq] at hpv'
                obtain ⟨rfl, rfl⟩ := hpv'
                exact op_append_gen (T.slOf hsl) (l := l) (l2 := some q) (.inl hx) hy hpv (.inr ⟨q, e2, s2, rfl, nbeq_of hq.1, rfl⟩) (beq_of h3) (Nat.le_of_ble_eq_true h4) (Nat.le_of_ble_eq_true h5) (nbeq_of h6) (by simpa using nbeq_of hq.2) (imp_put d _)
            · cases h
      · cases hb : (Nat.beq ds.length (k * size) && (Nat.ble (k * bytes) 140737488355328 && (Nat.blt d n && (!(Nat.beq d 2000) && !(σ.labels.contains d))))) with
        | false => rw [hb] at h; cases h
        | true =>
          rw [hb] at h
          simp only [cond_true] at h
          simp only [Bool.and_eq_true] at hb
          obtain ⟨h3, h4, h5, h6, h7⟩ := hb
          have h7' : d ∉ σ.labels := by simpa using h7
          have h4' : (0 + k) * bytes ≤ 140737488355328 := by rw [Nat.zero_add]; exact Nat.le_of_ble_eq_true h4
          cases hf : PV.flatL ds with
          | true =>
            rw [hf] at h
            simp only [cond_true, Option.some.injEq] at h; subst h
            refine op_append_gen (T.slOf hsl) (l := d) (m := 0) (cs := []) (l2 := none) (.inr ⟨hx, rfl, rfl, h7'⟩) hy hpv (.inl ⟨rfl, hf⟩) (beq_of h3) h4' (Nat.le_of_ble_eq_true h5) (nbeq_of h6) (by simp) ?_
            rw [Nat.zero_add, List.nil_append]
            exact imp_put d _
          | false =>
            rw [hf] at h
            simp only [cond_false] at h
            split at h
            · rename_i q e2 s2 m2 cs2
              cases hq : (!(Nat.beq q d) && !(Nat.beq q 2000)) with
              | false => rw [hq] at h; cases h
              | true =>
                rw [hq] at h
                simp only [cond_true, Option.some.injEq] at h; subst h
                simp only [Bool.and_eq_true] at hq
                have hpv' := hpv
                simp only [SV.pv, Option.some.injEq, PV.sl.injEq] at hpv'
                obtain ⟨rfl, rfl⟩ := hpv'
                refine op_append_gen (T.slOf hsl) (l := d) (m := 0) (cs := []) (l2 := some q) (.inr ⟨hx, rfl, rfl, h7'⟩) hy hpv (.inr ⟨q, e2, s2, rfl, nbeq_of hq.1, rfl⟩) (beq_of h3) h4' (Nat.le_of_ble_eq_true h5) (nbeq_of h6) (by simpa using nbeq_of hq.2) ?_
                rw [Nat.zero_add, List.nil_append]
                exact imp_put d _
            · cases h
      · cases h
    · cases h
  · cases h
noncomputable def bslO {P : Program} (T : TF P) (n : Nat) (σ : St) (d t len : Nat) (parts : List (Nat × Operand)) : Option St :=
  match lk T.sl t with
  | none => none
  | some (e, size, _, zc) => bif Nat.blt d n && (!(Nat.beq d 2000) && σ.labels.all (· != d)) then
      match σ.evpq parts with
      | some ps => match fillP (fun i => some (i * size, size)) (zeros zc len) ps with
        | some cs => bif Nat.beq cs.length (len * size) && Nat.ble (len * size) 16777216 then some (St.set (σ) d (.own d e size len cs)) else none
        | none => none
      | none => match parts with
        | [(0, x)] => match σ.evq x with
          | some (.own l _ _ m cs) => bif Nat.beq len 1 && (Nat.beq size 1 && !(Nat.beq l 2000)) then some (St.set (σ.kill l) d (.own d e 1 1 [.sl m cs])) else none
          | _ => none
        | _ => none
    else none
theorem bslO_ok (T : TF P) {t len : Nat} {parts : Array (Nat × Operand)} (h : bslO T n σ d t len parts.toList = some σ') : opT P n ⟨some d, .buildSlice t len parts, ty, pos, af, gd⟩ σ (fun s => Imp n s σ') := by
  obtain ⟨parts⟩ := parts
  simp only at h
  unfold bslO at h
  split at h
  · cases h
  · rename_i e size bytes zc hsl
    cases hb : (Nat.blt d n && (!(Nat.beq d 2000) && σ.labels.all (· != d))) with
    | false => rw [hb] at h; cases h
    | true =>
      rw [hb] at h
      simp only [cond_true] at h
      simp only [Bool.and_eq_true] at hb
      obtain ⟨h1, h2, h3⟩ := hb
      split at h
      · rename_i ps hps
        rw [evpq_eq] at hps
        split at h
        · rename_i cs hf
          cases hc : (Nat.beq cs.length (len * size) && Nat.ble (len * size) 16777216) with
          | false => rw [hc] at h; cases h
          | true =>
            rw [hc] at h
            simp only [cond_true, Option.some.injEq] at h; subst h
            simp only [Bool.and_eq_true] at hc
            exact op_buildSlice (T.slOf hsl) hps hf (beq_of hc.1) (Nat.le_of_ble_eq_true hc.2) (Nat.le_of_ble_eq_true h1) (nbeq_of h2) h3 (imp_put d _)
        · cases h
      · split at h
        · rename_i x
          split at h
          · rename_i l e' s' m cs hx
            rw [evq_eq] at hx
            cases hc : (Nat.beq len 1 && (Nat.beq size 1 && !(Nat.beq l 2000))) with
            | false => rw [hc] at h; cases h
            | true =>
              rw [hc] at h
              simp only [cond_true, Option.some.injEq] at h; subst h
              simp only [Bool.and_eq_true] at hc
              obtain ⟨c1, c2, c3⟩ := hc
              obtain rfl := beq_of c1
              obtain rfl := beq_of c2
              exact op_buildSlice_own (T.slOf hsl) hx (Nat.le_of_ble_eq_true h1) (nbeq_of h2) (nbeq_of c3) h3 (imp_put d _)
          · cases h
        · cases h
    
noncomputable def mkO {P : Program} (T : TF P) (n : Nat) (σ : St) (d t : Nat) (x y : Operand) : Option St :=
  match lk T.sl t, σ.evq x, σ.evq y with
  | some (e, size, bytes, zc), some (.val (.int _ (.ofNat m))), some (.val (.int _ (.ofNat m'))) =>
    bif Nat.beq m m' && (Nat.ble (bytes * m) 140737488355328 && (Nat.blt d n && (!(Nat.beq d 2000) && σ.labels.all (· != d)))) then some (St.set (σ) d (.own d e size m (zeros zc m))) else none
  | _, _, _ => none
theorem mkO_ok (T : TF P) {t : TypeId} {x y : Operand} (h : mkO T n σ d t x y = some σ') : opT P n ⟨some d, .makeSlice t x y, ty, pos, af, gd⟩ σ (fun s => Imp n s σ') := by
  unfold mkO at h
  split at h
  · rename_i e size bytes zc k m k' m' hsl hx hy
    rw [evq_eq] at hx hy
    cases hb : (Nat.beq m m' && (Nat.ble (bytes * m) 140737488355328 && (Nat.blt d n && (!(Nat.beq d 2000) && σ.labels.all (· != d))))) with
    | false => rw [hb] at h; cases h
    | true =>
      rw [hb] at h
      simp only [cond_true, Option.some.injEq] at h; subst h
      simp only [Bool.and_eq_true] at hb
      obtain ⟨h0, h1, h2, h3, h4⟩ := hb
      obtain rfl := beq_of h0
      exact op_make (T.slOf hsl) (m := m) hx hy (Nat.le_of_ble_eq_true h1) (Nat.le_of_ble_eq_true h2) (nbeq_of h3) h4 (imp_put d _)
  · cases h
noncomputable def stO {P : Program} (T : TF P) (σ : St) (t : Nat) (x y : Operand) : Option St :=
  match cellsN T t, σ.evq x, σ.evq y with
  | some k, some (.adr l off), some sy => match sy.pv, σ.cellsOf l with
    | some p, some (h, _, cs) => bif p.flat && (Nat.beq p.cells.length k && (Nat.ble (off + k) cs.length && Nat.blt 0 k)) then some (σ.upd [h] l (putAt cs off p.cells)) else none
    | _, _ => none
  | some k, some (.box l _ cs), some sy => match sy.pv, x with
    | some p, .tmp h => bif p.flat && (Nat.beq p.cells.length k && (Nat.ble k cs.length && Nat.blt 0 k)) then some (σ.upd [h] l (putAt cs 0 p.cells)) else none
    | _, _ => none
  | _, _, _ => none
theorem stO_ok (T : TF P) {t : TypeId} {x y : Operand} (h : stO T σ t x y = some σ') : opT P n ⟨none, .store t x y, ty, pos, af, gd⟩ σ (fun s => Imp n s σ') := by
  unfold stO at h
  split at h
  · rename_i k l off sy hk hx hy
    rw [evq_eq] at hx hy
    split at h
    · rename_i p hh ss cs hpv hc
      obtain ⟨c1, c2⟩ := cellsOf_ok hc
      cases hb : (p.flat && (Nat.beq p.cells.length k && (Nat.ble (off + k) cs.length && Nat.blt 0 k))) with
      | false => rw [hb] at h; cases h
      | true =>
        rw [hb] at h
        simp only [cond_true, Option.some.injEq] at h; subst h
        simp only [Bool.and_eq_true] at hb
        obtain ⟨h1, h2, h3, h4⟩ := hb
        exact op_store (cellsN_ok T hk) hh [hh] (fun t ht => by simp at ht; subst ht; exact c1) (.inl hx) c1 c2 hy hpv h1 (beq_of h2) (Nat.le_of_ble_eq_true h3) (Nat.le_of_ble_eq_true h4) rfl (Imp.refl n _)
    · cases h
  · rename_i k l e cs sy hk hx hy
    rw [evq_eq] at hx hy
    split at h
    · rename_i p hh hpv
      cases hb : (p.flat && (Nat.beq p.cells.length k && (Nat.ble k cs.length && Nat.blt 0 k))) with
      | false => rw [hb] at h; cases h
      | true =>
        rw [hb] at h
        simp only [cond_true, Option.some.injEq] at h; subst h
        simp only [Bool.and_eq_true] at hb
        obtain ⟨h1, h2, h3, h4⟩ := hb
        have c1 : σ.at hh = some (.box l e cs) := hx
        exact op_store (cellsN_ok T hk) hh [hh] (fun t ht => by simp at ht; subst ht; exact c1) (.inr ⟨rfl, e, hx⟩) c1 rfl hy hpv h1 (beq_of h2) (by have := Nat.le_of_ble_eq_true h3; omega) (Nat.le_of_ble_eq_true h4) rfl (Imp.refl n _)
    · cases h
  · cases h
noncomputable def callO (call : CallF) (n : Nat) (σ : St) (d f : Nat) (xs : List Operand) : Option St :=
  bif Nat.blt d n && (Nat.blt 0 d && (Nat.blt d 1000 && σ.labels.all (fun l => l % 1000 != d))) then
    match σ.evsq xs with
    | none => none
    | some ss => match pvs ss with
      | none => none
      | some ps => match call f ps with
        | none => none
        | some rs => some (St.set (σ) d (packS (rs.map (SV.back ss 0 d false))))
  else none
theorem callO_ok {call : CallF} (hc : call.ok P) {f : FuncId} {xs : Array Operand} {ts : Array TypeId} (h : callO call n σ d f xs.toList = some σ') : opT P n ⟨some d, .call { callee := .value (.func f), args := xs, argTypes := ts }, ty, pos, af, gd⟩ σ (fun s => Imp n s σ') := by
  obtain ⟨xs⟩ := xs
  simp only at h
  unfold callO at h
  cases hb : (Nat.blt d n && (Nat.blt 0 d && (Nat.blt d 1000 && σ.labels.all (fun l => l % 1000 != d)))) with
  | false => rw [hb] at h; cases h
  | true =>
    rw [hb] at h
    simp only [cond_true] at h
    simp only [Bool.and_eq_true] at hb
    obtain ⟨h1, h2, h3, h4⟩ := hb
    split at h
    · cases h
    · rename_i ss hss
      rw [evsq_eq] at hss
      split at h
      · cases h
      · rename_i ps hps
        split at h
        · cases h
        · rename_i rs hrs
          simp only [Option.some.injEq] at h; subst h
          refine op_call ss (hc f ps rs hrs) hss hps (Nat.le_of_ble_eq_true h1) (Nat.le_of_ble_eq_true h2) (Nat.le_of_ble_eq_true h3) h4 (fun rs' e => ?_)
          subst e
          exact imp_put d _
noncomputable def St.hobj (l : Nat) (σ : St) (r : Option Nat) : Option Nat :=
  List.rec (motive := fun _ => Option Nat → Option Nat) (fun r => r) (fun e _ g r => cond (e.2.isObj l) (g (match r with | none => some e.1 | some u => bif Nat.blt e.1 u then some e.1 else some u)) (g r)) σ r
noncomputable def msO {P : Program} (T : TF P) (σ : St) (t : Nat) (x y v : Operand) : Option St :=
  match lk T.mp t, σ.evq x, σ.evq y, σ.evq v with
  | some (kt, _), some (.map l es), some (.val k), some sv => match lk T.kd kt, sv.pv, σ.hobj l none with
    | some tk, some p, some h => match σ.get h with
      | some (.map l' es') => bif Nat.beq l' l && (keyOk tk k && p.flat) then (match findE tk k es' 0 with
        | some r => some (σ.setl h l (.map l (putE es' k p r)))
        | none => none) else none
      | _ => none
    | _, _, _ => none
  | _, _, _, _ => none
theorem msO_ok (T : TF P) {t : TypeId} {x y v : Operand} {op : Op} (hop : op = .mapUpdate t x y v ∨ op = .insert t x y v) (h : msO T σ t x y v = some σ') : opT P n ⟨none, op, ty, pos, af, gd⟩ σ (fun s => Imp n s σ') := by
  unfold msO at h
  split at h
  · rename_i kt et l es k sv hm hx hy hv
    rw [evq_eq] at hx hy hv
    split at h
    · rename_i tk p hh hk hp ho
      split at h
      · rename_i l' es' hg
        rw [get_eq] at hg
        cases hb : (Nat.beq l' l && (keyOk tk k && p.flat)) with
        | false => rw [hb] at h; cases h
        | true =>
          rw [hb] at h
          simp only [cond_true] at h
          simp only [Bool.and_eq_true] at hb
          obtain rfl := beq_of hb.1
          split at h
          · rename_i r hf
            simp only [Option.some.injEq] at h; subst h
            exact op_mapset hop rfl (T.mpOf hm) (T.kdOf hk) hx hg hy hv hp hb.2.2 hb.2.1 hf (Imp.refl n _)
          · cases h
      · cases h
    · cases h
  · cases h
noncomputable def mmO {P : Program} (T : TF P) (n : Nat) (σ : St) (d t : Nat) (r : Option Operand) : Option St :=
  bif Nat.blt d n && (!(Nat.beq d 2000) && σ.labels.all (· != d)) then (match lk T.mp t with
    | some _ => match r with
      | none => some (σ.set d (.map d []))
      | some x => match σ.evq x with
        | some (.val (.int .i64 _)) => some (σ.set d (.map d []))
        | _ => none
    | none => none) else none
theorem mmO_ok (T : TF P) {t : TypeId} {r : Option Operand} (h : mmO T n σ d t r = some σ') : opT P n ⟨some d, .makeMap t r, ty, pos, af, gd⟩ σ (fun s => Imp n s σ') := by
  unfold mmO at h
  cases hb : (Nat.blt d n && (!(Nat.beq d 2000) && σ.labels.all (· != d))) with
  | false => rw [hb] at h; cases h
  | true =>
    rw [hb] at h
    simp only [cond_true] at h
    simp only [Bool.and_eq_true] at hb
    split at h
    · rename_i q hm
      split at h
      · simp only [Option.some.injEq] at h; subst h
        exact op_makeMap (T.mpOf (k := q.1) (e := q.2) hm) (.inl rfl) (Nat.le_of_ble_eq_true hb.1) (nbeq_of hb.2.1) hb.2.2 (imp_put d _)
      · split at h
        · rename_i x _ i hx
          rw [evq_eq] at hx
          simp only [Option.some.injEq] at h; subst h
          exact op_makeMap (T.mpOf (k := q.1) (e := q.2) hm) (.inr ⟨x, _, rfl, hx⟩) (Nat.le_of_ble_eq_true hb.1) (nbeq_of hb.2.1) hb.2.2 (imp_put d _)
        · cases h
    · cases h
noncomputable def rgO {P : Program} (T : TF P) (n : Nat) (σ : St) (d t : Nat) (x : Operand) : Option St :=
  bif Nat.blt d n && (!(Nat.beq d 2000) && σ.labels.all (· != d)) then (match lk T.kd t, σ.evq x with
    | some .str, some (.val (.str s)) => some (σ.set d (.sit d s 0))
    | _, _ => none) else none
theorem rgO_ok (T : TF P) {t : TypeId} {x : Operand} (h : rgO T n σ d t x = some σ') : opT P n ⟨some d, .range t x, ty, pos, af, gd⟩ σ (fun s => Imp n s σ') := by
  unfold rgO at h
  cases hb : (Nat.blt d n && (!(Nat.beq d 2000) && σ.labels.all (· != d))) with
  | false => rw [hb] at h; cases h
  | true =>
    rw [hb] at h
    simp only [cond_true] at h
    simp only [Bool.and_eq_true] at hb
    split at h
    · rename_i s hk hx
      rw [evq_eq] at hx
      simp only [Option.some.injEq] at h; subst h
      exact op_range_str (T.kdOf hk) hx (Nat.le_of_ble_eq_true hb.1) (nbeq_of hb.2.1) hb.2.2 (imp_put d _)
    · cases h
def runeQ (s : List UInt8) (i : Nat) : Nat × Nat := bif Nat.blt i s.length && Nat.blt (s.getD i 0).toNat 128 then ((s.getD i 0).toNat, 1) else runeAt s i
theorem runeQ_eq (s : List UInt8) (i : Nat) : runeQ s i = runeAt s i := by
  unfold runeQ
  cases hb : (Nat.blt i s.length && Nat.blt (s.getD i 0).toNat 128) with
  | false => rfl
  | true =>
    simp only [Bool.and_eq_true] at hb
    exact (runeAt_ascii (Nat.le_of_ble_eq_true hb.1) (Nat.le_of_ble_eq_true hb.2)).symm
noncomputable def nxO (n : Nat) (σ : St) (d : Nat) (x : Operand) : Option St :=
  match σ.evq x, x with
  | some (.sit l s i), .tmp h => bif Nat.blt d n then
      (bif Nat.ble s.length i then some (σ.set d (.tup [.val (.bool false)]))
      else some ((σ.setl h l (.sit l s (i + (runeQ s i).2))).set d (.tup [.val (.bool true), .val (.int .i64 (Int.ofNat i)), .val (.int .i32 (Int.ofNat (runeQ s i).1))]))) else none
  | _, _ => none
theorem nxO_ok {x : Operand} (h : nxO n σ d x = some σ') : opT P n ⟨some d, .next x true, ty, pos, af, gd⟩ σ (fun s => Imp n s σ') := by
  unfold nxO at h
  split at h
  · rename_i l s i hh hx
    rw [evq_eq] at hx
    cases hb : Nat.blt d n with
    | false => rw [hb] at h; cases h
    | true =>
      rw [hb] at h
      simp only [cond_true] at h
      cases hl : Nat.ble s.length i with
      | true =>
        rw [hl] at h
        simp only [cond_true, Option.some.injEq] at h; subst h
        exact op_next_end hx (Nat.le_of_ble_eq_true hl) (Nat.le_of_ble_eq_true hb) (imp_put d _)
      | false =>
        rw [hl] at h
        simp only [cond_false, Option.some.injEq] at h; subst h
        have hi : i < s.length := by
          rcases Nat.lt_or_ge i s.length with h1 | h1
          · exact h1
          · rw [Nat.ble_eq_true_of_le h1] at hl; cases hl
        rw [runeQ_eq]
        exact op_next_str (h := hh) hx hx hi (Nat.le_of_ble_eq_true hb) (imp_put d _)
  · cases h
inductive CI where
  | q (d : Nat) (f : St → Option SV)
  | o (f : St → Option St)
noncomputable def cmpO {P : Program} (T : TF P) (call : CallF) (n : Nat) : Oper → CI
  | ⟨some d, .call ⟨.value (.func f), xs, _⟩, _, _, _, _⟩ => .o fun σ => callO call n (σ.free d (fun l => Nat.beq (l % 1000) d)) d f xs.toList
  | ⟨some d, .call ⟨.builtin .append, ⟨[x, y]⟩, ⟨[t, t']⟩⟩, _, _, _, _⟩ => .o fun σ => bif Nat.beq t' t then appO T n (σ.free d (Nat.beq d)) d t x y else none
  | ⟨some d, .buildSlice t len parts, _, _, _, _⟩ => .o fun σ => bslO T n (σ.free d (Nat.beq d)) d t len parts.toList
  | ⟨some d, .makeSlice t x y, _, _, _, _⟩ => .o fun σ => mkO T n (σ.free d (Nat.beq d)) d t x y
  | ⟨some d, .alloc t, _, _, _, _⟩ => .o fun σ => match lk T.zt t with
    | some zc => let σ1 := σ.free d (Nat.beq d); bif Nat.blt d n && (!(Nat.beq d 2000) && σ1.labels.all (· != d)) then some (St.set (σ1) d (.box d t zc)) else none
    | none => none
  | ⟨some d, .box t x, _, _, _, _⟩ => .o fun σ => let σ1 := σ.free d (Nat.beq d); match σ1.evq x with
    | some s => match s.pv with
      | some p => bif p.flat && (Nat.blt d n && (!(Nat.beq d 2000) && σ1.labels.all (· != d))) then some (St.set (σ1) d (.box d t p.cells)) else none
      | none => none
    | none => none
  | ⟨none, .store t x y, _, _, _, _⟩ => .o fun σ => stO T σ t x y
  | ⟨none, .mapUpdate t x y v, _, _, _, _⟩ => .o fun σ => msO T σ t x y v
  | ⟨none, .insert t x y v, _, _, _, _⟩ => .o fun σ => msO T σ t x y v
  | ⟨some d, .makeMap t r, _, _, _, _⟩ => .o fun σ => mmO T n (σ.free d (Nat.beq d)) d t r
  | ⟨some d, .range t x, _, _, _, _⟩ => .o fun σ => rgO T n (σ.free d (Nat.beq d)) d t x
  | ⟨some d, .next x true, _, _, _, _⟩ => .o fun σ => nxO n σ d x
  | ⟨some d, op, _, _, _, _⟩ => .q d (qc T op).f
  | _ => .o fun _ => none
noncomputable def stepO {P : Program} (T : TF P) (call : CallF) (n : Nat) (σ : St) (o : Oper) : Option St :=
  match cmpO T call n o with
  | .q d f => (match f σ with
    | some s => bif Nat.blt d n then some (σ.set d s) else none
    | none => none)
  | .o f => f σ
theorem stepO_ok (T : TF P) {call : CallF} (hc : call.ok P) {o : Oper} (h : stepO T call n σ o = some σ') : opT P n o σ (fun s => Imp n s σ') := by
  unfold stepO at h
  split at h
  · rename_i d f he
    split at h
    · rename_i s hq
      cases hb : Nat.blt d n with
      | false => rw [hb] at h; cases h
      | true =>
        rw [hb] at h
        simp only [cond_true, Option.some.injEq] at h; subst h
        unfold cmpO at he
        split at he <;> first
          | cases he
            exact op_q (qval_ok T hq (Nat.le_of_ble_eq_true hb)) (imp_put d _)
          | cases he
    · cases h
  · rename_i f he
    unfold cmpO at he
    split at he
    · cases he
      exact (callO_ok hc h).imp (imp_free _ _)
    · rename_i t t' _ _ _ _
      cases he
      dsimp only at h
      cases ht : Nat.beq t' t with
      | false => rw [ht] at h; cases h
      | true =>
        rw [ht] at h
        obtain rfl := beq_of ht
        exact (appO_ok T h).imp (imp_free _ _)
    · cases he
      exact (bslO_ok T h).imp (imp_free _ _)
    · cases he
      exact (mkO_ok T h).imp (imp_free _ _)
    · rename_i d t _ _ _ _
      cases he
      dsimp only at h
      split at h
      · rename_i zc hz
        cases hb : (Nat.blt d n && (!(Nat.beq d 2000) && (σ.free d (Nat.beq d)).labels.all (· != d))) with
        | false => rw [hb] at h; cases h
        | true =>
          rw [hb] at h
          simp only [cond_true, Option.some.injEq] at h; subst h
          simp only [Bool.and_eq_true] at hb
          exact opT.imp (op_alloc (T.ztOf hz) (Nat.le_of_ble_eq_true hb.1) (nbeq_of hb.2.1) hb.2.2 (imp_put d _)) (imp_free _ _)
      · cases h
    · rename_i d t x _ _ _ _
      cases he
      dsimp only at h
      split at h
      · rename_i s hx
        rw [evq_eq] at hx
        split at h
        · rename_i p hp
          cases hb : (p.flat && (Nat.blt d n && (!(Nat.beq d 2000) && (σ.free d (Nat.beq d)).labels.all (· != d)))) with
          | false => rw [hb] at h; cases h
          | true =>
            rw [hb] at h
            simp only [cond_true, Option.some.injEq] at h; subst h
            simp only [Bool.and_eq_true] at hb
            exact opT.imp (op_box hx (.inl ⟨hp, hb.1⟩) (Nat.le_of_ble_eq_true hb.2.1) (nbeq_of hb.2.2.1) hb.2.2.2 (imp_put d _)) (imp_free _ _)
        · cases h
      · cases h
    · cases he
      exact stO_ok T h
    · cases he
      exact msO_ok T (.inl rfl) h
    · cases he
      exact msO_ok T (.inr rfl) h
    · cases he
      exact (mmO_ok T h).imp (imp_free _ _)
    · cases he
      exact (rgO_ok T h).imp (imp_free _ _)
    · cases he
      exact nxO_ok h
    · cases he
    · cases he
      cases h
end
end Go.Proofs.YtfagllolcalfiabDoor
