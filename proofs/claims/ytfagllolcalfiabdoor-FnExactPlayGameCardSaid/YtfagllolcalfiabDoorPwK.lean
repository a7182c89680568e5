/- The operations in the forms that a walk uses: numbers within bounds, tests as decided propositions; the ends of walks; from a contract to a row's walk. Own work; no conditions; nothing here is about one program. -/
import Derived.Test.YtfagllolcalfiabDoorPwJ
namespace Go.Proofs.YtfagllolcalfiabDoor
open Go.RowKit
section
variable {P : Program} {n : Nat} {σ : St} {K : St → Prop} {d : Nat} {ty : TypeId} {pos : String} {af : Array Edge} {gd : Option (Nat × Bool)} {t t' : TypeId} {x y : Operand}
theorem q_cast {o : Oper} {u v : SV} (h : quietT P n o σ d u) (e : u = v) : quietT P n o σ d v := e ▸ h
theorem wrap_in {i : Int} (h1 : -9223372036854775808 ≤ i) (h2 : i ≤ 9223372036854775807) : IntKind.i64.wrap i = i := IntWalk.i64_in _ ⟨h1, by omega⟩
theorem q_addI {i j : Int} (hx : σ.ev x = some (.val (.int .i64 i))) (hy : σ.ev y = some (.val (.int .i64 j))) (hd : d < n) (h1 : -9223372036854775808 ≤ i + j) (h2 : i + j ≤ 9223372036854775807) : quietT P n ⟨some d, .binOp .add t x y t', ty, pos, af, gd⟩ σ d (.val (.int .i64 (i + j))) :=
  q_cast (q_ib hx hy rfl hd) (by rw [wrap_in h1 h2])
theorem q_subI {i j : Int} (hx : σ.ev x = some (.val (.int .i64 i))) (hy : σ.ev y = some (.val (.int .i64 j))) (hd : d < n) (h1 : -9223372036854775808 ≤ i - j) (h2 : i - j ≤ 9223372036854775807) : quietT P n ⟨some d, .binOp .sub t x y t', ty, pos, af, gd⟩ σ d (.val (.int .i64 (i - j))) :=
  q_cast (q_ib hx hy rfl hd) (by rw [wrap_in h1 h2])
theorem q_remI {i j : Int} (hx : σ.ev x = some (.val (.int .i64 i))) (hy : σ.ev y = some (.val (.int .i64 j))) (hd : d < n) (h0 : 0 ≤ i) (h1 : 0 < j) : quietT P n ⟨some d, .binOp .rem t x y t', ty, pos, af, gd⟩ σ d (.val (.int .i64 (i % j))) :=
  q_cast (q_rem hx hy (by omega) hd) (by rw [Int.tmod_eq_emod_of_nonneg h0])
theorem q_eq {k : IntKind} {i j : Int} (hx : σ.ev x = some (.val (.int k i))) (hy : σ.ev y = some (.val (.int k j))) (hd : d < n) : quietT P n ⟨some d, .binOp .eql t x y t', ty, pos, af, gd⟩ σ d (.val (.bool (decide (i = j)))) :=
  q_cast (q_ib hx hy rfl hd) (by by_cases h : i = j <;> simp [h])
theorem q_ne {k : IntKind} {i j : Int} (hx : σ.ev x = some (.val (.int k i))) (hy : σ.ev y = some (.val (.int k j))) (hd : d < n) : quietT P n ⟨some d, .binOp .neq t x y t', ty, pos, af, gd⟩ σ d (.val (.bool (decide (i ≠ j)))) :=
  q_cast (q_ib hx hy rfl hd) (by by_cases h : i = j <;> simp [h])
theorem q_lt {k : IntKind} {i j : Int} (hx : σ.ev x = some (.val (.int k i))) (hy : σ.ev y = some (.val (.int k j))) (hd : d < n) : quietT P n ⟨some d, .binOp .lss t x y t', ty, pos, af, gd⟩ σ d (.val (.bool (decide (i < j)))) :=
  q_cast (q_ib hx hy rfl hd) rfl
theorem q_le {k : IntKind} {i j : Int} (hx : σ.ev x = some (.val (.int k i))) (hy : σ.ev y = some (.val (.int k j))) (hd : d < n) : quietT P n ⟨some d, .binOp .leq t x y t', ty, pos, af, gd⟩ σ d (.val (.bool (decide (i ≤ j)))) :=
  q_cast (q_ib hx hy rfl hd) rfl
theorem q_gt {k : IntKind} {i j : Int} (hx : σ.ev x = some (.val (.int k i))) (hy : σ.ev y = some (.val (.int k j))) (hd : d < n) : quietT P n ⟨some d, .binOp .gtr t x y t', ty, pos, af, gd⟩ σ d (.val (.bool (decide (j < i)))) :=
  q_cast (q_ib hx hy rfl hd) rfl
theorem q_ge {k : IntKind} {i j : Int} (hx : σ.ev x = some (.val (.int k i))) (hy : σ.ev y = some (.val (.int k j))) (hd : d < n) : quietT P n ⟨some d, .binOp .geq t x y t', ty, pos, af, gd⟩ σ d (.val (.bool (decide (j ≤ i)))) :=
  q_cast (q_ib hx hy rfl hd) rfl
theorem q_bne {i j : Bool} (ht : P.underlying t = some .bool) (hx : σ.ev x = some (.val (.bool i))) (hy : σ.ev y = some (.val (.bool j))) (hd : d < n) : quietT P n ⟨some d, .binOp .neq t x y t', ty, pos, af, gd⟩ σ d (.val (.bool (decide (i ≠ j)))) :=
  q_cast (q_bb ht (.inr rfl) hx hy hd) (by cases i <;> cases j <;> rfl)
theorem q_notd {p : Prop} [Decidable p] (hx : σ.ev x = some (.val (.bool (decide p)))) (hd : d < n) : quietT P n ⟨some d, .unOp .not t x, ty, pos, af, gd⟩ σ d (.val (.bool (decide (¬ p)))) :=
  q_cast (q_not hx hd) (by by_cases h : p <;> simp [h])
/-! ### Ways -/
theorem code_cond_d {c : Operand} {a b : Code} {Q : Exit → St → Prop} {p : Prop} [Decidable p] (hc : σ.ev c = some (.val (.bool (decide p)))) (ht : p → codeT P n a σ Q) (hf : ¬ p → codeT P n b σ Q) : codeT P n (.cond c a b) σ Q :=
  code_cond hc (fun h => ht (of_decide_eq_true h)) (fun h => hf (of_decide_eq_false h))
theorem code_cond_t {c : Operand} {a b : Code} {Q : Exit → St → Prop} (hc : σ.ev c = some (.val (.bool true))) (ht : codeT P n a σ Q) : codeT P n (.cond c a b) σ Q :=
  code_cond hc (fun _ => ht) (fun h => by cases h)
theorem code_cond_f {c : Operand} {a b : Code} {Q : Exit → St → Prop} (hc : σ.ev c = some (.val (.bool false))) (hf : codeT P n b σ Q) : codeT P n (.cond c a b) σ Q :=
  code_cond hc (fun h => by cases h) (fun _ => hf)
theorem Imp.setb {dj : Nat} {p : Prop} [Decidable p] {b : Bool} (h : σ.at dj = some (.val (.bool (decide p)))) (hb : decide p = b) : Imp n σ ((dj, .val (.bool b)) :: σ) := by
  intro C a w hS
  obtain ⟨G, hG, hE⟩ := hS.gh
  refine ⟨hS.fp, hS.below, hS.dfs, hS.size, G, hG, fun s z hz => ?_⟩
  simp only [St.at] at hz
  split at hz
  · rename_i he; subst he
    cases hz
    rw [← hb]; exact hE _ _ h
  · exact hE s z hz
theorem list_guard_d {ops : Array Oper} {l : List Oper} {o : Oper} {j dj : Nat} {want : Bool} {p : Prop} [Decidable p] (hg : o.guard = some (j, want)) (hd : o.dst = some d) (hj : (ops[j]?).bind (·.dst) = some dj) (hdj : σ.at dj = some (.val (.bool (decide p))))
    (hn : dj < n) (hdd : σ.at d = none) (hne : d ≠ dj) (h1 : (if want then p else ¬ p) → opT P n o ((dj, .val (.bool want)) :: σ) fun σ' => listT P n ops l σ' K) (h2 : ¬ (if want then p else ¬ p) → listT P n ops l ((dj, .val (.bool (!want))) :: σ) K) : listT P n ops (o :: l) σ K := by
  have hdd' : ∀ b : Bool, St.at ((dj, .val (.bool b)) :: σ) d = none := fun b => by simp only [St.at]; rw [if_neg (fun e => hne e.symm)]; exact hdd
  intro C a w hS Q hQ
  by_cases hp : p
  · have hS' := Imp.setb hdj (decide_eq_true hp) C a w hS
    refine list_guard (b := true) hg hd hj (show St.at ((dj, .val (.bool true)) :: σ) dj = _ by simp [St.at]) hn (hdd' true) (fun hb => ?_) (fun hb => ?_) C a w hS' Q hQ
    · subst hb; exact h1 (by simpa using hp)
    · cases want
      · exact h2 (by simpa using hp)
      · exact absurd rfl hb
  · have hS' := Imp.setb hdj (decide_eq_false hp) C a w hS
    refine list_guard (b := false) hg hd hj (show St.at ((dj, .val (.bool false)) :: σ) dj = _ by simp [St.at]) hn (hdd' false) (fun hb => ?_) (fun hb => ?_) C a w hS' Q hQ
    · subst hb; exact h1 (by simpa using hp)
    · cases want
      · exact absurd rfl hb
      · exact h2 (by simpa using hp)
theorem list_guard_y {ops : Array Oper} {l : List Oper} {o : Oper} {j dj : Nat} {want : Bool} (hg : o.guard = some (j, want)) (hd : o.dst = some d) (hj : (ops[j]?).bind (·.dst) = some dj) (hdj : σ.at dj = some (.val (.bool want)))
    (hn : dj < n) (hdd : σ.at d = none) (h1 : opT P n o σ fun σ' => listT P n ops l σ' K) : listT P n ops (o :: l) σ K :=
  list_guard hg hd hj hdj hn hdd (fun _ => h1) (fun h => absurd rfl h)
theorem list_guard_n {ops : Array Oper} {l : List Oper} {o : Oper} {j dj : Nat} {want : Bool} (hg : o.guard = some (j, want)) (hd : o.dst = some d) (hj : (ops[j]?).bind (·.dst) = some dj) (hdj : σ.at dj = some (.val (.bool (!want))))
    (hn : dj < n) (hdd : σ.at d = none) (h1 : listT P n ops l σ K) : listT P n ops (o :: l) σ K :=
  list_guard hg hd hj hdj hn hdd (fun h => by cases want <;> cases h) (fun _ => h1)
theorem draw_guard_d {ops : Array Oper} {l : List Oper} {o : Oper} {j dj : Nat} {want : Bool} {p : Prop} [Decidable p] {s : SV} (hg : o.guard = some (j, want)) (hd : o.dst = some d) (hj : (ops[j]?).bind (·.dst) = some dj) (hdj : σ.at dj = some (.val (.bool (decide p))))
    (hn : dj < n) (hdd : σ.at d = none) (hne : d ≠ dj) (h0 : (if want then p else ¬ p) → quietT P n o ((dj, .val (.bool want)) :: σ) d s) (h1 : (if want then p else ¬ p) → drawT P n ops l ((d, s) :: (dj, .val (.bool want)) :: σ) K) (h2 : ¬ (if want then p else ¬ p) → drawT P n ops l ((dj, .val (.bool (!want))) :: σ) K) : drawT P n ops (o :: l) σ K := by
  have hdd' : ∀ b : Bool, St.at ((dj, .val (.bool b)) :: σ) d = none := fun b => by simp only [St.at]; rw [if_neg (fun e => hne e.symm)]; exact hdd
  intro C a w hS Q hQ
  by_cases hp : p
  · have hS' := Imp.setb hdj (decide_eq_true hp) C a w hS
    refine draw_guard (b := true) hg hd hj (show St.at ((dj, .val (.bool true)) :: σ) dj = _ by simp [St.at]) hn (hdd' true) (fun hb => ?_) (fun hb => ?_) C a w hS' Q hQ
    · subst hb; exact ⟨s, h0 (by simpa using hp), h1 (by simpa using hp)⟩
    · cases want
      · exact h2 (by simpa using hp)
      · exact absurd rfl hb
  · have hS' := Imp.setb hdj (decide_eq_false hp) C a w hS
    refine draw_guard (b := false) hg hd hj (show St.at ((dj, .val (.bool false)) :: σ) dj = _ by simp [St.at]) hn (hdd' false) (fun hb => ?_) (fun hb => ?_) C a w hS' Q hQ
    · subst hb; exact ⟨s, h0 (by simpa using hp), h1 (by simpa using hp)⟩
    · cases want
      · exact absurd rfl hb
      · exact h2 (by simpa using hp)
theorem draw_guard_y {ops : Array Oper} {l : List Oper} {o : Oper} {j dj : Nat} {want : Bool} {s : SV} (hg : o.guard = some (j, want)) (hd : o.dst = some d) (hj : (ops[j]?).bind (·.dst) = some dj) (hdj : σ.at dj = some (.val (.bool want)))
    (hn : dj < n) (hdd : σ.at d = none) (h0 : quietT P n o σ d s) (h1 : drawT P n ops l ((d, s) :: σ) K) : drawT P n ops (o :: l) σ K :=
  draw_guard hg hd hj hdj hn hdd (fun _ => ⟨s, h0, h1⟩) (fun h => absurd rfl h)
theorem draw_guard_n {ops : Array Oper} {l : List Oper} {o : Oper} {j dj : Nat} {want : Bool} (hg : o.guard = some (j, want)) (hd : o.dst = some d) (hj : (ops[j]?).bind (·.dst) = some dj) (hdj : σ.at dj = some (.val (.bool (!want))))
    (hn : dj < n) (hdd : σ.at d = none) (h1 : drawT P n ops l σ K) : drawT P n ops (o :: l) σ K :=
  draw_guard hg hd hj hdj hn hdd (fun h => by cases want <;> cases h) (fun _ => h1)
/-! ### Ends -/
theorem then_n {Q : Exit → St → Prop} {K : St → Prop} (h : K σ) : Then K Q .normal σ := h
theorem then_x {Q : Exit → St → Prop} {K : St → Prop} {i : Nat} (h : Q (.exit i) σ) : Then K Q (.exit i) σ := h
theorem then_r {Q : Exit → St → Prop} {K : St → Prop} (h : Q .ret σ) : Then K Q .ret σ := h
theorem blk_n {Q : Exit → St → Prop} {i : Nat} (h : Q .normal σ) : InBlock i Q .normal σ := h
theorem blk_r {Q : Exit → St → Prop} {i : Nat} (h : Q .ret σ) : InBlock i Q .ret σ := h
theorem blk_hit {Q : Exit → St → Prop} {i : Nat} (h : Q .normal σ) : InBlock i Q (.exit i) σ := by simp only [InBlock, if_true]; exact h
theorem blk_miss {Q : Exit → St → Prop} {i j : Nat} (hne : j ≠ i) (h : Q (.exit j) σ) : InBlock i Q (.exit j) σ := by simp only [InBlock]; rw [if_neg hne]; exact h
def labsOk : List Nat → Bool
  | [] => true
  | l :: r => l != 2000 && !r.contains l && labsOk r
theorem labsOk_spec : ∀ {l : List Nat}, labsOk l = true → l.Nodup ∧ l.all (· != 2000) = true
  | [], _ => ⟨List.nodup_nil, rfl⟩
  | a :: r, h => by
    simp only [labsOk, Bool.and_eq_true] at h
    obtain ⟨h1, h2⟩ := labsOk_spec h.2
    refine ⟨List.nodup_cons.2 ⟨by simpa using h.1.2, h1⟩, ?_⟩
    simp only [List.all_cons, Bool.and_eq_true]
    exact ⟨h.1.1, h2⟩
theorem ends_ret {az : TypeId → Nat} {fn : Func} {io : Option Iov} {R : List SV → List PV → Prop} {xs rs : List SV} {cs : List PV} (h1 : σ.res az fn.results.toList = some xs) (h2 : outs 0 xs = some rs) (h3 : labsOk (SV.labRL xs) = true) (h4 : Nat.ble xs.length 100 = true)
    (h5 : ioEnd io cs σ) (h6 : R rs cs) : Ends az fn io R .ret σ :=
  ⟨xs, rs, cs, h1, h2, (labsOk_spec h3).1, (labsOk_spec h3).2, Nat.le_of_ble_eq_true h4, h5, h6⟩
theorem ends_nrm {az : TypeId → Nat} {fn : Func} {io : Option Iov} {R : List SV → List PV → Prop} {xs rs : List SV} {cs : List PV} (h1 : σ.res az fn.results.toList = some xs) (h2 : outs 0 xs = some rs) (h3 : labsOk (SV.labRL xs) = true) (h4 : Nat.ble xs.length 100 = true)
    (h5 : ioEnd io cs σ) (h6 : R rs cs) : Ends az fn io R .normal σ :=
  ⟨xs, rs, cs, h1, h2, (labsOk_spec h3).1, (labsOk_spec h3).2, Nat.le_of_ble_eq_true h4, h5, h6⟩
end
theorem law_calls {P : Program} {f : FuncId} {exm : Bool} {ps : List PV} (h : MCalls P f exm none ps fun rs _ => rs = [.val (.bool true)]) (w : World) (vs : List Value) (ha : RepArgs w (fun _ b => b < w.heap.size) 0 ps vs) (hgl : GlP w (fun b => b < w.heap.size)) :
    Calls P f vs.toArray w fun e w' => e = .returned (.bool true) ∧ Below w.heap.size w w' := by
  refine Calls.mono (h.run ⟨w, fun _ => False, fun _ => False, fun _ b => b < w.heap.size, fun b => b < w.heap.size, 0, [], none, hgl, fun _ h => h.elim, fun _ h => h, List.nodup_nil, (fun _ h => by cases h), (fun _ h => by cases h)⟩ ⟨fun _ => none, fun _ => 0⟩ undef vs ⟨rfl, rfl, fun _ h => h⟩ ⟨fun _ b hb => ⟨hb, id⟩, fun b hb => ⟨hb, id⟩⟩ (fun _ _ _ hb => hb)
    ⟨(fun b l hb => by cases hb), rfl, (fun b hb => False.elim hb)⟩ (fun x hx => by cases hx) ha) ?_
  rintro e w' ⟨v, rs, cs', rfl, rfl, hst, G', us, _, hL, hv, _, _, _⟩
  obtain ⟨u, r, hu, h1, h2⟩ := hL
  simp only [OkL] at h2
  rw [h2] at hu
  rw [hu] at hv
  have h3 : u = .bool true := by simpa [Ok, Rep] using h1
  refine ⟨by rw [hv, h3]; rfl, (hst.mono (S' := (· < w.heap.size)) (fun k hk => ⟨hk, id⟩)).below⟩
end Go.Proofs.YtfagllolcalfiabDoor
