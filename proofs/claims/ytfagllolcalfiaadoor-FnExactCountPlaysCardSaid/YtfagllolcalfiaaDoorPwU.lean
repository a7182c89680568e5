/- Structs and arrays compared with ==, in the pure state. Own work; no conditions; nothing here is about one program. -/
import Derived.Test.YtfagllolcalfiaaDoorPwT
import Derived.Laws.StructEq
import Derived.ChangeKeysEq
namespace Go.Proofs.YtfagllolcalfiaaDoor
open Go.RowKit
set_option linter.unusedVariables false
set_option linter.unusedSimpArgs false

def BK.of : BK → PV → Prop
  | .bool, p => ∃ b, p = .bool b
  | .int k, p => ∃ i, p = .int k i
  | .str, p => ∃ s, p = .str s

/-- Cells that begin with these kinds. -/
def HasK : List BK → List PV → Prop
  | [], _ => True
  | k :: ks, l => ∃ p r, l = p :: r ∧ k.of p ∧ HasK ks r

theorem HasK.length : ∀ {ks : List BK} {l : List PV}, HasK ks l → ks.length ≤ l.length
  | [], _, _ => Nat.zero_le _
  | k :: ks, l, h => by
    obtain ⟨p, r, rfl, _, h2⟩ := h
    have := HasK.length h2
    simp; omega

theorem HasK.split : ∀ {k1 k2 : List BK} {l : List PV}, HasK (k1 ++ k2) l → HasK k1 l ∧ HasK k2 (l.drop k1.length)
  | [], k2, l, h => ⟨trivial, by simpa using h⟩
  | k :: k1, k2, l, h => by
    obtain ⟨p, r, rfl, h1, h2⟩ := h
    have := HasK.split h2
    exact ⟨⟨p, r, rfl, h1, this.1⟩, by simpa using this.2⟩

theorem HasK.take : ∀ {ks : List BK} {l : List PV} {n : Nat}, HasK ks l → ks.length ≤ n → HasK ks (l.take n)
  | [], _, _, _, _ => trivial
  | k :: ks, l, n, h, hn => by
    obtain ⟨p, r, rfl, h1, h2⟩ := h
    cases n with
    | zero => simp at hn
    | succ n => exact ⟨p, r.take n, rfl, h1, HasK.take h2 (by simpa using hn)⟩

/-- Values of the type, compared as they stand in the cells of two values. -/
def EqTy (P : Program) (t : TypeId) (ks : List BK) (m : Nat) : Prop := ∀ (d : Nat) (w w1 w2 : World) (F F' : Nat → Prop) (ps qs : List PV) (vs us : List Value) (off off' : Nat), RepL w1 F ps vs → RepL w2 F' qs us → HasK ks (ps.drop off) → HasK ks (qs.drop off') →
  ∃ a b r, (part t vs.toArray off).run P w = .ok a w ∧ (part t us.toArray off').run P w = .ok b w ∧ (Op.equalIn (d + m) t a b).run P w = .ok r w ∧ (r = true ↔ (ps.drop off).take ks.length = (qs.drop off').take ks.length)

section
variable {P : Program} {t e : TypeId}

theorem EqTy.mono {ks : List BK} {m m' : Nat} (h : EqTy P t ks m) (hm : m ≤ m') : EqTy P t ks m' := fun d w w1 w2 F F' ps qs vs us o o' h1 h2 h3 h4 => by
  have := h (d + (m' - m)) w w1 w2 F F' ps qs vs us o o' h1 h2 h3 h4
  rwa [show d + (m' - m) + m = d + m' by omega] at this

theorem drop_get {α : Type} {l r : List α} {o : Nat} {x : α} (h : l.drop o = x :: r) : l[o]? = some x := by
  have := congrArg List.head? h
  simpa using this

theorem eqTy_int {k : IntKind} (h1 : OneTy P t) (ht : P.underlying t = some (.int k)) : EqTy P t [.int k] 1 := by
  intro d w w1 w2 F F' ps qs vs us o o' hp hq k1 k2
  obtain ⟨p, r, e1, ⟨a, rfl⟩, -⟩ := k1
  obtain ⟨q, s, e2, ⟨b, rfl⟩, -⟩ := k2
  obtain ⟨v, h2, h3⟩ := run_part_one h1 hp (drop_get e1)
  obtain ⟨u, h4, h5⟩ := run_part_one h1 hq (drop_get e2)
  simp only [Rep] at h3 h5
  subst h3; subst h5
  refine ⟨_, _, _, h2 w, h4 w, run_equalIn_int w d t k k a b ht, ?_⟩
  rw [e1, e2]; simp

theorem eqTy_bool (h1 : OneTy P t) (ht : P.underlying t = some .bool) : EqTy P t [.bool] 1 := by
  intro d w w1 w2 F F' ps qs vs us o o' hp hq k1 k2
  obtain ⟨p, r, e1, ⟨a, rfl⟩, -⟩ := k1
  obtain ⟨q, s, e2, ⟨b, rfl⟩, -⟩ := k2
  obtain ⟨v, h2, h3⟩ := run_part_one h1 hp (drop_get e1)
  obtain ⟨u, h4, h5⟩ := run_part_one h1 hq (drop_get e2)
  simp only [Rep] at h3 h5
  subst h3; subst h5
  refine ⟨_, _, _, h2 w, h4 w, run_equalIn_bool w d t a b ht, ?_⟩
  rw [e1, e2]; simp

theorem eqTy_str (h1 : OneTy P t) (ht : P.underlying t = some .string) : EqTy P t [.str] 1 := by
  intro d w w1 w2 F F' ps qs vs us o o' hp hq k1 k2
  obtain ⟨p, r, e1, ⟨a, rfl⟩, -⟩ := k1
  obtain ⟨q, s, e2, ⟨b, rfl⟩, -⟩ := k2
  obtain ⟨v, h2, h3⟩ := run_part_one h1 hp (drop_get e1)
  obtain ⟨u, h4, h5⟩ := run_part_one h1 hq (drop_get e2)
  simp only [Rep] at h3 h5
  subst h3; subst h5
  refine ⟨_, _, _, h2 w, h4 w, run_equalIn_string w d t _ _ ht, ?_⟩
  rw [e1, e2]; simp [ByteArray.toList_eq]

theorem take_add_eq {α : Type} {n m : Nat} {l l' : List α} (h : n ≤ l.length) (h' : n ≤ l'.length) : l.take (n + m) = l'.take (n + m) ↔ l.take n = l'.take n ∧ (l.drop n).take m = (l'.drop n).take m := by
  rw [List.take_add, List.take_add]
  constructor
  · intro e
    exact List.append_inj e (by simp; omega)
  · rintro ⟨e1, e2⟩
    rw [e1, e2]

def EqFs (P : Program) (m : Nat) : List Field → Nat → List BK → Prop
  | [], _, ks => ks = []
  | f :: r, off, ks => (f.name != "_") = true ∧ f.offset = off ∧ ∃ k1 k2, ks = k1 ++ k2 ∧ EqTy P f.type k1 m ∧ EqFs P m r (off + k1.length) k2

theorem eqFs_run (m d : Nat) (w w1 w2 : World) (F F' : Nat → Prop) (ps qs : List PV) (vs us : List Value) (hp : RepL w1 F ps vs) (hq : RepL w2 F' qs us) : ∀ (fs : List Field) (off : Nat) (ks : List BK), EqFs P m fs off ks → HasK ks (ps.drop off) → HasK ks (qs.drop off) →
    ∃ r, (Op.eqFields (d + m) vs.toArray us.toArray fs).run P w = .ok r w ∧ (r = true ↔ (ps.drop off).take ks.length = (qs.drop off).take ks.length)
  | [], off, ks, h, _, _ => by
    simp only [EqFs] at h
    subst h
    exact ⟨true, by simp [Op.eqFields], by simp⟩
  | f :: fs, off, ks, h, k1, k2 => by
    obtain ⟨hn, rfl, l1, l2, rfl, ht, hf⟩ := h
    have a1 := k1.split
    have a2 := k2.split
    obtain ⟨a, b, r, p1, p2, p3, hiff⟩ := ht d w w1 w2 F F' ps qs vs us _ _ hp hq a1.1 a2.1
    have hn' : f.name ≠ "_" := by simpa using hn
    rw [List.drop_drop] at a1 a2
    obtain ⟨r', q1, q2⟩ := eqFs_run m d w w1 w2 F F' ps qs vs us hp hq fs _ _ hf a1.2 a2.2
    rw [List.length_append, take_add_eq a1.1.length a2.1.length, List.drop_drop, List.drop_drop]
    simp only [Op.eqFields, hn', ne_eq, not_false_eq_true, if_true, Sem.run_bind, p1, p2, p3, Result.andThen_ok]
    cases r
    · exact ⟨false, by simp, by simp; intro e; exact absurd (hiff.2 e) (by simp)⟩
    · refine ⟨r', by simpa using q1, ?_⟩
      rw [q2]
      simp [hiff.1 rfl]

theorem eqTy_struct {fs : Array Field} {ks : List BK} {m : Nat} (h1 : AggTy P t ks.length) (ht : P.underlying t = some (.struct fs)) (hs : P.stoodInHeld t = false) (hf : EqFs P m fs.toList 0 ks) : EqTy P t ks (m + 1) := by
  intro d w w1 w2 F F' ps qs vs us o o' hp hq k1 k2
  have e : P.fieldsOf t = fs := by unfold Program.fieldsOf; rw [ht]
  have g1 := (hp.drop o).take ks.length
  have g2 := (hq.drop o').take ks.length
  obtain ⟨r, q1, q2⟩ := eqFs_run m d w w1 w2 F F' _ _ _ _ g1 g2 fs.toList 0 ks hf (by simpa using k1.take (Nat.le_refl _)) (by simpa using k2.take (Nat.le_refl _))
  refine ⟨.agg ((vs.drop o).take ks.length).toArray, .agg ((us.drop o').take ks.length).toArray, r, by simp [part, h1.1, h1.2], by simp [part, h1.1, h1.2], ?_, ?_⟩
  · rw [show d + (m + 1) = (d + m) + 1 by omega, run_equalIn_struct w (d + m) t _ _ (by rw [e]; exact ht) hs, e]
    exact q1
  · rw [q2]; simp [List.take_take]

/-- Single cells that are the same. -/
def Eq1 : PV → PV → Prop
  | .int _ a, .int _ b => a = b
  | .str a, .str b => a = b
  | .bool a, .bool b => a = b
  | _, _ => True
instance : (p q : PV) → Decidable (Eq1 p q) := fun p q => by
  cases p <;> cases q <;> simp only [Eq1] <;> infer_instance
/-- Cells that are the same. -/
def EqP : List PV → List PV → Prop
  | p :: l, q :: m => Eq1 p q ∧ EqP l m
  | _, _ => True
instance decEqP : (l m : List PV) → Decidable (EqP l m)
  | [], _ => .isTrue (by simp [EqP])
  | _ :: _, [] => .isTrue (by simp [EqP])
  | p :: l, q :: m => @instDecidableAnd (Eq1 p q) (EqP l m) _ (decEqP l m)
theorem eqP_iff : ∀ (ks : List BK) (l m : List PV), HasK ks l → HasK ks m → l.length = ks.length → m.length = ks.length → (l = m ↔ EqP l m)
  | [], l, m, _, _, hl, hm => by
    rw [List.eq_nil_of_length_eq_zero hl, List.eq_nil_of_length_eq_zero hm]; simp [EqP]
  | k :: ks, l, m, h1, h2, hl, hm => by
    obtain ⟨p, r, rfl, o1, g1⟩ := h1
    obtain ⟨q, s, rfl, o2, g2⟩ := h2
    have ih := eqP_iff ks r s g1 g2 (by simpa using hl) (by simpa using hm)
    cases k <;> obtain ⟨x, rfl⟩ := o1 <;> obtain ⟨y, rfl⟩ := o2 <;> simp [EqP, Eq1, ih]

end

section
variable {P : Program} {n : Nat} {σ : St} {d : Nat} {ty : TypeId} {pos : String} {af : Array Edge} {gd : Option (Nat × Bool)} {t t' e : TypeId} {x y : Operand}

theorem repL_len {w : World} {F : Nat → Prop} : ∀ {ps : List PV} {vs : List Value}, RepL w F ps vs → vs.length = ps.length
  | [], vs, h => by simp only [RepL] at h; simp [h]
  | c :: cs, vs, h => by
    simp only [RepL] at h
    obtain ⟨v, r, rfl, _, _, h2⟩ := h
    simp [repL_len h2]

theorem agg_eq {ks : List BK} {m : Nat} (hm : m ≤ 10000) (h1 : AggTy P t ks.length) (he : EqTy P t ks m) {w1 w2 : World} (w : World) {F F' : Nat → Prop} {ps qs : List PV} {vs us : List Value} (hp : RepL w1 F ps vs) (hq : RepL w2 F' qs us) (k1 : HasK ks ps) (k2 : HasK ks qs) (l1 : ps.length = ks.length) (l2 : qs.length = ks.length) :
    ∃ r, (Op.equalIn 10000 t (.agg vs.toArray) (.agg us.toArray)).run P w = .ok r w ∧ (r = true ↔ EqP ps qs) := by
  obtain ⟨a, b, r, p1, p2, p3, hiff⟩ := he (10000 - m) w w1 w2 F F' ps qs vs us 0 0 hp hq k1 k2
  rw [show 10000 - m + m = 10000 by omega] at p3
  have ea : a = .agg vs.toArray := by
    have := p1
    simp [part, h1.1, h1.2] at this
    rw [← this, ← l1, ← repL_len hp]; simp
  have eb : b = .agg us.toArray := by
    have := p2
    simp [part, h1.1, h1.2] at this
    rw [← this, ← l2, ← repL_len hq]; simp
  subst ea; subst eb
  refine ⟨r, p3, ?_⟩
  rw [hiff, List.drop_zero, List.drop_zero, List.take_of_length_le (by omega), List.take_of_length_le (by omega)]
  exact eqP_iff ks ps qs k1 k2 l1 l2

theorem q_aggeq {ks : List BK} {m : Nat} (hm : m ≤ 10000) (h1 : AggTy P t ks.length) (he : EqTy P t ks m) (hg : P.eqGuardType P.depth t = false) {ps qs : List PV} (hx : σ.ev x = some (.val (.agg ps))) (hy : σ.ev y = some (.val (.agg qs))) (k1 : HasK ks ps) (k2 : HasK ks qs) (l1 : ps.length = ks.length) (l2 : qs.length = ks.length) (hd : d < n) :
    quietT P n ⟨some d, .binOp .eql t x y t', ty, pos, af, gd⟩ σ d (.val (.bool (decide (EqP ps qs)))) := by
  refine ⟨rfl, hd, fun C a w G hS hG hE => ?_⟩
  have e1 := hE.ev hx
  have e2 := hE.ev hy
  simp only [Ok, Rep] at e1 e2
  obtain ⟨vs, hv, hp⟩ := e1
  obtain ⟨us, hu, hq⟩ := e2
  refine ⟨.bool (decide (EqP ps qs)), fun w2 _ => ?_, by simp [Ok, Rep]⟩
  obtain ⟨r, q1, q2⟩ := agg_eq (P := P) hm h1 he w2 hp hq k1 k2 l1 l2
  have hr : r = decide (EqP ps qs) := by
    by_cases h : EqP ps qs
    · rw [decide_eq_true h]; exact q2.2 h
    · rw [decide_eq_false h]
      cases hb : r with
      | false => rfl
      | true => exact absurd (q2.1 hb) h
  subst hr
  simp [execOp, hv, hu, run_eqGuard_agg _ _ _ _ _ _ _ hg, run_eql_struct, q1]

theorem q_aggne {ks : List BK} {m : Nat} (hm : m ≤ 10000) (h1 : AggTy P t ks.length) (he : EqTy P t ks m) (hg : P.eqGuardType P.depth t = false) {ps qs : List PV} (hx : σ.ev x = some (.val (.agg ps))) (hy : σ.ev y = some (.val (.agg qs))) (k1 : HasK ks ps) (k2 : HasK ks qs) (l1 : ps.length = ks.length) (l2 : qs.length = ks.length) (hd : d < n) :
    quietT P n ⟨some d, .binOp .neq t x y t', ty, pos, af, gd⟩ σ d (.val (.bool (decide (¬ EqP ps qs)))) := by
  refine ⟨rfl, hd, fun C a w G hS hG hE => ?_⟩
  have e1 := hE.ev hx
  have e2 := hE.ev hy
  simp only [Ok, Rep] at e1 e2
  obtain ⟨vs, hv, hp⟩ := e1
  obtain ⟨us, hu, hq⟩ := e2
  refine ⟨.bool (decide (¬ EqP ps qs)), fun w2 _ => ?_, by simp [Ok, Rep]⟩
  obtain ⟨r, q1, q2⟩ := agg_eq (P := P) hm h1 he w2 hp hq k1 k2 l1 l2
  have hr : r = decide (EqP ps qs) := by
    by_cases h : EqP ps qs
    · rw [decide_eq_true h]; exact q2.2 h
    · rw [decide_eq_false h]
      cases hb : r with
      | false => rfl
      | true => exact absurd (q2.1 hb) h
  subst hr
  simp [execOp, hv, hu, run_eqGuard_agg _ _ _ _ _ _ _ hg, run_neq_struct, q1]

theorem eqItems_run {ks : List BK} {m : Nat} (d : Nat) (w w1 w2 : World) (F F' : Nat → Prop) (ps qs : List PV) (vs us : List Value) (hp : RepL w1 F ps vs) (hq : RepL w2 F' qs us) (he : EqTy P e ks m) : ∀ (c j : Nat), HasK (List.replicate c ks).flatten (ps.drop (j * ks.length)) → HasK (List.replicate c ks).flatten (qs.drop (j * ks.length)) →
    ∃ r, (Op.eqItems (d + m) e ks.length vs.toArray us.toArray (List.range' j c)).run P w = .ok r w ∧ (r = true ↔ (ps.drop (j * ks.length)).take (c * ks.length) = (qs.drop (j * ks.length)).take (c * ks.length))
  | 0, j, _, _ => ⟨true, by simp [Op.eqItems], by simp⟩
  | c + 1, j, k1, k2 => by
    rw [List.replicate_succ, List.flatten_cons] at k1 k2
    have a1 := k1.split
    have a2 := k2.split
    obtain ⟨a, b, r, p1, p2, p3, hiff⟩ := he d w w1 w2 F F' ps qs vs us _ _ hp hq a1.1 a2.1
    rw [List.drop_drop, show j * ks.length + ks.length = (j + 1) * ks.length by rw [Nat.succ_mul]] at a1 a2
    obtain ⟨r', q1, q2⟩ := eqItems_run d w w1 w2 F F' ps qs vs us hp hq he c (j + 1) a1.2 a2.2
    rw [show (c + 1) * ks.length = ks.length + c * ks.length by rw [Nat.succ_mul]; omega, take_add_eq a1.1.length a2.1.length, List.drop_drop, List.drop_drop, show j * ks.length + ks.length = (j + 1) * ks.length by rw [Nat.succ_mul]]
    rw [List.range'_succ]
    simp only [Op.eqItems, Sem.run_bind, p1, p2, p3, Result.andThen_ok]
    cases r
    · exact ⟨false, by simp, by simp; intro e; exact absurd (hiff.2 e) (by simp)⟩
    · refine ⟨r', by simpa using q1, ?_⟩
      rw [q2]
      simp [hiff.1 rfl]

theorem eqTy_array {len : Nat} {ks : List BK} {m : Nat} (h1 : AggTy P t (len * ks.length)) (ht : P.underlying t = some (.array len e)) (hi : (P.info? e).isSome = true) (hc : P.cellsOf e = ks.length) (he : EqTy P e ks m) : EqTy P t (List.replicate len ks).flatten (m + 1) := by
  intro d w w1 w2 F F' ps qs vs us o o' hp hq k1 k2
  have hl : (List.replicate len ks).flatten.length = len * ks.length := by simp
  obtain ⟨i, hi⟩ := Option.isSome_iff_exists.1 hi
  have g1 := (hp.drop o).take (len * ks.length)
  have g2 := (hq.drop o').take (len * ks.length)
  obtain ⟨r, q1, q2⟩ := eqItems_run d w w1 w2 F F' _ _ _ _ g1 g2 he len 0 (by rw [Nat.zero_mul, List.drop_zero]; exact k1.take (by omega)) (by rw [Nat.zero_mul, List.drop_zero]; exact k2.take (by omega))
  refine ⟨.agg ((vs.drop o).take (len * ks.length)).toArray, .agg ((us.drop o').take (len * ks.length)).toArray, r, by simp [part, h1.1, h1.2], by simp [part, h1.1, h1.2], ?_, ?_⟩
  · rw [show d + (m + 1) = (d + m) + 1 by omega, run_equalIn_array w (d + m) _ _ ht hi, hc, List.range_eq_range']
    exact q1
  · rw [q2, hl]; simp [List.take_take]
end
end Go.Proofs.YtfagllolcalfiaaDoor
