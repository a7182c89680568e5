/- Contracts of functions, walked over the pure layer; each says for which arguments. -/
import Derived.Test.YtfagllolcalfiaaDoorm3Ty
import Derived.Test.YtfagllolcalfiaaDoorTf
import Derived.Test.YtfagllolcalfiaaDoorm1
import Derived.Test.YtfagllolcalfiaaDoorShelf
import Derived.Test.YtfagllolcalfiaaDoorm2
namespace Go.Proofs.YtfagllolcalfiaaDoor
open Go.RowKit m3Ty
set_option linter.unusedVariables false
set_option linter.unusedSimpArgs false

def bitN (n k : Nat) : Bool := Nat.beq (shN n k % 2) 1
theorem bitN_test (n k : Nat) : bitN n k = n.testBit k := by
  unfold bitN shN p2
  rw [Nat.testBit_eq_decide_div_mod_eq]
  cases h : Nat.beq (n / 2 ^ k % 2) 1 with
  | true => rw [Nat.eq_of_beq_eq_true h]; rfl
  | false => rw [decide_eq_false (Nat.ne_of_beq_eq_false h)]
/-- All bars of a cell are bars of another one. -/
def subN (c x : Nat) : Bool := Nat.beq (c &&& x) c
theorem subN_iff (c x : Nat) : subN c x = true ↔ ∀ b, c.testBit b = true → x.testBit b = true := by
  unfold subN
  constructor
  · intro h b hb
    have h := Nat.eq_of_beq_eq_true h
    have : (c &&& x).testBit b = c.testBit b := by rw [h]
    rw [Nat.testBit_and, hb] at this
    simpa using this
  · intro h
    have : c &&& x = c := Nat.eq_of_testBit_eq fun b => by
      rw [Nat.testBit_and]
      cases hb : c.testBit b with
      | true => rw [h b hb]; rfl
      | false => rfl
    rw [this]; exact Nat.beq_refl c
theorem subN_refl (c : Nat) : subN c c = true := (subN_iff c c).2 fun _ h => h
theorem subN_trans {a b c : Nat} (h : subN a b = true) (h2 : subN b c = true) : subN a c = true := (subN_iff a c).2 fun k hk => (subN_iff b c).1 h2 k ((subN_iff a b).1 h k hk)
theorem subN_le {c x : Nat} (h : subN c x = true) : c ≤ x := by
  have h := Nat.eq_of_beq_eq_true h
  rw [← h]; exact Nat.and_le_right
theorem subN_anti {a b : Nat} (h : subN a b = true) (h2 : subN b a = true) : a = b := Nat.le_antisymm (subN_le h) (subN_le h2)
/-- A cell with one more bar. -/
def upN (c b : Nat) : Nat := c ||| p2 b
theorem up_bit (c b k : Nat) : (upN c b).testBit k = (c.testBit k || decide (b = k)) := by
  unfold upN p2
  rw [Nat.testBit_or, Nat.testBit_two_pow]
theorem up_lt {c b : Nat} (hc : c < 128) (hb : b < 7) : upN c b < 128 := by
  have h2 : p2 b < 2 ^ 7 := Nat.pow_lt_pow_right (by omega) hb
  exact @Nat.or_lt_two_pow _ _ 7 hc h2
theorem up_ge (c b : Nat) : c ≤ upN c b := Nat.left_le_or
theorem up_sub (c b : Nat) : subN c (upN c b) = true := (subN_iff _ _).2 fun k hk => by rw [up_bit, hk]; rfl
theorem up_same {c b : Nat} (h : c.testBit b = true) : upN c b = c := Nat.eq_of_testBit_eq fun k => by
  rw [up_bit]
  by_cases e : b = k
  · subst e; rw [h]; rfl
  · rw [decide_eq_false e, Bool.or_false]
theorem up_gt {c b : Nat} (h : c.testBit b = false) : c < upN c b := by
  rcases Nat.lt_or_ge c (upN c b) with h1 | h1
  · exact h1
  · have e : upN c b = c := Nat.le_antisymm h1 (up_ge c b)
    have : (upN c b).testBit b = true := by rw [up_bit, decide_eq_true rfl, Bool.or_true]
    rw [e, h] at this; cases this
theorem up_ne {c b : Nat} : upN c b ≠ c ↔ c.testBit b = false := by
  constructor
  · intro h
    cases hb : c.testBit b with
    | true => exact absurd (up_same hb) h
    | false => rfl
  · intro h e
    have := up_gt h; omega
theorem up_sub_iff (c b x : Nat) : subN (upN c b) x = true ↔ subN c x = true ∧ x.testBit b = true := by
  rw [subN_iff, subN_iff]
  constructor
  · intro h
    exact ⟨fun k hk => h k (by rw [up_bit, hk]; rfl), h b (by rw [up_bit, decide_eq_true rfl, Bool.or_true])⟩
  · intro h k hk
    rw [up_bit, Bool.or_eq_true] at hk
    rcases hk with hk | hk
    · exact h.1 k hk
    · have := of_decide_eq_true hk; subst this; exact h.2
/-- What is on the way to the first k cells, and all bars of those that have a cell's. -/
def onK (e : List Int) (c : Nat) : Nat → Bool
  | 0 => false
  | k + 1 => onK e c k || subN c (e.getD k 0).toNat
def ovK (e : List Int) (c : Nat) : Nat → Nat
  | 0 => 0
  | k + 1 => if subN c (e.getD k 0).toNat = true then ovK e c k ||| (e.getD k 0).toNat else ovK e c k
theorem onK_iff (e : List Int) (c : Nat) : ∀ k, onK e c k = true ↔ ∃ j, j < k ∧ subN c (e.getD j 0).toNat = true
  | 0 => ⟨fun h => (by cases h), fun ⟨j, h, _⟩ => by omega⟩
  | k + 1 => by
    unfold onK
    rw [Bool.or_eq_true, onK_iff e c k]
    constructor
    · rintro (⟨j, h1, h2⟩ | h)
      · exact ⟨j, by omega, h2⟩
      · exact ⟨k, by omega, h⟩
    · rintro ⟨j, h1, h2⟩
      by_cases hj : j = k
      · subst hj; exact .inr h2
      · exact .inl ⟨j, by omega, h2⟩
theorem ovK_iff (e : List Int) (c b : Nat) : ∀ k, (ovK e c k).testBit b = true ↔ ∃ j, j < k ∧ subN c (e.getD j 0).toNat = true ∧ (e.getD j 0).toNat.testBit b = true
  | 0 => ⟨fun h => by simp [ovK] at h, fun ⟨j, h, _⟩ => by omega⟩
  | k + 1 => by
    unfold ovK
    split
    · rename_i hs
      rw [Nat.testBit_or, Bool.or_eq_true, ovK_iff e c b k]
      constructor
      · rintro (⟨j, h1, h2⟩ | h)
        · exact ⟨j, by omega, h2⟩
        · exact ⟨k, by omega, hs, h⟩
      · rintro ⟨j, h1, h2⟩
        by_cases hj : j = k
        · subst hj; exact .inr h2.2
        · exact .inl ⟨j, by omega, h2⟩
    · rename_i hs
      rw [ovK_iff e c b k]
      constructor
      · rintro ⟨j, h1, h2⟩; exact ⟨j, by omega, h2⟩
      · rintro ⟨j, h1, h2⟩
        by_cases hj : j = k
        · subst hj; exact absurd h2.1 hs
        · exact ⟨j, by omega, h2⟩
theorem ovK_none {e : List Int} {c : Nat} : ∀ {k}, onK e c k = false → ovK e c k = 0
  | 0, _ => rfl
  | k + 1, h => by
    unfold onK at h
    rw [Bool.or_eq_false_iff] at h
    unfold ovK
    rw [if_neg (by rw [h.2]; decide)]
    exact ovK_none h.1
def CellsP (e : List Int) : Prop := ∀ j, 0 ≤ e.getD j 0 ∧ e.getD j 0 ≤ 127
theorem ovK_lt {e : List Int} (he : CellsP e) (c : Nat) : ∀ k, ovK e c k < 128
  | 0 => by simp [ovK]
  | k + 1 => by
    have ih := ovK_lt he c k
    unfold ovK
    split
    · have := he k
      exact @Nat.or_lt_two_pow _ _ 7 ih (show _ < 128 by omega)
    · exact ih
theorem ovK_in {e : List Int} {c : Nat} : ∀ {k}, onK e c k = true → subN c (ovK e c k) = true
  | k, h => (subN_iff _ _).2 fun b hb => by
    obtain ⟨j, h1, h2⟩ := (onK_iff e c k).1 h
    exact (ovK_iff e c b k).2 ⟨j, h1, h2, (subN_iff _ _).1 h2 b hb⟩
def onN (e : List Int) (c : Nat) : Bool := onK e c e.length
/-- All bars that can be lit. -/
def litN (e : List Int) (c : Nat) : Nat := ovK e c e.length ^^^ (ovK e c e.length &&& c)
theorem lit_bit (e : List Int) (c b : Nat) : (litN e c).testBit b = ((ovK e c e.length).testBit b && !c.testBit b) := by
  unfold litN
  rw [Nat.testBit_xor, Nat.testBit_and]
  cases (ovK e c e.length).testBit b <;> cases c.testBit b <;> rfl
theorem lit_lt {e : List Int} (he : CellsP e) (c : Nat) : litN e c < 128 := by
  have h := ovK_lt he c e.length
  exact @Nat.xor_lt_two_pow _ _ 7 h (show _ < 128 from Nat.lt_of_le_of_lt Nat.and_le_left h)
theorem lit_ok (e : List Int) (c b : Nat) : bitN (litN e c) b = true ↔ upN c b ≠ c ∧ onN e (upN c b) = true := by
  rw [bitN_test, lit_bit, up_ne, Bool.and_eq_true, ovK_iff]
  unfold onN
  rw [onK_iff]
  constructor
  · rintro ⟨⟨j, h1, h2, h3⟩, h4⟩
    exact ⟨by simpa using h4, j, h1, (up_sub_iff _ _ _).2 ⟨h2, h3⟩⟩
  · rintro ⟨h4, j, h1, h2⟩
    have := (up_sub_iff _ _ _).1 h2
    exact ⟨⟨j, h1, this.1, this.2⟩, by simp [h4]⟩
theorem on_down {e : List Int} {c x : Nat} (h : subN c x = true) (h2 : onN e x = true) : onN e c = true := by
  obtain ⟨j, h3, h4⟩ := (onK_iff e x _).1 h2
  exact (onK_iff e c _).2 ⟨j, h3, subN_trans h h4⟩
theorem on_lt {e : List Int} (he : CellsP e) {c : Nat} (h : onN e c = true) : c < 128 := by
  obtain ⟨j, h3, h4⟩ := (onK_iff e c _).1 h
  have := subN_le h4; have := he j; omega
/-- The cells that a cell can become by lighting one of the first m bars. -/
def nxK (e : List Int) (c : Nat) : Nat → List Nat
  | 0 => []
  | m + 1 => if bitN (litN e c) m = true then nxK e c m ++ [upN c m] else nxK e c m
theorem nxK_succ (e : List Int) (c m : Nat) : nxK e c (m + 1) = if bitN (litN e c) m = true then nxK e c m ++ [upN c m] else nxK e c m := rfl
theorem nxK_len (e : List Int) (c : Nat) : ∀ m, (nxK e c m).length ≤ m
  | 0 => Nat.le_refl _
  | m + 1 => by
    have := nxK_len e c m
    unfold nxK
    split <;> simp <;> omega
theorem nxK_mem {e : List Int} {c x : Nat} : ∀ m, x ∈ nxK e c m ↔ ∃ b, b < m ∧ bitN (litN e c) b = true ∧ x = upN c b
  | 0 => ⟨fun h => by simp [nxK] at h, fun ⟨b, h, _⟩ => by omega⟩
  | m + 1 => by
    unfold nxK
    split
    · rename_i hs
      rw [List.mem_append, nxK_mem m, List.mem_singleton]
      constructor
      · rintro (⟨b, h1, h2⟩ | h)
        · exact ⟨b, by omega, h2⟩
        · exact ⟨m, by omega, hs, h⟩
      · rintro ⟨b, h1, h2, h3⟩
        by_cases hb : b = m
        · subst hb; exact .inr h3
        · exact .inl ⟨b, by omega, h2, h3⟩
    · rename_i hs
      rw [nxK_mem m]
      constructor
      · rintro ⟨b, h1, h2⟩; exact ⟨b, by omega, h2⟩
      · rintro ⟨b, h1, h2, h3⟩
        by_cases hb : b = m
        · subst hb; exact absurd h2 hs
        · exact ⟨b, by omega, h2, h3⟩
theorem nx_gt {e : List Int} {c x m : Nat} (h : x ∈ nxK e c m) : c < x := by
  obtain ⟨b, _, h2, rfl⟩ := (nxK_mem m).1 h
  exact up_gt (up_ne.1 ((lit_ok e c b).1 h2).1)
theorem nx_on {e : List Int} {c x m : Nat} (h : x ∈ nxK e c m) : onN e x = true := by
  obtain ⟨b, _, h2, rfl⟩ := (nxK_mem m).1 h
  exact ((lit_ok e c b).1 h2).2
theorem nx_lt {e : List Int} (he : CellsP e) {c x m : Nat} (h : x ∈ nxK e c m) : x < 128 := on_lt he (nx_on h)
/-- What a rule tells of a cell, and of those that it can become. -/
def vF {α : Type} (f : Nat → List α → α) (e : List Int) : Nat → Nat → α
  | 0, c => f c []
  | n + 1, c => f c ((nxK e c 7).map (vF f e n))
theorem vF_fuel {α : Type} (f : Nat → List α → α) {e : List Int} (he : CellsP e) : ∀ (n m c : Nat), c < 128 → 128 - c ≤ n → 128 - c ≤ m → vF f e n c = vF f e m c
  | 0, m, c, h, h1, _ => by omega
  | n + 1, 0, c, h, _, h2 => by omega
  | n + 1, m + 1, c, h, h1, h2 => by
    show f c _ = f c _
    congr 1
    refine List.map_congr_left fun x hx => ?_
    have := nx_gt hx
    have := nx_lt he hx
    exact vF_fuel f he n m x (by omega) (by omega) (by omega)
theorem vF_succ {α : Type} (f : Nat → List α → α) (e : List Int) (n c : Nat) : vF f e (n + 1) c = f c ((nxK e c 7).map (vF f e n)) := rfl
noncomputable def fuelV : Nat := Classical.choose (⟨128, rfl⟩ : ∃ n : Nat, n = 128)
theorem fuelV_eq : fuelV = 128 := Classical.choose_spec (⟨128, rfl⟩ : ∃ n : Nat, n = 128)
noncomputable def val {α : Type} (f : Nat → List α → α) (e : List Int) (c : Nat) : α := vF f e fuelV c
theorem val_eq {α : Type} (f : Nat → List α → α) {e : List Int} (he : CellsP e) {c : Nat} (h : c < 128) : val f e c = f c ((nxK e c 7).map (val f e)) := by
  have h2 : ∀ n, n = 128 → vF f e (n - 1 + 1) c = f c ((nxK e c 7).map (vF f e n)) := fun n hn => by
    rw [vF_succ]
    congr 1
    refine List.map_congr_left fun x hx => ?_
    have := nx_gt hx
    have := nx_lt he hx
    exact vF_fuel f he _ _ x (by omega) (by omega) (by omega)
  have := h2 fuelV fuelV_eq
  rw [show fuelV - 1 + 1 = fuelV from Nat.sub_add_cancel (by rw [fuelV_eq]; decide)] at this
  exact this
theorem down_ind {e : List Int} (he : CellsP e) {p : Nat → Prop} (h : ∀ c, c < 128 → (∀ x ∈ nxK e c 7, p x) → p c) : ∀ c, c < 128 → p c := by
  have : ∀ n c, c < 128 → 128 - c ≤ n → p c := by
    intro n
    induction n with
    | zero => intro c h1 h2; omega
    | succ n ih =>
      intro c h1 h2
      exact h c h1 fun x hx => ih x (nx_lt he hx) (by have := nx_gt hx; have := nx_lt he hx; omega)
  exact fun c hc => this 128 c hc (by omega)
/-- What a map tells of cells, those with the greatest numbers first. -/
def tE (e : List Int) (V : Nat → PV) : Nat → List (PV × PV)
  | 0 => []
  | k + 1 => if onN e (127 - k) = true then tE e V k ++ [(.int .i64 ((127 - k : Nat) : Int), V (127 - k))] else tE e V k
theorem tE_succ (e : List Int) (V : Nat → PV) (k : Nat) : tE e V (k + 1) = if onN e (127 - k) = true then tE e V k ++ [(.int .i64 ((127 - k : Nat) : Int), V (127 - k))] else tE e V k := rfl
theorem tE_mem {e : List Int} {V : Nat → PV} {q : PV × PV} : ∀ {k}, k ≤ 128 → q ∈ tE e V k → ∃ x : Nat, 128 - k ≤ x ∧ x < 128 ∧ onN e x = true ∧ q = (.int .i64 (x : Int), V x)
  | 0, _, h => by simp [tE] at h
  | k + 1, hk, h => by
    rw [tE_succ] at h
    split at h
    · rename_i ho
      rcases List.mem_append.1 h with h | h
      · obtain ⟨x, h1, h2⟩ := tE_mem (by omega) h
        exact ⟨x, by omega, h2⟩
      · exact ⟨127 - k, by omega, by omega, ho, List.mem_singleton.1 h⟩
    · obtain ⟨x, h1, h2⟩ := tE_mem (by omega) h
      exact ⟨x, by omega, h2⟩
theorem key_i64 (a b : Int) : keyEq (.int .i64) (.int .i64 a) (.int .i64 b) = some (decide (a = b)) := by
  have : intEq a b = decide (a = b) := by rw [intEq_eq]; rfl
  simp only [keyEq, this]; rfl
theorem findE_no {k : PV} {t : TK} : ∀ (es : List (PV × PV)) (i : Nat), (∀ q ∈ es, keyEq t k q.1 = some false) → findE t k es i = some none
  | [], i, _ => rfl
  | (k', p) :: r, i, h => by
    have h1 := h (k', p) List.mem_cons_self
    unfold findE
    rw [h1]
    exact findE_no r (i + 1) fun q hq => h q (List.mem_cons_of_mem _ hq)
theorem findE_app {k : PV} {t : TK} : ∀ (es fs : List (PV × PV)) (i : Nat), findE t k es i = some none → findE t k (es ++ fs) i = findE t k fs (i + es.length)
  | [], fs, i, _ => rfl
  | (k', p) :: r, fs, i, h => by
    unfold findE at h
    show (match keyEq t k k' with | some true => some (some (i, p)) | some false => findE t k (r ++ fs) (i + 1) | none => none) = _
    cases hk : keyEq t k k' with
    | none => rw [hk] at h; cases h
    | some b =>
      cases b with
      | true => rw [hk] at h; cases h
      | false =>
        rw [hk] at h
        show findE t k (r ++ fs) (i + 1) = _
        rw [findE_app r fs (i + 1) h]
        congr 1
        rw [List.length_cons]; omega
theorem findE_appS {k : PV} {t : TK} {z : Nat × PV} : ∀ (es fs : List (PV × PV)) (i : Nat), findE t k es i = some (some z) → findE t k (es ++ fs) i = some (some z)
  | [], fs, i, h => by cases h
  | (k', p) :: r, fs, i, h => by
    unfold findE at h
    show (match keyEq t k k' with | some true => some (some (i, p)) | some false => findE t k (r ++ fs) (i + 1) | none => none) = _
    cases hk : keyEq t k k' with
    | none => rw [hk] at h; cases h
    | some b =>
      cases b with
      | true => rw [hk] at h; exact h
      | false =>
        rw [hk] at h
        exact findE_appS r fs (i + 1) h
theorem tE_miss {e : List Int} {V : Nat → PV} {c : Int} {k : Nat} (hk : k ≤ 128) (h : ∀ x : Nat, 128 - k ≤ x → x < 128 → onN e x = true → c ≠ (x : Int)) : findE (.int .i64) (.int .i64 c) (tE e V k) 0 = some none := by
  refine findE_no _ _ fun q hq => ?_
  obtain ⟨x, h1, h2, h3, rfl⟩ := tE_mem hk hq
  rw [key_i64, decide_eq_false (h x h1 h2 h3)]
theorem tE_new {e : List Int} {V : Nat → PV} {k : Nat} (hk : k < 128) : findE (.int .i64) (.int .i64 ((127 - k : Nat) : Int)) (tE e V k) 0 = some none := tE_miss (by omega) fun x h1 h2 _ h4 => by omega
def ixO (o : Option (Option (Nat × PV))) : Nat := match o with | some (some (j, _)) => j | _ => 0
theorem tE_hitX {e : List Int} {V : Nat → PV} {x : Nat} (ho : onN e x = true) : ∀ {k}, k ≤ 128 → 128 - k ≤ x → x < 128 → ∃ j, findE (.int .i64) (.int .i64 (x : Int)) (tE e V k) 0 = some (some (j, V x))
  | 0, _, h1, h2 => by omega
  | k + 1, hk, h1, h2 => by
    rw [tE_succ]
    by_cases hx : x = 127 - k
    · subst hx
      rw [if_pos ho, findE_app _ _ 0 (tE_new (by omega))]
      refine ⟨0 + (tE e V k).length, ?_⟩
      unfold findE
      rw [key_i64, decide_eq_true rfl]
    · obtain ⟨j, hj⟩ := tE_hitX ho (k := k) (by omega) (by omega) h2
      split
      · exact ⟨j, findE_appS _ _ 0 hj⟩
      · exact ⟨j, hj⟩
theorem tE_hit {e : List Int} {V : Nat → PV} {c : Int} {k x : Nat} (hc : c = (x : Int)) (ho : onN e x = true) (hk : k ≤ 128) (h1 : 128 - k ≤ x) (h2 : x < 128) : findE (.int .i64) (.int .i64 c) (tE e V k) 0 = some (some (ixO (findE (.int .i64) (.int .i64 c) (tE e V k) 0), V x)) := by
  subst hc
  obtain ⟨j, hj⟩ := tE_hitX (V := V) ho hk h1 h2
  rw [hj]; rfl
/-- The least number that a list hasn't. -/
def mxG (L : List Int) : Nat → Nat → Nat
  | 0, n => n
  | f + 1, n => if hasK L (n : Int) L.length = true then mxG L f (n + 1) else n
def mxS (L : List Int) (n : Nat) : Nat := mxG L (300 - n) n
theorem mxS_yes {L : List Int} {n : Nat} (hn : n < 300) (h : hasK L (n : Int) L.length = true) : mxS L n = mxS L (n + 1) := by
  unfold mxS
  rw [show 300 - n = (300 - (n + 1)) + 1 by omega]
  show (if _ then _ else _) = _
  rw [if_pos h]
theorem mxS_no {L : List Int} {n : Nat} (hn : n < 300) (h : ¬ hasK L (n : Int) L.length = true) : mxS L n = n := by
  unfold mxS
  rw [show 300 - n = (300 - (n + 1)) + 1 by omega]
  show (if _ then _ else _) = _
  rw [if_neg h]
def mexL (L : List Int) : Int := ((mxS L 0 : Nat) : Int)
theorem hasK_mem {l : List Int} {n : Int} : ∀ {k}, k ≤ l.length → hasK l n k = true → n ∈ l
  | 0, _, h => by cases h
  | k + 1, hk, h => by
    unfold hasK at h
    rw [Bool.or_eq_true] at h
    rcases h with h | h
    · exact hasK_mem (by omega) h
    · have := of_decide_eq_true h
      rw [← this]
      rw [show l.getD k 0 = l[k] by simp [show k < l.length by omega]]
      exact List.getElem_mem _
theorem mem_hasK {l : List Int} {n : Int} (h : n ∈ l) : hasK l n l.length = true := by
  obtain ⟨j, hj, rfl⟩ := List.getElem_of_mem h
  have : ∀ k, j < k → hasK l l[j] k = true := by
    intro k
    induction k with
    | zero => intro h; omega
    | succ k ih =>
      intro hk
      unfold hasK
      by_cases e : j = k
      · subst e; simp [hj]
      · rw [ih (by omega)]; rfl
  exact this _ hj
theorem mxG_le {L : List Int} {B : Int} (hL : ∀ x ∈ L, x < B) : ∀ (f n : Nat), (n : Int) ≤ B → ((mxG L f n : Nat) : Int) ≤ B
  | 0, n, h => h
  | f + 1, n, h => by
    show ((if _ then _ else _ : Nat) : Int) ≤ B
    split
    · rename_i hh
      have := hL _ (hasK_mem (Nat.le_refl _) hh)
      exact mxG_le hL f (n + 1) (by omega)
    · exact h
theorem mexL_le {L : List Int} {B : Int} (hB : 0 ≤ B) (hL : ∀ x ∈ L, x < B) : 0 ≤ mexL L ∧ mexL L ≤ B := ⟨by unfold mexL; omega, mxG_le hL _ 0 hB⟩
def fN (_ : Nat) (L : List Int) : Int := mexL L
def fM (_ : Nat) (L : List Bool) : Bool := L.isEmpty || L.any (fun b => !b)
def fR (sh : Nat → Bool) (c : Nat) (L : List Bool) : Bool := !sh c && L.any (fun b => !b)
def stL (a x : Int) : Int := if x + 1 < a then a else x + 1
def fL (_ : Nat) (L : List Int) : Int := L.foldl stL 0
def stS (a : Int × Bool) (x : Int) : Int × Bool := (if a.2 = false ∨ x + 1 < a.1 then x + 1 else a.1, true)
def fS (_ : Nat) (L : List Int) : Int := (L.foldl stS (0, false)).1
def sumP (L : List Int) : Int := L.foldl (fun a x => a + x) 0
def fP (_ : Nat) (L : List Int) : Int := if L.isEmpty then 1 else sumP L
theorem num_le {e : List Int} (he : CellsP e) : ∀ c, c < 128 → 0 ≤ val fN e c ∧ val fN e c ≤ 128 - (c : Int) := down_ind he fun c hc ih => by
  rw [val_eq fN he hc]
  refine mexL_le (B := 128 - (c : Int)) (by omega) fun x hx => ?_
  obtain ⟨y, hy, rfl⟩ := List.mem_map.1 hx
  have := ih y hy; have := nx_gt hy; omega
theorem cnt_up {c b : Nat} (hc : c < 128) (hb : b < 7) (h : upN c b ≠ c) : cnt7 (upN c b) = cnt7 c + 1 := by
  have k : (List.range 128).all (fun c => (List.range 7).all fun b => Nat.beq (upN c b) c || Nat.beq (cnt7 (upN c b)) (cnt7 c + 1)) = true := by decide +kernel
  have := List.all_eq_true.1 k c (List.mem_range.2 hc)
  have := List.all_eq_true.1 this b (List.mem_range.2 hb)
  rw [Bool.or_eq_true] at this
  rcases this with h1 | h1
  · exact absurd (Nat.eq_of_beq_eq_true h1) h
  · exact Nat.eq_of_beq_eq_true h1
theorem cnt_le (n : Nat) : cnt7 n ≤ 7 := by unfold cnt7; omega
theorem cnt_nx {e : List Int} {c x : Nat} (hc : c < 128) (h : x ∈ nxK e c 7) : cnt7 x = cnt7 c + 1 := by
  obtain ⟨b, h1, h2, rfl⟩ := (nxK_mem 7).1 h
  exact cnt_up hc h1 ((lit_ok e c b).1 h2).1
theorem fold_add (L : List Int) (a : Int) : L.foldl (fun a x => a + x) a = a + L.foldl (fun a x => a + x) 0 := by
  induction L generalizing a with
  | nil => simp
  | cons x L ih => rw [List.foldl_cons, ih, List.foldl_cons, ih (0 + x)]; omega
theorem sumP_le {L : List Int} {B : Int} (h : ∀ x ∈ L, 0 ≤ x ∧ x ≤ B) : 0 ≤ sumP L ∧ sumP L ≤ L.length * B := by
  induction L with
  | nil => simp [sumP]
  | cons x L ih =>
    have h1 := h x List.mem_cons_self
    have h2 := ih fun y hy => h y (List.mem_cons_of_mem _ hy)
    have e : sumP (x :: L) = x + sumP L := by unfold sumP; rw [List.foldl_cons, fold_add]; omega
    have e2 : ((x :: L).length : Int) * B = L.length * B + B := by rw [List.length_cons, Int.natCast_add, Int.add_mul]; simp
    rw [e, e2]; omega
theorem fold_stL {B : Int} : ∀ (L : List Int) (a : Int), 0 ≤ a → a ≤ B → (∀ x ∈ L, 0 ≤ x ∧ x + 1 ≤ B) → 0 ≤ L.foldl stL a ∧ L.foldl stL a ≤ B
  | [], a, h1, h2, _ => ⟨h1, h2⟩
  | x :: L, a, h1, h2, h => by
    have h3 := h x List.mem_cons_self
    have h4 : 0 ≤ stL a x ∧ stL a x ≤ B := by unfold stL; split <;> omega
    exact fold_stL L _ h4.1 h4.2 fun y hy => h y (List.mem_cons_of_mem _ hy)
theorem fold_stS {B : Int} : ∀ (L : List Int) (a : Int × Bool), 0 ≤ a.1 → a.1 ≤ B → (∀ x ∈ L, 0 ≤ x ∧ x + 1 ≤ B) → 0 ≤ (L.foldl stS a).1 ∧ (L.foldl stS a).1 ≤ B
  | [], a, h1, h2, _ => ⟨h1, h2⟩
  | x :: L, a, h1, h2, h => by
    have h3 := h x List.mem_cons_self
    have h4 : 0 ≤ (stS a x).1 ∧ (stS a x).1 ≤ B := by unfold stS; dsimp only; split <;> omega
    exact fold_stS L _ h4.1 h4.2 fun y hy => h y (List.mem_cons_of_mem _ hy)
def pw7 (k : Nat) : Nat := 7 ^ k
theorem pw7_le {k : Nat} (h : k ≤ 7) : pw7 k ≤ 823543 := Nat.pow_le_pow_right (n := 7) (by omega) h
theorem pw7_succ (k : Nat) : pw7 (k + 1) = 7 * pw7 k := by unfold pw7; rw [Nat.pow_succ, Nat.mul_comm]
theorem pw7_pos (k : Nat) : 1 ≤ pw7 k := Nat.pow_pos (by omega)
theorem long_le {e : List Int} (he : CellsP e) : ∀ c, c < 128 → 0 ≤ val fL e c ∧ val fL e c ≤ 7 - (cnt7 c : Int) := down_ind he fun c hc ih => by
  rw [val_eq fL he hc]
  have := cnt_le c
  refine fold_stL _ 0 (by omega) (by omega) fun x hx => ?_
  obtain ⟨y, hy, rfl⟩ := List.mem_map.1 hx
  have := ih y hy; have := cnt_nx hc hy; omega
theorem short_le {e : List Int} (he : CellsP e) : ∀ c, c < 128 → 0 ≤ val fS e c ∧ val fS e c ≤ 7 - (cnt7 c : Int) := down_ind he fun c hc ih => by
  rw [val_eq fS he hc]
  have := cnt_le c
  refine fold_stS _ (0, false) (by decide) (by dsimp only; omega) fun x hx => ?_
  obtain ⟨y, hy, rfl⟩ := List.mem_map.1 hx
  have := ih y hy; have := cnt_nx hc hy; omega
theorem plays_le {e : List Int} (he : CellsP e) : ∀ c, c < 128 → 0 ≤ val fP e c ∧ val fP e c ≤ (pw7 (7 - cnt7 c) : Int) := down_ind he fun c hc ih => by
  rw [val_eq fP he hc]
  have h7 := cnt_le c
  have hp := pw7_pos (7 - cnt7 c)
  unfold fP
  split
  · omega
  · rename_i hne
    have hcn : ∀ y ∈ nxK e c 7, cnt7 y = cnt7 c + 1 := fun y hy => cnt_nx hc hy
    have hl := nxK_len e c 7
    obtain ⟨y0, hy0⟩ : ∃ y, y ∈ nxK e c 7 := by
      cases hN : nxK e c 7 with
      | nil => rw [hN] at hne; exact absurd rfl hne
      | cons a b => exact ⟨a, List.mem_cons_self⟩
    have h8 := hcn y0 hy0
    have h9 := cnt_le y0
    have := sumP_le (L := (nxK e c 7).map (val fP e)) (B := (pw7 (7 - cnt7 c - 1) : Int)) fun x hx => by
      obtain ⟨y, hy, rfl⟩ := List.mem_map.1 hx
      have h1 := ih y hy
      rw [hcn y hy, show 7 - (cnt7 c + 1) = 7 - cnt7 c - 1 by omega] at h1
      exact h1
    refine ⟨this.1, Int.le_trans this.2 ?_⟩
    have e2 := pw7_succ (7 - cnt7 c - 1)
    rw [show 7 - cnt7 c - 1 + 1 = 7 - cnt7 c by omega] at e2
    rw [e2, List.length_map]
    have : ((nxK e c 7).length : Int) * (pw7 (7 - cnt7 c - 1) : Int) ≤ 7 * (pw7 (7 - cnt7 c - 1) : Int) := Int.mul_le_mul_of_nonneg_right (by omega) (by omega)
    omega
/-- The cells at which a play from a cell can end. -/
def laP (e : List Int) (c x : Nat) : Bool := subN c x && (onN e x && Nat.beq (litN e x) 0)
theorem laP_iff (e : List Int) (c x : Nat) : laP e c x = true ↔ subN c x = true ∧ onN e x = true ∧ litN e x = 0 := by
  unfold laP
  rw [Bool.and_eq_true, Bool.and_eq_true]
  exact ⟨fun h => ⟨h.1, h.2.1, Nat.eq_of_beq_eq_true h.2.2⟩, fun h => ⟨h.1, h.2.1, by rw [h.2.2]; rfl⟩⟩
theorem laP_down {e : List Int} {c x l : Nat} (h : subN c x = true) (h2 : laP e x l = true) : laP e c l = true := by
  rw [laP_iff] at h2 ⊢
  exact ⟨subN_trans h h2.1, h2.2⟩
theorem bit_in {c l : Nat} (hl : l < 128) (h : subN c l = true) (hne : c ≠ l) : ∃ b, b < 7 ∧ c.testBit b = false ∧ l.testBit b = true := by
  rcases Classical.em (∃ b, c.testBit b = false ∧ l.testBit b = true) with ⟨b, h1, h2⟩ | hn
  · refine ⟨b, ?_, h1, h2⟩
    rcases Nat.lt_or_ge b 7 with h3 | h3
    · exact h3
    · have : l < 2 ^ b := Nat.lt_of_lt_of_le hl (Nat.pow_le_pow_right (n := 2) (by omega) h3)
      rw [Nat.testBit_lt_two_pow this] at h2; cases h2
  · refine absurd (subN_anti h ((subN_iff l c).2 fun b hb => ?_)) hne
    cases hc : c.testBit b with
    | true => rfl
    | false => exact absurd ⟨b, hc, hb⟩ hn
theorem nx_of {e : List Int} {c l b : Nat} (hb : b < 7) (ho : onN e l = true) (h : subN c l = true) (h1 : c.testBit b = false) (h2 : l.testBit b = true) : upN c b ∈ nxK e c 7 ∧ subN (upN c b) l = true := by
  have h3 := (up_sub_iff c b l).2 ⟨h, h2⟩
  exact ⟨(nxK_mem 7).2 ⟨b, hb, (lit_ok e c b).2 ⟨up_ne.2 h1, on_down h3 ho⟩, rfl⟩, h3⟩
theorem lit_none {e : List Int} (he : CellsP e) {c : Nat} : litN e c = 0 ↔ nxK e c 7 = [] := by
  constructor
  · intro h
    cases hN : nxK e c 7 with
    | nil => rfl
    | cons x r =>
      obtain ⟨b, _, h2, _⟩ := (nxK_mem 7).1 (show x ∈ nxK e c 7 by rw [hN]; exact List.mem_cons_self)
      rw [h, bitN_test, Nat.zero_testBit] at h2; cases h2
  · intro h
    refine Nat.eq_of_testBit_eq fun b => ?_
    rw [Nat.zero_testBit]
    cases hb : (litN e c).testBit b with
    | false => rfl
    | true =>
      have h7 : b < 7 := by
        rcases Nat.lt_or_ge b 7 with h3 | h3
        · exact h3
        · have : litN e c < 2 ^ b := Nat.lt_of_lt_of_le (lit_lt he c) (Nat.pow_le_pow_right (n := 2) (by omega) h3)
          rw [Nat.testBit_lt_two_pow this] at hb; cases hb
      have : upN c b ∈ nxK e c 7 := (nxK_mem 7).2 ⟨b, h7, by rw [bitN_test]; exact hb, rfl⟩
      rw [h] at this; cases this
theorem la_self {e : List Int} (he : CellsP e) {c l : Nat} (hN : nxK e c 7 = []) (h : laP e c l = true) : l = c := by
  obtain ⟨h1, h2, _⟩ := (laP_iff e c l).1 h
  by_cases hne : c = l
  · exact hne.symm
  · obtain ⟨b, h3, h4, h5⟩ := bit_in (on_lt he h2) h1 hne
    have := (nx_of h3 h2 h1 h4 h5).1
    rw [hN] at this; cases this
theorem la_here {e : List Int} (he : CellsP e) {c : Nat} (hN : nxK e c 7 = []) (ho : onN e c = true) : laP e c c = true := (laP_iff e c c).2 ⟨subN_refl c, ho, (lit_none he).2 hN⟩
theorem la_step {e : List Int} (he : CellsP e) {c l : Nat} (hN : nxK e c 7 ≠ []) (h : laP e c l = true) : ∃ b, b < 7 ∧ c.testBit b = false ∧ l.testBit b = true ∧ upN c b ∈ nxK e c 7 ∧ laP e (upN c b) l = true := by
  obtain ⟨h1, h2, h6⟩ := (laP_iff e c l).1 h
  have hne : c ≠ l := fun x => hN (by rw [x]; exact (lit_none he).1 h6)
  obtain ⟨b, h3, h4, h5⟩ := bit_in (on_lt he h2) h1 hne
  have := nx_of h3 h2 h1 h4 h5
  exact ⟨b, h3, h4, h5, this.1, (laP_iff e _ l).2 ⟨this.2, h2, h6⟩⟩
theorem la_ex {e : List Int} (he : CellsP e) : ∀ c, c < 128 → onN e c = true → ∃ l, laP e c l = true := down_ind he fun c hc ih ho => by
  cases hN : nxK e c 7 with
  | nil => exact ⟨c, la_here he hN ho⟩
  | cons x r =>
    have hx : x ∈ nxK e c 7 := by rw [hN]; exact List.mem_cons_self
    obtain ⟨l, hl⟩ := ih x hx (nx_on hx)
    obtain ⟨b, _, _, rfl⟩ := (nxK_mem 7).1 hx
    exact ⟨l, laP_down (up_sub c b) hl⟩
def farN (c l : Nat) : Nat := cnt7 (c ^^^ l)
def bitsIn (c l : Nat) : Nat → Nat
  | 0 => 0
  | m + 1 => bitsIn c l m + if l.testBit m && !c.testBit m then 1 else 0
theorem far_all : (List.range 128).all (fun c => (List.range 128).all fun l => !subN c l || (Nat.beq (farN c l + cnt7 c) (cnt7 l) && Nat.beq (bitsIn c l 7) (farN c l))) = true := by decide +kernel
theorem far_sub {c l : Nat} (hl : l < 128) (h : subN c l = true) : farN c l + cnt7 c = cnt7 l ∧ bitsIn c l 7 = farN c l := by
  have hc := subN_le h
  have := List.all_eq_true.1 far_all c (List.mem_range.2 (by omega))
  have := List.all_eq_true.1 this l (List.mem_range.2 hl)
  rw [h] at this
  simp only [Bool.not_true, Bool.false_or, Bool.and_eq_true] at this
  exact ⟨Nat.eq_of_beq_eq_true this.1, Nat.eq_of_beq_eq_true this.2⟩
theorem far_up {e : List Int} (he : CellsP e) {c b l : Nat} (hb : b < 7) (hn : c.testBit b = false) (h : laP e (upN c b) l = true) : farN c l = farN (upN c b) l + 1 := by
  obtain ⟨h1, h2, _⟩ := (laP_iff e _ l).1 h
  have hl := on_lt he h2
  have hc := subN_le h1
  have := up_ge c b
  have e1 := (far_sub hl h1).1
  have e2 := (far_sub hl (subN_trans (up_sub c b) h1)).1
  have e3 := cnt_up (c := c) (by omega) hb (up_ne.2 hn)
  omega
theorem far_self (c : Nat) : farN c c = 0 := by unfold farN; rw [Nat.xor_self]; rfl
theorem far_le (c l : Nat) : farN c l ≤ 7 := cnt_le _
theorem fold_stL_max : ∀ (L : List Int) (a : Int), 0 ≤ a → (∀ x ∈ L, 0 ≤ x) → (L.foldl stL a = a ∨ ∃ x ∈ L, L.foldl stL a = x + 1) ∧ a ≤ L.foldl stL a ∧ ∀ x ∈ L, x + 1 ≤ L.foldl stL a
  | [], a, _, _ => ⟨.inl rfl, Int.le_refl _, fun _ h => by cases h⟩
  | y :: L, a, h0, h => by
    have hy := h y List.mem_cons_self
    have h4 : 0 ≤ stL a y := by unfold stL; split <;> omega
    have h5 : (stL a y = a ∨ stL a y = y + 1) ∧ a ≤ stL a y ∧ y + 1 ≤ stL a y := by unfold stL; split <;> omega
    obtain ⟨i1, i2, i3⟩ := fold_stL_max L (stL a y) h4 fun x hx => h x (List.mem_cons_of_mem _ hx)
    show (L.foldl stL (stL a y) = a ∨ _) ∧ a ≤ L.foldl stL (stL a y) ∧ _
    refine ⟨?_, by omega, fun x hx => ?_⟩
    · rcases i1 with i1 | ⟨x, hx, i1⟩
      · rcases h5.1 with h6 | h6
        · exact .inl (i1.trans h6)
        · exact .inr ⟨y, List.mem_cons_self, i1.trans h6⟩
      · exact .inr ⟨x, List.mem_cons_of_mem _ hx, i1⟩
    · rcases List.mem_cons.1 hx with rfl | hx
      · show _ ≤ L.foldl stL _
        omega
      · exact i3 x hx
theorem fold_stS_min : ∀ (L : List Int) (a : Int × Bool), (a.2 = true → (L.foldl stS a).1 ≤ a.1) ∧ ((L.foldl stS a).1 = a.1 ∧ (a.2 = true ∨ L = []) ∨ ∃ x ∈ L, (L.foldl stS a).1 = x + 1) ∧ ∀ x ∈ L, (L.foldl stS a).1 ≤ x + 1
  | [], a => ⟨fun _ => Int.le_refl _, .inl ⟨rfl, .inr rfl⟩, fun _ h => by cases h⟩
  | y :: L, a => by
    obtain ⟨i0, i1, i3⟩ := fold_stS_min L (stS a y)
    have h2 : (stS a y).2 = true := rfl
    have h5 : ((stS a y).1 = a.1 ∧ a.2 = true ∨ (stS a y).1 = y + 1) ∧ (a.2 = true → (stS a y).1 ≤ a.1) ∧ (stS a y).1 ≤ y + 1 := by
      unfold stS; dsimp only
      cases a.2 <;> simp <;> split <;> omega
    show (a.2 = true → (L.foldl stS (stS a y)).1 ≤ a.1) ∧ ((L.foldl stS (stS a y)).1 = a.1 ∧ _ ∨ _) ∧ _
    have i0 := i0 h2
    refine ⟨fun h => by have := h5.2.1 h; omega, ?_, fun x hx => ?_⟩
    · rcases i1 with ⟨i1, _⟩ | ⟨x, hx, i1⟩
      · rcases h5.1 with h6 | h6
        · exact .inl ⟨i1.trans h6.1, .inl h6.2⟩
        · exact .inr ⟨y, List.mem_cons_self, i1.trans h6⟩
      · exact .inr ⟨x, List.mem_cons_of_mem _ hx, i1⟩
    · rcases List.mem_cons.1 hx with rfl | hx
      · show (L.foldl stS _).1 ≤ _
        have := h5.2.2; omega
      · exact i3 x hx
theorem nx_ind {e : List Int} {c x : Nat} (h : x ∈ nxK e c 7) : ∃ b, b < 7 ∧ c.testBit b = false ∧ x = upN c b := by
  obtain ⟨b, h1, h2, h3⟩ := (nxK_mem 7).1 h
  exact ⟨b, h1, up_ne.1 ((lit_ok e c b).1 h2).1, h3⟩
/-- The longest and the shortest play lead to last cells. -/
theorem long_far {e : List Int} (he : CellsP e) : ∀ c, c < 128 → onN e c = true → (∃ l, laP e c l = true ∧ val fL e c = farN c l) ∧ ∀ l, laP e c l = true → (farN c l : Int) ≤ val fL e c := down_ind he fun c hc ih ho => by
  rw [val_eq fL he hc]
  by_cases hN : nxK e c 7 = []
  · rw [hN]
    refine ⟨⟨c, la_here he hN ho, by rw [far_self]; rfl⟩, fun l hl => ?_⟩
    rw [la_self he hN hl, far_self]; exact Int.le_refl _
  · have hpos : ∀ x ∈ (nxK e c 7).map (val fL e), 0 ≤ x := fun x hx => by
      obtain ⟨y, hy, rfl⟩ := List.mem_map.1 hx
      exact (long_le he y (nx_lt he hy)).1
    obtain ⟨m1, m2, m3⟩ := fold_stL_max ((nxK e c 7).map (val fL e)) 0 (Int.le_refl _) hpos
    show (∃ l, _ ∧ List.foldl stL 0 _ = _) ∧ ∀ l, _ → _ ≤ List.foldl stL 0 _
    refine ⟨?_, fun l hl => ?_⟩
    · rcases m1 with m1 | ⟨v, hv, m1⟩
      · cases hX : nxK e c 7 with
        | nil => exact absurd hX hN
        | cons y r =>
          have hy : y ∈ nxK e c 7 := by rw [hX]; exact List.mem_cons_self
          have h6 := m3 _ (List.mem_map.2 ⟨y, hy, rfl⟩)
          have h7 := hpos _ (List.mem_map.2 ⟨y, hy, rfl⟩)
          rw [m1] at h6; omega
      · obtain ⟨y, hy, rfl⟩ := List.mem_map.1 hv
        obtain ⟨⟨l, hl, h8⟩, _⟩ := ih y hy (nx_on hy)
        obtain ⟨b, hb, hcb, rfl⟩ := nx_ind hy
        have := far_up he hb hcb hl
        exact ⟨l, laP_down (up_sub c b) hl, by rw [m1, h8, this]; rfl⟩
    · obtain ⟨b, hb, hcb, hlb, hx, hla⟩ := la_step he hN hl
      have h1 := (ih _ hx (nx_on hx)).2 l hla
      have h2 := m3 _ (List.mem_map.2 ⟨_, hx, rfl⟩)
      have := far_up he hb hcb hla
      omega
theorem short_far {e : List Int} (he : CellsP e) : ∀ c, c < 128 → onN e c = true → (∃ l, laP e c l = true ∧ val fS e c = farN c l) ∧ ∀ l, laP e c l = true → val fS e c ≤ (farN c l : Int) := down_ind he fun c hc ih ho => by
  rw [val_eq fS he hc]
  by_cases hN : nxK e c 7 = []
  · rw [hN]
    refine ⟨⟨c, la_here he hN ho, by rw [far_self]; rfl⟩, fun l hl => ?_⟩
    rw [la_self he hN hl, far_self]; exact Int.le_refl _
  · obtain ⟨_, m1, m3⟩ := fold_stS_min ((nxK e c 7).map (val fS e)) (0, false)
    show (∃ l, _ ∧ (List.foldl stS (0, false) _).1 = _) ∧ ∀ l, _ → (List.foldl stS (0, false) _).1 ≤ _
    refine ⟨?_, fun l hl => ?_⟩
    · rcases m1 with ⟨_, h9 | h9⟩ | ⟨v, hv, m1⟩
      · cases h9
      · exact absurd (List.map_eq_nil_iff.1 h9) hN
      · obtain ⟨y, hy, rfl⟩ := List.mem_map.1 hv
        obtain ⟨⟨l, hl, h8⟩, _⟩ := ih y hy (nx_on hy)
        obtain ⟨b, hb, hcb, rfl⟩ := nx_ind hy
        have := far_up he hb hcb hl
        exact ⟨l, laP_down (up_sub c b) hl, by rw [m1, h8, this]; rfl⟩
    · obtain ⟨b, hb, hcb, hlb, hx, hla⟩ := la_step he hN hl
      have h1 := (ih _ hx (nx_on hx)).2 l hla
      have h2 := m3 _ (List.mem_map.2 ⟨_, hx, rfl⟩)
      have := far_up he hb hcb hla
      omega
/-- The last cells in order. -/
def laL (e : List Int) (c m : Nat) : List Int := ((List.range m).filter (laP e c)).map fun (x : Nat) => (x : Int)
theorem laL_succ (e : List Int) (c m : Nat) : laL e c (m + 1) = if laP e c m = true then laL e c m ++ [(m : Int)] else laL e c m := by
  unfold laL
  rw [List.range_succ, List.filter_append, List.map_append]
  by_cases h : laP e c m = true <;> simp [h]
theorem laL_mem {e : List Int} {c m : Nat} {x : Int} : x ∈ laL e c m ↔ ∃ l : Nat, l < m ∧ laP e c l = true ∧ x = (l : Int) := by
  unfold laL
  rw [List.mem_map]
  constructor
  · rintro ⟨l, h, rfl⟩
    rw [List.mem_filter, List.mem_range] at h
    exact ⟨l, h.1, h.2, rfl⟩
  · rintro ⟨l, h1, h2, rfl⟩
    exact ⟨l, by rw [List.mem_filter, List.mem_range]; exact ⟨h1, h2⟩, rfl⟩
theorem laL_len (e : List Int) (c : Nat) : ∀ m, (laL e c m).length ≤ m
  | 0 => Nat.le_refl _
  | m + 1 => by
    have := laL_len e c m
    rw [laL_succ]
    split <;> simp <;> omega
theorem laL_asc (e : List Int) (c : Nat) : ∀ m, (laL e c m).Pairwise (· < ·)
  | 0 => List.Pairwise.nil
  | m + 1 => by
    have ih := laL_asc e c m
    rw [laL_succ]
    split
    · rw [List.pairwise_append]
      refine ⟨ih, List.pairwise_singleton _ _, fun a ha b hb => ?_⟩
      obtain ⟨l, h1, _, rfl⟩ := laL_mem.1 ha
      rw [List.mem_singleton.1 hb]; omega
    · exact ih
/-- What the program gathers: of the goal's cells those that are last. -/
def leK (e : List Int) (c : Nat) : Nat → List Int
  | 0 => []
  | k + 1 => if subN c (e.getD k 0).toNat = true ∧ litN e (e.getD k 0).toNat = 0 then leK e c k ++ [e.getD k 0] else leK e c k
theorem leK_mem {e : List Int} {c : Nat} {x : Int} : ∀ {k}, x ∈ leK e c k ↔ ∃ j, j < k ∧ e.getD j 0 = x ∧ subN c x.toNat = true ∧ litN e x.toNat = 0
  | 0 => ⟨fun h => (by simp [leK] at h), fun ⟨j, h, _⟩ => by omega⟩
  | k + 1 => by
    unfold leK
    split
    · rename_i hs
      rw [List.mem_append, leK_mem, List.mem_singleton]
      constructor
      · rintro (⟨j, h1, h2⟩ | rfl)
        · exact ⟨j, by omega, h2⟩
        · exact ⟨k, by omega, rfl, hs⟩
      · rintro ⟨j, h1, h2, h3⟩
        by_cases hj : j = k
        · subst hj; exact .inr h2.symm
        · exact .inl ⟨j, by omega, h2, h3⟩
    · rename_i hs
      rw [leK_mem]
      constructor
      · rintro ⟨j, h1, h2⟩; exact ⟨j, by omega, h2⟩
      · rintro ⟨j, h1, h2, h3⟩
        by_cases hj : j = k
        · subst hj; subst h2; exact absurd h3 hs
        · exact ⟨j, by omega, h2, h3⟩
theorem leK_len (e : List Int) (c : Nat) : ∀ m, (leK e c m).length ≤ m
  | 0 => Nat.le_refl _
  | m + 1 => by
    have := leK_len e c m
    unfold leK
    split <;> simp <;> omega
def DiffP (e : List Int) : Prop := ∀ i j, i < j → j < e.length → e.getD i 0 ≠ e.getD j 0
theorem leK_nodup {e : List Int} {c : Nat} (hd : DiffP e) : ∀ {k}, k ≤ e.length → (leK e c k).Nodup
  | 0, _ => List.nodup_nil
  | k + 1, hk => by
    have ih := leK_nodup (c := c) hd (k := k) (by omega)
    unfold leK
    split
    · rw [List.nodup_append]
      refine ⟨ih, List.nodup_cons.2 ⟨fun h => (by cases h), List.nodup_nil⟩, fun a ha b hb => ?_⟩
      obtain ⟨j, h1, h2, _⟩ := leK_mem.1 ha
      rw [List.mem_singleton.1 hb, ← h2]
      exact hd j k h1 (by omega)
    · exact ih
theorem asc_uni {x y : List Int} (hx : x.Pairwise (· ≤ ·)) (hy : y.Pairwise (· ≤ ·)) (h : x.Perm y) : x = y := List.Perm.eq_of_pairwise (fun _ _ _ _ h1 h2 => Int.le_antisymm h1 h2) hx hy h
theorem last_on {e : List Int} (he : CellsP e) {x : Nat} (ho : onN e x = true) (hl : litN e x = 0) : ∃ j, j < e.length ∧ e.getD j 0 = (x : Int) := by
  obtain ⟨j, h3, h4⟩ := (onK_iff e x _).1 ho
  have hj := he j
  by_cases hne : x = (e.getD j 0).toNat
  · exact ⟨j, h3, by omega⟩
  · have hon : onN e (e.getD j 0).toNat = true := (onK_iff e _ _).2 ⟨j, h3, subN_refl _⟩
    obtain ⟨b, h5, h6, h7⟩ := bit_in (by omega) h4 hne
    have := (nx_of h5 hon h4 h6 h7).1
    rw [(lit_none he).1 hl] at this; cases this
theorem la_perm {e : List Int} (he : CellsP e) (hd : DiffP e) (c : Nat) : (leK e c e.length).Perm (laL e c 128) := by
  refine (List.perm_ext_iff_of_nodup (leK_nodup hd (Nat.le_refl _)) ((laL_asc e c 128).imp fun h => Int.ne_of_lt h)).2 fun x => ?_
  rw [leK_mem, laL_mem]
  constructor
  · rintro ⟨j, h1, h2, h3, h4⟩
    have hj := he j
    rw [h2] at hj
    exact ⟨x.toNat, by omega, (laP_iff _ _ _).2 ⟨h3, (onK_iff e _ _).2 ⟨j, h1, by rw [h2]; exact subN_refl _⟩, h4⟩, by omega⟩
  · rintro ⟨l, h1, h2, rfl⟩
    obtain ⟨h3, h4, h5⟩ := (laP_iff _ _ _).1 h2
    obtain ⟨j, h6, h7⟩ := last_on he h4 h5
    exact ⟨j, h6, h7, h3, h5⟩
/-- Sums over numbers. -/
def sumR (f : Nat → Int) : Nat → Int
  | 0 => 0
  | m + 1 => sumR f m + f m
theorem sumR_congr {f g : Nat → Int} : ∀ {m}, (∀ j, j < m → f j = g j) → sumR f m = sumR g m
  | 0, _ => rfl
  | m + 1, h => by
    show sumR f m + f m = sumR g m + g m
    rw [sumR_congr (m := m) fun j hj => h j (by omega), h m (by omega)]
theorem sumR_zero : ∀ m, sumR (fun _ => 0) m = 0
  | 0 => rfl
  | m + 1 => by show sumR _ m + 0 = 0; rw [sumR_zero m]; rfl
theorem sumR_add (f g : Nat → Int) : ∀ m, sumR (fun j => f j + g j) m = sumR f m + sumR g m
  | 0 => rfl
  | m + 1 => by
    show sumR (fun j => f j + g j) m + (f m + g m) = sumR f m + f m + (sumR g m + g m)
    rw [sumR_add f g m]; omega
theorem sumR_swap (F : Nat → Nat → Int) (n : Nat) : ∀ m, sumR (fun b => sumR (F b) n) m = sumR (fun l => sumR (fun b => F b l) m) n
  | 0 => (sumR_zero n).symm
  | m + 1 => by
    show sumR (fun b => sumR (F b) n) m + sumR (F m) n = sumR (fun l => sumR (fun b => F b l) m + F m l) n
    rw [sumR_swap F n m, sumR_add]
theorem sumR_one {f : Nat → Int} {c : Nat} : ∀ {n}, c < n → (∀ l, l < n → l ≠ c → f l = 0) → sumR f n = f c
  | 0, h, _ => by omega
  | n + 1, h, hz => by
    show sumR f n + f n = f c
    by_cases e : c = n
    · subst e
      rw [sumR_congr (g := fun _ => 0) fun j hj => hz j (by omega) (by omega), sumR_zero]; omega
    · rw [sumR_one (by omega) fun l hl => hz l (by omega), hz n (by omega) (fun h => e h.symm)]; omega
def facI : Nat → Int
  | 0 => 1
  | n + 1 => facI n * (n + 1 : Nat)
theorem facI_bd : ∀ k, k ≤ 7 → 1 ≤ facI k ∧ facI k ≤ 5040 := by decide
theorem nx_sum (e : List Int) (c : Nat) (V : Nat → Int) : ∀ m, sumP ((nxK e c m).map V) = sumR (fun b => if bitN (litN e c) b = true then V (upN c b) else 0) m
  | 0 => rfl
  | m + 1 => by
    rw [nxK_succ]
    show _ = sumR (fun b => if bitN (litN e c) b = true then V (upN c b) else 0) m + (if bitN (litN e c) m = true then V (upN c m) else 0)
    rw [← nx_sum e c V m]
    split
    · rw [List.map_append]
      unfold sumP
      rw [List.foldl_append]; rfl
    · omega
def plT (e : List Int) (c l : Nat) : Int := if laP e c l = true then facI (farN c l) else 0
theorem bits_sum (c l : Nat) (k : Int) : ∀ m, sumR (fun b => if (l.testBit b && !c.testBit b) = true then k else 0) m = (bitsIn c l m : Int) * k
  | 0 => by simp [sumR, bitsIn]
  | m + 1 => by
    show sumR _ m + (if (l.testBit m && !c.testBit m) = true then k else 0) = ((bitsIn c l m + if (l.testBit m && !c.testBit m) = true then 1 else 0 : Nat) : Int) * k
    rw [bits_sum c l k m]
    split
    · rw [Int.natCast_add, Int.add_mul]; simp
    · simp
/-- How many plays there are: for each last cell, its bars in any sequence. -/
theorem plays_sum {e : List Int} (he : CellsP e) : ∀ c, c < 128 → onN e c = true → val fP e c = sumR (plT e c) 128 := down_ind he fun c hc ih ho => by
  rw [val_eq fP he hc]
  by_cases hN : nxK e c 7 = []
  · rw [hN, sumR_one (c := c) hc fun l _ hl => by
      unfold plT
      rw [if_neg fun h => hl (la_self he hN h)]]
    unfold plT
    rw [if_pos (la_here he hN ho), far_self]; rfl
  · have h0 : ((nxK e c 7).map (val fP e)).isEmpty = false := by
      cases hX : nxK e c 7 with
      | nil => exact absurd hX hN
      | cons a b => rfl
    show (if ((nxK e c 7).map (val fP e)).isEmpty = true then (1 : Int) else sumP ((nxK e c 7).map (val fP e))) = _
    rw [if_neg (by rw [h0]; decide)]
    have h1 : (nxK e c 7).map (val fP e) = (nxK e c 7).map fun x => sumR (plT e x) 128 := List.map_congr_left fun x hx => ih x hx (nx_on hx)
    rw [show sumP ((nxK e c 7).map (val fP e)) = sumP ((nxK e c 7).map fun x => sumR (plT e x) 128) from congrArg sumP h1, nx_sum]
    have h2 : ∀ b, b < 7 → (if bitN (litN e c) b = true then sumR (plT e (upN c b)) 128 else 0) = sumR (fun l => if bitN (litN e c) b = true then plT e (upN c b) l else 0) 128 := fun b _ => by
      split
      · rfl
      · exact (sumR_zero _).symm
    rw [sumR_congr h2, sumR_swap (fun b l => if bitN (litN e c) b = true then plT e (upN c b) l else 0)]
    refine sumR_congr fun l hl => ?_
    by_cases hla : laP e c l = true
    · obtain ⟨h3, h4, h5⟩ := (laP_iff e c l).1 hla
      have h6 : ∀ b, b < 7 → (if bitN (litN e c) b = true then plT e (upN c b) l else 0) = if (l.testBit b && !c.testBit b) = true then facI (farN c l - 1) else 0 := fun b hb => by
        by_cases hbb : l.testBit b = true ∧ c.testBit b = false
        · have h7 := nx_of hb h4 h3 hbb.2 hbb.1
          have h8 : bitN (litN e c) b = true := (lit_ok e c b).2 ⟨up_ne.2 hbb.2, nx_on h7.1⟩
          have h9 : laP e (upN c b) l = true := (laP_iff e _ l).2 ⟨h7.2, h4, h5⟩
          have := far_up he hb hbb.2 h9
          unfold plT
          rw [if_pos h8, if_pos h9, if_pos (by rw [hbb.1, hbb.2]; rfl), this, Nat.add_sub_cancel]
        · have h10 : ¬ (l.testBit b && !c.testBit b) = true := fun h => hbb (by rw [Bool.and_eq_true] at h; exact ⟨h.1, by simpa using h.2⟩)
          rw [if_neg h10]
          split
          · rename_i h8
            have h11 := up_ne.1 ((lit_ok e c b).1 h8).1
            unfold plT
            rw [if_neg fun h9 => hbb ⟨((up_sub_iff c b l).1 ((laP_iff e _ l).1 h9).1).2, h11⟩]
          · rfl
      rw [sumR_congr h6, bits_sum, (far_sub hl h3).2]
      obtain ⟨b, hb, hcb, hlb, hx, hla2⟩ := la_step he hN hla
      have := far_up he hb hcb hla2
      unfold plT
      rw [if_pos hla, this, Nat.add_sub_cancel]
      show _ = facI _ * _
      rw [Int.mul_comm]
    · have h6 : ∀ b, b < 7 → (if bitN (litN e c) b = true then plT e (upN c b) l else 0) = 0 := fun b _ => by
        split
        · unfold plT
          rw [if_neg fun h => hla (laP_down (up_sub c b) h)]
        · rfl
      rw [sumR_congr h6, sumR_zero]
      unfold plT
      rw [if_neg hla]
theorem la_sum (e : List Int) (c : Nat) : ∀ m, sumP ((laL e c m).map fun x => facI (farN c x.toNat)) = sumR (plT e c) m
  | 0 => rfl
  | m + 1 => by
    rw [laL_succ]
    show _ = sumR (plT e c) m + plT e c m
    rw [← la_sum e c m]
    unfold plT
    split
    · rw [List.map_append]
      unfold sumP
      rw [List.foldl_append]; rfl
    · omega
/-- The greatest and the least number of a list. -/
def isMax (L : List Int) (v : Int) : Prop := v ∈ L ∧ ∀ x ∈ L, x ≤ v
def isMin (L : List Int) (v : Int) : Prop := v ∈ L ∧ ∀ x ∈ L, v ≤ x
theorem max_uni {L : List Int} {v w : Int} (h : isMax L v) (h2 : isMax L w) : v = w := Int.le_antisymm (h2.2 _ h.1) (h.2 _ h2.1)
theorem min_uni {L : List Int} {v w : Int} (h : isMin L v) (h2 : isMin L w) : v = w := Int.le_antisymm (h.2 _ h2.1) (h2.2 _ h.1)
def szL (e : List Int) (c : Nat) : List Int := (laL e c 128).map fun x => (farN c x.toNat : Int)
theorem la_on {e : List Int} (he : CellsP e) {c : Nat} : laL e c 128 ≠ [] ↔ onN e c = true := by
  constructor
  · intro h
    cases hX : laL e c 128 with
    | nil => exact absurd hX h
    | cons x r =>
      obtain ⟨l, h1, h2, _⟩ := laL_mem.1 (show x ∈ laL e c 128 by rw [hX]; exact List.mem_cons_self)
      obtain ⟨h3, h4, _⟩ := (laP_iff e c l).1 h2
      exact on_down h3 h4
  · intro ho h
    obtain ⟨l, hl⟩ := la_ex he c (on_lt he ho) ho
    have : ((l : Nat) : Int) ∈ laL e c 128 := laL_mem.2 ⟨l, on_lt he ((laP_iff e c l).1 hl).2.1, hl, rfl⟩
    rw [h] at this; cases this
theorem long_max {e : List Int} (he : CellsP e) {c : Nat} (ho : onN e c = true) : isMax (szL e c) (val fL e c) := by
  obtain ⟨⟨l, hl, h1⟩, h2⟩ := long_far he c (on_lt he ho) ho
  refine ⟨List.mem_map.2 ⟨(l : Int), laL_mem.2 ⟨l, on_lt he ((laP_iff e c l).1 hl).2.1, hl, rfl⟩, by rw [h1]; rfl⟩, fun x hx => ?_⟩
  obtain ⟨y, hy, rfl⟩ := List.mem_map.1 hx
  obtain ⟨k, _, h4, rfl⟩ := laL_mem.1 hy
  exact h2 k h4
theorem short_min {e : List Int} (he : CellsP e) {c : Nat} (ho : onN e c = true) : isMin (szL e c) (val fS e c) := by
  obtain ⟨⟨l, hl, h1⟩, h2⟩ := short_far he c (on_lt he ho) ho
  refine ⟨List.mem_map.2 ⟨(l : Int), laL_mem.2 ⟨l, on_lt he ((laP_iff e c l).1 hl).2.1, hl, rfl⟩, by rw [h1]; rfl⟩, fun x hx => ?_⟩
  obtain ⟨y, hy, rfl⟩ := List.mem_map.1 hx
  obtain ⟨k, _, h4, rfl⟩ := laL_mem.1 hy
  exact h2 k h4
/-- Rows of s cells each, one behind the other. -/
def rowsF (f : Nat → List PV) : Nat → List PV
  | 0 => []
  | n + 1 => rowsF f n ++ f n
theorem rowsF_len {f : Nat → List PV} {s : Nat} (hf : ∀ i, (f i).length = s) : ∀ n, (rowsF f n).length = n * s
  | 0 => by simp [rowsF]
  | n + 1 => by
    show (rowsF f n ++ f n).length = (n + 1) * s
    rw [List.length_append, rowsF_len hf n, hf n, Nat.succ_mul]
theorem rowsF_at {f : Nat → List PV} {s : Nat} (hf : ∀ i, (f i).length = s) {i : Nat} : ∀ {n}, i < n → ((rowsF f n).drop (i * s)).take s = f i
  | 0, h => by omega
  | n + 1, h => by
    show ((rowsF f n ++ f n).drop (i * s)).take s = f i
    have hl := rowsF_len hf n
    have hi := hf i
    by_cases e : i = n
    · subst e
      rw [List.drop_left' hl, List.take_of_length_le (by omega)]
    · have h2 : i * s + s ≤ n * s := by
        have : (i + 1) * s ≤ n * s := Nat.mul_le_mul_right s (by omega)
        rwa [Nat.succ_mul] at this
      rw [List.drop_append_of_le_length (by omega), List.take_append_of_le_length (by rw [List.length_drop]; omega)]
      exact rowsF_at hf (by omega)
theorem rowsF_congr {f g : Nat → List PV} : ∀ {n}, (∀ i, i < n → f i = g i) → rowsF f n = rowsF g n
  | 0, _ => rfl
  | n + 1, h => by
    show rowsF f n ++ f n = rowsF g n ++ g n
    rw [rowsF_congr (n := n) fun i hi => h i (by omega), h n (by omega)]
theorem rowsF_put {f g : Nat → List PV} {s : Nat} (hf : ∀ i, (f i).length = s) {i : Nat} {v : List PV} (hv : v.length = s) (hi : g i = v) : ∀ {n}, i < n → (∀ j, j < n → j ≠ i → g j = f j) → putAt (rowsF f n) (i * s) v = rowsF g n
  | 0, h, _ => by omega
  | n + 1, h, hg => by
    have hl := rowsF_len hf n
    unfold putAt
    show (rowsF f n ++ f n).take (i * s) ++ v ++ (rowsF f n ++ f n).drop (i * s + v.length) = rowsF g n ++ g n
    by_cases e : i = n
    · subst e
      rw [List.take_left' hl, hi, List.drop_eq_nil_of_le (by rw [List.length_append, hl, hf, hv]; exact Nat.le_refl _), List.append_nil, rowsF_congr (f := f) (g := g) fun j hj => (hg j (by omega) (by omega)).symm]
    · have h2 : i * s + s ≤ n * s := by
        have : (i + 1) * s ≤ n * s := Nat.mul_le_mul_right s (by omega)
        rwa [Nat.succ_mul] at this
      rw [List.take_append_of_le_length (by omega), List.drop_append_of_le_length (by omega), hg n (by omega) (fun z => e z.symm), ← List.append_assoc]
      congr 1
      exact rowsF_put hf hv hi (by omega) fun j hj => hg j (by omega)
/-- What is known of a cell. -/
noncomputable def knV (e : List Int) (x : Nat) : List PV := [.int .i64 (val fN e x), .bool (decide (val fM e x = true)), .int .i64 (val fL e x), .int .i64 (val fS e x), .int .i64 (val fP e x)]
def knZ : List PV := [.int .i64 0, .bool false, .int .i64 0, .int .i64 0, .int .i64 0]
noncomputable def knC (e : List Int) (m x : Nat) : List PV := if m ≤ x then knV e x else knZ
theorem knC_len (e : List Int) (m : Nat) (x : Nat) : (knC e m x).length = 5 := by unfold knC; split <;> rfl
noncomputable def outC (e : List Int) (m : Nat) : List PV := rowsF (knC e m) fuelV
theorem outC_len (e : List Int) (m : Nat) : (outC e m).length = 640 := by
  unfold outC
  rw [rowsF_len (knC_len e m) fuelV, fuelV_eq]
theorem outC_at (e : List Int) {m x : Nat} (h : m ≤ x) (h2 : x < 128) : ((outC e m).drop (x * 5)).take 5 = knV e x := by
  unfold outC
  rw [rowsF_at (knC_len e m) (by rw [fuelV_eq]; exact h2)]
  unfold knC; rw [if_pos h]
theorem outC_put (e : List Int) {m : Nat} (h2 : m < 128) : putAt (outC e (m + 1)) (m * 5) (knV e m) = outC e m := by
  unfold outC
  refine rowsF_put (knC_len e (m + 1)) rfl (by unfold knC; rw [if_pos (Nat.le_refl _)]) (by rw [fuelV_eq]; exact h2) fun j _ hj => ?_
  unfold knC
  by_cases h : m ≤ j
  · rw [if_pos h, if_pos (by omega)]
  · rw [if_neg h, if_neg (by omega)]
noncomputable def allC (e : List Int) : List PV := outC e 0
theorem rowsF_const (v : List PV) : ∀ n, rowsF (fun _ => v) n = (List.replicate n v).flatten
  | 0 => rfl
  | n + 1 => by
    show rowsF (fun _ => v) n ++ v = _
    rw [rowsF_const v n, List.replicate_succ', List.flatten_append]; simp
theorem sub_iffI {c : Int} {x : Nat} (h : 0 ≤ c) : ((c.toNat &&& x : Nat) : Int) = c ↔ subN c.toNat x = true := by
  unfold subN
  constructor
  · intro e
    have : c.toNat &&& x = c.toNat := by omega
    rw [this]; exact Nat.beq_refl _
  · intro e
    have := Nat.eq_of_beq_eq_true e
    omega
theorem dcd_at {l : List Int} {j : Nat} (h : j < l.length) : (dcd l).getD j 0 = digT.getD (l.getD j 0).toNat 0 := by
  unfold dcd
  rw [List.getD_eq_getElem?_getD, List.getElem?_map, List.getElem?_eq_getElem h, show l.getD j 0 = l[j] by simp [h]]; rfl
theorem dcd_cells (l : List Int) : CellsP (dcd l) := fun j => by
  by_cases h : j < l.length
  · rw [dcd_at h]; exact digT_cell _
  · have : (dcd l).getD j 0 = 0 := by
      rw [List.getD_eq_getElem?_getD, List.getElem?_eq_none (by rw [dcd_len]; omega)]; rfl
    rw [this]; omega
theorem digT_inj {a b : Int} (ha : 0 ≤ a ∧ a ≤ 9) (hb : 0 ≤ b ∧ b ≤ 9) (h : digT.getD a.toNat 0 = digT.getD b.toNat 0) : a = b := by
  have h1 := digOf_at ha.1 ha.2 h
  have h2 := digOf_at hb.1 hb.2 rfl
  omega
theorem dcd_diff {l : List Int} (h : DigP l) : DiffP (dcd l) := fun i j hij hj e => by
  rw [dcd_len] at hj
  rw [dcd_at (show i < l.length by omega), dcd_at hj] at e
  have h1 := (ordK_at h.2 (j := i) (by omega)).1
  obtain ⟨h2, h3⟩ := ordK_at h.2 (j := j) hj
  have e2 := digT_inj h1 h2 e
  have h4 : ∀ k, i < k → hasK l (l.getD j 0) k = true := by
    intro k
    induction k with
    | zero => intro h; omega
    | succ k ih =>
      intro hk
      unfold hasK
      by_cases e3 : i = k
      · subst e3; rw [decide_eq_true e2, Bool.or_true]
      · rw [ih (by omega)]; rfl
  rw [h4 j hij] at h3; cases h3
theorem dig_ten {l : List Int} (h : DigP l) : l.length ≤ 10 := ord_len h.2
/-- A cell on the way to a goal. -/
def WayP (c : Int) (l : List Int) : Prop := DigP l ∧ (0 ≤ c ∧ c ≤ 127) ∧ onN (dcd l) c.toNat = true
instance (c : Int) (l : List Int) : Decidable (WayP c l) := by unfold WayP; infer_instance
theorem onN_dcd (l : List Int) (c : Nat) : onN (dcd l) c = onK (dcd l) c l.length := by unfold onN; rw [dcd_len]
theorem on_succN {l : List Int} {c : Nat} {i : Nat} (hi : i < l.length) (h0 : onK (dcd l) c i = false) (h : ¬ subN c (digT.getD (l.getD i 0).toNat 0).toNat = true) : onK (dcd l) c (i + 1) = false := by
  unfold onK
  rw [h0, dcd_at hi]
  simpa using h
theorem on_yes {l : List Int} {c : Nat} {i : Nat} (hi : i < l.length) (h : subN c (digT.getD (l.getD i 0).toNat 0).toNat = true) : onN (dcd l) c = true := by
  rw [onN_dcd, onK_iff]
  exact ⟨i, hi, by rw [dcd_at hi]; exact h⟩
def upI (c b : Int) : Int := ((upN c.toNat b.toNat : Nat) : Int)
theorem upI_le {c b : Int} (hc : 0 ≤ c ∧ c ≤ 127) (hb : 0 ≤ b ∧ b ≤ 6) : 0 ≤ upI c b ∧ upI c b ≤ 127 := by
  have := up_lt (c := c.toNat) (b := b.toNat) (by omega) (by omega)
  unfold upI; omega
def okI (l : List Int) (c b : Int) : Prop := bitN (litN (dcd l) c.toNat) b.toNat = true
instance (l : List Int) (c b : Int) : Decidable (okI l c b) := by unfold okI; infer_instance
theorem okI_iff {l : List Int} {c b : Int} (h0 : 0 ≤ c) : okI l c b ↔ upI c b ≠ c ∧ onN (dcd l) (upI c b).toNat = true := by
  unfold okI
  rw [lit_ok]
  unfold upI
  rw [Int.toNat_natCast]
  constructor
  · rintro ⟨h1, h2⟩; exact ⟨fun e => h1 (by omega), h2⟩
  · rintro ⟨h1, h2⟩; exact ⟨fun e => h1 (by omega), h2⟩
theorem bars_cut (b : Nat) (h : b < 7) : (([97, 98, 99, 100, 101, 102, 103] : List UInt8).drop b).take 1 = [UInt8.ofNat (97 + b)] := by
  have : b = 0 ∨ b = 1 ∨ b = 2 ∨ b = 3 ∨ b = 4 ∨ b = 5 ∨ b = 6 := by omega
  rcases this with rfl | rfl | rfl | rfl | rfl | rfl | rfl <;> rfl
def barQ (n k : Nat) : List UInt8 := ((List.range k).filter (fun j => bitN n j)).map fun j => UInt8.ofNat (97 + j)
theorem barQ_succ (n k : Nat) : barQ n (k + 1) = if bitN n k = true then barQ n k ++ [UInt8.ofNat (97 + k)] else barQ n k := by
  unfold barQ
  rw [List.range_succ, List.filter_append, List.map_append]
  by_cases h : bitN n k = true <;> simp [h]
theorem barQ_len (n k : Nat) : (barQ n k).length ≤ k := by
  have := List.length_filter_le (fun j => bitN n j) (List.range k)
  simpa [barQ] using this
theorem barQ_7 (n : Nat) : barQ n 7 = bars7 n := rfl
/-- What is known of a cell while its bars are gone through. -/
noncomputable def kM (e : List Int) (N : List Nat) : Bool := (N.map (val fM e)).any fun b => !b
noncomputable def kL (e : List Int) (N : List Nat) : Int := (N.map (val fL e)).foldl stL 0
noncomputable def kS (e : List Int) (N : List Nat) : Int × Bool := (N.map (val fS e)).foldl stS (0, false)
noncomputable def kP (e : List Int) (N : List Nat) : Int := sumP (N.map (val fP e))
noncomputable def kN (e : List Int) (N : List Nat) : List Int := N.map (val fN e)
theorem kM_app (e : List Int) (N : List Nat) (x : Nat) : kM e (N ++ [x]) = (kM e N || !val fM e x) := by simp [kM]
theorem kL_app (e : List Int) (N : List Nat) (x : Nat) : kL e (N ++ [x]) = stL (kL e N) (val fL e x) := by simp [kL]
theorem kS_app (e : List Int) (N : List Nat) (x : Nat) : kS e (N ++ [x]) = stS (kS e N) (val fS e x) := by simp [kS]
theorem kP_app (e : List Int) (N : List Nat) (x : Nat) : kP e (N ++ [x]) = kP e N + val fP e x := by simp [kP, sumP]
theorem kN_app (e : List Int) (N : List Nat) (x : Nat) : kN e (N ++ [x]) = kN e N ++ [val fN e x] := by simp [kN]
theorem kS_emp : ∀ (L : List Int) (a : Int × Bool), (L.foldl stS a).2 = (a.2 || !L.isEmpty)
  | [], a => by simp
  | x :: L, a => by
    show (L.foldl stS (stS a x)).2 = _
    rw [kS_emp L]
    simp [stS]
theorem kS_some (e : List Int) (N : List Nat) : (kS e N).2 = !N.isEmpty := by
  unfold kS
  rw [kS_emp]; cases N <;> rfl
theorem val_lt {e : List Int} (he : CellsP e) {N : List Nat} (hN : ∀ x ∈ N, x < 128) : (∀ x ∈ kN e N, 0 ≤ x ∧ x ≤ 128) ∧ (0 ≤ kL e N ∧ kL e N ≤ 8) ∧ (0 ≤ (kS e N).1 ∧ (kS e N).1 ≤ 8) ∧ (0 ≤ kP e N ∧ kP e N ≤ N.length * 823543) := by
  refine ⟨fun x hx => ?_, ?_, ?_, ?_⟩
  · obtain ⟨y, hy, rfl⟩ := List.mem_map.1 hx
    have := num_le he y (hN y hy); omega
  · refine fold_stL _ 0 (by omega) (by omega) fun x hx => ?_
    obtain ⟨y, hy, rfl⟩ := List.mem_map.1 hx
    have := long_le he y (hN y hy); omega
  · refine fold_stS _ (0, false) (by decide) (by decide) fun x hx => ?_
    obtain ⟨y, hy, rfl⟩ := List.mem_map.1 hx
    have := short_le he y (hN y hy); omega
  · have := sumP_le (L := N.map (val fP e)) (B := 823543) fun x hx => by
      obtain ⟨y, hy, rfl⟩ := List.mem_map.1 hx
      have h1 := plays_le he y (hN y hy)
      have h2 := pw7_le (k := 7 - cnt7 y) (by omega)
      omega
    rwa [List.length_map] at this
theorem cell_bd {e : List Int} (he : CellsP e) {x : Nat} (h : x < 128) : (0 ≤ val fN e x ∧ val fN e x ≤ 128) ∧ (0 ≤ val fL e x ∧ val fL e x ≤ 7) ∧ (0 ≤ val fS e x ∧ val fS e x ≤ 7) ∧ (0 ≤ val fP e x ∧ val fP e x ≤ 823543) := by
  have h1 := num_le he x h
  have h2 := long_le he x h
  have h3 := short_le he x h
  have h4 := plays_le he x h
  have h5 := pw7_le (k := 7 - cnt7 x) (by omega)
  omega
theorem knV_of {e : List Int} (he : CellsP e) {c : Nat} (hc : c < 128) {n : Int} (hn : n = mexL (kN e (nxK e c 7))) (N : List Nat) (hN : N = nxK e c 7) : knV e c = [.int .i64 n, .bool (decide ((N.isEmpty || kM e N) = true)), .int .i64 (kL e N), .int .i64 (kS e N).1, .int .i64 (if N.isEmpty then 1 else kP e N)] := by
  subst hN; subst hn
  have h0 : ∀ {α : Type} (f : Nat → α), ((nxK e c 7).map f).isEmpty = (nxK e c 7).isEmpty := fun f => by cases nxK e c 7 <;> rfl
  unfold knV
  rw [val_eq fN he hc, val_eq fM he hc, val_eq fL he hc, val_eq fS he hc, val_eq fP he hc]
  show [_, PV.bool (decide ((((nxK e c 7).map (val fM e)).isEmpty || _) = true)), _, _, PV.int .i64 (if ((nxK e c 7).map (val fP e)).isEmpty = true then 1 else _)] = _
  rw [h0, h0]; rfl
theorem zeros_rows (v : List PV) : ∀ k, zeros v k = rowsF (fun _ => v) k
  | 0 => by simp [zeros, rowsF]
  | k + 1 => by
    show _ = rowsF (fun _ => v) k ++ v
    rw [← zeros_rows v k]
    unfold zeros
    rw [Nat.succ_mul, List.range_add, List.map_append, List.map_map]
    congr 1
    apply List.ext_getElem (by simp)
    intro j h1 h2
    simp only [List.getElem_map, List.getElem_range, Function.comp_apply]
    rw [Nat.mul_comm k, Nat.mul_add_mod, Nat.mod_eq_of_lt h2]
    simp [h2]
theorem zeros_out (e : List Int) (n : Nat) (h : n = 128) : zeros [.int .i64 0, .bool false, .int .i64 0, .int .i64 0, .int .i64 0] n = outC e n := by
  rw [zeros_rows]
  unfold outC
  rw [show fuelV = n from fuelV_eq.trans h.symm]
  refine rowsF_congr fun i hi => ?_
  unfold knC
  rw [if_neg (by omega)]; rfl
theorem nx_okS {l : List Int} {c b : Int} (hb : 0 ≤ b) (h : okI l c b) : nxK (dcd l) c.toNat (b + 1).toNat = nxK (dcd l) c.toNat b.toNat ++ [(upI c b).toNat] := by
  rw [show (b + 1).toNat = b.toNat + 1 by omega, nxK_succ, if_pos (show bitN _ _ = true from h)]
  unfold upI
  rw [Int.toNat_natCast]
theorem nx_noS {l : List Int} {c b : Int} (hb : 0 ≤ b) (h : ¬ okI l c b) : nxK (dcd l) c.toNat (b + 1).toNat = nxK (dcd l) c.toNat b.toNat := by
  rw [show (b + 1).toNat = b.toNat + 1 by omega, nxK_succ, if_neg (show ¬ bitN _ _ = true from h)]
theorem up_gtI {l : List Int} {c b : Int} (h0 : 0 ≤ c) (h : okI l c b) : c < upI c b := by
  have h1 := ((okI_iff h0).1 h).1
  have h2 := up_ge c.toNat b.toNat
  unfold upI at h1 ⊢
  omega
theorem kM_yes {e : List Int} {N : List Nat} {x : Nat} (h : kM e N = true) : true = decide (kM e (N ++ [x]) = true) := by
  rw [kM_app, h]; rfl
theorem kM_no {e : List Int} {N : List Nat} {x : Nat} (h : ¬ kM e N = true) : decide (¬ val fM e x = true) = decide (kM e (N ++ [x]) = true) := by
  have h2 : kM e N = false := by simpa using h
  rw [kM_app, h2]
  cases val fM e x <;> rfl
theorem cS_1 {e : List Int} {N : List Nat} {x : Nat} (h : ¬ (kS e N).2 = true) : val fS e x + 1 = (kS e (N ++ [x])).1 := by
  have h2 : (kS e N).2 = false := by simpa using h
  rw [kS_app]
  unfold stS
  rw [if_pos (.inl h2)]
theorem cS_2 {e : List Int} {N : List Nat} {x : Nat} (h : val fS e x + 1 < (kS e N).1) : val fS e x + 1 = (kS e (N ++ [x])).1 := by
  rw [kS_app]
  unfold stS
  rw [if_pos (.inr h)]
theorem cS_3 {e : List Int} {N : List Nat} {x : Nat} (h0 : (kS e N).2 = true) (h : ¬ val fS e x + 1 < (kS e N).1) : (kS e N).1 = (kS e (N ++ [x])).1 := by
  rw [kS_app]
  unfold stS
  rw [if_neg (fun z => z.elim (fun z => by rw [h0] at z; cases z) h)]
noncomputable def kcL (e : List Int) (N : List Nat) : List PV := [.int .i64 0, .bool (decide (kM e N = true)), .int .i64 (kL e N), .int .i64 (kS e N).1, .int .i64 (kP e N)]
noncomputable def kdL (e : List Int) (N : List Nat) (n : Int) : List PV := [.int .i64 n, .bool (decide ((N.isEmpty || kM e N) = true)), .int .i64 (kL e N), .int .i64 (kS e N).1, .int .i64 (if N.isEmpty = true then 1 else kP e N)]
theorem kc_eq {e : List Int} {N N2 : List Nat} {x : Nat} {A : Bool} {C : Int} (hN : N2 = N ++ [x]) (hA : A = decide (kM e (N ++ [x]) = true)) (hC : C = (kS e (N ++ [x])).1) : [.int .i64 0, .bool A, .int .i64 (if val fL e x + 1 < kL e N then kL e N else val fL e x + 1), .int .i64 C, .int .i64 (kP e N + val fP e x)] = kcL e N2 := by
  subst hA; subst hC; subst hN
  unfold kcL
  rw [kL_app, kP_app]; rfl
theorem kd_emp {e : List Int} {N : List Nat} (h : ¬ (kS e N).2 = true) : [.int .i64 0, .bool true, .int .i64 (kL e N), .int .i64 (kS e N).1, .int .i64 1] = kdL e N ((0 : Nat) : Int) := by
  rw [kS_some] at h
  have h2 : N.isEmpty = true := by simpa using h
  unfold kdL
  rw [if_pos h2, h2]; rfl
theorem kd_some {e : List Int} {N : List Nat} (h : (kS e N).2 = true) : kcL e N = kdL e N ((0 : Nat) : Int) := by
  rw [kS_some] at h
  have h2 : N.isEmpty = false := by simpa using h
  unfold kdL kcL
  rw [h2]; rfl
theorem sm_app {e : List Int} {N N2 : List Nat} {x : Nat} (hN : N2 = N ++ [x]) : true = decide ((kS e N2).2 = true) := by
  subst hN
  rw [kS_app]; rfl
theorem kn_len {e : List Int} {N N2 : List Nat} {x : Nat} (hN : N2 = N ++ [x]) : (kN e N).length + 1 = (kN e N2).length := by
  subst hN
  rw [kN_app, List.length_append]; rfl
theorem kn_app {e : List Int} {N N2 : List Nat} {x : Nat} (hN : N2 = N ++ [x]) : (kN e N).map (PV.int .i64) ++ [PV.int .i64 (val fN e x)] = (kN e N2).map (PV.int .i64) := by
  subst hN
  rw [kN_app, List.map_append]; rfl
theorem kn_ln (e : List Int) (N : List Nat) : (kN e N).length = N.length := by simp [kN]
theorem out_fin {l : List Int} {c : Int} {n : Nat} {N : List Nat} (h0 : 0 ≤ c) (h1 : c ≤ 127) (hN : N = nxK (dcd l) c.toNat 7) (hn : (n : Int) = mexL (kN (dcd l) N)) : putAt (outC (dcd l) (c + 1).toNat) (c.toNat * 5) (kdL (dcd l) N n) = outC (dcd l) (c - 1 + 1).toNat := by
  have e := knV_of (dcd_cells l) (c := c.toNat) (by omega) (n := (n : Int)) (by rw [hn, hN]) N hN
  rw [show (c - 1 + 1).toNat = c.toNat by omega, ← outC_put (dcd l) (m := c.toNat) (by omega), e, show (c + 1).toNat = c.toNat + 1 by omega]; rfl
def fstI : List PV → Nat
  | .int _ n :: _ => n.toNat
  | _ => 0
theorem all_getJ (e : List Int) {x j : Nat} (h : x < 128) (hj : j < 5) : (allC e)[x * 5 + j]? = (knV e x)[j]? := by
  have h1 := outC_at e (m := 0) (Nat.zero_le x) h
  have h2 : ((((outC e 0).drop (x * 5)).take 5)[j]?) = (allC e)[x * 5 + j]? := by
    rw [List.getElem?_take, if_pos hj, List.getElem?_drop]; rfl
  rw [← h2, h1]
theorem all_n (e : List Int) {x : Nat} (h : x < 128) : (allC e)[x * 5 + 0]? = some (.int .i64 (val fN e x)) := all_getJ e h (by omega)
theorem all_m (e : List Int) {x : Nat} (h : x < 128) : (allC e)[x * 5 + 1]? = some (.bool (decide (val fM e x = true))) := all_getJ e h (by omega)
theorem all_l (e : List Int) {x : Nat} (h : x < 128) : (allC e)[x * 5 + 2]? = some (.int .i64 (val fL e x)) := all_getJ e h (by omega)
theorem all_s (e : List Int) {x : Nat} (h : x < 128) : (allC e)[x * 5 + 3]? = some (.int .i64 (val fS e x)) := all_getJ e h (by omega)
theorem all_p (e : List Int) {x : Nat} (h : x < 128) : (allC e)[x * 5 + 4]? = some (.int .i64 (val fP e x)) := all_getJ e h (by omega)
theorem all_dr (e : List Int) {x : Nat} (h : x < 128) : (allC e).drop (x * 5 + 0) = .int .i64 (val fN e x) :: (allC e).drop (x * 5 + 1) := by
  have h1 := all_n e h
  obtain ⟨h2, h3⟩ := List.getElem?_eq_some_iff.1 h1
  rw [List.drop_eq_getElem_cons h2, h3]
theorem all_len (e : List Int) : (allC e).length = 640 := outC_len e 0
/-- The race: who is to light a bar wins. -/
def shE (e : List Int) (c : Nat) : Bool := hasK e (c : Int) e.length
def fRc (e : List Int) (c : Nat) (L : List (Nat × Bool)) : Nat × Bool := (c, L.any fun p => shE e p.1 || !p.2)
noncomputable def rcE (e : List Int) (c : Nat) : Bool := (val (fRc e) e c).2
theorem rc_fst {e : List Int} (he : CellsP e) {c : Nat} (hc : c < 128) : (val (fRc e) e c).1 = c := by rw [val_eq (fRc e) he hc]; rfl
theorem rcE_eq {e : List Int} (he : CellsP e) {c : Nat} (hc : c < 128) : rcE e c = (nxK e c 7).any fun x => shE e x || !rcE e x := by
  unfold rcE
  rw [val_eq (fRc e) he hc]
  show ((nxK e c 7).map (val (fRc e) e)).any _ = _
  rw [List.any_map]
  have : ∀ x ∈ nxK e c 7, ((fun p : Nat × Bool => shE e p.1 || !p.2) ∘ val (fRc e) e) x = (shE e x || !(val (fRc e) e x).2) := fun x hx => by
    show (shE e (val (fRc e) e x).1 || _) = _
    rw [rc_fst he (nx_lt he hx)]
  rw [Bool.eq_iff_iff, List.any_eq_true, List.any_eq_true]
  constructor
  · rintro ⟨x, hx, h⟩; exact ⟨x, hx, by rw [← this x hx]; exact h⟩
  · rintro ⟨x, hx, h⟩; exact ⟨x, hx, by rw [this x hx]; exact h⟩
noncomputable def rcK (e : List Int) (c m : Nat) : Bool := (nxK e c m).any fun x => shE e x || !rcE e x
theorem rcK_mono {e : List Int} {c m : Nat} (h : rcK e c m = true) (hm : m ≤ 7) (he : CellsP e) (hc : c < 128) : rcE e c = true := by
  rw [rcE_eq he hc]
  obtain ⟨x, hx, h2⟩ := List.any_eq_true.1 h
  obtain ⟨b, h3, h4⟩ := (nxK_mem m).1 hx
  exact List.any_eq_true.2 ⟨x, (nxK_mem 7).2 ⟨b, by omega, h4⟩, h2⟩
theorem race_val {e : List Int} (he : CellsP e) : ∀ c, c < 128 → val (fR (shE e)) e c = (!shE e c && rcE e c) := down_ind he fun c hc ih => by
  rw [val_eq _ he hc, rcE_eq he hc]
  show (!shE e c && ((nxK e c 7).map (val (fR (shE e)) e)).any _) = _
  congr 1
  rw [List.any_map, Bool.eq_iff_iff, List.any_eq_true, List.any_eq_true]
  have : ∀ x ∈ nxK e c 7, ((fun b : Bool => !b) ∘ val (fR (shE e)) e) x = (shE e x || !rcE e x) := fun x hx => by
    show (!val (fR (shE e)) e x) = _
    rw [ih x hx]
    cases shE e x <;> cases rcE e x <;> rfl
  constructor
  · rintro ⟨x, hx, h⟩; exact ⟨x, hx, by rw [← this x hx]; exact h⟩
  · rintro ⟨x, hx, h⟩; exact ⟨x, hx, by rw [this x hx]; exact h⟩
theorem rcK_ok {l : List Int} {c b : Int} (hb : 0 ≤ b) (h : okI l c b) : rcK (dcd l) c.toNat (b + 1).toNat = (rcK (dcd l) c.toNat b.toNat || (shE (dcd l) (upI c b).toNat || !rcE (dcd l) (upI c b).toNat)) := by
  unfold rcK
  rw [nx_okS hb h]; simp
theorem rcK_no {l : List Int} {c b : Int} (hb : 0 ≤ b) (h : ¬ okI l c b) : rcK (dcd l) c.toNat (b + 1).toNat = rcK (dcd l) c.toNat b.toNat := by
  unfold rcK
  rw [nx_noS hb h]
theorem shE_dcd (l : List Int) (c : Int) (h : 0 ≤ c) : shE (dcd l) c.toNat = hasK (dcd l) c l.length := by
  unfold shE
  rw [Int.toNat_of_nonneg h, dcd_len]
/-- A cell at which the race may begin. -/
def RcP (c : Int) (l : List Int) : Prop := WayP c l ∧ ¬ shE (dcd l) c.toNat = true
instance (c : Int) (l : List Int) : Decidable (RcP c l) := by unfold RcP; infer_instance
/-- A row whose cells are all on the way. -/
def WroP (r l : List Int) : Prop := DigP l ∧ RowP r ∧ ∀ j, j < r.length → onN (dcd l) (r.getD j 0).toNat = true
instance (r l : List Int) : Decidable (WroP r l) := by
  unfold WroP
  have : Decidable (∀ j, j < r.length → onN (dcd l) (r.getD j 0).toNat = true) := Nat.decidableBallLT _ _
  infer_instance
/-- The numbers of a row's cells, taken together. -/
noncomputable def xrK (e r : List Int) : Nat → Int
  | 0 => 0
  | k + 1 => (((xrK e r k).toNat ^^^ (val fN e (r.getD k 0).toNat).toNat : Nat) : Int)
theorem xrK_le {e r : List Int} (he : CellsP e) (hr : ∀ j, j < r.length → 0 ≤ r.getD j 0 ∧ r.getD j 0 ≤ 127) : ∀ k, k ≤ r.length → 0 ≤ xrK e r k ∧ xrK e r k ≤ 255
  | 0, _ => by simp [xrK]
  | k + 1, h => by
    have h1 := xrK_le he hr k (by omega)
    have h2 := hr k (by omega)
    have h3 := num_le he (r.getD k 0).toNat (by omega)
    have h4 := @Nat.xor_lt_two_pow (xrK e r k).toNat (val fN e (r.getD k 0).toNat).toNat 8 (show _ < 256 by omega) (show _ < 256 by omega)
    unfold xrK
    omega


set_option maxRecDepth 4000 in
theorem spec_l11Goal (l : List Int) (hl : l.length ≤ 4611686018427387904) : PCalls Tryd.prog 69 [.sl l.length (l.map (.int .i64))] (· = [.val (.bool (decide (DigP l)))]) := by
  refine pcalls_of_code (n := 10) az Tryd.func69 (by kernel_rfl) rfl rfl (Nat.le_of_ble_eq_true rfl) (by intro t u h; simp [Tryd.f69] at h) ?_
  refine code_seq (fun K1 hK1 => ?_)
  refine code_region ?_
  refine list_cons rfl (op_q (q_assign rfl (by decide)) ?_)
  refine list_nil ?_
  refine hK1 _ ?_; clear hK1 K1
  refine code_seq (fun K2 hK2 => ?_)
  refine code_region ?_
  refine list_cons rfl (op_q (q_move rfl (by decide)) ?_)
  refine list_cons rfl (op_call _ (spec_l4Order _ (by omega)) rfl rfl (by decide) (by decide) (by decide) rfl ?_)
  rintro _ rfl
  refine list_cons rfl (op_q (q_move rfl (by decide)) ?_)
  refine list_guard_d rfl rfl rfl rfl (by decide) rfl (by decide) (fun h1 => ?_) (fun h1 => ?_)
  · simp only [Bool.false_eq_true, if_true, if_false, Decidable.not_not] at h1
    refine id (op_q (q_move rfl (by decide)) ?_)
    refine list_guard_y rfl rfl rfl rfl (by decide) rfl ?_
    refine id (op_q (q_len_sl Tryd.underlying24 rfl rfl (by decide)) ?_)
    refine list_guard_y rfl rfl rfl rfl (by decide) rfl ?_
    refine id (op_q (q_gt rfl rfl (by decide)) ?_)
    refine list_cons rfl (op_q (q_pick rfl rfl (by decide)) ?_)
    refine list_cons rfl (op_q (q_assign rfl (by decide)) ?_)
    refine list_nil ?_
    refine hK2 _ ?_; clear hK2 K2
    refine codeT.imp (σ' := [(0, _), (2, _)]) ?_ (imp_covers ⟨rfl, rfl, trivial⟩)
    refine code_ret ?_
    refine ends_ret (cs := []) rfl rfl rfl rfl trivial ?_
    first
      | (have h1 : ordK l l.length = true := by assumption
         congr 3
         exact decide_eq_decide.mpr ⟨fun e => ⟨by omega, h1⟩, fun e => by have := e.1; omega⟩)
      | (have h1 : ¬ ordK l l.length = true := by assumption
         rw [decide_eq_false (fun e : DigP l => h1 e.2)]; done)
  simp only [Bool.false_eq_true, if_true, if_false, Decidable.not_not] at h1
  refine list_guard_n rfl rfl rfl rfl (by decide) rfl ?_
  refine list_guard_n rfl rfl rfl rfl (by decide) rfl ?_
  refine list_cons rfl (op_q (q_pick rfl rfl (by decide)) ?_)
  refine list_cons rfl (op_q (q_assign rfl (by decide)) ?_)
  refine list_nil ?_
  refine hK2 _ ?_; clear hK2 K2
  refine code_ret ?_
  refine ends_ret (cs := []) rfl rfl rfl rfl trivial ?_
  first
    | (have h1 : ordK l l.length = true := by assumption
       congr 3
       exact decide_eq_decide.mpr ⟨fun e => ⟨by omega, h1⟩, fun e => by have := e.1; omega⟩)
    | (have h1 : ¬ ordK l l.length = true := by assumption
       rw [decide_eq_false (fun e : DigP l => h1 e.2)]; done)

set_option maxRecDepth 4000 in
theorem spec_l11Way (c : Int) (l : List Int) (hD : DigP l) (hc : 0 ≤ c ∧ c ≤ 127) : PCalls Tryd.prog 71 [.int .i64 c, .sl l.length (l.map (.int .i64))] (· = [.val (.bool (decide (onN (dcd l) c.toNat = true)))]) := by
  refine pcalls_of_code (n := 21) az Tryd.func71 (by kernel_rfl) rfl rfl (Nat.le_of_ble_eq_true rfl) (by intro t u h; simp [Tryd.f71] at h) ?_
  have hl10 := dig_ten hD
  refine code_seq (fun K1 hK1 => ?_)
  refine code_region ?_
  refine list_cons rfl (op_q (q_assign rfl (by decide)) ?_)
  refine list_nil ?_
  refine hK1 _ ?_; clear hK1 K1
  refine code_seq (fun K2 hK2 => ?_)
  refine code_seq (fun K3 hK3 => ?_)
  refine code_region ?_
  refine list_cons rfl (op_q (q_assign rfl (by decide)) ?_)
  refine list_nil ?_
  refine hK3 _ ?_; clear hK3 K3
  refine code_block ?_
  refine code_loop (X := Bool × Int) (fun x => [(0, .val (.int .i64 c)), (1, .par 1 (.sl l.length (l.map (.int .i64)))), (4, .val (.bool x.1)), (5, .val (.int .i64 x.2))]) (fun x => 0 ≤ x.2 ∧ x.2 ≤ l.length ∧ onK (dcd l) c.toNat x.2.toNat = false) (fun x => (l.length - x.2).toNat) (_, _) (imp_covers ⟨rfl, rfl, rfl, rfl, trivial⟩) ?_ ?_
  · (try dsimp only)
    exact ⟨by omega, by omega, rfl⟩
  · intro x hI
    obtain ⟨t4, i⟩ := x
    replace hI : 0 ≤ i ∧ i ≤ l.length ∧ onK (dcd l) c.toNat i.toNat = false := hI
    show codeT _ _ _ [(0, .val (.int .i64 c)), (1, .par 1 (.sl l.length (l.map (.int .i64)))), (4, .val (.bool t4)), (5, .val (.int .i64 i))] _
    obtain ⟨i1, i2, i3⟩ := hI
    have hdg := fun h => (ordK_at hD.2 (j := i.toNat) h).1
    have hdc := digT_cell (l.getD i.toNat 0).toNat
    refine code_seq (fun K4 hK4 => ?_)
    refine code_seq (fun K5 hK5 => ?_)
    refine code_region ?_
    refine list_cons rfl (op_q (q_move rfl (by decide)) ?_)
    refine list_cons rfl (op_q (q_move rfl (by decide)) ?_)
    refine list_cons rfl (op_q (q_len_sl Tryd.underlying24 rfl rfl (by decide)) ?_)
    refine list_cons rfl (op_q (q_lt rfl rfl (by decide)) ?_)
    refine list_nil ?_
    refine hK5 _ ?_; clear hK5 K5
    refine code_cond_d rfl (fun h1 => ?_) (fun h1 => ?_)
    · skip
      (try simp only [Decidable.not_not] at h1)
      refine code_skip ?_
      refine hK4 _ ?_; clear hK4 K4
      refine code_seq (fun K6 hK6 => ?_)
      refine code_block ?_
      refine code_seq (fun K7 hK7 => ?_)
      refine code_region ?_
      refine list_cons rfl (op_q (q_move rfl (by decide)) ?_)
      refine list_cons rfl (op_q (q_move rfl (by decide)) ?_)
      refine list_cons rfl (op_q (q_move rfl (by decide)) ?_)
      refine list_cons rfl (op_q (q_indexAddr_rd sl_24 rfl (.inl ⟨_, rfl, rfl⟩) rfl (by omega) (by omega) (by decide)) ?_)
      refine list_cons rfl (op_q (q_load_rd one_3 rfl (.inl ⟨_, (by first | rfl | exact congrArg (SV.rpar _) (drop_map1 _ 0 _ (by first | omega | (simp; omega)))), rfl⟩) (by decide)) ?_)
      refine list_cons rfl (op_call _ (spec_l2Digit _ (by have := hdg (by omega); omega) (by have := hdg (by omega); omega)) rfl rfl (by decide) (by decide) (by decide) rfl ?_)
      rintro _ rfl
      refine list_cons rfl (op_q (by first | exact q_andI rfl rfl (by decide) (by omega) (by omega) (by omega) (by omega) | exact q_ib rfl rfl rfl (by decide)) ?_)
      refine list_cons rfl (op_q (q_move rfl (by decide)) ?_)
      refine list_cons rfl (op_q (q_eq rfl rfl (by decide)) ?_)
      refine list_nil ?_
      refine hK7 _ ?_; clear hK7 K7
      refine codeT.imp (σ' := [(0, _), (1, _), (4, _), (5, _), (20, _)]) ?_ (imp_covers ⟨rfl, rfl, rfl, rfl, rfl, trivial⟩)
      refine code_cond_d rfl (fun h2 => ?_) (fun h2 => ?_)
      · skip
        (try simp only [Decidable.not_not] at h2)
        refine code_seq (fun K8 hK8 => ?_)
        refine code_region ?_
        refine list_cons rfl (op_q (q_assign rfl (by decide)) ?_)
        refine list_nil ?_
        refine hK8 _ ?_; clear hK8 K8
        refine code_ret ?_
        refine blk_r ?_
        refine then_r ?_; clear hK6 K6
        refine then_r ?_
        refine blk_r ?_
        refine then_r ?_; clear hK2 K2
        refine ends_ret (cs := []) rfl rfl rfl rfl trivial ?_
        first
          | (rw [decide_eq_true (on_yes (by omega) ((sub_iffI hc.1).1 h2))]; done)
          | (rw [decide_eq_false (by rw [onN_dcd, show l.length = i.toNat by omega, i3]; decide)]; done)
      (try simp only [Decidable.not_not] at h2)
      refine code_skip ?_
      refine blk_n ?_
      refine hK6 _ ?_; clear hK6 K6
      refine code_region ?_
      refine list_cons rfl (op_q (q_move rfl (by decide)) ?_)
      refine list_cons rfl (op_q (by first | exact q_addI rfl rfl (by decide) (by omega) (by omega) | exact q_ib rfl rfl rfl (by decide)) ?_)
      refine list_cons rfl (op_q (q_assign rfl (by decide)) ?_)
      refine list_nil ?_
      refine then_n ⟨(_, _), imp_covers ⟨rfl, rfl, rfl, rfl, trivial⟩, ?_, ?_⟩
      · (try dsimp only)
        exact ⟨by omega, by omega, by rw [show (i + 1).toNat = i.toNat + 1 by omega]; exact on_succN (by omega) i3 (fun e => h2 ((sub_iffI hc.1).2 e))⟩
      · (try dsimp only); omega
    (try simp only [Decidable.not_not] at h1)
    refine code_exit ?_
    refine then_x ?_; clear hK4 K4
    refine then_x ?_
    refine blk_hit ?_
    refine hK2 _ ?_; clear hK2 K2
    refine code_seq (fun K9 hK9 => ?_)
    refine code_region ?_
    refine list_cons rfl (op_q (q_assign rfl (by decide)) ?_)
    refine list_nil ?_
    refine hK9 _ ?_; clear hK9 K9
    refine code_ret ?_
    refine ends_ret (cs := []) rfl rfl rfl rfl trivial ?_
    first
      | (rw [decide_eq_true (on_yes (by omega) ((sub_iffI hc.1).1 h1))]; done)
      | (rw [decide_eq_false (by rw [onN_dcd, show l.length = i.toNat by omega, i3]; decide)]; done)

set_option maxRecDepth 4000 in
theorem spec_l11Good (c : Int) (l : List Int) (hl : l.length ≤ 4611686018427387904) : PCalls Tryd.prog 62 [.int .i64 c, .sl l.length (l.map (.int .i64))] (· = [.val (.bool (decide (WayP c l)))]) := by
  refine pcalls_of_code (n := 16) az Tryd.func62 (by kernel_rfl) rfl rfl (Nat.le_of_ble_eq_true rfl) (by intro t u h; simp [Tryd.f62] at h) ?_
  refine code_seq (fun K1 hK1 => ?_)
  refine code_region ?_
  refine list_cons rfl (op_q (q_assign rfl (by decide)) ?_)
  refine list_nil ?_
  refine hK1 _ ?_; clear hK1 K1
  refine code_seq (fun K2 hK2 => ?_)
  refine code_region ?_
  refine list_cons rfl (op_q (q_move rfl (by decide)) ?_)
  refine list_cons rfl (op_call _ (spec_l11Goal _ (by omega)) rfl rfl (by decide) (by decide) (by decide) rfl ?_)
  rintro _ rfl
  refine list_cons rfl (op_q (q_move rfl (by decide)) ?_)
  refine list_guard_d rfl rfl rfl rfl (by decide) rfl (by decide) (fun h1 => ?_) (fun h1 => ?_)
  · simp only [Bool.false_eq_true, if_true, if_false, Decidable.not_not] at h1
    refine id (op_q (q_move rfl (by decide)) ?_)
    refine list_guard_y rfl rfl rfl rfl (by decide) rfl ?_
    refine id (op_call _ (spec_l2Cell _) rfl rfl (by decide) (by decide) (by decide) rfl ?_)
    rintro _ rfl
    refine list_cons rfl (op_q (q_pick rfl rfl (by decide)) ?_)
    refine list_cons rfl (op_q (q_move rfl (by decide)) ?_)
    refine list_guard_d rfl rfl rfl rfl (by decide) rfl (by decide) (fun h2 => ?_) (fun h2 => ?_)
    · simp only [Bool.false_eq_true, if_true, if_false, Decidable.not_not] at h2
      refine id (op_q (q_move rfl (by decide)) ?_)
      refine list_guard_y rfl rfl rfl rfl (by decide) rfl ?_
      refine id (op_q (q_move rfl (by decide)) ?_)
      refine list_guard_y rfl rfl rfl rfl (by decide) rfl ?_
      refine id (op_call _ (spec_l11Way _ _ (by assumption) (by first | assumption | omega)) rfl rfl (by decide) (by decide) (by decide) rfl ?_)
      rintro _ rfl
      refine list_cons rfl (op_q (q_pick rfl rfl (by decide)) ?_)
      refine list_cons rfl (op_q (q_assign rfl (by decide)) ?_)
      refine list_nil ?_
      refine hK2 _ ?_; clear hK2 K2
      refine codeT.imp (σ' := [(0, _), (1, _), (4, _)]) ?_ (imp_covers ⟨rfl, rfl, rfl, trivial⟩)
      refine code_ret ?_
      refine ends_ret (cs := []) rfl rfl rfl rfl trivial ?_
      first
        | (congr 3
           exact decide_eq_decide.mpr ⟨fun e => ⟨by assumption, by assumption, e⟩, fun e => e.2.2⟩)
        | (rw [decide_eq_false (fun e : WayP c l => absurd e.1 (by assumption))]; done)
        | (rw [decide_eq_false (fun e : WayP c l => absurd e.2.1 (by assumption))]; done)
    simp only [Bool.false_eq_true, if_true, if_false, Decidable.not_not] at h2
    refine list_guard_nT rfl rfl rfl rfl (by decide) (by decide) ?_
    refine list_guard_nT rfl rfl rfl rfl (by decide) (by decide) ?_
    refine list_cons rfl (op_q (q_pick rfl rfl (by decide)) ?_)
    refine list_cons rfl (op_q (q_assign rfl (by decide)) ?_)
    refine list_nil ?_
    refine hK2 _ ?_; clear hK2 K2
    refine codeT.imp (σ' := [(0, _), (1, _), (4, _)]) ?_ (imp_covers ⟨rfl, rfl, rfl, trivial⟩)
    refine code_ret ?_
    refine ends_ret (cs := []) rfl rfl rfl rfl trivial ?_
    first
      | (congr 3
         exact decide_eq_decide.mpr ⟨fun e => ⟨by assumption, by assumption, e⟩, fun e => e.2.2⟩)
      | (rw [decide_eq_false (fun e : WayP c l => absurd e.1 (by assumption))]; done)
      | (rw [decide_eq_false (fun e : WayP c l => absurd e.2.1 (by assumption))]; done)
  simp only [Bool.false_eq_true, if_true, if_false, Decidable.not_not] at h1
  refine list_guard_nT rfl rfl rfl rfl (by decide) (by decide) ?_
  refine list_cons rfl (op_q (q_pick rfl rfl (by decide)) ?_)
  refine list_cons rfl (op_q (q_move rfl (by decide)) ?_)
  refine list_guard_nT rfl rfl rfl rfl (by decide) (by decide) ?_
  refine list_guard_nT rfl rfl rfl rfl (by decide) (by decide) ?_
  refine list_guard_nT rfl rfl rfl rfl (by decide) (by decide) ?_
  refine list_cons rfl (op_q (q_pick rfl rfl (by decide)) ?_)
  refine list_cons rfl (op_q (q_assign rfl (by decide)) ?_)
  refine list_nil ?_
  refine hK2 _ ?_; clear hK2 K2
  refine codeT.imp (σ' := [(0, _), (1, _), (4, _)]) ?_ (imp_covers ⟨rfl, rfl, rfl, trivial⟩)
  refine code_ret ?_
  refine ends_ret (cs := []) rfl rfl rfl rfl trivial ?_
  first
    | (congr 3
       exact decide_eq_decide.mpr ⟨fun e => ⟨by assumption, by assumption, e⟩, fun e => e.2.2⟩)
    | (rw [decide_eq_false (fun e : WayP c l => absurd e.1 (by assumption))]; done)
    | (rw [decide_eq_false (fun e : WayP c l => absurd e.2.1 (by assumption))]; done)

set_option maxRecDepth 4000 in
theorem spec_l11Next (c b : Int) (l : List Int) (hD : DigP l) (hc : 0 ≤ c ∧ c ≤ 127) (hb : 0 ≤ b ∧ b ≤ 6) : PCalls Tryd.prog 66 [.int .i64 c, .int .i64 b, .sl l.length (l.map (.int .i64))] (· = [.val (.int .i64 (upI c b)), .val (.bool (decide (okI l c b)))]) := by
  refine pcalls_of_code (n := 22) az Tryd.func66 (by kernel_rfl) rfl rfl (Nat.le_of_ble_eq_true rfl) (by intro t u h; simp [Tryd.f66] at h) ?_
  have hup := upI_le hc hb
  have hp2 := p2_le (k := b.toNat) (by omega)
  refine code_seq (fun K1 hK1 => ?_)
  refine code_region ?_
  refine list_cons rfl (op_q (q_assign rfl (by decide)) ?_)
  refine list_cons rfl (op_q (q_assign rfl (by decide)) ?_)
  refine list_nil ?_
  refine hK1 _ ?_; clear hK1 K1
  refine code_seq (fun K2 hK2 => ?_)
  refine code_region ?_
  refine list_cons rfl (op_q (q_move rfl (by decide)) ?_)
  refine list_cons rfl (op_q (q_move rfl (by decide)) ?_)
  refine list_cons rfl (op_q (by first | exact q_shl1 rfl rfl (by decide) (by omega) (by omega) | exact q_shlI rfl rfl (by decide) (by omega) (by omega) (by omega) | exact q_shl rfl rfl (by omega) (by decide)) ?_)
  refine list_cons rfl (op_q (by first | exact q_orI rfl rfl (by decide) (by omega) (by omega) (by omega) (by omega) | exact q_ib rfl rfl rfl (by decide)) ?_)
  refine list_cons rfl (op_q (q_assign rfl (by decide)) ?_)
  refine list_nil ?_
  refine hK2 _ ?_; clear hK2 K2
  refine code_seq (fun K3 hK3 => ?_)
  refine code_region ?_
  refine list_cons rfl (op_q (q_move rfl (by decide)) ?_)
  refine list_cons rfl (op_q (q_move rfl (by decide)) ?_)
  refine list_cons rfl (op_q (q_move rfl (by decide)) ?_)
  refine list_cons rfl (op_q (q_ne rfl rfl (by decide)) ?_)
  refine list_cons rfl (op_q (q_move rfl (by decide)) ?_)
  refine list_guard_d rfl rfl rfl rfl (by decide) rfl (by decide) (fun h1 => ?_) (fun h1 => ?_)
  · simp only [Bool.false_eq_true, if_true, if_false, Decidable.not_not] at h1
    refine id (op_q (q_move rfl (by decide)) ?_)
    refine list_guard_y rfl rfl rfl rfl (by decide) rfl ?_
    refine id (op_q (q_move rfl (by decide)) ?_)
    refine list_guard_y rfl rfl rfl rfl (by decide) rfl ?_
    refine id (op_call _ (spec_l11Way (upI c b) l hD (by assumption)) rfl rfl (by decide) (by decide) (by decide) rfl ?_)
    rintro _ rfl
    refine list_cons rfl (op_q (q_pick rfl rfl (by decide)) ?_)
    refine list_cons rfl (op_q (q_assign rfl (by decide)) ?_)
    refine list_cons rfl (op_q (q_assign rfl (by decide)) ?_)
    refine list_nil ?_
    refine hK3 _ ?_; clear hK3 K3
    refine codeT.imp (σ' := [(0, _), (1, _), (2, _), (6, _), (7, _), (8, _)]) ?_ (imp_covers ⟨rfl, rfl, rfl, rfl, rfl, rfl, trivial⟩)
    refine code_ret ?_
    refine ends_ret (cs := []) rfl rfl rfl rfl trivial ?_
    first
      | (have e : upI c b ≠ c := by assumption
         refine congrArg (fun z : Bool => [SV.val (.int .i64 (upI c b)), SV.val (.bool z)]) ?_
         exact decide_eq_decide.mpr ⟨fun z => (okI_iff hc.1).2 ⟨e, z⟩, fun z => ((okI_iff hc.1).1 z).2⟩)
      | (have e : upI c b = c := by assumption
         rw [decide_eq_false (fun z : okI l c b => ((okI_iff hc.1).1 z).1 e)]; rfl)
  simp only [Bool.false_eq_true, if_true, if_false, Decidable.not_not] at h1
  refine list_guard_nT rfl rfl rfl rfl (by decide) (by decide) ?_
  refine list_guard_nT rfl rfl rfl rfl (by decide) (by decide) ?_
  refine list_cons rfl (op_q (q_pick rfl rfl (by decide)) ?_)
  refine list_cons rfl (op_q (q_assign rfl (by decide)) ?_)
  refine list_cons rfl (op_q (q_assign rfl (by decide)) ?_)
  refine list_nil ?_
  refine hK3 _ ?_; clear hK3 K3
  refine codeT.imp (σ' := [(0, _), (1, _), (2, _), (6, _), (7, _), (8, _)]) ?_ (imp_covers ⟨rfl, rfl, rfl, rfl, rfl, rfl, trivial⟩)
  refine code_ret ?_
  refine ends_ret (cs := []) rfl rfl rfl rfl trivial ?_
  first
    | (have e : upI c b ≠ c := by assumption
       refine congrArg (fun z : Bool => [SV.val (.int .i64 (upI c b)), SV.val (.bool z)]) ?_
       exact decide_eq_decide.mpr ⟨fun z => (okI_iff hc.1).2 ⟨e, z⟩, fun z => ((okI_iff hc.1).1 z).2⟩)
    | (have e : upI c b = c := by assumption
       rw [decide_eq_false (fun z : okI l c b => ((okI_iff hc.1).1 z).1 e)]; rfl)

set_option maxRecDepth 8000 in
set_option maxHeartbeats 4000000 in
theorem spec_l11All (l : List Int) (hD : DigP l) : PCalls Tryd.prog 57 [.sl l.length (l.map (.int .i64))] (· = [.own 0 67 5 128 (allC (dcd l))]) := by
  refine pcalls_of_code (n := 93) az Tryd.func57 (by kernel_rfl) rfl rfl (Nat.le_of_ble_eq_true rfl) (by intro t u h; simp [Tryd.f57] at h) ?_
  have hl10 := dig_ten hD
  have he := dcd_cells l
  refine code_seq (fun K1 hK1 => ?_)
  refine code_region ?_
  refine list_cons rfl (op_q (q_assign rfl (by decide)) ?_)
  refine list_nil ?_
  refine hK1 _ ?_; clear hK1 K1
  refine code_seq (fun K2 hK2 => ?_)
  refine code_region ?_
  refine list_cons rfl (op_make (m := 128) sl_61 rfl rfl (by omega) (by decide) (by decide) rfl ?_)
  refine list_cons rfl (op_q (q_assign rfl (by decide)) ?_)
  refine list_nil ?_
  refine hK2 _ ?_; clear hK2 K2
  refine codeT.imp (σ' := [(0, .par 0 _), (2, .val _), (3, .own 12 67 5 128 (outC (dcd l) 128))]) ?_ (imp_covers ⟨rfl, rfl, (congrArg (fun z => some (SV.own 12 67 5 128 z)) (zeros_out (dcd l) 128 rfl)), trivial⟩)
  refine code_seq (fun K3 hK3 => ?_)
  refine code_seq (fun K4 hK4 => ?_)
  refine code_region ?_
  refine list_cons rfl (op_q (q_assign rfl (by decide)) ?_)
  refine list_nil ?_
  refine hK4 _ ?_; clear hK4 K4
  refine code_block ?_
  refine code_loop (X := PV × Nat × List PV × Int) (fun x => [(0, .par 0 (.sl l.length (l.map (.int .i64)))), (2, .val x.1), (3, .own 12 67 5 x.2.1 x.2.2.1), (4, .val (.int .i64 x.2.2.2))]) (fun x => -1 ≤ x.2.2.2 ∧ x.2.2.2 ≤ 127 ∧ x.2.1 = 128 ∧ x.2.2.1 = outC (dcd l) (x.2.2.2 + 1).toNat) (fun x => (x.2.2.2 + 1).toNat) (_, _, _, _) (imp_covers ⟨rfl, rfl, rfl, rfl, trivial⟩) ?_ ?_
  · (try dsimp only)
    exact ⟨by omega, by omega, rfl, rfl⟩
  · intro x hI
    obtain ⟨t2_p, out_n, out_c, c⟩ := x
    replace hI : -1 ≤ c ∧ c ≤ 127 ∧ out_n = 128 ∧ out_c = outC (dcd l) (c + 1).toNat := hI
    show codeT _ _ _ [(0, .par 0 (.sl l.length (l.map (.int .i64)))), (2, .val t2_p), (3, .own 12 67 5 out_n out_c), (4, .val (.int .i64 c))] _
    obtain ⟨i1, i2, rfl, rfl⟩ := hI
    refine code_seq (fun K5 hK5 => ?_)
    refine code_seq (fun K6 hK6 => ?_)
    refine code_region ?_
    refine list_cons rfl (op_q (q_move rfl (by decide)) ?_)
    refine list_cons rfl (op_q (q_ge rfl rfl (by decide)) ?_)
    refine list_nil ?_
    refine hK6 _ ?_; clear hK6 K6
    refine code_cond_d rfl (fun h1 => ?_) (fun h1 => ?_)
    · skip
      (try simp only [Decidable.not_not] at h1)
      refine code_skip ?_
      refine hK5 _ ?_; clear hK5 K5
      refine code_seq (fun K7 hK7 => ?_)
      refine code_block ?_
      refine code_seq (fun K8 hK8 => ?_)
      refine code_region ?_
      refine list_cons rfl (op_q (q_build bt_67 (parts := []) rfl rfl (by decide)) ?_)
      refine list_cons rfl (op_buildSlice sl_24 (parts := []) rfl rfl rfl (by decide) (by decide) (by decide) rfl ?_)
      refine list_cons rfl (op_alloc zt_67 (by decide) (by decide) rfl ?_)
      refine list_cons rfl (op_store (agg_67).2 5 [5] (by intro t ht; simp only [List.mem_cons, List.not_mem_nil, or_false] at ht; subst ht; rfl) (.inr ⟨rfl, _, rfl⟩) rfl rfl rfl rfl (by first | rfl | exact flat_part (flat_map _ (fun _ => rfl) _) _ _ | exact flat_map _ (fun _ => rfl) _) (by first | rfl | rfl) (by first | exact Nat.le_of_ble_eq_true rfl | (rw [outC_len]; omega) | (show _ ≤ (outC _ _).length; rw [outC_len]; omega) | (simp; omega)) (by decide) rfl ?_)
      refine list_cons rfl (op_q (q_assign rfl (by decide)) ?_)
      refine list_cons rfl (op_q (q_assign rfl (by decide)) ?_)
      refine list_nil ?_
      refine hK8 _ ?_; clear hK8 K8
      refine codeT.imp (σ' := [(0, .par 0 _), (2, .val _), (3, .own 12 67 5 _ _), (4, .val (.int .i64 _)), (5, .box 5 67 [_, _, _, _, _]), (6, .own 18 3 1 _ _), (7, .val (.bool _))]) ?_ (imp_covers ⟨rfl, rfl, rfl, rfl, rfl, rfl, rfl, trivial⟩)
      refine code_seq (fun K9 hK9 => ?_)
      refine code_seq (fun K10 hK10 => ?_)
      refine code_region ?_
      refine list_cons rfl (op_q (q_assign rfl (by decide)) ?_)
      refine list_nil ?_
      refine hK10 _ ?_; clear hK10 K10
      refine code_block ?_
      refine code_loop (X := PV × List PV × Nat × List PV × Bool × Int) (fun x => [(0, .par 0 (.sl l.length (l.map (.int .i64)))), (2, .val x.1), (3, .own 12 67 5 128 (outC (dcd l) (c + 1).toNat)), (4, .val (.int .i64 (c))), (5, .box 5 67 x.2.1), (6, .own 18 3 1 x.2.2.1 x.2.2.2.1), (7, .val (.bool x.2.2.2.2.1)), (8, .val (.int .i64 x.2.2.2.2.2))]) (fun x => 0 ≤ x.2.2.2.2.2 ∧ x.2.2.2.2.2 ≤ 7 ∧ x.2.1 = kcL (dcd l) (nxK (dcd l) c.toNat x.2.2.2.2.2.toNat) ∧ x.2.2.2.2.1 = decide ((kS (dcd l) (nxK (dcd l) c.toNat x.2.2.2.2.2.toNat)).2 = true) ∧ x.2.2.1 = (kN (dcd l) (nxK (dcd l) c.toNat x.2.2.2.2.2.toNat)).length ∧ x.2.2.2.1 = (kN (dcd l) (nxK (dcd l) c.toNat x.2.2.2.2.2.toNat)).map (.int .i64)) (fun x => (7 - x.2.2.2.2.2).toNat) (_, _, _, _, _, _) (imp_covers ⟨rfl, rfl, rfl, rfl, rfl, rfl, rfl, rfl, trivial⟩) ?_ ?_
      · (try dsimp only)
        exact ⟨by omega, by omega, rfl, rfl, rfl, rfl⟩
      · intro x hI
        obtain ⟨t2_p, k_c, numbers_n, numbers_c, sm, bar⟩ := x
        replace hI : 0 ≤ bar ∧ bar ≤ 7 ∧ k_c = kcL (dcd l) (nxK (dcd l) c.toNat bar.toNat) ∧ sm = decide ((kS (dcd l) (nxK (dcd l) c.toNat bar.toNat)).2 = true) ∧ numbers_n = (kN (dcd l) (nxK (dcd l) c.toNat bar.toNat)).length ∧ numbers_c = (kN (dcd l) (nxK (dcd l) c.toNat bar.toNat)).map (.int .i64) := hI
        show codeT _ _ _ [(0, .par 0 (.sl l.length (l.map (.int .i64)))), (2, .val t2_p), (3, .own 12 67 5 128 (outC (dcd l) (c + 1).toNat)), (4, .val (.int .i64 (c))), (5, .box 5 67 k_c), (6, .own 18 3 1 numbers_n numbers_c), (7, .val (.bool sm)), (8, .val (.int .i64 bar))] _
        obtain ⟨j1, j2, rfl, rfl, rfl, rfl⟩ := hI
        have hnl := nxK_len (dcd l) c.toNat bar.toNat
        have hvl := val_lt he (N := (nxK (dcd l) c.toNat bar.toNat)) (fun x hx => nx_lt he hx)
        have hup := fun h : bar < 7 => upI_le (c := c) (b := bar) (by omega) (by omega)
        have hgt := fun h : okI l c bar => up_gtI (by omega) h
        have hcb := fun h : bar < 7 => cell_bd he (x := (upI c bar).toNat) (by have := hup h; omega)
        have hkl := kn_ln (dcd l) (nxK (dcd l) c.toNat bar.toNat)
        refine code_seq (fun K11 hK11 => ?_)
        refine code_seq (fun K12 hK12 => ?_)
        refine code_region ?_
        refine list_cons rfl (op_q (q_move rfl (by decide)) ?_)
        refine list_cons rfl (op_q (q_lt rfl rfl (by decide)) ?_)
        refine list_nil ?_
        refine hK12 _ ?_; clear hK12 K12
        refine code_cond_d rfl (fun h2 => ?_) (fun h2 => ?_)
        · skip
          (try simp only [Decidable.not_not] at h2)
          refine code_skip ?_
          refine hK11 _ ?_; clear hK11 K11
          refine code_seq (fun K13 hK13 => ?_)
          refine code_block ?_
          refine code_seq (fun K14 hK14 => ?_)
          refine code_region ?_
          refine list_cons rfl (op_q (q_move rfl (by decide)) ?_)
          refine list_cons rfl (op_q (q_move rfl (by decide)) ?_)
          refine list_cons rfl (op_q (q_move rfl (by decide)) ?_)
          refine list_cons rfl (op_call _ (spec_l11Next c bar l hD (by omega) (by omega)) rfl rfl (by decide) (by decide) (by decide) rfl ?_)
          rintro _ rfl
          refine list_cons rfl (op_q (q_move rfl (by decide)) ?_)
          refine list_cons rfl (op_q (q_extract rfl rfl (by decide)) ?_)
          refine list_cons rfl (op_q (q_extract rfl rfl (by decide)) ?_)
          refine list_cons rfl (op_q (q_assign rfl (by decide)) ?_)
          refine list_cons rfl (op_q (q_assign rfl (by decide)) ?_)
          refine list_nil ?_
          refine hK14 _ ?_; clear hK14 K14
          refine codeT.imp (σ' := [(0, .par 0 _), (2, .val _), (3, .own 12 67 5 _ _), (4, .val (.int .i64 _)), (5, .box 5 67 _), (6, .own 18 3 1 _ _), (7, .val (.bool _)), (8, .val (.int .i64 _)), (9, .val (.int .i64 _)), (10, .val (.bool _))]) ?_ (imp_covers ⟨rfl, rfl, rfl, rfl, rfl, rfl, rfl, rfl, rfl, rfl, trivial⟩)
          refine code_seq (fun K15 hK15 => ?_)
          refine code_seq (fun K16 hK16 => ?_)
          refine code_region ?_
          refine list_cons rfl (op_q (q_move rfl (by decide)) ?_)
          refine list_cons rfl (op_q (by first | exact q_notd rfl (by decide) | exact q_not rfl (by decide)) ?_)
          refine list_nil ?_
          refine hK16 _ ?_; clear hK16 K16
          refine code_cond_d rfl (fun h3 => ?_) (fun h3 => ?_)
          · skip
            (try simp only [Decidable.not_not] at h3)
            refine code_exit ?_
            refine then_x ?_; clear hK15 K15
            refine blk_hit ?_
            refine hK13 _ ?_; clear hK13 K13
            refine code_region ?_
            refine list_cons rfl (op_q (q_move rfl (by decide)) ?_)
            refine list_cons rfl (op_q (by first | exact q_addI rfl rfl (by decide) (by omega) (by omega) | exact q_ib rfl rfl rfl (by decide)) ?_)
            refine list_cons rfl (op_q (q_assign rfl (by decide)) ?_)
            refine list_nil ?_
            refine then_n ⟨(_, _, _, _, _, _), imp_covers ⟨rfl, rfl, rfl, rfl, rfl, rfl, rfl, rfl, trivial⟩, ?_, ?_⟩
            · (try dsimp only)
              have hN := nx_noS (l := l) (c := c) (b := bar) (by omega) (by assumption)
              refine ⟨by omega, by omega, ?_, ?_, ?_, ?_⟩
              · exact (congrArg (fun N => kcL (dcd l) N) hN).symm
              · exact (congrArg (fun N => decide ((kS (dcd l) N).2 = true)) hN).symm
              · exact (congrArg (fun N => (kN (dcd l) N).length) hN).symm
              · exact (congrArg (fun N => (kN (dcd l) N).map (PV.int .i64)) hN).symm
            · (try dsimp only); omega
          (try simp only [Decidable.not_not] at h3)
          refine code_skip ?_
          refine hK15 _ ?_; clear hK15 K15
          refine code_seq (fun K17 hK17 => ?_)
          refine code_region ?_
          refine list_cons rfl (op_q (q_move rfl (by decide)) ?_)
          refine list_cons rfl (op_q (q_move rfl (by decide)) ?_)
          refine list_cons rfl (op_q (q_indexAddr_own sl_61 rfl rfl (by omega) (by omega) (by decide)) ?_)
          refine list_cons rfl (op_q (q_cast (q_load_agg agg_67 3 (.inl rfl) rfl rfl (by first | rfl | (rw [outC_len]; have := hup (by omega); omega)) (by first | rfl | (rw [outC_at (dcd l) (m := (c + 1).toNat) (x := (upI c bar).toNat) (by have := hgt (by assumption); omega) (by omega)]; rfl)) (by decide)) (congrArg (fun z => SV.val (PV.agg z)) (outC_at (dcd l) (m := (c + 1).toNat) (x := (upI c bar).toNat) (by have := hgt (by assumption); omega) (by omega)))) ?_)
          refine list_cons rfl (op_alloc zt_67 (by decide) (by decide) rfl ?_)
          refine list_cons rfl (op_store (agg_67).2 11 [11] (by intro t ht; simp only [List.mem_cons, List.not_mem_nil, or_false] at ht; subst ht; rfl) (.inr ⟨rfl, _, rfl⟩) rfl rfl rfl rfl (by first | rfl | exact flat_part (flat_map _ (fun _ => rfl) _) _ _ | exact flat_map _ (fun _ => rfl) _) (by first | rfl | rfl) (by first | exact Nat.le_of_ble_eq_true rfl | (rw [outC_len]; omega) | (show _ ≤ (outC _ _).length; rw [outC_len]; omega) | (simp; omega)) (by decide) rfl ?_)
          refine list_nil ?_
          refine hK17 _ ?_; clear hK17 K17
          refine codeT.imp (σ' := [(0, .par 0 _), (2, .val _), (3, .own 12 67 5 _ _), (4, .val (.int .i64 _)), (5, .box 5 67 _), (6, .own 18 3 1 _ _), (7, .val (.bool _)), (8, .val (.int .i64 _)), (9, .val (.int .i64 _)), (10, .val (.bool _)), (11, .box 11 67 _)]) ?_ (imp_covers ⟨rfl, rfl, rfl, rfl, rfl, rfl, rfl, rfl, rfl, rfl, rfl, trivial⟩)
          refine code_seq (fun K18 hK18 => ?_)
          refine code_region ?_
          refine list_cons rfl (op_q (q_move rfl (by decide)) ?_)
          refine list_cons rfl (op_q (q_fieldAddr fi_67_0 rfl rfl (by decide)) ?_)
          refine list_cons rfl (op_q (q_load one_3 11 rfl rfl rfl (by first | rfl | exact get_map1 _ 0 _ (by first | omega | (simp; omega))) (by decide)) ?_)
          refine list_cons rfl (op_buildSlice sl_24 (parts := [(0, .tmp 38)]) rfl rfl rfl (by decide) (by decide) (by decide) rfl ?_)
          refine list_cons rfl (op_append_gen sl_24 (l := 18) (.inl rfl) rfl rfl (l2 := none) (.inl ⟨rfl, (by first | rfl | exact flat_map _ (fun _ => rfl) _)⟩) (by first | rfl | (simp; done) | (simp; omega)) (by omega) (by decide) (by decide) (by decide) ?_)
          refine list_cons rfl (op_q (q_assign rfl (by decide)) ?_)
          refine list_nil ?_
          refine hK18 _ ?_; clear hK18 K18
          refine codeT.imp (σ' := [(0, .par 0 _), (2, .val _), (3, .own 12 67 5 _ _), (4, .val (.int .i64 _)), (5, .box 5 67 _), (6, .own 18 3 1 _ _), (7, .val (.bool _)), (8, .val (.int .i64 _)), (9, .val (.int .i64 _)), (10, .val (.bool _)), (11, .box 11 67 _)]) ?_ (imp_covers ⟨rfl, rfl, rfl, rfl, rfl, rfl, rfl, rfl, rfl, rfl, rfl, trivial⟩)
          refine code_seq (fun K19 hK19 => ?_)
          refine code_region ?_
          refine list_cons rfl (op_q (q_fieldAddr fi_67_1 rfl rfl (by decide)) ?_)
          refine list_cons rfl (op_q (q_load one_4 5 rfl rfl rfl (by first | rfl | exact get_map1 _ false _ (by first | omega | (simp; omega))) (by decide)) ?_)
          refine list_cons rfl (op_q (q_move rfl (by decide)) ?_)
          refine list_guard_d rfl rfl rfl rfl (by decide) rfl (by decide) (fun h4 => ?_) (fun h4 => ?_)
          · simp only [Bool.false_eq_true, if_true, if_false, Decidable.not_not] at h4
            refine id (op_q (q_fieldAddr fi_67_1 rfl rfl (by decide)) ?_)
            refine list_guard_y rfl rfl rfl rfl (by decide) rfl ?_
            refine id (op_q (q_load one_4 11 rfl rfl rfl (by first | rfl | exact get_map1 _ false _ (by first | omega | (simp; omega))) (by decide)) ?_)
            refine list_guard_y rfl rfl rfl rfl (by decide) rfl ?_
            refine id (op_q (by first | exact q_notd rfl (by decide) | exact q_not rfl (by decide)) ?_)
            refine list_cons rfl (op_q (q_pick rfl rfl (by decide)) ?_)
            refine list_cons rfl (op_q (q_fieldAddr fi_67_1 rfl rfl (by decide)) ?_)
            refine list_cons rfl (op_store (one_4).2 5 [5] (by intro t ht; simp only [List.mem_cons, List.not_mem_nil, or_false] at ht; subst ht; rfl) (.inl rfl) rfl rfl rfl rfl rfl rfl (by first | exact Nat.le_of_ble_eq_true rfl | (rw [outC_len]; omega) | (show _ ≤ (outC _ _).length; rw [outC_len]; omega) | (simp; omega)) (by decide) rfl ?_)
            refine list_nil ?_
            refine hK19 _ ?_; clear hK19 K19
            refine codeT.imp (σ' := [(0, .par 0 _), (2, .val _), (3, .own 12 67 5 _ _), (4, .val (.int .i64 _)), (5, .box 5 67 [_, _, _, _, _]), (6, .own 18 3 1 _ _), (7, .val (.bool _)), (8, .val (.int .i64 _)), (9, .val (.int .i64 _)), (10, .val (.bool _)), (11, .box 11 67 _)]) ?_ (imp_covers ⟨rfl, rfl, rfl, rfl, rfl, rfl, rfl, rfl, rfl, rfl, rfl, trivial⟩)
            refine code_seq (fun K20 hK20 => ?_)
            refine code_region ?_
            refine list_cons rfl (op_q (q_fieldAddr fi_67_2 rfl rfl (by decide)) ?_)
            refine list_cons rfl (op_q (q_load one_3 5 rfl rfl rfl (by first | rfl | exact get_map1 _ 0 _ (by first | omega | (simp; omega))) (by decide)) ?_)
            refine list_cons rfl (op_q (q_fieldAddr fi_67_2 rfl rfl (by decide)) ?_)
            refine list_cons rfl (op_q (q_load one_3 11 rfl rfl rfl (by first | rfl | exact get_map1 _ 0 _ (by first | omega | (simp; omega))) (by decide)) ?_)
            refine list_cons rfl (op_q (by first | exact q_addI rfl rfl (by decide) (by omega) (by omega) | exact q_ib rfl rfl rfl (by decide)) ?_)
            refine list_cons rfl (op_call _ (spec_l1Most _ _) rfl rfl (by decide) (by decide) (by decide) rfl ?_)
            rintro _ rfl
            refine list_cons rfl (op_q (q_fieldAddr fi_67_2 rfl rfl (by decide)) ?_)
            refine list_cons rfl (op_store (one_3).2 5 [5] (by intro t ht; simp only [List.mem_cons, List.not_mem_nil, or_false] at ht; subst ht; rfl) (.inl rfl) rfl rfl rfl rfl rfl rfl (by first | exact Nat.le_of_ble_eq_true rfl | (rw [outC_len]; omega) | (show _ ≤ (outC _ _).length; rw [outC_len]; omega) | (simp; omega)) (by decide) rfl ?_)
            refine list_nil ?_
            refine hK20 _ ?_; clear hK20 K20
            refine codeT.imp (σ' := [(0, .par 0 _), (2, .val _), (3, .own 12 67 5 _ _), (4, .val (.int .i64 _)), (5, .box 5 67 [_, _, _, _, _]), (6, .own 18 3 1 _ _), (7, .val (.bool _)), (8, .val (.int .i64 _)), (9, .val (.int .i64 _)), (10, .val (.bool _)), (11, .box 11 67 _)]) ?_ (imp_covers ⟨rfl, rfl, rfl, rfl, rfl, rfl, rfl, rfl, rfl, rfl, rfl, trivial⟩)
            refine code_seq (fun K21 hK21 => ?_)
            refine code_seq (fun K22 hK22 => ?_)
            refine code_region ?_
            refine list_cons rfl (op_q (q_move rfl (by decide)) ?_)
            refine list_cons rfl (op_q (by first | exact q_notd rfl (by decide) | exact q_not rfl (by decide)) ?_)
            refine list_cons rfl (op_q (q_move rfl (by decide)) ?_)
            refine list_guard_d rfl rfl rfl rfl (by decide) rfl (by decide) (fun h5 => ?_) (fun h5 => ?_)
            · simp only [Bool.false_eq_true, if_true, if_false, Decidable.not_not] at h5
              refine id (op_q (q_fieldAddr fi_67_3 rfl rfl (by decide)) ?_)
              refine list_guard_y rfl rfl rfl rfl (by decide) rfl ?_
              refine id (op_q (q_load one_3 11 rfl rfl rfl (by first | rfl | exact get_map1 _ 0 _ (by first | omega | (simp; omega))) (by decide)) ?_)
              refine list_guard_y rfl rfl rfl rfl (by decide) rfl ?_
              refine id (op_q (by first | exact q_addI rfl rfl (by decide) (by omega) (by omega) | exact q_ib rfl rfl rfl (by decide)) ?_)
              refine list_guard_y rfl rfl rfl rfl (by decide) rfl ?_
              refine id (op_q (q_fieldAddr fi_67_3 rfl rfl (by decide)) ?_)
              refine list_guard_y rfl rfl rfl rfl (by decide) rfl ?_
              refine id (op_q (q_load one_3 5 rfl rfl rfl (by first | rfl | exact get_map1 _ 0 _ (by first | omega | (simp; omega))) (by decide)) ?_)
              refine list_guard_y rfl rfl rfl rfl (by decide) rfl ?_
              refine id (op_q (q_lt rfl rfl (by decide)) ?_)
              refine list_cons rfl (op_q (q_pick rfl rfl (by decide)) ?_)
              refine list_nil ?_
              refine hK22 _ ?_; clear hK22 K22
              refine codeT.imp (σ' := [(0, .par 0 _), (2, .val _), (3, .own 12 67 5 _ _), (4, .val (.int .i64 _)), (5, .box 5 67 _), (6, .own 18 3 1 _ _), (7, .val (.bool _)), (8, .val (.int .i64 _)), (9, .val (.int .i64 _)), (10, .val (.bool _)), (11, .box 11 67 _), (65, .val (.bool _))]) ?_ (imp_covers ⟨rfl, rfl, rfl, rfl, rfl, rfl, rfl, rfl, rfl, rfl, rfl, rfl, trivial⟩)
              refine code_cond_d rfl (fun h6 => ?_) (fun h6 => ?_)
              · skip
                (try simp only [Decidable.not_not] at h6)
                refine code_region ?_
                refine list_cons rfl (op_q (q_fieldAddr fi_67_3 rfl rfl (by decide)) ?_)
                refine list_cons rfl (op_q (q_load one_3 11 rfl rfl rfl (by first | rfl | exact get_map1 _ 0 _ (by first | omega | (simp; omega))) (by decide)) ?_)
                refine list_cons rfl (op_q (by first | exact q_addI rfl rfl (by decide) (by omega) (by omega) | exact q_ib rfl rfl rfl (by decide)) ?_)
                refine list_cons rfl (op_q (q_fieldAddr fi_67_3 rfl rfl (by decide)) ?_)
                refine list_cons rfl (op_store (one_3).2 5 [5] (by intro t ht; simp only [List.mem_cons, List.not_mem_nil, or_false] at ht; subst ht; rfl) (.inl rfl) rfl rfl rfl rfl rfl rfl (by first | exact Nat.le_of_ble_eq_true rfl | (rw [outC_len]; omega) | (show _ ≤ (outC _ _).length; rw [outC_len]; omega) | (simp; omega)) (by decide) rfl ?_)
                refine list_nil ?_
                refine hK21 _ ?_; clear hK21 K21
                refine codeT.imp (σ' := [(0, .par 0 _), (2, .val _), (3, .own 12 67 5 _ _), (4, .val (.int .i64 _)), (5, .box 5 67 [_, _, _, _, _]), (6, .own 18 3 1 _ _), (7, .val (.bool _)), (8, .val (.int .i64 _)), (9, .val (.int .i64 _)), (10, .val (.bool _)), (11, .box 11 67 _)]) ?_ (imp_covers ⟨rfl, rfl, rfl, rfl, rfl, rfl, rfl, rfl, rfl, rfl, rfl, trivial⟩)
                refine code_seq (fun K23 hK23 => ?_)
                refine code_region ?_
                refine list_cons rfl (op_q (q_fieldAddr fi_67_4 rfl rfl (by decide)) ?_)
                refine list_cons rfl (op_q (q_load one_3 5 rfl rfl rfl (by first | rfl | exact get_map1 _ 0 _ (by first | omega | (simp; omega))) (by decide)) ?_)
                refine list_cons rfl (op_q (q_fieldAddr fi_67_4 rfl rfl (by decide)) ?_)
                refine list_cons rfl (op_q (q_load one_3 11 rfl rfl rfl (by first | rfl | exact get_map1 _ 0 _ (by first | omega | (simp; omega))) (by decide)) ?_)
                refine list_cons rfl (op_q (by first | exact q_addI rfl rfl (by decide) (by omega) (by omega) | exact q_ib rfl rfl rfl (by decide)) ?_)
                refine list_cons rfl (op_q (q_fieldAddr fi_67_4 rfl rfl (by decide)) ?_)
                refine list_cons rfl (op_store (one_3).2 5 [5] (by intro t ht; simp only [List.mem_cons, List.not_mem_nil, or_false] at ht; subst ht; rfl) (.inl rfl) rfl rfl rfl rfl rfl rfl (by first | exact Nat.le_of_ble_eq_true rfl | (rw [outC_len]; omega) | (show _ ≤ (outC _ _).length; rw [outC_len]; omega) | (simp; omega)) (by decide) rfl ?_)
                refine list_nil ?_
                refine hK23 _ ?_; clear hK23 K23
                refine codeT.imp (σ' := [(0, .par 0 _), (2, .val _), (3, .own 12 67 5 _ _), (4, .val (.int .i64 _)), (5, .box 5 67 [_, _, _, _, _]), (6, .own 18 3 1 _ _), (7, .val (.bool _)), (8, .val (.int .i64 _)), (9, .val (.int .i64 _)), (10, .val (.bool _)), (11, .box 11 67 _)]) ?_ (imp_covers ⟨rfl, rfl, rfl, rfl, rfl, rfl, rfl, rfl, rfl, rfl, rfl, trivial⟩)
                refine code_region ?_
                refine list_cons rfl (op_q (q_assign rfl (by decide)) ?_)
                refine list_nil ?_
                refine blk_n ?_
                refine hK13 _ ?_; clear hK13 K13
                refine code_region ?_
                refine list_cons rfl (op_q (q_move rfl (by decide)) ?_)
                refine list_cons rfl (op_q (by first | exact q_addI rfl rfl (by decide) (by omega) (by omega) | exact q_ib rfl rfl rfl (by decide)) ?_)
                refine list_cons rfl (op_q (q_assign rfl (by decide)) ?_)
                refine list_nil ?_
                refine then_n ⟨(_, _, _, _, _, _), imp_covers ⟨rfl, rfl, rfl, rfl, rfl, rfl, rfl, rfl, trivial⟩, ?_, ?_⟩
                · (try dsimp only)
                  have hN := nx_okS (l := l) (c := c) (b := bar) (by omega) (by assumption)
                  refine ⟨by omega, by omega, ?_, sm_app hN, kn_len hN, kn_app hN⟩
                  exact kc_eq hN (by first | exact kM_yes (by assumption) | exact kM_no (by assumption)) (by first | exact cS_2 (by assumption) | exact cS_3 (by assumption) (by assumption) | exact cS_1 (by assumption))
                · (try dsimp only); omega
              (try simp only [Decidable.not_not] at h6)
              refine code_skip ?_
              refine hK21 _ ?_; clear hK21 K21
              refine code_seq (fun K24 hK24 => ?_)
              refine code_region ?_
              refine list_cons rfl (op_q (q_fieldAddr fi_67_4 rfl rfl (by decide)) ?_)
              refine list_cons rfl (op_q (q_load one_3 5 rfl rfl rfl (by first | rfl | exact get_map1 _ 0 _ (by first | omega | (simp; omega))) (by decide)) ?_)
              refine list_cons rfl (op_q (q_fieldAddr fi_67_4 rfl rfl (by decide)) ?_)
              refine list_cons rfl (op_q (q_load one_3 11 rfl rfl rfl (by first | rfl | exact get_map1 _ 0 _ (by first | omega | (simp; omega))) (by decide)) ?_)
              refine list_cons rfl (op_q (by first | exact q_addI rfl rfl (by decide) (by omega) (by omega) | exact q_ib rfl rfl rfl (by decide)) ?_)
              refine list_cons rfl (op_q (q_fieldAddr fi_67_4 rfl rfl (by decide)) ?_)
              refine list_cons rfl (op_store (one_3).2 5 [5] (by intro t ht; simp only [List.mem_cons, List.not_mem_nil, or_false] at ht; subst ht; rfl) (.inl rfl) rfl rfl rfl rfl rfl rfl (by first | exact Nat.le_of_ble_eq_true rfl | (rw [outC_len]; omega) | (show _ ≤ (outC _ _).length; rw [outC_len]; omega) | (simp; omega)) (by decide) rfl ?_)
              refine list_nil ?_
              refine hK24 _ ?_; clear hK24 K24
              refine codeT.imp (σ' := [(0, .par 0 _), (2, .val _), (3, .own 12 67 5 _ _), (4, .val (.int .i64 _)), (5, .box 5 67 [_, _, _, _, _]), (6, .own 18 3 1 _ _), (7, .val (.bool _)), (8, .val (.int .i64 _)), (9, .val (.int .i64 _)), (10, .val (.bool _)), (11, .box 11 67 _)]) ?_ (imp_covers ⟨rfl, rfl, rfl, rfl, rfl, rfl, rfl, rfl, rfl, rfl, rfl, trivial⟩)
              refine code_region ?_
              refine list_cons rfl (op_q (q_assign rfl (by decide)) ?_)
              refine list_nil ?_
              refine blk_n ?_
              refine hK13 _ ?_; clear hK13 K13
              refine code_region ?_
              refine list_cons rfl (op_q (q_move rfl (by decide)) ?_)
              refine list_cons rfl (op_q (by first | exact q_addI rfl rfl (by decide) (by omega) (by omega) | exact q_ib rfl rfl rfl (by decide)) ?_)
              refine list_cons rfl (op_q (q_assign rfl (by decide)) ?_)
              refine list_nil ?_
              refine then_n ⟨(_, _, _, _, _, _), imp_covers ⟨rfl, rfl, rfl, rfl, rfl, rfl, rfl, rfl, trivial⟩, ?_, ?_⟩
              · (try dsimp only)
                have hN := nx_okS (l := l) (c := c) (b := bar) (by omega) (by assumption)
                refine ⟨by omega, by omega, ?_, sm_app hN, kn_len hN, kn_app hN⟩
                exact kc_eq hN (by first | exact kM_yes (by assumption) | exact kM_no (by assumption)) (by first | exact cS_2 (by assumption) | exact cS_3 (by assumption) (by assumption) | exact cS_1 (by assumption))
              · (try dsimp only); omega
            simp only [Bool.false_eq_true, if_true, if_false, Decidable.not_not] at h5
            refine list_guard_n rfl rfl rfl rfl (by decide) rfl ?_
            refine list_guard_n rfl rfl rfl rfl (by decide) rfl ?_
            refine list_guard_n rfl rfl rfl rfl (by decide) rfl ?_
            refine list_guard_n rfl rfl rfl rfl (by decide) rfl ?_
            refine list_guard_n rfl rfl rfl rfl (by decide) rfl ?_
            refine list_cons rfl (op_q (q_pick rfl rfl (by decide)) ?_)
            refine list_nil ?_
            refine hK22 _ ?_; clear hK22 K22
            refine code_cond_t rfl ?_
            refine code_region ?_
            refine list_cons rfl (op_q (q_fieldAddr fi_67_3 rfl rfl (by decide)) ?_)
            refine list_cons rfl (op_q (q_load one_3 11 rfl rfl rfl (by first | rfl | exact get_map1 _ 0 _ (by first | omega | (simp; omega))) (by decide)) ?_)
            refine list_cons rfl (op_q (by first | exact q_addI rfl rfl (by decide) (by omega) (by omega) | exact q_ib rfl rfl rfl (by decide)) ?_)
            refine list_cons rfl (op_q (q_fieldAddr fi_67_3 rfl rfl (by decide)) ?_)
            refine list_cons rfl (op_store (one_3).2 5 [5] (by intro t ht; simp only [List.mem_cons, List.not_mem_nil, or_false] at ht; subst ht; rfl) (.inl rfl) rfl rfl rfl rfl rfl rfl (by first | exact Nat.le_of_ble_eq_true rfl | (rw [outC_len]; omega) | (show _ ≤ (outC _ _).length; rw [outC_len]; omega) | (simp; omega)) (by decide) rfl ?_)
            refine list_nil ?_
            refine hK21 _ ?_; clear hK21 K21
            refine codeT.imp (σ' := [(0, .par 0 _), (2, .val _), (3, .own 12 67 5 _ _), (4, .val (.int .i64 _)), (5, .box 5 67 [_, _, _, _, _]), (6, .own 18 3 1 _ _), (7, .val (.bool _)), (8, .val (.int .i64 _)), (9, .val (.int .i64 _)), (10, .val (.bool _)), (11, .box 11 67 _)]) ?_ (imp_covers ⟨rfl, rfl, rfl, rfl, rfl, rfl, rfl, rfl, rfl, rfl, rfl, trivial⟩)
            refine code_seq (fun K25 hK25 => ?_)
            refine code_region ?_
            refine list_cons rfl (op_q (q_fieldAddr fi_67_4 rfl rfl (by decide)) ?_)
            refine list_cons rfl (op_q (q_load one_3 5 rfl rfl rfl (by first | rfl | exact get_map1 _ 0 _ (by first | omega | (simp; omega))) (by decide)) ?_)
            refine list_cons rfl (op_q (q_fieldAddr fi_67_4 rfl rfl (by decide)) ?_)
            refine list_cons rfl (op_q (q_load one_3 11 rfl rfl rfl (by first | rfl | exact get_map1 _ 0 _ (by first | omega | (simp; omega))) (by decide)) ?_)
            refine list_cons rfl (op_q (by first | exact q_addI rfl rfl (by decide) (by omega) (by omega) | exact q_ib rfl rfl rfl (by decide)) ?_)
            refine list_cons rfl (op_q (q_fieldAddr fi_67_4 rfl rfl (by decide)) ?_)
            refine list_cons rfl (op_store (one_3).2 5 [5] (by intro t ht; simp only [List.mem_cons, List.not_mem_nil, or_false] at ht; subst ht; rfl) (.inl rfl) rfl rfl rfl rfl rfl rfl (by first | exact Nat.le_of_ble_eq_true rfl | (rw [outC_len]; omega) | (show _ ≤ (outC _ _).length; rw [outC_len]; omega) | (simp; omega)) (by decide) rfl ?_)
            refine list_nil ?_
            refine hK25 _ ?_; clear hK25 K25
            refine codeT.imp (σ' := [(0, .par 0 _), (2, .val _), (3, .own 12 67 5 _ _), (4, .val (.int .i64 _)), (5, .box 5 67 [_, _, _, _, _]), (6, .own 18 3 1 _ _), (7, .val (.bool _)), (8, .val (.int .i64 _)), (9, .val (.int .i64 _)), (10, .val (.bool _)), (11, .box 11 67 _)]) ?_ (imp_covers ⟨rfl, rfl, rfl, rfl, rfl, rfl, rfl, rfl, rfl, rfl, rfl, trivial⟩)
            refine code_region ?_
            refine list_cons rfl (op_q (q_assign rfl (by decide)) ?_)
            refine list_nil ?_
            refine blk_n ?_
            refine hK13 _ ?_; clear hK13 K13
            refine code_region ?_
            refine list_cons rfl (op_q (q_move rfl (by decide)) ?_)
            refine list_cons rfl (op_q (by first | exact q_addI rfl rfl (by decide) (by omega) (by omega) | exact q_ib rfl rfl rfl (by decide)) ?_)
            refine list_cons rfl (op_q (q_assign rfl (by decide)) ?_)
            refine list_nil ?_
            refine then_n ⟨(_, _, _, _, _, _), imp_covers ⟨rfl, rfl, rfl, rfl, rfl, rfl, rfl, rfl, trivial⟩, ?_, ?_⟩
            · (try dsimp only)
              have hN := nx_okS (l := l) (c := c) (b := bar) (by omega) (by assumption)
              refine ⟨by omega, by omega, ?_, sm_app hN, kn_len hN, kn_app hN⟩
              exact kc_eq hN (by first | exact kM_yes (by assumption) | exact kM_no (by assumption)) (by first | exact cS_2 (by assumption) | exact cS_3 (by assumption) (by assumption) | exact cS_1 (by assumption))
            · (try dsimp only); omega
          simp only [Bool.false_eq_true, if_true, if_false, Decidable.not_not] at h4
          refine list_guard_n rfl rfl rfl rfl (by decide) rfl ?_
          refine list_guard_n rfl rfl rfl rfl (by decide) rfl ?_
          refine list_cons rfl (op_q (q_pick rfl rfl (by decide)) ?_)
          refine list_cons rfl (op_q (q_fieldAddr fi_67_1 rfl rfl (by decide)) ?_)
          refine list_cons rfl (op_store (one_4).2 5 [5] (by intro t ht; simp only [List.mem_cons, List.not_mem_nil, or_false] at ht; subst ht; rfl) (.inl rfl) rfl rfl rfl rfl rfl rfl (by first | exact Nat.le_of_ble_eq_true rfl | (rw [outC_len]; omega) | (show _ ≤ (outC _ _).length; rw [outC_len]; omega) | (simp; omega)) (by decide) rfl ?_)
          refine list_nil ?_
          refine hK19 _ ?_; clear hK19 K19
          refine codeT.imp (σ' := [(0, .par 0 _), (2, .val _), (3, .own 12 67 5 _ _), (4, .val (.int .i64 _)), (5, .box 5 67 _), (6, .own 18 3 1 _ _), (7, .val (.bool _)), (8, .val (.int .i64 _)), (9, .val (.int .i64 _)), (10, .val (.bool _)), (11, .box 11 67 _)]) ?_ (imp_covers ⟨rfl, rfl, rfl, rfl, rfl, rfl, rfl, rfl, rfl, rfl, rfl, trivial⟩)
          refine code_seq (fun K26 hK26 => ?_)
          refine code_region ?_
          refine list_cons rfl (op_q (q_fieldAddr fi_67_2 rfl rfl (by decide)) ?_)
          refine list_cons rfl (op_q (q_load one_3 5 rfl rfl rfl (by first | rfl | exact get_map1 _ 0 _ (by first | omega | (simp; omega))) (by decide)) ?_)
          refine list_cons rfl (op_q (q_fieldAddr fi_67_2 rfl rfl (by decide)) ?_)
          refine list_cons rfl (op_q (q_load one_3 11 rfl rfl rfl (by first | rfl | exact get_map1 _ 0 _ (by first | omega | (simp; omega))) (by decide)) ?_)
          refine list_cons rfl (op_q (by first | exact q_addI rfl rfl (by decide) (by omega) (by omega) | exact q_ib rfl rfl rfl (by decide)) ?_)
          refine list_cons rfl (op_call _ (spec_l1Most _ _) rfl rfl (by decide) (by decide) (by decide) rfl ?_)
          rintro _ rfl
          refine list_cons rfl (op_q (q_fieldAddr fi_67_2 rfl rfl (by decide)) ?_)
          refine list_cons rfl (op_store (one_3).2 5 [5] (by intro t ht; simp only [List.mem_cons, List.not_mem_nil, or_false] at ht; subst ht; rfl) (.inl rfl) rfl rfl rfl rfl rfl rfl (by first | exact Nat.le_of_ble_eq_true rfl | (rw [outC_len]; omega) | (show _ ≤ (outC _ _).length; rw [outC_len]; omega) | (simp; omega)) (by decide) rfl ?_)
          refine list_nil ?_
          refine hK26 _ ?_; clear hK26 K26
          refine codeT.imp (σ' := [(0, .par 0 _), (2, .val _), (3, .own 12 67 5 _ _), (4, .val (.int .i64 _)), (5, .box 5 67 [_, _, _, _, _]), (6, .own 18 3 1 _ _), (7, .val (.bool _)), (8, .val (.int .i64 _)), (9, .val (.int .i64 _)), (10, .val (.bool _)), (11, .box 11 67 _)]) ?_ (imp_covers ⟨rfl, rfl, rfl, rfl, rfl, rfl, rfl, rfl, rfl, rfl, rfl, trivial⟩)
          refine code_seq (fun K27 hK27 => ?_)
          refine code_seq (fun K28 hK28 => ?_)
          refine code_region ?_
          refine list_cons rfl (op_q (q_move rfl (by decide)) ?_)
          refine list_cons rfl (op_q (by first | exact q_notd rfl (by decide) | exact q_not rfl (by decide)) ?_)
          refine list_cons rfl (op_q (q_move rfl (by decide)) ?_)
          refine list_guard_d rfl rfl rfl rfl (by decide) rfl (by decide) (fun h7 => ?_) (fun h7 => ?_)
          · simp only [Bool.false_eq_true, if_true, if_false, Decidable.not_not] at h7
            refine id (op_q (q_fieldAddr fi_67_3 rfl rfl (by decide)) ?_)
            refine list_guard_y rfl rfl rfl rfl (by decide) rfl ?_
            refine id (op_q (q_load one_3 11 rfl rfl rfl (by first | rfl | exact get_map1 _ 0 _ (by first | omega | (simp; omega))) (by decide)) ?_)
            refine list_guard_y rfl rfl rfl rfl (by decide) rfl ?_
            refine id (op_q (by first | exact q_addI rfl rfl (by decide) (by omega) (by omega) | exact q_ib rfl rfl rfl (by decide)) ?_)
            refine list_guard_y rfl rfl rfl rfl (by decide) rfl ?_
            refine id (op_q (q_fieldAddr fi_67_3 rfl rfl (by decide)) ?_)
            refine list_guard_y rfl rfl rfl rfl (by decide) rfl ?_
            refine id (op_q (q_load one_3 5 rfl rfl rfl (by first | rfl | exact get_map1 _ 0 _ (by first | omega | (simp; omega))) (by decide)) ?_)
            refine list_guard_y rfl rfl rfl rfl (by decide) rfl ?_
            refine id (op_q (q_lt rfl rfl (by decide)) ?_)
            refine list_cons rfl (op_q (q_pick rfl rfl (by decide)) ?_)
            refine list_nil ?_
            refine hK28 _ ?_; clear hK28 K28
            refine codeT.imp (σ' := [(0, .par 0 _), (2, .val _), (3, .own 12 67 5 _ _), (4, .val (.int .i64 _)), (5, .box 5 67 _), (6, .own 18 3 1 _ _), (7, .val (.bool _)), (8, .val (.int .i64 _)), (9, .val (.int .i64 _)), (10, .val (.bool _)), (11, .box 11 67 _), (65, .val (.bool _))]) ?_ (imp_covers ⟨rfl, rfl, rfl, rfl, rfl, rfl, rfl, rfl, rfl, rfl, rfl, rfl, trivial⟩)
            refine code_cond_d rfl (fun h8 => ?_) (fun h8 => ?_)
            · skip
              (try simp only [Decidable.not_not] at h8)
              refine code_region ?_
              refine list_cons rfl (op_q (q_fieldAddr fi_67_3 rfl rfl (by decide)) ?_)
              refine list_cons rfl (op_q (q_load one_3 11 rfl rfl rfl (by first | rfl | exact get_map1 _ 0 _ (by first | omega | (simp; omega))) (by decide)) ?_)
              refine list_cons rfl (op_q (by first | exact q_addI rfl rfl (by decide) (by omega) (by omega) | exact q_ib rfl rfl rfl (by decide)) ?_)
              refine list_cons rfl (op_q (q_fieldAddr fi_67_3 rfl rfl (by decide)) ?_)
              refine list_cons rfl (op_store (one_3).2 5 [5] (by intro t ht; simp only [List.mem_cons, List.not_mem_nil, or_false] at ht; subst ht; rfl) (.inl rfl) rfl rfl rfl rfl rfl rfl (by first | exact Nat.le_of_ble_eq_true rfl | (rw [outC_len]; omega) | (show _ ≤ (outC _ _).length; rw [outC_len]; omega) | (simp; omega)) (by decide) rfl ?_)
              refine list_nil ?_
              refine hK27 _ ?_; clear hK27 K27
              refine codeT.imp (σ' := [(0, .par 0 _), (2, .val _), (3, .own 12 67 5 _ _), (4, .val (.int .i64 _)), (5, .box 5 67 [_, _, _, _, _]), (6, .own 18 3 1 _ _), (7, .val (.bool _)), (8, .val (.int .i64 _)), (9, .val (.int .i64 _)), (10, .val (.bool _)), (11, .box 11 67 _)]) ?_ (imp_covers ⟨rfl, rfl, rfl, rfl, rfl, rfl, rfl, rfl, rfl, rfl, rfl, trivial⟩)
              refine code_seq (fun K29 hK29 => ?_)
              refine code_region ?_
              refine list_cons rfl (op_q (q_fieldAddr fi_67_4 rfl rfl (by decide)) ?_)
              refine list_cons rfl (op_q (q_load one_3 5 rfl rfl rfl (by first | rfl | exact get_map1 _ 0 _ (by first | omega | (simp; omega))) (by decide)) ?_)
              refine list_cons rfl (op_q (q_fieldAddr fi_67_4 rfl rfl (by decide)) ?_)
              refine list_cons rfl (op_q (q_load one_3 11 rfl rfl rfl (by first | rfl | exact get_map1 _ 0 _ (by first | omega | (simp; omega))) (by decide)) ?_)
              refine list_cons rfl (op_q (by first | exact q_addI rfl rfl (by decide) (by omega) (by omega) | exact q_ib rfl rfl rfl (by decide)) ?_)
              refine list_cons rfl (op_q (q_fieldAddr fi_67_4 rfl rfl (by decide)) ?_)
              refine list_cons rfl (op_store (one_3).2 5 [5] (by intro t ht; simp only [List.mem_cons, List.not_mem_nil, or_false] at ht; subst ht; rfl) (.inl rfl) rfl rfl rfl rfl rfl rfl (by first | exact Nat.le_of_ble_eq_true rfl | (rw [outC_len]; omega) | (show _ ≤ (outC _ _).length; rw [outC_len]; omega) | (simp; omega)) (by decide) rfl ?_)
              refine list_nil ?_
              refine hK29 _ ?_; clear hK29 K29
              refine codeT.imp (σ' := [(0, .par 0 _), (2, .val _), (3, .own 12 67 5 _ _), (4, .val (.int .i64 _)), (5, .box 5 67 [_, _, _, _, _]), (6, .own 18 3 1 _ _), (7, .val (.bool _)), (8, .val (.int .i64 _)), (9, .val (.int .i64 _)), (10, .val (.bool _)), (11, .box 11 67 _)]) ?_ (imp_covers ⟨rfl, rfl, rfl, rfl, rfl, rfl, rfl, rfl, rfl, rfl, rfl, trivial⟩)
              refine code_region ?_
              refine list_cons rfl (op_q (q_assign rfl (by decide)) ?_)
              refine list_nil ?_
              refine blk_n ?_
              refine hK13 _ ?_; clear hK13 K13
              refine code_region ?_
              refine list_cons rfl (op_q (q_move rfl (by decide)) ?_)
              refine list_cons rfl (op_q (by first | exact q_addI rfl rfl (by decide) (by omega) (by omega) | exact q_ib rfl rfl rfl (by decide)) ?_)
              refine list_cons rfl (op_q (q_assign rfl (by decide)) ?_)
              refine list_nil ?_
              refine then_n ⟨(_, _, _, _, _, _), imp_covers ⟨rfl, rfl, rfl, rfl, rfl, rfl, rfl, rfl, trivial⟩, ?_, ?_⟩
              · (try dsimp only)
                have hN := nx_okS (l := l) (c := c) (b := bar) (by omega) (by assumption)
                refine ⟨by omega, by omega, ?_, sm_app hN, kn_len hN, kn_app hN⟩
                exact kc_eq hN (by first | exact kM_yes (by assumption) | exact kM_no (by assumption)) (by first | exact cS_2 (by assumption) | exact cS_3 (by assumption) (by assumption) | exact cS_1 (by assumption))
              · (try dsimp only); omega
            (try simp only [Decidable.not_not] at h8)
            refine code_skip ?_
            refine hK27 _ ?_; clear hK27 K27
            refine code_seq (fun K30 hK30 => ?_)
            refine code_region ?_
            refine list_cons rfl (op_q (q_fieldAddr fi_67_4 rfl rfl (by decide)) ?_)
            refine list_cons rfl (op_q (q_load one_3 5 rfl rfl rfl (by first | rfl | exact get_map1 _ 0 _ (by first | omega | (simp; omega))) (by decide)) ?_)
            refine list_cons rfl (op_q (q_fieldAddr fi_67_4 rfl rfl (by decide)) ?_)
            refine list_cons rfl (op_q (q_load one_3 11 rfl rfl rfl (by first | rfl | exact get_map1 _ 0 _ (by first | omega | (simp; omega))) (by decide)) ?_)
            refine list_cons rfl (op_q (by first | exact q_addI rfl rfl (by decide) (by omega) (by omega) | exact q_ib rfl rfl rfl (by decide)) ?_)
            refine list_cons rfl (op_q (q_fieldAddr fi_67_4 rfl rfl (by decide)) ?_)
            refine list_cons rfl (op_store (one_3).2 5 [5] (by intro t ht; simp only [List.mem_cons, List.not_mem_nil, or_false] at ht; subst ht; rfl) (.inl rfl) rfl rfl rfl rfl rfl rfl (by first | exact Nat.le_of_ble_eq_true rfl | (rw [outC_len]; omega) | (show _ ≤ (outC _ _).length; rw [outC_len]; omega) | (simp; omega)) (by decide) rfl ?_)
            refine list_nil ?_
            refine hK30 _ ?_; clear hK30 K30
            refine codeT.imp (σ' := [(0, .par 0 _), (2, .val _), (3, .own 12 67 5 _ _), (4, .val (.int .i64 _)), (5, .box 5 67 [_, _, _, _, _]), (6, .own 18 3 1 _ _), (7, .val (.bool _)), (8, .val (.int .i64 _)), (9, .val (.int .i64 _)), (10, .val (.bool _)), (11, .box 11 67 _)]) ?_ (imp_covers ⟨rfl, rfl, rfl, rfl, rfl, rfl, rfl, rfl, rfl, rfl, rfl, trivial⟩)
            refine code_region ?_
            refine list_cons rfl (op_q (q_assign rfl (by decide)) ?_)
            refine list_nil ?_
            refine blk_n ?_
            refine hK13 _ ?_; clear hK13 K13
            refine code_region ?_
            refine list_cons rfl (op_q (q_move rfl (by decide)) ?_)
            refine list_cons rfl (op_q (by first | exact q_addI rfl rfl (by decide) (by omega) (by omega) | exact q_ib rfl rfl rfl (by decide)) ?_)
            refine list_cons rfl (op_q (q_assign rfl (by decide)) ?_)
            refine list_nil ?_
            refine then_n ⟨(_, _, _, _, _, _), imp_covers ⟨rfl, rfl, rfl, rfl, rfl, rfl, rfl, rfl, trivial⟩, ?_, ?_⟩
            · (try dsimp only)
              have hN := nx_okS (l := l) (c := c) (b := bar) (by omega) (by assumption)
              refine ⟨by omega, by omega, ?_, sm_app hN, kn_len hN, kn_app hN⟩
              exact kc_eq hN (by first | exact kM_yes (by assumption) | exact kM_no (by assumption)) (by first | exact cS_2 (by assumption) | exact cS_3 (by assumption) (by assumption) | exact cS_1 (by assumption))
            · (try dsimp only); omega
          simp only [Bool.false_eq_true, if_true, if_false, Decidable.not_not] at h7
          refine list_guard_n rfl rfl rfl rfl (by decide) rfl ?_
          refine list_guard_n rfl rfl rfl rfl (by decide) rfl ?_
          refine list_guard_n rfl rfl rfl rfl (by decide) rfl ?_
          refine list_guard_n rfl rfl rfl rfl (by decide) rfl ?_
          refine list_guard_n rfl rfl rfl rfl (by decide) rfl ?_
          refine list_cons rfl (op_q (q_pick rfl rfl (by decide)) ?_)
          refine list_nil ?_
          refine hK28 _ ?_; clear hK28 K28
          refine code_cond_t rfl ?_
          refine code_region ?_
          refine list_cons rfl (op_q (q_fieldAddr fi_67_3 rfl rfl (by decide)) ?_)
          refine list_cons rfl (op_q (q_load one_3 11 rfl rfl rfl (by first | rfl | exact get_map1 _ 0 _ (by first | omega | (simp; omega))) (by decide)) ?_)
          refine list_cons rfl (op_q (by first | exact q_addI rfl rfl (by decide) (by omega) (by omega) | exact q_ib rfl rfl rfl (by decide)) ?_)
          refine list_cons rfl (op_q (q_fieldAddr fi_67_3 rfl rfl (by decide)) ?_)
          refine list_cons rfl (op_store (one_3).2 5 [5] (by intro t ht; simp only [List.mem_cons, List.not_mem_nil, or_false] at ht; subst ht; rfl) (.inl rfl) rfl rfl rfl rfl rfl rfl (by first | exact Nat.le_of_ble_eq_true rfl | (rw [outC_len]; omega) | (show _ ≤ (outC _ _).length; rw [outC_len]; omega) | (simp; omega)) (by decide) rfl ?_)
          refine list_nil ?_
          refine hK27 _ ?_; clear hK27 K27
          refine codeT.imp (σ' := [(0, .par 0 _), (2, .val _), (3, .own 12 67 5 _ _), (4, .val (.int .i64 _)), (5, .box 5 67 [_, _, _, _, _]), (6, .own 18 3 1 _ _), (7, .val (.bool _)), (8, .val (.int .i64 _)), (9, .val (.int .i64 _)), (10, .val (.bool _)), (11, .box 11 67 _)]) ?_ (imp_covers ⟨rfl, rfl, rfl, rfl, rfl, rfl, rfl, rfl, rfl, rfl, rfl, trivial⟩)
          refine code_seq (fun K31 hK31 => ?_)
          refine code_region ?_
          refine list_cons rfl (op_q (q_fieldAddr fi_67_4 rfl rfl (by decide)) ?_)
          refine list_cons rfl (op_q (q_load one_3 5 rfl rfl rfl (by first | rfl | exact get_map1 _ 0 _ (by first | omega | (simp; omega))) (by decide)) ?_)
          refine list_cons rfl (op_q (q_fieldAddr fi_67_4 rfl rfl (by decide)) ?_)
          refine list_cons rfl (op_q (q_load one_3 11 rfl rfl rfl (by first | rfl | exact get_map1 _ 0 _ (by first | omega | (simp; omega))) (by decide)) ?_)
          refine list_cons rfl (op_q (by first | exact q_addI rfl rfl (by decide) (by omega) (by omega) | exact q_ib rfl rfl rfl (by decide)) ?_)
          refine list_cons rfl (op_q (q_fieldAddr fi_67_4 rfl rfl (by decide)) ?_)
          refine list_cons rfl (op_store (one_3).2 5 [5] (by intro t ht; simp only [List.mem_cons, List.not_mem_nil, or_false] at ht; subst ht; rfl) (.inl rfl) rfl rfl rfl rfl rfl rfl (by first | exact Nat.le_of_ble_eq_true rfl | (rw [outC_len]; omega) | (show _ ≤ (outC _ _).length; rw [outC_len]; omega) | (simp; omega)) (by decide) rfl ?_)
          refine list_nil ?_
          refine hK31 _ ?_; clear hK31 K31
          refine codeT.imp (σ' := [(0, .par 0 _), (2, .val _), (3, .own 12 67 5 _ _), (4, .val (.int .i64 _)), (5, .box 5 67 [_, _, _, _, _]), (6, .own 18 3 1 _ _), (7, .val (.bool _)), (8, .val (.int .i64 _)), (9, .val (.int .i64 _)), (10, .val (.bool _)), (11, .box 11 67 _)]) ?_ (imp_covers ⟨rfl, rfl, rfl, rfl, rfl, rfl, rfl, rfl, rfl, rfl, rfl, trivial⟩)
          refine code_region ?_
          refine list_cons rfl (op_q (q_assign rfl (by decide)) ?_)
          refine list_nil ?_
          refine blk_n ?_
          refine hK13 _ ?_; clear hK13 K13
          refine code_region ?_
          refine list_cons rfl (op_q (q_move rfl (by decide)) ?_)
          refine list_cons rfl (op_q (by first | exact q_addI rfl rfl (by decide) (by omega) (by omega) | exact q_ib rfl rfl rfl (by decide)) ?_)
          refine list_cons rfl (op_q (q_assign rfl (by decide)) ?_)
          refine list_nil ?_
          refine then_n ⟨(_, _, _, _, _, _), imp_covers ⟨rfl, rfl, rfl, rfl, rfl, rfl, rfl, rfl, trivial⟩, ?_, ?_⟩
          · (try dsimp only)
            have hN := nx_okS (l := l) (c := c) (b := bar) (by omega) (by assumption)
            refine ⟨by omega, by omega, ?_, sm_app hN, kn_len hN, kn_app hN⟩
            exact kc_eq hN (by first | exact kM_yes (by assumption) | exact kM_no (by assumption)) (by first | exact cS_2 (by assumption) | exact cS_3 (by assumption) (by assumption) | exact cS_1 (by assumption))
          · (try dsimp only); omega
        (try simp only [Decidable.not_not] at h2)
        refine code_exit ?_
        refine then_x ?_; clear hK11 K11
        refine then_x ?_
        refine blk_hit ?_
        refine hK9 _ ?_; clear hK9 K9
        refine code_seq (fun K32 hK32 => ?_)
        refine code_seq (fun K33 hK33 => ?_)
        refine code_region ?_
        refine list_cons rfl (op_q (q_move rfl (by decide)) ?_)
        refine list_cons rfl (op_q (by first | exact q_notd rfl (by decide) | exact q_not rfl (by decide)) ?_)
        refine list_nil ?_
        refine hK33 _ ?_; clear hK33 K33
        refine code_cond_d rfl (fun h9 => ?_) (fun h9 => ?_)
        · skip
          (try simp only [Decidable.not_not] at h9)
          refine code_seq (fun K34 hK34 => ?_)
          refine code_region ?_
          refine list_cons rfl (op_q (q_fieldAddr fi_67_1 rfl rfl (by decide)) ?_)
          refine list_cons rfl (op_store (one_4).2 5 [5] (by intro t ht; simp only [List.mem_cons, List.not_mem_nil, or_false] at ht; subst ht; rfl) (.inl rfl) rfl rfl rfl rfl rfl rfl (by first | exact Nat.le_of_ble_eq_true rfl | (rw [outC_len]; omega) | (show _ ≤ (outC _ _).length; rw [outC_len]; omega) | (simp; omega)) (by decide) rfl ?_)
          refine list_nil ?_
          refine hK34 _ ?_; clear hK34 K34
          refine codeT.imp (σ' := [(0, .par 0 _), (2, .val _), (3, .own 12 67 5 _ _), (4, .val (.int .i64 _)), (5, .box 5 67 [_, _, _, _, _]), (6, .own 18 3 1 _ _), (7, .val (.bool _)), (8, .val (.int .i64 _))]) ?_ (imp_covers ⟨rfl, rfl, rfl, rfl, rfl, rfl, rfl, rfl, trivial⟩)
          refine code_region ?_
          refine list_cons rfl (op_q (q_fieldAddr fi_67_4 rfl rfl (by decide)) ?_)
          refine list_cons rfl (op_store (one_3).2 5 [5] (by intro t ht; simp only [List.mem_cons, List.not_mem_nil, or_false] at ht; subst ht; rfl) (.inl rfl) rfl rfl rfl rfl rfl rfl (by first | exact Nat.le_of_ble_eq_true rfl | (rw [outC_len]; omega) | (show _ ≤ (outC _ _).length; rw [outC_len]; omega) | (simp; omega)) (by decide) rfl ?_)
          refine list_nil ?_
          refine hK32 _ ?_; clear hK32 K32
          refine codeT.imp (σ' := [(0, .par 0 _), (2, .val _), (3, .own 12 67 5 _ _), (4, .val (.int .i64 _)), (5, .box 5 67 [_, _, _, _, _]), (6, .own 18 3 1 _ _), (7, .val (.bool _)), (8, .val (.int .i64 _))]) ?_ (imp_covers ⟨rfl, rfl, rfl, rfl, rfl, rfl, rfl, rfl, trivial⟩)
          refine code_seq (fun K35 hK35 => ?_)
          refine code_block ?_
          refine code_loop (X := PV × List PV) (fun x => [(0, .par 0 (.sl l.length (l.map (.int .i64)))), (2, .val x.1), (3, .own 12 67 5 128 (outC (dcd l) (c + 1).toNat)), (4, .val (.int .i64 (c))), (5, .box 5 67 x.2), (6, .own 18 3 1 (kN (dcd l) (nxK (dcd l) c.toNat bar.toNat)).length ((kN (dcd l) (nxK (dcd l) c.toNat bar.toNat)).map (.int .i64))), (7, .val (.bool (decide ((kS (dcd l) (nxK (dcd l) c.toNat bar.toNat)).2 = true)))), (8, .val (.int .i64 (bar)))]) (fun x => ∃ n : Nat, n ≤ 129 ∧ mexL (kN (dcd l) (nxK (dcd l) c.toNat bar.toNat)) = ((mxS (kN (dcd l) (nxK (dcd l) c.toNat bar.toNat)) n : Nat) : Int) ∧ x.2 = kdL (dcd l) (nxK (dcd l) c.toNat bar.toNat) (n : Int)) (fun x => (130 - fstI x.2)) (_, _) (imp_covers ⟨rfl, rfl, rfl, rfl, rfl, rfl, rfl, rfl, trivial⟩) ?_ ?_
          · (try dsimp only)
            first
            | exact ⟨0, by omega, rfl, kd_emp (by assumption)⟩
            | exact ⟨0, by omega, rfl, kd_some (by assumption)⟩
          · intro x hI
            obtain ⟨t2_p, k_c⟩ := x
            replace hI : ∃ n : Nat, n ≤ 129 ∧ mexL (kN (dcd l) (nxK (dcd l) c.toNat bar.toNat)) = ((mxS (kN (dcd l) (nxK (dcd l) c.toNat bar.toNat)) n : Nat) : Int) ∧ k_c = kdL (dcd l) (nxK (dcd l) c.toNat bar.toNat) (n : Int) := hI
            show codeT _ _ _ [(0, .par 0 (.sl l.length (l.map (.int .i64)))), (2, .val t2_p), (3, .own 12 67 5 128 (outC (dcd l) (c + 1).toNat)), (4, .val (.int .i64 (c))), (5, .box 5 67 k_c), (6, .own 18 3 1 (kN (dcd l) (nxK (dcd l) c.toNat bar.toNat)).length ((kN (dcd l) (nxK (dcd l) c.toNat bar.toNat)).map (.int .i64))), (7, .val (.bool (decide ((kS (dcd l) (nxK (dcd l) c.toNat bar.toNat)).2 = true)))), (8, .val (.int .i64 (bar)))] _
            obtain ⟨n, k1, k2, rfl⟩ := hI
            refine code_seq (fun K36 hK36 => ?_)
            refine code_seq (fun K37 hK37 => ?_)
            refine code_region ?_
            refine list_cons rfl (op_q (q_move rfl (by decide)) ?_)
            refine list_cons rfl (op_q (q_fieldAddr fi_67_0 rfl rfl (by decide)) ?_)
            refine list_cons rfl (op_q (q_load one_3 5 rfl rfl rfl (by first | rfl | exact get_map1 _ 0 _ (by first | omega | (simp; omega))) (by decide)) ?_)
            refine list_cons rfl (op_call _ (spec_l1Has (kN (dcd l) (nxK (dcd l) c.toNat bar.toNat)) _ (by rw [kn_ln]; omega)) rfl rfl (by decide) (by decide) (by decide) rfl ?_)
            rintro _ rfl
            refine list_nil ?_
            refine hK37 _ ?_; clear hK37 K37
            refine codeT.imp (σ' := [(0, .par 0 _), (2, .val _), (3, .own 12 67 5 _ _), (4, .val (.int .i64 _)), (5, .box 5 67 _), (6, .own 18 3 1 _ _), (7, .val (.bool _)), (8, .val (.int .i64 _)), (83, .val (.bool _))]) ?_ (imp_covers ⟨rfl, rfl, rfl, rfl, rfl, rfl, rfl, rfl, rfl, trivial⟩)
            refine code_cond_d rfl (fun h10 => ?_) (fun h10 => ?_)
            · skip
              (try simp only [Decidable.not_not] at h10)
              refine code_skip ?_
              refine hK36 _ ?_; clear hK36 K36
              refine code_block ?_
              refine code_region ?_
              refine list_cons rfl (op_q (q_fieldAddr fi_67_0 rfl rfl (by decide)) ?_)
              refine list_cons rfl (op_q (q_load one_3 5 rfl rfl rfl (by first | rfl | exact get_map1 _ 0 _ (by first | omega | (simp; omega))) (by decide)) ?_)
              refine list_cons rfl (op_q (by first | exact q_addI rfl rfl (by decide) (by omega) (by omega) | exact q_ib rfl rfl rfl (by decide)) ?_)
              refine list_cons rfl (op_q (q_fieldAddr fi_67_0 rfl rfl (by decide)) ?_)
              refine list_cons rfl (op_store (one_3).2 5 [5] (by intro t ht; simp only [List.mem_cons, List.not_mem_nil, or_false] at ht; subst ht; rfl) (.inl rfl) rfl rfl rfl rfl rfl rfl (by first | exact Nat.le_of_ble_eq_true rfl | (rw [outC_len]; omega) | (show _ ≤ (outC _ _).length; rw [outC_len]; omega) | (simp; omega)) (by decide) rfl ?_)
              refine list_nil ?_
              refine blk_n ?_
              refine then_n ⟨(_, _), imp_covers ⟨rfl, rfl, rfl, rfl, rfl, rfl, rfl, rfl, trivial⟩, ?_, ?_⟩
              · (try dsimp only)
                have hn1 : (n : Int) ∈ kN (dcd l) (nxK (dcd l) c.toNat bar.toNat) := hasK_mem (Nat.le_refl _) (by assumption)
                have hn2 := hvl.1 _ hn1
                exact ⟨n + 1, by omega, by rw [k2, mxS_yes (by omega) (by assumption)], rfl⟩
              · (have hn1 : (n : Int) ∈ kN (dcd l) (nxK (dcd l) c.toNat bar.toNat) := hasK_mem (Nat.le_refl _) (by assumption)); have hn2 := hvl.1 _ hn1; show 130 - ((n : Int) + 1).toNat < 130 - (n : Int).toNat; omega
            (try simp only [Decidable.not_not] at h10)
            refine code_exit ?_
            refine then_x ?_; clear hK36 K36
            refine then_x ?_
            refine blk_hit ?_
            refine hK35 _ ?_; clear hK35 K35
            refine codeT.imp (σ' := [(0, .par 0 _), (2, .val _), (3, .own 12 67 5 _ _), (4, .val (.int .i64 _)), (5, .box 5 67 [_, _, _, _, _]), (6, .own 18 3 1 _ _), (7, .val (.bool _)), (8, .val (.int .i64 _))]) ?_ (imp_covers ⟨rfl, rfl, rfl, rfl, rfl, rfl, rfl, rfl, trivial⟩)
            refine code_region ?_
            refine list_cons rfl (op_q (q_move rfl (by decide)) ?_)
            refine list_cons rfl (op_q (q_move rfl (by decide)) ?_)
            refine list_cons rfl (op_q (q_load_agg agg_67 5 (.inr ⟨rfl, _, rfl⟩) rfl rfl (by first | decide | omega | exact Nat.le_refl _ | (simp; done) | (simp; omega)) (by first | rfl | (rw [outC_at (dcd l) (m := (c + 1).toNat) (x := (upI c bar).toNat) (by have := hgt (by assumption); omega) (by omega)]; rfl)) (by decide)) ?_)
            refine list_cons rfl (op_q (q_indexAddr_own sl_61 rfl rfl (by omega) (by omega) (by decide)) ?_)
            refine list_cons rfl (op_store (agg_67).2 3 [3, 88] (by intro t ht; simp only [List.mem_cons, List.not_mem_nil, or_false] at ht; rcases ht with rfl | rfl <;> rfl) (.inl rfl) rfl rfl rfl rfl (by first | rfl | exact flat_part (flat_map _ (fun _ => rfl) _) _ _ | exact flat_map _ (fun _ => rfl) _) (by first | rfl | rfl) (by first | exact Nat.le_of_ble_eq_true rfl | (rw [outC_len]; omega) | (show _ ≤ (outC _ _).length; rw [outC_len]; omega) | (simp; omega)) (by decide) rfl ?_)
            refine list_nil ?_
            refine blk_n ?_
            refine hK7 _ ?_; clear hK7 K7
            refine codeT.imp (σ' := [(0, .par 0 _), (2, .val _), (3, .own 12 67 5 _ _), (4, .val (.int .i64 _)), (5, .box 5 67 _), (6, .own 18 3 1 _ _), (7, .val (.bool _)), (8, .val (.int .i64 _))]) ?_ (imp_covers ⟨rfl, rfl, rfl, rfl, rfl, rfl, rfl, rfl, trivial⟩)
            refine code_region ?_
            refine list_cons rfl (op_q (q_move rfl (by decide)) ?_)
            refine list_cons rfl (op_q (by first | exact q_subI rfl rfl (by decide) (by omega) (by omega) | exact q_ib rfl rfl rfl (by decide)) ?_)
            refine list_cons rfl (op_q (q_assign rfl (by decide)) ?_)
            refine list_nil ?_
            refine then_n ⟨(_, _, _, _), imp_covers ⟨rfl, rfl, rfl, rfl, trivial⟩, ?_, ?_⟩
            · (try dsimp only)
              refine ⟨by omega, by omega, rfl, ?_⟩
              first
              | exact out_fin (n := n) (by omega) (by omega) (by rw [show bar.toNat = 7 by omega]) (by rw [k2, mxS_no (by omega) (by assumption)])
            · (try dsimp only); omega
        (try simp only [Decidable.not_not] at h9)
        refine code_skip ?_
        refine hK32 _ ?_; clear hK32 K32
        refine code_seq (fun K38 hK38 => ?_)
        refine code_block ?_
        refine code_loop (X := PV × List PV) (fun x => [(0, .par 0 (.sl l.length (l.map (.int .i64)))), (2, .val x.1), (3, .own 12 67 5 128 (outC (dcd l) (c + 1).toNat)), (4, .val (.int .i64 (c))), (5, .box 5 67 x.2), (6, .own 18 3 1 (kN (dcd l) (nxK (dcd l) c.toNat bar.toNat)).length ((kN (dcd l) (nxK (dcd l) c.toNat bar.toNat)).map (.int .i64))), (7, .val (.bool (decide ((kS (dcd l) (nxK (dcd l) c.toNat bar.toNat)).2 = true)))), (8, .val (.int .i64 (bar)))]) (fun x => ∃ n : Nat, n ≤ 129 ∧ mexL (kN (dcd l) (nxK (dcd l) c.toNat bar.toNat)) = ((mxS (kN (dcd l) (nxK (dcd l) c.toNat bar.toNat)) n : Nat) : Int) ∧ x.2 = kdL (dcd l) (nxK (dcd l) c.toNat bar.toNat) (n : Int)) (fun x => (130 - fstI x.2)) (_, _) (imp_covers ⟨rfl, rfl, rfl, rfl, rfl, rfl, rfl, rfl, trivial⟩) ?_ ?_
        · (try dsimp only)
          first
          | exact ⟨0, by omega, rfl, kd_emp (by assumption)⟩
          | exact ⟨0, by omega, rfl, kd_some (by assumption)⟩
        · intro x hI
          obtain ⟨t2_p, k_c⟩ := x
          replace hI : ∃ n : Nat, n ≤ 129 ∧ mexL (kN (dcd l) (nxK (dcd l) c.toNat bar.toNat)) = ((mxS (kN (dcd l) (nxK (dcd l) c.toNat bar.toNat)) n : Nat) : Int) ∧ k_c = kdL (dcd l) (nxK (dcd l) c.toNat bar.toNat) (n : Int) := hI
          show codeT _ _ _ [(0, .par 0 (.sl l.length (l.map (.int .i64)))), (2, .val t2_p), (3, .own 12 67 5 128 (outC (dcd l) (c + 1).toNat)), (4, .val (.int .i64 (c))), (5, .box 5 67 k_c), (6, .own 18 3 1 (kN (dcd l) (nxK (dcd l) c.toNat bar.toNat)).length ((kN (dcd l) (nxK (dcd l) c.toNat bar.toNat)).map (.int .i64))), (7, .val (.bool (decide ((kS (dcd l) (nxK (dcd l) c.toNat bar.toNat)).2 = true)))), (8, .val (.int .i64 (bar)))] _
          obtain ⟨n, k1, k2, rfl⟩ := hI
          refine code_seq (fun K39 hK39 => ?_)
          refine code_seq (fun K40 hK40 => ?_)
          refine code_region ?_
          refine list_cons rfl (op_q (q_move rfl (by decide)) ?_)
          refine list_cons rfl (op_q (q_fieldAddr fi_67_0 rfl rfl (by decide)) ?_)
          refine list_cons rfl (op_q (q_load one_3 5 rfl rfl rfl (by first | rfl | exact get_map1 _ 0 _ (by first | omega | (simp; omega))) (by decide)) ?_)
          refine list_cons rfl (op_call _ (spec_l1Has (kN (dcd l) (nxK (dcd l) c.toNat bar.toNat)) _ (by rw [kn_ln]; omega)) rfl rfl (by decide) (by decide) (by decide) rfl ?_)
          rintro _ rfl
          refine list_nil ?_
          refine hK40 _ ?_; clear hK40 K40
          refine codeT.imp (σ' := [(0, .par 0 _), (2, .val _), (3, .own 12 67 5 _ _), (4, .val (.int .i64 _)), (5, .box 5 67 _), (6, .own 18 3 1 _ _), (7, .val (.bool _)), (8, .val (.int .i64 _)), (83, .val (.bool _))]) ?_ (imp_covers ⟨rfl, rfl, rfl, rfl, rfl, rfl, rfl, rfl, rfl, trivial⟩)
          refine code_cond_d rfl (fun h11 => ?_) (fun h11 => ?_)
          · skip
            (try simp only [Decidable.not_not] at h11)
            refine code_skip ?_
            refine hK39 _ ?_; clear hK39 K39
            refine code_block ?_
            refine code_region ?_
            refine list_cons rfl (op_q (q_fieldAddr fi_67_0 rfl rfl (by decide)) ?_)
            refine list_cons rfl (op_q (q_load one_3 5 rfl rfl rfl (by first | rfl | exact get_map1 _ 0 _ (by first | omega | (simp; omega))) (by decide)) ?_)
            refine list_cons rfl (op_q (by first | exact q_addI rfl rfl (by decide) (by omega) (by omega) | exact q_ib rfl rfl rfl (by decide)) ?_)
            refine list_cons rfl (op_q (q_fieldAddr fi_67_0 rfl rfl (by decide)) ?_)
            refine list_cons rfl (op_store (one_3).2 5 [5] (by intro t ht; simp only [List.mem_cons, List.not_mem_nil, or_false] at ht; subst ht; rfl) (.inl rfl) rfl rfl rfl rfl rfl rfl (by first | exact Nat.le_of_ble_eq_true rfl | (rw [outC_len]; omega) | (show _ ≤ (outC _ _).length; rw [outC_len]; omega) | (simp; omega)) (by decide) rfl ?_)
            refine list_nil ?_
            refine blk_n ?_
            refine then_n ⟨(_, _), imp_covers ⟨rfl, rfl, rfl, rfl, rfl, rfl, rfl, rfl, trivial⟩, ?_, ?_⟩
            · (try dsimp only)
              have hn1 : (n : Int) ∈ kN (dcd l) (nxK (dcd l) c.toNat bar.toNat) := hasK_mem (Nat.le_refl _) (by assumption)
              have hn2 := hvl.1 _ hn1
              exact ⟨n + 1, by omega, by rw [k2, mxS_yes (by omega) (by assumption)], rfl⟩
            · (have hn1 : (n : Int) ∈ kN (dcd l) (nxK (dcd l) c.toNat bar.toNat) := hasK_mem (Nat.le_refl _) (by assumption)); have hn2 := hvl.1 _ hn1; show 130 - ((n : Int) + 1).toNat < 130 - (n : Int).toNat; omega
          (try simp only [Decidable.not_not] at h11)
          refine code_exit ?_
          refine then_x ?_; clear hK39 K39
          refine then_x ?_
          refine blk_hit ?_
          refine hK38 _ ?_; clear hK38 K38
          refine codeT.imp (σ' := [(0, .par 0 _), (2, .val _), (3, .own 12 67 5 _ _), (4, .val (.int .i64 _)), (5, .box 5 67 [_, _, _, _, _]), (6, .own 18 3 1 _ _), (7, .val (.bool _)), (8, .val (.int .i64 _))]) ?_ (imp_covers ⟨rfl, rfl, rfl, rfl, rfl, rfl, rfl, rfl, trivial⟩)
          refine code_region ?_
          refine list_cons rfl (op_q (q_move rfl (by decide)) ?_)
          refine list_cons rfl (op_q (q_move rfl (by decide)) ?_)
          refine list_cons rfl (op_q (q_load_agg agg_67 5 (.inr ⟨rfl, _, rfl⟩) rfl rfl (by first | decide | omega | exact Nat.le_refl _ | (simp; done) | (simp; omega)) (by first | rfl | (rw [outC_at (dcd l) (m := (c + 1).toNat) (x := (upI c bar).toNat) (by have := hgt (by assumption); omega) (by omega)]; rfl)) (by decide)) ?_)
          refine list_cons rfl (op_q (q_indexAddr_own sl_61 rfl rfl (by omega) (by omega) (by decide)) ?_)
          refine list_cons rfl (op_store (agg_67).2 3 [3, 88] (by intro t ht; simp only [List.mem_cons, List.not_mem_nil, or_false] at ht; rcases ht with rfl | rfl <;> rfl) (.inl rfl) rfl rfl rfl rfl (by first | rfl | exact flat_part (flat_map _ (fun _ => rfl) _) _ _ | exact flat_map _ (fun _ => rfl) _) (by first | rfl | rfl) (by first | exact Nat.le_of_ble_eq_true rfl | (rw [outC_len]; omega) | (show _ ≤ (outC _ _).length; rw [outC_len]; omega) | (simp; omega)) (by decide) rfl ?_)
          refine list_nil ?_
          refine blk_n ?_
          refine hK7 _ ?_; clear hK7 K7
          refine codeT.imp (σ' := [(0, .par 0 _), (2, .val _), (3, .own 12 67 5 _ _), (4, .val (.int .i64 _)), (5, .box 5 67 _), (6, .own 18 3 1 _ _), (7, .val (.bool _)), (8, .val (.int .i64 _))]) ?_ (imp_covers ⟨rfl, rfl, rfl, rfl, rfl, rfl, rfl, rfl, trivial⟩)
          refine code_region ?_
          refine list_cons rfl (op_q (q_move rfl (by decide)) ?_)
          refine list_cons rfl (op_q (by first | exact q_subI rfl rfl (by decide) (by omega) (by omega) | exact q_ib rfl rfl rfl (by decide)) ?_)
          refine list_cons rfl (op_q (q_assign rfl (by decide)) ?_)
          refine list_nil ?_
          refine then_n ⟨(_, _, _, _), imp_covers ⟨rfl, rfl, rfl, rfl, trivial⟩, ?_, ?_⟩
          · (try dsimp only)
            refine ⟨by omega, by omega, rfl, ?_⟩
            first
            | exact out_fin (n := n) (by omega) (by omega) (by rw [show bar.toNat = 7 by omega]) (by rw [k2, mxS_no (by omega) (by assumption)])
          · (try dsimp only); omega
    (try simp only [Decidable.not_not] at h1)
    refine code_exit ?_
    refine then_x ?_; clear hK5 K5
    refine then_x ?_
    refine blk_hit ?_
    refine hK3 _ ?_; clear hK3 K3
    refine code_seq (fun K41 hK41 => ?_)
    refine code_region ?_
    refine list_cons rfl (op_q (q_move rfl (by decide)) ?_)
    refine list_cons rfl (op_q (q_assign rfl (by decide)) ?_)
    refine list_nil ?_
    refine hK41 _ ?_; clear hK41 K41
    refine code_ret ?_
    refine ends_ret (cs := []) rfl rfl rfl rfl trivial ?_
    rw [show (c + 1).toNat = 0 by omega]; first | done | rfl

set_option maxRecDepth 4000 in
theorem spec_LongestPlay (c : Int) (l : List Int) (hl : l.length ≤ 4611686018427387904) : PCalls Tryd.prog 43 [.int .i64 c, .sl l.length (l.map (.int .i64))] (· = [.val (.int .i64 (if WayP c l then val fL (dcd l) c.toNat else 0)), .val (.bool (decide (WayP c l)))]) := by
  refine pcalls_of_code (n := 16) az Tryd.func43 (by kernel_rfl) rfl rfl (Nat.le_of_ble_eq_true rfl) (by intro t u h; simp [Tryd.f43] at h) ?_
  refine code_seq (fun K1 hK1 => ?_)
  refine code_region ?_
  refine list_cons rfl (op_q (q_assign rfl (by decide)) ?_)
  refine list_cons rfl (op_q (q_assign rfl (by decide)) ?_)
  refine list_nil ?_
  refine hK1 _ ?_; clear hK1 K1
  refine code_seq (fun K2 hK2 => ?_)
  refine code_seq (fun K3 hK3 => ?_)
  refine code_region ?_
  refine list_cons rfl (op_q (q_move rfl (by decide)) ?_)
  refine list_cons rfl (op_q (q_move rfl (by decide)) ?_)
  refine list_cons rfl (op_call _ (spec_l11Good _ _ (by omega)) rfl rfl (by decide) (by decide) (by decide) rfl ?_)
  rintro _ rfl
  refine list_cons rfl (op_q (by first | exact q_notd rfl (by decide) | exact q_not rfl (by decide)) ?_)
  refine list_nil ?_
  refine hK3 _ ?_; clear hK3 K3
  refine codeT.imp (σ' := [(0, _), (1, _), (4, _), (5, _), (9, _)]) ?_ (imp_covers ⟨rfl, rfl, rfl, rfl, rfl, trivial⟩)
  refine code_cond_d rfl (fun h1 => ?_) (fun h1 => ?_)
  · skip
    (try simp only [Decidable.not_not] at h1); (try have hW : WayP c l := h1); (try have hc := hW.2.1)
    refine code_seq (fun K4 hK4 => ?_)
    refine code_region ?_
    refine list_cons rfl (op_q (q_assign rfl (by decide)) ?_)
    refine list_cons rfl (op_q (q_assign rfl (by decide)) ?_)
    refine list_nil ?_
    refine hK4 _ ?_; clear hK4 K4
    refine code_ret ?_
    refine then_r ?_; clear hK2 K2
    refine ends_ret (cs := []) rfl rfl rfl rfl trivial ?_
    first
      | (have e : ¬ WayP c l := by assumption
         simp only [if_neg e, decide_eq_false e, decide_eq_false (fun z : WayP c l ∧ _ => e z.1)]; done)
      | (have e : ¬ WayP c l := by assumption
         simp only [if_neg e, decide_eq_false e]; done)
      | (simp only [if_pos hW, decide_eq_true hW]; done)
      | (rw [decide_eq_true hW]
         refine congrArg (fun z : Bool => [SV.val (.bool z), SV.val (.bool true)]) ?_
         exact decide_eq_decide.mpr ⟨fun z => ⟨hW, z⟩, fun z => z.2⟩)
  (try simp only [Decidable.not_not] at h1); (try have hW : WayP c l := h1); (try have hc := hW.2.1)
  refine code_skip ?_
  refine hK2 _ ?_; clear hK2 K2
  refine code_seq (fun K5 hK5 => ?_)
  refine code_region ?_
  refine list_cons rfl (op_q (q_move rfl (by decide)) ?_)
  refine list_cons rfl (op_call _ (spec_l11All l hW.1) rfl rfl (by decide) (by decide) (by decide) rfl ?_)
  rintro _ rfl
  refine list_cons rfl (op_q (q_move rfl (by decide)) ?_)
  refine list_cons rfl (op_q (q_indexAddr_own sl_61 rfl rfl (by omega) (by omega) (by decide)) ?_)
  refine list_cons rfl (op_q (q_fieldAddr fi_67_2 rfl rfl (by decide)) ?_)
  refine list_cons rfl (op_q (q_load one_3 11 rfl rfl rfl (all_l (dcd l) (x := c.toNat) (by omega)) (by decide)) ?_)
  refine list_cons rfl (op_q (q_assign rfl (by decide)) ?_)
  refine list_cons rfl (op_q (q_assign rfl (by decide)) ?_)
  refine list_nil ?_
  refine hK5 _ ?_; clear hK5 K5
  refine codeT.imp (σ' := [(0, _), (1, _), (4, _), (5, _)]) ?_ (imp_covers ⟨rfl, rfl, rfl, rfl, trivial⟩)
  refine code_ret ?_
  refine ends_ret (cs := []) rfl rfl rfl rfl trivial ?_
  first
    | (have e : ¬ WayP c l := by assumption
       simp only [if_neg e, decide_eq_false e, decide_eq_false (fun z : WayP c l ∧ _ => e z.1)]; done)
    | (have e : ¬ WayP c l := by assumption
       simp only [if_neg e, decide_eq_false e]; done)
    | (simp only [if_pos hW, decide_eq_true hW]; done)
    | (rw [decide_eq_true hW]
       refine congrArg (fun z : Bool => [SV.val (.bool z), SV.val (.bool true)]) ?_
       exact decide_eq_decide.mpr ⟨fun z => ⟨hW, z⟩, fun z => z.2⟩)

set_option maxRecDepth 4000 in
theorem spec_ShortestPlay (c : Int) (l : List Int) (hl : l.length ≤ 4611686018427387904) : PCalls Tryd.prog 45 [.int .i64 c, .sl l.length (l.map (.int .i64))] (· = [.val (.int .i64 (if WayP c l then val fS (dcd l) c.toNat else 0)), .val (.bool (decide (WayP c l)))]) := by
  refine pcalls_of_code (n := 16) az Tryd.func45 (by kernel_rfl) rfl rfl (Nat.le_of_ble_eq_true rfl) (by intro t u h; simp [Tryd.f45] at h) ?_
  refine code_seq (fun K1 hK1 => ?_)
  refine code_region ?_
  refine list_cons rfl (op_q (q_assign rfl (by decide)) ?_)
  refine list_cons rfl (op_q (q_assign rfl (by decide)) ?_)
  refine list_nil ?_
  refine hK1 _ ?_; clear hK1 K1
  refine code_seq (fun K2 hK2 => ?_)
  refine code_seq (fun K3 hK3 => ?_)
  refine code_region ?_
  refine list_cons rfl (op_q (q_move rfl (by decide)) ?_)
  refine list_cons rfl (op_q (q_move rfl (by decide)) ?_)
  refine list_cons rfl (op_call _ (spec_l11Good _ _ (by omega)) rfl rfl (by decide) (by decide) (by decide) rfl ?_)
  rintro _ rfl
  refine list_cons rfl (op_q (by first | exact q_notd rfl (by decide) | exact q_not rfl (by decide)) ?_)
  refine list_nil ?_
  refine hK3 _ ?_; clear hK3 K3
  refine codeT.imp (σ' := [(0, _), (1, _), (4, _), (5, _), (9, _)]) ?_ (imp_covers ⟨rfl, rfl, rfl, rfl, rfl, trivial⟩)
  refine code_cond_d rfl (fun h1 => ?_) (fun h1 => ?_)
  · skip
    (try simp only [Decidable.not_not] at h1); (try have hW : WayP c l := h1); (try have hc := hW.2.1)
    refine code_seq (fun K4 hK4 => ?_)
    refine code_region ?_
    refine list_cons rfl (op_q (q_assign rfl (by decide)) ?_)
    refine list_cons rfl (op_q (q_assign rfl (by decide)) ?_)
    refine list_nil ?_
    refine hK4 _ ?_; clear hK4 K4
    refine code_ret ?_
    refine then_r ?_; clear hK2 K2
    refine ends_ret (cs := []) rfl rfl rfl rfl trivial ?_
    first
      | (have e : ¬ WayP c l := by assumption
         simp only [if_neg e, decide_eq_false e, decide_eq_false (fun z : WayP c l ∧ _ => e z.1)]; done)
      | (have e : ¬ WayP c l := by assumption
         simp only [if_neg e, decide_eq_false e]; done)
      | (simp only [if_pos hW, decide_eq_true hW]; done)
      | (rw [decide_eq_true hW]
         refine congrArg (fun z : Bool => [SV.val (.bool z), SV.val (.bool true)]) ?_
         exact decide_eq_decide.mpr ⟨fun z => ⟨hW, z⟩, fun z => z.2⟩)
  (try simp only [Decidable.not_not] at h1); (try have hW : WayP c l := h1); (try have hc := hW.2.1)
  refine code_skip ?_
  refine hK2 _ ?_; clear hK2 K2
  refine code_seq (fun K5 hK5 => ?_)
  refine code_region ?_
  refine list_cons rfl (op_q (q_move rfl (by decide)) ?_)
  refine list_cons rfl (op_call _ (spec_l11All l hW.1) rfl rfl (by decide) (by decide) (by decide) rfl ?_)
  rintro _ rfl
  refine list_cons rfl (op_q (q_move rfl (by decide)) ?_)
  refine list_cons rfl (op_q (q_indexAddr_own sl_61 rfl rfl (by omega) (by omega) (by decide)) ?_)
  refine list_cons rfl (op_q (q_fieldAddr fi_67_3 rfl rfl (by decide)) ?_)
  refine list_cons rfl (op_q (q_load one_3 11 rfl rfl rfl (all_s (dcd l) (x := c.toNat) (by omega)) (by decide)) ?_)
  refine list_cons rfl (op_q (q_assign rfl (by decide)) ?_)
  refine list_cons rfl (op_q (q_assign rfl (by decide)) ?_)
  refine list_nil ?_
  refine hK5 _ ?_; clear hK5 K5
  refine codeT.imp (σ' := [(0, _), (1, _), (4, _), (5, _)]) ?_ (imp_covers ⟨rfl, rfl, rfl, rfl, trivial⟩)
  refine code_ret ?_
  refine ends_ret (cs := []) rfl rfl rfl rfl trivial ?_
  first
    | (have e : ¬ WayP c l := by assumption
       simp only [if_neg e, decide_eq_false e, decide_eq_false (fun z : WayP c l ∧ _ => e z.1)]; done)
    | (have e : ¬ WayP c l := by assumption
       simp only [if_neg e, decide_eq_false e]; done)
    | (simp only [if_pos hW, decide_eq_true hW]; done)
    | (rw [decide_eq_true hW]
       refine congrArg (fun z : Bool => [SV.val (.bool z), SV.val (.bool true)]) ?_
       exact decide_eq_decide.mpr ⟨fun z => ⟨hW, z⟩, fun z => z.2⟩)

set_option maxRecDepth 4000 in
theorem spec_CountPlays (c : Int) (l : List Int) (hl : l.length ≤ 4611686018427387904) : PCalls Tryd.prog 47 [.int .i64 c, .sl l.length (l.map (.int .i64))] (· = [.val (.int .i64 (if WayP c l then val fP (dcd l) c.toNat else 0)), .val (.bool (decide (WayP c l)))]) := by
  refine pcalls_of_code (n := 16) az Tryd.func47 (by kernel_rfl) rfl rfl (Nat.le_of_ble_eq_true rfl) (by intro t u h; simp [Tryd.f47] at h) ?_
  refine code_seq (fun K1 hK1 => ?_)
  refine code_region ?_
  refine list_cons rfl (op_q (q_assign rfl (by decide)) ?_)
  refine list_cons rfl (op_q (q_assign rfl (by decide)) ?_)
  refine list_nil ?_
  refine hK1 _ ?_; clear hK1 K1
  refine code_seq (fun K2 hK2 => ?_)
  refine code_seq (fun K3 hK3 => ?_)
  refine code_region ?_
  refine list_cons rfl (op_q (q_move rfl (by decide)) ?_)
  refine list_cons rfl (op_q (q_move rfl (by decide)) ?_)
  refine list_cons rfl (op_call _ (spec_l11Good _ _ (by omega)) rfl rfl (by decide) (by decide) (by decide) rfl ?_)
  rintro _ rfl
  refine list_cons rfl (op_q (by first | exact q_notd rfl (by decide) | exact q_not rfl (by decide)) ?_)
  refine list_nil ?_
  refine hK3 _ ?_; clear hK3 K3
  refine codeT.imp (σ' := [(0, _), (1, _), (4, _), (5, _), (9, _)]) ?_ (imp_covers ⟨rfl, rfl, rfl, rfl, rfl, trivial⟩)
  refine code_cond_d rfl (fun h1 => ?_) (fun h1 => ?_)
  · skip
    (try simp only [Decidable.not_not] at h1); (try have hW : WayP c l := h1); (try have hc := hW.2.1)
    refine code_seq (fun K4 hK4 => ?_)
    refine code_region ?_
    refine list_cons rfl (op_q (q_assign rfl (by decide)) ?_)
    refine list_cons rfl (op_q (q_assign rfl (by decide)) ?_)
    refine list_nil ?_
    refine hK4 _ ?_; clear hK4 K4
    refine code_ret ?_
    refine then_r ?_; clear hK2 K2
    refine ends_ret (cs := []) rfl rfl rfl rfl trivial ?_
    first
      | (have e : ¬ WayP c l := by assumption
         simp only [if_neg e, decide_eq_false e, decide_eq_false (fun z : WayP c l ∧ _ => e z.1)]; done)
      | (have e : ¬ WayP c l := by assumption
         simp only [if_neg e, decide_eq_false e]; done)
      | (simp only [if_pos hW, decide_eq_true hW]; done)
      | (rw [decide_eq_true hW]
         refine congrArg (fun z : Bool => [SV.val (.bool z), SV.val (.bool true)]) ?_
         exact decide_eq_decide.mpr ⟨fun z => ⟨hW, z⟩, fun z => z.2⟩)
  (try simp only [Decidable.not_not] at h1); (try have hW : WayP c l := h1); (try have hc := hW.2.1)
  refine code_skip ?_
  refine hK2 _ ?_; clear hK2 K2
  refine code_seq (fun K5 hK5 => ?_)
  refine code_region ?_
  refine list_cons rfl (op_q (q_move rfl (by decide)) ?_)
  refine list_cons rfl (op_call _ (spec_l11All l hW.1) rfl rfl (by decide) (by decide) (by decide) rfl ?_)
  rintro _ rfl
  refine list_cons rfl (op_q (q_move rfl (by decide)) ?_)
  refine list_cons rfl (op_q (q_indexAddr_own sl_61 rfl rfl (by omega) (by omega) (by decide)) ?_)
  refine list_cons rfl (op_q (q_fieldAddr fi_67_4 rfl rfl (by decide)) ?_)
  refine list_cons rfl (op_q (q_load one_3 11 rfl rfl rfl (all_p (dcd l) (x := c.toNat) (by omega)) (by decide)) ?_)
  refine list_cons rfl (op_q (q_assign rfl (by decide)) ?_)
  refine list_cons rfl (op_q (q_assign rfl (by decide)) ?_)
  refine list_nil ?_
  refine hK5 _ ?_; clear hK5 K5
  refine codeT.imp (σ' := [(0, _), (1, _), (4, _), (5, _)]) ?_ (imp_covers ⟨rfl, rfl, rfl, rfl, trivial⟩)
  refine code_ret ?_
  refine ends_ret (cs := []) rfl rfl rfl rfl trivial ?_
  first
    | (have e : ¬ WayP c l := by assumption
       simp only [if_neg e, decide_eq_false e, decide_eq_false (fun z : WayP c l ∧ _ => e z.1)]; done)
    | (have e : ¬ WayP c l := by assumption
       simp only [if_neg e, decide_eq_false e]; done)
    | (simp only [if_pos hW, decide_eq_true hW]; done)
    | (rw [decide_eq_true hW]
       refine congrArg (fun z : Bool => [SV.val (.bool z), SV.val (.bool true)]) ?_
       exact decide_eq_decide.mpr ⟨fun z => ⟨hW, z⟩, fun z => z.2⟩)

end Go.Proofs.YtfagllolcalfiaaDoor
