/- Contracts of functions, walked over the pure layer; each says for which arguments. -/
import Derived.Test.YtfagllolcalfiabDoory3Ty
import Derived.Test.YtfagllolcalfiabDoorTf
import Derived.Test.YtfagllolcalfiabDoory1
import Derived.Test.YtfagllolcalfiabDoorShelf
import Derived.Test.YtfagllolcalfiabDoory2
namespace Go.Proofs.YtfagllolcalfiabDoor
open Go.RowKit y3Ty
set_option linter.unusedVariables false
set_option linter.unusedSimpArgs false
theorem bitN_test (n k : Nat) : bitN n k = n.testBit k := by
  unfold bitN shN p2
  rw [Nat.testBit_eq_decide_div_mod_eq]
  cases h : Nat.beq (n / 2 ^ k % 2) 1 with
  | true => rw [Nat.eq_of_beq_eq_true h]; rfl
  | false => rw [decide_eq_false (Nat.ne_of_beq_eq_false h)]
def subN (c x : Nat) : Bool := Nat.beq (c &&& x) c
theorem subN_iff (c x : Nat) : subN c x = true ↔ ∀ b, c.testBit b = true → x.testBit b = true := by
  unfold subN
  constructor
  · intro h b hb
    have h := Nat.eq_of_beq_eq_true h
    have : (c &&& x).testBit b = c.testBit b := by rw [h]
    rw [Nat.testBit_and, hb] at this
    simpa using this
  · intro h
    have : c &&& x = c := Nat.eq_of_testBit_eq fun b => by
      rw [Nat.testBit_and]
      cases hb : c.testBit b with
      | true => rw [h b hb]; rfl
      | false => rfl
    rw [this]; exact Nat.beq_refl c
theorem subN_le {c x : Nat} (h : subN c x = true) : c ≤ x := by
  have h := Nat.eq_of_beq_eq_true h
  rw [← h]; exact Nat.and_le_right
def upN (c b : Nat) : Nat := c ||| p2 b
theorem up_bit (c b k : Nat) : (upN c b).testBit k = (c.testBit k || decide (b = k)) := by
  unfold upN p2
  rw [Nat.testBit_or, Nat.testBit_two_pow]
theorem up_lt {c b : Nat} (hc : c < 128) (hb : b < 7) : upN c b < 128 := by
  have h2 : p2 b < 2 ^ 7 := Nat.pow_lt_pow_right (by omega) hb
  exact @Nat.or_lt_two_pow _ _ 7 hc h2
theorem up_ge (c b : Nat) : c ≤ upN c b := Nat.left_le_or
theorem up_same {c b : Nat} (h : c.testBit b = true) : upN c b = c := Nat.eq_of_testBit_eq fun k => by
  rw [up_bit]
  by_cases e : b = k
  · subst e; rw [h]; rfl
  · rw [decide_eq_false e, Bool.or_false]
theorem up_gt {c b : Nat} (h : c.testBit b = false) : c < upN c b := by
  rcases Nat.lt_or_ge c (upN c b) with h1 | h1
  · exact h1
  · have e : upN c b = c := Nat.le_antisymm h1 (up_ge c b)
    have : (upN c b).testBit b = true := by rw [up_bit, decide_eq_true rfl, Bool.or_true]
    rw [e, h] at this; cases this
theorem up_ne {c b : Nat} : upN c b ≠ c ↔ c.testBit b = false := by
  constructor
  · intro h
    cases hb : c.testBit b with
    | true => exact absurd (up_same hb) h
    | false => rfl
  · intro h e
    have := up_gt h; omega
theorem up_sub_iff (c b x : Nat) : subN (upN c b) x = true ↔ subN c x = true ∧ x.testBit b = true := by
  rw [subN_iff, subN_iff]
  constructor
  · intro h
    exact ⟨fun k hk => h k (by rw [up_bit, hk]; rfl), h b (by rw [up_bit, decide_eq_true rfl, Bool.or_true])⟩
  · intro h k hk
    rw [up_bit, Bool.or_eq_true] at hk
    rcases hk with hk | hk
    · exact h.1 k hk
    · have := of_decide_eq_true hk; subst this; exact h.2
def onK (e : List Int) (c : Nat) : Nat → Bool
  | 0 => false
  | k + 1 => onK e c k || subN c (e.getD k 0).toNat
def ovK (e : List Int) (c : Nat) : Nat → Nat
  | 0 => 0
  | k + 1 => if subN c (e.getD k 0).toNat = true then ovK e c k ||| (e.getD k 0).toNat else ovK e c k
theorem onK_iff (e : List Int) (c : Nat) : ∀ k, onK e c k = true ↔ ∃ j, j < k ∧ subN c (e.getD j 0).toNat = true
  | 0 => ⟨fun h => (by cases h), fun ⟨j, h, _⟩ => by omega⟩
  | k + 1 => by
    unfold onK
    rw [Bool.or_eq_true, onK_iff e c k]
    constructor
    · rintro (⟨j, h1, h2⟩ | h)
      · exact ⟨j, by omega, h2⟩
      · exact ⟨k, by omega, h⟩
    · rintro ⟨j, h1, h2⟩
      by_cases hj : j = k
      · subst hj; exact .inr h2
      · exact .inl ⟨j, by omega, h2⟩
theorem ovK_iff (e : List Int) (c b : Nat) : ∀ k, (ovK e c k).testBit b = true ↔ ∃ j, j < k ∧ subN c (e.getD j 0).toNat = true ∧ (e.getD j 0).toNat.testBit b = true
  | 0 => ⟨fun h => by simp [ovK] at h, fun ⟨j, h, _⟩ => by omega⟩
  | k + 1 => by
    unfold ovK
    split
    · rename_i hs
      rw [Nat.testBit_or, Bool.or_eq_true, ovK_iff e c b k]
      constructor
      · rintro (⟨j, h1, h2⟩ | h)
        · exact ⟨j, by omega, h2⟩
        · exact ⟨k, by omega, hs, h⟩
      · rintro ⟨j, h1, h2⟩
        by_cases hj : j = k
        · subst hj; exact .inr h2.2
        · exact .inl ⟨j, by omega, h2⟩
    · rename_i hs
      rw [ovK_iff e c b k]
      constructor
      · rintro ⟨j, h1, h2⟩; exact ⟨j, by omega, h2⟩
      · rintro ⟨j, h1, h2⟩
        by_cases hj : j = k
        · subst hj; exact absurd h2.1 hs
        · exact ⟨j, by omega, h2⟩
theorem ovK_none {e : List Int} {c : Nat} : ∀ {k}, onK e c k = false → ovK e c k = 0
  | 0, _ => rfl
  | k + 1, h => by
    unfold onK at h
    rw [Bool.or_eq_false_iff] at h
    unfold ovK
    rw [if_neg (by rw [h.2]; decide)]
    exact ovK_none h.1
def CellsP (e : List Int) : Prop := ∀ j, 0 ≤ e.getD j 0 ∧ e.getD j 0 ≤ 127
theorem ovK_lt {e : List Int} (he : CellsP e) (c : Nat) : ∀ k, ovK e c k < 128
  | 0 => by simp [ovK]
  | k + 1 => by
    have ih := ovK_lt he c k
    unfold ovK
    split
    · have := he k
      exact @Nat.or_lt_two_pow _ _ 7 ih (show _ < 128 by omega)
    · exact ih
def onN (e : List Int) (c : Nat) : Bool := onK e c e.length
def litN (e : List Int) (c : Nat) : Nat := ovK e c e.length ^^^ (ovK e c e.length &&& c)
theorem lit_bit (e : List Int) (c b : Nat) : (litN e c).testBit b = ((ovK e c e.length).testBit b && !c.testBit b) := by
  unfold litN
  rw [Nat.testBit_xor, Nat.testBit_and]
  cases (ovK e c e.length).testBit b <;> cases c.testBit b <;> rfl
theorem lit_lt {e : List Int} (he : CellsP e) (c : Nat) : litN e c < 128 := by
  have h := ovK_lt he c e.length
  exact @Nat.xor_lt_two_pow _ _ 7 h (show _ < 128 from Nat.lt_of_le_of_lt Nat.and_le_left h)
theorem lit_ok (e : List Int) (c b : Nat) : bitN (litN e c) b = true ↔ upN c b ≠ c ∧ onN e (upN c b) = true := by
  rw [bitN_test, lit_bit, up_ne, Bool.and_eq_true, ovK_iff]
  unfold onN
  rw [onK_iff]
  constructor
  · rintro ⟨⟨j, h1, h2, h3⟩, h4⟩
    exact ⟨by simpa using h4, j, h1, (up_sub_iff _ _ _).2 ⟨h2, h3⟩⟩
  · rintro ⟨h4, j, h1, h2⟩
    have := (up_sub_iff _ _ _).1 h2
    exact ⟨⟨j, h1, this.1, this.2⟩, by simp [h4]⟩
theorem on_lt {e : List Int} (he : CellsP e) {c : Nat} (h : onN e c = true) : c < 128 := by
  obtain ⟨j, h3, h4⟩ := (onK_iff e c _).1 h
  have := subN_le h4; have := he j; omega
def nxK (e : List Int) (c : Nat) : Nat → List Nat
  | 0 => []
  | m + 1 => if bitN (litN e c) m = true then nxK e c m ++ [upN c m] else nxK e c m
theorem nxK_succ (e : List Int) (c m : Nat) : nxK e c (m + 1) = if bitN (litN e c) m = true then nxK e c m ++ [upN c m] else nxK e c m := rfl
theorem nxK_len (e : List Int) (c : Nat) : ∀ m, (nxK e c m).length ≤ m
  | 0 => Nat.le_refl _
  | m + 1 => by
    have := nxK_len e c m
    unfold nxK
    split <;> simp <;> omega
theorem nxK_mem {e : List Int} {c x : Nat} : ∀ m, x ∈ nxK e c m ↔ ∃ b, b < m ∧ bitN (litN e c) b = true ∧ x = upN c b
  | 0 => ⟨fun h => by simp [nxK] at h, fun ⟨b, h, _⟩ => by omega⟩
  | m + 1 => by
    unfold nxK
    split
    · rename_i hs
      rw [List.mem_append, nxK_mem m, List.mem_singleton]
      constructor
      · rintro (⟨b, h1, h2⟩ | h)
        · exact ⟨b, by omega, h2⟩
        · exact ⟨m, by omega, hs, h⟩
      · rintro ⟨b, h1, h2, h3⟩
        by_cases hb : b = m
        · subst hb; exact .inr h3
        · exact .inl ⟨b, by omega, h2, h3⟩
    · rename_i hs
      rw [nxK_mem m]
      constructor
      · rintro ⟨b, h1, h2⟩; exact ⟨b, by omega, h2⟩
      · rintro ⟨b, h1, h2, h3⟩
        by_cases hb : b = m
        · subst hb; exact absurd h2 hs
        · exact ⟨b, by omega, h2, h3⟩
theorem nx_gt {e : List Int} {c x m : Nat} (h : x ∈ nxK e c m) : c < x := by
  obtain ⟨b, _, h2, rfl⟩ := (nxK_mem m).1 h
  exact up_gt (up_ne.1 ((lit_ok e c b).1 h2).1)
theorem nx_on {e : List Int} {c x m : Nat} (h : x ∈ nxK e c m) : onN e x = true := by
  obtain ⟨b, _, h2, rfl⟩ := (nxK_mem m).1 h
  exact ((lit_ok e c b).1 h2).2
theorem nx_lt {e : List Int} (he : CellsP e) {c x m : Nat} (h : x ∈ nxK e c m) : x < 128 := on_lt he (nx_on h)
def vF {α : Type} (f : Nat → List α → α) (e : List Int) : Nat → Nat → α
  | 0, c => f c []
  | n + 1, c => f c ((nxK e c 7).map (vF f e n))
theorem vF_fuel {α : Type} (f : Nat → List α → α) {e : List Int} (he : CellsP e) : ∀ (n m c : Nat), c < 128 → 128 - c ≤ n → 128 - c ≤ m → vF f e n c = vF f e m c
  | 0, m, c, h, h1, _ => by omega
  | n + 1, 0, c, h, _, h2 => by omega
  | n + 1, m + 1, c, h, h1, h2 => by
    show f c _ = f c _
    congr 1
    refine List.map_congr_left fun x hx => ?_
    have := nx_gt hx
    have := nx_lt he hx
    exact vF_fuel f he n m x (by omega) (by omega) (by omega)
theorem vF_succ {α : Type} (f : Nat → List α → α) (e : List Int) (n c : Nat) : vF f e (n + 1) c = f c ((nxK e c 7).map (vF f e n)) := rfl
noncomputable def fuelV : Nat := Classical.choose (⟨128, rfl⟩ : ∃ n : Nat, n = 128)
theorem fuelV_eq : fuelV = 128 := Classical.choose_spec (⟨128, rfl⟩ : ∃ n : Nat, n = 128)
noncomputable def val {α : Type} (f : Nat → List α → α) (e : List Int) (c : Nat) : α := vF f e fuelV c
theorem val_eq {α : Type} (f : Nat → List α → α) {e : List Int} (he : CellsP e) {c : Nat} (h : c < 128) : val f e c = f c ((nxK e c 7).map (val f e)) := by
  have h2 : ∀ n, n = 128 → vF f e (n - 1 + 1) c = f c ((nxK e c 7).map (vF f e n)) := fun n hn => by
    rw [vF_succ]
    congr 1
    refine List.map_congr_left fun x hx => ?_
    have := nx_gt hx
    have := nx_lt he hx
    exact vF_fuel f he _ _ x (by omega) (by omega) (by omega)
  have := h2 fuelV fuelV_eq
  rw [show fuelV - 1 + 1 = fuelV from Nat.sub_add_cancel (by rw [fuelV_eq]; decide)] at this
  exact this
theorem down_ind {e : List Int} (he : CellsP e) {p : Nat → Prop} (h : ∀ c, c < 128 → (∀ x ∈ nxK e c 7, p x) → p c) : ∀ c, c < 128 → p c := by
  have : ∀ n c, c < 128 → 128 - c ≤ n → p c := by
    intro n
    induction n with
    | zero => intro c h1 h2; omega
    | succ n ih =>
      intro c h1 h2
      exact h c h1 fun x hx => ih x (nx_lt he hx) (by have := nx_gt hx; have := nx_lt he hx; omega)
  exact fun c hc => this 128 c hc (by omega)
def tE (e : List Int) (V : Nat → PV) : Nat → List (PV × PV)
  | 0 => []
  | k + 1 => if onN e (127 - k) = true then tE e V k ++ [(.int .i64 ((127 - k : Nat) : Int), V (127 - k))] else tE e V k
theorem tE_succ (e : List Int) (V : Nat → PV) (k : Nat) : tE e V (k + 1) = if onN e (127 - k) = true then tE e V k ++ [(.int .i64 ((127 - k : Nat) : Int), V (127 - k))] else tE e V k := rfl
theorem tE_mem {e : List Int} {V : Nat → PV} {q : PV × PV} : ∀ {k}, k ≤ 128 → q ∈ tE e V k → ∃ x : Nat, 128 - k ≤ x ∧ x < 128 ∧ onN e x = true ∧ q = (.int .i64 (x : Int), V x)
  | 0, _, h => by simp [tE] at h
  | k + 1, hk, h => by
    rw [tE_succ] at h
    split at h
    · rename_i ho
      rcases List.mem_append.1 h with h | h
      · obtain ⟨x, h1, h2⟩ := tE_mem (by omega) h
        exact ⟨x, by omega, h2⟩
      · exact ⟨127 - k, by omega, by omega, ho, List.mem_singleton.1 h⟩
    · obtain ⟨x, h1, h2⟩ := tE_mem (by omega) h
      exact ⟨x, by omega, h2⟩
theorem key_i64 (a b : Int) : keyEq (.int .i64) (.int .i64 a) (.int .i64 b) = some (decide (a = b)) := by
  have : intEq a b = decide (a = b) := by rw [intEq_eq]; rfl
  simp only [keyEq, this]; rfl
theorem findE_no {k : PV} {t : TK} : ∀ (es : List (PV × PV)) (i : Nat), (∀ q ∈ es, keyEq t k q.1 = some false) → findE t k es i = some none
  | [], i, _ => rfl
  | (k', p) :: r, i, h => by
    have h1 := h (k', p) List.mem_cons_self
    unfold findE
    rw [h1]
    exact findE_no r (i + 1) fun q hq => h q (List.mem_cons_of_mem _ hq)
theorem findE_app {k : PV} {t : TK} : ∀ (es fs : List (PV × PV)) (i : Nat), findE t k es i = some none → findE t k (es ++ fs) i = findE t k fs (i + es.length)
  | [], fs, i, _ => rfl
  | (k', p) :: r, fs, i, h => by
    unfold findE at h
    show (match keyEq t k k' with | some true => some (some (i, p)) | some false => findE t k (r ++ fs) (i + 1) | none => none) = _
    cases hk : keyEq t k k' with
    | none => rw [hk] at h; cases h
    | some b =>
      cases b with
      | true => rw [hk] at h; cases h
      | false =>
        rw [hk] at h
        show findE t k (r ++ fs) (i + 1) = _
        rw [findE_app r fs (i + 1) h]
        congr 1
        rw [List.length_cons]; omega
theorem findE_appS {k : PV} {t : TK} {z : Nat × PV} : ∀ (es fs : List (PV × PV)) (i : Nat), findE t k es i = some (some z) → findE t k (es ++ fs) i = some (some z)
  | [], fs, i, h => by cases h
  | (k', p) :: r, fs, i, h => by
    unfold findE at h
    show (match keyEq t k k' with | some true => some (some (i, p)) | some false => findE t k (r ++ fs) (i + 1) | none => none) = _
    cases hk : keyEq t k k' with
    | none => rw [hk] at h; cases h
    | some b =>
      cases b with
      | true => rw [hk] at h; exact h
      | false =>
        rw [hk] at h
        exact findE_appS r fs (i + 1) h
theorem tE_miss {e : List Int} {V : Nat → PV} {c : Int} {k : Nat} (hk : k ≤ 128) (h : ∀ x : Nat, 128 - k ≤ x → x < 128 → onN e x = true → c ≠ (x : Int)) : findE (.int .i64) (.int .i64 c) (tE e V k) 0 = some none := by
  refine findE_no _ _ fun q hq => ?_
  obtain ⟨x, h1, h2, h3, rfl⟩ := tE_mem hk hq
  rw [key_i64, decide_eq_false (h x h1 h2 h3)]
theorem tE_new {e : List Int} {V : Nat → PV} {k : Nat} (hk : k < 128) : findE (.int .i64) (.int .i64 ((127 - k : Nat) : Int)) (tE e V k) 0 = some none := tE_miss (by omega) fun x h1 h2 _ h4 => by omega
def ixO (o : Option (Option (Nat × PV))) : Nat := match o with | some (some (j, _)) => j | _ => 0
theorem tE_hitX {e : List Int} {V : Nat → PV} {x : Nat} (ho : onN e x = true) : ∀ {k}, k ≤ 128 → 128 - k ≤ x → x < 128 → ∃ j, findE (.int .i64) (.int .i64 (x : Int)) (tE e V k) 0 = some (some (j, V x))
  | 0, _, h1, h2 => by omega
  | k + 1, hk, h1, h2 => by
    rw [tE_succ]
    by_cases hx : x = 127 - k
    · subst hx
      rw [if_pos ho, findE_app _ _ 0 (tE_new (by omega))]
      refine ⟨0 + (tE e V k).length, ?_⟩
      unfold findE
      rw [key_i64, decide_eq_true rfl]
    · obtain ⟨j, hj⟩ := tE_hitX ho (k := k) (by omega) (by omega) h2
      split
      · exact ⟨j, findE_appS _ _ 0 hj⟩
      · exact ⟨j, hj⟩
theorem tE_hit {e : List Int} {V : Nat → PV} {c : Int} {k x : Nat} (hc : c = (x : Int)) (ho : onN e x = true) (hk : k ≤ 128) (h1 : 128 - k ≤ x) (h2 : x < 128) : findE (.int .i64) (.int .i64 c) (tE e V k) 0 = some (some (ixO (findE (.int .i64) (.int .i64 c) (tE e V k) 0), V x)) := by
  subst hc
  obtain ⟨j, hj⟩ := tE_hitX (V := V) ho hk h1 h2
  rw [hj]; rfl
def mxG (L : List Int) : Nat → Nat → Nat
  | 0, n => n
  | f + 1, n => if hasK L (n : Int) L.length = true then mxG L f (n + 1) else n
def mxS (L : List Int) (n : Nat) : Nat := mxG L (300 - n) n
theorem mxS_yes {L : List Int} {n : Nat} (hn : n < 300) (h : hasK L (n : Int) L.length = true) : mxS L n = mxS L (n + 1) := by
  unfold mxS
  rw [show 300 - n = (300 - (n + 1)) + 1 by omega]
  show (if _ then _ else _) = _
  rw [if_pos h]
theorem mxS_no {L : List Int} {n : Nat} (hn : n < 300) (h : ¬ hasK L (n : Int) L.length = true) : mxS L n = n := by
  unfold mxS
  rw [show 300 - n = (300 - (n + 1)) + 1 by omega]
  show (if _ then _ else _) = _
  rw [if_neg h]
def mexL (L : List Int) : Int := ((mxS L 0 : Nat) : Int)
theorem hasK_mem {l : List Int} {n : Int} : ∀ {k}, k ≤ l.length → hasK l n k = true → n ∈ l
  | 0, _, h => by cases h
  | k + 1, hk, h => by
    unfold hasK at h
    rw [Bool.or_eq_true] at h
    rcases h with h | h
    · exact hasK_mem (by omega) h
    · have := of_decide_eq_true h
      rw [← this]
      rw [show l.getD k 0 = l[k] by simp [show k < l.length by omega]]
      exact List.getElem_mem _
theorem mxG_le {L : List Int} {B : Int} (hL : ∀ x ∈ L, x < B) : ∀ (f n : Nat), (n : Int) ≤ B → ((mxG L f n : Nat) : Int) ≤ B
  | 0, n, h => h
  | f + 1, n, h => by
    show ((if _ then _ else _ : Nat) : Int) ≤ B
    split
    · rename_i hh
      have := hL _ (hasK_mem (Nat.le_refl _) hh)
      exact mxG_le hL f (n + 1) (by omega)
    · exact h
theorem mexL_le {L : List Int} {B : Int} (hB : 0 ≤ B) (hL : ∀ x ∈ L, x < B) : 0 ≤ mexL L ∧ mexL L ≤ B := ⟨by unfold mexL; omega, mxG_le hL _ 0 hB⟩
def fN (_ : Nat) (L : List Int) : Int := mexL L
def fM (_ : Nat) (L : List Bool) : Bool := L.isEmpty || L.any (fun b => !b)
def stL (a x : Int) : Int := if x + 1 < a then a else x + 1
def fL (_ : Nat) (L : List Int) : Int := L.foldl stL 0
def stS (a : Int × Bool) (x : Int) : Int × Bool := (if a.2 = false ∨ x + 1 < a.1 then x + 1 else a.1, true)
def fS (_ : Nat) (L : List Int) : Int := (L.foldl stS (0, false)).1
def sumP (L : List Int) : Int := L.foldl (fun a x => a + x) 0
def fP (_ : Nat) (L : List Int) : Int := if L.isEmpty then 1 else sumP L
theorem num_le {e : List Int} (he : CellsP e) : ∀ c, c < 128 → 0 ≤ val fN e c ∧ val fN e c ≤ 128 - (c : Int) := down_ind he fun c hc ih => by
  rw [val_eq fN he hc]
  refine mexL_le (B := 128 - (c : Int)) (by omega) fun x hx => ?_
  obtain ⟨y, hy, rfl⟩ := List.mem_map.1 hx
  have := ih y hy; have := nx_gt hy; omega
theorem cnt_up {c b : Nat} (hc : c < 128) (hb : b < 7) (h : upN c b ≠ c) : cnt7 (upN c b) = cnt7 c + 1 := by
  have k : (List.range 128).all (fun c => (List.range 7).all fun b => Nat.beq (upN c b) c || Nat.beq (cnt7 (upN c b)) (cnt7 c + 1)) = true := by decide +kernel
  have := List.all_eq_true.1 k c (List.mem_range.2 hc)
  have := List.all_eq_true.1 this b (List.mem_range.2 hb)
  rw [Bool.or_eq_true] at this
  rcases this with h1 | h1
  · exact absurd (Nat.eq_of_beq_eq_true h1) h
  · exact Nat.eq_of_beq_eq_true h1
theorem cnt_le (n : Nat) : cnt7 n ≤ 7 := by unfold cnt7; omega
theorem cnt_nx {e : List Int} {c x : Nat} (hc : c < 128) (h : x ∈ nxK e c 7) : cnt7 x = cnt7 c + 1 := by
  obtain ⟨b, h1, h2, rfl⟩ := (nxK_mem 7).1 h
  exact cnt_up hc h1 ((lit_ok e c b).1 h2).1
theorem fold_add (L : List Int) (a : Int) : L.foldl (fun a x => a + x) a = a + L.foldl (fun a x => a + x) 0 := by
  induction L generalizing a with
  | nil => simp
  | cons x L ih => rw [List.foldl_cons, ih, List.foldl_cons, ih (0 + x)]; omega
theorem sumP_le {L : List Int} {B : Int} (h : ∀ x ∈ L, 0 ≤ x ∧ x ≤ B) : 0 ≤ sumP L ∧ sumP L ≤ L.length * B := by
  induction L with
  | nil => simp [sumP]
  | cons x L ih =>
    have h1 := h x List.mem_cons_self
    have h2 := ih fun y hy => h y (List.mem_cons_of_mem _ hy)
    have e : sumP (x :: L) = x + sumP L := by unfold sumP; rw [List.foldl_cons, fold_add]; omega
    have e2 : ((x :: L).length : Int) * B = L.length * B + B := by rw [List.length_cons, Int.natCast_add, Int.add_mul]; simp
    rw [e, e2]; omega
theorem fold_stL {B : Int} : ∀ (L : List Int) (a : Int), 0 ≤ a → a ≤ B → (∀ x ∈ L, 0 ≤ x ∧ x + 1 ≤ B) → 0 ≤ L.foldl stL a ∧ L.foldl stL a ≤ B
  | [], a, h1, h2, _ => ⟨h1, h2⟩
  | x :: L, a, h1, h2, h => by
    have h3 := h x List.mem_cons_self
    have h4 : 0 ≤ stL a x ∧ stL a x ≤ B := by unfold stL; split <;> omega
    exact fold_stL L _ h4.1 h4.2 fun y hy => h y (List.mem_cons_of_mem _ hy)
theorem fold_stS {B : Int} : ∀ (L : List Int) (a : Int × Bool), 0 ≤ a.1 → a.1 ≤ B → (∀ x ∈ L, 0 ≤ x ∧ x + 1 ≤ B) → 0 ≤ (L.foldl stS a).1 ∧ (L.foldl stS a).1 ≤ B
  | [], a, h1, h2, _ => ⟨h1, h2⟩
  | x :: L, a, h1, h2, h => by
    have h3 := h x List.mem_cons_self
    have h4 : 0 ≤ (stS a x).1 ∧ (stS a x).1 ≤ B := by unfold stS; dsimp only; split <;> omega
    exact fold_stS L _ h4.1 h4.2 fun y hy => h y (List.mem_cons_of_mem _ hy)
def pw7 (k : Nat) : Nat := 7 ^ k
theorem pw7_le {k : Nat} (h : k ≤ 7) : pw7 k ≤ 823543 := Nat.pow_le_pow_right (n := 7) (by omega) h
theorem pw7_succ (k : Nat) : pw7 (k + 1) = 7 * pw7 k := by unfold pw7; rw [Nat.pow_succ, Nat.mul_comm]
theorem pw7_pos (k : Nat) : 1 ≤ pw7 k := Nat.pow_pos (by omega)
theorem long_le {e : List Int} (he : CellsP e) : ∀ c, c < 128 → 0 ≤ val fL e c ∧ val fL e c ≤ 7 - (cnt7 c : Int) := down_ind he fun c hc ih => by
  rw [val_eq fL he hc]
  have := cnt_le c
  refine fold_stL _ 0 (by omega) (by omega) fun x hx => ?_
  obtain ⟨y, hy, rfl⟩ := List.mem_map.1 hx
  have := ih y hy; have := cnt_nx hc hy; omega
theorem short_le {e : List Int} (he : CellsP e) : ∀ c, c < 128 → 0 ≤ val fS e c ∧ val fS e c ≤ 7 - (cnt7 c : Int) := down_ind he fun c hc ih => by
  rw [val_eq fS he hc]
  have := cnt_le c
  refine fold_stS _ (0, false) (by decide) (by dsimp only; omega) fun x hx => ?_
  obtain ⟨y, hy, rfl⟩ := List.mem_map.1 hx
  have := ih y hy; have := cnt_nx hc hy; omega
theorem plays_le {e : List Int} (he : CellsP e) : ∀ c, c < 128 → 0 ≤ val fP e c ∧ val fP e c ≤ (pw7 (7 - cnt7 c) : Int) := down_ind he fun c hc ih => by
  rw [val_eq fP he hc]
  have h7 := cnt_le c
  have hp := pw7_pos (7 - cnt7 c)
  unfold fP
  split
  · omega
  · rename_i hne
    have hcn : ∀ y ∈ nxK e c 7, cnt7 y = cnt7 c + 1 := fun y hy => cnt_nx hc hy
    have hl := nxK_len e c 7
    obtain ⟨y0, hy0⟩ : ∃ y, y ∈ nxK e c 7 := by
      cases hN : nxK e c 7 with
      | nil => rw [hN] at hne; exact absurd rfl hne
      | cons a b => exact ⟨a, List.mem_cons_self⟩
    have h8 := hcn y0 hy0
    have h9 := cnt_le y0
    have := sumP_le (L := (nxK e c 7).map (val fP e)) (B := (pw7 (7 - cnt7 c - 1) : Int)) fun x hx => by
      obtain ⟨y, hy, rfl⟩ := List.mem_map.1 hx
      have h1 := ih y hy
      rw [hcn y hy, show 7 - (cnt7 c + 1) = 7 - cnt7 c - 1 by omega] at h1
      exact h1
    refine ⟨this.1, Int.le_trans this.2 ?_⟩
    have e2 := pw7_succ (7 - cnt7 c - 1)
    rw [show 7 - cnt7 c - 1 + 1 = 7 - cnt7 c by omega] at e2
    rw [e2, List.length_map]
    have : ((nxK e c 7).length : Int) * (pw7 (7 - cnt7 c - 1) : Int) ≤ 7 * (pw7 (7 - cnt7 c - 1) : Int) := Int.mul_le_mul_of_nonneg_right (by omega) (by omega)
    omega
def rowsF (f : Nat → List PV) : Nat → List PV
  | 0 => []
  | n + 1 => rowsF f n ++ f n
theorem rowsF_len {f : Nat → List PV} {s : Nat} (hf : ∀ i, (f i).length = s) : ∀ n, (rowsF f n).length = n * s
  | 0 => by simp [rowsF]
  | n + 1 => by
    show (rowsF f n ++ f n).length = (n + 1) * s
    rw [List.length_append, rowsF_len hf n, hf n, Nat.succ_mul]
theorem rowsF_at {f : Nat → List PV} {s : Nat} (hf : ∀ i, (f i).length = s) {i : Nat} : ∀ {n}, i < n → ((rowsF f n).drop (i * s)).take s = f i
  | 0, h => by omega
  | n + 1, h => by
    show ((rowsF f n ++ f n).drop (i * s)).take s = f i
    have hl := rowsF_len hf n
    have hi := hf i
    by_cases e : i = n
    · subst e
      rw [List.drop_left' hl, List.take_of_length_le (by omega)]
    · have h2 : i * s + s ≤ n * s := by
        have : (i + 1) * s ≤ n * s := Nat.mul_le_mul_right s (by omega)
        rwa [Nat.succ_mul] at this
      rw [List.drop_append_of_le_length (by omega), List.take_append_of_le_length (by rw [List.length_drop]; omega)]
      exact rowsF_at hf (by omega)
theorem rowsF_congr {f g : Nat → List PV} : ∀ {n}, (∀ i, i < n → f i = g i) → rowsF f n = rowsF g n
  | 0, _ => rfl
  | n + 1, h => by
    show rowsF f n ++ f n = rowsF g n ++ g n
    rw [rowsF_congr (n := n) fun i hi => h i (by omega), h n (by omega)]
theorem rowsF_put {f g : Nat → List PV} {s : Nat} (hf : ∀ i, (f i).length = s) {i : Nat} {v : List PV} (hv : v.length = s) (hi : g i = v) : ∀ {n}, i < n → (∀ j, j < n → j ≠ i → g j = f j) → putAt (rowsF f n) (i * s) v = rowsF g n
  | 0, h, _ => by omega
  | n + 1, h, hg => by
    have hl := rowsF_len hf n
    unfold putAt
    show (rowsF f n ++ f n).take (i * s) ++ v ++ (rowsF f n ++ f n).drop (i * s + v.length) = rowsF g n ++ g n
    by_cases e : i = n
    · subst e
      rw [List.take_left' hl, hi, List.drop_eq_nil_of_le (by rw [List.length_append, hl, hf, hv]; exact Nat.le_refl _), List.append_nil, rowsF_congr (f := f) (g := g) fun j hj => (hg j (by omega) (by omega)).symm]
    · have h2 : i * s + s ≤ n * s := by
        have : (i + 1) * s ≤ n * s := Nat.mul_le_mul_right s (by omega)
        rwa [Nat.succ_mul] at this
      rw [List.take_append_of_le_length (by omega), List.drop_append_of_le_length (by omega), hg n (by omega) (fun z => e z.symm), ← List.append_assoc]
      congr 1
      exact rowsF_put hf hv hi (by omega) fun j hj => hg j (by omega)
noncomputable def knV (e : List Int) (x : Nat) : List PV := [.int .i64 (val fN e x), .bool (decide (val fM e x = true)), .int .i64 (val fL e x), .int .i64 (val fS e x), .int .i64 (val fP e x)]
def knZ : List PV := [.int .i64 0, .bool false, .int .i64 0, .int .i64 0, .int .i64 0]
noncomputable def knC (e : List Int) (m x : Nat) : List PV := if m ≤ x then knV e x else knZ
theorem knC_len (e : List Int) (m : Nat) (x : Nat) : (knC e m x).length = 5 := by unfold knC; split <;> rfl
noncomputable def outC (e : List Int) (m : Nat) : List PV := rowsF (knC e m) fuelV
theorem outC_len (e : List Int) (m : Nat) : (outC e m).length = 640 := by
  unfold outC
  rw [rowsF_len (knC_len e m) fuelV, fuelV_eq]
theorem outC_at (e : List Int) {m x : Nat} (h : m ≤ x) (h2 : x < 128) : ((outC e m).drop (x * 5)).take 5 = knV e x := by
  unfold outC
  rw [rowsF_at (knC_len e m) (by rw [fuelV_eq]; exact h2)]
  unfold knC; rw [if_pos h]
theorem outC_put (e : List Int) {m : Nat} (h2 : m < 128) : putAt (outC e (m + 1)) (m * 5) (knV e m) = outC e m := by
  unfold outC
  refine rowsF_put (knC_len e (m + 1)) rfl (by unfold knC; rw [if_pos (Nat.le_refl _)]) (by rw [fuelV_eq]; exact h2) fun j _ hj => ?_
  unfold knC
  by_cases h : m ≤ j
  · rw [if_pos h, if_pos (by omega)]
  · rw [if_neg h, if_neg (by omega)]
noncomputable def allC (e : List Int) : List PV := outC e 0
theorem sub_iffI {c : Int} {x : Nat} (h : 0 ≤ c) : ((c.toNat &&& x : Nat) : Int) = c ↔ subN c.toNat x = true := by
  unfold subN
  constructor
  · intro e
    have : c.toNat &&& x = c.toNat := by omega
    rw [this]; exact Nat.beq_refl _
  · intro e
    have := Nat.eq_of_beq_eq_true e
    omega
theorem dcd_at {l : List Int} {j : Nat} (h : j < l.length) : (dcd l).getD j 0 = digT.getD (l.getD j 0).toNat 0 := by
  unfold dcd
  rw [List.getD_eq_getElem?_getD, List.getElem?_map, List.getElem?_eq_getElem h, show l.getD j 0 = l[j] by simp [h]]; rfl
theorem dcd_cells (l : List Int) : CellsP (dcd l) := fun j => by
  by_cases h : j < l.length
  · rw [dcd_at h]; exact digT_cell _
  · have : (dcd l).getD j 0 = 0 := by
      rw [List.getD_eq_getElem?_getD, List.getElem?_eq_none (by rw [dcd_len]; omega)]; rfl
    rw [this]; omega
theorem dig_ten {l : List Int} (h : DigP l) : l.length ≤ 10 := ord_len h.2
def WayP (c : Int) (l : List Int) : Prop := DigP l ∧ (0 ≤ c ∧ c ≤ 127) ∧ onN (dcd l) c.toNat = true
instance (c : Int) (l : List Int) : Decidable (WayP c l) := by unfold WayP; infer_instance
theorem onN_dcd (l : List Int) (c : Nat) : onN (dcd l) c = onK (dcd l) c l.length := by unfold onN; rw [dcd_len]
theorem on_succN {l : List Int} {c : Nat} {i : Nat} (hi : i < l.length) (h0 : onK (dcd l) c i = false) (h : ¬ subN c (digT.getD (l.getD i 0).toNat 0).toNat = true) : onK (dcd l) c (i + 1) = false := by
  unfold onK
  rw [h0, dcd_at hi]
  simpa using h
theorem on_yes {l : List Int} {c : Nat} {i : Nat} (hi : i < l.length) (h : subN c (digT.getD (l.getD i 0).toNat 0).toNat = true) : onN (dcd l) c = true := by
  rw [onN_dcd, onK_iff]
  exact ⟨i, hi, by rw [dcd_at hi]; exact h⟩
def upI (c b : Int) : Int := ((upN c.toNat b.toNat : Nat) : Int)
theorem upI_le {c b : Int} (hc : 0 ≤ c ∧ c ≤ 127) (hb : 0 ≤ b ∧ b ≤ 6) : 0 ≤ upI c b ∧ upI c b ≤ 127 := by
  have := up_lt (c := c.toNat) (b := b.toNat) (by omega) (by omega)
  unfold upI; omega
def okI (l : List Int) (c b : Int) : Prop := bitN (litN (dcd l) c.toNat) b.toNat = true
instance (l : List Int) (c b : Int) : Decidable (okI l c b) := by unfold okI; infer_instance
theorem okI_iff {l : List Int} {c b : Int} (h0 : 0 ≤ c) : okI l c b ↔ upI c b ≠ c ∧ onN (dcd l) (upI c b).toNat = true := by
  unfold okI
  rw [lit_ok]
  unfold upI
  rw [Int.toNat_natCast]
  constructor
  · rintro ⟨h1, h2⟩; exact ⟨fun e => h1 (by omega), h2⟩
  · rintro ⟨h1, h2⟩; exact ⟨fun e => h1 (by omega), h2⟩
noncomputable def kM (e : List Int) (N : List Nat) : Bool := (N.map (val fM e)).any fun b => !b
noncomputable def kL (e : List Int) (N : List Nat) : Int := (N.map (val fL e)).foldl stL 0
noncomputable def kS (e : List Int) (N : List Nat) : Int × Bool := (N.map (val fS e)).foldl stS (0, false)
noncomputable def kP (e : List Int) (N : List Nat) : Int := sumP (N.map (val fP e))
noncomputable def kN (e : List Int) (N : List Nat) : List Int := N.map (val fN e)
theorem kM_app (e : List Int) (N : List Nat) (x : Nat) : kM e (N ++ [x]) = (kM e N || !val fM e x) := by simp [kM]
theorem kL_app (e : List Int) (N : List Nat) (x : Nat) : kL e (N ++ [x]) = stL (kL e N) (val fL e x) := by simp [kL]
theorem kS_app (e : List Int) (N : List Nat) (x : Nat) : kS e (N ++ [x]) = stS (kS e N) (val fS e x) := by simp [kS]
theorem kP_app (e : List Int) (N : List Nat) (x : Nat) : kP e (N ++ [x]) = kP e N + val fP e x := by simp [kP, sumP]
theorem kN_app (e : List Int) (N : List Nat) (x : Nat) : kN e (N ++ [x]) = kN e N ++ [val fN e x] := by simp [kN]
theorem kS_emp : ∀ (L : List Int) (a : Int × Bool), (L.foldl stS a).2 = (a.2 || !L.isEmpty)
  | [], a => by simp
  | x :: L, a => by
    show (L.foldl stS (stS a x)).2 = _
    rw [kS_emp L]
    simp [stS]
theorem kS_some (e : List Int) (N : List Nat) : (kS e N).2 = !N.isEmpty := by
  unfold kS
  rw [kS_emp]; cases N <;> rfl
theorem val_lt {e : List Int} (he : CellsP e) {N : List Nat} (hN : ∀ x ∈ N, x < 128) : (∀ x ∈ kN e N, 0 ≤ x ∧ x ≤ 128) ∧ (0 ≤ kL e N ∧ kL e N ≤ 8) ∧ (0 ≤ (kS e N).1 ∧ (kS e N).1 ≤ 8) ∧ (0 ≤ kP e N ∧ kP e N ≤ N.length * 823543) := by
  refine ⟨fun x hx => ?_, ?_, ?_, ?_⟩
  · obtain ⟨y, hy, rfl⟩ := List.mem_map.1 hx
    have := num_le he y (hN y hy); omega
  · refine fold_stL _ 0 (by omega) (by omega) fun x hx => ?_
    obtain ⟨y, hy, rfl⟩ := List.mem_map.1 hx
    have := long_le he y (hN y hy); omega
  · refine fold_stS _ (0, false) (by decide) (by decide) fun x hx => ?_
    obtain ⟨y, hy, rfl⟩ := List.mem_map.1 hx
    have := short_le he y (hN y hy); omega
  · have := sumP_le (L := N.map (val fP e)) (B := 823543) fun x hx => by
      obtain ⟨y, hy, rfl⟩ := List.mem_map.1 hx
      have h1 := plays_le he y (hN y hy)
      have h2 := pw7_le (k := 7 - cnt7 y) (by omega)
      omega
    rwa [List.length_map] at this
theorem cell_bd {e : List Int} (he : CellsP e) {x : Nat} (h : x < 128) : (0 ≤ val fN e x ∧ val fN e x ≤ 128) ∧ (0 ≤ val fL e x ∧ val fL e x ≤ 7) ∧ (0 ≤ val fS e x ∧ val fS e x ≤ 7) ∧ (0 ≤ val fP e x ∧ val fP e x ≤ 823543) := by
  have h1 := num_le he x h
  have h2 := long_le he x h
  have h3 := short_le he x h
  have h4 := plays_le he x h
  have h5 := pw7_le (k := 7 - cnt7 x) (by omega)
  omega
theorem knV_of {e : List Int} (he : CellsP e) {c : Nat} (hc : c < 128) {n : Int} (hn : n = mexL (kN e (nxK e c 7))) (N : List Nat) (hN : N = nxK e c 7) : knV e c = [.int .i64 n, .bool (decide ((N.isEmpty || kM e N) = true)), .int .i64 (kL e N), .int .i64 (kS e N).1, .int .i64 (if N.isEmpty then 1 else kP e N)] := by
  subst hN; subst hn
  have h0 : ∀ {α : Type} (f : Nat → α), ((nxK e c 7).map f).isEmpty = (nxK e c 7).isEmpty := fun f => by cases nxK e c 7 <;> rfl
  unfold knV
  rw [val_eq fN he hc, val_eq fM he hc, val_eq fL he hc, val_eq fS he hc, val_eq fP he hc]
  show [_, PV.bool (decide ((((nxK e c 7).map (val fM e)).isEmpty || _) = true)), _, _, PV.int .i64 (if ((nxK e c 7).map (val fP e)).isEmpty = true then 1 else _)] = _
  rw [h0, h0]; rfl
theorem zeros_rows (v : List PV) : ∀ k, zeros v k = rowsF (fun _ => v) k
  | 0 => by simp [zeros, rowsF]
  | k + 1 => by
    show _ = rowsF (fun _ => v) k ++ v
    rw [← zeros_rows v k]
    unfold zeros
    rw [Nat.succ_mul, List.range_add, List.map_append, List.map_map]
    congr 1
    apply List.ext_getElem (by simp)
    intro j h1 h2
    simp only [List.getElem_map, List.getElem_range, Function.comp_apply]
    rw [Nat.mul_comm k, Nat.mul_add_mod, Nat.mod_eq_of_lt h2]
    simp [h2]
theorem zeros_out (e : List Int) (n : Nat) (h : n = 128) : zeros [.int .i64 0, .bool false, .int .i64 0, .int .i64 0, .int .i64 0] n = outC e n := by
  rw [zeros_rows]
  unfold outC
  rw [show fuelV = n from fuelV_eq.trans h.symm]
  refine rowsF_congr fun i hi => ?_
  unfold knC
  rw [if_neg (by omega)]; rfl
theorem nx_okS {l : List Int} {c b : Int} (hb : 0 ≤ b) (h : okI l c b) : nxK (dcd l) c.toNat (b + 1).toNat = nxK (dcd l) c.toNat b.toNat ++ [(upI c b).toNat] := by
  rw [show (b + 1).toNat = b.toNat + 1 by omega, nxK_succ, if_pos (show bitN _ _ = true from h)]
  unfold upI
  rw [Int.toNat_natCast]
theorem nx_noS {l : List Int} {c b : Int} (hb : 0 ≤ b) (h : ¬ okI l c b) : nxK (dcd l) c.toNat (b + 1).toNat = nxK (dcd l) c.toNat b.toNat := by
  rw [show (b + 1).toNat = b.toNat + 1 by omega, nxK_succ, if_neg (show ¬ bitN _ _ = true from h)]
theorem up_gtI {l : List Int} {c b : Int} (h0 : 0 ≤ c) (h : okI l c b) : c < upI c b := by
  have h1 := ((okI_iff h0).1 h).1
  have h2 := up_ge c.toNat b.toNat
  unfold upI at h1 ⊢
  omega
theorem kM_yes {e : List Int} {N : List Nat} {x : Nat} (h : kM e N = true) : true = decide (kM e (N ++ [x]) = true) := by
  rw [kM_app, h]; rfl
theorem kM_no {e : List Int} {N : List Nat} {x : Nat} (h : ¬ kM e N = true) : decide (¬ val fM e x = true) = decide (kM e (N ++ [x]) = true) := by
  have h2 : kM e N = false := by simpa using h
  rw [kM_app, h2]
  cases val fM e x <;> rfl
theorem cS_1 {e : List Int} {N : List Nat} {x : Nat} (h : ¬ (kS e N).2 = true) : val fS e x + 1 = (kS e (N ++ [x])).1 := by
  have h2 : (kS e N).2 = false := by simpa using h
  rw [kS_app]
  unfold stS
  rw [if_pos (.inl h2)]
theorem cS_2 {e : List Int} {N : List Nat} {x : Nat} (h : val fS e x + 1 < (kS e N).1) : val fS e x + 1 = (kS e (N ++ [x])).1 := by
  rw [kS_app]
  unfold stS
  rw [if_pos (.inr h)]
theorem cS_3 {e : List Int} {N : List Nat} {x : Nat} (h0 : (kS e N).2 = true) (h : ¬ val fS e x + 1 < (kS e N).1) : (kS e N).1 = (kS e (N ++ [x])).1 := by
  rw [kS_app]
  unfold stS
  rw [if_neg (fun z => z.elim (fun z => by rw [h0] at z; cases z) h)]
noncomputable def kcL (e : List Int) (N : List Nat) : List PV := [.int .i64 0, .bool (decide (kM e N = true)), .int .i64 (kL e N), .int .i64 (kS e N).1, .int .i64 (kP e N)]
noncomputable def kdL (e : List Int) (N : List Nat) (n : Int) : List PV := [.int .i64 n, .bool (decide ((N.isEmpty || kM e N) = true)), .int .i64 (kL e N), .int .i64 (kS e N).1, .int .i64 (if N.isEmpty = true then 1 else kP e N)]
theorem kc_eq {e : List Int} {N N2 : List Nat} {x : Nat} {A : Bool} {C : Int} (hN : N2 = N ++ [x]) (hA : A = decide (kM e (N ++ [x]) = true)) (hC : C = (kS e (N ++ [x])).1) : [.int .i64 0, .bool A, .int .i64 (if val fL e x + 1 < kL e N then kL e N else val fL e x + 1), .int .i64 C, .int .i64 (kP e N + val fP e x)] = kcL e N2 := by
  subst hA; subst hC; subst hN
  unfold kcL
  rw [kL_app, kP_app]; rfl
theorem kd_emp {e : List Int} {N : List Nat} (h : ¬ (kS e N).2 = true) : [.int .i64 0, .bool true, .int .i64 (kL e N), .int .i64 (kS e N).1, .int .i64 1] = kdL e N ((0 : Nat) : Int) := by
  rw [kS_some] at h
  have h2 : N.isEmpty = true := by simpa using h
  unfold kdL
  rw [if_pos h2, h2]; rfl
theorem kd_some {e : List Int} {N : List Nat} (h : (kS e N).2 = true) : kcL e N = kdL e N ((0 : Nat) : Int) := by
  rw [kS_some] at h
  have h2 : N.isEmpty = false := by simpa using h
  unfold kdL kcL
  rw [h2]; rfl
theorem sm_app {e : List Int} {N N2 : List Nat} {x : Nat} (hN : N2 = N ++ [x]) : true = decide ((kS e N2).2 = true) := by
  subst hN
  rw [kS_app]; rfl
theorem kn_len {e : List Int} {N N2 : List Nat} {x : Nat} (hN : N2 = N ++ [x]) : (kN e N).length + 1 = (kN e N2).length := by
  subst hN
  rw [kN_app, List.length_append]; rfl
theorem kn_app {e : List Int} {N N2 : List Nat} {x : Nat} (hN : N2 = N ++ [x]) : (kN e N).map (PV.int .i64) ++ [PV.int .i64 (val fN e x)] = (kN e N2).map (PV.int .i64) := by
  subst hN
  rw [kN_app, List.map_append]; rfl
theorem kn_ln (e : List Int) (N : List Nat) : (kN e N).length = N.length := by simp [kN]
theorem out_fin {l : List Int} {c : Int} {n : Nat} {N : List Nat} (h0 : 0 ≤ c) (h1 : c ≤ 127) (hN : N = nxK (dcd l) c.toNat 7) (hn : (n : Int) = mexL (kN (dcd l) N)) : putAt (outC (dcd l) (c + 1).toNat) (c.toNat * 5) (kdL (dcd l) N n) = outC (dcd l) (c - 1 + 1).toNat := by
  have e := knV_of (dcd_cells l) (c := c.toNat) (by omega) (n := (n : Int)) (by rw [hn, hN]) N hN
  rw [show (c - 1 + 1).toNat = c.toNat by omega, ← outC_put (dcd l) (m := c.toNat) (by omega), e, show (c + 1).toNat = c.toNat + 1 by omega]; rfl
def fstI : List PV → Nat
  | .int _ n :: _ => n.toNat
  | _ => 0
theorem all_getJ (e : List Int) {x j : Nat} (h : x < 128) (hj : j < 5) : (allC e)[x * 5 + j]? = (knV e x)[j]? := by
  have h1 := outC_at e (m := 0) (Nat.zero_le x) h
  have h2 : ((((outC e 0).drop (x * 5)).take 5)[j]?) = (allC e)[x * 5 + j]? := by
    rw [List.getElem?_take, if_pos hj, List.getElem?_drop]; rfl
  rw [← h2, h1]
theorem all_n (e : List Int) {x : Nat} (h : x < 128) : (allC e)[x * 5 + 0]? = some (.int .i64 (val fN e x)) := all_getJ e h (by omega)
theorem all_dr (e : List Int) {x : Nat} (h : x < 128) : (allC e).drop (x * 5 + 0) = .int .i64 (val fN e x) :: (allC e).drop (x * 5 + 1) := by
  have h1 := all_n e h
  obtain ⟨h2, h3⟩ := List.getElem?_eq_some_iff.1 h1
  rw [List.drop_eq_getElem_cons h2, h3]
def shE (e : List Int) (c : Nat) : Bool := hasK e (c : Int) e.length
def RcP (c : Int) (l : List Int) : Prop := WayP c l ∧ ¬ shE (dcd l) c.toNat = true
instance (c : Int) (l : List Int) : Decidable (RcP c l) := by unfold RcP; infer_instance
def WroP (r l : List Int) : Prop := DigP l ∧ RowP r ∧ ∀ j, j < r.length → onN (dcd l) (r.getD j 0).toNat = true
instance (r l : List Int) : Decidable (WroP r l) := by
  unfold WroP
  have : Decidable (∀ j, j < r.length → onN (dcd l) (r.getD j 0).toNat = true) := Nat.decidableBallLT _ _
  infer_instance
noncomputable def xrK (e r : List Int) : Nat → Int
  | 0 => 0
  | k + 1 => (((xrK e r k).toNat ^^^ (val fN e (r.getD k 0).toNat).toNat : Nat) : Int)
theorem xrK_le {e r : List Int} (he : CellsP e) (hr : ∀ j, j < r.length → 0 ≤ r.getD j 0 ∧ r.getD j 0 ≤ 127) : ∀ k, k ≤ r.length → 0 ≤ xrK e r k ∧ xrK e r k ≤ 255
  | 0, _ => by simp [xrK]
  | k + 1, h => by
    have h1 := xrK_le he hr k (by omega)
    have h2 := hr k (by omega)
    have h3 := num_le he (r.getD k 0).toNat (by omega)
    have h4 := @Nat.xor_lt_two_pow (xrK e r k).toNat (val fN e (r.getD k 0).toNat).toNat 8 (show _ < 256 by omega) (show _ < 256 by omega)
    unfold xrK
    omega
set_option maxRecDepth 4000 in
theorem spec_l11Goal (l : List Int) (hl : l.length ≤ 4611686018427387904) : PCalls Tryd.prog 29 [.sl l.length (l.map (.int .i64))] (· = [.val (.bool (decide (DigP l)))]) := by
  refine pcalls_of_code (n := 10) az Tryd.func29 (by kernel_rfl) rfl rfl (Nat.le_of_ble_eq_true rfl) (by intro t u h; simp [Tryd.f29] at h) ?_
  refine code_seq (fun K1 hK1 => ?_)
  refine code_region ?_
  refine list_cons rfl (op_q (q_assign rfl (by decide)) ?_)
  refine list_nil ?_
  refine hK1 _ ?_; clear hK1 K1
  refine code_seq (fun K2 hK2 => ?_)
  refine code_region ?_
  refine list_cons rfl (op_q (q_move rfl (by decide)) ?_)
  refine list_cons rfl (op_call _ (spec_l4Order _ (by omega)) rfl rfl (by decide) (by decide) (by decide) rfl ?_)
  rintro _ rfl
  refine list_cons rfl (op_q (q_move rfl (by decide)) ?_)
  refine list_guard_d rfl rfl rfl rfl (by decide) rfl (by decide) (fun h1 => ?_) (fun h1 => ?_)
  · simp only [Bool.false_eq_true, if_true, if_false, Decidable.not_not] at h1
    refine id (op_q (q_move rfl (by decide)) ?_)
    refine list_guard_y rfl rfl rfl rfl (by decide) rfl ?_
    refine id (op_q (q_len_sl Tryd.underlying22 rfl rfl (by decide)) ?_)
    refine list_guard_y rfl rfl rfl rfl (by decide) rfl ?_
    refine id (op_q (q_gt rfl rfl (by decide)) ?_)
    refine list_cons rfl (op_q (q_pick rfl rfl (by decide)) ?_)
    refine list_cons rfl (op_q (q_assign rfl (by decide)) ?_)
    refine list_nil ?_
    refine hK2 _ ?_; clear hK2 K2
    refine codeT.imp (σ' := [(0, _), (2, _)]) ?_ (imp_covers ⟨rfl, rfl, trivial⟩)
    refine code_ret ?_
    refine ends_ret (cs := []) rfl rfl rfl rfl trivial ?_
    first
      | (have h1 : ordK l l.length = true := by assumption
         congr 3
         exact decide_eq_decide.mpr ⟨fun e => ⟨by omega, h1⟩, fun e => by have := e.1; omega⟩)
      | (have h1 : ¬ ordK l l.length = true := by assumption
         rw [decide_eq_false (fun e : DigP l => h1 e.2)]; done)
  simp only [Bool.false_eq_true, if_true, if_false, Decidable.not_not] at h1
  refine list_guard_n rfl rfl rfl rfl (by decide) rfl ?_
  refine list_guard_n rfl rfl rfl rfl (by decide) rfl ?_
  refine list_cons rfl (op_q (q_pick rfl rfl (by decide)) ?_)
  refine list_cons rfl (op_q (q_assign rfl (by decide)) ?_)
  refine list_nil ?_
  refine hK2 _ ?_; clear hK2 K2
  refine code_ret ?_
  refine ends_ret (cs := []) rfl rfl rfl rfl trivial ?_
  first
    | (have h1 : ordK l l.length = true := by assumption
       congr 3
       exact decide_eq_decide.mpr ⟨fun e => ⟨by omega, h1⟩, fun e => by have := e.1; omega⟩)
    | (have h1 : ¬ ordK l l.length = true := by assumption
       rw [decide_eq_false (fun e : DigP l => h1 e.2)]; done)
set_option maxRecDepth 4000 in
theorem spec_l11Way (c : Int) (l : List Int) (hD : DigP l) (hc : 0 ≤ c ∧ c ≤ 127) : PCalls Tryd.prog 17 [.int .i64 c, .sl l.length (l.map (.int .i64))] (· = [.val (.bool (decide (onN (dcd l) c.toNat = true)))]) := by
  refine pcalls_of_code (n := 21) az Tryd.func17 (by kernel_rfl) rfl rfl (Nat.le_of_ble_eq_true rfl) (by intro t u h; simp [Tryd.f17] at h) ?_
  have hl10 := dig_ten hD
  refine code_seq (fun K1 hK1 => ?_)
  refine code_region ?_
  refine list_cons rfl (op_q (q_assign rfl (by decide)) ?_)
  refine list_nil ?_
  refine hK1 _ ?_; clear hK1 K1
  refine code_seq (fun K2 hK2 => ?_)
  refine code_seq (fun K3 hK3 => ?_)
  refine code_region ?_
  refine list_cons rfl (op_q (q_assign rfl (by decide)) ?_)
  refine list_nil ?_
  refine hK3 _ ?_; clear hK3 K3
  refine code_block ?_
  refine code_loop (X := Bool × Int) (fun x => [(0, .val (.int .i64 c)), (1, .par 1 (.sl l.length (l.map (.int .i64)))), (4, .val (.bool x.1)), (5, .val (.int .i64 x.2))]) (fun x => 0 ≤ x.2 ∧ x.2 ≤ l.length ∧ onK (dcd l) c.toNat x.2.toNat = false) (fun x => (l.length - x.2).toNat) (_, _) (imp_covers ⟨rfl, rfl, rfl, rfl, trivial⟩) ?_ ?_
  · (try dsimp only)
    exact ⟨by omega, by omega, rfl⟩
  · intro x hI
    obtain ⟨t4, i⟩ := x
    replace hI : 0 ≤ i ∧ i ≤ l.length ∧ onK (dcd l) c.toNat i.toNat = false := hI
    show codeT _ _ _ [(0, .val (.int .i64 c)), (1, .par 1 (.sl l.length (l.map (.int .i64)))), (4, .val (.bool t4)), (5, .val (.int .i64 i))] _
    obtain ⟨i1, i2, i3⟩ := hI
    have hdg := fun h => (ordK_at hD.2 (j := i.toNat) h).1
    have hdc := digT_cell (l.getD i.toNat 0).toNat
    refine code_seq (fun K4 hK4 => ?_)
    refine code_seq (fun K5 hK5 => ?_)
    refine code_region ?_
    refine list_cons rfl (op_q (q_move rfl (by decide)) ?_)
    refine list_cons rfl (op_q (q_move rfl (by decide)) ?_)
    refine list_cons rfl (op_q (q_len_sl Tryd.underlying22 rfl rfl (by decide)) ?_)
    refine list_cons rfl (op_q (q_lt rfl rfl (by decide)) ?_)
    refine list_nil ?_
    refine hK5 _ ?_; clear hK5 K5
    refine code_cond_d rfl (fun h1 => ?_) (fun h1 => ?_)
    · skip
      (try simp only [Decidable.not_not] at h1)
      refine code_skip ?_
      refine hK4 _ ?_; clear hK4 K4
      refine code_seq (fun K6 hK6 => ?_)
      refine code_block ?_
      refine code_seq (fun K7 hK7 => ?_)
      refine code_region ?_
      refine list_cons rfl (op_q (q_move rfl (by decide)) ?_)
      refine list_cons rfl (op_q (q_move rfl (by decide)) ?_)
      refine list_cons rfl (op_q (q_move rfl (by decide)) ?_)
      refine list_cons rfl (op_q (q_indexAddr_rd sl_22 rfl (.inl ⟨_, rfl, rfl⟩) rfl (by omega) (by omega) (by decide)) ?_)
      refine list_cons rfl (op_q (q_load_rd one_3 rfl (.inl ⟨_, (by first | rfl | exact congrArg (SV.rpar _) (drop_map1 _ 0 _ (by first | omega | (simp; omega)))), rfl⟩) (by decide)) ?_)
      refine list_cons rfl (op_call _ (spec_l2Digit _ (by have := hdg (by omega); omega) (by have := hdg (by omega); omega)) rfl rfl (by decide) (by decide) (by decide) rfl ?_)
      rintro _ rfl
      refine list_cons rfl (op_q (by first | exact q_andI rfl rfl (by decide) (by omega) (by omega) (by omega) (by omega) | exact q_ib rfl rfl rfl (by decide)) ?_)
      refine list_cons rfl (op_q (q_move rfl (by decide)) ?_)
      refine list_cons rfl (op_q (q_eq rfl rfl (by decide)) ?_)
      refine list_nil ?_
      refine hK7 _ ?_; clear hK7 K7
      refine codeT.imp (σ' := [(0, _), (1, _), (4, _), (5, _), (20, _)]) ?_ (imp_covers ⟨rfl, rfl, rfl, rfl, rfl, trivial⟩)
      refine code_cond_d rfl (fun h2 => ?_) (fun h2 => ?_)
      · skip
        (try simp only [Decidable.not_not] at h2)
        refine code_seq (fun K8 hK8 => ?_)
        refine code_region ?_
        refine list_cons rfl (op_q (q_assign rfl (by decide)) ?_)
        refine list_nil ?_
        refine hK8 _ ?_; clear hK8 K8
        refine code_ret ?_
        refine blk_r ?_
        refine then_r ?_; clear hK6 K6
        refine then_r ?_
        refine blk_r ?_
        refine then_r ?_; clear hK2 K2
        refine ends_ret (cs := []) rfl rfl rfl rfl trivial ?_
        first
          | (rw [decide_eq_true (on_yes (by omega) ((sub_iffI hc.1).1 h2))]; done)
          | (rw [decide_eq_false (by rw [onN_dcd, show l.length = i.toNat by omega, i3]; decide)]; done)
      (try simp only [Decidable.not_not] at h2)
      refine code_skip ?_
      refine blk_n ?_
      refine hK6 _ ?_; clear hK6 K6
      refine code_region ?_
      refine list_cons rfl (op_q (q_move rfl (by decide)) ?_)
      refine list_cons rfl (op_q (by first | exact q_addI rfl rfl (by decide) (by omega) (by omega) | exact q_ib rfl rfl rfl (by decide)) ?_)
      refine list_cons rfl (op_q (q_assign rfl (by decide)) ?_)
      refine list_nil ?_
      refine then_n ⟨(_, _), imp_covers ⟨rfl, rfl, rfl, rfl, trivial⟩, ?_, ?_⟩
      · (try dsimp only)
        exact ⟨by omega, by omega, by rw [show (i + 1).toNat = i.toNat + 1 by omega]; exact on_succN (by omega) i3 (fun e => h2 ((sub_iffI hc.1).2 e))⟩
      · (try dsimp only); omega
    (try simp only [Decidable.not_not] at h1)
    refine code_exit ?_
    refine then_x ?_; clear hK4 K4
    refine then_x ?_
    refine blk_hit ?_
    refine hK2 _ ?_; clear hK2 K2
    refine code_seq (fun K9 hK9 => ?_)
    refine code_region ?_
    refine list_cons rfl (op_q (q_assign rfl (by decide)) ?_)
    refine list_nil ?_
    refine hK9 _ ?_; clear hK9 K9
    refine code_ret ?_
    refine ends_ret (cs := []) rfl rfl rfl rfl trivial ?_
    first
      | (rw [decide_eq_true (on_yes (by omega) ((sub_iffI hc.1).1 h1))]; done)
      | (rw [decide_eq_false (by rw [onN_dcd, show l.length = i.toNat by omega, i3]; decide)]; done)
set_option maxRecDepth 4000 in
theorem spec_l11Next (c b : Int) (l : List Int) (hD : DigP l) (hc : 0 ≤ c ∧ c ≤ 127) (hb : 0 ≤ b ∧ b ≤ 6) : PCalls Tryd.prog 33 [.int .i64 c, .int .i64 b, .sl l.length (l.map (.int .i64))] (· = [.val (.int .i64 (upI c b)), .val (.bool (decide (okI l c b)))]) := by
  refine pcalls_of_code (n := 22) az Tryd.func33 (by kernel_rfl) rfl rfl (Nat.le_of_ble_eq_true rfl) (by intro t u h; simp [Tryd.f33] at h) ?_
  have hup := upI_le hc hb
  have hp2 := p2_le (k := b.toNat) (by omega)
  refine code_seq (fun K1 hK1 => ?_)
  refine code_region ?_
  refine list_cons rfl (op_q (q_assign rfl (by decide)) ?_)
  refine list_cons rfl (op_q (q_assign rfl (by decide)) ?_)
  refine list_nil ?_
  refine hK1 _ ?_; clear hK1 K1
  refine code_seq (fun K2 hK2 => ?_)
  refine code_region ?_
  refine list_cons rfl (op_q (q_move rfl (by decide)) ?_)
  refine list_cons rfl (op_q (q_move rfl (by decide)) ?_)
  refine list_cons rfl (op_q (by first | exact q_shl1 rfl rfl (by decide) (by omega) (by omega) | exact q_shlI rfl rfl (by decide) (by omega) (by omega) (by omega) | exact q_shl rfl rfl (by omega) (by decide)) ?_)
  refine list_cons rfl (op_q (by first | exact q_orI rfl rfl (by decide) (by omega) (by omega) (by omega) (by omega) | exact q_ib rfl rfl rfl (by decide)) ?_)
  refine list_cons rfl (op_q (q_assign rfl (by decide)) ?_)
  refine list_nil ?_
  refine hK2 _ ?_; clear hK2 K2
  refine code_seq (fun K3 hK3 => ?_)
  refine code_region ?_
  refine list_cons rfl (op_q (q_move rfl (by decide)) ?_)
  refine list_cons rfl (op_q (q_move rfl (by decide)) ?_)
  refine list_cons rfl (op_q (q_move rfl (by decide)) ?_)
  refine list_cons rfl (op_q (q_ne rfl rfl (by decide)) ?_)
  refine list_cons rfl (op_q (q_move rfl (by decide)) ?_)
  refine list_guard_d rfl rfl rfl rfl (by decide) rfl (by decide) (fun h1 => ?_) (fun h1 => ?_)
  · simp only [Bool.false_eq_true, if_true, if_false, Decidable.not_not] at h1
    refine id (op_q (q_move rfl (by decide)) ?_)
    refine list_guard_y rfl rfl rfl rfl (by decide) rfl ?_
    refine id (op_q (q_move rfl (by decide)) ?_)
    refine list_guard_y rfl rfl rfl rfl (by decide) rfl ?_
    refine id (op_call _ (spec_l11Way (upI c b) l hD (by assumption)) rfl rfl (by decide) (by decide) (by decide) rfl ?_)
    rintro _ rfl
    refine list_cons rfl (op_q (q_pick rfl rfl (by decide)) ?_)
    refine list_cons rfl (op_q (q_assign rfl (by decide)) ?_)
    refine list_cons rfl (op_q (q_assign rfl (by decide)) ?_)
    refine list_nil ?_
    refine hK3 _ ?_; clear hK3 K3
    refine codeT.imp (σ' := [(0, _), (1, _), (2, _), (6, _), (7, _), (8, _)]) ?_ (imp_covers ⟨rfl, rfl, rfl, rfl, rfl, rfl, trivial⟩)
    refine code_ret ?_
    refine ends_ret (cs := []) rfl rfl rfl rfl trivial ?_
    first
      | (have e : upI c b ≠ c := by assumption
         refine congrArg (fun z : Bool => [SV.val (.int .i64 (upI c b)), SV.val (.bool z)]) ?_
         exact decide_eq_decide.mpr ⟨fun z => (okI_iff hc.1).2 ⟨e, z⟩, fun z => ((okI_iff hc.1).1 z).2⟩)
      | (have e : upI c b = c := by assumption
         rw [decide_eq_false (fun z : okI l c b => ((okI_iff hc.1).1 z).1 e)]; rfl)
  simp only [Bool.false_eq_true, if_true, if_false, Decidable.not_not] at h1
  refine list_guard_nT rfl rfl rfl rfl (by decide) (by decide) ?_
  refine list_guard_nT rfl rfl rfl rfl (by decide) (by decide) ?_
  refine list_cons rfl (op_q (q_pick rfl rfl (by decide)) ?_)
  refine list_cons rfl (op_q (q_assign rfl (by decide)) ?_)
  refine list_cons rfl (op_q (q_assign rfl (by decide)) ?_)
  refine list_nil ?_
  refine hK3 _ ?_; clear hK3 K3
  refine codeT.imp (σ' := [(0, _), (1, _), (2, _), (6, _), (7, _), (8, _)]) ?_ (imp_covers ⟨rfl, rfl, rfl, rfl, rfl, rfl, trivial⟩)
  refine code_ret ?_
  refine ends_ret (cs := []) rfl rfl rfl rfl trivial ?_
  first
    | (have e : upI c b ≠ c := by assumption
       refine congrArg (fun z : Bool => [SV.val (.int .i64 (upI c b)), SV.val (.bool z)]) ?_
       exact decide_eq_decide.mpr ⟨fun z => (okI_iff hc.1).2 ⟨e, z⟩, fun z => ((okI_iff hc.1).1 z).2⟩)
    | (have e : upI c b = c := by assumption
       rw [decide_eq_false (fun z : okI l c b => ((okI_iff hc.1).1 z).1 e)]; rfl)
set_option maxRecDepth 8000 in
set_option maxHeartbeats 4000000 in
theorem spec_l11All (l : List Int) (hD : DigP l) : PCalls Tryd.prog 19 [.sl l.length (l.map (.int .i64))] (· = [.own 0 54 5 128 (allC (dcd l))]) := by
  refine pcalls_of_code (n := 93) az Tryd.func19 (by kernel_rfl) rfl rfl (Nat.le_of_ble_eq_true rfl) (by intro t u h; simp [Tryd.f19] at h) ?_
  have hl10 := dig_ten hD
  have he := dcd_cells l
  refine code_seq (fun K1 hK1 => ?_)
  refine code_region ?_
  refine list_cons rfl (op_q (q_assign rfl (by decide)) ?_)
  refine list_nil ?_
  refine hK1 _ ?_; clear hK1 K1
  refine code_seq (fun K2 hK2 => ?_)
  refine code_region ?_
  refine list_cons rfl (op_make (m := 128) sl_35 rfl rfl (by omega) (by decide) (by decide) rfl ?_)
  refine list_cons rfl (op_q (q_assign rfl (by decide)) ?_)
  refine list_nil ?_
  refine hK2 _ ?_; clear hK2 K2
  refine codeT.imp (σ' := [(0, .par 0 _), (2, .val _), (3, .own 12 54 5 128 (outC (dcd l) 128))]) ?_ (imp_covers ⟨rfl, rfl, (congrArg (fun z => some (SV.own 12 54 5 128 z)) (zeros_out (dcd l) 128 rfl)), trivial⟩)
  refine code_seq (fun K3 hK3 => ?_)
  refine code_seq (fun K4 hK4 => ?_)
  refine code_region ?_
  refine list_cons rfl (op_q (q_assign rfl (by decide)) ?_)
  refine list_nil ?_
  refine hK4 _ ?_; clear hK4 K4
  refine code_block ?_
  refine code_loop (X := PV × Nat × List PV × Int) (fun x => [(0, .par 0 (.sl l.length (l.map (.int .i64)))), (2, .val x.1), (3, .own 12 54 5 x.2.1 x.2.2.1), (4, .val (.int .i64 x.2.2.2))]) (fun x => -1 ≤ x.2.2.2 ∧ x.2.2.2 ≤ 127 ∧ x.2.1 = 128 ∧ x.2.2.1 = outC (dcd l) (x.2.2.2 + 1).toNat) (fun x => (x.2.2.2 + 1).toNat) (_, _, _, _) (imp_covers ⟨rfl, rfl, rfl, rfl, trivial⟩) ?_ ?_
  · (try dsimp only)
    exact ⟨by omega, by omega, rfl, rfl⟩
  · intro x hI
    obtain ⟨t2_p, out_n, out_c, c⟩ := x
    replace hI : -1 ≤ c ∧ c ≤ 127 ∧ out_n = 128 ∧ out_c = outC (dcd l) (c + 1).toNat := hI
    show codeT _ _ _ [(0, .par 0 (.sl l.length (l.map (.int .i64)))), (2, .val t2_p), (3, .own 12 54 5 out_n out_c), (4, .val (.int .i64 c))] _
    obtain ⟨i1, i2, rfl, rfl⟩ := hI
    refine code_seq (fun K5 hK5 => ?_)
    refine code_seq (fun K6 hK6 => ?_)
    refine code_region ?_
    refine list_cons rfl (op_q (q_move rfl (by decide)) ?_)
    refine list_cons rfl (op_q (q_ge rfl rfl (by decide)) ?_)
    refine list_nil ?_
    refine hK6 _ ?_; clear hK6 K6
    refine code_cond_d rfl (fun h1 => ?_) (fun h1 => ?_)
    · skip
      (try simp only [Decidable.not_not] at h1)
      refine code_skip ?_
      refine hK5 _ ?_; clear hK5 K5
      refine code_seq (fun K7 hK7 => ?_)
      refine code_block ?_
      refine code_seq (fun K8 hK8 => ?_)
      refine code_region ?_
      refine list_cons rfl (op_q (q_build bt_54 (parts := []) rfl rfl (by decide)) ?_)
      refine list_cons rfl (op_buildSlice sl_22 (parts := []) rfl rfl rfl (by decide) (by decide) (by decide) rfl ?_)
      refine list_cons rfl (op_alloc zt_54 (by decide) (by decide) rfl ?_)
      refine list_cons rfl (op_store (agg_54).2 5 [5] (by intro t ht; simp only [List.mem_cons, List.not_mem_nil, or_false] at ht; subst ht; rfl) (.inr ⟨rfl, _, rfl⟩) rfl rfl rfl rfl (by first | rfl | exact flat_part (flat_map _ (fun _ => rfl) _) _ _ | exact flat_map _ (fun _ => rfl) _) (by first | rfl | rfl) (by first | exact Nat.le_of_ble_eq_true rfl | (rw [outC_len]; omega) | (show _ ≤ (outC _ _).length; rw [outC_len]; omega) | (simp; omega)) (by decide) rfl ?_)
      refine list_cons rfl (op_q (q_assign rfl (by decide)) ?_)
      refine list_cons rfl (op_q (q_assign rfl (by decide)) ?_)
      refine list_nil ?_
      refine hK8 _ ?_; clear hK8 K8
      refine codeT.imp (σ' := [(0, .par 0 _), (2, .val _), (3, .own 12 54 5 _ _), (4, .val (.int .i64 _)), (5, .box 5 54 [_, _, _, _, _]), (6, .own 18 3 1 _ _), (7, .val (.bool _))]) ?_ (imp_covers ⟨rfl, rfl, rfl, rfl, rfl, rfl, rfl, trivial⟩)
      refine code_seq (fun K9 hK9 => ?_)
      refine code_seq (fun K10 hK10 => ?_)
      refine code_region ?_
      refine list_cons rfl (op_q (q_assign rfl (by decide)) ?_)
      refine list_nil ?_
      refine hK10 _ ?_; clear hK10 K10
      refine code_block ?_
      refine code_loop (X := PV × List PV × Nat × List PV × Bool × Int) (fun x => [(0, .par 0 (.sl l.length (l.map (.int .i64)))), (2, .val x.1), (3, .own 12 54 5 128 (outC (dcd l) (c + 1).toNat)), (4, .val (.int .i64 (c))), (5, .box 5 54 x.2.1), (6, .own 18 3 1 x.2.2.1 x.2.2.2.1), (7, .val (.bool x.2.2.2.2.1)), (8, .val (.int .i64 x.2.2.2.2.2))]) (fun x => 0 ≤ x.2.2.2.2.2 ∧ x.2.2.2.2.2 ≤ 7 ∧ x.2.1 = kcL (dcd l) (nxK (dcd l) c.toNat x.2.2.2.2.2.toNat) ∧ x.2.2.2.2.1 = decide ((kS (dcd l) (nxK (dcd l) c.toNat x.2.2.2.2.2.toNat)).2 = true) ∧ x.2.2.1 = (kN (dcd l) (nxK (dcd l) c.toNat x.2.2.2.2.2.toNat)).length ∧ x.2.2.2.1 = (kN (dcd l) (nxK (dcd l) c.toNat x.2.2.2.2.2.toNat)).map (.int .i64)) (fun x => (7 - x.2.2.2.2.2).toNat) (_, _, _, _, _, _) (imp_covers ⟨rfl, rfl, rfl, rfl, rfl, rfl, rfl, rfl, trivial⟩) ?_ ?_
      · (try dsimp only)
        exact ⟨by omega, by omega, rfl, rfl, rfl, rfl⟩
      · intro x hI
        obtain ⟨t2_p, k_c, numbers_n, numbers_c, sm, bar⟩ := x
        replace hI : 0 ≤ bar ∧ bar ≤ 7 ∧ k_c = kcL (dcd l) (nxK (dcd l) c.toNat bar.toNat) ∧ sm = decide ((kS (dcd l) (nxK (dcd l) c.toNat bar.toNat)).2 = true) ∧ numbers_n = (kN (dcd l) (nxK (dcd l) c.toNat bar.toNat)).length ∧ numbers_c = (kN (dcd l) (nxK (dcd l) c.toNat bar.toNat)).map (.int .i64) := hI
        show codeT _ _ _ [(0, .par 0 (.sl l.length (l.map (.int .i64)))), (2, .val t2_p), (3, .own 12 54 5 128 (outC (dcd l) (c + 1).toNat)), (4, .val (.int .i64 (c))), (5, .box 5 54 k_c), (6, .own 18 3 1 numbers_n numbers_c), (7, .val (.bool sm)), (8, .val (.int .i64 bar))] _
        obtain ⟨j1, j2, rfl, rfl, rfl, rfl⟩ := hI
        have hnl := nxK_len (dcd l) c.toNat bar.toNat
        have hvl := val_lt he (N := (nxK (dcd l) c.toNat bar.toNat)) (fun x hx => nx_lt he hx)
        have hup := fun h : bar < 7 => upI_le (c := c) (b := bar) (by omega) (by omega)
        have hgt := fun h : okI l c bar => up_gtI (by omega) h
        have hcb := fun h : bar < 7 => cell_bd he (x := (upI c bar).toNat) (by have := hup h; omega)
        have hkl := kn_ln (dcd l) (nxK (dcd l) c.toNat bar.toNat)
        refine code_seq (fun K11 hK11 => ?_)
        refine code_seq (fun K12 hK12 => ?_)
        refine code_region ?_
        refine list_cons rfl (op_q (q_move rfl (by decide)) ?_)
        refine list_cons rfl (op_q (q_lt rfl rfl (by decide)) ?_)
        refine list_nil ?_
        refine hK12 _ ?_; clear hK12 K12
        refine code_cond_d rfl (fun h2 => ?_) (fun h2 => ?_)
        · skip
          (try simp only [Decidable.not_not] at h2)
          refine code_skip ?_
          refine hK11 _ ?_; clear hK11 K11
          refine code_seq (fun K13 hK13 => ?_)
          refine code_block ?_
          refine code_seq (fun K14 hK14 => ?_)
          refine code_region ?_
          refine list_cons rfl (op_q (q_move rfl (by decide)) ?_)
          refine list_cons rfl (op_q (q_move rfl (by decide)) ?_)
          refine list_cons rfl (op_q (q_move rfl (by decide)) ?_)
          refine list_cons rfl (op_call _ (spec_l11Next c bar l hD (by omega) (by omega)) rfl rfl (by decide) (by decide) (by decide) rfl ?_)
          rintro _ rfl
          refine list_cons rfl (op_q (q_move rfl (by decide)) ?_)
          refine list_cons rfl (op_q (q_extract rfl rfl (by decide)) ?_)
          refine list_cons rfl (op_q (q_extract rfl rfl (by decide)) ?_)
          refine list_cons rfl (op_q (q_assign rfl (by decide)) ?_)
          refine list_cons rfl (op_q (q_assign rfl (by decide)) ?_)
          refine list_nil ?_
          refine hK14 _ ?_; clear hK14 K14
          refine codeT.imp (σ' := [(0, .par 0 _), (2, .val _), (3, .own 12 54 5 _ _), (4, .val (.int .i64 _)), (5, .box 5 54 _), (6, .own 18 3 1 _ _), (7, .val (.bool _)), (8, .val (.int .i64 _)), (9, .val (.int .i64 _)), (10, .val (.bool _))]) ?_ (imp_covers ⟨rfl, rfl, rfl, rfl, rfl, rfl, rfl, rfl, rfl, rfl, trivial⟩)
          refine code_seq (fun K15 hK15 => ?_)
          refine code_seq (fun K16 hK16 => ?_)
          refine code_region ?_
          refine list_cons rfl (op_q (q_move rfl (by decide)) ?_)
          refine list_cons rfl (op_q (by first | exact q_notd rfl (by decide) | exact q_not rfl (by decide)) ?_)
          refine list_nil ?_
          refine hK16 _ ?_; clear hK16 K16
          refine code_cond_d rfl (fun h3 => ?_) (fun h3 => ?_)
          · skip
            (try simp only [Decidable.not_not] at h3)
            refine code_exit ?_
            refine then_x ?_; clear hK15 K15
            refine blk_hit ?_
            refine hK13 _ ?_; clear hK13 K13
            refine code_region ?_
            refine list_cons rfl (op_q (q_move rfl (by decide)) ?_)
            refine list_cons rfl (op_q (by first | exact q_addI rfl rfl (by decide) (by omega) (by omega) | exact q_ib rfl rfl rfl (by decide)) ?_)
            refine list_cons rfl (op_q (q_assign rfl (by decide)) ?_)
            refine list_nil ?_
            refine then_n ⟨(_, _, _, _, _, _), imp_covers ⟨rfl, rfl, rfl, rfl, rfl, rfl, rfl, rfl, trivial⟩, ?_, ?_⟩
            · (try dsimp only)
              have hN := nx_noS (l := l) (c := c) (b := bar) (by omega) (by assumption)
              refine ⟨by omega, by omega, ?_, ?_, ?_, ?_⟩
              · exact (congrArg (fun N => kcL (dcd l) N) hN).symm
              · exact (congrArg (fun N => decide ((kS (dcd l) N).2 = true)) hN).symm
              · exact (congrArg (fun N => (kN (dcd l) N).length) hN).symm
              · exact (congrArg (fun N => (kN (dcd l) N).map (PV.int .i64)) hN).symm
            · (try dsimp only); omega
          (try simp only [Decidable.not_not] at h3)
          refine code_skip ?_
          refine hK15 _ ?_; clear hK15 K15
          refine code_seq (fun K17 hK17 => ?_)
          refine code_region ?_
          refine list_cons rfl (op_q (q_move rfl (by decide)) ?_)
          refine list_cons rfl (op_q (q_move rfl (by decide)) ?_)
          refine list_cons rfl (op_q (q_indexAddr_own sl_35 rfl rfl (by omega) (by omega) (by decide)) ?_)
          refine list_cons rfl (op_q (q_cast (q_load_agg agg_54 3 (.inl rfl) rfl rfl (by first | rfl | (rw [outC_len]; have := hup (by omega); omega)) (by first | rfl | (rw [outC_at (dcd l) (m := (c + 1).toNat) (x := (upI c bar).toNat) (by have := hgt (by assumption); omega) (by omega)]; rfl)) (by decide)) (congrArg (fun z => SV.val (PV.agg z)) (outC_at (dcd l) (m := (c + 1).toNat) (x := (upI c bar).toNat) (by have := hgt (by assumption); omega) (by omega)))) ?_)
          refine list_cons rfl (op_alloc zt_54 (by decide) (by decide) rfl ?_)
          refine list_cons rfl (op_store (agg_54).2 11 [11] (by intro t ht; simp only [List.mem_cons, List.not_mem_nil, or_false] at ht; subst ht; rfl) (.inr ⟨rfl, _, rfl⟩) rfl rfl rfl rfl (by first | rfl | exact flat_part (flat_map _ (fun _ => rfl) _) _ _ | exact flat_map _ (fun _ => rfl) _) (by first | rfl | rfl) (by first | exact Nat.le_of_ble_eq_true rfl | (rw [outC_len]; omega) | (show _ ≤ (outC _ _).length; rw [outC_len]; omega) | (simp; omega)) (by decide) rfl ?_)
          refine list_nil ?_
          refine hK17 _ ?_; clear hK17 K17
          refine codeT.imp (σ' := [(0, .par 0 _), (2, .val _), (3, .own 12 54 5 _ _), (4, .val (.int .i64 _)), (5, .box 5 54 _), (6, .own 18 3 1 _ _), (7, .val (.bool _)), (8, .val (.int .i64 _)), (9, .val (.int .i64 _)), (10, .val (.bool _)), (11, .box 11 54 _)]) ?_ (imp_covers ⟨rfl, rfl, rfl, rfl, rfl, rfl, rfl, rfl, rfl, rfl, rfl, trivial⟩)
          refine code_seq (fun K18 hK18 => ?_)
          refine code_region ?_
          refine list_cons rfl (op_q (q_move rfl (by decide)) ?_)
          refine list_cons rfl (op_q (q_fieldAddr fi_54_0 rfl rfl (by decide)) ?_)
          refine list_cons rfl (op_q (q_load one_3 11 rfl rfl rfl (by first | rfl | exact get_map1 _ 0 _ (by first | omega | (simp; omega))) (by decide)) ?_)
          refine list_cons rfl (op_buildSlice sl_22 (parts := [(0, .tmp 38)]) rfl rfl rfl (by decide) (by decide) (by decide) rfl ?_)
          refine list_cons rfl (op_append_gen sl_22 (l := 18) (.inl rfl) rfl rfl (l2 := none) (.inl ⟨rfl, (by first | rfl | exact flat_map _ (fun _ => rfl) _)⟩) (by first | rfl | (simp; done) | (simp; omega)) (by omega) (by decide) (by decide) (by decide) ?_)
          refine list_cons rfl (op_q (q_assign rfl (by decide)) ?_)
          refine list_nil ?_
          refine hK18 _ ?_; clear hK18 K18
          refine codeT.imp (σ' := [(0, .par 0 _), (2, .val _), (3, .own 12 54 5 _ _), (4, .val (.int .i64 _)), (5, .box 5 54 _), (6, .own 18 3 1 _ _), (7, .val (.bool _)), (8, .val (.int .i64 _)), (9, .val (.int .i64 _)), (10, .val (.bool _)), (11, .box 11 54 _)]) ?_ (imp_covers ⟨rfl, rfl, rfl, rfl, rfl, rfl, rfl, rfl, rfl, rfl, rfl, trivial⟩)
          refine code_seq (fun K19 hK19 => ?_)
          refine code_region ?_
          refine list_cons rfl (op_q (q_fieldAddr fi_54_1 rfl rfl (by decide)) ?_)
          refine list_cons rfl (op_q (q_load one_4 5 rfl rfl rfl (by first | rfl | exact get_map1 _ false _ (by first | omega | (simp; omega))) (by decide)) ?_)
          refine list_cons rfl (op_q (q_move rfl (by decide)) ?_)
          refine list_guard_d rfl rfl rfl rfl (by decide) rfl (by decide) (fun h4 => ?_) (fun h4 => ?_)
          · simp only [Bool.false_eq_true, if_true, if_false, Decidable.not_not] at h4
            refine id (op_q (q_fieldAddr fi_54_1 rfl rfl (by decide)) ?_)
            refine list_guard_y rfl rfl rfl rfl (by decide) rfl ?_
            refine id (op_q (q_load one_4 11 rfl rfl rfl (by first | rfl | exact get_map1 _ false _ (by first | omega | (simp; omega))) (by decide)) ?_)
            refine list_guard_y rfl rfl rfl rfl (by decide) rfl ?_
            refine id (op_q (by first | exact q_notd rfl (by decide) | exact q_not rfl (by decide)) ?_)
            refine list_cons rfl (op_q (q_pick rfl rfl (by decide)) ?_)
            refine list_cons rfl (op_q (q_fieldAddr fi_54_1 rfl rfl (by decide)) ?_)
            refine list_cons rfl (op_store (one_4).2 5 [5] (by intro t ht; simp only [List.mem_cons, List.not_mem_nil, or_false] at ht; subst ht; rfl) (.inl rfl) rfl rfl rfl rfl rfl rfl (by first | exact Nat.le_of_ble_eq_true rfl | (rw [outC_len]; omega) | (show _ ≤ (outC _ _).length; rw [outC_len]; omega) | (simp; omega)) (by decide) rfl ?_)
            refine list_nil ?_
            refine hK19 _ ?_; clear hK19 K19
            refine codeT.imp (σ' := [(0, .par 0 _), (2, .val _), (3, .own 12 54 5 _ _), (4, .val (.int .i64 _)), (5, .box 5 54 [_, _, _, _, _]), (6, .own 18 3 1 _ _), (7, .val (.bool _)), (8, .val (.int .i64 _)), (9, .val (.int .i64 _)), (10, .val (.bool _)), (11, .box 11 54 _)]) ?_ (imp_covers ⟨rfl, rfl, rfl, rfl, rfl, rfl, rfl, rfl, rfl, rfl, rfl, trivial⟩)
            refine code_seq (fun K20 hK20 => ?_)
            refine code_region ?_
            refine list_cons rfl (op_q (q_fieldAddr fi_54_2 rfl rfl (by decide)) ?_)
            refine list_cons rfl (op_q (q_load one_3 5 rfl rfl rfl (by first | rfl | exact get_map1 _ 0 _ (by first | omega | (simp; omega))) (by decide)) ?_)
            refine list_cons rfl (op_q (q_fieldAddr fi_54_2 rfl rfl (by decide)) ?_)
            refine list_cons rfl (op_q (q_load one_3 11 rfl rfl rfl (by first | rfl | exact get_map1 _ 0 _ (by first | omega | (simp; omega))) (by decide)) ?_)
            refine list_cons rfl (op_q (by first | exact q_addI rfl rfl (by decide) (by omega) (by omega) | exact q_ib rfl rfl rfl (by decide)) ?_)
            refine list_cons rfl (op_call _ (spec_l1Most _ _) rfl rfl (by decide) (by decide) (by decide) rfl ?_)
            rintro _ rfl
            refine list_cons rfl (op_q (q_fieldAddr fi_54_2 rfl rfl (by decide)) ?_)
            refine list_cons rfl (op_store (one_3).2 5 [5] (by intro t ht; simp only [List.mem_cons, List.not_mem_nil, or_false] at ht; subst ht; rfl) (.inl rfl) rfl rfl rfl rfl rfl rfl (by first | exact Nat.le_of_ble_eq_true rfl | (rw [outC_len]; omega) | (show _ ≤ (outC _ _).length; rw [outC_len]; omega) | (simp; omega)) (by decide) rfl ?_)
            refine list_nil ?_
            refine hK20 _ ?_; clear hK20 K20
            refine codeT.imp (σ' := [(0, .par 0 _), (2, .val _), (3, .own 12 54 5 _ _), (4, .val (.int .i64 _)), (5, .box 5 54 [_, _, _, _, _]), (6, .own 18 3 1 _ _), (7, .val (.bool _)), (8, .val (.int .i64 _)), (9, .val (.int .i64 _)), (10, .val (.bool _)), (11, .box 11 54 _)]) ?_ (imp_covers ⟨rfl, rfl, rfl, rfl, rfl, rfl, rfl, rfl, rfl, rfl, rfl, trivial⟩)
            refine code_seq (fun K21 hK21 => ?_)
            refine code_seq (fun K22 hK22 => ?_)
            refine code_region ?_
            refine list_cons rfl (op_q (q_move rfl (by decide)) ?_)
            refine list_cons rfl (op_q (by first | exact q_notd rfl (by decide) | exact q_not rfl (by decide)) ?_)
            refine list_cons rfl (op_q (q_move rfl (by decide)) ?_)
            refine list_guard_d rfl rfl rfl rfl (by decide) rfl (by decide) (fun h5 => ?_) (fun h5 => ?_)
            · simp only [Bool.false_eq_true, if_true, if_false, Decidable.not_not] at h5
              refine id (op_q (q_fieldAddr fi_54_3 rfl rfl (by decide)) ?_)
              refine list_guard_y rfl rfl rfl rfl (by decide) rfl ?_
              refine id (op_q (q_load one_3 11 rfl rfl rfl (by first | rfl | exact get_map1 _ 0 _ (by first | omega | (simp; omega))) (by decide)) ?_)
              refine list_guard_y rfl rfl rfl rfl (by decide) rfl ?_
              refine id (op_q (by first | exact q_addI rfl rfl (by decide) (by omega) (by omega) | exact q_ib rfl rfl rfl (by decide)) ?_)
              refine list_guard_y rfl rfl rfl rfl (by decide) rfl ?_
              refine id (op_q (q_fieldAddr fi_54_3 rfl rfl (by decide)) ?_)
              refine list_guard_y rfl rfl rfl rfl (by decide) rfl ?_
              refine id (op_q (q_load one_3 5 rfl rfl rfl (by first | rfl | exact get_map1 _ 0 _ (by first | omega | (simp; omega))) (by decide)) ?_)
              refine list_guard_y rfl rfl rfl rfl (by decide) rfl ?_
              refine id (op_q (q_lt rfl rfl (by decide)) ?_)
              refine list_cons rfl (op_q (q_pick rfl rfl (by decide)) ?_)
              refine list_nil ?_
              refine hK22 _ ?_; clear hK22 K22
              refine codeT.imp (σ' := [(0, .par 0 _), (2, .val _), (3, .own 12 54 5 _ _), (4, .val (.int .i64 _)), (5, .box 5 54 _), (6, .own 18 3 1 _ _), (7, .val (.bool _)), (8, .val (.int .i64 _)), (9, .val (.int .i64 _)), (10, .val (.bool _)), (11, .box 11 54 _), (65, .val (.bool _))]) ?_ (imp_covers ⟨rfl, rfl, rfl, rfl, rfl, rfl, rfl, rfl, rfl, rfl, rfl, rfl, trivial⟩)
              refine code_cond_d rfl (fun h6 => ?_) (fun h6 => ?_)
              · skip
                (try simp only [Decidable.not_not] at h6)
                refine code_region ?_
                refine list_cons rfl (op_q (q_fieldAddr fi_54_3 rfl rfl (by decide)) ?_)
                refine list_cons rfl (op_q (q_load one_3 11 rfl rfl rfl (by first | rfl | exact get_map1 _ 0 _ (by first | omega | (simp; omega))) (by decide)) ?_)
                refine list_cons rfl (op_q (by first | exact q_addI rfl rfl (by decide) (by omega) (by omega) | exact q_ib rfl rfl rfl (by decide)) ?_)
                refine list_cons rfl (op_q (q_fieldAddr fi_54_3 rfl rfl (by decide)) ?_)
                refine list_cons rfl (op_store (one_3).2 5 [5] (by intro t ht; simp only [List.mem_cons, List.not_mem_nil, or_false] at ht; subst ht; rfl) (.inl rfl) rfl rfl rfl rfl rfl rfl (by first | exact Nat.le_of_ble_eq_true rfl | (rw [outC_len]; omega) | (show _ ≤ (outC _ _).length; rw [outC_len]; omega) | (simp; omega)) (by decide) rfl ?_)
                refine list_nil ?_
                refine hK21 _ ?_; clear hK21 K21
                refine codeT.imp (σ' := [(0, .par 0 _), (2, .val _), (3, .own 12 54 5 _ _), (4, .val (.int .i64 _)), (5, .box 5 54 [_, _, _, _, _]), (6, .own 18 3 1 _ _), (7, .val (.bool _)), (8, .val (.int .i64 _)), (9, .val (.int .i64 _)), (10, .val (.bool _)), (11, .box 11 54 _)]) ?_ (imp_covers ⟨rfl, rfl, rfl, rfl, rfl, rfl, rfl, rfl, rfl, rfl, rfl, trivial⟩)
                refine code_seq (fun K23 hK23 => ?_)
                refine code_region ?_
                refine list_cons rfl (op_q (q_fieldAddr fi_54_4 rfl rfl (by decide)) ?_)
                refine list_cons rfl (op_q (q_load one_3 5 rfl rfl rfl (by first | rfl | exact get_map1 _ 0 _ (by first | omega | (simp; omega))) (by decide)) ?_)
                refine list_cons rfl (op_q (q_fieldAddr fi_54_4 rfl rfl (by decide)) ?_)
                refine list_cons rfl (op_q (q_load one_3 11 rfl rfl rfl (by first | rfl | exact get_map1 _ 0 _ (by first | omega | (simp; omega))) (by decide)) ?_)
                refine list_cons rfl (op_q (by first | exact q_addI rfl rfl (by decide) (by omega) (by omega) | exact q_ib rfl rfl rfl (by decide)) ?_)
                refine list_cons rfl (op_q (q_fieldAddr fi_54_4 rfl rfl (by decide)) ?_)
                refine list_cons rfl (op_store (one_3).2 5 [5] (by intro t ht; simp only [List.mem_cons, List.not_mem_nil, or_false] at ht; subst ht; rfl) (.inl rfl) rfl rfl rfl rfl rfl rfl (by first | exact Nat.le_of_ble_eq_true rfl | (rw [outC_len]; omega) | (show _ ≤ (outC _ _).length; rw [outC_len]; omega) | (simp; omega)) (by decide) rfl ?_)
                refine list_nil ?_
                refine hK23 _ ?_; clear hK23 K23
                refine codeT.imp (σ' := [(0, .par 0 _), (2, .val _), (3, .own 12 54 5 _ _), (4, .val (.int .i64 _)), (5, .box 5 54 [_, _, _, _, _]), (6, .own 18 3 1 _ _), (7, .val (.bool _)), (8, .val (.int .i64 _)), (9, .val (.int .i64 _)), (10, .val (.bool _)), (11, .box 11 54 _)]) ?_ (imp_covers ⟨rfl, rfl, rfl, rfl, rfl, rfl, rfl, rfl, rfl, rfl, rfl, trivial⟩)
                refine code_region ?_
                refine list_cons rfl (op_q (q_assign rfl (by decide)) ?_)
                refine list_nil ?_
                refine blk_n ?_
                refine hK13 _ ?_; clear hK13 K13
                refine code_region ?_
                refine list_cons rfl (op_q (q_move rfl (by decide)) ?_)
                refine list_cons rfl (op_q (by first | exact q_addI rfl rfl (by decide) (by omega) (by omega) | exact q_ib rfl rfl rfl (by decide)) ?_)
                refine list_cons rfl (op_q (q_assign rfl (by decide)) ?_)
                refine list_nil ?_
                refine then_n ⟨(_, _, _, _, _, _), imp_covers ⟨rfl, rfl, rfl, rfl, rfl, rfl, rfl, rfl, trivial⟩, ?_, ?_⟩
                · (try dsimp only)
                  have hN := nx_okS (l := l) (c := c) (b := bar) (by omega) (by assumption)
                  refine ⟨by omega, by omega, ?_, sm_app hN, kn_len hN, kn_app hN⟩
                  exact kc_eq hN (by first | exact kM_yes (by assumption) | exact kM_no (by assumption)) (by first | exact cS_2 (by assumption) | exact cS_3 (by assumption) (by assumption) | exact cS_1 (by assumption))
                · (try dsimp only); omega
              (try simp only [Decidable.not_not] at h6)
              refine code_skip ?_
              refine hK21 _ ?_; clear hK21 K21
              refine code_seq (fun K24 hK24 => ?_)
              refine code_region ?_
              refine list_cons rfl (op_q (q_fieldAddr fi_54_4 rfl rfl (by decide)) ?_)
              refine list_cons rfl (op_q (q_load one_3 5 rfl rfl rfl (by first | rfl | exact get_map1 _ 0 _ (by first | omega | (simp; omega))) (by decide)) ?_)
              refine list_cons rfl (op_q (q_fieldAddr fi_54_4 rfl rfl (by decide)) ?_)
              refine list_cons rfl (op_q (q_load one_3 11 rfl rfl rfl (by first | rfl | exact get_map1 _ 0 _ (by first | omega | (simp; omega))) (by decide)) ?_)
              refine list_cons rfl (op_q (by first | exact q_addI rfl rfl (by decide) (by omega) (by omega) | exact q_ib rfl rfl rfl (by decide)) ?_)
              refine list_cons rfl (op_q (q_fieldAddr fi_54_4 rfl rfl (by decide)) ?_)
              refine list_cons rfl (op_store (one_3).2 5 [5] (by intro t ht; simp only [List.mem_cons, List.not_mem_nil, or_false] at ht; subst ht; rfl) (.inl rfl) rfl rfl rfl rfl rfl rfl (by first | exact Nat.le_of_ble_eq_true rfl | (rw [outC_len]; omega) | (show _ ≤ (outC _ _).length; rw [outC_len]; omega) | (simp; omega)) (by decide) rfl ?_)
              refine list_nil ?_
              refine hK24 _ ?_; clear hK24 K24
              refine codeT.imp (σ' := [(0, .par 0 _), (2, .val _), (3, .own 12 54 5 _ _), (4, .val (.int .i64 _)), (5, .box 5 54 [_, _, _, _, _]), (6, .own 18 3 1 _ _), (7, .val (.bool _)), (8, .val (.int .i64 _)), (9, .val (.int .i64 _)), (10, .val (.bool _)), (11, .box 11 54 _)]) ?_ (imp_covers ⟨rfl, rfl, rfl, rfl, rfl, rfl, rfl, rfl, rfl, rfl, rfl, trivial⟩)
              refine code_region ?_
              refine list_cons rfl (op_q (q_assign rfl (by decide)) ?_)
              refine list_nil ?_
              refine blk_n ?_
              refine hK13 _ ?_; clear hK13 K13
              refine code_region ?_
              refine list_cons rfl (op_q (q_move rfl (by decide)) ?_)
              refine list_cons rfl (op_q (by first | exact q_addI rfl rfl (by decide) (by omega) (by omega) | exact q_ib rfl rfl rfl (by decide)) ?_)
              refine list_cons rfl (op_q (q_assign rfl (by decide)) ?_)
              refine list_nil ?_
              refine then_n ⟨(_, _, _, _, _, _), imp_covers ⟨rfl, rfl, rfl, rfl, rfl, rfl, rfl, rfl, trivial⟩, ?_, ?_⟩
              · (try dsimp only)
                have hN := nx_okS (l := l) (c := c) (b := bar) (by omega) (by assumption)
                refine ⟨by omega, by omega, ?_, sm_app hN, kn_len hN, kn_app hN⟩
                exact kc_eq hN (by first | exact kM_yes (by assumption) | exact kM_no (by assumption)) (by first | exact cS_2 (by assumption) | exact cS_3 (by assumption) (by assumption) | exact cS_1 (by assumption))
              · (try dsimp only); omega
            simp only [Bool.false_eq_true, if_true, if_false, Decidable.not_not] at h5
            refine list_guard_n rfl rfl rfl rfl (by decide) rfl ?_
            refine list_guard_n rfl rfl rfl rfl (by decide) rfl ?_
            refine list_guard_n rfl rfl rfl rfl (by decide) rfl ?_
            refine list_guard_n rfl rfl rfl rfl (by decide) rfl ?_
            refine list_guard_n rfl rfl rfl rfl (by decide) rfl ?_
            refine list_cons rfl (op_q (q_pick rfl rfl (by decide)) ?_)
            refine list_nil ?_
            refine hK22 _ ?_; clear hK22 K22
            refine code_cond_t rfl ?_
            refine code_region ?_
            refine list_cons rfl (op_q (q_fieldAddr fi_54_3 rfl rfl (by decide)) ?_)
            refine list_cons rfl (op_q (q_load one_3 11 rfl rfl rfl (by first | rfl | exact get_map1 _ 0 _ (by first | omega | (simp; omega))) (by decide)) ?_)
            refine list_cons rfl (op_q (by first | exact q_addI rfl rfl (by decide) (by omega) (by omega) | exact q_ib rfl rfl rfl (by decide)) ?_)
            refine list_cons rfl (op_q (q_fieldAddr fi_54_3 rfl rfl (by decide)) ?_)
            refine list_cons rfl (op_store (one_3).2 5 [5] (by intro t ht; simp only [List.mem_cons, List.not_mem_nil, or_false] at ht; subst ht; rfl) (.inl rfl) rfl rfl rfl rfl rfl rfl (by first | exact Nat.le_of_ble_eq_true rfl | (rw [outC_len]; omega) | (show _ ≤ (outC _ _).length; rw [outC_len]; omega) | (simp; omega)) (by decide) rfl ?_)
            refine list_nil ?_
            refine hK21 _ ?_; clear hK21 K21
            refine codeT.imp (σ' := [(0, .par 0 _), (2, .val _), (3, .own 12 54 5 _ _), (4, .val (.int .i64 _)), (5, .box 5 54 [_, _, _, _, _]), (6, .own 18 3 1 _ _), (7, .val (.bool _)), (8, .val (.int .i64 _)), (9, .val (.int .i64 _)), (10, .val (.bool _)), (11, .box 11 54 _)]) ?_ (imp_covers ⟨rfl, rfl, rfl, rfl, rfl, rfl, rfl, rfl, rfl, rfl, rfl, trivial⟩)
            refine code_seq (fun K25 hK25 => ?_)
            refine code_region ?_
            refine list_cons rfl (op_q (q_fieldAddr fi_54_4 rfl rfl (by decide)) ?_)
            refine list_cons rfl (op_q (q_load one_3 5 rfl rfl rfl (by first | rfl | exact get_map1 _ 0 _ (by first | omega | (simp; omega))) (by decide)) ?_)
            refine list_cons rfl (op_q (q_fieldAddr fi_54_4 rfl rfl (by decide)) ?_)
            refine list_cons rfl (op_q (q_load one_3 11 rfl rfl rfl (by first | rfl | exact get_map1 _ 0 _ (by first | omega | (simp; omega))) (by decide)) ?_)
            refine list_cons rfl (op_q (by first | exact q_addI rfl rfl (by decide) (by omega) (by omega) | exact q_ib rfl rfl rfl (by decide)) ?_)
            refine list_cons rfl (op_q (q_fieldAddr fi_54_4 rfl rfl (by decide)) ?_)
            refine list_cons rfl (op_store (one_3).2 5 [5] (by intro t ht; simp only [List.mem_cons, List.not_mem_nil, or_false] at ht; subst ht; rfl) (.inl rfl) rfl rfl rfl rfl rfl rfl (by first | exact Nat.le_of_ble_eq_true rfl | (rw [outC_len]; omega) | (show _ ≤ (outC _ _).length; rw [outC_len]; omega) | (simp; omega)) (by decide) rfl ?_)
            refine list_nil ?_
            refine hK25 _ ?_; clear hK25 K25
            refine codeT.imp (σ' := [(0, .par 0 _), (2, .val _), (3, .own 12 54 5 _ _), (4, .val (.int .i64 _)), (5, .box 5 54 [_, _, _, _, _]), (6, .own 18 3 1 _ _), (7, .val (.bool _)), (8, .val (.int .i64 _)), (9, .val (.int .i64 _)), (10, .val (.bool _)), (11, .box 11 54 _)]) ?_ (imp_covers ⟨rfl, rfl, rfl, rfl, rfl, rfl, rfl, rfl, rfl, rfl, rfl, trivial⟩)
            refine code_region ?_
            refine list_cons rfl (op_q (q_assign rfl (by decide)) ?_)
            refine list_nil ?_
            refine blk_n ?_
            refine hK13 _ ?_; clear hK13 K13
            refine code_region ?_
            refine list_cons rfl (op_q (q_move rfl (by decide)) ?_)
            refine list_cons rfl (op_q (by first | exact q_addI rfl rfl (by decide) (by omega) (by omega) | exact q_ib rfl rfl rfl (by decide)) ?_)
            refine list_cons rfl (op_q (q_assign rfl (by decide)) ?_)
            refine list_nil ?_
            refine then_n ⟨(_, _, _, _, _, _), imp_covers ⟨rfl, rfl, rfl, rfl, rfl, rfl, rfl, rfl, trivial⟩, ?_, ?_⟩
            · (try dsimp only)
              have hN := nx_okS (l := l) (c := c) (b := bar) (by omega) (by assumption)
              refine ⟨by omega, by omega, ?_, sm_app hN, kn_len hN, kn_app hN⟩
              exact kc_eq hN (by first | exact kM_yes (by assumption) | exact kM_no (by assumption)) (by first | exact cS_2 (by assumption) | exact cS_3 (by assumption) (by assumption) | exact cS_1 (by assumption))
            · (try dsimp only); omega
          simp only [Bool.false_eq_true, if_true, if_false, Decidable.not_not] at h4
          refine list_guard_n rfl rfl rfl rfl (by decide) rfl ?_
          refine list_guard_n rfl rfl rfl rfl (by decide) rfl ?_
          refine list_cons rfl (op_q (q_pick rfl rfl (by decide)) ?_)
          refine list_cons rfl (op_q (q_fieldAddr fi_54_1 rfl rfl (by decide)) ?_)
          refine list_cons rfl (op_store (one_4).2 5 [5] (by intro t ht; simp only [List.mem_cons, List.not_mem_nil, or_false] at ht; subst ht; rfl) (.inl rfl) rfl rfl rfl rfl rfl rfl (by first | exact Nat.le_of_ble_eq_true rfl | (rw [outC_len]; omega) | (show _ ≤ (outC _ _).length; rw [outC_len]; omega) | (simp; omega)) (by decide) rfl ?_)
          refine list_nil ?_
          refine hK19 _ ?_; clear hK19 K19
          refine codeT.imp (σ' := [(0, .par 0 _), (2, .val _), (3, .own 12 54 5 _ _), (4, .val (.int .i64 _)), (5, .box 5 54 _), (6, .own 18 3 1 _ _), (7, .val (.bool _)), (8, .val (.int .i64 _)), (9, .val (.int .i64 _)), (10, .val (.bool _)), (11, .box 11 54 _)]) ?_ (imp_covers ⟨rfl, rfl, rfl, rfl, rfl, rfl, rfl, rfl, rfl, rfl, rfl, trivial⟩)
          refine code_seq (fun K26 hK26 => ?_)
          refine code_region ?_
          refine list_cons rfl (op_q (q_fieldAddr fi_54_2 rfl rfl (by decide)) ?_)
          refine list_cons rfl (op_q (q_load one_3 5 rfl rfl rfl (by first | rfl | exact get_map1 _ 0 _ (by first | omega | (simp; omega))) (by decide)) ?_)
          refine list_cons rfl (op_q (q_fieldAddr fi_54_2 rfl rfl (by decide)) ?_)
          refine list_cons rfl (op_q (q_load one_3 11 rfl rfl rfl (by first | rfl | exact get_map1 _ 0 _ (by first | omega | (simp; omega))) (by decide)) ?_)
          refine list_cons rfl (op_q (by first | exact q_addI rfl rfl (by decide) (by omega) (by omega) | exact q_ib rfl rfl rfl (by decide)) ?_)
          refine list_cons rfl (op_call _ (spec_l1Most _ _) rfl rfl (by decide) (by decide) (by decide) rfl ?_)
          rintro _ rfl
          refine list_cons rfl (op_q (q_fieldAddr fi_54_2 rfl rfl (by decide)) ?_)
          refine list_cons rfl (op_store (one_3).2 5 [5] (by intro t ht; simp only [List.mem_cons, List.not_mem_nil, or_false] at ht; subst ht; rfl) (.inl rfl) rfl rfl rfl rfl rfl rfl (by first | exact Nat.le_of_ble_eq_true rfl | (rw [outC_len]; omega) | (show _ ≤ (outC _ _).length; rw [outC_len]; omega) | (simp; omega)) (by decide) rfl ?_)
          refine list_nil ?_
          refine hK26 _ ?_; clear hK26 K26
          refine codeT.imp (σ' := [(0, .par 0 _), (2, .val _), (3, .own 12 54 5 _ _), (4, .val (.int .i64 _)), (5, .box 5 54 [_, _, _, _, _]), (6, .own 18 3 1 _ _), (7, .val (.bool _)), (8, .val (.int .i64 _)), (9, .val (.int .i64 _)), (10, .val (.bool _)), (11, .box 11 54 _)]) ?_ (imp_covers ⟨rfl, rfl, rfl, rfl, rfl, rfl, rfl, rfl, rfl, rfl, rfl, trivial⟩)
          refine code_seq (fun K27 hK27 => ?_)
          refine code_seq (fun K28 hK28 => ?_)
          refine code_region ?_
          refine list_cons rfl (op_q (q_move rfl (by decide)) ?_)
          refine list_cons rfl (op_q (by first | exact q_notd rfl (by decide) | exact q_not rfl (by decide)) ?_)
          refine list_cons rfl (op_q (q_move rfl (by decide)) ?_)
          refine list_guard_d rfl rfl rfl rfl (by decide) rfl (by decide) (fun h7 => ?_) (fun h7 => ?_)
          · simp only [Bool.false_eq_true, if_true, if_false, Decidable.not_not] at h7
            refine id (op_q (q_fieldAddr fi_54_3 rfl rfl (by decide)) ?_)
            refine list_guard_y rfl rfl rfl rfl (by decide) rfl ?_
            refine id (op_q (q_load one_3 11 rfl rfl rfl (by first | rfl | exact get_map1 _ 0 _ (by first | omega | (simp; omega))) (by decide)) ?_)
            refine list_guard_y rfl rfl rfl rfl (by decide) rfl ?_
            refine id (op_q (by first | exact q_addI rfl rfl (by decide) (by omega) (by omega) | exact q_ib rfl rfl rfl (by decide)) ?_)
            refine list_guard_y rfl rfl rfl rfl (by decide) rfl ?_
            refine id (op_q (q_fieldAddr fi_54_3 rfl rfl (by decide)) ?_)
            refine list_guard_y rfl rfl rfl rfl (by decide) rfl ?_
            refine id (op_q (q_load one_3 5 rfl rfl rfl (by first | rfl | exact get_map1 _ 0 _ (by first | omega | (simp; omega))) (by decide)) ?_)
            refine list_guard_y rfl rfl rfl rfl (by decide) rfl ?_
            refine id (op_q (q_lt rfl rfl (by decide)) ?_)
            refine list_cons rfl (op_q (q_pick rfl rfl (by decide)) ?_)
            refine list_nil ?_
            refine hK28 _ ?_; clear hK28 K28
            refine codeT.imp (σ' := [(0, .par 0 _), (2, .val _), (3, .own 12 54 5 _ _), (4, .val (.int .i64 _)), (5, .box 5 54 _), (6, .own 18 3 1 _ _), (7, .val (.bool _)), (8, .val (.int .i64 _)), (9, .val (.int .i64 _)), (10, .val (.bool _)), (11, .box 11 54 _), (65, .val (.bool _))]) ?_ (imp_covers ⟨rfl, rfl, rfl, rfl, rfl, rfl, rfl, rfl, rfl, rfl, rfl, rfl, trivial⟩)
            refine code_cond_d rfl (fun h8 => ?_) (fun h8 => ?_)
            · skip
              (try simp only [Decidable.not_not] at h8)
              refine code_region ?_
              refine list_cons rfl (op_q (q_fieldAddr fi_54_3 rfl rfl (by decide)) ?_)
              refine list_cons rfl (op_q (q_load one_3 11 rfl rfl rfl (by first | rfl | exact get_map1 _ 0 _ (by first | omega | (simp; omega))) (by decide)) ?_)
              refine list_cons rfl (op_q (by first | exact q_addI rfl rfl (by decide) (by omega) (by omega) | exact q_ib rfl rfl rfl (by decide)) ?_)
              refine list_cons rfl (op_q (q_fieldAddr fi_54_3 rfl rfl (by decide)) ?_)
              refine list_cons rfl (op_store (one_3).2 5 [5] (by intro t ht; simp only [List.mem_cons, List.not_mem_nil, or_false] at ht; subst ht; rfl) (.inl rfl) rfl rfl rfl rfl rfl rfl (by first | exact Nat.le_of_ble_eq_true rfl | (rw [outC_len]; omega) | (show _ ≤ (outC _ _).length; rw [outC_len]; omega) | (simp; omega)) (by decide) rfl ?_)
              refine list_nil ?_
              refine hK27 _ ?_; clear hK27 K27
              refine codeT.imp (σ' := [(0, .par 0 _), (2, .val _), (3, .own 12 54 5 _ _), (4, .val (.int .i64 _)), (5, .box 5 54 [_, _, _, _, _]), (6, .own 18 3 1 _ _), (7, .val (.bool _)), (8, .val (.int .i64 _)), (9, .val (.int .i64 _)), (10, .val (.bool _)), (11, .box 11 54 _)]) ?_ (imp_covers ⟨rfl, rfl, rfl, rfl, rfl, rfl, rfl, rfl, rfl, rfl, rfl, trivial⟩)
              refine code_seq (fun K29 hK29 => ?_)
              refine code_region ?_
              refine list_cons rfl (op_q (q_fieldAddr fi_54_4 rfl rfl (by decide)) ?_)
              refine list_cons rfl (op_q (q_load one_3 5 rfl rfl rfl (by first | rfl | exact get_map1 _ 0 _ (by first | omega | (simp; omega))) (by decide)) ?_)
              refine list_cons rfl (op_q (q_fieldAddr fi_54_4 rfl rfl (by decide)) ?_)
              refine list_cons rfl (op_q (q_load one_3 11 rfl rfl rfl (by first | rfl | exact get_map1 _ 0 _ (by first | omega | (simp; omega))) (by decide)) ?_)
              refine list_cons rfl (op_q (by first | exact q_addI rfl rfl (by decide) (by omega) (by omega) | exact q_ib rfl rfl rfl (by decide)) ?_)
              refine list_cons rfl (op_q (q_fieldAddr fi_54_4 rfl rfl (by decide)) ?_)
              refine list_cons rfl (op_store (one_3).2 5 [5] (by intro t ht; simp only [List.mem_cons, List.not_mem_nil, or_false] at ht; subst ht; rfl) (.inl rfl) rfl rfl rfl rfl rfl rfl (by first | exact Nat.le_of_ble_eq_true rfl | (rw [outC_len]; omega) | (show _ ≤ (outC _ _).length; rw [outC_len]; omega) | (simp; omega)) (by decide) rfl ?_)
              refine list_nil ?_
              refine hK29 _ ?_; clear hK29 K29
              refine codeT.imp (σ' := [(0, .par 0 _), (2, .val _), (3, .own 12 54 5 _ _), (4, .val (.int .i64 _)), (5, .box 5 54 [_, _, _, _, _]), (6, .own 18 3 1 _ _), (7, .val (.bool _)), (8, .val (.int .i64 _)), (9, .val (.int .i64 _)), (10, .val (.bool _)), (11, .box 11 54 _)]) ?_ (imp_covers ⟨rfl, rfl, rfl, rfl, rfl, rfl, rfl, rfl, rfl, rfl, rfl, trivial⟩)
              refine code_region ?_
              refine list_cons rfl (op_q (q_assign rfl (by decide)) ?_)
              refine list_nil ?_
              refine blk_n ?_
              refine hK13 _ ?_; clear hK13 K13
              refine code_region ?_
              refine list_cons rfl (op_q (q_move rfl (by decide)) ?_)
              refine list_cons rfl (op_q (by first | exact q_addI rfl rfl (by decide) (by omega) (by omega) | exact q_ib rfl rfl rfl (by decide)) ?_)
              refine list_cons rfl (op_q (q_assign rfl (by decide)) ?_)
              refine list_nil ?_
              refine then_n ⟨(_, _, _, _, _, _), imp_covers ⟨rfl, rfl, rfl, rfl, rfl, rfl, rfl, rfl, trivial⟩, ?_, ?_⟩
              · (try dsimp only)
                have hN := nx_okS (l := l) (c := c) (b := bar) (by omega) (by assumption)
                refine ⟨by omega, by omega, ?_, sm_app hN, kn_len hN, kn_app hN⟩
                exact kc_eq hN (by first | exact kM_yes (by assumption) | exact kM_no (by assumption)) (by first | exact cS_2 (by assumption) | exact cS_3 (by assumption) (by assumption) | exact cS_1 (by assumption))
              · (try dsimp only); omega
            (try simp only [Decidable.not_not] at h8)
            refine code_skip ?_
            refine hK27 _ ?_; clear hK27 K27
            refine code_seq (fun K30 hK30 => ?_)
            refine code_region ?_
            refine list_cons rfl (op_q (q_fieldAddr fi_54_4 rfl rfl (by decide)) ?_)
            refine list_cons rfl (op_q (q_load one_3 5 rfl rfl rfl (by first | rfl | exact get_map1 _ 0 _ (by first | omega | (simp; omega))) (by decide)) ?_)
            refine list_cons rfl (op_q (q_fieldAddr fi_54_4 rfl rfl (by decide)) ?_)
            refine list_cons rfl (op_q (q_load one_3 11 rfl rfl rfl (by first | rfl | exact get_map1 _ 0 _ (by first | omega | (simp; omega))) (by decide)) ?_)
            refine list_cons rfl (op_q (by first | exact q_addI rfl rfl (by decide) (by omega) (by omega) | exact q_ib rfl rfl rfl (by decide)) ?_)
            refine list_cons rfl (op_q (q_fieldAddr fi_54_4 rfl rfl (by decide)) ?_)
            refine list_cons rfl (op_store (one_3).2 5 [5] (by intro t ht; simp only [List.mem_cons, List.not_mem_nil, or_false] at ht; subst ht; rfl) (.inl rfl) rfl rfl rfl rfl rfl rfl (by first | exact Nat.le_of_ble_eq_true rfl | (rw [outC_len]; omega) | (show _ ≤ (outC _ _).length; rw [outC_len]; omega) | (simp; omega)) (by decide) rfl ?_)
            refine list_nil ?_
            refine hK30 _ ?_; clear hK30 K30
            refine codeT.imp (σ' := [(0, .par 0 _), (2, .val _), (3, .own 12 54 5 _ _), (4, .val (.int .i64 _)), (5, .box 5 54 [_, _, _, _, _]), (6, .own 18 3 1 _ _), (7, .val (.bool _)), (8, .val (.int .i64 _)), (9, .val (.int .i64 _)), (10, .val (.bool _)), (11, .box 11 54 _)]) ?_ (imp_covers ⟨rfl, rfl, rfl, rfl, rfl, rfl, rfl, rfl, rfl, rfl, rfl, trivial⟩)
            refine code_region ?_
            refine list_cons rfl (op_q (q_assign rfl (by decide)) ?_)
            refine list_nil ?_
            refine blk_n ?_
            refine hK13 _ ?_; clear hK13 K13
            refine code_region ?_
            refine list_cons rfl (op_q (q_move rfl (by decide)) ?_)
            refine list_cons rfl (op_q (by first | exact q_addI rfl rfl (by decide) (by omega) (by omega) | exact q_ib rfl rfl rfl (by decide)) ?_)
            refine list_cons rfl (op_q (q_assign rfl (by decide)) ?_)
            refine list_nil ?_
            refine then_n ⟨(_, _, _, _, _, _), imp_covers ⟨rfl, rfl, rfl, rfl, rfl, rfl, rfl, rfl, trivial⟩, ?_, ?_⟩
            · (try dsimp only)
              have hN := nx_okS (l := l) (c := c) (b := bar) (by omega) (by assumption)
              refine ⟨by omega, by omega, ?_, sm_app hN, kn_len hN, kn_app hN⟩
              exact kc_eq hN (by first | exact kM_yes (by assumption) | exact kM_no (by assumption)) (by first | exact cS_2 (by assumption) | exact cS_3 (by assumption) (by assumption) | exact cS_1 (by assumption))
            · (try dsimp only); omega
          simp only [Bool.false_eq_true, if_true, if_false, Decidable.not_not] at h7
          refine list_guard_n rfl rfl rfl rfl (by decide) rfl ?_
          refine list_guard_n rfl rfl rfl rfl (by decide) rfl ?_
          refine list_guard_n rfl rfl rfl rfl (by decide) rfl ?_
          refine list_guard_n rfl rfl rfl rfl (by decide) rfl ?_
          refine list_guard_n rfl rfl rfl rfl (by decide) rfl ?_
          refine list_cons rfl (op_q (q_pick rfl rfl (by decide)) ?_)
          refine list_nil ?_
          refine hK28 _ ?_; clear hK28 K28
          refine code_cond_t rfl ?_
          refine code_region ?_
          refine list_cons rfl (op_q (q_fieldAddr fi_54_3 rfl rfl (by decide)) ?_)
          refine list_cons rfl (op_q (q_load one_3 11 rfl rfl rfl (by first | rfl | exact get_map1 _ 0 _ (by first | omega | (simp; omega))) (by decide)) ?_)
          refine list_cons rfl (op_q (by first | exact q_addI rfl rfl (by decide) (by omega) (by omega) | exact q_ib rfl rfl rfl (by decide)) ?_)
          refine list_cons rfl (op_q (q_fieldAddr fi_54_3 rfl rfl (by decide)) ?_)
          refine list_cons rfl (op_store (one_3).2 5 [5] (by intro t ht; simp only [List.mem_cons, List.not_mem_nil, or_false] at ht; subst ht; rfl) (.inl rfl) rfl rfl rfl rfl rfl rfl (by first | exact Nat.le_of_ble_eq_true rfl | (rw [outC_len]; omega) | (show _ ≤ (outC _ _).length; rw [outC_len]; omega) | (simp; omega)) (by decide) rfl ?_)
          refine list_nil ?_
          refine hK27 _ ?_; clear hK27 K27
          refine codeT.imp (σ' := [(0, .par 0 _), (2, .val _), (3, .own 12 54 5 _ _), (4, .val (.int .i64 _)), (5, .box 5 54 [_, _, _, _, _]), (6, .own 18 3 1 _ _), (7, .val (.bool _)), (8, .val (.int .i64 _)), (9, .val (.int .i64 _)), (10, .val (.bool _)), (11, .box 11 54 _)]) ?_ (imp_covers ⟨rfl, rfl, rfl, rfl, rfl, rfl, rfl, rfl, rfl, rfl, rfl, trivial⟩)
          refine code_seq (fun K31 hK31 => ?_)
          refine code_region ?_
          refine list_cons rfl (op_q (q_fieldAddr fi_54_4 rfl rfl (by decide)) ?_)
          refine list_cons rfl (op_q (q_load one_3 5 rfl rfl rfl (by first | rfl | exact get_map1 _ 0 _ (by first | omega | (simp; omega))) (by decide)) ?_)
          refine list_cons rfl (op_q (q_fieldAddr fi_54_4 rfl rfl (by decide)) ?_)
          refine list_cons rfl (op_q (q_load one_3 11 rfl rfl rfl (by first | rfl | exact get_map1 _ 0 _ (by first | omega | (simp; omega))) (by decide)) ?_)
          refine list_cons rfl (op_q (by first | exact q_addI rfl rfl (by decide) (by omega) (by omega) | exact q_ib rfl rfl rfl (by decide)) ?_)
          refine list_cons rfl (op_q (q_fieldAddr fi_54_4 rfl rfl (by decide)) ?_)
          refine list_cons rfl (op_store (one_3).2 5 [5] (by intro t ht; simp only [List.mem_cons, List.not_mem_nil, or_false] at ht; subst ht; rfl) (.inl rfl) rfl rfl rfl rfl rfl rfl (by first | exact Nat.le_of_ble_eq_true rfl | (rw [outC_len]; omega) | (show _ ≤ (outC _ _).length; rw [outC_len]; omega) | (simp; omega)) (by decide) rfl ?_)
          refine list_nil ?_
          refine hK31 _ ?_; clear hK31 K31
          refine codeT.imp (σ' := [(0, .par 0 _), (2, .val _), (3, .own 12 54 5 _ _), (4, .val (.int .i64 _)), (5, .box 5 54 [_, _, _, _, _]), (6, .own 18 3 1 _ _), (7, .val (.bool _)), (8, .val (.int .i64 _)), (9, .val (.int .i64 _)), (10, .val (.bool _)), (11, .box 11 54 _)]) ?_ (imp_covers ⟨rfl, rfl, rfl, rfl, rfl, rfl, rfl, rfl, rfl, rfl, rfl, trivial⟩)
          refine code_region ?_
          refine list_cons rfl (op_q (q_assign rfl (by decide)) ?_)
          refine list_nil ?_
          refine blk_n ?_
          refine hK13 _ ?_; clear hK13 K13
          refine code_region ?_
          refine list_cons rfl (op_q (q_move rfl (by decide)) ?_)
          refine list_cons rfl (op_q (by first | exact q_addI rfl rfl (by decide) (by omega) (by omega) | exact q_ib rfl rfl rfl (by decide)) ?_)
          refine list_cons rfl (op_q (q_assign rfl (by decide)) ?_)
          refine list_nil ?_
          refine then_n ⟨(_, _, _, _, _, _), imp_covers ⟨rfl, rfl, rfl, rfl, rfl, rfl, rfl, rfl, trivial⟩, ?_, ?_⟩
          · (try dsimp only)
            have hN := nx_okS (l := l) (c := c) (b := bar) (by omega) (by assumption)
            refine ⟨by omega, by omega, ?_, sm_app hN, kn_len hN, kn_app hN⟩
            exact kc_eq hN (by first | exact kM_yes (by assumption) | exact kM_no (by assumption)) (by first | exact cS_2 (by assumption) | exact cS_3 (by assumption) (by assumption) | exact cS_1 (by assumption))
          · (try dsimp only); omega
        (try simp only [Decidable.not_not] at h2)
        refine code_exit ?_
        refine then_x ?_; clear hK11 K11
        refine then_x ?_
        refine blk_hit ?_
        refine hK9 _ ?_; clear hK9 K9
        refine code_seq (fun K32 hK32 => ?_)
        refine code_seq (fun K33 hK33 => ?_)
        refine code_region ?_
        refine list_cons rfl (op_q (q_move rfl (by decide)) ?_)
        refine list_cons rfl (op_q (by first | exact q_notd rfl (by decide) | exact q_not rfl (by decide)) ?_)
        refine list_nil ?_
        refine hK33 _ ?_; clear hK33 K33
        refine code_cond_d rfl (fun h9 => ?_) (fun h9 => ?_)
        · skip
          (try simp only [Decidable.not_not] at h9)
          refine code_seq (fun K34 hK34 => ?_)
          refine code_region ?_
          refine list_cons rfl (op_q (q_fieldAddr fi_54_1 rfl rfl (by decide)) ?_)
          refine list_cons rfl (op_store (one_4).2 5 [5] (by intro t ht; simp only [List.mem_cons, List.not_mem_nil, or_false] at ht; subst ht; rfl) (.inl rfl) rfl rfl rfl rfl rfl rfl (by first | exact Nat.le_of_ble_eq_true rfl | (rw [outC_len]; omega) | (show _ ≤ (outC _ _).length; rw [outC_len]; omega) | (simp; omega)) (by decide) rfl ?_)
          refine list_nil ?_
          refine hK34 _ ?_; clear hK34 K34
          refine codeT.imp (σ' := [(0, .par 0 _), (2, .val _), (3, .own 12 54 5 _ _), (4, .val (.int .i64 _)), (5, .box 5 54 [_, _, _, _, _]), (6, .own 18 3 1 _ _), (7, .val (.bool _)), (8, .val (.int .i64 _))]) ?_ (imp_covers ⟨rfl, rfl, rfl, rfl, rfl, rfl, rfl, rfl, trivial⟩)
          refine code_region ?_
          refine list_cons rfl (op_q (q_fieldAddr fi_54_4 rfl rfl (by decide)) ?_)
          refine list_cons rfl (op_store (one_3).2 5 [5] (by intro t ht; simp only [List.mem_cons, List.not_mem_nil, or_false] at ht; subst ht; rfl) (.inl rfl) rfl rfl rfl rfl rfl rfl (by first | exact Nat.le_of_ble_eq_true rfl | (rw [outC_len]; omega) | (show _ ≤ (outC _ _).length; rw [outC_len]; omega) | (simp; omega)) (by decide) rfl ?_)
          refine list_nil ?_
          refine hK32 _ ?_; clear hK32 K32
          refine codeT.imp (σ' := [(0, .par 0 _), (2, .val _), (3, .own 12 54 5 _ _), (4, .val (.int .i64 _)), (5, .box 5 54 [_, _, _, _, _]), (6, .own 18 3 1 _ _), (7, .val (.bool _)), (8, .val (.int .i64 _))]) ?_ (imp_covers ⟨rfl, rfl, rfl, rfl, rfl, rfl, rfl, rfl, trivial⟩)
          refine code_seq (fun K35 hK35 => ?_)
          refine code_block ?_
          refine code_loop (X := PV × List PV) (fun x => [(0, .par 0 (.sl l.length (l.map (.int .i64)))), (2, .val x.1), (3, .own 12 54 5 128 (outC (dcd l) (c + 1).toNat)), (4, .val (.int .i64 (c))), (5, .box 5 54 x.2), (6, .own 18 3 1 (kN (dcd l) (nxK (dcd l) c.toNat bar.toNat)).length ((kN (dcd l) (nxK (dcd l) c.toNat bar.toNat)).map (.int .i64))), (7, .val (.bool (decide ((kS (dcd l) (nxK (dcd l) c.toNat bar.toNat)).2 = true)))), (8, .val (.int .i64 (bar)))]) (fun x => ∃ n : Nat, n ≤ 129 ∧ mexL (kN (dcd l) (nxK (dcd l) c.toNat bar.toNat)) = ((mxS (kN (dcd l) (nxK (dcd l) c.toNat bar.toNat)) n : Nat) : Int) ∧ x.2 = kdL (dcd l) (nxK (dcd l) c.toNat bar.toNat) (n : Int)) (fun x => (130 - fstI x.2)) (_, _) (imp_covers ⟨rfl, rfl, rfl, rfl, rfl, rfl, rfl, rfl, trivial⟩) ?_ ?_
          · (try dsimp only)
            first
            | exact ⟨0, by omega, rfl, kd_emp (by assumption)⟩
            | exact ⟨0, by omega, rfl, kd_some (by assumption)⟩
          · intro x hI
            obtain ⟨t2_p, k_c⟩ := x
            replace hI : ∃ n : Nat, n ≤ 129 ∧ mexL (kN (dcd l) (nxK (dcd l) c.toNat bar.toNat)) = ((mxS (kN (dcd l) (nxK (dcd l) c.toNat bar.toNat)) n : Nat) : Int) ∧ k_c = kdL (dcd l) (nxK (dcd l) c.toNat bar.toNat) (n : Int) := hI
            show codeT _ _ _ [(0, .par 0 (.sl l.length (l.map (.int .i64)))), (2, .val t2_p), (3, .own 12 54 5 128 (outC (dcd l) (c + 1).toNat)), (4, .val (.int .i64 (c))), (5, .box 5 54 k_c), (6, .own 18 3 1 (kN (dcd l) (nxK (dcd l) c.toNat bar.toNat)).length ((kN (dcd l) (nxK (dcd l) c.toNat bar.toNat)).map (.int .i64))), (7, .val (.bool (decide ((kS (dcd l) (nxK (dcd l) c.toNat bar.toNat)).2 = true)))), (8, .val (.int .i64 (bar)))] _
            obtain ⟨n, k1, k2, rfl⟩ := hI
            refine code_seq (fun K36 hK36 => ?_)
            refine code_seq (fun K37 hK37 => ?_)
            refine code_region ?_
            refine list_cons rfl (op_q (q_move rfl (by decide)) ?_)
            refine list_cons rfl (op_q (q_fieldAddr fi_54_0 rfl rfl (by decide)) ?_)
            refine list_cons rfl (op_q (q_load one_3 5 rfl rfl rfl (by first | rfl | exact get_map1 _ 0 _ (by first | omega | (simp; omega))) (by decide)) ?_)
            refine list_cons rfl (op_call _ (spec_l1Has (kN (dcd l) (nxK (dcd l) c.toNat bar.toNat)) _ (by rw [kn_ln]; omega)) rfl rfl (by decide) (by decide) (by decide) rfl ?_)
            rintro _ rfl
            refine list_nil ?_
            refine hK37 _ ?_; clear hK37 K37
            refine codeT.imp (σ' := [(0, .par 0 _), (2, .val _), (3, .own 12 54 5 _ _), (4, .val (.int .i64 _)), (5, .box 5 54 _), (6, .own 18 3 1 _ _), (7, .val (.bool _)), (8, .val (.int .i64 _)), (83, .val (.bool _))]) ?_ (imp_covers ⟨rfl, rfl, rfl, rfl, rfl, rfl, rfl, rfl, rfl, trivial⟩)
            refine code_cond_d rfl (fun h10 => ?_) (fun h10 => ?_)
            · skip
              (try simp only [Decidable.not_not] at h10)
              refine code_skip ?_
              refine hK36 _ ?_; clear hK36 K36
              refine code_block ?_
              refine code_region ?_
              refine list_cons rfl (op_q (q_fieldAddr fi_54_0 rfl rfl (by decide)) ?_)
              refine list_cons rfl (op_q (q_load one_3 5 rfl rfl rfl (by first | rfl | exact get_map1 _ 0 _ (by first | omega | (simp; omega))) (by decide)) ?_)
              refine list_cons rfl (op_q (by first | exact q_addI rfl rfl (by decide) (by omega) (by omega) | exact q_ib rfl rfl rfl (by decide)) ?_)
              refine list_cons rfl (op_q (q_fieldAddr fi_54_0 rfl rfl (by decide)) ?_)
              refine list_cons rfl (op_store (one_3).2 5 [5] (by intro t ht; simp only [List.mem_cons, List.not_mem_nil, or_false] at ht; subst ht; rfl) (.inl rfl) rfl rfl rfl rfl rfl rfl (by first | exact Nat.le_of_ble_eq_true rfl | (rw [outC_len]; omega) | (show _ ≤ (outC _ _).length; rw [outC_len]; omega) | (simp; omega)) (by decide) rfl ?_)
              refine list_nil ?_
              refine blk_n ?_
              refine then_n ⟨(_, _), imp_covers ⟨rfl, rfl, rfl, rfl, rfl, rfl, rfl, rfl, trivial⟩, ?_, ?_⟩
              · (try dsimp only)
                have hn1 : (n : Int) ∈ kN (dcd l) (nxK (dcd l) c.toNat bar.toNat) := hasK_mem (Nat.le_refl _) (by assumption)
                have hn2 := hvl.1 _ hn1
                exact ⟨n + 1, by omega, by rw [k2, mxS_yes (by omega) (by assumption)], rfl⟩
              · (have hn1 : (n : Int) ∈ kN (dcd l) (nxK (dcd l) c.toNat bar.toNat) := hasK_mem (Nat.le_refl _) (by assumption)); have hn2 := hvl.1 _ hn1; show 130 - ((n : Int) + 1).toNat < 130 - (n : Int).toNat; omega
            (try simp only [Decidable.not_not] at h10)
            refine code_exit ?_
            refine then_x ?_; clear hK36 K36
            refine then_x ?_
            refine blk_hit ?_
            refine hK35 _ ?_; clear hK35 K35
            refine codeT.imp (σ' := [(0, .par 0 _), (2, .val _), (3, .own 12 54 5 _ _), (4, .val (.int .i64 _)), (5, .box 5 54 [_, _, _, _, _]), (6, .own 18 3 1 _ _), (7, .val (.bool _)), (8, .val (.int .i64 _))]) ?_ (imp_covers ⟨rfl, rfl, rfl, rfl, rfl, rfl, rfl, rfl, trivial⟩)
            refine code_region ?_
            refine list_cons rfl (op_q (q_move rfl (by decide)) ?_)
            refine list_cons rfl (op_q (q_move rfl (by decide)) ?_)
            refine list_cons rfl (op_q (q_load_agg agg_54 5 (.inr ⟨rfl, _, rfl⟩) rfl rfl (by first | decide | omega | exact Nat.le_refl _ | (simp; done) | (simp; omega)) (by first | rfl | (rw [outC_at (dcd l) (m := (c + 1).toNat) (x := (upI c bar).toNat) (by have := hgt (by assumption); omega) (by omega)]; rfl)) (by decide)) ?_)
            refine list_cons rfl (op_q (q_indexAddr_own sl_35 rfl rfl (by omega) (by omega) (by decide)) ?_)
            refine list_cons rfl (op_store (agg_54).2 3 [3, 88] (by intro t ht; simp only [List.mem_cons, List.not_mem_nil, or_false] at ht; rcases ht with rfl | rfl <;> rfl) (.inl rfl) rfl rfl rfl rfl (by first | rfl | exact flat_part (flat_map _ (fun _ => rfl) _) _ _ | exact flat_map _ (fun _ => rfl) _) (by first | rfl | rfl) (by first | exact Nat.le_of_ble_eq_true rfl | (rw [outC_len]; omega) | (show _ ≤ (outC _ _).length; rw [outC_len]; omega) | (simp; omega)) (by decide) rfl ?_)
            refine list_nil ?_
            refine blk_n ?_
            refine hK7 _ ?_; clear hK7 K7
            refine codeT.imp (σ' := [(0, .par 0 _), (2, .val _), (3, .own 12 54 5 _ _), (4, .val (.int .i64 _)), (5, .box 5 54 _), (6, .own 18 3 1 _ _), (7, .val (.bool _)), (8, .val (.int .i64 _))]) ?_ (imp_covers ⟨rfl, rfl, rfl, rfl, rfl, rfl, rfl, rfl, trivial⟩)
            refine code_region ?_
            refine list_cons rfl (op_q (q_move rfl (by decide)) ?_)
            refine list_cons rfl (op_q (by first | exact q_subI rfl rfl (by decide) (by omega) (by omega) | exact q_ib rfl rfl rfl (by decide)) ?_)
            refine list_cons rfl (op_q (q_assign rfl (by decide)) ?_)
            refine list_nil ?_
            refine then_n ⟨(_, _, _, _), imp_covers ⟨rfl, rfl, rfl, rfl, trivial⟩, ?_, ?_⟩
            · (try dsimp only)
              refine ⟨by omega, by omega, rfl, ?_⟩
              first
              | exact out_fin (n := n) (by omega) (by omega) (by rw [show bar.toNat = 7 by omega]) (by rw [k2, mxS_no (by omega) (by assumption)])
            · (try dsimp only); omega
        (try simp only [Decidable.not_not] at h9)
        refine code_skip ?_
        refine hK32 _ ?_; clear hK32 K32
        refine code_seq (fun K38 hK38 => ?_)
        refine code_block ?_
        refine code_loop (X := PV × List PV) (fun x => [(0, .par 0 (.sl l.length (l.map (.int .i64)))), (2, .val x.1), (3, .own 12 54 5 128 (outC (dcd l) (c + 1).toNat)), (4, .val (.int .i64 (c))), (5, .box 5 54 x.2), (6, .own 18 3 1 (kN (dcd l) (nxK (dcd l) c.toNat bar.toNat)).length ((kN (dcd l) (nxK (dcd l) c.toNat bar.toNat)).map (.int .i64))), (7, .val (.bool (decide ((kS (dcd l) (nxK (dcd l) c.toNat bar.toNat)).2 = true)))), (8, .val (.int .i64 (bar)))]) (fun x => ∃ n : Nat, n ≤ 129 ∧ mexL (kN (dcd l) (nxK (dcd l) c.toNat bar.toNat)) = ((mxS (kN (dcd l) (nxK (dcd l) c.toNat bar.toNat)) n : Nat) : Int) ∧ x.2 = kdL (dcd l) (nxK (dcd l) c.toNat bar.toNat) (n : Int)) (fun x => (130 - fstI x.2)) (_, _) (imp_covers ⟨rfl, rfl, rfl, rfl, rfl, rfl, rfl, rfl, trivial⟩) ?_ ?_
        · (try dsimp only)
          first
          | exact ⟨0, by omega, rfl, kd_emp (by assumption)⟩
          | exact ⟨0, by omega, rfl, kd_some (by assumption)⟩
        · intro x hI
          obtain ⟨t2_p, k_c⟩ := x
          replace hI : ∃ n : Nat, n ≤ 129 ∧ mexL (kN (dcd l) (nxK (dcd l) c.toNat bar.toNat)) = ((mxS (kN (dcd l) (nxK (dcd l) c.toNat bar.toNat)) n : Nat) : Int) ∧ k_c = kdL (dcd l) (nxK (dcd l) c.toNat bar.toNat) (n : Int) := hI
          show codeT _ _ _ [(0, .par 0 (.sl l.length (l.map (.int .i64)))), (2, .val t2_p), (3, .own 12 54 5 128 (outC (dcd l) (c + 1).toNat)), (4, .val (.int .i64 (c))), (5, .box 5 54 k_c), (6, .own 18 3 1 (kN (dcd l) (nxK (dcd l) c.toNat bar.toNat)).length ((kN (dcd l) (nxK (dcd l) c.toNat bar.toNat)).map (.int .i64))), (7, .val (.bool (decide ((kS (dcd l) (nxK (dcd l) c.toNat bar.toNat)).2 = true)))), (8, .val (.int .i64 (bar)))] _
          obtain ⟨n, k1, k2, rfl⟩ := hI
          refine code_seq (fun K39 hK39 => ?_)
          refine code_seq (fun K40 hK40 => ?_)
          refine code_region ?_
          refine list_cons rfl (op_q (q_move rfl (by decide)) ?_)
          refine list_cons rfl (op_q (q_fieldAddr fi_54_0 rfl rfl (by decide)) ?_)
          refine list_cons rfl (op_q (q_load one_3 5 rfl rfl rfl (by first | rfl | exact get_map1 _ 0 _ (by first | omega | (simp; omega))) (by decide)) ?_)
          refine list_cons rfl (op_call _ (spec_l1Has (kN (dcd l) (nxK (dcd l) c.toNat bar.toNat)) _ (by rw [kn_ln]; omega)) rfl rfl (by decide) (by decide) (by decide) rfl ?_)
          rintro _ rfl
          refine list_nil ?_
          refine hK40 _ ?_; clear hK40 K40
          refine codeT.imp (σ' := [(0, .par 0 _), (2, .val _), (3, .own 12 54 5 _ _), (4, .val (.int .i64 _)), (5, .box 5 54 _), (6, .own 18 3 1 _ _), (7, .val (.bool _)), (8, .val (.int .i64 _)), (83, .val (.bool _))]) ?_ (imp_covers ⟨rfl, rfl, rfl, rfl, rfl, rfl, rfl, rfl, rfl, trivial⟩)
          refine code_cond_d rfl (fun h11 => ?_) (fun h11 => ?_)
          · skip
            (try simp only [Decidable.not_not] at h11)
            refine code_skip ?_
            refine hK39 _ ?_; clear hK39 K39
            refine code_block ?_
            refine code_region ?_
            refine list_cons rfl (op_q (q_fieldAddr fi_54_0 rfl rfl (by decide)) ?_)
            refine list_cons rfl (op_q (q_load one_3 5 rfl rfl rfl (by first | rfl | exact get_map1 _ 0 _ (by first | omega | (simp; omega))) (by decide)) ?_)
            refine list_cons rfl (op_q (by first | exact q_addI rfl rfl (by decide) (by omega) (by omega) | exact q_ib rfl rfl rfl (by decide)) ?_)
            refine list_cons rfl (op_q (q_fieldAddr fi_54_0 rfl rfl (by decide)) ?_)
            refine list_cons rfl (op_store (one_3).2 5 [5] (by intro t ht; simp only [List.mem_cons, List.not_mem_nil, or_false] at ht; subst ht; rfl) (.inl rfl) rfl rfl rfl rfl rfl rfl (by first | exact Nat.le_of_ble_eq_true rfl | (rw [outC_len]; omega) | (show _ ≤ (outC _ _).length; rw [outC_len]; omega) | (simp; omega)) (by decide) rfl ?_)
            refine list_nil ?_
            refine blk_n ?_
            refine then_n ⟨(_, _), imp_covers ⟨rfl, rfl, rfl, rfl, rfl, rfl, rfl, rfl, trivial⟩, ?_, ?_⟩
            · (try dsimp only)
              have hn1 : (n : Int) ∈ kN (dcd l) (nxK (dcd l) c.toNat bar.toNat) := hasK_mem (Nat.le_refl _) (by assumption)
              have hn2 := hvl.1 _ hn1
              exact ⟨n + 1, by omega, by rw [k2, mxS_yes (by omega) (by assumption)], rfl⟩
            · (have hn1 : (n : Int) ∈ kN (dcd l) (nxK (dcd l) c.toNat bar.toNat) := hasK_mem (Nat.le_refl _) (by assumption)); have hn2 := hvl.1 _ hn1; show 130 - ((n : Int) + 1).toNat < 130 - (n : Int).toNat; omega
          (try simp only [Decidable.not_not] at h11)
          refine code_exit ?_
          refine then_x ?_; clear hK39 K39
          refine then_x ?_
          refine blk_hit ?_
          refine hK38 _ ?_; clear hK38 K38
          refine codeT.imp (σ' := [(0, .par 0 _), (2, .val _), (3, .own 12 54 5 _ _), (4, .val (.int .i64 _)), (5, .box 5 54 [_, _, _, _, _]), (6, .own 18 3 1 _ _), (7, .val (.bool _)), (8, .val (.int .i64 _))]) ?_ (imp_covers ⟨rfl, rfl, rfl, rfl, rfl, rfl, rfl, rfl, trivial⟩)
          refine code_region ?_
          refine list_cons rfl (op_q (q_move rfl (by decide)) ?_)
          refine list_cons rfl (op_q (q_move rfl (by decide)) ?_)
          refine list_cons rfl (op_q (q_load_agg agg_54 5 (.inr ⟨rfl, _, rfl⟩) rfl rfl (by first | decide | omega | exact Nat.le_refl _ | (simp; done) | (simp; omega)) (by first | rfl | (rw [outC_at (dcd l) (m := (c + 1).toNat) (x := (upI c bar).toNat) (by have := hgt (by assumption); omega) (by omega)]; rfl)) (by decide)) ?_)
          refine list_cons rfl (op_q (q_indexAddr_own sl_35 rfl rfl (by omega) (by omega) (by decide)) ?_)
          refine list_cons rfl (op_store (agg_54).2 3 [3, 88] (by intro t ht; simp only [List.mem_cons, List.not_mem_nil, or_false] at ht; rcases ht with rfl | rfl <;> rfl) (.inl rfl) rfl rfl rfl rfl (by first | rfl | exact flat_part (flat_map _ (fun _ => rfl) _) _ _ | exact flat_map _ (fun _ => rfl) _) (by first | rfl | rfl) (by first | exact Nat.le_of_ble_eq_true rfl | (rw [outC_len]; omega) | (show _ ≤ (outC _ _).length; rw [outC_len]; omega) | (simp; omega)) (by decide) rfl ?_)
          refine list_nil ?_
          refine blk_n ?_
          refine hK7 _ ?_; clear hK7 K7
          refine codeT.imp (σ' := [(0, .par 0 _), (2, .val _), (3, .own 12 54 5 _ _), (4, .val (.int .i64 _)), (5, .box 5 54 _), (6, .own 18 3 1 _ _), (7, .val (.bool _)), (8, .val (.int .i64 _))]) ?_ (imp_covers ⟨rfl, rfl, rfl, rfl, rfl, rfl, rfl, rfl, trivial⟩)
          refine code_region ?_
          refine list_cons rfl (op_q (q_move rfl (by decide)) ?_)
          refine list_cons rfl (op_q (by first | exact q_subI rfl rfl (by decide) (by omega) (by omega) | exact q_ib rfl rfl rfl (by decide)) ?_)
          refine list_cons rfl (op_q (q_assign rfl (by decide)) ?_)
          refine list_nil ?_
          refine then_n ⟨(_, _, _, _), imp_covers ⟨rfl, rfl, rfl, rfl, trivial⟩, ?_, ?_⟩
          · (try dsimp only)
            refine ⟨by omega, by omega, rfl, ?_⟩
            first
            | exact out_fin (n := n) (by omega) (by omega) (by rw [show bar.toNat = 7 by omega]) (by rw [k2, mxS_no (by omega) (by assumption)])
          · (try dsimp only); omega
    (try simp only [Decidable.not_not] at h1)
    refine code_exit ?_
    refine then_x ?_; clear hK5 K5
    refine then_x ?_
    refine blk_hit ?_
    refine hK3 _ ?_; clear hK3 K3
    refine code_seq (fun K41 hK41 => ?_)
    refine code_region ?_
    refine list_cons rfl (op_q (q_move rfl (by decide)) ?_)
    refine list_cons rfl (op_q (q_assign rfl (by decide)) ?_)
    refine list_nil ?_
    refine hK41 _ ?_; clear hK41 K41
    refine code_ret ?_
    refine ends_ret (cs := []) rfl rfl rfl rfl trivial ?_
    rw [show (c + 1).toNat = 0 by omega]; first | done | rfl
set_option maxRecDepth 4000 in
theorem spec_l11Row (r l : List Int) (hr : r.length ≤ 4611686018427387904) (hl : l.length ≤ 4611686018427387904) : PCalls Tryd.prog 23 [.sl r.length (r.map (.int .i64)), .sl l.length (l.map (.int .i64))] (· = [.val (.bool (decide (WroP r l)))]) := by
  refine pcalls_of_code (n := 27) az Tryd.func23 (by kernel_rfl) rfl rfl (Nat.le_of_ble_eq_true rfl) (by intro t u h; simp [Tryd.f23] at h) ?_
  refine code_seq (fun K1 hK1 => ?_)
  refine code_region ?_
  refine list_cons rfl (op_q (q_assign rfl (by decide)) ?_)
  refine list_nil ?_
  refine hK1 _ ?_; clear hK1 K1
  refine code_seq (fun K2 hK2 => ?_)
  refine code_seq (fun K3 hK3 => ?_)
  refine code_region ?_
  refine list_cons rfl (op_q (q_move rfl (by decide)) ?_)
  refine list_cons rfl (op_call _ (spec_l11Goal _ (by omega)) rfl rfl (by decide) (by decide) (by decide) rfl ?_)
  rintro _ rfl
  refine list_cons rfl (op_q (by first | exact q_notd rfl (by decide) | exact q_not rfl (by decide)) ?_)
  refine list_cons rfl (op_q (q_move rfl (by decide)) ?_)
  refine list_guard_d rfl rfl rfl rfl (by decide) rfl (by decide) (fun h1 => ?_) (fun h1 => ?_)
  · simp only [Bool.false_eq_true, if_true, if_false, Decidable.not_not] at h1
    refine id (op_q (q_move rfl (by decide)) ?_)
    refine list_guard_y rfl rfl rfl rfl (by decide) rfl ?_
    refine id (op_call _ (spec_l2Row _ (by first | omega | (simp; omega))) rfl rfl (by decide) (by decide) (by decide) rfl ?_)
    rintro _ rfl
    refine list_guard_y rfl rfl rfl rfl (by decide) rfl ?_
    refine id (op_q (by first | exact q_notd rfl (by decide) | exact q_not rfl (by decide)) ?_)
    refine list_cons rfl (op_q (q_pick rfl rfl (by decide)) ?_)
    refine list_nil ?_
    refine hK3 _ ?_; clear hK3 K3
    refine codeT.imp (σ' := [(0, _), (1, _), (4, _), (13, _)]) ?_ (imp_covers ⟨rfl, rfl, rfl, rfl, trivial⟩)
    refine code_cond_d rfl (fun h2 => ?_) (fun h2 => ?_)
    · skip
      (try simp only [Decidable.not_not] at h2)
      refine code_seq (fun K4 hK4 => ?_)
      refine code_region ?_
      refine list_cons rfl (op_q (q_assign rfl (by decide)) ?_)
      refine list_nil ?_
      refine hK4 _ ?_; clear hK4 K4
      refine code_ret ?_
      refine then_r ?_; clear hK2 K2
      refine ends_ret (cs := []) rfl rfl rfl rfl trivial ?_
      first
        | (rw [decide_eq_false (fun z : WroP r l => absurd z.1 (by assumption))]; done)
        | (rw [decide_eq_false (fun z : WroP r l => absurd z.2.1 (by assumption))]; done)
        | (rw [decide_eq_false (fun z : WroP r l => absurd (z.2.2 i.toNat (by omega)) (by assumption))]; done)
        | (rw [decide_eq_true (show WroP r l from ⟨hD, hRo, fun j hj => i3 j (by omega)⟩)]; done)
    (try simp only [Decidable.not_not] at h2)
    refine code_skip ?_
    refine hK2 _ ?_; clear hK2 K2
    refine code_seq (fun K5 hK5 => ?_)
    refine code_seq (fun K6 hK6 => ?_)
    refine code_region ?_
    refine list_cons rfl (op_q (q_assign rfl (by decide)) ?_)
    refine list_nil ?_
    refine hK6 _ ?_; clear hK6 K6
    refine code_block ?_
    refine code_loop (X := Bool × Int) (fun x => [(0, .par 0 (.sl r.length (r.map (.int .i64)))), (1, .par 1 (.sl l.length (l.map (.int .i64)))), (4, .val (.bool x.1)), (5, .val (.int .i64 x.2))]) (fun x => DigP l ∧ RowP r ∧ 0 ≤ x.2 ∧ x.2 ≤ r.length ∧ ∀ j, j < x.2.toNat → onN (dcd l) (r.getD j 0).toNat = true) (fun x => (r.length - x.2).toNat) (_, _) (imp_covers ⟨rfl, rfl, rfl, rfl, trivial⟩) ?_ ?_
    · (try dsimp only)
      exact ⟨by assumption, by assumption, by omega, by omega, fun j hj => absurd hj (Nat.not_lt_zero j)⟩
    · intro x hI
      obtain ⟨t4, i⟩ := x
      replace hI : DigP l ∧ RowP r ∧ 0 ≤ i ∧ i ≤ r.length ∧ ∀ j, j < i.toNat → onN (dcd l) (r.getD j 0).toNat = true := hI
      show codeT _ _ _ [(0, .par 0 (.sl r.length (r.map (.int .i64)))), (1, .par 1 (.sl l.length (l.map (.int .i64)))), (4, .val (.bool t4)), (5, .val (.int .i64 i))] _
      obtain ⟨hD, hRo, i1, i2, i3⟩ := hI
      have hat := fun h => hRo.at (j := i.toNat) h
      refine code_seq (fun K7 hK7 => ?_)
      refine code_seq (fun K8 hK8 => ?_)
      refine code_region ?_
      refine list_cons rfl (op_q (q_move rfl (by decide)) ?_)
      refine list_cons rfl (op_q (q_move rfl (by decide)) ?_)
      refine list_cons rfl (op_q (q_len_sl Tryd.underlying22 rfl rfl (by decide)) ?_)
      refine list_cons rfl (op_q (q_lt rfl rfl (by decide)) ?_)
      refine list_nil ?_
      refine hK8 _ ?_; clear hK8 K8
      refine code_cond_d rfl (fun h3 => ?_) (fun h3 => ?_)
      · skip
        (try simp only [Decidable.not_not] at h3)
        refine code_skip ?_
        refine hK7 _ ?_; clear hK7 K7
        refine code_seq (fun K9 hK9 => ?_)
        refine code_block ?_
        refine code_seq (fun K10 hK10 => ?_)
        refine code_region ?_
        refine list_cons rfl (op_q (q_move rfl (by decide)) ?_)
        refine list_cons rfl (op_q (q_move rfl (by decide)) ?_)
        refine list_cons rfl (op_q (q_indexAddr_rd sl_22 rfl (.inl ⟨_, rfl, rfl⟩) rfl (by omega) (by omega) (by decide)) ?_)
        refine list_cons rfl (op_q (q_load_rd one_3 rfl (.inl ⟨_, (by first | rfl | exact congrArg (SV.rpar _) (drop_map1 _ 0 _ (by first | omega | (simp; omega)))), rfl⟩) (by decide)) ?_)
        refine list_cons rfl (op_q (q_move rfl (by decide)) ?_)
        refine list_cons rfl (op_call _ (spec_l11Way (r.getD i.toNat 0) l hD (hat (by omega))) rfl rfl (by decide) (by decide) (by decide) rfl ?_)
        rintro _ rfl
        refine list_cons rfl (op_q (by first | exact q_notd rfl (by decide) | exact q_not rfl (by decide)) ?_)
        refine list_nil ?_
        refine hK10 _ ?_; clear hK10 K10
        refine codeT.imp (σ' := [(0, _), (1, _), (4, _), (5, _), (26, _)]) ?_ (imp_covers ⟨rfl, rfl, rfl, rfl, rfl, trivial⟩)
        refine code_cond_d rfl (fun h4 => ?_) (fun h4 => ?_)
        · skip
          (try simp only [Decidable.not_not] at h4)
          refine code_seq (fun K11 hK11 => ?_)
          refine code_region ?_
          refine list_cons rfl (op_q (q_assign rfl (by decide)) ?_)
          refine list_nil ?_
          refine hK11 _ ?_; clear hK11 K11
          refine code_ret ?_
          refine blk_r ?_
          refine then_r ?_; clear hK9 K9
          refine then_r ?_
          refine blk_r ?_
          refine then_r ?_; clear hK5 K5
          refine ends_ret (cs := []) rfl rfl rfl rfl trivial ?_
          first
            | (rw [decide_eq_false (fun z : WroP r l => absurd z.1 (by assumption))]; done)
            | (rw [decide_eq_false (fun z : WroP r l => absurd z.2.1 (by assumption))]; done)
            | (rw [decide_eq_false (fun z : WroP r l => absurd (z.2.2 i.toNat (by omega)) (by assumption))]; done)
            | (rw [decide_eq_true (show WroP r l from ⟨hD, hRo, fun j hj => i3 j (by omega)⟩)]; done)
        (try simp only [Decidable.not_not] at h4)
        refine code_skip ?_
        refine blk_n ?_
        refine hK9 _ ?_; clear hK9 K9
        refine code_region ?_
        refine list_cons rfl (op_q (q_move rfl (by decide)) ?_)
        refine list_cons rfl (op_q (by first | exact q_addI rfl rfl (by decide) (by omega) (by omega) | exact q_ib rfl rfl rfl (by decide)) ?_)
        refine list_cons rfl (op_q (q_assign rfl (by decide)) ?_)
        refine list_nil ?_
        refine then_n ⟨(_, _), imp_covers ⟨rfl, rfl, rfl, rfl, trivial⟩, ?_, ?_⟩
        · (try dsimp only)
          refine ⟨hD, hRo, by omega, by omega, fun j hj => ?_⟩
          by_cases e : j = i.toNat
          · subst e; assumption
          · exact i3 j (by omega)
        · (try dsimp only); omega
      (try simp only [Decidable.not_not] at h3)
      refine code_exit ?_
      refine then_x ?_; clear hK7 K7
      refine then_x ?_
      refine blk_hit ?_
      refine hK5 _ ?_; clear hK5 K5
      refine code_seq (fun K12 hK12 => ?_)
      refine code_region ?_
      refine list_cons rfl (op_q (q_assign rfl (by decide)) ?_)
      refine list_nil ?_
      refine hK12 _ ?_; clear hK12 K12
      refine code_ret ?_
      refine ends_ret (cs := []) rfl rfl rfl rfl trivial ?_
      first
        | (rw [decide_eq_false (fun z : WroP r l => absurd z.1 (by assumption))]; done)
        | (rw [decide_eq_false (fun z : WroP r l => absurd z.2.1 (by assumption))]; done)
        | (rw [decide_eq_false (fun z : WroP r l => absurd (z.2.2 i.toNat (by omega)) (by assumption))]; done)
        | (rw [decide_eq_true (show WroP r l from ⟨hD, hRo, fun j hj => i3 j (by omega)⟩)]; done)
  simp only [Bool.false_eq_true, if_true, if_false, Decidable.not_not] at h1
  refine list_guard_nT rfl rfl rfl rfl (by decide) (by decide) ?_
  refine list_guard_nT rfl rfl rfl rfl (by decide) (by decide) ?_
  refine list_cons rfl (op_q (q_pick rfl rfl (by decide)) ?_)
  refine list_nil ?_
  refine hK3 _ ?_; clear hK3 K3
  refine code_cond_t rfl ?_
  refine code_seq (fun K13 hK13 => ?_)
  refine code_region ?_
  refine list_cons rfl (op_q (q_assign rfl (by decide)) ?_)
  refine list_nil ?_
  refine hK13 _ ?_; clear hK13 K13
  refine codeT.imp (σ' := [(0, _), (1, _), (4, _)]) ?_ (imp_covers ⟨rfl, rfl, rfl, trivial⟩)
  refine code_ret ?_
  refine then_r ?_; clear hK2 K2
  refine ends_ret (cs := []) rfl rfl rfl rfl trivial ?_
  first
    | (rw [decide_eq_false (fun z : WroP r l => absurd z.1 (by assumption))]; done)
    | (rw [decide_eq_false (fun z : WroP r l => absurd z.2.1 (by assumption))]; done)
    | (rw [decide_eq_false (fun z : WroP r l => absurd (z.2.2 i.toNat (by omega)) (by assumption))]; done)
    | (rw [decide_eq_true (show WroP r l from ⟨hD, hRo, fun j hj => i3 j (by omega)⟩)]; done)
set_option maxRecDepth 4000 in
theorem spec_l11Sum (r l : List Int) (hW : WroP r l) : PCalls Tryd.prog 32 [.sl r.length (r.map (.int .i64)), .sl 128 (allC (dcd l))] (· = [.val (.int .i64 (xrK (dcd l) r r.length))]) := by
  refine pcalls_of_code (n := 24) az Tryd.func32 (by kernel_rfl) rfl rfl (Nat.le_of_ble_eq_true rfl) (by intro t u h; simp [Tryd.f32] at h) ?_
  have he := dcd_cells l
  have hr6 := hW.2.1.1
  refine code_seq (fun K1 hK1 => ?_)
  refine code_region ?_
  refine list_cons rfl (op_q (q_assign rfl (by decide)) ?_)
  refine list_nil ?_
  refine hK1 _ ?_; clear hK1 K1
  refine code_seq (fun K2 hK2 => ?_)
  refine code_region ?_
  refine list_cons rfl (op_q (q_assign rfl (by decide)) ?_)
  refine list_nil ?_
  refine hK2 _ ?_; clear hK2 K2
  refine code_seq (fun K3 hK3 => ?_)
  refine code_seq (fun K4 hK4 => ?_)
  refine code_region ?_
  refine list_cons rfl (op_q (q_assign rfl (by decide)) ?_)
  refine list_nil ?_
  refine hK4 _ ?_; clear hK4 K4
  refine code_block ?_
  refine code_loop (X := Int × Int × Int) (fun x => [(0, .par 0 (.sl r.length (r.map (.int .i64)))), (1, .par 1 (.sl 128 (allC (dcd l)))), (4, .val (.int .i64 x.1)), (5, .val (.int .i64 x.2.1)), (6, .val (.int .i64 x.2.2))]) (fun x => 0 ≤ x.2.2 ∧ x.2.2 ≤ r.length ∧ x.2.1 = xrK (dcd l) r x.2.2.toNat) (fun x => (r.length - x.2.2).toNat) (_, _, _) (imp_covers ⟨rfl, rfl, rfl, rfl, rfl, trivial⟩) ?_ ?_
  · (try dsimp only)
    exact ⟨by omega, by omega, rfl⟩
  · intro x hI
    obtain ⟨t4, sum, i⟩ := x
    replace hI : 0 ≤ i ∧ i ≤ r.length ∧ sum = xrK (dcd l) r i.toNat := hI
    show codeT _ _ _ [(0, .par 0 (.sl r.length (r.map (.int .i64)))), (1, .par 1 (.sl 128 (allC (dcd l)))), (4, .val (.int .i64 t4)), (5, .val (.int .i64 sum)), (6, .val (.int .i64 i))] _
    obtain ⟨i1, i2, rfl⟩ := hI
    have hat := fun h => hW.2.1.at (j := i.toNat) h
    have hx := xrK_le he (fun j hj => hW.2.1.at hj) i.toNat (by omega)
    have hcb := fun h => cell_bd he (x := (r.getD i.toNat 0).toNat) (by have := hat h; omega)
    refine code_seq (fun K5 hK5 => ?_)
    refine code_seq (fun K6 hK6 => ?_)
    refine code_region ?_
    refine list_cons rfl (op_q (q_move rfl (by decide)) ?_)
    refine list_cons rfl (op_q (q_move rfl (by decide)) ?_)
    refine list_cons rfl (op_q (q_len_sl Tryd.underlying22 rfl rfl (by decide)) ?_)
    refine list_cons rfl (op_q (q_lt rfl rfl (by decide)) ?_)
    refine list_nil ?_
    refine hK6 _ ?_; clear hK6 K6
    refine code_cond_d rfl (fun h1 => ?_) (fun h1 => ?_)
    · skip
      (try simp only [Decidable.not_not] at h1)
      refine code_skip ?_
      refine hK5 _ ?_; clear hK5 K5
      refine code_seq (fun K7 hK7 => ?_)
      refine code_block ?_
      refine code_region ?_
      refine list_cons rfl (op_q (q_move rfl (by decide)) ?_)
      refine list_cons rfl (op_q (q_move rfl (by decide)) ?_)
      refine list_cons rfl (op_q (q_move rfl (by decide)) ?_)
      refine list_cons rfl (op_q (q_move rfl (by decide)) ?_)
      refine list_cons rfl (op_q (q_indexAddr_rd sl_22 rfl (.inl ⟨_, rfl, rfl⟩) rfl (by have := hat (by omega); omega) (by have := hat (by omega); omega) (by decide)) ?_)
      refine list_cons rfl (op_q (q_load_rd one_3 rfl (.inl ⟨_, (by first | exact congrArg (SV.rpar _) (drop_map1 _ 0 _ (by omega)) | exact congrArg (SV.rpar _) (all_dr (dcd l) (by have := hat (by omega); omega))), rfl⟩) (by decide)) ?_)
      refine list_cons rfl (op_q (q_indexAddr_rd sl_35 rfl (.inl ⟨_, rfl, rfl⟩) rfl (by have := hat (by omega); omega) (by have := hat (by omega); omega) (by decide)) ?_)
      refine list_cons rfl (op_q (q_fieldAddr fi_54_0 rfl rfl (by decide)) ?_)
      refine list_cons rfl (op_q (q_load_rd one_3 rfl (.inl ⟨_, (by first | exact congrArg (SV.rpar _) (drop_map1 _ 0 _ (by omega)) | exact congrArg (SV.rpar _) (all_dr (dcd l) (by have := hat (by omega); omega))), rfl⟩) (by decide)) ?_)
      refine list_cons rfl (op_q (by first | exact q_xorI rfl rfl (by decide) (by omega) (by omega) (by omega) (by omega) | exact q_ib rfl rfl rfl (by decide)) ?_)
      refine list_cons rfl (op_q (q_assign rfl (by decide)) ?_)
      refine list_nil ?_
      refine blk_n ?_
      refine hK7 _ ?_; clear hK7 K7
      refine codeT.imp (σ' := [(0, _), (1, _), (4, _), (5, _), (6, _)]) ?_ (imp_covers ⟨rfl, rfl, rfl, rfl, rfl, trivial⟩)
      refine code_region ?_
      refine list_cons rfl (op_q (q_move rfl (by decide)) ?_)
      refine list_cons rfl (op_q (by first | exact q_addI rfl rfl (by decide) (by omega) (by omega) | exact q_ib rfl rfl rfl (by decide)) ?_)
      refine list_cons rfl (op_q (q_assign rfl (by decide)) ?_)
      refine list_nil ?_
      refine then_n ⟨(_, _, _), imp_covers ⟨rfl, rfl, rfl, rfl, rfl, trivial⟩, ?_, ?_⟩
      · (try dsimp only)
        exact ⟨by omega, by omega, by rw [show (i + 1).toNat = i.toNat + 1 by omega]; rfl⟩
      · (try dsimp only); omega
    (try simp only [Decidable.not_not] at h1)
    refine code_exit ?_
    refine then_x ?_; clear hK5 K5
    refine then_x ?_
    refine blk_hit ?_
    refine hK3 _ ?_; clear hK3 K3
    refine code_seq (fun K8 hK8 => ?_)
    refine code_region ?_
    refine list_cons rfl (op_q (q_move rfl (by decide)) ?_)
    refine list_cons rfl (op_q (q_assign rfl (by decide)) ?_)
    refine list_nil ?_
    refine hK8 _ ?_; clear hK8 K8
    refine code_ret ?_
    refine ends_ret (cs := []) rfl rfl rfl rfl trivial ?_
    rw [show i.toNat = r.length by omega]
def fl (fs : List (Int × Int)) : List PV := (fs.map fun f => [PV.int .i64 f.1, PV.int .i64 f.2]).flatten
theorem fl_at : ∀ (fs : List (Int × Int)) (k : Nat), k < fs.length → ((fl fs).drop (k * 2)).take 2 = [PV.int .i64 (fs.getD k (0, 0)).1, PV.int .i64 (fs.getD k (0, 0)).2]
  | f :: fs, 0, _ => rfl
  | f :: fs, k + 1, h => by
    have ih := fl_at fs k (by simpa using h)
    show (((PV.int .i64 f.1 :: PV.int .i64 f.2 :: fl fs)).drop ((k + 1) * 2)).take 2 = _
    rw [show (k + 1) * 2 = k * 2 + 2 by omega]
    exact ih
theorem fl_len : ∀ fs : List (Int × Int), (fl fs).length = fs.length * 2
  | [] => rfl
  | f :: fs => by
    show (PV.int .i64 f.1 :: PV.int .i64 f.2 :: fl fs).length = _
    simp only [List.length_cons, fl_len fs]; omega
theorem fl_flat : ∀ fs : List (Int × Int), PV.flatL (fl fs) = true
  | [] => rfl
  | f :: fs => by
    show PV.flatL (PV.int .i64 f.1 :: PV.int .i64 f.2 :: fl fs) = true
    simp only [PV.flatL, PV.flat, fl_flat fs, Bool.and_self]
theorem fl_put : ∀ (gs : List (Int × Int)) (k : Nat) (x y : Int), k < gs.length → putAt (fl gs) (k * 2) [PV.int .i64 x, PV.int .i64 y] = fl (gs.set k (x, y))
  | g :: gs, 0, x, y, _ => by
    show ((PV.int .i64 g.1 :: PV.int .i64 g.2 :: fl gs).take 0 ++ [PV.int .i64 x, PV.int .i64 y] ++ (PV.int .i64 g.1 :: PV.int .i64 g.2 :: fl gs).drop (0 + 2)) = _
    rfl
  | g :: gs, k + 1, x, y, h => by
    have ih := fl_put gs k x y (by simpa using h)
    show ((PV.int .i64 g.1 :: PV.int .i64 g.2 :: fl gs).take ((k + 1) * 2) ++ [PV.int .i64 x, PV.int .i64 y] ++ (PV.int .i64 g.1 :: PV.int .i64 g.2 :: fl gs).drop ((k + 1) * 2 + 2)) = PV.int .i64 g.1 :: PV.int .i64 g.2 :: fl (gs.set k (x, y))
    rw [← ih, show (k + 1) * 2 = k * 2 + 1 + 1 by omega, show k * 2 + 1 + 1 + 2 = k * 2 + 2 + 1 + 1 by omega]
    rfl
theorem fl_put0 : ∀ (gs : List (Int × Int)) (k : Nat) (x : Int), k < gs.length → putAt (fl gs) (k * 2) [PV.int .i64 x] = fl (gs.set k (x, (gs.getD k (0, 0)).2))
  | g :: gs, 0, x, _ => rfl
  | g :: gs, k + 1, x, h => by
    have ih := fl_put0 gs k x (by simpa using h)
    show ((PV.int .i64 g.1 :: PV.int .i64 g.2 :: fl gs).take ((k + 1) * 2) ++ [PV.int .i64 x] ++ (PV.int .i64 g.1 :: PV.int .i64 g.2 :: fl gs).drop ((k + 1) * 2 + 1)) = PV.int .i64 g.1 :: PV.int .i64 g.2 :: fl (gs.set k (x, (gs.getD k (0, 0)).2))
    rw [← ih, show (k + 1) * 2 = k * 2 + 1 + 1 by omega, show k * 2 + 1 + 1 + 1 = k * 2 + 1 + 1 + 1 by omega]
    rfl
theorem fl_put1 : ∀ (gs : List (Int × Int)) (k : Nat) (x : Int), k < gs.length → putAt (fl gs) (k * 2 + 1) [PV.int .i64 x] = fl (gs.set k ((gs.getD k (0, 0)).1, x))
  | g :: gs, 0, x, _ => rfl
  | g :: gs, k + 1, x, h => by
    have ih := fl_put1 gs k x (by simpa using h)
    show ((PV.int .i64 g.1 :: PV.int .i64 g.2 :: fl gs).take ((k + 1) * 2 + 1) ++ [PV.int .i64 x] ++ (PV.int .i64 g.1 :: PV.int .i64 g.2 :: fl gs).drop ((k + 1) * 2 + 1 + 1)) = PV.int .i64 g.1 :: PV.int .i64 g.2 :: fl (gs.set k ((gs.getD k (0, 0)).1, x))
    rw [← ih, show (k + 1) * 2 + 1 = k * 2 + 1 + 1 + 1 by omega, show k * 2 + 1 + 1 + 1 + 1 = k * 2 + 1 + 1 + 1 + 1 by omega]
    rfl
theorem fl_get0 : ∀ (gs : List (Int × Int)) (k : Nat), k < gs.length → (fl gs)[k * 2]? = some (PV.int .i64 (gs.getD k (0, 0)).1)
  | g :: gs, 0, _ => rfl
  | g :: gs, k + 1, h => by
    have ih := fl_get0 gs k (by simpa using h)
    show (PV.int .i64 g.1 :: PV.int .i64 g.2 :: fl gs)[(k + 1) * 2]? = _
    rw [show (k + 1) * 2 = k * 2 + 1 + 1 by omega]
    exact ih
theorem fl_get1 : ∀ (gs : List (Int × Int)) (k : Nat), k < gs.length → (fl gs)[k * 2 + 1]? = some (PV.int .i64 (gs.getD k (0, 0)).2)
  | g :: gs, 0, _ => rfl
  | g :: gs, k + 1, h => by
    have ih := fl_get1 gs k (by simpa using h)
    show (PV.int .i64 g.1 :: PV.int .i64 g.2 :: fl gs)[(k + 1) * 2 + 1]? = _
    rw [show (k + 1) * 2 + 1 = k * 2 + 1 + 1 + 1 by omega]
    exact ih
theorem fl_drop0 : ∀ (gs : List (Int × Int)) (k : Nat), k < gs.length → (fl gs).drop (k * 2) = PV.int .i64 (gs.getD k (0, 0)).1 :: PV.int .i64 (gs.getD k (0, 0)).2 :: (fl gs).drop ((k + 1) * 2)
  | g :: gs, 0, _ => rfl
  | g :: gs, k + 1, h => by
    have ih := fl_drop0 gs k (by simpa using h)
    show (PV.int .i64 g.1 :: PV.int .i64 g.2 :: fl gs).drop ((k + 1) * 2) = _ :: _ :: (PV.int .i64 g.1 :: PV.int .i64 g.2 :: fl gs).drop ((k + 1 + 1) * 2)
    rw [show (k + 1) * 2 = k * 2 + 1 + 1 by omega, show (k + 1 + 1) * 2 = (k + 1) * 2 + 1 + 1 by omega]
    exact ih
def markF (n : Nat) (k : Int) : List (Int × Int) := (List.range n).map fun (j : Nat) => (k + 2 * j, k + 2 * j + 1)
theorem markF_len (n : Nat) (k : Int) : (markF n k).length = n := by simp [markF]
theorem markF_get (n : Nat) (k : Int) {j : Nat} (h : j < n) : (markF n k).getD j (0, 0) = (k + 2 * j, k + 2 * j + 1) := by
  simp [markF, h]
theorem markF_succ (n : Nat) (k : Int) : markF (n + 1) k = markF n k ++ [(k + 2 * n, k + 2 * n + 1)] := by
  unfold markF; rw [List.range_succ, List.map_append]; rfl
theorem markF_set (l : List (Int × Int)) (k : Int) {j : Nat} (h : j < l.length) : (markF j k ++ l.drop j).set j (k + 2 * j, k + 2 * j + 1) = markF (j + 1) k ++ l.drop (j + 1) := by
  rw [List.set_append_right _ _ (by simp [markF]), show j - (markF j k).length = 0 by simp [markF], List.drop_eq_getElem_cons h, List.set_cons_zero, markF_succ]
  simp
theorem markF_put (l : List (Int × Int)) (k : Int) {i : Int} (h0 : 0 ≤ i) {j : Nat} (e : i.toNat = j) (h : j < l.length) : putAt (putAt (fl (markF j k ++ l.drop j)) (j * 2 + 0) [PV.int .i64 (k + 2 * i)]) (j * 2 + 1) [PV.int .i64 (k + 2 * i + 1)] = fl (markF (j + 1) k ++ l.drop (j + 1)) := by
  have hj : j < (markF j k ++ l.drop j).length := by simp [markF]; omega
  rw [Nat.add_zero, fl_put0 _ _ _ hj, fl_put1 _ _ _ (by simpa using hj), List.set_set, ← markF_set l k h]
  congr 2
  rw [List.getD_eq_getElem?_getD, List.getElem?_set_self hj, show ((j : Nat) : Int) = i by omega]
  rfl
theorem fl_snocM (o : List (Int × Int)) (a b : Int) : fl o ++ [PV.int .i64 a, PV.int .i64 b] = fl (o ++ [(a, b)]) := by simp [fl]
theorem len_snocM (o : List (Int × Int)) (a b : Int) : o.length + 1 = (o ++ [(a, b)]).length := by simp
def wnP (e r : List Int) (i b : Nat) : Prop := ((((((xrK e r r.length).toNat ^^^ (val fN e (r.getD i 0).toNat).toNat : Nat) : Int)).toNat ^^^ (val fN e (upN (r.getD i 0).toNat b)).toNat : Nat) : Int) = 0
noncomputable instance (e r : List Int) (i b : Nat) : Decidable (wnP e r i b) := by unfold wnP; infer_instance
def mvP (e r : List Int) (w : Bool) (i b : Nat) : Prop := bitN (litN e (r.getD i 0).toNat) b = true ∧ (w = true → wnP e r i b)
noncomputable instance (e r : List Int) (w : Bool) (i b : Nat) : Decidable (mvP e r w i b) := by unfold mvP; infer_instance
noncomputable def mvB (e r : List Int) (w : Bool) (i : Nat) : Nat → List (Int × Int)
  | 0 => []
  | b + 1 => if mvP e r w i b then mvB e r w i b ++ [((i : Int), (b : Int))] else mvB e r w i b
noncomputable def mvR (e r : List Int) (w : Bool) : Nat → List (Int × Int)
  | 0 => []
  | i + 1 => mvR e r w i ++ mvB e r w i 7
theorem mvB_succ (e r : List Int) (w : Bool) (i b : Nat) : mvB e r w i (b + 1) = if mvP e r w i b then mvB e r w i b ++ [((i : Int), (b : Int))] else mvB e r w i b := rfl
theorem mvR_succ (e r : List Int) (w : Bool) (i : Nat) : mvR e r w (i + 1) = mvR e r w i ++ mvB e r w i 7 := rfl
theorem mvB_len (e r : List Int) (w : Bool) (i : Nat) : ∀ b, (mvB e r w i b).length ≤ b
  | 0 => Nat.le_refl _
  | b + 1 => by
    have := mvB_len e r w i b
    rw [mvB_succ]
    split <;> simp <;> omega
theorem mvR_len (e r : List Int) (w : Bool) : ∀ i, (mvR e r w i).length ≤ 7 * i
  | 0 => Nat.le_refl _
  | i + 1 => by
    have h1 := mvR_len e r w i
    have h2 := mvB_len e r w i 7
    rw [mvR_succ, List.length_append]; omega
theorem mv_yes {e r : List Int} {w : Bool} {i b : Int} (h0 : 0 ≤ i) (h1 : 0 ≤ b) (h : mvP e r w i.toNat b.toNat) : (mvR e r w i.toNat ++ mvB e r w i.toNat b.toNat) ++ [(i, b)] = mvR e r w i.toNat ++ mvB e r w i.toNat (b + 1).toNat := by
  rw [show (b + 1).toNat = b.toNat + 1 by omega, mvB_succ, if_pos h, Int.toNat_of_nonneg h0, Int.toNat_of_nonneg h1, List.append_assoc]
theorem mv_no {e r : List Int} {w : Bool} {i b : Int} (h1 : 0 ≤ b) (h : ¬ mvP e r w i.toNat b.toNat) : mvR e r w i.toNat ++ mvB e r w i.toNat (b + 1).toNat = mvR e r w i.toNat ++ mvB e r w i.toNat b.toNat := by
  rw [show (b + 1).toNat = b.toNat + 1 by omega, mvB_succ, if_neg h]
theorem mv_row {e r : List Int} {w : Bool} {i : Int} (h0 : 0 ≤ i) : mvR e r w (i + 1).toNat = mvR e r w i.toNat ++ mvB e r w i.toNat 7 := by
  rw [show (i + 1).toNat = i.toNat + 1 by omega, mvR_succ]
set_option maxRecDepth 8000 in
set_option maxHeartbeats 4000000 in
theorem spec_l11MovesF (r l : List Int) (hW : WroP r l) : PCalls Tryd.prog 18 [.sl r.length (r.map (.int .i64)), .sl l.length (l.map (.int .i64)), .sl 128 (allC (dcd l)), .bool false] (· = [.own 0 40 2 (mvR (dcd l) r false r.length).length (fl (mvR (dcd l) r false r.length))]) := by
  refine pcalls_of_code (n := 70) az Tryd.func18 (by kernel_rfl) rfl rfl (Nat.le_of_ble_eq_true rfl) (by intro t u h; simp [Tryd.f18] at h) ?_
  have he := dcd_cells l
  have hr6 := hW.2.1.1
  have hl10 := dig_ten hW.1
  have hx := xrK_le he (fun j hj => hW.2.1.at hj) r.length (Nat.le_refl _)
  refine code_seq (fun K1 hK1 => ?_)
  refine code_region ?_
  refine list_cons rfl (op_q (q_assign rfl (by decide)) ?_)
  refine list_nil ?_
  refine hK1 _ ?_; clear hK1 K1
  refine code_seq (fun K2 hK2 => ?_)
  refine code_region ?_
  refine list_cons rfl (op_buildSlice sl_29 (parts := []) rfl rfl rfl (by decide) (by decide) (by decide) rfl ?_)
  refine list_cons rfl (op_q (q_move rfl (by decide)) ?_)
  refine list_cons rfl (op_q (q_move rfl (by decide)) ?_)
  refine list_cons rfl (op_call _ (spec_l11Sum r l hW) rfl rfl (by decide) (by decide) (by decide) rfl ?_)
  rintro _ rfl
  refine list_cons rfl (op_q (q_assign rfl (by decide)) ?_)
  refine list_cons rfl (op_q (q_assign rfl (by decide)) ?_)
  refine list_nil ?_
  refine hK2 _ ?_; clear hK2 K2
  refine codeT.imp (σ' := [(0, .par 0 _), (1, .par 1 _), (2, .par 2 _), (3, .val (.bool _)), (8, .val _), (9, .own 15 40 2 _ _), (10, .val (.int .i64 _))]) ?_ (imp_covers ⟨rfl, rfl, rfl, rfl, rfl, rfl, rfl, trivial⟩)
  refine code_seq (fun K3 hK3 => ?_)
  refine code_seq (fun K4 hK4 => ?_)
  refine code_region ?_
  refine list_cons rfl (op_q (q_assign rfl (by decide)) ?_)
  refine list_nil ?_
  refine hK4 _ ?_; clear hK4 K4
  refine code_block ?_
  refine code_loop (X := PV × Nat × List PV × Int) (fun x => [(0, .par 0 (.sl r.length (r.map (.int .i64)))), (1, .par 1 (.sl l.length (l.map (.int .i64)))), (2, .par 2 (.sl 128 (allC (dcd l)))), (3, .val (.bool false)), (8, .val x.1), (9, .own 15 40 2 x.2.1 x.2.2.1), (10, .val (.int .i64 (xrK (dcd l) r r.length))), (11, .val (.int .i64 x.2.2.2))]) (fun x => 0 ≤ x.2.2.2 ∧ x.2.2.2 ≤ r.length ∧ x.2.1 = (mvR (dcd l) r false x.2.2.2.toNat).length ∧ x.2.2.1 = fl (mvR (dcd l) r false x.2.2.2.toNat)) (fun x => (r.length - x.2.2.2).toNat) (_, _, _, _) (imp_covers ⟨rfl, rfl, rfl, rfl, rfl, rfl, rfl, rfl, trivial⟩) ?_ ?_
  · (try dsimp only)
    exact ⟨by omega, by omega, rfl, rfl⟩
  · intro x hI
    obtain ⟨t8_p, out_n, out_c, i⟩ := x
    replace hI : 0 ≤ i ∧ i ≤ r.length ∧ out_n = (mvR (dcd l) r false i.toNat).length ∧ out_c = fl (mvR (dcd l) r false i.toNat) := hI
    show codeT _ _ _ [(0, .par 0 (.sl r.length (r.map (.int .i64)))), (1, .par 1 (.sl l.length (l.map (.int .i64)))), (2, .par 2 (.sl 128 (allC (dcd l)))), (3, .val (.bool false)), (8, .val t8_p), (9, .own 15 40 2 out_n out_c), (10, .val (.int .i64 (xrK (dcd l) r r.length))), (11, .val (.int .i64 i))] _
    obtain ⟨i1, i2, rfl, rfl⟩ := hI
    have hat := fun h => hW.2.1.at (j := i.toNat) h
    have hml := mvR_len (dcd l) r false i.toNat
    have hcb := fun h => cell_bd he (x := (r.getD i.toNat 0).toNat) (by have := hat h; omega)
    refine code_seq (fun K5 hK5 => ?_)
    refine code_seq (fun K6 hK6 => ?_)
    refine code_region ?_
    refine list_cons rfl (op_q (q_move rfl (by decide)) ?_)
    refine list_cons rfl (op_q (q_move rfl (by decide)) ?_)
    refine list_cons rfl (op_q (q_len_sl Tryd.underlying22 rfl rfl (by decide)) ?_)
    refine list_cons rfl (op_q (q_lt rfl rfl (by decide)) ?_)
    refine list_nil ?_
    refine hK6 _ ?_; clear hK6 K6
    refine code_cond_d rfl (fun h1 => ?_) (fun h1 => ?_)
    · skip
      (try simp only [Decidable.not_not] at h1)
      refine code_skip ?_
      refine hK5 _ ?_; clear hK5 K5
      refine code_seq (fun K7 hK7 => ?_)
      refine code_block ?_
      refine code_seq (fun K8 hK8 => ?_)
      refine code_region ?_
      refine list_cons rfl (op_q (q_assign rfl (by decide)) ?_)
      refine list_nil ?_
      refine hK8 _ ?_; clear hK8 K8
      refine code_block ?_
      refine code_loop (X := PV × Nat × List PV × Int) (fun x => [(0, .par 0 (.sl r.length (r.map (.int .i64)))), (1, .par 1 (.sl l.length (l.map (.int .i64)))), (2, .par 2 (.sl 128 (allC (dcd l)))), (3, .val (.bool false)), (8, .val x.1), (9, .own 15 40 2 x.2.1 x.2.2.1), (10, .val (.int .i64 (xrK (dcd l) r r.length))), (11, .val (.int .i64 (i))), (12, .val (.int .i64 x.2.2.2))]) (fun x => 0 ≤ x.2.2.2 ∧ x.2.2.2 ≤ 7 ∧ x.2.1 = (mvR (dcd l) r false i.toNat ++ mvB (dcd l) r false i.toNat x.2.2.2.toNat).length ∧ x.2.2.1 = fl (mvR (dcd l) r false i.toNat ++ mvB (dcd l) r false i.toNat x.2.2.2.toNat)) (fun x => (7 - x.2.2.2).toNat) (_, _, _, _) (imp_covers ⟨rfl, rfl, rfl, rfl, rfl, rfl, rfl, rfl, rfl, trivial⟩) ?_ ?_
      · (try dsimp only)
        exact ⟨by omega, by omega, (congrArg List.length (List.append_nil _)).symm, (congrArg fl (List.append_nil _)).symm⟩
      · intro x hI
        obtain ⟨t8_p, out_n, out_c, bar⟩ := x
        replace hI : 0 ≤ bar ∧ bar ≤ 7 ∧ out_n = (mvR (dcd l) r false i.toNat ++ mvB (dcd l) r false i.toNat bar.toNat).length ∧ out_c = fl (mvR (dcd l) r false i.toNat ++ mvB (dcd l) r false i.toNat bar.toNat) := hI
        show codeT _ _ _ [(0, .par 0 (.sl r.length (r.map (.int .i64)))), (1, .par 1 (.sl l.length (l.map (.int .i64)))), (2, .par 2 (.sl 128 (allC (dcd l)))), (3, .val (.bool false)), (8, .val t8_p), (9, .own 15 40 2 out_n out_c), (10, .val (.int .i64 (xrK (dcd l) r r.length))), (11, .val (.int .i64 (i))), (12, .val (.int .i64 bar))] _
        obtain ⟨j1, j2, rfl, rfl⟩ := hI
        have hbl := mvB_len (dcd l) r false i.toNat bar.toNat
        have hal : (mvR (dcd l) r false i.toNat ++ mvB (dcd l) r false i.toNat bar.toNat).length ≤ 7 * i.toNat + bar.toNat := by rw [List.length_append]; omega
        have hcb := hcb (by omega)
        have hxb := @Nat.xor_lt_two_pow (xrK (dcd l) r r.length).toNat (val fN (dcd l) (r.getD i.toNat 0).toNat).toNat 8 (show _ < 256 by omega) (show _ < 256 by omega)
        refine code_seq (fun K9 hK9 => ?_)
        refine code_seq (fun K10 hK10 => ?_)
        refine code_region ?_
        refine list_cons rfl (op_q (q_move rfl (by decide)) ?_)
        refine list_cons rfl (op_q (q_lt rfl rfl (by decide)) ?_)
        refine list_nil ?_
        refine hK10 _ ?_; clear hK10 K10
        refine code_cond_d rfl (fun h2 => ?_) (fun h2 => ?_)
        · skip
          (try simp only [Decidable.not_not] at h2)
          refine code_skip ?_
          refine hK9 _ ?_; clear hK9 K9
          refine code_seq (fun K11 hK11 => ?_)
          refine code_block ?_
          refine code_seq (fun K12 hK12 => ?_)
          refine code_region ?_
          refine list_cons rfl (op_q (q_move rfl (by decide)) ?_)
          refine list_cons rfl (op_q (q_move rfl (by decide)) ?_)
          refine list_cons rfl (op_q (q_indexAddr_rd sl_22 rfl (.inl ⟨_, rfl, rfl⟩) rfl (by have := hat (by omega); omega) (by have := hat (by omega); omega) (by decide)) ?_)
          refine list_cons rfl (op_q (q_load_rd one_3 rfl (.inl ⟨_, (by first | exact congrArg (SV.rpar _) (drop_map1 _ 0 _ (by omega)) | exact congrArg (SV.rpar _) (all_dr (dcd l) (by have := hat (by omega); omega)) | exact congrArg (SV.rpar _) (all_dr (dcd l) (by omega))), rfl⟩) (by decide)) ?_)
          refine list_cons rfl (op_q (q_move rfl (by decide)) ?_)
          refine list_cons rfl (op_q (q_move rfl (by decide)) ?_)
          refine list_cons rfl (op_call _ (spec_l11Next (r.getD i.toNat 0) bar l hW.1 (hat (by omega)) (by omega)) rfl rfl (by decide) (by decide) (by decide) rfl ?_)
          rintro _ rfl; have hup := upI_le (c := r.getD i.toNat 0) (b := bar) (hat (by omega)) (by omega); have hcu := cell_bd he (x := (upI (r.getD i.toNat 0) bar).toNat) (by omega)
          refine list_cons rfl (op_q (q_move rfl (by decide)) ?_)
          refine list_cons rfl (op_q (q_extract rfl rfl (by decide)) ?_)
          refine list_cons rfl (op_q (q_extract rfl rfl (by decide)) ?_)
          refine list_cons rfl (op_q (q_assign rfl (by decide)) ?_)
          refine list_cons rfl (op_q (q_assign rfl (by decide)) ?_)
          refine list_nil ?_
          refine hK12 _ ?_; clear hK12 K12
          refine codeT.imp (σ' := [(0, .par 0 _), (1, .par 1 _), (2, .par 2 _), (3, .val (.bool _)), (8, .val _), (9, .own 15 40 2 _ _), (10, .val (.int .i64 _)), (11, .val (.int .i64 _)), (12, .val (.int .i64 _)), (13, .val (.int .i64 _)), (14, .val (.bool _))]) ?_ (imp_covers ⟨rfl, rfl, rfl, rfl, rfl, rfl, rfl, rfl, rfl, rfl, rfl, trivial⟩)
          refine code_seq (fun K13 hK13 => ?_)
          refine code_draw (by kernel_rfl) (by kernel_rfl) ?_
          refine draw_q rfl (q_move rfl (by decide)) ?_
          refine draw_q rfl (q_move rfl (by decide)) ?_
          refine draw_guard_d rfl rfl rfl rfl (by decide) rfl (by decide) (fun h3 => q_move rfl (by decide)) (fun h3 => ?_) (fun h3 => ?_)
          · simp only [Bool.false_eq_true, if_true, if_false, Decidable.not_not] at h3
            refine draw_guard_y rfl rfl rfl rfl (by decide) rfl (by first | exact q_notd rfl (by decide) | exact q_not rfl (by decide)) ?_
            refine draw_guard_y rfl rfl rfl rfl (by decide) rfl (q_move rfl (by decide)) ?_
            refine draw_guard_nT rfl rfl rfl rfl (by decide) (by decide) ?_
            refine draw_guard_nT rfl rfl rfl rfl (by decide) (by decide) ?_
            refine draw_guard_nT rfl rfl rfl rfl (by decide) (by decide) ?_
            refine draw_guard_nT rfl rfl rfl rfl (by decide) (by decide) ?_
            refine draw_guard_nT rfl rfl rfl rfl (by decide) (by decide) ?_
            refine draw_guard_nT rfl rfl rfl rfl (by decide) (by decide) ?_
            refine draw_guard_nT rfl rfl rfl rfl (by decide) (by decide) ?_
            refine draw_guard_nT rfl rfl rfl rfl (by decide) (by decide) ?_
            refine draw_guard_nT rfl rfl rfl rfl (by decide) (by decide) ?_
            refine draw_guard_nT rfl rfl rfl rfl (by decide) (by decide) ?_
            refine draw_guard_nT rfl rfl rfl rfl (by decide) (by decide) ?_
            refine draw_guard_nT rfl rfl rfl rfl (by decide) (by decide) ?_
            refine draw_guard_nT rfl rfl rfl rfl (by decide) (by decide) ?_
            refine draw_guard_nT rfl rfl rfl rfl (by decide) (by decide) ?_
            refine draw_guard_nT rfl rfl rfl rfl (by decide) (by decide) ?_
            refine draw_guard_nT rfl rfl rfl rfl (by decide) (by decide) ?_
            refine draw_guard_nT rfl rfl rfl rfl (by decide) (by decide) ?_
            refine draw_guard_y rfl rfl rfl rfl (by decide) rfl (q_pick rfl rfl (by decide)) ?_
            refine draw_q rfl (q_pick rfl rfl (by decide)) ?_
            refine draw_nil ?_
            refine hK13 _ ?_; clear hK13 K13
            refine codeT.imp (σ' := [(0, .par 0 _), (1, .par 1 _), (2, .par 2 _), (3, .val (.bool _)), (8, .val _), (9, .own 15 40 2 _ _), (10, .val (.int .i64 _)), (11, .val (.int .i64 _)), (12, .val (.int .i64 _)), (13, .val (.int .i64 _)), (14, .val (.bool _)), (62, .val (.bool _))]) ?_ (imp_covers ⟨rfl, rfl, rfl, rfl, rfl, rfl, rfl, rfl, rfl, rfl, rfl, rfl, trivial⟩)
            refine code_cond_t rfl ?_
            refine code_region ?_
            refine list_cons rfl (op_q (q_move rfl (by decide)) ?_)
            refine list_cons rfl (op_q (q_move rfl (by decide)) ?_)
            refine list_cons rfl (op_q (q_move rfl (by decide)) ?_)
            refine list_cons rfl (op_q (q_build bt_40 (parts := [(0, .tmp 64), (1, .tmp 65)]) rfl rfl (by decide)) ?_)
            refine list_cons rfl (op_buildSlice sl_29 (parts := [(0, .tmp 66)]) rfl rfl rfl (by decide) (by decide) (by decide) rfl ?_)
            refine list_cons rfl (op_append_gen sl_29 (l := 15) (.inl rfl) rfl rfl (l2 := none) (.inl ⟨rfl, (by first | rfl | exact flat_map _ (fun _ => rfl) _)⟩) (by first | rfl | (simp [PV.cells, putAt, zeros]; done)) (by omega) (by decide) (by decide) (by decide) ?_)
            refine list_cons rfl (op_q (q_assign rfl (by decide)) ?_)
            refine list_nil ?_
            refine blk_n ?_
            refine hK11 _ ?_; clear hK11 K11
            refine codeT.imp (σ' := [(0, .par 0 _), (1, .par 1 _), (2, .par 2 _), (3, .val (.bool _)), (8, .val _), (9, .own 15 40 2 _ _), (10, .val (.int .i64 _)), (11, .val (.int .i64 _)), (12, .val (.int .i64 _)), (13, .val (.int .i64 _)), (14, .val (.bool _))]) ?_ (imp_covers ⟨rfl, rfl, rfl, rfl, rfl, rfl, rfl, rfl, rfl, rfl, rfl, trivial⟩)
            refine code_region ?_
            refine list_cons rfl (op_q (q_move rfl (by decide)) ?_)
            refine list_cons rfl (op_q (by first | exact q_addI rfl rfl (by decide) (by omega) (by omega) | exact q_ib rfl rfl rfl (by decide)) ?_)
            refine list_cons rfl (op_q (q_assign rfl (by decide)) ?_)
            refine list_nil ?_
            refine then_n ⟨(_, _, _, _), imp_covers ⟨rfl, rfl, rfl, rfl, rfl, rfl, rfl, rfl, rfl, trivial⟩, ?_, ?_⟩
            · (try dsimp only)
              first
              | (have hm : mvP (dcd l) r false i.toNat bar.toNat := ⟨by assumption, fun k => by first | exact h3 | cases k⟩
                 have e := mv_yes (by omega) (by omega) hm
                 exact ⟨by omega, by omega, (len_snocM _ i bar).trans (congrArg List.length e), (fl_snocM _ i bar).trans (congrArg fl e)⟩)
              | (have hm : ¬ mvP (dcd l) r false i.toNat bar.toNat := fun z => absurd z.1 (by assumption)
                 have e := mv_no (by omega) hm
                 exact ⟨by omega, by omega, (congrArg List.length e).symm, (congrArg fl e).symm⟩)
              | (have hm : ¬ mvP (dcd l) r false i.toNat bar.toNat := fun z => absurd (z.2 rfl) (by assumption)
                 have e := mv_no (by omega) hm
                 exact ⟨by omega, by omega, (congrArg List.length e).symm, (congrArg fl e).symm⟩)
            · (try dsimp only); omega
          simp only [Bool.false_eq_true, if_true, if_false, Decidable.not_not] at h3
          refine draw_guard_nT rfl rfl rfl rfl (by decide) (by decide) ?_
          refine draw_guard_nT rfl rfl rfl rfl (by decide) (by decide) ?_
          refine draw_guard_u rfl rfl rfl rfl (by decide) (by decide) ?_
          refine draw_guard_u rfl rfl rfl rfl (by decide) (by decide) ?_
          refine draw_guard_u rfl rfl rfl rfl (by decide) (by decide) ?_
          refine draw_guard_u rfl rfl rfl rfl (by decide) (by decide) ?_
          refine draw_guard_u rfl rfl rfl rfl (by decide) (by decide) ?_
          refine draw_guard_u rfl rfl rfl rfl (by decide) (by decide) ?_
          refine draw_guard_u rfl rfl rfl rfl (by decide) (by decide) ?_
          refine draw_guard_u rfl rfl rfl rfl (by decide) (by decide) ?_
          refine draw_guard_u rfl rfl rfl rfl (by decide) (by decide) ?_
          refine draw_guard_u rfl rfl rfl rfl (by decide) (by decide) ?_
          refine draw_guard_u rfl rfl rfl rfl (by decide) (by decide) ?_
          refine draw_guard_u rfl rfl rfl rfl (by decide) (by decide) ?_
          refine draw_guard_u rfl rfl rfl rfl (by decide) (by decide) ?_
          refine draw_guard_u rfl rfl rfl rfl (by decide) (by decide) ?_
          refine draw_guard_u rfl rfl rfl rfl (by decide) (by decide) ?_
          refine draw_guard_u rfl rfl rfl rfl (by decide) (by decide) ?_
          refine draw_guard_u rfl rfl rfl rfl (by decide) (by decide) ?_
          refine draw_guard_nT rfl rfl rfl rfl (by decide) (by decide) ?_
          refine draw_q rfl (q_pick rfl rfl (by decide)) ?_
          refine draw_nil ?_
          refine hK13 _ ?_; clear hK13 K13
          refine codeT.imp (σ' := [(0, .par 0 _), (1, .par 1 _), (2, .par 2 _), (3, .val (.bool _)), (8, .val _), (9, .own 15 40 2 _ _), (10, .val (.int .i64 _)), (11, .val (.int .i64 _)), (12, .val (.int .i64 _)), (13, .val (.int .i64 _)), (14, .val (.bool _)), (62, .val (.bool _))]) ?_ (imp_covers ⟨rfl, rfl, rfl, rfl, rfl, rfl, rfl, rfl, rfl, rfl, rfl, rfl, trivial⟩)
          refine code_cond_f rfl ?_
          refine code_skip ?_
          refine blk_n ?_
          refine hK11 _ ?_; clear hK11 K11
          refine code_region ?_
          refine list_cons rfl (op_q (q_move rfl (by decide)) ?_)
          refine list_cons rfl (op_q (by first | exact q_addI rfl rfl (by decide) (by omega) (by omega) | exact q_ib rfl rfl rfl (by decide)) ?_)
          refine list_cons rfl (op_q (q_assign rfl (by decide)) ?_)
          refine list_nil ?_
          refine then_n ⟨(_, _, _, _), imp_covers ⟨rfl, rfl, rfl, rfl, rfl, rfl, rfl, rfl, rfl, trivial⟩, ?_, ?_⟩
          · (try dsimp only)
            first
            | (have hm : mvP (dcd l) r false i.toNat bar.toNat := ⟨by assumption, fun k => by first | exact h3 | cases k⟩
               have e := mv_yes (by omega) (by omega) hm
               exact ⟨by omega, by omega, (len_snocM _ i bar).trans (congrArg List.length e), (fl_snocM _ i bar).trans (congrArg fl e)⟩)
            | (have hm : ¬ mvP (dcd l) r false i.toNat bar.toNat := fun z => absurd z.1 (by assumption)
               have e := mv_no (by omega) hm
               exact ⟨by omega, by omega, (congrArg List.length e).symm, (congrArg fl e).symm⟩)
            | (have hm : ¬ mvP (dcd l) r false i.toNat bar.toNat := fun z => absurd (z.2 rfl) (by assumption)
               have e := mv_no (by omega) hm
               exact ⟨by omega, by omega, (congrArg List.length e).symm, (congrArg fl e).symm⟩)
          · (try dsimp only); omega
        (try simp only [Decidable.not_not] at h2)
        refine code_exit ?_
        refine then_x ?_; clear hK9 K9
        refine then_x ?_
        refine blk_hit ?_
        refine blk_n ?_
        refine hK7 _ ?_; clear hK7 K7
        refine code_region ?_
        refine list_cons rfl (op_q (q_move rfl (by decide)) ?_)
        refine list_cons rfl (op_q (by first | exact q_addI rfl rfl (by decide) (by omega) (by omega) | exact q_ib rfl rfl rfl (by decide)) ?_)
        refine list_cons rfl (op_q (q_assign rfl (by decide)) ?_)
        refine list_nil ?_
        refine then_n ⟨(_, _, _, _), imp_covers ⟨rfl, rfl, rfl, rfl, rfl, rfl, rfl, rfl, trivial⟩, ?_, ?_⟩
        · (try dsimp only)
          have h7 : bar.toNat = 7 := by omega
          have e := (congrArg (fun n => mvR (dcd l) r false i.toNat ++ mvB (dcd l) r false i.toNat n) h7).trans (mv_row (i := i) (by omega)).symm
          exact ⟨by omega, by omega, congrArg List.length e, congrArg fl e⟩
        · (try dsimp only); omega
    (try simp only [Decidable.not_not] at h1)
    refine code_exit ?_
    refine then_x ?_; clear hK5 K5
    refine then_x ?_
    refine blk_hit ?_
    refine hK3 _ ?_; clear hK3 K3
    refine code_seq (fun K14 hK14 => ?_)
    refine code_region ?_
    refine list_cons rfl (op_q (q_move rfl (by decide)) ?_)
    refine list_cons rfl (op_q (q_assign rfl (by decide)) ?_)
    refine list_nil ?_
    refine hK14 _ ?_; clear hK14 K14
    refine code_ret ?_
    refine ends_ret (cs := []) rfl rfl rfl rfl trivial ?_
    rw [show i.toNat = r.length by omega]
set_option maxRecDepth 8000 in
set_option maxHeartbeats 4000000 in
theorem spec_l11MovesT (r l : List Int) (hW : WroP r l) : PCalls Tryd.prog 18 [.sl r.length (r.map (.int .i64)), .sl l.length (l.map (.int .i64)), .sl 128 (allC (dcd l)), .bool true] (· = [.own 0 40 2 (mvR (dcd l) r true r.length).length (fl (mvR (dcd l) r true r.length))]) := by
  refine pcalls_of_code (n := 70) az Tryd.func18 (by kernel_rfl) rfl rfl (Nat.le_of_ble_eq_true rfl) (by intro t u h; simp [Tryd.f18] at h) ?_
  have he := dcd_cells l
  have hr6 := hW.2.1.1
  have hl10 := dig_ten hW.1
  have hx := xrK_le he (fun j hj => hW.2.1.at hj) r.length (Nat.le_refl _)
  refine code_seq (fun K1 hK1 => ?_)
  refine code_region ?_
  refine list_cons rfl (op_q (q_assign rfl (by decide)) ?_)
  refine list_nil ?_
  refine hK1 _ ?_; clear hK1 K1
  refine code_seq (fun K2 hK2 => ?_)
  refine code_region ?_
  refine list_cons rfl (op_buildSlice sl_29 (parts := []) rfl rfl rfl (by decide) (by decide) (by decide) rfl ?_)
  refine list_cons rfl (op_q (q_move rfl (by decide)) ?_)
  refine list_cons rfl (op_q (q_move rfl (by decide)) ?_)
  refine list_cons rfl (op_call _ (spec_l11Sum r l hW) rfl rfl (by decide) (by decide) (by decide) rfl ?_)
  rintro _ rfl
  refine list_cons rfl (op_q (q_assign rfl (by decide)) ?_)
  refine list_cons rfl (op_q (q_assign rfl (by decide)) ?_)
  refine list_nil ?_
  refine hK2 _ ?_; clear hK2 K2
  refine codeT.imp (σ' := [(0, .par 0 _), (1, .par 1 _), (2, .par 2 _), (3, .val (.bool _)), (8, .val _), (9, .own 15 40 2 _ _), (10, .val (.int .i64 _))]) ?_ (imp_covers ⟨rfl, rfl, rfl, rfl, rfl, rfl, rfl, trivial⟩)
  refine code_seq (fun K3 hK3 => ?_)
  refine code_seq (fun K4 hK4 => ?_)
  refine code_region ?_
  refine list_cons rfl (op_q (q_assign rfl (by decide)) ?_)
  refine list_nil ?_
  refine hK4 _ ?_; clear hK4 K4
  refine code_block ?_
  refine code_loop (X := PV × Nat × List PV × Int) (fun x => [(0, .par 0 (.sl r.length (r.map (.int .i64)))), (1, .par 1 (.sl l.length (l.map (.int .i64)))), (2, .par 2 (.sl 128 (allC (dcd l)))), (3, .val (.bool true)), (8, .val x.1), (9, .own 15 40 2 x.2.1 x.2.2.1), (10, .val (.int .i64 (xrK (dcd l) r r.length))), (11, .val (.int .i64 x.2.2.2))]) (fun x => 0 ≤ x.2.2.2 ∧ x.2.2.2 ≤ r.length ∧ x.2.1 = (mvR (dcd l) r true x.2.2.2.toNat).length ∧ x.2.2.1 = fl (mvR (dcd l) r true x.2.2.2.toNat)) (fun x => (r.length - x.2.2.2).toNat) (_, _, _, _) (imp_covers ⟨rfl, rfl, rfl, rfl, rfl, rfl, rfl, rfl, trivial⟩) ?_ ?_
  · (try dsimp only)
    exact ⟨by omega, by omega, rfl, rfl⟩
  · intro x hI
    obtain ⟨t8_p, out_n, out_c, i⟩ := x
    replace hI : 0 ≤ i ∧ i ≤ r.length ∧ out_n = (mvR (dcd l) r true i.toNat).length ∧ out_c = fl (mvR (dcd l) r true i.toNat) := hI
    show codeT _ _ _ [(0, .par 0 (.sl r.length (r.map (.int .i64)))), (1, .par 1 (.sl l.length (l.map (.int .i64)))), (2, .par 2 (.sl 128 (allC (dcd l)))), (3, .val (.bool true)), (8, .val t8_p), (9, .own 15 40 2 out_n out_c), (10, .val (.int .i64 (xrK (dcd l) r r.length))), (11, .val (.int .i64 i))] _
    obtain ⟨i1, i2, rfl, rfl⟩ := hI
    have hat := fun h => hW.2.1.at (j := i.toNat) h
    have hml := mvR_len (dcd l) r true i.toNat
    have hcb := fun h => cell_bd he (x := (r.getD i.toNat 0).toNat) (by have := hat h; omega)
    refine code_seq (fun K5 hK5 => ?_)
    refine code_seq (fun K6 hK6 => ?_)
    refine code_region ?_
    refine list_cons rfl (op_q (q_move rfl (by decide)) ?_)
    refine list_cons rfl (op_q (q_move rfl (by decide)) ?_)
    refine list_cons rfl (op_q (q_len_sl Tryd.underlying22 rfl rfl (by decide)) ?_)
    refine list_cons rfl (op_q (q_lt rfl rfl (by decide)) ?_)
    refine list_nil ?_
    refine hK6 _ ?_; clear hK6 K6
    refine code_cond_d rfl (fun h1 => ?_) (fun h1 => ?_)
    · skip
      (try simp only [Decidable.not_not] at h1)
      refine code_skip ?_
      refine hK5 _ ?_; clear hK5 K5
      refine code_seq (fun K7 hK7 => ?_)
      refine code_block ?_
      refine code_seq (fun K8 hK8 => ?_)
      refine code_region ?_
      refine list_cons rfl (op_q (q_assign rfl (by decide)) ?_)
      refine list_nil ?_
      refine hK8 _ ?_; clear hK8 K8
      refine code_block ?_
      refine code_loop (X := PV × Nat × List PV × Int) (fun x => [(0, .par 0 (.sl r.length (r.map (.int .i64)))), (1, .par 1 (.sl l.length (l.map (.int .i64)))), (2, .par 2 (.sl 128 (allC (dcd l)))), (3, .val (.bool true)), (8, .val x.1), (9, .own 15 40 2 x.2.1 x.2.2.1), (10, .val (.int .i64 (xrK (dcd l) r r.length))), (11, .val (.int .i64 (i))), (12, .val (.int .i64 x.2.2.2))]) (fun x => 0 ≤ x.2.2.2 ∧ x.2.2.2 ≤ 7 ∧ x.2.1 = (mvR (dcd l) r true i.toNat ++ mvB (dcd l) r true i.toNat x.2.2.2.toNat).length ∧ x.2.2.1 = fl (mvR (dcd l) r true i.toNat ++ mvB (dcd l) r true i.toNat x.2.2.2.toNat)) (fun x => (7 - x.2.2.2).toNat) (_, _, _, _) (imp_covers ⟨rfl, rfl, rfl, rfl, rfl, rfl, rfl, rfl, rfl, trivial⟩) ?_ ?_
      · (try dsimp only)
        exact ⟨by omega, by omega, (congrArg List.length (List.append_nil _)).symm, (congrArg fl (List.append_nil _)).symm⟩
      · intro x hI
        obtain ⟨t8_p, out_n, out_c, bar⟩ := x
        replace hI : 0 ≤ bar ∧ bar ≤ 7 ∧ out_n = (mvR (dcd l) r true i.toNat ++ mvB (dcd l) r true i.toNat bar.toNat).length ∧ out_c = fl (mvR (dcd l) r true i.toNat ++ mvB (dcd l) r true i.toNat bar.toNat) := hI
        show codeT _ _ _ [(0, .par 0 (.sl r.length (r.map (.int .i64)))), (1, .par 1 (.sl l.length (l.map (.int .i64)))), (2, .par 2 (.sl 128 (allC (dcd l)))), (3, .val (.bool true)), (8, .val t8_p), (9, .own 15 40 2 out_n out_c), (10, .val (.int .i64 (xrK (dcd l) r r.length))), (11, .val (.int .i64 (i))), (12, .val (.int .i64 bar))] _
        obtain ⟨j1, j2, rfl, rfl⟩ := hI
        have hbl := mvB_len (dcd l) r true i.toNat bar.toNat
        have hal : (mvR (dcd l) r true i.toNat ++ mvB (dcd l) r true i.toNat bar.toNat).length ≤ 7 * i.toNat + bar.toNat := by rw [List.length_append]; omega
        have hcb := hcb (by omega)
        have hxb := @Nat.xor_lt_two_pow (xrK (dcd l) r r.length).toNat (val fN (dcd l) (r.getD i.toNat 0).toNat).toNat 8 (show _ < 256 by omega) (show _ < 256 by omega)
        refine code_seq (fun K9 hK9 => ?_)
        refine code_seq (fun K10 hK10 => ?_)
        refine code_region ?_
        refine list_cons rfl (op_q (q_move rfl (by decide)) ?_)
        refine list_cons rfl (op_q (q_lt rfl rfl (by decide)) ?_)
        refine list_nil ?_
        refine hK10 _ ?_; clear hK10 K10
        refine code_cond_d rfl (fun h2 => ?_) (fun h2 => ?_)
        · skip
          (try simp only [Decidable.not_not] at h2)
          refine code_skip ?_
          refine hK9 _ ?_; clear hK9 K9
          refine code_seq (fun K11 hK11 => ?_)
          refine code_block ?_
          refine code_seq (fun K12 hK12 => ?_)
          refine code_region ?_
          refine list_cons rfl (op_q (q_move rfl (by decide)) ?_)
          refine list_cons rfl (op_q (q_move rfl (by decide)) ?_)
          refine list_cons rfl (op_q (q_indexAddr_rd sl_22 rfl (.inl ⟨_, rfl, rfl⟩) rfl (by have := hat (by omega); omega) (by have := hat (by omega); omega) (by decide)) ?_)
          refine list_cons rfl (op_q (q_load_rd one_3 rfl (.inl ⟨_, (by first | exact congrArg (SV.rpar _) (drop_map1 _ 0 _ (by omega)) | exact congrArg (SV.rpar _) (all_dr (dcd l) (by have := hat (by omega); omega)) | exact congrArg (SV.rpar _) (all_dr (dcd l) (by omega))), rfl⟩) (by decide)) ?_)
          refine list_cons rfl (op_q (q_move rfl (by decide)) ?_)
          refine list_cons rfl (op_q (q_move rfl (by decide)) ?_)
          refine list_cons rfl (op_call _ (spec_l11Next (r.getD i.toNat 0) bar l hW.1 (hat (by omega)) (by omega)) rfl rfl (by decide) (by decide) (by decide) rfl ?_)
          rintro _ rfl; have hup := upI_le (c := r.getD i.toNat 0) (b := bar) (hat (by omega)) (by omega); have hcu := cell_bd he (x := (upI (r.getD i.toNat 0) bar).toNat) (by omega)
          refine list_cons rfl (op_q (q_move rfl (by decide)) ?_)
          refine list_cons rfl (op_q (q_extract rfl rfl (by decide)) ?_)
          refine list_cons rfl (op_q (q_extract rfl rfl (by decide)) ?_)
          refine list_cons rfl (op_q (q_assign rfl (by decide)) ?_)
          refine list_cons rfl (op_q (q_assign rfl (by decide)) ?_)
          refine list_nil ?_
          refine hK12 _ ?_; clear hK12 K12
          refine codeT.imp (σ' := [(0, .par 0 _), (1, .par 1 _), (2, .par 2 _), (3, .val (.bool _)), (8, .val _), (9, .own 15 40 2 _ _), (10, .val (.int .i64 _)), (11, .val (.int .i64 _)), (12, .val (.int .i64 _)), (13, .val (.int .i64 _)), (14, .val (.bool _))]) ?_ (imp_covers ⟨rfl, rfl, rfl, rfl, rfl, rfl, rfl, rfl, rfl, rfl, rfl, trivial⟩)
          refine code_seq (fun K13 hK13 => ?_)
          refine code_draw (by kernel_rfl) (by kernel_rfl) ?_
          refine draw_q rfl (q_move rfl (by decide)) ?_
          refine draw_q rfl (q_move rfl (by decide)) ?_
          refine draw_guard_d rfl rfl rfl rfl (by decide) rfl (by decide) (fun h3 => q_move rfl (by decide)) (fun h3 => ?_) (fun h3 => ?_)
          · simp only [Bool.false_eq_true, if_true, if_false, Decidable.not_not] at h3
            refine draw_guard_y rfl rfl rfl rfl (by decide) rfl (by first | exact q_notd rfl (by decide) | exact q_not rfl (by decide)) ?_
            refine draw_guard_y rfl rfl rfl rfl (by decide) rfl (q_move rfl (by decide)) ?_
            refine draw_guard_y rfl rfl rfl rfl (by decide) rfl (q_move rfl (by decide)) ?_
            refine draw_guard_y rfl rfl rfl rfl (by decide) rfl (q_move rfl (by decide)) ?_
            refine draw_guard_y rfl rfl rfl rfl (by decide) rfl (q_move rfl (by decide)) ?_
            refine draw_guard_y rfl rfl rfl rfl (by decide) rfl (q_move rfl (by decide)) ?_
            refine draw_guard_y rfl rfl rfl rfl (by decide) rfl (q_indexAddr_rd sl_22 rfl (.inl ⟨_, rfl, rfl⟩) rfl (by have := hat (by omega); omega) (by have := hat (by omega); omega) (by decide)) ?_
            refine draw_guard_y rfl rfl rfl rfl (by decide) rfl (q_load_rd one_3 rfl (.inl ⟨_, (by first | exact congrArg (SV.rpar _) (drop_map1 _ 0 _ (by omega)) | exact congrArg (SV.rpar _) (all_dr (dcd l) (by have := hat (by omega); omega)) | exact congrArg (SV.rpar _) (all_dr (dcd l) (by omega))), rfl⟩) (by decide)) ?_
            refine draw_guard_y rfl rfl rfl rfl (by decide) rfl (q_indexAddr_rd sl_35 rfl (.inl ⟨_, rfl, rfl⟩) rfl (by have := hat (by omega); omega) (by have := hat (by omega); omega) (by decide)) ?_
            refine draw_guard_y rfl rfl rfl rfl (by decide) rfl (q_fieldAddr fi_54_0 rfl rfl (by decide)) ?_
            refine draw_guard_y rfl rfl rfl rfl (by decide) rfl (q_load_rd one_3 rfl (.inl ⟨_, (by first | exact congrArg (SV.rpar _) (drop_map1 _ 0 _ (by omega)) | exact congrArg (SV.rpar _) (all_dr (dcd l) (by have := hat (by omega); omega)) | exact congrArg (SV.rpar _) (all_dr (dcd l) (by omega))), rfl⟩) (by decide)) ?_
            refine draw_guard_y rfl rfl rfl rfl (by decide) rfl (by first | exact q_xorI rfl rfl (by decide) (by omega) (by omega) (by omega) (by omega) | exact q_ib rfl rfl rfl (by decide)) ?_
            refine draw_guard_y rfl rfl rfl rfl (by decide) rfl (q_move rfl (by decide)) ?_
            refine draw_guard_y rfl rfl rfl rfl (by decide) rfl (q_move rfl (by decide)) ?_
            refine draw_guard_y rfl rfl rfl rfl (by decide) rfl (q_indexAddr_rd sl_35 rfl (.inl ⟨_, rfl, rfl⟩) rfl (by have := hat (by omega); omega) (by have := hat (by omega); omega) (by decide)) ?_
            refine draw_guard_y rfl rfl rfl rfl (by decide) rfl (q_fieldAddr fi_54_0 rfl rfl (by decide)) ?_
            refine draw_guard_y rfl rfl rfl rfl (by decide) rfl (q_load_rd one_3 rfl (.inl ⟨_, (by first | exact congrArg (SV.rpar _) (drop_map1 _ 0 _ (by omega)) | exact congrArg (SV.rpar _) (all_dr (dcd l) (by have := hat (by omega); omega)) | exact congrArg (SV.rpar _) (all_dr (dcd l) (by omega))), rfl⟩) (by decide)) ?_
            refine draw_guard_y rfl rfl rfl rfl (by decide) rfl (by first | exact q_xorI rfl rfl (by decide) (by omega) (by omega) (by omega) (by omega) | exact q_ib rfl rfl rfl (by decide)) ?_
            refine draw_guard_y rfl rfl rfl rfl (by decide) rfl (q_eq rfl rfl (by decide)) ?_
            refine draw_guard_y rfl rfl rfl rfl (by decide) rfl (q_pick rfl rfl (by decide)) ?_
            refine draw_q rfl (q_pick rfl rfl (by decide)) ?_
            refine draw_nil ?_
            refine hK13 _ ?_; clear hK13 K13
            refine codeT.imp (σ' := [(0, .par 0 _), (1, .par 1 _), (2, .par 2 _), (3, .val (.bool _)), (8, .val _), (9, .own 15 40 2 _ _), (10, .val (.int .i64 _)), (11, .val (.int .i64 _)), (12, .val (.int .i64 _)), (13, .val (.int .i64 _)), (14, .val (.bool _)), (62, .val (.bool _))]) ?_ (imp_covers ⟨rfl, rfl, rfl, rfl, rfl, rfl, rfl, rfl, rfl, rfl, rfl, rfl, trivial⟩)
            refine code_cond_d rfl (fun h4 => ?_) (fun h4 => ?_)
            · skip
              (try simp only [Decidable.not_not] at h4)
              refine code_region ?_
              refine list_cons rfl (op_q (q_move rfl (by decide)) ?_)
              refine list_cons rfl (op_q (q_move rfl (by decide)) ?_)
              refine list_cons rfl (op_q (q_move rfl (by decide)) ?_)
              refine list_cons rfl (op_q (q_build bt_40 (parts := [(0, .tmp 64), (1, .tmp 65)]) rfl rfl (by decide)) ?_)
              refine list_cons rfl (op_buildSlice sl_29 (parts := [(0, .tmp 66)]) rfl rfl rfl (by decide) (by decide) (by decide) rfl ?_)
              refine list_cons rfl (op_append_gen sl_29 (l := 15) (.inl rfl) rfl rfl (l2 := none) (.inl ⟨rfl, (by first | rfl | exact flat_map _ (fun _ => rfl) _)⟩) (by first | rfl | (simp [PV.cells, putAt, zeros]; done)) (by omega) (by decide) (by decide) (by decide) ?_)
              refine list_cons rfl (op_q (q_assign rfl (by decide)) ?_)
              refine list_nil ?_
              refine blk_n ?_
              refine hK11 _ ?_; clear hK11 K11
              refine codeT.imp (σ' := [(0, .par 0 _), (1, .par 1 _), (2, .par 2 _), (3, .val (.bool _)), (8, .val _), (9, .own 15 40 2 _ _), (10, .val (.int .i64 _)), (11, .val (.int .i64 _)), (12, .val (.int .i64 _)), (13, .val (.int .i64 _)), (14, .val (.bool _))]) ?_ (imp_covers ⟨rfl, rfl, rfl, rfl, rfl, rfl, rfl, rfl, rfl, rfl, rfl, trivial⟩)
              refine code_region ?_
              refine list_cons rfl (op_q (q_move rfl (by decide)) ?_)
              refine list_cons rfl (op_q (by first | exact q_addI rfl rfl (by decide) (by omega) (by omega) | exact q_ib rfl rfl rfl (by decide)) ?_)
              refine list_cons rfl (op_q (q_assign rfl (by decide)) ?_)
              refine list_nil ?_
              refine then_n ⟨(_, _, _, _), imp_covers ⟨rfl, rfl, rfl, rfl, rfl, rfl, rfl, rfl, rfl, trivial⟩, ?_, ?_⟩
              · (try dsimp only)
                first
                | (have hm : mvP (dcd l) r true i.toNat bar.toNat := ⟨by assumption, fun k => by first | exact h4 | cases k⟩
                   have e := mv_yes (by omega) (by omega) hm
                   exact ⟨by omega, by omega, (len_snocM _ i bar).trans (congrArg List.length e), (fl_snocM _ i bar).trans (congrArg fl e)⟩)
                | (have hm : ¬ mvP (dcd l) r true i.toNat bar.toNat := fun z => absurd z.1 (by assumption)
                   have e := mv_no (by omega) hm
                   exact ⟨by omega, by omega, (congrArg List.length e).symm, (congrArg fl e).symm⟩)
                | (have hm : ¬ mvP (dcd l) r true i.toNat bar.toNat := fun z => absurd (z.2 rfl) (by assumption)
                   have e := mv_no (by omega) hm
                   exact ⟨by omega, by omega, (congrArg List.length e).symm, (congrArg fl e).symm⟩)
              · (try dsimp only); omega
            (try simp only [Decidable.not_not] at h4)
            refine code_skip ?_
            refine blk_n ?_
            refine hK11 _ ?_; clear hK11 K11
            refine code_region ?_
            refine list_cons rfl (op_q (q_move rfl (by decide)) ?_)
            refine list_cons rfl (op_q (by first | exact q_addI rfl rfl (by decide) (by omega) (by omega) | exact q_ib rfl rfl rfl (by decide)) ?_)
            refine list_cons rfl (op_q (q_assign rfl (by decide)) ?_)
            refine list_nil ?_
            refine then_n ⟨(_, _, _, _), imp_covers ⟨rfl, rfl, rfl, rfl, rfl, rfl, rfl, rfl, rfl, trivial⟩, ?_, ?_⟩
            · (try dsimp only)
              first
              | (have hm : mvP (dcd l) r true i.toNat bar.toNat := ⟨by assumption, fun k => by first | exact h4 | cases k⟩
                 have e := mv_yes (by omega) (by omega) hm
                 exact ⟨by omega, by omega, (len_snocM _ i bar).trans (congrArg List.length e), (fl_snocM _ i bar).trans (congrArg fl e)⟩)
              | (have hm : ¬ mvP (dcd l) r true i.toNat bar.toNat := fun z => absurd z.1 (by assumption)
                 have e := mv_no (by omega) hm
                 exact ⟨by omega, by omega, (congrArg List.length e).symm, (congrArg fl e).symm⟩)
              | (have hm : ¬ mvP (dcd l) r true i.toNat bar.toNat := fun z => absurd (z.2 rfl) (by assumption)
                 have e := mv_no (by omega) hm
                 exact ⟨by omega, by omega, (congrArg List.length e).symm, (congrArg fl e).symm⟩)
            · (try dsimp only); omega
          simp only [Bool.false_eq_true, if_true, if_false, Decidable.not_not] at h3
          refine draw_guard_nT rfl rfl rfl rfl (by decide) (by decide) ?_
          refine draw_guard_nT rfl rfl rfl rfl (by decide) (by decide) ?_
          refine draw_guard_u rfl rfl rfl rfl (by decide) (by decide) ?_
          refine draw_guard_u rfl rfl rfl rfl (by decide) (by decide) ?_
          refine draw_guard_u rfl rfl rfl rfl (by decide) (by decide) ?_
          refine draw_guard_u rfl rfl rfl rfl (by decide) (by decide) ?_
          refine draw_guard_u rfl rfl rfl rfl (by decide) (by decide) ?_
          refine draw_guard_u rfl rfl rfl rfl (by decide) (by decide) ?_
          refine draw_guard_u rfl rfl rfl rfl (by decide) (by decide) ?_
          refine draw_guard_u rfl rfl rfl rfl (by decide) (by decide) ?_
          refine draw_guard_u rfl rfl rfl rfl (by decide) (by decide) ?_
          refine draw_guard_u rfl rfl rfl rfl (by decide) (by decide) ?_
          refine draw_guard_u rfl rfl rfl rfl (by decide) (by decide) ?_
          refine draw_guard_u rfl rfl rfl rfl (by decide) (by decide) ?_
          refine draw_guard_u rfl rfl rfl rfl (by decide) (by decide) ?_
          refine draw_guard_u rfl rfl rfl rfl (by decide) (by decide) ?_
          refine draw_guard_u rfl rfl rfl rfl (by decide) (by decide) ?_
          refine draw_guard_u rfl rfl rfl rfl (by decide) (by decide) ?_
          refine draw_guard_u rfl rfl rfl rfl (by decide) (by decide) ?_
          refine draw_guard_nT rfl rfl rfl rfl (by decide) (by decide) ?_
          refine draw_q rfl (q_pick rfl rfl (by decide)) ?_
          refine draw_nil ?_
          refine hK13 _ ?_; clear hK13 K13
          refine codeT.imp (σ' := [(0, .par 0 _), (1, .par 1 _), (2, .par 2 _), (3, .val (.bool _)), (8, .val _), (9, .own 15 40 2 _ _), (10, .val (.int .i64 _)), (11, .val (.int .i64 _)), (12, .val (.int .i64 _)), (13, .val (.int .i64 _)), (14, .val (.bool _)), (62, .val (.bool _))]) ?_ (imp_covers ⟨rfl, rfl, rfl, rfl, rfl, rfl, rfl, rfl, rfl, rfl, rfl, rfl, trivial⟩)
          refine code_cond_f rfl ?_
          refine code_skip ?_
          refine blk_n ?_
          refine hK11 _ ?_; clear hK11 K11
          refine code_region ?_
          refine list_cons rfl (op_q (q_move rfl (by decide)) ?_)
          refine list_cons rfl (op_q (by first | exact q_addI rfl rfl (by decide) (by omega) (by omega) | exact q_ib rfl rfl rfl (by decide)) ?_)
          refine list_cons rfl (op_q (q_assign rfl (by decide)) ?_)
          refine list_nil ?_
          refine then_n ⟨(_, _, _, _), imp_covers ⟨rfl, rfl, rfl, rfl, rfl, rfl, rfl, rfl, rfl, trivial⟩, ?_, ?_⟩
          · (try dsimp only)
            first
            | (have hm : mvP (dcd l) r true i.toNat bar.toNat := ⟨by assumption, fun k => by first | exact h3 | cases k⟩
               have e := mv_yes (by omega) (by omega) hm
               exact ⟨by omega, by omega, (len_snocM _ i bar).trans (congrArg List.length e), (fl_snocM _ i bar).trans (congrArg fl e)⟩)
            | (have hm : ¬ mvP (dcd l) r true i.toNat bar.toNat := fun z => absurd z.1 (by assumption)
               have e := mv_no (by omega) hm
               exact ⟨by omega, by omega, (congrArg List.length e).symm, (congrArg fl e).symm⟩)
            | (have hm : ¬ mvP (dcd l) r true i.toNat bar.toNat := fun z => absurd (z.2 rfl) (by assumption)
               have e := mv_no (by omega) hm
               exact ⟨by omega, by omega, (congrArg List.length e).symm, (congrArg fl e).symm⟩)
          · (try dsimp only); omega
        (try simp only [Decidable.not_not] at h2)
        refine code_exit ?_
        refine then_x ?_; clear hK9 K9
        refine then_x ?_
        refine blk_hit ?_
        refine blk_n ?_
        refine hK7 _ ?_; clear hK7 K7
        refine code_region ?_
        refine list_cons rfl (op_q (q_move rfl (by decide)) ?_)
        refine list_cons rfl (op_q (by first | exact q_addI rfl rfl (by decide) (by omega) (by omega) | exact q_ib rfl rfl rfl (by decide)) ?_)
        refine list_cons rfl (op_q (q_assign rfl (by decide)) ?_)
        refine list_nil ?_
        refine then_n ⟨(_, _, _, _), imp_covers ⟨rfl, rfl, rfl, rfl, rfl, rfl, rfl, rfl, trivial⟩, ?_, ?_⟩
        · (try dsimp only)
          have h7 : bar.toNat = 7 := by omega
          have e := (congrArg (fun n => mvR (dcd l) r true i.toNat ++ mvB (dcd l) r true i.toNat n) h7).trans (mv_row (i := i) (by omega)).symm
          exact ⟨by omega, by omega, congrArg List.length e, congrArg fl e⟩
        · (try dsimp only); omega
    (try simp only [Decidable.not_not] at h1)
    refine code_exit ?_
    refine then_x ?_; clear hK5 K5
    refine then_x ?_
    refine blk_hit ?_
    refine hK3 _ ?_; clear hK3 K3
    refine code_seq (fun K14 hK14 => ?_)
    refine code_region ?_
    refine list_cons rfl (op_q (q_move rfl (by decide)) ?_)
    refine list_cons rfl (op_q (q_assign rfl (by decide)) ?_)
    refine list_nil ?_
    refine hK14 _ ?_; clear hK14 K14
    refine code_ret ?_
    refine ends_ret (cs := []) rfl rfl rfl rfl trivial ?_
    rw [show i.toNat = r.length by omega]
end Go.Proofs.YtfagllolcalfiabDoor
