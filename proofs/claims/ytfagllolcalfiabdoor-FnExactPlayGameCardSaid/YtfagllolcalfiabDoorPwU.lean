/- Structs and arrays compared with ==, in the pure state. Own work; no conditions; nothing here is about one program. -/
import Derived.Test.YtfagllolcalfiabDoorPwT
import Derived.Laws.StructEq
import Derived.ChangeKeysEq
namespace Go.Proofs.YtfagllolcalfiabDoor
open Go.RowKit
set_option linter.unusedVariables false
set_option linter.unusedSimpArgs false
def BK.of : BK → PV → Prop
  | .bool, p => ∃ b, p = .bool b
  | .int k, p => ∃ i, p = .int k i
  | .str, p => ∃ s, p = .str s
def HasK : List BK → List PV → Prop
  | [], _ => True
  | k :: ks, l => ∃ p r, l = p :: r ∧ k.of p ∧ HasK ks r
theorem HasK.length : ∀ {ks : List BK} {l : List PV}, HasK ks l → ks.length ≤ l.length
  | [], _, _ => Nat.zero_le _
  | k :: ks, l, h => by
    obtain ⟨p, r, rfl, _, h2⟩ := h
    have := HasK.length h2
    simp; omega
theorem HasK.split : ∀ {k1 k2 : List BK} {l : List PV}, HasK (k1 ++ k2) l → HasK k1 l ∧ HasK k2 (l.drop k1.length)
  | [], k2, l, h => ⟨trivial, by simpa using h⟩
  | k :: k1, k2, l, h => by
    obtain ⟨p, r, rfl, h1, h2⟩ := h
    have := HasK.split h2
    exact ⟨⟨p, r, rfl, h1, this.1⟩, by simpa using this.2⟩
theorem HasK.take : ∀ {ks : List BK} {l : List PV} {n : Nat}, HasK ks l → ks.length ≤ n → HasK ks (l.take n)
  | [], _, _, _, _ => trivial
  | k :: ks, l, n, h, hn => by
    obtain ⟨p, r, rfl, h1, h2⟩ := h
    cases n with
    | zero => simp at hn
    | succ n => exact ⟨p, r.take n, rfl, h1, HasK.take h2 (by simpa using hn)⟩
def EqTy (P : Program) (t : TypeId) (ks : List BK) (m : Nat) : Prop := ∀ (d : Nat) (w w1 w2 : World) (F F' : Nat → Prop) (ps qs : List PV) (vs us : List Value) (off off' : Nat), RepL w1 F ps vs → RepL w2 F' qs us → HasK ks (ps.drop off) → HasK ks (qs.drop off') →
  ∃ a b r, (part t vs.toArray off).run P w = .ok a w ∧ (part t us.toArray off').run P w = .ok b w ∧ (Op.equalIn (d + m) t a b).run P w = .ok r w ∧ (r = true ↔ (ps.drop off).take ks.length = (qs.drop off').take ks.length)
section
variable {P : Program} {t e : TypeId}
theorem EqTy.mono {ks : List BK} {m m' : Nat} (h : EqTy P t ks m) (hm : m ≤ m') : EqTy P t ks m' := fun d w w1 w2 F F' ps qs vs us o o' h1 h2 h3 h4 => by
  have := h (d + (m' - m)) w w1 w2 F F' ps qs vs us o o' h1 h2 h3 h4
  rwa [show d + (m' - m) + m = d + m' by omega] at this
def Eq1 : PV → PV → Prop
  | .int _ a, .int _ b => a = b
  | .str a, .str b => a = b
  | .bool a, .bool b => a = b
  | _, _ => True
instance : (p q : PV) → Decidable (Eq1 p q) := fun p q => by
  cases p <;> cases q <;> simp only [Eq1] <;> infer_instance
def EqP : List PV → List PV → Prop
  | p :: l, q :: m => Eq1 p q ∧ EqP l m
  | _, _ => True
instance decEqP : (l m : List PV) → Decidable (EqP l m)
  | [], _ => .isTrue (by simp [EqP])
  | _ :: _, [] => .isTrue (by simp [EqP])
  | p :: l, q :: m => @instDecidableAnd (Eq1 p q) (EqP l m) _ (decEqP l m)
end
section
variable {P : Program} {n : Nat} {σ : St} {d : Nat} {ty : TypeId} {pos : String} {af : Array Edge} {gd : Option (Nat × Bool)} {t t' e : TypeId} {x y : Operand}
end
end Go.Proofs.YtfagllolcalfiabDoor
