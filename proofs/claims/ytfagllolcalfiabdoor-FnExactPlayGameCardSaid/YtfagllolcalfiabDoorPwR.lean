/- Scopes and labels without a jump. Own work; no conditions; nothing here is about one program. -/
import Derived.Test.YtfagllolcalfiabDoorPwQ
import Derived.Test.YtfagllolcalfiabDoorPwY
import Derived.Test.YtfagllolcalfiabDoorPwMt
namespace Go.Proofs.YtfagllolcalfiabDoor
open Go.RowKit
set_option linter.unusedVariables false
theorem pcalls_run {P : Program} (T : TF P) {N k : Nat} {f : FuncId} {ps : List PV} {rs : List SV} (h : crun T noExt N k f ps = some rs) : PCalls P f ps (· = rs) := crun_ok T noExt_ok k f ps rs h
def oneInt (x : Option (List SV)) (i : Int) : Bool := match x with
  | some [.val (.int .i64 j)] => match j, i with
    | .ofNat a, .ofNat b => Nat.beq a b
    | .negSucc a, .negSucc b => Nat.beq a b
    | _, _ => false
  | _ => false
theorem oneInt_ok {x : Option (List SV)} {i : Int} (h : oneInt x i = true) : x = some [.val (.int .i64 i)] := by
  unfold oneInt at h
  split at h
  · split at h
    · rw [Nat.eq_of_beq_eq_true h]
    · rw [Nat.eq_of_beq_eq_true h]
    · cases h
  · cases h
def below (k : Nat) (p : Nat → Bool) : Bool := match k with
  | 0 => true
  | k + 1 => p k && below k p
theorem below_ok : ∀ {k : Nat} {p : Nat → Bool}, below k p = true → ∀ i, i < k → p i = true
  | k + 1, p, h, i, hi => by
    simp only [below, Bool.and_eq_true] at h
    by_cases e : i = k
    · rw [e]; exact h.1
    · exact below_ok h.2 i (by omega)
theorem below_int {k : Nat} {p : Nat → Bool} (h : below k p = true) {i : Int} (h0 : 0 ≤ i) (h1 : i < k) : p i.toNat = true := below_ok h i.toNat (by omega)
end Go.Proofs.YtfagllolcalfiabDoor
