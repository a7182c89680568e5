/- Scopes and labels without a jump. Own work; no conditions; nothing here is about one program. -/
import Derived.Test.YtfagllolcalfiaaDoorPwQ
import Derived.Test.YtfagllolcalfiaaDoorPwY
import Derived.Test.YtfagllolcalfiaaDoorPwMt
namespace Go.Proofs.YtfagllolcalfiaaDoor
open Go.RowKit
set_option linter.unusedVariables false

/-- A call that the interpreter runs is met by the contract that it answers. -/
theorem pcalls_run {P : Program} (T : TF P) {N k : Nat} {f : FuncId} {ps : List PV} {rs : List SV} (h : crun T noExt N k f ps = some rs) : PCalls P f ps (· = rs) := crun_ok T noExt_ok k f ps rs h
theorem pcalls_runX {P : Program} (T : TF P) {ext : CallF} (he : ext.ok P) {N k : Nat} {f : FuncId} {ps : List PV} {rs : List SV} (h : crun T ext N k f ps = some rs) : PCalls P f ps (· = rs) := crun_ok T he k f ps rs h

/-- Whether results are one number, one bool, one text, and that number and so on. -/
def oneInt (x : Option (List SV)) (i : Int) : Bool := match x with
  | some [.val (.int .i64 j)] => match j, i with
    | .ofNat a, .ofNat b => Nat.beq a b
    | .negSucc a, .negSucc b => Nat.beq a b
    | _, _ => false
  | _ => false
theorem oneInt_ok {x : Option (List SV)} {i : Int} (h : oneInt x i = true) : x = some [.val (.int .i64 i)] := by
  unfold oneInt at h
  split at h
  · split at h
    · rw [Nat.eq_of_beq_eq_true h]
    · rw [Nat.eq_of_beq_eq_true h]
    · cases h
  · cases h
def oneBool (x : Option (List SV)) (i : Bool) : Bool := match x with
  | some [.val (.bool j)] => match i, j with
    | true, true => true
    | false, false => true
    | _, _ => false
  | _ => false
theorem oneBool_ok {x : Option (List SV)} {i : Bool} (h : oneBool x i = true) : x = some [.val (.bool i)] := by
  unfold oneBool at h
  split at h
  · split at h
    · rfl
    · rfl
    · cases h
  · cases h
def sameBytes : List UInt8 → List UInt8 → Bool
  | [], [] => true
  | a :: r, b :: s => Nat.beq a.toNat b.toNat && sameBytes r s
  | _, _ => false
theorem sameBytes_ok : ∀ {a b : List UInt8}, sameBytes a b = true → a = b
  | [], [], _ => rfl
  | a :: r, b :: s, h => by
    simp only [sameBytes, Bool.and_eq_true] at h
    rw [UInt8.toNat_inj.mp (Nat.eq_of_beq_eq_true h.1), sameBytes_ok h.2]
  | [], _ :: _, h => by cases h
  | _ :: _, [], h => by cases h
def oneStr (x : Option (List SV)) (i : List UInt8) : Bool := match x with
  | some [.val (.str j)] => sameBytes j i
  | _ => false
theorem oneStr_ok {x : Option (List SV)} {i : List UInt8} (h : oneStr x i = true) : x = some [.val (.str i)] := by
  unfold oneStr at h
  split at h
  · rw [sameBytes_ok h]
  · cases h

/-- Of all numbers below k. -/
def below (k : Nat) (p : Nat → Bool) : Bool := match k with
  | 0 => true
  | k + 1 => p k && below k p
theorem below_ok : ∀ {k : Nat} {p : Nat → Bool}, below k p = true → ∀ i, i < k → p i = true
  | k + 1, p, h, i, hi => by
    simp only [below, Bool.and_eq_true] at h
    by_cases e : i = k
    · rw [e]; exact h.1
    · exact below_ok h.2 i (by omega)
theorem below_int {k : Nat} {p : Nat → Bool} (h : below k p = true) {i : Int} (h0 : 0 ≤ i) (h1 : i < k) : p i.toNat = true := below_ok h i.toNat (by omega)

end Go.Proofs.YtfagllolcalfiaaDoor
