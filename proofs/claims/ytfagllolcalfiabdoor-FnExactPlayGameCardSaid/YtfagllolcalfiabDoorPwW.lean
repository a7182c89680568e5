/- A strings.Builder in a slot: contracts that write to one, and how a call uses them. Own work; no conditions; nothing here is about one program. -/
import Derived.Test.YtfagllolcalfiabDoorPwV
import Derived.Lib.OthersKept
namespace Go.Proofs.YtfagllolcalfiabDoor
open Go.RowKit
set_option linter.unusedVariables false
set_option linter.unusedSimpArgs false
def RepD (w : World) : List SV → List Value → Prop
  | [], us => us = []
  | .val p :: ps, us => ∃ u r, us = u :: r ∧ Rep w (fun _ => False) p u ∧ RepD w ps r
  | .dead :: ps, us => ∃ u r, us = u :: r ∧ RepD w ps r
  | _ :: _, _ => False
theorem RepD.okl {C : Ctx} {G : Gh} {w : World} : ∀ {ps : List SV} {us : List Value}, RepD w ps us → OkL C w G ps us
  | [], us, h => by simpa [RepD, OkL] using h
  | .val p :: ps, us, h => by
    obtain ⟨u, r, rfl, h1, h2⟩ := h
    exact ⟨u, r, rfl, by simpa [Ok] using h1, h2.okl⟩
  | .dead :: ps, us, h => by
    obtain ⟨u, r, rfl, h2⟩ := h
    exact ⟨u, r, rfl, trivial, h2.okl⟩
section
variable {P : Program} {n : Nat} {σ : St} {K : St → Prop} {d : Nat} {ty : TypeId} {pos : String} {af : Array Edge} {gd : Option (Nat × Bool)} {t t' : TypeId} {x y : Operand}
end
end Go.Proofs.YtfagllolcalfiabDoor
