/- A strings.Builder in a slot: contracts that write to one, and how a call uses them. Own work; no conditions; nothing here is about one program. -/
import Derived.Test.YtlipkomdajogiaaPwV
import Derived.Lib.OthersKept
namespace Go.Proofs.Ytlipkomdajogiaa
open Go.RowKit
set_option linter.unusedVariables false
set_option linter.unusedSimpArgs false
section
variable {P : Program} {n : Nat} {σ : St} {K : St → Prop} {d : Nat} {ty : TypeId} {pos : String} {af : Array Edge} {gd : Option (Nat × Bool)} {t t' : TypeId} {x y : Operand}
end
end Go.Proofs.Ytlipkomdajogiaa
