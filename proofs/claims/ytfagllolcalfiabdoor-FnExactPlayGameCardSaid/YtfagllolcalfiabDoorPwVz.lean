/- Contracts of library functions that write to a row of numbers, in this layer's words: a part of a variable that is an array, a slice that is the function's own. Own work; no conditions; nothing here is about one program. -/
import Derived.Test.YtfagllolcalfiabDoorPwVy
import Derived.Sort.Grow
namespace Go.Proofs.YtfagllolcalfiabDoor
open Go.RowKit
set_option linter.unusedVariables false
set_option linter.unusedSimpArgs false
section
variable {P : Program} {f : FuncId}
end
end Go.Proofs.YtfagllolcalfiabDoor
