/- Contracts of functions, walked over the pure layer; each says for which arguments. -/
import Derived.Test.YtdlckhdalbagmabDoorLATy
import Derived.Test.YtdlckhdalbagmabDoorTf
import Derived.Test.YtdlckhdalbagmabDoorS6
namespace Go.Proofs.YtdlckhdalbagmabDoor
open Go.RowKit LATy
set_option linter.unusedVariables false
set_option linter.unusedSimpArgs false



end Go.Proofs.YtdlckhdalbagmabDoor
