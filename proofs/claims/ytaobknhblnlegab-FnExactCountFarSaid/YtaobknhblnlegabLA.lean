/- Contracts of functions, walked over the pure layer; each says for which arguments. -/
import Derived.Test.YtaobknhblnlegabLATy
import Derived.Test.YtaobknhblnlegabTf
import Derived.Test.YtaobknhblnlegabSp
import Derived.Test.YtaobknhblnlegabS4
import Derived.Test.YtaobknhblnlegabS4c
import Derived.Test.YtaobknhblnlegabS5
import Derived.Test.YtaobknhblnlegabS5p
namespace Go.Proofs.Ytaobknhblnlegab
open Go.RowKit LATy
set_option linter.unusedVariables false
set_option linter.unusedSimpArgs false



end Go.Proofs.Ytaobknhblnlegab
