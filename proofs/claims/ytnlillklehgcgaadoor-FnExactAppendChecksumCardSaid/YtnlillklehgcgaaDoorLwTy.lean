/- Facts on the types of this translation, each closed by the kernel. No conditions. -/
import Derived.Test.YtnlillklehgcgaaDoorRows
import Derived.Test.YtnlillklehgcgaaDoorPwR
namespace Go.Proofs.YtnlillklehgcgaaDoor.LwTy
open Go.RowKit

def az (u : TypeId) : Nat := match u with  | _ => 0



end Go.Proofs.YtnlillklehgcgaaDoor.LwTy
