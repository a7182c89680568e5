/- Facts on the types of this translation, each closed by the kernel. No conditions. -/
import Derived.Test.YtllpdnknaldbaaaDoorRows
import Derived.Test.YtllpdnknaldbaaaDoorPwR
namespace Go.Proofs.YtllpdnknaldbaaaDoor.LwTy
open Go.RowKit

def az (u : TypeId) : Nat := match u with  | _ => 0



end Go.Proofs.YtllpdnknaldbaaaDoor.LwTy
