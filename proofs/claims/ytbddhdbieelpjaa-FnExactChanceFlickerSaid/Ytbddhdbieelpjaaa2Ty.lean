/- Facts on the types of this translation, each closed by the kernel. No conditions. -/
import Derived.Test.YtbddhdbieelpjaaRows
import Derived.Test.YtbddhdbieelpjaaPwR
namespace Go.Proofs.Ytbddhdbieelpjaa.a2Ty
open Go.RowKit

def az (u : TypeId) : Nat := match u with  | _ => 0



end Go.Proofs.Ytbddhdbieelpjaa.a2Ty
