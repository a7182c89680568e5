/- Facts on the types of this translation, each closed by the kernel. No conditions. -/
import Derived.Test.YtlmmjegbnmolcaaRows
import Derived.Test.YtlmmjegbnmolcaaPwR
namespace Go.Proofs.Ytlmmjegbnmolcaa.d4Ty
open Go.RowKit

def az (u : TypeId) : Nat := match u with  | _ => 0



end Go.Proofs.Ytlmmjegbnmolcaa.d4Ty
