/- Facts on the types of this translation, each closed by the kernel. No conditions. -/
import Derived.Test.YtllpdnknaldbaaaRows
import Derived.Test.YtllpdnknaldbaaaPwR
namespace Go.Proofs.Ytllpdnknaldbaaa.LwTy
open Go.RowKit

def az (u : TypeId) : Nat := match u with  | _ => 0



end Go.Proofs.Ytllpdnknaldbaaa.LwTy
