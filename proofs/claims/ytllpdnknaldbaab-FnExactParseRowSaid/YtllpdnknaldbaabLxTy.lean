/- Facts on the types of this translation, each closed by the kernel. No conditions. -/
import Derived.Test.YtllpdnknaldbaabRows
import Derived.Test.YtllpdnknaldbaabPwR
namespace Go.Proofs.Ytllpdnknaldbaab.LxTy
open Go.RowKit

def az (u : TypeId) : Nat := match u with  | _ => 0



end Go.Proofs.Ytllpdnknaldbaab.LxTy
