/- Facts on the types of this translation, each closed by the kernel. No conditions. -/
import Derived.Test.YtkeekfodmjfbhaaDoorRows
import Derived.Test.YtkeekfodmjfbhaaDoorPwR
namespace Go.Proofs.YtkeekfodmjfbhaaDoor.o4Ty
open Go.RowKit

def az (u : TypeId) : Nat := match u with  | _ => 0



end Go.Proofs.YtkeekfodmjfbhaaDoor.o4Ty
