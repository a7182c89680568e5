/- Facts on the types of this translation, each closed by the kernel. No conditions. -/
import Derived.Test.YtnlojpkmkjdpbaaDoorRows
import Derived.Test.YtnlojpkmkjdpbaaDoorPwR
namespace Go.Proofs.YtnlojpkmkjdpbaaDoor.S3bTy
open Go.RowKit

def az (u : TypeId) : Nat := match u with  | _ => 0



end Go.Proofs.YtnlojpkmkjdpbaaDoor.S3bTy
