/- Facts on the types of this translation, each closed by the kernel. No conditions. -/
import Derived.Test.YtnlillklehgcgaaDoorRows
import Derived.Test.YtnlillklehgcgaaDoorPwR
namespace Go.Proofs.YtnlillklehgcgaaDoor.SpTy
open Go.RowKit

def az (u : TypeId) : Nat := match u with  | _ => 0

theorem sl_43 : SlTy Tryd.prog 43 9 1 16 [.str []] := slTy_of Tryd.underlying43 (z := .string ByteArray.empty) (by kernel_rfl) rfl (by decide) (by decide) rfl

end Go.Proofs.YtnlillklehgcgaaDoor.SpTy
