/- Pure values; what the package's tables read as, of this translation. Own work; no conditions. -/
import Derived.Test.YtlipkomdajogiaaRows
namespace Go.Proofs.Ytlipkomdajogiaa
open Go
inductive PV where
  | bool (b : Bool)
  | int (k : IntKind) (n : Int)
  | str (s : List UInt8)
  | sl (n : Nat) (cs : List PV)
  | agg (cs : List PV)
  | ptr (cs : List PV)
  | clo (f : Nat) (cs : List PV)
  | cst (k : Nat)
  | ifc
  | mth (f : Nat) (cs : List PV)
  | mp (cs : List PV)
def glob : Nat → Option (List PV) := fun _ => none
end Go.Proofs.Ytlipkomdajogiaa
