/- Pure values; what the package's tables read as, of this translation. Own work; no conditions. -/
import Derived.Test.YtfagllolcalfiabDoorRows
namespace Go.Proofs.YtfagllolcalfiabDoor
open Go
inductive PV where
  | bool (b : Bool)
  | int (k : IntKind) (n : Int)
  | str (s : List UInt8)
  | sl (n : Nat) (cs : List PV)
  | agg (cs : List PV)
  | ptr (cs : List PV)
  | clo (f : Nat) (cs : List PV)
  | cst (k : Nat)
  | ifc
  | mth (f : Nat) (cs : List PV)
  | mp (cs : List PV)
def glob : Nat → Option (List PV) := fun g => match g with | 0 => some (([[97, 98, 99, 100, 101, 102], [98, 99], [97, 98, 100, 101, 103], [97, 98, 99, 100, 103], [98, 99, 102, 103], [97, 99, 100, 102, 103], [97, 99, 100, 101, 102, 103], [97, 98, 99], [97, 98, 99, 100, 101, 102, 103], [97, 98, 99, 100, 102, 103]] : List (List UInt8)).map PV.str) | _ => none
end Go.Proofs.YtfagllolcalfiabDoor
