/- Pure values; what the package's tables read as, of this translation. Own work; no conditions. -/
import Derived.Test.YtgpgjaebhfhjoabGreatDoorRows
namespace Go.Proofs.YtgpgjaebhfhjoabGreatDoor
open Go
inductive PV where
  | bool (b : Bool)
  | int (k : IntKind) (n : Int)
  | str (s : List UInt8)
  | sl (n : Nat) (cs : List PV)
  | agg (cs : List PV)
  | ptr (cs : List PV)
  | clo (f : Nat) (cs : List PV)
  | cst (k : Nat)
  | ifc
  | mth (f : Nat) (cs : List PV)
def glob : Nat → Option (List PV) := fun g => match g with | 4 => some ([.int .u8 0, .int .u8 1, .int .u8 28, .int .u8 2, .int .u8 29, .int .u8 14, .int .u8 24, .int .u8 3, .int .u8 30, .int .u8 22, .int .u8 20, .int .u8 15, .int .u8 25, .int .u8 17, .int .u8 4, .int .u8 8, .int .u8 31, .int .u8 27, .int .u8 13, .int .u8 23, .int .u8 21, .int .u8 19, .int .u8 16, .int .u8 7, .int .u8 26, .int .u8 12, .int .u8 18, .int .u8 6, .int .u8 11, .int .u8 5, .int .u8 10, .int .u8 9]) | 5 => some ([.int .u8 0, .int .u8 1, .int .u8 56, .int .u8 2, .int .u8 57, .int .u8 49, .int .u8 28, .int .u8 3, .int .u8 61, .int .u8 58, .int .u8 42, .int .u8 50, .int .u8 38, .int .u8 29, .int .u8 17, .int .u8 4, .int .u8 62, .int .u8 47, .int .u8 59, .int .u8 36, .int .u8 45, .int .u8 43, .int .u8 51, .int .u8 22, .int .u8 53, .int .u8 39, .int .u8 33, .int .u8 30, .int .u8 24, .int .u8 18, .int .u8 12, .int .u8 5, .int .u8 63, .int .u8 55, .int .u8 48, .int .u8 27, .int .u8 60, .int .u8 41, .int .u8 37, .int .u8 16, .int .u8 46, .int .u8 35, .int .u8 44, .int .u8 21, .int .u8 52, .int .u8 32, .int .u8 23, .int .u8 11, .int .u8 54, .int .u8 26, .int .u8 40, .int .u8 15, .int .u8 34, .int .u8 20, .int .u8 31, .int .u8 10, .int .u8 25, .int .u8 14, .int .u8 19, .int .u8 9, .int .u8 13, .int .u8 8, .int .u8 7, .int .u8 6]) | 3 => some ([.int .u64 1, .int .u64 10, .int .u64 100, .int .u64 1000, .int .u64 10000, .int .u64 100000, .int .u64 1000000, .int .u64 10000000, .int .u64 100000000, .int .u64 1000000000, .int .u64 10000000000, .int .u64 100000000000, .int .u64 1000000000000, .int .u64 10000000000000, .int .u64 100000000000000, .int .u64 1000000000000000, .int .u64 10000000000000000, .int .u64 100000000000000000, .int .u64 1000000000000000000, .int .u64 10000000000000000000]) | 0 => some (([[97, 98, 99, 101, 102, 103], [99, 100, 101, 102, 103], [97, 100, 101, 102], [98, 99, 100, 101, 103], [97, 100, 101, 102, 103], [97, 101, 102, 103], [99, 101, 102, 103], [98, 99, 100, 101], [100, 101, 102], [99, 101, 103], [99, 100, 101, 103], [97, 98, 101, 102, 103], [101, 103], [100, 101, 102, 103], [99, 100, 101], [98, 99, 100, 102, 103]] : List (List UInt8)).map PV.str) | 1 => some (([[97, 98, 99, 100, 101, 102], [98, 99], [97, 98, 100, 101, 103], [97, 98, 99, 100, 103], [98, 99, 102, 103], [97, 99, 100, 102, 103], [97, 99, 100, 101, 102, 103], [97, 98, 99], [97, 98, 99, 100, 101, 102, 103], [97, 98, 99, 100, 102, 103]] : List (List UInt8)).map PV.str) | _ => none
end Go.Proofs.YtgpgjaebhfhjoabGreatDoor
