/-
  Tables of numbers in package-level variables: layer 2's.
-/
import Derived.WalkKit
namespace Go.Ox

def nibT : List Int := [0, 498536548, 997073096, 651767980, 1994146192, 1802195444, 1303535960, 1342533948, 3988292384, 4027552580, 3604390888, 3412177804, 2607071920, 2262029012, 2685067896, 3183342108]

/-- What a package-level variable holds, if it is known and never written. -/
def globTab (g : Nat) : Option (IntKind × List Int) := if g = 0 then some (.u32, nibT) else none

end Go.Ox
