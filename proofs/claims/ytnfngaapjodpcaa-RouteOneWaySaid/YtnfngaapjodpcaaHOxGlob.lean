/-
  Tables of numbers in package-level variables: none.
-/
import Derived.WalkKit
namespace Go.Ox

/-- What a package-level variable holds, if it is known and never written. -/
def globTab (_ : Nat) : Option (IntKind × List Int) := none

end Go.Ox
