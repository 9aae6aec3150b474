/-
  No cell of these rows narrows 'for every input' (looked for: loops, veiled, ifaces, maps, wideKeys, modest, calm, conditions, laid).
  DERIVED. THE GIVEN ROWS OF THIS SEAT. 7 by the template 'for every input the law returns true; each argument reads behind the call as it read before'; 0 by the template 'total and deterministic' (their statements: YtlebekeplkkciaaTotals.lean).
  GIVEN WITH THE SEED: the statements are not yours to turn. If you find one false, say at which input.
  Laid BY PROGRAM, IN A SANDBOX (cutbox-rows.mjs): the forced cells as the released guide's own fill.sh prints them over the translation f0ba7c37df397d9a… (all of the seat's roots in one cut). By AI agents, Wed Nov 11 2026. No macro, syntax, notation, axiom, sorry.
-/
import Derived.Test.YtlebekeplkkciaaChecked
import GoSem.Claim
import GoSem.ClaimJoined
import GoSem.ClaimMapViews
import Derived.JoinedTies
import Derived.KernelRfl
namespace Go.Proofs.Ytlebekeplkkciaa
/- THE CELL 'sum', in the pinned program and in every row, IS THE sha256 OF THE DUMP (.gsa) THAT YtlebekeplkkciaaProg.lean LOADS. Nothing in Lean hashes anything: it is a label: what it is worth is what the hold of that sum in a sandbox is worth. -/
noncomputable def Try.pinned : Pinned := { name := "ytlebekeplkkciaa", sum := "f0ba7c37df397d9a74fbe0244a2a42863aa3ed232b4de61d6fd0d19f325fc23e", checked := Try.checked }
namespace Rows
def none {H : Type} : Left H := { results := [], args := [] }

/-- 'oxbowlaw01.FracInts': WHATEVER THE INPUT: true; the input reads as it did. -/
def fracIntsSpec : ChangeSpec := { name := "fracInts", fn := fun _ => fun
  | [d1, d2] => { results := [.lit (.bool true)], args := [d1, d2] }
  | _ => none }
def fracIntsRow : OpenClaim := { program := "ytlebekeplkkciaa", sum := "f0ba7c37df397d9a74fbe0244a2a42863aa3ed232b4de61d6fd0d19f325fc23e", func := "oxbow/oxbowlaw01.FracInts", spec := "fracInts", inPlace := ["math/bits.Add64"], named := ["math/bits.divideError", "math/bits.overflowError"], apart := false }
def FracIntsSaid : Prop := fracIntsRow.holds Try.pinned (OpenSpec.ofChange fracIntsSpec)

/-- ITS FALSE NEIGHBOUR: 'it returns false'. Refute it at one input. -/
def fracIntsWrong : ChangeSpec := { name := "fracInts", fn := fun _ => fun
  | [d1, d2] => { results := [.lit (.bool false)], args := [d1, d2] }
  | _ => none }
def FracIntsWrongFalsely : Prop := fracIntsRow.holds Try.pinned (OpenSpec.ofChange fracIntsWrong)

/-- 'oxbowlaw01.FracRight': WHATEVER THE INPUT: true; the input reads as it did. -/
def fracRightSpec : ChangeSpec := { name := "fracRight", fn := fun _ => fun
  | [d1, d2, d3, d4] => { results := [.lit (.bool true)], args := [d1, d2, d3, d4] }
  | _ => none }
def fracRightRow : OpenClaim := { program := "ytlebekeplkkciaa", sum := "f0ba7c37df397d9a74fbe0244a2a42863aa3ed232b4de61d6fd0d19f325fc23e", func := "oxbow/oxbowlaw01.FracRight", spec := "fracRight", inPlace := ["math/bits.Add64"], named := ["math/bits.divideError", "math/bits.overflowError"], apart := false }
def FracRightSaid : Prop := fracRightRow.holds Try.pinned (OpenSpec.ofChange fracRightSpec)

/-- ITS FALSE NEIGHBOUR: 'it returns false'. Refute it at one input. -/
def fracRightWrong : ChangeSpec := { name := "fracRight", fn := fun _ => fun
  | [d1, d2, d3, d4] => { results := [.lit (.bool false)], args := [d1, d2, d3, d4] }
  | _ => none }
def FracRightWrongFalsely : Prop := fracRightRow.holds Try.pinned (OpenSpec.ofChange fracRightWrong)

/-- 'oxbowlaw01.FracOrder': WHATEVER THE INPUT: true; the input reads as it did. -/
def fracOrderSpec : ChangeSpec := { name := "fracOrder", fn := fun _ => fun
  | [d1, d2, d3] => { results := [.lit (.bool true)], args := [d1, d2, d3] }
  | _ => none }
def fracOrderRow : OpenClaim := { program := "ytlebekeplkkciaa", sum := "f0ba7c37df397d9a74fbe0244a2a42863aa3ed232b4de61d6fd0d19f325fc23e", func := "oxbow/oxbowlaw01.FracOrder", spec := "fracOrder", inPlace := ["math/bits.Add64"], named := ["math/bits.divideError", "math/bits.overflowError"], apart := false }
def FracOrderSaid : Prop := fracOrderRow.holds Try.pinned (OpenSpec.ofChange fracOrderSpec)

/-- ITS FALSE NEIGHBOUR: 'it returns false'. Refute it at one input. -/
def fracOrderWrong : ChangeSpec := { name := "fracOrder", fn := fun _ => fun
  | [d1, d2, d3] => { results := [.lit (.bool false)], args := [d1, d2, d3] }
  | _ => none }
def FracOrderWrongFalsely : Prop := fracOrderRow.holds Try.pinned (OpenSpec.ofChange fracOrderWrong)

/-- 'oxbowlaw01.FracSums': WHATEVER THE INPUT: true; the input reads as it did. -/
def fracSumsSpec : ChangeSpec := { name := "fracSums", fn := fun _ => fun
  | [d1, d2, d3] => { results := [.lit (.bool true)], args := [d1, d2, d3] }
  | _ => none }
def fracSumsRow : OpenClaim := { program := "ytlebekeplkkciaa", sum := "f0ba7c37df397d9a74fbe0244a2a42863aa3ed232b4de61d6fd0d19f325fc23e", func := "oxbow/oxbowlaw01.FracSums", spec := "fracSums", inPlace := ["math/bits.Add64"], named := ["math/bits.divideError", "math/bits.overflowError"], apart := false }
def FracSumsSaid : Prop := fracSumsRow.holds Try.pinned (OpenSpec.ofChange fracSumsSpec)

/-- ITS FALSE NEIGHBOUR: 'it returns false'. Refute it at one input. -/
def fracSumsWrong : ChangeSpec := { name := "fracSums", fn := fun _ => fun
  | [d1, d2, d3] => { results := [.lit (.bool false)], args := [d1, d2, d3] }
  | _ => none }
def FracSumsWrongFalsely : Prop := fracSumsRow.holds Try.pinned (OpenSpec.ofChange fracSumsWrong)

/-- 'oxbowlaw01.FracLowest': WHATEVER THE INPUT: true; the input reads as it did. -/
def fracLowestSpec : ChangeSpec := { name := "fracLowest", fn := fun _ => fun
  | [d1, d2, d3] => { results := [.lit (.bool true)], args := [d1, d2, d3] }
  | _ => none }
def fracLowestRow : OpenClaim := { program := "ytlebekeplkkciaa", sum := "f0ba7c37df397d9a74fbe0244a2a42863aa3ed232b4de61d6fd0d19f325fc23e", func := "oxbow/oxbowlaw01.FracLowest", spec := "fracLowest", inPlace := ["math/bits.Add64"], named := ["math/bits.divideError", "math/bits.overflowError"], apart := false }
def FracLowestSaid : Prop := fracLowestRow.holds Try.pinned (OpenSpec.ofChange fracLowestSpec)

/-- ITS FALSE NEIGHBOUR: 'it returns false'. Refute it at one input. -/
def fracLowestWrong : ChangeSpec := { name := "fracLowest", fn := fun _ => fun
  | [d1, d2, d3] => { results := [.lit (.bool false)], args := [d1, d2, d3] }
  | _ => none }
def FracLowestWrongFalsely : Prop := fracLowestRow.holds Try.pinned (OpenSpec.ofChange fracLowestWrong)

/-- 'oxbowlaw01.FracKnown': WHATEVER THE INPUT: true; the input reads as it did. -/
def fracKnownSpec : ChangeSpec := { name := "fracKnown", fn := fun _ => fun
  | [] => { results := [.lit (.bool true)], args := [] }
  | _ => none }
def fracKnownRow : OpenClaim := { program := "ytlebekeplkkciaa", sum := "f0ba7c37df397d9a74fbe0244a2a42863aa3ed232b4de61d6fd0d19f325fc23e", func := "oxbow/oxbowlaw01.FracKnown", spec := "fracKnown", inPlace := ["math/bits.Add64"], named := ["math/bits.divideError", "math/bits.overflowError"], apart := false }
def FracKnownSaid : Prop := fracKnownRow.holds Try.pinned (OpenSpec.ofChange fracKnownSpec)

/-- ITS FALSE NEIGHBOUR: 'it returns false'. Refute it at one input. -/
def fracKnownWrong : ChangeSpec := { name := "fracKnown", fn := fun _ => fun
  | [] => { results := [.lit (.bool false)], args := [] }
  | _ => none }
def FracKnownWrongFalsely : Prop := fracKnownRow.holds Try.pinned (OpenSpec.ofChange fracKnownWrong)

/-- 'oxbowlaw01.FracScales': WHATEVER THE INPUT: true; the input reads as it did. -/
def fracScalesSpec : ChangeSpec := { name := "fracScales", fn := fun _ => fun
  | [d1, d2, d3] => { results := [.lit (.bool true)], args := [d1, d2, d3] }
  | _ => none }
def fracScalesRow : OpenClaim := { program := "ytlebekeplkkciaa", sum := "f0ba7c37df397d9a74fbe0244a2a42863aa3ed232b4de61d6fd0d19f325fc23e", func := "oxbow/oxbowlaw01.FracScales", spec := "fracScales", inPlace := ["math/bits.Add64"], named := ["math/bits.divideError", "math/bits.overflowError"], apart := false }
def FracScalesSaid : Prop := fracScalesRow.holds Try.pinned (OpenSpec.ofChange fracScalesSpec)

/-- ITS FALSE NEIGHBOUR: 'it returns false'. Refute it at one input. -/
def fracScalesWrong : ChangeSpec := { name := "fracScales", fn := fun _ => fun
  | [d1, d2, d3] => { results := [.lit (.bool false)], args := [d1, d2, d3] }
  | _ => none }
def FracScalesWrongFalsely : Prop := fracScalesRow.holds Try.pinned (OpenSpec.ofChange fracScalesWrong)

/- THE SECOND FORM. 'bulk': how many values and letters a reading holds, each counted each time it is reached (what is shared counts as often as it is met; a slice's spare places count too). A statement '..UptoSaid' is the law's where the arguments, and the package variables that the reading takes, are together of bulk at most 1048576: NARROWER than '..Said'. Prove '..Said' where nothing that the law and all that it calls make is longer than what came in: it says more and counts as full. Else prove '..UptoSaid'. A law counts once. -/
mutual
def uptoBulk {H : Type} : DataW H → Nat
  | .lit (.string bytes) => bytes.length + 1
  | .lit _ => 1
  | .nil => 1
  | .ptr d => uptoBulk d + 1
  | .slice elems spare => uptoBulkAll elems + uptoBulkAll spare + 1
  | .agg parts => uptoBulkAll parts + 1
  | .iface _ d => uptoBulk d + 1
  | .map entries => uptoBulkEntries entries + 1
  | .held _ => 1
def uptoBulkAll {H : Type} : List (DataW H) → Nat
  | [] => 0
  | d :: r => uptoBulk d + uptoBulkAll r
def uptoBulkEntries {H : Type} : List (Lit × DataW H) → Nat
  | [] => 0
  | x :: r => uptoBulkEntry x + uptoBulkEntries r
def uptoBulkEntry {H : Type} : Lit × DataW H → Nat
  | (.string bytes, d) => bytes.length + uptoBulk d + 1
  | (_, d) => uptoBulk d + 1
 end
def uptoSmall : (H : Type) → List (DataW H) → Bool := fun _ ds => decide (uptoBulkAll ds ≤ 1048576)
def OpenSpec.upto (s : _root_.Go.ChangeSpec) : _root_.Go.OpenSpec := { _root_.Go.OpenSpec.ofChange s with cond := some uptoSmall }

/-- 'oxbowlaw01.FracInts', WHERE WHAT IT READS IS OF BULK AT MOST 1048576: true; the input reads as it did. -/
def fracIntsUptoRow : OpenClaim := { program := "ytlebekeplkkciaa", sum := "f0ba7c37df397d9a74fbe0244a2a42863aa3ed232b4de61d6fd0d19f325fc23e", func := "oxbow/oxbowlaw01.FracInts", spec := "fracInts", inPlace := ["math/bits.Add64"], named := ["math/bits.divideError", "math/bits.overflowError"], apart := false, narrowed := true }
def FracIntsUptoSaid : Prop := fracIntsUptoRow.holds Try.pinned (OpenSpec.upto fracIntsSpec)

/-- 'oxbowlaw01.FracRight', WHERE WHAT IT READS IS OF BULK AT MOST 1048576: true; the input reads as it did. -/
def fracRightUptoRow : OpenClaim := { program := "ytlebekeplkkciaa", sum := "f0ba7c37df397d9a74fbe0244a2a42863aa3ed232b4de61d6fd0d19f325fc23e", func := "oxbow/oxbowlaw01.FracRight", spec := "fracRight", inPlace := ["math/bits.Add64"], named := ["math/bits.divideError", "math/bits.overflowError"], apart := false, narrowed := true }
def FracRightUptoSaid : Prop := fracRightUptoRow.holds Try.pinned (OpenSpec.upto fracRightSpec)

/-- 'oxbowlaw01.FracOrder', WHERE WHAT IT READS IS OF BULK AT MOST 1048576: true; the input reads as it did. -/
def fracOrderUptoRow : OpenClaim := { program := "ytlebekeplkkciaa", sum := "f0ba7c37df397d9a74fbe0244a2a42863aa3ed232b4de61d6fd0d19f325fc23e", func := "oxbow/oxbowlaw01.FracOrder", spec := "fracOrder", inPlace := ["math/bits.Add64"], named := ["math/bits.divideError", "math/bits.overflowError"], apart := false, narrowed := true }
def FracOrderUptoSaid : Prop := fracOrderUptoRow.holds Try.pinned (OpenSpec.upto fracOrderSpec)

/-- 'oxbowlaw01.FracSums', WHERE WHAT IT READS IS OF BULK AT MOST 1048576: true; the input reads as it did. -/
def fracSumsUptoRow : OpenClaim := { program := "ytlebekeplkkciaa", sum := "f0ba7c37df397d9a74fbe0244a2a42863aa3ed232b4de61d6fd0d19f325fc23e", func := "oxbow/oxbowlaw01.FracSums", spec := "fracSums", inPlace := ["math/bits.Add64"], named := ["math/bits.divideError", "math/bits.overflowError"], apart := false, narrowed := true }
def FracSumsUptoSaid : Prop := fracSumsUptoRow.holds Try.pinned (OpenSpec.upto fracSumsSpec)

/-- 'oxbowlaw01.FracLowest', WHERE WHAT IT READS IS OF BULK AT MOST 1048576: true; the input reads as it did. -/
def fracLowestUptoRow : OpenClaim := { program := "ytlebekeplkkciaa", sum := "f0ba7c37df397d9a74fbe0244a2a42863aa3ed232b4de61d6fd0d19f325fc23e", func := "oxbow/oxbowlaw01.FracLowest", spec := "fracLowest", inPlace := ["math/bits.Add64"], named := ["math/bits.divideError", "math/bits.overflowError"], apart := false, narrowed := true }
def FracLowestUptoSaid : Prop := fracLowestUptoRow.holds Try.pinned (OpenSpec.upto fracLowestSpec)

/-- 'oxbowlaw01.FracKnown', WHERE WHAT IT READS IS OF BULK AT MOST 1048576: true; the input reads as it did. -/
def fracKnownUptoRow : OpenClaim := { program := "ytlebekeplkkciaa", sum := "f0ba7c37df397d9a74fbe0244a2a42863aa3ed232b4de61d6fd0d19f325fc23e", func := "oxbow/oxbowlaw01.FracKnown", spec := "fracKnown", inPlace := ["math/bits.Add64"], named := ["math/bits.divideError", "math/bits.overflowError"], apart := false, narrowed := true }
def FracKnownUptoSaid : Prop := fracKnownUptoRow.holds Try.pinned (OpenSpec.upto fracKnownSpec)

/-- 'oxbowlaw01.FracScales', WHERE WHAT IT READS IS OF BULK AT MOST 1048576: true; the input reads as it did. -/
def fracScalesUptoRow : OpenClaim := { program := "ytlebekeplkkciaa", sum := "f0ba7c37df397d9a74fbe0244a2a42863aa3ed232b4de61d6fd0d19f325fc23e", func := "oxbow/oxbowlaw01.FracScales", spec := "fracScales", inPlace := ["math/bits.Add64"], named := ["math/bits.divideError", "math/bits.overflowError"], apart := false, narrowed := true }
def FracScalesUptoSaid : Prop := fracScalesUptoRow.holds Try.pinned (OpenSpec.upto fracScalesSpec)

end Rows
end Go.Proofs.Ytlebekeplkkciaa
