/-
  No cell of these rows narrows 'for every input' (looked for: loops, veiled, ifaces, maps, wideKeys, modest, calm, conditions, laid).
  DERIVED. THE GIVEN ROWS OF THIS SEAT. 7 by the template 'for every input the law returns true; each argument reads behind the call as it read before'; 0 by the template 'total and deterministic' (their statements: YthbdkhlpojngeaaTotals.lean).
  GIVEN WITH THE SEED: the statements are not yours to turn. If you find one false, say at which input.
  Laid BY PROGRAM, IN A SANDBOX (cutbox-rows.mjs): the forced cells as the released guide's own fill.sh prints them over the translation f738ad1cca1a22d0… (all of the seat's roots in one cut). By AI agents, Wed Nov 11 2026. No macro, syntax, notation, axiom, sorry.
-/
import Derived.Test.YthbdkhlpojngeaaChecked
import GoSem.Claim
import GoSem.ClaimJoined
import GoSem.ClaimMapViews
import Derived.JoinedTies
import Derived.KernelRfl
namespace Go.Proofs.Ythbdkhlpojngeaa
/- THE CELL 'sum', in the pinned program and in every row, IS THE sha256 OF THE DUMP (.gsa) THAT YthbdkhlpojngeaaProg.lean LOADS. Nothing in Lean hashes anything: it is a label: what it is worth is what the hold of that sum in a sandbox is worth. -/
noncomputable def Try.pinned : Pinned := { name := "ythbdkhlpojngeaa", sum := "f738ad1cca1a22d068d8a4fc327712cbafd81d3b511bb1862e23d690464d8e38", checked := Try.checked }
namespace Rows
def none {H : Type} : Left H := { results := [], args := [] }

/-- 'oxbowlaw19.AlignPlays': WHATEVER THE INPUT: true; the input reads as it did. -/
def alignPlaysSpec : ChangeSpec := { name := "alignPlays", fn := fun _ => fun
  | [d1, d2] => { results := [.lit (.bool true)], args := [d1, d2] }
  | _ => none }
def alignPlaysRow : OpenClaim := { program := "ythbdkhlpojngeaa", sum := "f738ad1cca1a22d068d8a4fc327712cbafd81d3b511bb1862e23d690464d8e38", func := "oxbow/oxbowlaw19.AlignPlays", spec := "alignPlays", apart := false }
def AlignPlaysSaid : Prop := alignPlaysRow.holds Try.pinned (OpenSpec.ofChange alignPlaysSpec)

/-- ITS FALSE NEIGHBOUR: 'it returns false'. Refute it at one input. -/
def alignPlaysWrong : ChangeSpec := { name := "alignPlays", fn := fun _ => fun
  | [d1, d2] => { results := [.lit (.bool false)], args := [d1, d2] }
  | _ => none }
def AlignPlaysWrongFalsely : Prop := alignPlaysRow.holds Try.pinned (OpenSpec.ofChange alignPlaysWrong)

/-- 'oxbowlaw19.AlignAll': WHATEVER THE INPUT: true; the input reads as it did. -/
def alignAllSpec : ChangeSpec := { name := "alignAll", fn := fun _ => fun
  | [d1, d2] => { results := [.lit (.bool true)], args := [d1, d2] }
  | _ => none }
def alignAllRow : OpenClaim := { program := "ythbdkhlpojngeaa", sum := "f738ad1cca1a22d068d8a4fc327712cbafd81d3b511bb1862e23d690464d8e38", func := "oxbow/oxbowlaw19.AlignAll", spec := "alignAll", apart := false }
def AlignAllSaid : Prop := alignAllRow.holds Try.pinned (OpenSpec.ofChange alignAllSpec)

/-- ITS FALSE NEIGHBOUR: 'it returns false'. Refute it at one input. -/
def alignAllWrong : ChangeSpec := { name := "alignAll", fn := fun _ => fun
  | [d1, d2] => { results := [.lit (.bool false)], args := [d1, d2] }
  | _ => none }
def AlignAllWrongFalsely : Prop := alignAllRow.holds Try.pinned (OpenSpec.ofChange alignAllWrong)

/-- 'oxbowlaw19.AlignFair': WHATEVER THE INPUT: true; the input reads as it did. -/
def alignFairSpec : ChangeSpec := { name := "alignFair", fn := fun _ => fun
  | [d1, d2, d3] => { results := [.lit (.bool true)], args := [d1, d2, d3] }
  | _ => none }
def alignFairRow : OpenClaim := { program := "ythbdkhlpojngeaa", sum := "f738ad1cca1a22d068d8a4fc327712cbafd81d3b511bb1862e23d690464d8e38", func := "oxbow/oxbowlaw19.AlignFair", spec := "alignFair", apart := false }
def AlignFairSaid : Prop := alignFairRow.holds Try.pinned (OpenSpec.ofChange alignFairSpec)

/-- ITS FALSE NEIGHBOUR: 'it returns false'. Refute it at one input. -/
def alignFairWrong : ChangeSpec := { name := "alignFair", fn := fun _ => fun
  | [d1, d2, d3] => { results := [.lit (.bool false)], args := [d1, d2, d3] }
  | _ => none }
def AlignFairWrongFalsely : Prop := alignFairRow.holds Try.pinned (OpenSpec.ofChange alignFairWrong)

/-- 'oxbowlaw19.AlignOpens': WHATEVER THE INPUT: true; the input reads as it did. -/
def alignOpensSpec : ChangeSpec := { name := "alignOpens", fn := fun _ => fun
  | [d1, d2, d3, d4, d5] => { results := [.lit (.bool true)], args := [d1, d2, d3, d4, d5] }
  | _ => none }
def alignOpensRow : OpenClaim := { program := "ythbdkhlpojngeaa", sum := "f738ad1cca1a22d068d8a4fc327712cbafd81d3b511bb1862e23d690464d8e38", func := "oxbow/oxbowlaw19.AlignOpens", spec := "alignOpens", apart := false }
def AlignOpensSaid : Prop := alignOpensRow.holds Try.pinned (OpenSpec.ofChange alignOpensSpec)

/-- ITS FALSE NEIGHBOUR: 'it returns false'. Refute it at one input. -/
def alignOpensWrong : ChangeSpec := { name := "alignOpens", fn := fun _ => fun
  | [d1, d2, d3, d4, d5] => { results := [.lit (.bool false)], args := [d1, d2, d3, d4, d5] }
  | _ => none }
def AlignOpensWrongFalsely : Prop := alignOpensRow.holds Try.pinned (OpenSpec.ofChange alignOpensWrong)

/-- 'oxbowlaw19.AlignKnown': WHATEVER THE INPUT: true; the input reads as it did. -/
def alignKnownSpec : ChangeSpec := { name := "alignKnown", fn := fun _ => fun
  | [] => { results := [.lit (.bool true)], args := [] }
  | _ => none }
def alignKnownRow : OpenClaim := { program := "ythbdkhlpojngeaa", sum := "f738ad1cca1a22d068d8a4fc327712cbafd81d3b511bb1862e23d690464d8e38", func := "oxbow/oxbowlaw19.AlignKnown", spec := "alignKnown", apart := false }
def AlignKnownSaid : Prop := alignKnownRow.holds Try.pinned (OpenSpec.ofChange alignKnownSpec)

/-- ITS FALSE NEIGHBOUR: 'it returns false'. Refute it at one input. -/
def alignKnownWrong : ChangeSpec := { name := "alignKnown", fn := fun _ => fun
  | [] => { results := [.lit (.bool false)], args := [] }
  | _ => none }
def AlignKnownWrongFalsely : Prop := alignKnownRow.holds Try.pinned (OpenSpec.ofChange alignKnownWrong)

/-- 'oxbowlaw19.AlignWide': WHATEVER THE INPUT: true; the input reads as it did. -/
def alignWideSpec : ChangeSpec := { name := "alignWide", fn := fun _ => fun
  | [d1, d2, d3, d4] => { results := [.lit (.bool true)], args := [d1, d2, d3, d4] }
  | _ => none }
def alignWideRow : OpenClaim := { program := "ythbdkhlpojngeaa", sum := "f738ad1cca1a22d068d8a4fc327712cbafd81d3b511bb1862e23d690464d8e38", func := "oxbow/oxbowlaw19.AlignWide", spec := "alignWide", apart := false }
def AlignWideSaid : Prop := alignWideRow.holds Try.pinned (OpenSpec.ofChange alignWideSpec)

/-- ITS FALSE NEIGHBOUR: 'it returns false'. Refute it at one input. -/
def alignWideWrong : ChangeSpec := { name := "alignWide", fn := fun _ => fun
  | [d1, d2, d3, d4] => { results := [.lit (.bool false)], args := [d1, d2, d3, d4] }
  | _ => none }
def AlignWideWrongFalsely : Prop := alignWideRow.holds Try.pinned (OpenSpec.ofChange alignWideWrong)

/-- 'oxbowlaw19.AlignOne': WHATEVER THE INPUT: true; the input reads as it did. -/
def alignOneSpec : ChangeSpec := { name := "alignOne", fn := fun _ => fun
  | [d] => { results := [.lit (.bool true)], args := [d] }
  | _ => none }
def alignOneRow : OpenClaim := { program := "ythbdkhlpojngeaa", sum := "f738ad1cca1a22d068d8a4fc327712cbafd81d3b511bb1862e23d690464d8e38", func := "oxbow/oxbowlaw19.AlignOne", spec := "alignOne", apart := false }
def AlignOneSaid : Prop := alignOneRow.holds Try.pinned (OpenSpec.ofChange alignOneSpec)

/-- ITS FALSE NEIGHBOUR: 'it returns false'. Refute it at one input. -/
def alignOneWrong : ChangeSpec := { name := "alignOne", fn := fun _ => fun
  | [d] => { results := [.lit (.bool false)], args := [d] }
  | _ => none }
def AlignOneWrongFalsely : Prop := alignOneRow.holds Try.pinned (OpenSpec.ofChange alignOneWrong)

/- THE SECOND FORM. 'bulk': how many values and letters a reading holds, each counted each time it is reached (what is shared counts as often as it is met; a slice's spare places count too). A statement '..UptoSaid' is the law's where the arguments, and the package variables that the reading takes, are together of bulk at most 1048576: NARROWER than '..Said'. Prove '..Said' where nothing that the law and all that it calls make is longer than what came in: it says more and counts as full. Else prove '..UptoSaid'. A law counts once. -/
mutual
def uptoBulk {H : Type} : DataW H → Nat
  | .lit (.string bytes) => bytes.length + 1
  | .lit _ => 1
  | .nil => 1
  | .ptr d => uptoBulk d + 1
  | .slice elems spare => uptoBulkAll elems + uptoBulkAll spare + 1
  | .agg parts => uptoBulkAll parts + 1
  | .iface _ d => uptoBulk d + 1
  | .map entries => uptoBulkEntries entries + 1
  | .held _ => 1
def uptoBulkAll {H : Type} : List (DataW H) → Nat
  | [] => 0
  | d :: r => uptoBulk d + uptoBulkAll r
def uptoBulkEntries {H : Type} : List (Lit × DataW H) → Nat
  | [] => 0
  | x :: r => uptoBulkEntry x + uptoBulkEntries r
def uptoBulkEntry {H : Type} : Lit × DataW H → Nat
  | (.string bytes, d) => bytes.length + uptoBulk d + 1
  | (_, d) => uptoBulk d + 1
 end
def uptoSmall : (H : Type) → List (DataW H) → Bool := fun _ ds => decide (uptoBulkAll ds ≤ 1048576)
def OpenSpec.upto (s : _root_.Go.ChangeSpec) : _root_.Go.OpenSpec := { _root_.Go.OpenSpec.ofChange s with cond := some uptoSmall }

/-- 'oxbowlaw19.AlignPlays', WHERE WHAT IT READS IS OF BULK AT MOST 1048576: true; the input reads as it did. -/
def alignPlaysUptoRow : OpenClaim := { program := "ythbdkhlpojngeaa", sum := "f738ad1cca1a22d068d8a4fc327712cbafd81d3b511bb1862e23d690464d8e38", func := "oxbow/oxbowlaw19.AlignPlays", spec := "alignPlays", apart := false, narrowed := true }
def AlignPlaysUptoSaid : Prop := alignPlaysUptoRow.holds Try.pinned (OpenSpec.upto alignPlaysSpec)

/-- 'oxbowlaw19.AlignAll', WHERE WHAT IT READS IS OF BULK AT MOST 1048576: true; the input reads as it did. -/
def alignAllUptoRow : OpenClaim := { program := "ythbdkhlpojngeaa", sum := "f738ad1cca1a22d068d8a4fc327712cbafd81d3b511bb1862e23d690464d8e38", func := "oxbow/oxbowlaw19.AlignAll", spec := "alignAll", apart := false, narrowed := true }
def AlignAllUptoSaid : Prop := alignAllUptoRow.holds Try.pinned (OpenSpec.upto alignAllSpec)

/-- 'oxbowlaw19.AlignFair', WHERE WHAT IT READS IS OF BULK AT MOST 1048576: true; the input reads as it did. -/
def alignFairUptoRow : OpenClaim := { program := "ythbdkhlpojngeaa", sum := "f738ad1cca1a22d068d8a4fc327712cbafd81d3b511bb1862e23d690464d8e38", func := "oxbow/oxbowlaw19.AlignFair", spec := "alignFair", apart := false, narrowed := true }
def AlignFairUptoSaid : Prop := alignFairUptoRow.holds Try.pinned (OpenSpec.upto alignFairSpec)

/-- 'oxbowlaw19.AlignOpens', WHERE WHAT IT READS IS OF BULK AT MOST 1048576: true; the input reads as it did. -/
def alignOpensUptoRow : OpenClaim := { program := "ythbdkhlpojngeaa", sum := "f738ad1cca1a22d068d8a4fc327712cbafd81d3b511bb1862e23d690464d8e38", func := "oxbow/oxbowlaw19.AlignOpens", spec := "alignOpens", apart := false, narrowed := true }
def AlignOpensUptoSaid : Prop := alignOpensUptoRow.holds Try.pinned (OpenSpec.upto alignOpensSpec)

/-- 'oxbowlaw19.AlignKnown', WHERE WHAT IT READS IS OF BULK AT MOST 1048576: true; the input reads as it did. -/
def alignKnownUptoRow : OpenClaim := { program := "ythbdkhlpojngeaa", sum := "f738ad1cca1a22d068d8a4fc327712cbafd81d3b511bb1862e23d690464d8e38", func := "oxbow/oxbowlaw19.AlignKnown", spec := "alignKnown", apart := false, narrowed := true }
def AlignKnownUptoSaid : Prop := alignKnownUptoRow.holds Try.pinned (OpenSpec.upto alignKnownSpec)

/-- 'oxbowlaw19.AlignWide', WHERE WHAT IT READS IS OF BULK AT MOST 1048576: true; the input reads as it did. -/
def alignWideUptoRow : OpenClaim := { program := "ythbdkhlpojngeaa", sum := "f738ad1cca1a22d068d8a4fc327712cbafd81d3b511bb1862e23d690464d8e38", func := "oxbow/oxbowlaw19.AlignWide", spec := "alignWide", apart := false, narrowed := true }
def AlignWideUptoSaid : Prop := alignWideUptoRow.holds Try.pinned (OpenSpec.upto alignWideSpec)

/-- 'oxbowlaw19.AlignOne', WHERE WHAT IT READS IS OF BULK AT MOST 1048576: true; the input reads as it did. -/
def alignOneUptoRow : OpenClaim := { program := "ythbdkhlpojngeaa", sum := "f738ad1cca1a22d068d8a4fc327712cbafd81d3b511bb1862e23d690464d8e38", func := "oxbow/oxbowlaw19.AlignOne", spec := "alignOne", apart := false, narrowed := true }
def AlignOneUptoSaid : Prop := alignOneUptoRow.holds Try.pinned (OpenSpec.upto alignOneSpec)

end Rows
end Go.Proofs.Ythbdkhlpojngeaa
