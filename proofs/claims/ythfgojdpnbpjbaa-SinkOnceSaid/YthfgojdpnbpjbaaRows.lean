/-
  No cell of these rows narrows 'for every input' (looked for: loops, veiled, ifaces, maps, wideKeys, modest, calm, conditions, laid).
  DERIVED. THE GIVEN ROWS OF THIS SEAT. 5 by the template 'for every input the law returns true; each argument reads behind the call as it read before'; 0 by the template 'total and deterministic' (their statements: YthfgojdpnbpjbaaTotals.lean).
  GIVEN WITH THE SEED: the statements are not yours to turn. If you find one false, say at which input.
  Laid BY PROGRAM, IN A SANDBOX (cutbox-rows.mjs): the forced cells as the released guide's own fill.sh prints them over the translation b3c5100b5d10d631… (all of the seat's roots in one cut). By AI agents, Wed Nov 11 2026. No macro, syntax, notation, axiom, sorry.
-/
import Derived.Test.YthfgojdpnbpjbaaChecked
import GoSem.Claim
import GoSem.ClaimJoined
import GoSem.ClaimMapViews
import Derived.JoinedTies
import Derived.KernelRfl
namespace Go.Proofs.Ythfgojdpnbpjbaa
/- THE CELL 'sum', in the pinned program and in every row, IS THE sha256 OF THE DUMP (.gsa) THAT YthfgojdpnbpjbaaProg.lean LOADS. Nothing in Lean hashes anything: it is a label: what it is worth is what the hold of that sum in a sandbox is worth. -/
noncomputable def Try.pinned : Pinned := { name := "ythfgojdpnbpjbaa", sum := "b3c5100b5d10d631c42893c50e36dc7ead12a5d01c368ffecad675b6709e70de", checked := Try.checked }
namespace Rows
def none {H : Type} : Left H := { results := [], args := [] }

/-- 'oxbowlaw13.SinkPlays': WHATEVER THE INPUT: true; the input reads as it did. -/
def sinkPlaysSpec : ChangeSpec := { name := "sinkPlays", fn := fun _ => fun
  | [d] => { results := [.lit (.bool true)], args := [d] }
  | _ => none }
def sinkPlaysRow : OpenClaim := { program := "ythfgojdpnbpjbaa", sum := "b3c5100b5d10d631c42893c50e36dc7ead12a5d01c368ffecad675b6709e70de", func := "oxbow/oxbowlaw13.SinkPlays", spec := "sinkPlays", apart := false }
def SinkPlaysSaid : Prop := sinkPlaysRow.holds Try.pinned (OpenSpec.ofChange sinkPlaysSpec)

/-- ITS FALSE NEIGHBOUR: 'it returns false'. Refute it at one input. -/
def sinkPlaysWrong : ChangeSpec := { name := "sinkPlays", fn := fun _ => fun
  | [d] => { results := [.lit (.bool false)], args := [d] }
  | _ => none }
def SinkPlaysWrongFalsely : Prop := sinkPlaysRow.holds Try.pinned (OpenSpec.ofChange sinkPlaysWrong)

/-- 'oxbowlaw13.SinkOnce': WHATEVER THE INPUT: true; the input reads as it did. -/
def sinkOnceSpec : ChangeSpec := { name := "sinkOnce", fn := fun _ => fun
  | [d] => { results := [.lit (.bool true)], args := [d] }
  | _ => none }
def sinkOnceRow : OpenClaim := { program := "ythfgojdpnbpjbaa", sum := "b3c5100b5d10d631c42893c50e36dc7ead12a5d01c368ffecad675b6709e70de", func := "oxbow/oxbowlaw13.SinkOnce", spec := "sinkOnce", apart := false }
def SinkOnceSaid : Prop := sinkOnceRow.holds Try.pinned (OpenSpec.ofChange sinkOnceSpec)

/-- ITS FALSE NEIGHBOUR: 'it returns false'. Refute it at one input. -/
def sinkOnceWrong : ChangeSpec := { name := "sinkOnce", fn := fun _ => fun
  | [d] => { results := [.lit (.bool false)], args := [d] }
  | _ => none }
def SinkOnceWrongFalsely : Prop := sinkOnceRow.holds Try.pinned (OpenSpec.ofChange sinkOnceWrong)

/-- 'oxbowlaw13.SinkCuts': WHATEVER THE INPUT: true; the input reads as it did. -/
def sinkCutsSpec : ChangeSpec := { name := "sinkCuts", fn := fun _ => fun
  | [d1, d2, d3, d4] => { results := [.lit (.bool true)], args := [d1, d2, d3, d4] }
  | _ => none }
def sinkCutsRow : OpenClaim := { program := "ythfgojdpnbpjbaa", sum := "b3c5100b5d10d631c42893c50e36dc7ead12a5d01c368ffecad675b6709e70de", func := "oxbow/oxbowlaw13.SinkCuts", spec := "sinkCuts", apart := false }
def SinkCutsSaid : Prop := sinkCutsRow.holds Try.pinned (OpenSpec.ofChange sinkCutsSpec)

/-- ITS FALSE NEIGHBOUR: 'it returns false'. Refute it at one input. -/
def sinkCutsWrong : ChangeSpec := { name := "sinkCuts", fn := fun _ => fun
  | [d1, d2, d3, d4] => { results := [.lit (.bool false)], args := [d1, d2, d3, d4] }
  | _ => none }
def SinkCutsWrongFalsely : Prop := sinkCutsRow.holds Try.pinned (OpenSpec.ofChange sinkCutsWrong)

/-- 'oxbowlaw13.SinkCommits': WHATEVER THE INPUT: true; the input reads as it did. -/
def sinkCommitsSpec : ChangeSpec := { name := "sinkCommits", fn := fun _ => fun
  | [d1, d2] => { results := [.lit (.bool true)], args := [d1, d2] }
  | _ => none }
def sinkCommitsRow : OpenClaim := { program := "ythfgojdpnbpjbaa", sum := "b3c5100b5d10d631c42893c50e36dc7ead12a5d01c368ffecad675b6709e70de", func := "oxbow/oxbowlaw13.SinkCommits", spec := "sinkCommits", apart := false }
def SinkCommitsSaid : Prop := sinkCommitsRow.holds Try.pinned (OpenSpec.ofChange sinkCommitsSpec)

/-- ITS FALSE NEIGHBOUR: 'it returns false'. Refute it at one input. -/
def sinkCommitsWrong : ChangeSpec := { name := "sinkCommits", fn := fun _ => fun
  | [d1, d2] => { results := [.lit (.bool false)], args := [d1, d2] }
  | _ => none }
def SinkCommitsWrongFalsely : Prop := sinkCommitsRow.holds Try.pinned (OpenSpec.ofChange sinkCommitsWrong)

/-- 'oxbowlaw13.SinkKnown': WHATEVER THE INPUT: true; the input reads as it did. -/
def sinkKnownSpec : ChangeSpec := { name := "sinkKnown", fn := fun _ => fun
  | [] => { results := [.lit (.bool true)], args := [] }
  | _ => none }
def sinkKnownRow : OpenClaim := { program := "ythfgojdpnbpjbaa", sum := "b3c5100b5d10d631c42893c50e36dc7ead12a5d01c368ffecad675b6709e70de", func := "oxbow/oxbowlaw13.SinkKnown", spec := "sinkKnown", apart := false }
def SinkKnownSaid : Prop := sinkKnownRow.holds Try.pinned (OpenSpec.ofChange sinkKnownSpec)

/-- ITS FALSE NEIGHBOUR: 'it returns false'. Refute it at one input. -/
def sinkKnownWrong : ChangeSpec := { name := "sinkKnown", fn := fun _ => fun
  | [] => { results := [.lit (.bool false)], args := [] }
  | _ => none }
def SinkKnownWrongFalsely : Prop := sinkKnownRow.holds Try.pinned (OpenSpec.ofChange sinkKnownWrong)

/- THE SECOND FORM. 'bulk': how many values and letters a reading holds, each counted each time it is reached (what is shared counts as often as it is met; a slice's spare places count too). A statement '..UptoSaid' is the law's where the arguments, and the package variables that the reading takes, are together of bulk at most 1048576: NARROWER than '..Said'. Prove '..Said' where nothing that the law and all that it calls make is longer than what came in: it says more and counts as full. Else prove '..UptoSaid'. A law counts once. -/
mutual
def uptoBulk {H : Type} : DataW H → Nat
  | .lit (.string bytes) => bytes.length + 1
  | .lit _ => 1
  | .nil => 1
  | .ptr d => uptoBulk d + 1
  | .slice elems spare => uptoBulkAll elems + uptoBulkAll spare + 1
  | .agg parts => uptoBulkAll parts + 1
  | .iface _ d => uptoBulk d + 1
  | .map entries => uptoBulkEntries entries + 1
  | .held _ => 1
def uptoBulkAll {H : Type} : List (DataW H) → Nat
  | [] => 0
  | d :: r => uptoBulk d + uptoBulkAll r
def uptoBulkEntries {H : Type} : List (Lit × DataW H) → Nat
  | [] => 0
  | x :: r => uptoBulkEntry x + uptoBulkEntries r
def uptoBulkEntry {H : Type} : Lit × DataW H → Nat
  | (.string bytes, d) => bytes.length + uptoBulk d + 1
  | (_, d) => uptoBulk d + 1
 end
def uptoSmall : (H : Type) → List (DataW H) → Bool := fun _ ds => decide (uptoBulkAll ds ≤ 1048576)
def OpenSpec.upto (s : _root_.Go.ChangeSpec) : _root_.Go.OpenSpec := { _root_.Go.OpenSpec.ofChange s with cond := some uptoSmall }

/-- 'oxbowlaw13.SinkPlays', WHERE WHAT IT READS IS OF BULK AT MOST 1048576: true; the input reads as it did. -/
def sinkPlaysUptoRow : OpenClaim := { program := "ythfgojdpnbpjbaa", sum := "b3c5100b5d10d631c42893c50e36dc7ead12a5d01c368ffecad675b6709e70de", func := "oxbow/oxbowlaw13.SinkPlays", spec := "sinkPlays", apart := false, narrowed := true }
def SinkPlaysUptoSaid : Prop := sinkPlaysUptoRow.holds Try.pinned (OpenSpec.upto sinkPlaysSpec)

/-- 'oxbowlaw13.SinkOnce', WHERE WHAT IT READS IS OF BULK AT MOST 1048576: true; the input reads as it did. -/
def sinkOnceUptoRow : OpenClaim := { program := "ythfgojdpnbpjbaa", sum := "b3c5100b5d10d631c42893c50e36dc7ead12a5d01c368ffecad675b6709e70de", func := "oxbow/oxbowlaw13.SinkOnce", spec := "sinkOnce", apart := false, narrowed := true }
def SinkOnceUptoSaid : Prop := sinkOnceUptoRow.holds Try.pinned (OpenSpec.upto sinkOnceSpec)

/-- 'oxbowlaw13.SinkCuts', WHERE WHAT IT READS IS OF BULK AT MOST 1048576: true; the input reads as it did. -/
def sinkCutsUptoRow : OpenClaim := { program := "ythfgojdpnbpjbaa", sum := "b3c5100b5d10d631c42893c50e36dc7ead12a5d01c368ffecad675b6709e70de", func := "oxbow/oxbowlaw13.SinkCuts", spec := "sinkCuts", apart := false, narrowed := true }
def SinkCutsUptoSaid : Prop := sinkCutsUptoRow.holds Try.pinned (OpenSpec.upto sinkCutsSpec)

/-- 'oxbowlaw13.SinkCommits', WHERE WHAT IT READS IS OF BULK AT MOST 1048576: true; the input reads as it did. -/
def sinkCommitsUptoRow : OpenClaim := { program := "ythfgojdpnbpjbaa", sum := "b3c5100b5d10d631c42893c50e36dc7ead12a5d01c368ffecad675b6709e70de", func := "oxbow/oxbowlaw13.SinkCommits", spec := "sinkCommits", apart := false, narrowed := true }
def SinkCommitsUptoSaid : Prop := sinkCommitsUptoRow.holds Try.pinned (OpenSpec.upto sinkCommitsSpec)

/-- 'oxbowlaw13.SinkKnown', WHERE WHAT IT READS IS OF BULK AT MOST 1048576: true; the input reads as it did. -/
def sinkKnownUptoRow : OpenClaim := { program := "ythfgojdpnbpjbaa", sum := "b3c5100b5d10d631c42893c50e36dc7ead12a5d01c368ffecad675b6709e70de", func := "oxbow/oxbowlaw13.SinkKnown", spec := "sinkKnown", apart := false, narrowed := true }
def SinkKnownUptoSaid : Prop := sinkKnownUptoRow.holds Try.pinned (OpenSpec.upto sinkKnownSpec)

end Rows
end Go.Proofs.Ythfgojdpnbpjbaa
