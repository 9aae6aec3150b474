/-
  No cell of these rows narrows 'for every input' (looked for: loops, veiled, ifaces, maps, wideKeys, modest, calm, conditions, laid).
  DERIVED. THE GIVEN ROWS OF THIS SEAT. 5 by the template 'for every input the law returns true; each argument reads behind the call as it read before'; 0 by the template 'total and deterministic' (their statements: YtnfngaapjodpcaaTotals.lean).
  GIVEN WITH THE SEED: the statements are not yours to turn. If you find one false, say at which input.
  Laid BY PROGRAM, IN A SANDBOX (cutbox-rows.mjs): the forced cells as the released guide's own fill.sh prints them over the translation c5bdae59b75cd24e… (all of the seat's roots in one cut). By AI agents, Wed Nov 11 2026. No macro, syntax, notation, axiom, sorry.
-/
import Derived.Test.YtnfngaapjodpcaaChecked
import GoSem.Claim
import GoSem.ClaimJoined
import GoSem.ClaimMapViews
import Derived.JoinedTies
import Derived.KernelRfl
namespace Go.Proofs.Ytnfngaapjodpcaa
/- THE CELL 'sum', in the pinned program and in every row, IS THE sha256 OF THE DUMP (.gsa) THAT YtnfngaapjodpcaaProg.lean LOADS. Nothing in Lean hashes anything: it is a label: what it is worth is what the hold of that sum in a sandbox is worth. -/
noncomputable def Try.pinned : Pinned := { name := "ytnfngaapjodpcaa", sum := "c5bdae59b75cd24e25ff2fc595f7791d54764c0863256829f4d552d29d1b4797", checked := Try.checked }
namespace Rows
def none {H : Type} : Left H := { results := [], args := [] }

/-- 'oxbowlaw20.RouteTells': WHATEVER THE INPUT: true; the input reads as it did. -/
def routeTellsSpec : ChangeSpec := { name := "routeTells", fn := fun _ => fun
  | [d1, d2, d3, d4] => { results := [.lit (.bool true)], args := [d1, d2, d3, d4] }
  | _ => none }
def routeTellsRow : OpenClaim := { program := "ytnfngaapjodpcaa", sum := "c5bdae59b75cd24e25ff2fc595f7791d54764c0863256829f4d552d29d1b4797", func := "oxbow/oxbowlaw20.RouteTells", spec := "routeTells", unfollowed := true, recurses := true, apart := false }
def RouteTellsSaid : Prop := routeTellsRow.holds Try.pinned (OpenSpec.ofChange routeTellsSpec)

/-- ITS FALSE NEIGHBOUR: 'it returns false'. Refute it at one input. -/
def routeTellsWrong : ChangeSpec := { name := "routeTells", fn := fun _ => fun
  | [d1, d2, d3, d4] => { results := [.lit (.bool false)], args := [d1, d2, d3, d4] }
  | _ => none }
def RouteTellsWrongFalsely : Prop := routeTellsRow.holds Try.pinned (OpenSpec.ofChange routeTellsWrong)

/-- 'oxbowlaw20.RouteOneWay': WHATEVER THE INPUT: true; the input reads as it did. -/
def routeOneWaySpec : ChangeSpec := { name := "routeOneWay", fn := fun _ => fun
  | [d1, d2, d3, d4, d5] => { results := [.lit (.bool true)], args := [d1, d2, d3, d4, d5] }
  | _ => none }
def routeOneWayRow : OpenClaim := { program := "ytnfngaapjodpcaa", sum := "c5bdae59b75cd24e25ff2fc595f7791d54764c0863256829f4d552d29d1b4797", func := "oxbow/oxbowlaw20.RouteOneWay", spec := "routeOneWay", unfollowed := true, recurses := true, apart := false }
def RouteOneWaySaid : Prop := routeOneWayRow.holds Try.pinned (OpenSpec.ofChange routeOneWaySpec)

/-- ITS FALSE NEIGHBOUR: 'it returns false'. Refute it at one input. -/
def routeOneWayWrong : ChangeSpec := { name := "routeOneWay", fn := fun _ => fun
  | [d1, d2, d3, d4, d5] => { results := [.lit (.bool false)], args := [d1, d2, d3, d4, d5] }
  | _ => none }
def RouteOneWayWrongFalsely : Prop := routeOneWayRow.holds Try.pinned (OpenSpec.ofChange routeOneWayWrong)

/-- 'oxbowlaw20.RouteAlike': WHATEVER THE INPUT: true; the input reads as it did. -/
def routeAlikeSpec : ChangeSpec := { name := "routeAlike", fn := fun _ => fun
  | [d1, d2, d3, d4, d5] => { results := [.lit (.bool true)], args := [d1, d2, d3, d4, d5] }
  | _ => none }
def routeAlikeRow : OpenClaim := { program := "ytnfngaapjodpcaa", sum := "c5bdae59b75cd24e25ff2fc595f7791d54764c0863256829f4d552d29d1b4797", func := "oxbow/oxbowlaw20.RouteAlike", spec := "routeAlike", unfollowed := true, recurses := true, apart := false }
def RouteAlikeSaid : Prop := routeAlikeRow.holds Try.pinned (OpenSpec.ofChange routeAlikeSpec)

/-- ITS FALSE NEIGHBOUR: 'it returns false'. Refute it at one input. -/
def routeAlikeWrong : ChangeSpec := { name := "routeAlike", fn := fun _ => fun
  | [d1, d2, d3, d4, d5] => { results := [.lit (.bool false)], args := [d1, d2, d3, d4, d5] }
  | _ => none }
def RouteAlikeWrongFalsely : Prop := routeAlikeRow.holds Try.pinned (OpenSpec.ofChange routeAlikeWrong)

/-- 'oxbowlaw20.RouteHalves': WHATEVER THE INPUT: true; the input reads as it did. -/
def routeHalvesSpec : ChangeSpec := { name := "routeHalves", fn := fun _ => fun
  | [d1, d2, d3, d4] => { results := [.lit (.bool true)], args := [d1, d2, d3, d4] }
  | _ => none }
def routeHalvesRow : OpenClaim := { program := "ytnfngaapjodpcaa", sum := "c5bdae59b75cd24e25ff2fc595f7791d54764c0863256829f4d552d29d1b4797", func := "oxbow/oxbowlaw20.RouteHalves", spec := "routeHalves", unfollowed := true, recurses := true, apart := false }
def RouteHalvesSaid : Prop := routeHalvesRow.holds Try.pinned (OpenSpec.ofChange routeHalvesSpec)

/-- ITS FALSE NEIGHBOUR: 'it returns false'. Refute it at one input. -/
def routeHalvesWrong : ChangeSpec := { name := "routeHalves", fn := fun _ => fun
  | [d1, d2, d3, d4] => { results := [.lit (.bool false)], args := [d1, d2, d3, d4] }
  | _ => none }
def RouteHalvesWrongFalsely : Prop := routeHalvesRow.holds Try.pinned (OpenSpec.ofChange routeHalvesWrong)

/-- 'oxbowlaw20.RouteKnown': WHATEVER THE INPUT: true; the input reads as it did. -/
def routeKnownSpec : ChangeSpec := { name := "routeKnown", fn := fun _ => fun
  | [] => { results := [.lit (.bool true)], args := [] }
  | _ => none }
def routeKnownRow : OpenClaim := { program := "ytnfngaapjodpcaa", sum := "c5bdae59b75cd24e25ff2fc595f7791d54764c0863256829f4d552d29d1b4797", func := "oxbow/oxbowlaw20.RouteKnown", spec := "routeKnown", unfollowed := true, recurses := true, apart := false }
def RouteKnownSaid : Prop := routeKnownRow.holds Try.pinned (OpenSpec.ofChange routeKnownSpec)

/-- ITS FALSE NEIGHBOUR: 'it returns false'. Refute it at one input. -/
def routeKnownWrong : ChangeSpec := { name := "routeKnown", fn := fun _ => fun
  | [] => { results := [.lit (.bool false)], args := [] }
  | _ => none }
def RouteKnownWrongFalsely : Prop := routeKnownRow.holds Try.pinned (OpenSpec.ofChange routeKnownWrong)

/- THE SECOND FORM. 'bulk': how many values and letters a reading holds, each counted each time it is reached (what is shared counts as often as it is met; a slice's spare places count too). A statement '..UptoSaid' is the law's where the arguments, and the package variables that the reading takes, are together of bulk at most 1048576: NARROWER than '..Said'. Prove '..Said' where nothing that the law and all that it calls make is longer than what came in: it says more and counts as full. Else prove '..UptoSaid'. A law counts once. -/
mutual
def uptoBulk {H : Type} : DataW H → Nat
  | .lit (.string bytes) => bytes.length + 1
  | .lit _ => 1
  | .nil => 1
  | .ptr d => uptoBulk d + 1
  | .slice elems spare => uptoBulkAll elems + uptoBulkAll spare + 1
  | .agg parts => uptoBulkAll parts + 1
  | .iface _ d => uptoBulk d + 1
  | .map entries => uptoBulkEntries entries + 1
  | .held _ => 1
def uptoBulkAll {H : Type} : List (DataW H) → Nat
  | [] => 0
  | d :: r => uptoBulk d + uptoBulkAll r
def uptoBulkEntries {H : Type} : List (Lit × DataW H) → Nat
  | [] => 0
  | x :: r => uptoBulkEntry x + uptoBulkEntries r
def uptoBulkEntry {H : Type} : Lit × DataW H → Nat
  | (.string bytes, d) => bytes.length + uptoBulk d + 1
  | (_, d) => uptoBulk d + 1
 end
def uptoSmall : (H : Type) → List (DataW H) → Bool := fun _ ds => decide (uptoBulkAll ds ≤ 1048576)
def OpenSpec.upto (s : _root_.Go.ChangeSpec) : _root_.Go.OpenSpec := { _root_.Go.OpenSpec.ofChange s with cond := some uptoSmall }

/-- 'oxbowlaw20.RouteTells', WHERE WHAT IT READS IS OF BULK AT MOST 1048576: true; the input reads as it did. -/
def routeTellsUptoRow : OpenClaim := { program := "ytnfngaapjodpcaa", sum := "c5bdae59b75cd24e25ff2fc595f7791d54764c0863256829f4d552d29d1b4797", func := "oxbow/oxbowlaw20.RouteTells", spec := "routeTells", unfollowed := true, recurses := true, apart := false, narrowed := true }
def RouteTellsUptoSaid : Prop := routeTellsUptoRow.holds Try.pinned (OpenSpec.upto routeTellsSpec)

/-- 'oxbowlaw20.RouteOneWay', WHERE WHAT IT READS IS OF BULK AT MOST 1048576: true; the input reads as it did. -/
def routeOneWayUptoRow : OpenClaim := { program := "ytnfngaapjodpcaa", sum := "c5bdae59b75cd24e25ff2fc595f7791d54764c0863256829f4d552d29d1b4797", func := "oxbow/oxbowlaw20.RouteOneWay", spec := "routeOneWay", unfollowed := true, recurses := true, apart := false, narrowed := true }
def RouteOneWayUptoSaid : Prop := routeOneWayUptoRow.holds Try.pinned (OpenSpec.upto routeOneWaySpec)

/-- 'oxbowlaw20.RouteAlike', WHERE WHAT IT READS IS OF BULK AT MOST 1048576: true; the input reads as it did. -/
def routeAlikeUptoRow : OpenClaim := { program := "ytnfngaapjodpcaa", sum := "c5bdae59b75cd24e25ff2fc595f7791d54764c0863256829f4d552d29d1b4797", func := "oxbow/oxbowlaw20.RouteAlike", spec := "routeAlike", unfollowed := true, recurses := true, apart := false, narrowed := true }
def RouteAlikeUptoSaid : Prop := routeAlikeUptoRow.holds Try.pinned (OpenSpec.upto routeAlikeSpec)

/-- 'oxbowlaw20.RouteHalves', WHERE WHAT IT READS IS OF BULK AT MOST 1048576: true; the input reads as it did. -/
def routeHalvesUptoRow : OpenClaim := { program := "ytnfngaapjodpcaa", sum := "c5bdae59b75cd24e25ff2fc595f7791d54764c0863256829f4d552d29d1b4797", func := "oxbow/oxbowlaw20.RouteHalves", spec := "routeHalves", unfollowed := true, recurses := true, apart := false, narrowed := true }
def RouteHalvesUptoSaid : Prop := routeHalvesUptoRow.holds Try.pinned (OpenSpec.upto routeHalvesSpec)

/-- 'oxbowlaw20.RouteKnown', WHERE WHAT IT READS IS OF BULK AT MOST 1048576: true; the input reads as it did. -/
def routeKnownUptoRow : OpenClaim := { program := "ytnfngaapjodpcaa", sum := "c5bdae59b75cd24e25ff2fc595f7791d54764c0863256829f4d552d29d1b4797", func := "oxbow/oxbowlaw20.RouteKnown", spec := "routeKnown", unfollowed := true, recurses := true, apart := false, narrowed := true }
def RouteKnownUptoSaid : Prop := routeKnownUptoRow.holds Try.pinned (OpenSpec.upto routeKnownSpec)

end Rows
end Go.Proofs.Ytnfngaapjodpcaa
