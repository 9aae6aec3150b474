/-
  No cell of these rows narrows 'for every input' (looked for: loops, veiled, ifaces, maps, wideKeys, modest, calm, conditions, laid).
  DERIVED. THE GIVEN ROWS OF THIS SEAT. 7 by the template 'for every input the law returns true; each argument reads behind the call as it read before'; 0 by the template 'total and deterministic' (their statements: YtfpnbeikaannaaaTotals.lean).
  GIVEN WITH THE SEED: the statements are not yours to turn. If you find one false, say at which input.
  Laid BY PROGRAM, IN A SANDBOX (cutbox-rows.mjs): the forced cells as the released guide's own fill.sh prints them over the translation 1e279feb094f34c6… (all of the seat's roots in one cut). By AI agents, Wed Nov 11 2026. No macro, syntax, notation, axiom, sorry.
-/
import Derived.Test.YtfpnbeikaannaaaChecked
import GoSem.Claim
import GoSem.ClaimJoined
import GoSem.ClaimMapViews
import Derived.JoinedTies
import Derived.KernelRfl
namespace Go.Proofs.Ytfpnbeikaannaaa
/- THE CELL 'sum', in the pinned program and in every row, IS THE sha256 OF THE DUMP (.gsa) THAT YtfpnbeikaannaaaProg.lean LOADS. Nothing in Lean hashes anything: it is a label: what it is worth is what the hold of that sum in a sandbox is worth. -/
noncomputable def Try.pinned : Pinned := { name := "ytfpnbeikaannaaa", sum := "1e279feb094f34c65ff2c02841b744f4448d9ecbb34ad0ab099296102303e3aa", checked := Try.checked }
namespace Rows
def none {H : Type} : Left H := { results := [], args := [] }

/-- 'oxbowlaw08.GroupTells': WHATEVER THE INPUT: true; the input reads as it did. -/
def groupTellsSpec : ChangeSpec := { name := "groupTells", fn := fun _ => fun
  | [d1, d2, d3, d4] => { results := [.lit (.bool true)], args := [d1, d2, d3, d4] }
  | _ => none }
def groupTellsRow : OpenClaim := { program := "ytfpnbeikaannaaa", sum := "1e279feb094f34c65ff2c02841b744f4448d9ecbb34ad0ab099296102303e3aa", func := "oxbow/oxbowlaw08.GroupTells", spec := "groupTells", apart := false }
def GroupTellsSaid : Prop := groupTellsRow.holds Try.pinned (OpenSpec.ofChange groupTellsSpec)

/-- ITS FALSE NEIGHBOUR: 'it returns false'. Refute it at one input. -/
def groupTellsWrong : ChangeSpec := { name := "groupTells", fn := fun _ => fun
  | [d1, d2, d3, d4] => { results := [.lit (.bool false)], args := [d1, d2, d3, d4] }
  | _ => none }
def GroupTellsWrongFalsely : Prop := groupTellsRow.holds Try.pinned (OpenSpec.ofChange groupTellsWrong)

/-- 'oxbowlaw08.GroupParts': WHATEVER THE INPUT: true; the input reads as it did. -/
def groupPartsSpec : ChangeSpec := { name := "groupParts", fn := fun _ => fun
  | [d1, d2] => { results := [.lit (.bool true)], args := [d1, d2] }
  | _ => none }
def groupPartsRow : OpenClaim := { program := "ytfpnbeikaannaaa", sum := "1e279feb094f34c65ff2c02841b744f4448d9ecbb34ad0ab099296102303e3aa", func := "oxbow/oxbowlaw08.GroupParts", spec := "groupParts", apart := false }
def GroupPartsSaid : Prop := groupPartsRow.holds Try.pinned (OpenSpec.ofChange groupPartsSpec)

/-- ITS FALSE NEIGHBOUR: 'it returns false'. Refute it at one input. -/
def groupPartsWrong : ChangeSpec := { name := "groupParts", fn := fun _ => fun
  | [d1, d2] => { results := [.lit (.bool false)], args := [d1, d2] }
  | _ => none }
def GroupPartsWrongFalsely : Prop := groupPartsRow.holds Try.pinned (OpenSpec.ofChange groupPartsWrong)

/-- 'oxbowlaw08.GroupIn': WHATEVER THE INPUT: true; the input reads as it did. -/
def groupInSpec : ChangeSpec := { name := "groupIn", fn := fun _ => fun
  | [d1, d2] => { results := [.lit (.bool true)], args := [d1, d2] }
  | _ => none }
def groupInRow : OpenClaim := { program := "ytfpnbeikaannaaa", sum := "1e279feb094f34c65ff2c02841b744f4448d9ecbb34ad0ab099296102303e3aa", func := "oxbow/oxbowlaw08.GroupIn", spec := "groupIn", apart := false }
def GroupInSaid : Prop := groupInRow.holds Try.pinned (OpenSpec.ofChange groupInSpec)

/-- ITS FALSE NEIGHBOUR: 'it returns false'. Refute it at one input. -/
def groupInWrong : ChangeSpec := { name := "groupIn", fn := fun _ => fun
  | [d1, d2] => { results := [.lit (.bool false)], args := [d1, d2] }
  | _ => none }
def GroupInWrongFalsely : Prop := groupInRow.holds Try.pinned (OpenSpec.ofChange groupInWrong)

/-- 'oxbowlaw08.GroupRises': WHATEVER THE INPUT: true; the input reads as it did. -/
def groupRisesSpec : ChangeSpec := { name := "groupRises", fn := fun _ => fun
  | [d1, d2, d3] => { results := [.lit (.bool true)], args := [d1, d2, d3] }
  | _ => none }
def groupRisesRow : OpenClaim := { program := "ytfpnbeikaannaaa", sum := "1e279feb094f34c65ff2c02841b744f4448d9ecbb34ad0ab099296102303e3aa", func := "oxbow/oxbowlaw08.GroupRises", spec := "groupRises", apart := false }
def GroupRisesSaid : Prop := groupRisesRow.holds Try.pinned (OpenSpec.ofChange groupRisesSpec)

/-- ITS FALSE NEIGHBOUR: 'it returns false'. Refute it at one input. -/
def groupRisesWrong : ChangeSpec := { name := "groupRises", fn := fun _ => fun
  | [d1, d2, d3] => { results := [.lit (.bool false)], args := [d1, d2, d3] }
  | _ => none }
def GroupRisesWrongFalsely : Prop := groupRisesRow.holds Try.pinned (OpenSpec.ofChange groupRisesWrong)

/-- 'oxbowlaw08.GroupHalves': WHATEVER THE INPUT: true; the input reads as it did. -/
def groupHalvesSpec : ChangeSpec := { name := "groupHalves", fn := fun _ => fun
  | [d1, d2, d3] => { results := [.lit (.bool true)], args := [d1, d2, d3] }
  | _ => none }
def groupHalvesRow : OpenClaim := { program := "ytfpnbeikaannaaa", sum := "1e279feb094f34c65ff2c02841b744f4448d9ecbb34ad0ab099296102303e3aa", func := "oxbow/oxbowlaw08.GroupHalves", spec := "groupHalves", apart := false }
def GroupHalvesSaid : Prop := groupHalvesRow.holds Try.pinned (OpenSpec.ofChange groupHalvesSpec)

/-- ITS FALSE NEIGHBOUR: 'it returns false'. Refute it at one input. -/
def groupHalvesWrong : ChangeSpec := { name := "groupHalves", fn := fun _ => fun
  | [d1, d2, d3] => { results := [.lit (.bool false)], args := [d1, d2, d3] }
  | _ => none }
def GroupHalvesWrongFalsely : Prop := groupHalvesRow.holds Try.pinned (OpenSpec.ofChange groupHalvesWrong)

/-- 'oxbowlaw08.GroupOwns': WHATEVER THE INPUT: true; the input reads as it did. -/
def groupOwnsSpec : ChangeSpec := { name := "groupOwns", fn := fun _ => fun
  | [d1, d2, d3] => { results := [.lit (.bool true)], args := [d1, d2, d3] }
  | _ => none }
def groupOwnsRow : OpenClaim := { program := "ytfpnbeikaannaaa", sum := "1e279feb094f34c65ff2c02841b744f4448d9ecbb34ad0ab099296102303e3aa", func := "oxbow/oxbowlaw08.GroupOwns", spec := "groupOwns", apart := false }
def GroupOwnsSaid : Prop := groupOwnsRow.holds Try.pinned (OpenSpec.ofChange groupOwnsSpec)

/-- ITS FALSE NEIGHBOUR: 'it returns false'. Refute it at one input. -/
def groupOwnsWrong : ChangeSpec := { name := "groupOwns", fn := fun _ => fun
  | [d1, d2, d3] => { results := [.lit (.bool false)], args := [d1, d2, d3] }
  | _ => none }
def GroupOwnsWrongFalsely : Prop := groupOwnsRow.holds Try.pinned (OpenSpec.ofChange groupOwnsWrong)

/-- 'oxbowlaw08.GroupKnown': WHATEVER THE INPUT: true; the input reads as it did. -/
def groupKnownSpec : ChangeSpec := { name := "groupKnown", fn := fun _ => fun
  | [] => { results := [.lit (.bool true)], args := [] }
  | _ => none }
def groupKnownRow : OpenClaim := { program := "ytfpnbeikaannaaa", sum := "1e279feb094f34c65ff2c02841b744f4448d9ecbb34ad0ab099296102303e3aa", func := "oxbow/oxbowlaw08.GroupKnown", spec := "groupKnown", apart := false }
def GroupKnownSaid : Prop := groupKnownRow.holds Try.pinned (OpenSpec.ofChange groupKnownSpec)

/-- ITS FALSE NEIGHBOUR: 'it returns false'. Refute it at one input. -/
def groupKnownWrong : ChangeSpec := { name := "groupKnown", fn := fun _ => fun
  | [] => { results := [.lit (.bool false)], args := [] }
  | _ => none }
def GroupKnownWrongFalsely : Prop := groupKnownRow.holds Try.pinned (OpenSpec.ofChange groupKnownWrong)

/- THE SECOND FORM. 'bulk': how many values and letters a reading holds, each counted each time it is reached (what is shared counts as often as it is met; a slice's spare places count too). A statement '..UptoSaid' is the law's where the arguments, and the package variables that the reading takes, are together of bulk at most 1048576: NARROWER than '..Said'. Prove '..Said' where nothing that the law and all that it calls make is longer than what came in: it says more and counts as full. Else prove '..UptoSaid'. A law counts once. -/
mutual
def uptoBulk {H : Type} : DataW H → Nat
  | .lit (.string bytes) => bytes.length + 1
  | .lit _ => 1
  | .nil => 1
  | .ptr d => uptoBulk d + 1
  | .slice elems spare => uptoBulkAll elems + uptoBulkAll spare + 1
  | .agg parts => uptoBulkAll parts + 1
  | .iface _ d => uptoBulk d + 1
  | .map entries => uptoBulkEntries entries + 1
  | .held _ => 1
def uptoBulkAll {H : Type} : List (DataW H) → Nat
  | [] => 0
  | d :: r => uptoBulk d + uptoBulkAll r
def uptoBulkEntries {H : Type} : List (Lit × DataW H) → Nat
  | [] => 0
  | x :: r => uptoBulkEntry x + uptoBulkEntries r
def uptoBulkEntry {H : Type} : Lit × DataW H → Nat
  | (.string bytes, d) => bytes.length + uptoBulk d + 1
  | (_, d) => uptoBulk d + 1
 end
def uptoSmall : (H : Type) → List (DataW H) → Bool := fun _ ds => decide (uptoBulkAll ds ≤ 1048576)
def OpenSpec.upto (s : _root_.Go.ChangeSpec) : _root_.Go.OpenSpec := { _root_.Go.OpenSpec.ofChange s with cond := some uptoSmall }

/-- 'oxbowlaw08.GroupTells', WHERE WHAT IT READS IS OF BULK AT MOST 1048576: true; the input reads as it did. -/
def groupTellsUptoRow : OpenClaim := { program := "ytfpnbeikaannaaa", sum := "1e279feb094f34c65ff2c02841b744f4448d9ecbb34ad0ab099296102303e3aa", func := "oxbow/oxbowlaw08.GroupTells", spec := "groupTells", apart := false, narrowed := true }
def GroupTellsUptoSaid : Prop := groupTellsUptoRow.holds Try.pinned (OpenSpec.upto groupTellsSpec)

/-- 'oxbowlaw08.GroupParts', WHERE WHAT IT READS IS OF BULK AT MOST 1048576: true; the input reads as it did. -/
def groupPartsUptoRow : OpenClaim := { program := "ytfpnbeikaannaaa", sum := "1e279feb094f34c65ff2c02841b744f4448d9ecbb34ad0ab099296102303e3aa", func := "oxbow/oxbowlaw08.GroupParts", spec := "groupParts", apart := false, narrowed := true }
def GroupPartsUptoSaid : Prop := groupPartsUptoRow.holds Try.pinned (OpenSpec.upto groupPartsSpec)

/-- 'oxbowlaw08.GroupIn', WHERE WHAT IT READS IS OF BULK AT MOST 1048576: true; the input reads as it did. -/
def groupInUptoRow : OpenClaim := { program := "ytfpnbeikaannaaa", sum := "1e279feb094f34c65ff2c02841b744f4448d9ecbb34ad0ab099296102303e3aa", func := "oxbow/oxbowlaw08.GroupIn", spec := "groupIn", apart := false, narrowed := true }
def GroupInUptoSaid : Prop := groupInUptoRow.holds Try.pinned (OpenSpec.upto groupInSpec)

/-- 'oxbowlaw08.GroupRises', WHERE WHAT IT READS IS OF BULK AT MOST 1048576: true; the input reads as it did. -/
def groupRisesUptoRow : OpenClaim := { program := "ytfpnbeikaannaaa", sum := "1e279feb094f34c65ff2c02841b744f4448d9ecbb34ad0ab099296102303e3aa", func := "oxbow/oxbowlaw08.GroupRises", spec := "groupRises", apart := false, narrowed := true }
def GroupRisesUptoSaid : Prop := groupRisesUptoRow.holds Try.pinned (OpenSpec.upto groupRisesSpec)

/-- 'oxbowlaw08.GroupHalves', WHERE WHAT IT READS IS OF BULK AT MOST 1048576: true; the input reads as it did. -/
def groupHalvesUptoRow : OpenClaim := { program := "ytfpnbeikaannaaa", sum := "1e279feb094f34c65ff2c02841b744f4448d9ecbb34ad0ab099296102303e3aa", func := "oxbow/oxbowlaw08.GroupHalves", spec := "groupHalves", apart := false, narrowed := true }
def GroupHalvesUptoSaid : Prop := groupHalvesUptoRow.holds Try.pinned (OpenSpec.upto groupHalvesSpec)

/-- 'oxbowlaw08.GroupOwns', WHERE WHAT IT READS IS OF BULK AT MOST 1048576: true; the input reads as it did. -/
def groupOwnsUptoRow : OpenClaim := { program := "ytfpnbeikaannaaa", sum := "1e279feb094f34c65ff2c02841b744f4448d9ecbb34ad0ab099296102303e3aa", func := "oxbow/oxbowlaw08.GroupOwns", spec := "groupOwns", apart := false, narrowed := true }
def GroupOwnsUptoSaid : Prop := groupOwnsUptoRow.holds Try.pinned (OpenSpec.upto groupOwnsSpec)

/-- 'oxbowlaw08.GroupKnown', WHERE WHAT IT READS IS OF BULK AT MOST 1048576: true; the input reads as it did. -/
def groupKnownUptoRow : OpenClaim := { program := "ytfpnbeikaannaaa", sum := "1e279feb094f34c65ff2c02841b744f4448d9ecbb34ad0ab099296102303e3aa", func := "oxbow/oxbowlaw08.GroupKnown", spec := "groupKnown", apart := false, narrowed := true }
def GroupKnownUptoSaid : Prop := groupKnownUptoRow.holds Try.pinned (OpenSpec.upto groupKnownSpec)

end Rows
end Go.Proofs.Ytfpnbeikaannaaa
