/-
  Layer 2: what the table's datum gives.
-/
import Derived.Test.YtglokmbhpmamcaaDoorHB
import Derived.Test.YtglokmbhpmamcaaDoorRows
import Derived.LaidMore
import Derived.OpenShut
import Derived.Stop.Joined
import Derived.ProofKit
namespace Go.Proofs.YtglokmbhpmamcaaDoor
open Go.Ox
open Go.ChangeShapes Go.WideShapes Go.ChangeAt Go.RowKit
set_option maxRecDepth 100000
set_option maxHeartbeats 4000000
set_option linter.unusedVariables false
set_option linter.unusedSimpArgs false

def nibL : List (String × DataW Unit) := [("oxbow/crc.nibbles", Rows.laid_oxbow_crc_nibbles)]

theorem gNib : Tryd.prog.globalNamed "oxbow/crc.nibbles" = some 0 := by kernel_rfl

theorem tNib : (Tryd.prog.globals[0]?).map (·.type) = some 37 := by kernel_rfl

theorem nib_agg : (Rows.laid_oxbow_crc_nibbles : DataW Unit) = .agg (nibT.map fun n => .lit (.int .u32 n)) := rfl

theorem cell_lt {W : World} {a : Addr} {v : Value} (h : W.cell? a = some v) : a.block < W.heap.size := by
  unfold World.cell? at h
  split at h
  · rename_i hb
    rcases Nat.lt_or_ge a.block W.heap.size with h' | h'
    · exact h'
    · simp [Array.getElem?_eq_none h'] at hb
  · cases h

theorem glob_in {W : World} (h : laidMetH Tryd.prog nibL W) : GlobIn W (fun _ => False) := by
  rw [MakeChecks.laidMetH_plain _ _ _ (by kernel_rfl)] at h
  obtain ⟨ps, ⟨g0, t0, cs0, f0, p0, q0, hg0, ht0, hv0, hd0, _, _⟩, _, _⟩ := h
  obtain rfl := Option.some.inj (gNib.symm.trans hg0)
  obtain rfl := Option.some.inj (tNib.symm.trans ht0)
  obtain ⟨xs, m1, rfl, hx1, hlen, hn, hel⟩ := DataW.trod_array Tryd.underlying37 hd0
  have c1 : Tryd.prog.cellsOf 22 = 1 := by kernel_rfl
  simp only [Prod.mk.injEq, nib_agg, DataW.agg.injEq] at hx1
  have hcell : ∀ i, i < nibT.length → W.cell? ⟨0, i, none⟩ = some (.int .u32 (nibT.getD i 0)) := by
    intro i hi
    have hi16 : i < 16 := hi
    have h1 := hel i hi16
    rw [c1, Nat.mul_one] at h1
    have hxi : i < xs.length := by rw [hn]; exact hi16
    rw [List.getElem?_eq_getElem hxi] at h1
    obtain ⟨n, e1, e2, _⟩ := DataW.trod_int Tryd.underlying22 h1
    have h2 : (nibT.map fun n => (DataW.lit (.int .u32 n) : DataW Unit))[i]? = some xs[i].1 := by
      rw [hx1.1, List.getElem?_map, List.getElem?_eq_getElem hxi]; rfl
    rw [List.getElem?_map, List.getElem?_eq_getElem hi, e2] at h2
    simp only [Option.map_some, Option.some.injEq, DataW.lit.injEq, Lit.int.injEq, true_and] at h2
    rw [World.var?_cell hg0 hv0 i]
    have h3 : cs0.toList[i]? = some (.int .u32 n) := by
      have := congrArg (fun l : List Value => l[0]?) e1
      simpa [List.getElem?_take, List.getElem?_drop] using this
    rw [← Array.getElem?_toList, h3, ← h2]
    simp [List.getD_eq_getElem?_getD, List.getElem?_eq_getElem hi]
  intro g k l hg
  unfold globTab at hg
  split at hg
  · rename_i h0
    subst h0
    simp only [Option.some.injEq, Prod.mk.injEq] at hg
    obtain ⟨rfl, rfl⟩ := hg
    exact ⟨cell_lt (hcell 0 (by decide)), fun h => h, hcell⟩
  · cases hg

/-- The heap that the program's own start leaves meets the condition. -/
theorem door_met (os : Os) (args : Array Value) : laidMetH Tryd.prog nibL ((World.doorLaid Tryd.prog 400 os).forCall (fun _ _ => 0) ⟨#[], args, []⟩).memory :=
  laidMetH_of_parts3 (fuel := 8) (laidMet_of_run' 8 (by kernel_rfl) (by kernel_rfl)) (by kernel_rfl) (by kernel_rfl)

end Go.Proofs.YtglokmbhpmamcaaDoor
