/-
  Lists of pairs of numbers that are appended to; blocks under other numbers.
-/
import Derived.Test.YthfgojdpnbpjbaaHB
import Derived.Test.YthfgojdpnbpjbaaHOxZ
namespace Go.Proofs.Ythfgojdpnbpjbaa
open Go.Ox
set_option maxRecDepth 100000
set_option linter.unusedVariables false
set_option linter.unusedSimpArgs false

theorem apZ_lt {z : Nat → Int} {i j : Nat} (h : j < i) : apZ z i j = z j := if_pos h

theorem apZ_ge {z : Nat → Int} {i j : Nat} (h : ¬ j < i) : apZ z i j = 0 := if_neg h

theorem ap2_first {n : Nat} {ρ : Nat → Nat} {z y : Nat → Int} {x1 x2 : Int} {j : Nat} (h1 : x1 = z 0) (h2 : x2 = y 0) :
    LAlike n ρ (if j < 0 then [] else if j < 1 then List.map (fun c => Col.at c (0 + (j - 0))) ([] ++ [Col.ints .i64 [x1]] ++ [Col.ints .i64 [x2]]) else AV.cells (AV.agg (List.reverse [AV.int .i64 0, AV.int .i64 0])))
      [.int .i64 (apZ z 1 j), .int .i64 (apZ y 1 j)] := by
  subst h1; subst h2
  by_cases hj : j = 0
  · subst hj; simp [apZ, Col.at, LAlike, ren, below, AV.scalar]
  · simp [apZ, hj, AV.cells, LAlike, ren, below, AV.scalar]

theorem ap2_in {n : Nat} {ρ : Nat → Nat} {z y : Nat → Int} {x1 x2 : Int} {i j d : Nat} (h1 : x1 = z i) (h2 : x2 = y i) :
    LAlike n ρ (if j < i then [AV.int .i64 (apZ z i (0 + j)), AV.int .i64 (apZ y i (0 + j))] else if j < i + 1 then List.map (fun c => Col.at c (0 + (j - i))) ([] ++ [Col.ints .i64 [x1]] ++ [Col.ints .i64 [x2]]) else if d = 0 then AV.cells (AV.agg (List.reverse [AV.int .i64 0, AV.int .i64 0])) else [AV.int .i64 (apZ z i (0 + j)), AV.int .i64 (apZ y i (0 + j))])
      [.int .i64 (apZ z (i + 1) j), .int .i64 (apZ y (i + 1) j)] := by
  subst h1; subst h2
  by_cases hj : j < i
  · simp [apZ, hj, show j < i + 1 by omega, LAlike, ren, below, AV.scalar]
  · by_cases hj' : j = i
    · subst hj'; simp [apZ, Col.at, LAlike, ren, below, AV.scalar]
    · by_cases hd : d = 0 <;> simp [apZ, hd, hj, show ¬ j < i + 1 by omega, AV.cells, LAlike, ren, below, AV.scalar]

theorem cl_row {N c : Nat} {u v : Nat → Int} {b : Blk} (h : b = Blk.mk true [] 2 c (fun r => if r < 0 then [] else if r < 0 + N then [AV.int .i64 (u (0 + (r - 0))), AV.int .i64 (v (0 + (r - 0)))] else AV.cells (AV.agg (List.reverse [AV.int .i64 0, AV.int .i64 0]))) []) :
    PairRow b ∧ ∀ d, d < N → fstAt b (0 + d) = u d ∧ sndAt b (0 + d) = v d := by
  subst h
  refine ⟨⟨rfl, rfl, rfl, fun j => ?_⟩, fun d hd => ?_⟩
  · unfold fstAt sndAt
    dsimp only
    by_cases h : j < 0 + N
    · rw [if_neg (by omega), if_pos h]
    · rw [if_neg (by omega), if_neg h]; rfl
  · unfold fstAt sndAt
    dsimp only
    rw [if_neg (by omega), if_pos (by omega)]
    constructor <;> (dsimp only; congr 1; omega)

theorem cl_alike {n : Nat} {ρ : Nat → Nat} {z y : Nat → Int} {N r : Nat} :
    LAlike n ρ (if r < 0 then [] else if r < 0 + N then [AV.int .i64 (apZ z N (0 + (r - 0))), AV.int .i64 (apZ y N (0 + (r - 0)))] else AV.cells (AV.agg (List.reverse [AV.int .i64 0, AV.int .i64 0]))) [AV.int .i64 (apZ z N r), AV.int .i64 (apZ y N r)] := by
  by_cases h : r < N
  · simp [h, LAlike, ren, below, AV.scalar]
  · simp [h, apZ, AV.cells, LAlike, ren, below, AV.scalar]

theorem pe_clone {z y : Nat → Int} {N c cap L : Nat} {rw : Bool} (h : L ≤ N) : PairEq (Blk.mk true [] 2 c (fun r => if r < 0 then [] else if r < 0 + N then [AV.int .i64 (apZ z N (0 + (r - 0))), AV.int .i64 (apZ y N (0 + (r - 0)))] else AV.cells (AV.agg (List.reverse [AV.int .i64 0, AV.int .i64 0]))) []) 0 (Blk.mk rw [] 2 cap (fun j => [AV.int .i64 (z j), AV.int .i64 (y j)]) []) 0 L := by
  refine fun d hd => ?_
  obtain ⟨e1, e2⟩ := (cl_row (N := N) (c := c) (u := apZ z N) (v := apZ y N) rfl).2 d (by omega)
  exact ⟨e1.trans ((apZ_lt (by omega)).trans (congrArg z (by omega))), e2.trans ((apZ_lt (by omega)).trans (congrArg y (by omega)))⟩

theorem pe_ap {z y : Nat → Int} {N c cap L : Nat} {rw rw' : Bool} (h : L ≤ N) : PairEq (Blk.mk rw' [] 2 c (fun j => [AV.int .i64 (apZ z N j), AV.int .i64 (apZ y N j)]) []) 0 (Blk.mk rw [] 2 cap (fun j => [AV.int .i64 (z j), AV.int .i64 (y j)]) []) 0 L :=
  fun d hd => ⟨apZ_lt (by omega), apZ_lt (by omega)⟩

theorem wrap0 : IntKind.wrap .i64 0 = 0 := by decide

end Go.Proofs.Ythfgojdpnbpjbaa
