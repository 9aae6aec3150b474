/-
  Layer 27: PolicyDecides: the walk of the last piece.
-/
import Derived.Test.YtmhlkcboajgigaaHZA
namespace Go.Proofs.Ytmhlkcboajgigaa
open Go.Ox
set_option maxRecDepth 100000
set_option linter.unusedVariables false
set_option linter.unusedSimpArgs false

theorem off_cg {f g f' g' : Nat → Int} {la lb : Nat} {s : Int} (hf : ∀ j, j < la → f j = f' j) (hg : ∀ j, j < lb → g j = g' j) : offA f g la lb s = offA f' g' la lb s := by
  rw [Bool.eq_iff_iff]
  unfold offA
  rw [anyR_iff, anyR_iff]
  simp only [faR, Int.toNat_natCast, decide_eq_true_eq]
  constructor
  · rintro ⟨j, h1, h2, h3⟩
    exact ⟨j, h1, h2, by rw [← hf j (by omega), ← hg j (by omega)]; exact h3⟩
  · rintro ⟨j, h1, h2, h3⟩
    exact ⟨j, h1, h2, by rw [hf j (by omega), hg j (by omega)]; exact h3⟩

theorem off_z {f g : Nat → Int} {la lb : Nat} {s : Int} (h : la = 0 ∨ lb = 0) : offA f g la lb s = false := by
  cases e : offA f g la lb s with
  | false => rfl
  | true =>
    obtain ⟨j, h1, h2, _⟩ := (anyR_iff _ _ _).1 e
    omega

theorem off_cp (f g : Nat → Int) (la lb : Nat) (s : Int) : offA (fun j => if j < la then f j else 0) (fun j => if j < lb then g j else 0) la lb s = offA f g la lb s :=
  off_cg (fun j h => if_pos h) (fun j h => if_pos h)

theorem eqN_cp (f : Nat → Int) (la : Nat) : eqN (fun i => if 0 + i < la then f (0 + i) else 0) (fun i => f (0 + i)) 0 la = true :=
  eqN_all fun d h => by rw [Nat.zero_add, if_pos h]

theorem inI_of {z : Int} (h : (Lit.int .i64 z).wf = true) : InI z := (bounds_i64 h)

theorem nl_no {x : FD} {js : List Nat} (h : x.wf .i64) (hl : 0 < x.ln js) : x.nl js = false := by
  cases e : x.nl js with
  | false => rfl
  | true => have := (h.nil js e).1; omega

theorem de_off {c l : Int} {d : Bool} {now no : Int} {idle : Bool} : deA c l d now no idle false = false := by simp [deA]

end Go.Proofs.Ytmhlkcboajgigaa
