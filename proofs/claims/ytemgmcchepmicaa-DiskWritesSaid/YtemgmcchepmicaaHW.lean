/-
  Layer 15: Writes: its trees.
-/
import Derived.Test.YtemgmcchepmicaaHK
import Derived.Test.YtemgmcchepmicaaHPick
import Derived.Test.YtemgmcchepmicaaHSameBytes
import Derived.Test.YtemgmcchepmicaaHOxZ
namespace Go.Proofs.Ytemgmcchepmicaa
open Go.Ox
set_option maxRecDepth 100000
set_option maxHeartbeats 16000000
set_option linter.unusedVariables false
set_option linter.unusedSimpArgs false

def pk2 (p : Int) : List AV → T AV
  | [.int .i64 k, .int .i64 2] => .need (k % 2 = p) (.ret (.int .i64 p))
  | _ => .fail

theorem pk2_ok (p : Int) : SummOK Try.prog 11 (.pure fun args _ => pk2 p args) := by
  refine pure_weak pick_ok fun args m Q h => ?_
  unfold pk2 at h
  split at h
  · rename_i k
    obtain ⟨h1, h⟩ := h
    refine ⟨by decide, ?_⟩
    rw [if_neg (by omega), h1]; exact h
  · exact h.elim

noncomputable def wrB (p : Int) : List (Nat × Summ) := [(10, .pure yesS), (11, .pure fun args _ => pk2 p args), (25, .pure sameBS)]

theorem wrB_ok (p : Int) : EnvOK Try.prog (wrB p) := EnvOK.cons kn_ok (EnvOK.cons (pk2_ok p) (EnvOK.cons sameB_ok EnvOK.nil))

noncomputable def wrL : List (Nat × Func) := [(14, Try.f14), (23, Try.f23), (19, Try.f19), (26, Try.f26), (16, Try.f16), (30, Try.f30), (12, Try.f12), (28, Try.f28), (8, Try.f8)]

theorem wrL_ok : InlOK Try.prog wrL := ⟨⟨fun args w => Try.call14 args w, Try.func14, rfl, by kernel_rfl⟩, ⟨fun args w => Try.call23 args w, Try.func23, rfl, by kernel_rfl⟩, ⟨fun args w => Try.call19 args w, Try.func19, rfl, by kernel_rfl⟩, ⟨fun args w => Try.call26 args w, Try.func26, rfl, by kernel_rfl⟩, ⟨fun args w => Try.call16 args w, Try.func16, rfl, by kernel_rfl⟩, ⟨fun args w => Try.call30 args w, Try.func30, rfl, by kernel_rfl⟩, ⟨fun args w => Try.call12 args w, Try.func12, rfl, by kernel_rfl⟩, ⟨fun args w => Try.call28 args w, Try.func28, rfl, by kernel_rfl⟩, ⟨fun args w => Try.call8 args w, Try.func8, rfl, by kernel_rfl⟩, trivial⟩

def byV (n : Nat) (f : Nat → Int) : Blk := Blk.rows false 1 n fun j => [.int .u8 (f j)]

def hdI : List AV → Int
  | [.int _ n] => n
  | _ => 0
theorem intAt_hd (b : Blk) (j : Nat) : intAt b j = hdI (b.f j) := rfl
theorem hdI_ite (c : Prop) [Decidable c] (x y : List AV) : hdI (if c then x else y) = if c then hdI x else hdI y := by split <;> rfl
theorem hdI_int (k : IntKind) (v : Int) : hdI [.int k v] = v := rfl
theorem hdI_cells (k : IntKind) (v : Int) : hdI (AV.cells (.int k v)) = v := rfl
theorem rowI {k : IntKind} {r : Bool} {n : Nat} {f : Nat → List AV} (h : ∀ j, j < n → f j = [.int k (hdI (f j))]) : IntRow k ⟨r, [], 1, n, f, []⟩ := ⟨rfl, rfl, rfl, h⟩
def isI (k : IntKind) (l : List AV) : Prop := ∃ v, l = [.int k v]
theorem isI_ite {k : IntKind} {c : Prop} [Decidable c] {x y : List AV} (h1 : c → isI k x) (h2 : ¬ c → isI k y) : isI k (if c then x else y) := by
  split
  · exact h1 ‹_›
  · exact h2 ‹_›
theorem rowJ {k : IntKind} {r : Bool} {n : Nat} {f : Nat → List AV} (h : ∀ j, j < n → isI k (f j)) : IntRow k ⟨r, [], 1, n, f, []⟩ := rowI fun j hj => by
  obtain ⟨v, hv⟩ := h j hj
  rw [hv]; rfl
theorem noE {a b : Nat} {f g : Nat → Int} {l : Nat} (h : (!(decide (a = b) && eqN f g 0 l)) = true) (e : a = b) (hh : ∀ d, d < l → f d = g d) : False := by
  rw [eqN_all hh] at h
  simp [e] at h
theorem noF {a b : Nat} {f g : Nat → Int} {l : Nat} (h : (decide (a = b) && eqN f g 0 l) = false) (e : a = b) (hh : ∀ d, d < l → f d = g d) : False := by
  rw [eqN_all hh] at h
  simp [e] at h
theorem noG {a b : Nat} {f g : Nat → Int} {l : Nat} (h : ¬ (decide (a = b) && eqN f g 0 l) = true) (e : a = b) (hh : ∀ d, d < l → f d = g d) : False := noF (by simpa using h) e hh

abbrev muI (x : Int) : Int := if (0 : Int) > x then (0 : Int) else x
abbrev nuI (y x : Int) : Int := if y < (if (0 : Int) > x then (0 : Int) else x) then y else (if (0 : Int) > x then (0 : Int) else x)

end Go.Proofs.Ytemgmcchepmicaa
