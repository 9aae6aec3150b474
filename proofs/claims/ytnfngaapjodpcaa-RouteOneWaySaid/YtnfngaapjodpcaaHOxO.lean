/-
  Rules for trees, one by one.
-/
import Derived.Test.YtnfngaapjodpcaaHOxN
set_option linter.unusedVariables false
set_option linter.unusedSimpArgs false
namespace Go.Ox

namespace T
variable {α : Type} {Q : α → Prop}
theorem hret {a : α} (h : Q a) : (T.ret a).holds Q := h
theorem hchk {b : Bool} {t : T α} (h : b = true) (ht : t.holds Q) : (T.chk b t).holds Q := ⟨h, ht⟩
theorem hneed {p : Prop} {t : T α} (h : p) (ht : t.holds Q) : (T.need p t).holds Q := ⟨h, ht⟩
theorem hasm {b : Bool} {t : T α} (ht : b = true → t.holds Q) : (T.asm b t).holds Q := ht
theorem hite {b : Bool} {t e : T α} (ht : b = true → t.holds Q) (he : b = false → e.holds Q) : (T.ite b t e).holds Q := ⟨ht, he⟩
theorem half {k : (Nat → Int) → T α} (h : ∀ c, (k c).holds Q) : (T.alf k).holds Q := h
theorem hall {k : Nat → T α} (h : ∀ c, (k c).holds Q) : (T.all k).holds Q := h
end T

theorem Round.go {ι : Type} {E : Env} {σ : ι → St} {inv : ι → Prop} {μ : ι → Nat} {exit : ι → T (Ex × St)} {Q : Ex × St → Prop} {x : ι} {st : St} (y : ι) (ρ : Nat → Nat) (h1 : inv y) (h2 : μ y < μ x) (h3 : SubSt E.n0 ρ st (σ y)) (h4 : (exit y).holds Q) :
    Round E σ inv μ exit Q x (.norm, st) := ⟨y, ρ, h1, h2, h3, h4⟩
theorem Round.out {ι : Type} {E : Env} {σ : ι → St} {inv : ι → Prop} {μ : ι → Nat} {exit : ι → T (Ex × St)} {Q : Ex × St → Prop} {x : ι} {st : St} {id : Nat} (ρ : Nat → Nat) (st' : St) (h3 : SubSt E.n0 ρ st st') (h4 : Q (.exit id, st')) :
    Round E σ inv μ exit Q x (.exit id, st) := ⟨ρ, st', h3, h4⟩
theorem Round.back {ι : Type} {E : Env} {σ : ι → St} {inv : ι → Prop} {μ : ι → Nat} {exit : ι → T (Ex × St)} {Q : Ex × St → Prop} {x : ι} {st : St} (ρ : Nat → Nat) (st' : St) (h3 : SubSt E.n0 ρ st st') (h4 : Q (.ret, st')) :
    Round E σ inv μ exit Q x (.ret, st) := ⟨ρ, st', h3, h4⟩

theorem SubSt.mk {n0 : Nat} {ρ : Nat → Nat} {st' st : St} (h1 : SubFr st.m.length ρ st'.fr st.fr) (h2 : Sub n0 ρ st'.m st.m) : SubSt n0 ρ st' st := ⟨h1, h2⟩

/-- Rows alike. -/
theorem BlkOK.rows {n : Nat} {ρ : Nat → Nat} {rw' rw : Bool} {s c : Nat} {f' f : Nat → List AV} (h : rw = true → rw' = true) (hf : ∀ j, j < c → LAlike n ρ (f' j) (f j)) :
    BlkOK n ρ ⟨rw', [], s, c, f', [], none⟩ (Blk.rows rw s c f) := ⟨h, trivial, rfl, rfl, hf, trivial, trivial⟩
theorem BlkOK.rows' {n : Nat} {ρ : Nat → Nat} {rw' rw : Bool} {s c : Nat} {f' f : Nat → List AV} (h : rw = true → rw' = true) (hf : ∀ j, j < c → LAlike n ρ (f' j) (f j)) :
    BlkOK n ρ (Blk.rows rw' s c f') (Blk.rows rw s c f) := ⟨h, trivial, rfl, rfl, hf, trivial, trivial⟩
theorem LAlike.ints {n : Nat} {ρ : Nat → Nat} {k : IntKind} {x y : Int} (h : x = y) : LAlike n ρ [.int k x] [.int k y] := by
  subst h; simp [LAlike, ren, below, AV.scalar]

/-- Two functions of numbers, alike at so many places from one on. -/
def eqN (f g : Nat → Int) : Nat → Nat → Bool
  | _, 0 => true
  | i, k + 1 => (f i == g i) && eqN f g (i + 1) k

theorem eqN_iff (f g : Nat → Int) : ∀ (k i : Nat), eqN f g i k = true ↔ ∀ d, d < k → f (i + d) = g (i + d)
  | 0, i => by simp [eqN]
  | k + 1, i => by
    simp only [eqN, Bool.and_eq_true, beq_iff_eq, eqN_iff f g k (i + 1)]
    constructor
    · rintro ⟨h1, h2⟩ d hd
      cases d with
      | zero => exact h1
      | succ d => have := h2 d (by omega); rw [show i + 1 + d = i + (d + 1) from by omega] at this; exact this
    · intro h
      refine ⟨h 0 (by omega), fun d hd => ?_⟩
      have := h (d + 1) (by omega)
      rw [show i + (d + 1) = i + 1 + d from by omega] at this
      exact this

end Go.Ox
