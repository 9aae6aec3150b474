/-
  Blocks under other numbers, told by a list; two loops; tests that are assumed.
-/
import Derived.Test.YtnfngaapjodpcaaHOxY
set_option linter.unusedVariables false
set_option linter.unusedSimpArgs false
namespace Go.Ox

/-- Other numbers, told by a list. -/
def rhoL (l : List Nat) (x : Nat) : Nat := (l[x]?).getD x

def injB (l : List Nat) : Bool := (List.range l.length).all fun i => (List.range l.length).all fun j => i == j || rhoL l i != rhoL l j

def baseB (n : Nat) (l : List Nat) : Bool := (List.range n).all fun i => rhoL l i == i

theorem subL {n0 : Nat} (l : List Nat) {m' m : AM} (hl : m.length = l.length) (h1 : injB l = true) (h2 : baseB n0 l = true) (h3 : n0 ≤ l.length) (h : SubBlks m.length (rhoL l) m' 0 m) : Sub n0 (rhoL l) m' m := by
  refine Sub.of h (fun i j hi hj hij => ?_) (fun i hi => ?_) (hl ▸ h3)
  · have := List.all_eq_true.1 (List.all_eq_true.1 h1 i (by simpa [hl] using hi)) j (by simpa [hl] using hj)
    simp at this
    rcases this with h | h
    · exact absurd h hij
    · exact h
  · have := List.all_eq_true.1 h2 i (by simpa using hi)
    simpa using this

theorem subStL {n0 : Nat} (l : List Nat) {st' st : St} (hl : st.m.length = l.length) (h1 : injB l = true) (h2 : baseB n0 l = true) (h3 : n0 ≤ l.length) (hf : SubFr l.length (rhoL l) st'.fr st.fr) (hb : SubBlks l.length (rhoL l) st'.m 0 st.m) : SubSt n0 (rhoL l) st' st :=
  SubSt.mk (hl ▸ hf) (subL l hl h1 h2 h3 (hl ▸ hb))

theorem T.hasmP {α : Type} {Q : α → Prop} {p : Prop} [Decidable p] {t : T α} (h : p → t.holds Q) : (T.asm (decide p) t).holds Q := fun hb => h (of_decide_eq_true hb)

theorem T.hchkT {α : Type} {Q : α → Prop} {t : T α} (h : t.holds Q) : (T.chk true t).holds Q := ⟨rfl, h⟩

theorem twoLoops {P : Program} {E : Env} {c : Code} (h : loopsIn c = [loopAt c 0, loopAt c 1]) (h0 : LoopOK P E (loopAt c 0)) (h1 : LoopOK P E (loopAt c 1)) : ∀ c' ∈ loopsIn c, LoopOK P E c' := by
  rw [h]
  intro c' hc
  rcases List.mem_cons.1 hc with rfl | hc
  · exact h0
  · obtain rfl := List.mem_singleton.1 hc
    exact h1

end Go.Ox
