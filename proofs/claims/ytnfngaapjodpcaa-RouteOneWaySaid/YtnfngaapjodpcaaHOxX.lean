/-
  Small rules: tests that are told; laws of no arguments.
-/
import Derived.Test.YtnfngaapjodpcaaHOxW
set_option linter.unusedVariables false
set_option linter.unusedSimpArgs false
namespace Go.Ox
namespace T
variable {α : Type} {Q : α → Prop}
theorem h_tt {t e : T α} (h : t.holds Q) : (T.ite true t e).holds Q := ⟨fun _ => h, fun h => (by cases h)⟩
theorem h_ff {t e : T α} (h : e.holds Q) : (T.ite false t e).holds Q := ⟨fun h => (by cases h), fun _ => h⟩
end T

theorem vfn_yes {P : Program} {E : Env} {fn : Func} {c : Code} {args : List AV} (h : (vfn P E fn c args).holds fun v => v.yes = true) : (afn P E fn c args []).holds fun r => r.1.yes = true := by
  unfold vfn at h
  rw [T.holds_bind] at h
  exact h

theorem eff_args {P : Program} {f : FuncId} {args args' : List AV} {m : AM} {t : T (AV × AM)} (h : EffAt P f args m t) (hc : ∀ loc, concL loc args' = concL loc args) (hb : belowL m.length args' → belowL m.length args) : EffAt P f args' m t := by
  intro Q hq hbl w0 X loc w hm
  rw [hc loc]
  exact h Q hq (hb hbl) w0 X loc w hm

theorem asB_conc {v : AV} {b : Bool} (h : v.asB = some b) (loc : Loc) : conc loc v = .bool b := by
  cases v <;> simp [AV.asB] at h <;> subst h <;> simp [conc]
theorem asB_below {v : AV} {b : Bool} (h : v.asB = some b) (n : Nat) : below n v := by
  cases v <;> simp [AV.asB] at h <;> simp [below]

theorem ints_row {k : IntKind} {r : Bool} {l : List Int} {n : Nat} : IntRow k ⟨r, [], 1, n, fun i => [.int k (l.getD i 0)], [], none⟩ := ⟨rfl, rfl, rfl, fun j _ => rfl⟩

end Go.Ox
