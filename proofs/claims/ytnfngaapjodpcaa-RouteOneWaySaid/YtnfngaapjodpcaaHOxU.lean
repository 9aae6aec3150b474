/-
  Functions of plain values: one value comes of them, told up to likeness.
-/
import Derived.Test.YtnfngaapjodpcaaHOxS
set_option linter.unusedVariables false
set_option linter.unusedSimpArgs false
namespace Go.Ox

/-- Lists alike, one by one. -/
def AllAlike : List AV → List AV → Prop
  | [], [] => True
  | u :: l, v :: l' => Alike u v ∧ AllAlike l l'
  | _, _ => False

theorem AllAlike.conc {loc : Loc} : ∀ {l l' : List AV}, AllAlike l l' → concL loc l = concL loc l'
  | [], [], _ => rfl
  | _ :: _, _ :: _, h => by simp only [concL]; rw [h.1 loc, AllAlike.conc h.2]

theorem AllAlike.nil : AllAlike [] [] := trivial
theorem AllAlike.cons {u v : AV} {l l' : List AV} (h : Alike u v) (hl : AllAlike l l') : AllAlike (u :: l) (v :: l') := And.intro h hl

theorem Alike_agg {l l' : List AV} (h : AllAlike l l') : Alike (.agg l) (.agg l') := fun loc => by simp only [conc]; rw [h.conc]
theorem Alike_tup {l l' : List AV} (h : AllAlike l l') : Alike (.tup l) (.tup l') := fun loc => by simp only [conc]; rw [h.conc]

/-- What a function of plain values tells. -/
def vfn (P : Program) (E : Env) (fn : Func) (c : Code) (args : List AV) : T AV := (afn P E fn c args []).bind fun r => .ret r.1

/-- A function of plain values to one value, out of its tree. -/
theorem val_fn {P : Program} {E : Env} {f : FuncId} {fn : Func} {c : Code} {s : List AV → T AV} (hc : CanEnter P f) (hf : P.funcs[f]? = some fn) (hb : fn.body = some c) (hE : EnvOK P E.fns) (hL : ∀ c' ∈ loopsIn c, LoopOK P E c')
    (hnt : E.nt = fn.ntmps) (hn0 : E.n0 = 0)
    (h : ∀ args Q, (s args).holds Q → plainL args = true ∧ ∃ v, plain v = true ∧ (∀ Q, (s args).holds Q → Q v) ∧ (s args).holds (fun u => u = v) ∧ (vfn P E fn c args).holds fun r => Alike r v) : SummOK P f (.pure fun args _ => s args) := by
  refine pure_ok hc fun args Q hq => ?_
  obtain ⟨h1, v, h2, h3, h4, h5⟩ := h args Q hq
  refine ⟨h1, T.holds_mono (fun u hu => by rw [hu]; exact h2) _ h4, fn_ok hf hb hE hL hnt (by simpa using hn0) fun Q hq => ?_⟩
  rw [T.holds_bind] at hq
  have hq := h3 _ hq
  unfold vfn at h5
  rw [T.holds_bind] at h5
  refine T.holds_mono ?_ _ h5
  rintro ⟨u, m⟩ hu
  exact ⟨id, v, [], hq, by rw [plain_ren _ _ h2]; exact hu, plain_below _ _ h2, Sub.nil _ _⟩

theorem tmod_rest {v a : Int} (ha : 1 ≤ a) (h1 : -9223372036854775808 ≤ v ∧ v ≤ 9223372036854775807) (h2 : a ≤ 9223372036854775807) : (if v.tmod a < 0 then IntKind.wrap .i64 (v.tmod a + a) else v.tmod a) = v % a := by
  have e0 := Int.emod_nonneg v (show a ≠ 0 by omega)
  have e1 := Int.emod_lt_of_pos v (show 0 < a by omega)
  split
  · rename_i h
    rw [tmod_neg (by omega) h, IntWalk.i64_in _ (by omega)]
  · rename_i h
    exact tmod_nonneg (by omega) (by omega)

/-! ### Trees of tests on numbers: what each test says -/

namespace T
variable {α : Type} {Q : α → Prop}
theorem hiteP {p : Prop} [Decidable p] {t e : T α} (ht : p → t.holds Q) (he : ¬ p → e.holds Q) : (T.ite (decide p) t e).holds Q :=
  ⟨fun h => ht (of_decide_eq_true h), fun h => he (of_decide_eq_false h)⟩
theorem hiteE {x y : Int} {t e : T α} (ht : x = y → t.holds Q) (he : x ≠ y → e.holds Q) : (T.ite (x == y) t e).holds Q :=
  ⟨fun h => ht (by simpa using h), fun h => he (by simpa using h)⟩
theorem hiteN {x y : Int} {t e : T α} (ht : x ≠ y → t.holds Q) (he : x = y → e.holds Q) : (T.ite (x != y) t e).holds Q :=
  ⟨fun h => ht (by simpa using h), fun h => he (by simpa using h)⟩
theorem hiteF {b : Bool} {t e : T α} (ht : b = false → t.holds Q) (he : b = true → e.holds Q) : (T.ite (!b) t e).holds Q :=
  ⟨fun h => ht (by simpa using h), fun h => he (by simpa using h)⟩
theorem hchkP {p : Prop} [Decidable p] {t : T α} (h : p) (ht : t.holds Q) : (T.chk (decide p) t).holds Q := ⟨decide_eq_true h, ht⟩
theorem hiteFP {p : Prop} [Decidable p] {t e : T α} (ht : ¬ p → t.holds Q) (he : p → e.holds Q) : (T.ite (!(decide p)) t e).holds Q :=
  ⟨fun h => ht (by simpa using h), fun h => he (by simpa using h)⟩
theorem hiteFE {x y : Int} {t e : T α} (ht : x ≠ y → t.holds Q) (he : x = y → e.holds Q) : (T.ite (!(x == y)) t e).holds Q :=
  ⟨fun h => ht (by simpa using h), fun h => he (by simpa using h)⟩
end T

theorem Alike_bool_dec {x : Bool} {p : Prop} [Decidable p] (h : x = true ↔ p) : Alike (.bool x) (.bool (decide p)) := by
  rw [Alike_bool, Bool.eq_iff_iff, decide_eq_true_eq]; exact h
theorem Alike_dec_dec {q p : Prop} [Decidable p] [Decidable q] (h : q ↔ p) : Alike (.bool (decide q)) (.bool (decide p)) :=
  Alike_bool_dec (by rw [decide_eq_true_eq]; exact h)
theorem Alike_eq_dec {x y : Int} {p : Prop} [Decidable p] (h : x = y ↔ p) : Alike (.bool (x == y)) (.bool (decide p)) :=
  Alike_bool_dec (by rw [beq_iff_eq]; exact h)
theorem Alike_tt_dec {p : Prop} [Decidable p] (h : p) : Alike .tt (.bool (decide p)) := (Alike_tt _).2 (decide_eq_true h)
theorem Alike_ff_dec {p : Prop} [Decidable p] (h : ¬ p) : Alike .ff (.bool (decide p)) := (Alike_ff _).2 (decide_eq_false h)
theorem Alike_of_eq {k : IntKind} {x y : Int} (h : x = y) : Alike (.int k x) (.int k y) := by rw [h]; exact Alike_refl _

end Go.Ox
