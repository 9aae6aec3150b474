/-
  Small words for the use of the evaluator.
-/
import Derived.Test.YtnfngaapjodpcaaHOxK
set_option linter.unusedVariables false
set_option linter.unusedSimpArgs false
namespace Go.Ox

theorem T.holds_and {α : Type} {Q R : α → Prop} : ∀ t : T α, t.holds Q → t.holds R → t.holds fun a => Q a ∧ R a
  | .ret _, h, g => ⟨h, g⟩
  | .chk _ t, h, g => ⟨h.1, holds_and t h.2 g.2⟩
  | .need _ t, h, g => ⟨h.1, holds_and t h.2 g.2⟩
  | .asm _ t, h, g => fun hb => holds_and t (h hb) (g hb)
  | .ite _ t e, h, g => ⟨fun hb => holds_and t (h.1 hb) (g.1 hb), fun hb => holds_and e (h.2 hb) (g.2 hb)⟩
  | .all k, h, g => fun c => holds_and (k c) (h c) (g c)
  | .alf k, h, g => fun c => holds_and (k c) (h c) (g c)
  | .fail, h, _ => h

-- No block is named.
mutual
def plain : AV → Bool
  | .ptr .. => false
  | .sl .. => false
  | .part .. => false
  | .fn _ a c => plainL a && plainL c
  | .agg cs => plainL cs && cs.all AV.scalar
  | .tup vs => plainL vs
  | _ => true
def plainL : List AV → Bool
  | [] => true
  | v :: l => plain v && plainL l
end

mutual
theorem plain_ren (ρ : Nat → Nat) : ∀ v, plain v = true → ren ρ v = v
  | .ptr .., h | .sl .., h | .part .., h => by simp [plain] at h
  | .fn _ a c, h => by simp only [plain, Bool.and_eq_true] at h; simp [ren, plainL_ren ρ a h.1, plainL_ren ρ c h.2]
  | .agg cs, h => by simp only [plain, Bool.and_eq_true] at h; simp [ren, plainL_ren ρ cs h.1]
  | .tup cs, h => by simp only [plain] at h; simp [ren, plainL_ren ρ cs h]
  | .tt, _ | .ff, _ | .bool _, _ | .int _ _, _ | .str _, _ | .gp _ _, _ | .nilp, _ | .nils, _ | .esl _, _ | .nul _, _ => by simp [ren]
theorem plainL_ren (ρ : Nat → Nat) : ∀ l, plainL l = true → renL ρ l = l
  | [], _ => by simp [renL]
  | v :: l, h => by simp only [plainL, Bool.and_eq_true] at h; simp [renL, plain_ren ρ v h.1, plainL_ren ρ l h.2]
end

mutual
theorem plain_below (n : Nat) : ∀ v, plain v = true → below n v
  | .ptr .., h | .sl .., h | .part .., h => by simp [plain] at h
  | .fn _ a c, h => by simp only [plain, Bool.and_eq_true] at h; simp only [below]; exact ⟨plainL_below n a h.1, plainL_below n c h.2⟩
  | .agg cs, h => by simp only [plain, Bool.and_eq_true] at h; simp only [below]; exact ⟨plainL_below n cs h.1, h.2⟩
  | .tup cs, h => by simp only [plain] at h; simp only [below]; exact plainL_below n cs h
  | .tt, _ | .ff, _ | .bool _, _ | .int _ _, _ | .str _, _ | .gp _ _, _ | .nilp, _ | .nils, _ | .esl _, _ | .nul _, _ => by simp [below]
theorem plainL_below (n : Nat) : ∀ l, plainL l = true → belowL n l
  | [], _ => by simp [belowL]
  | v :: l, h => by simp only [plainL, Bool.and_eq_true] at h; simp only [belowL]; exact ⟨plain_below n v h.1, plainL_below n l h.2⟩
end

theorem Sub.nil (ρ : Nat → Nat) (m : AM) : Sub 0 ρ m [] :=
  ⟨fun _ _ h => (by cases h), fun _ _ _ _ h => (by cases h), fun _ h => (by omega), Nat.zero_le _, fun _ _ h => (by cases h)⟩

theorem leaf_plain {Q : AV × AM → Prop} {v : AV} {m : AM} (h : Q (v, [])) (hp : plain v = true) : Leaf 0 Q (v, m) :=
  ⟨id, v, [], h, by rw [plain_ren _ _ hp]; exact Alike.refl _, plain_below _ _ hp, Sub.nil _ _⟩

theorem EffAt.mono {P : Program} {f : FuncId} {args : List AV} {m : AM} {t u : T (AV × AM)} (h : EffAt P f args m t) (hu : ∀ Q, u.holds Q → t.holds Q) : EffAt P f args m u :=
  fun Q hq => h Q (hu Q hq)

/-- A function of values without memory, that tells such a value. -/
theorem pure_ok {P : Program} {f : FuncId} {s : List AV → T AV} (hc : CanEnter P f)
    (h : ∀ args Q, (s args).holds Q → plainL args = true ∧ (s args).holds (fun v => plain v = true) ∧ EffAt P f args [] ((s args).bind fun v => .ret (v, []))) : SummOK P f (.pure fun args _ => s args) := by
  refine ⟨hc, fun args m Q hq hb => ?_⟩
  rw [T.holds_bind] at hq
  obtain ⟨hp, hv, he⟩ := h args _ hq
  have hl := lift_ok (args := args) (m := m) he [] rfl (by simp) (Sub.nil _ _) (plainL_below _ _ hp) (plainL_ren _ _ hp).symm
  refine hl Q ?_ hb
  unfold lift
  rw [T.holds_bind, T.holds_bind]
  refine T.holds_mono ?_ _ (T.holds_and _ hq hv)
  rintro v ⟨h1, h2⟩
  simp only [T.holds, plain_ren _ _ h2, putAll, List.length_nil, List.drop_nil, news, List.append_nil]
  exact h1

/-- Such a function, out of its tree. -/
theorem pure_fn {P : Program} {E : Env} {f : FuncId} {fn : Func} {c : Code} {s : List AV → T AV} (hc : CanEnter P f) (hf : P.funcs[f]? = some fn) (hb : fn.body = some c) (hE : EnvOK P E.fns) (hL : ∀ c' ∈ loopsIn c, LoopOK P E c')
    (hnt : E.nt = fn.ntmps) (hn0 : E.n0 = 0)
    (h : ∀ args Q, (s args).holds Q → plainL args = true ∧ (s args).holds (fun v => plain v = true) ∧ ∀ Q, (s args).holds Q → (afn P E fn c args []).holds fun r => plain r.1 = true ∧ Q r.1) : SummOK P f (.pure fun args _ => s args) := by
  refine pure_ok hc fun args Q hq => ?_
  obtain ⟨h1, h2, h3⟩ := h args Q hq
  refine ⟨h1, h2, fn_ok hf hb hE hL hnt (by simpa using hn0) fun Q hq => ?_⟩
  rw [T.holds_bind] at hq
  refine T.holds_mono ?_ _ (h3 _ hq)
  rintro ⟨v, m⟩ ⟨hp, hQ⟩
  exact leaf_plain hQ hp

theorem noLoops {P : Program} {E : Env} {c : Code} (h : loopsIn c = []) : ∀ c' ∈ loopsIn c, LoopOK P E c' := by rw [h]; simp

/-! ### A state of which some slots alone are told -/

def keepT (ts : List Nat) (t : T (Ex × St)) : T (Ex × St) := t.bind fun r => .ret (r.1, keep ts r.2)

theorem round_keep {ι : Type} {E : Env} {σ : ι → St} {inv : ι → Prop} {μ : ι → Nat} {exit : ι → T (Ex × St)} {Q : Ex × St → Prop} {x : ι} (ts : List Nat) {t : T (Ex × St)}
    (h : (keepT ts t).holds (Round E σ inv μ exit Q x)) : t.holds (Round E σ inv μ exit Q x) := by
  unfold keepT at h
  rw [T.holds_bind] at h
  refine T.holds_mono ?_ _ h
  rintro ⟨e, st⟩ hr
  cases e with
  | norm =>
    obtain ⟨y, ρ, h1, h2, h3, h4⟩ := hr
    exact ⟨y, ρ, h1, h2, h3.keep, h4⟩
  | exit id =>
    obtain ⟨ρ, st', h1, h2⟩ := hr
    exact ⟨ρ, st', h1.keep, h2⟩
  | ret =>
    obtain ⟨ρ, st', h1, h2⟩ := hr
    exact ⟨ρ, st', h1.keep, h2⟩
  | goto l =>
    obtain ⟨ρ, st', h1, h2⟩ := hr
    exact ⟨ρ, st', h1.keep, h2⟩

/-- A loop of a function, by its place. -/
def loopAt (c : Code) (i : Nat) : Code := (loopsIn c).getD i .skip

def codeOf (f : Func) : Code := f.body.getD .skip

end Go.Ox
