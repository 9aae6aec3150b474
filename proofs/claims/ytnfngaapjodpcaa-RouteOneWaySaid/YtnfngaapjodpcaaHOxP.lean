/-
  A law out of its tree: it returns true, and the world has more blocks at most.
-/
import Derived.Test.YtnfngaapjodpcaaHOxO
set_option linter.unusedVariables false
set_option linter.unusedSimpArgs false
namespace Go.Ox
open Go.RowKit

def AV.yes : AV → Bool
  | .tt => true
  | .bool b => b
  | _ => false

theorem AV.yes_conc {v : AV} (h : v.yes = true) (loc : Loc) : conc loc v = .bool true := by
  cases v <;> simp_all [AV.yes, conc]

theorem MR.none (w : World) (X : Nat → Prop) (loc : Loc) (hg : GlobIn w X) : MR w X loc [] w :=
  ⟨fun _ _ h => (by cases h), fun _ _ h => (by cases h), fun _ _ h => (by cases h), fun _ _ h => (by cases h), fun _ _ h => (by cases h), fun _ _ _ _ h => (by cases h), fun _ _ h => (by cases h),
    Nat.le_refl _, fun _ _ _ => rfl, rfl, rfl, rfl, hg, fun _ _ _ h => (by cases h)⟩

theorem tmod_neg {k n : Int} (hn : 0 < n) (h : k.tmod n < 0) : k.tmod n + n = k % n := by
  have g1 := Int.tmod_eq_emod (a := k) (b := n)
  have g2 := Int.emod_nonneg k (show n ≠ 0 by omega)
  by_cases h3 : 0 ≤ k ∨ n ∣ k
  · rw [if_pos h3] at g1; omega
  · rw [if_neg h3] at g1; omega
theorem tmod_nonneg {k n : Int} (hn : 0 < n) (h : 0 ≤ k.tmod n) : k.tmod n = k % n := by
  have g1 := Int.tmod_eq_emod (a := k) (b := n)
  have g2 := Int.emod_lt_of_pos k hn
  by_cases h3 : 0 ≤ k ∨ n ∣ k
  · rw [if_pos h3] at g1; omega
  · rw [if_neg h3] at g1; omega

theorem oneLoop {P : Program} {E : Env} {c : Code} (h : loopsIn c = [loopAt c 0]) (hl : LoopOK P E (loopAt c 0)) : ∀ c' ∈ loopsIn c, LoopOK P E c' := by
  intro c' hc
  rw [h] at hc
  simp only [List.mem_cons, List.not_mem_nil, or_false] at hc
  subst hc
  exact hl

theorem intsArg_some {k : IntKind} {m : AM} {v : AV} {p : IntsArg} (h : intsArg k m v = some p) :
    (∃ a, v = .esl a ∧ p = ⟨True, true, 0, fun _ => 0⟩) ∨ ∃ id j len cap b, v = .sl id 0 1 j len cap ∧ m.get id = some b ∧ p = ⟨IntRow k b, decide (j + len ≤ b.n), len, fun i => intAt b (j + i)⟩ := by
  unfold intsArg at h
  split at h
  · exact .inl ⟨_, rfl, by simpa using h.symm⟩
  · rename_i id j len cap
    split at h
    · rename_i b hb
      exact .inr ⟨id, j, len, cap, b, rfl, hb, by simpa using h.symm⟩
    · cases h
  · cases h

theorem subInts {rw : Bool} {k : IntKind} {n n0 : Nat} {f : Nat → Int} (hn : n0 ≤ 1) : Sub n0 id [some (Blk.rows rw 1 n fun j => [.int k (f j)])] [some (Blk.rows rw 1 n fun j => [.int k (f j)])] :=
  Sub.same hn ⟨⟨_, rfl, BlkOK.rows' (fun h => h) fun j _ => LAlike.ints rfl⟩, trivial⟩
theorem subInts2 {rw rw' : Bool} {k : IntKind} {n n' n0 : Nat} {f f' : Nat → Int} (hn : n0 ≤ 2) : Sub n0 id [some (Blk.rows rw 1 n fun j => [.int k (f j)]), some (Blk.rows rw' 1 n' fun j => [.int k (f' j)])] [some (Blk.rows rw 1 n fun j => [.int k (f j)]), some (Blk.rows rw' 1 n' fun j => [.int k (f' j)])] :=
  Sub.same hn ⟨⟨_, rfl, BlkOK.rows' (fun h => h) fun j _ => LAlike.ints rfl⟩, ⟨_, rfl, BlkOK.rows' (fun h => h) fun j _ => LAlike.ints rfl⟩, trivial⟩

theorem eqN_congr {f f' g g' : Nat → Int} : ∀ (k i i' : Nat), (∀ d, d < k → f (i + d) = f' (i' + d)) → (∀ d, d < k → g (i + d) = g' (i' + d)) → eqN f g i k = eqN f' g' i' k
  | 0, _, _, _, _ => rfl
  | k + 1, i, i', hf, hg => by
    have h1 := hf 0 (by omega)
    have h2 := hg 0 (by omega)
    simp only [Nat.add_zero] at h1 h2
    simp only [eqN, h1, h2]
    rw [eqN_congr k (i + 1) (i' + 1) (fun d hd => by have := hf (d + 1) (by omega); rw [show i + 1 + d = i + (d + 1) from by omega, show i' + 1 + d = i' + (d + 1) from by omega]; exact this) (fun d hd => by have := hg (d + 1) (by omega); rw [show i + 1 + d = i + (d + 1) from by omega, show i' + 1 + d = i' + (d + 1) from by omega]; exact this)]

theorem roOne {b0 : Blk} (h0 : b0.rw = false) : ∀ id b, AM.get [some b0] id = some b → b.rw = false
  | 0, _, h => by simp only [AM.get, Option.some.injEq] at h; subst h; exact h0
  | _ + 1, _, h => by cases h
theorem roTwo {b0 b1 : Blk} (h0 : b0.rw = false) (h1 : b1.rw = false) : ∀ id b, AM.get [some b0, some b1] id = some b → b.rw = false
  | 0, _, h => by simp only [AM.get, Option.some.injEq] at h; subst h; exact h0
  | 1, _, h => by simp only [AM.get, Option.some.injEq] at h; subst h; exact h1
  | _ + 2, _, h => by cases h

theorem eff_weak {P : Program} {f : FuncId} {s s' : List AV → AM → T (AV × AM)} (h : SummOK P f (.eff s)) (hw : ∀ args m Q, (s' args m).holds Q → (s args m).holds Q) : SummOK P f (.eff s') :=
  ⟨h.1, fun args m Q hq => h.2 args m Q (hw args m Q hq)⟩

theorem lift_weak {l : List Nat} {m mc : AM} {t t' : T (AV × AM)} (h : ∀ Q, t'.holds Q → t.holds Q) {Q : AV × AM → Prop} (hq : (lift l m mc t').holds Q) : (lift l m mc t).holds Q := by
  unfold lift at hq ⊢
  rw [T.holds_bind] at hq ⊢
  exact h _ hq

theorem IntRow.rows {k : IntKind} {r : Bool} {n : Nat} {f : Nat → Int} : IntRow k ⟨r, [], 1, n, fun j => [.int k (f j)], [], .none⟩ := ⟨rfl, rfl, rfl, fun _ _ => rfl⟩

theorem eqN_all {f g : Nat → Int} {k : Nat} (h : ∀ d, d < k → f d = g d) : eqN f g 0 k = true := (eqN_iff f g k 0).2 fun d hd => by rw [Nat.zero_add]; exact h d hd

theorem pure_weak {P : Program} {f : FuncId} {s s' : List AV → AM → T AV} (h : SummOK P f (.pure s)) (hw : ∀ args m Q, (s' args m).holds Q → (s args m).holds Q) : SummOK P f (.pure s') :=
  ⟨h.1, fun args m Q hq => h.2 args m Q (by rw [T.holds_bind] at hq ⊢; exact hw args m _ hq)⟩

theorem AWp.env {P : Program} {E E' : Env} {c : Code} {st : St} {Q : Ex × St → Prop} (hn : E'.nt = E.nt) (h0 : E'.n0 = E.n0) (h : AWp P E' c st Q) : AWp P E c st Q := by
  intro w0 X loc0 loc a w hs
  refine wp_mono (h w0 X loc0 loc a w (by rw [hn, h0]; exact hs)) ?_
  intro e a' w' he
  cases e <;> simp only [PostOf, hn, h0] at he ⊢ <;> exact he

/-- A loop, its body told by any means. -/
theorem loop_any {P : Program} {E : Env} {c : Code} {ι : Type} (σ : ι → St) (inv : ι → Prop) (μ : ι → Nat) (pick : St → Option ι) (exit : ι → T (Ex × St))
    (round : ∀ x, inv x → ∀ Q, (exit x).holds Q → AWp P E c (σ x) (Round E σ inv μ exit Q x)) (hl : E.loop (keyOf c) = loopSumm E.n0 σ inv pick exit) (hs : isScopeB c = false := by kernel_rfl) : LoopOK P E c := by
  intro st Q hq w0 X loc0 loc a w h
  rw [hl] at hq
  rw [lcode_loop hs]
  obtain ⟨x, _, ⟨ρ, hs⟩, hi, hq⟩ := T.holds_opt hq
  refine wp_loop_rel (fun n a w => ∃ x loc, inv x ∧ μ x = n ∧ (exit x).holds Q ∧ SR E.nt E.n0 w0 X loc0 loc (σ x) a w) ?_ ⟨x, _, hi, rfl, hq, h.sub hs.keep⟩
  rintro n a w ⟨x, loc, hx, rfl, hq, h⟩
  refine wp_mono (round x hx Q hq w0 X loc0 loc a w h) ?_
  intro e a' w' he
  cases e with
  | normal =>
    obtain ⟨loc', st', ⟨y, ρ, h1, h2, h3, h4⟩, hs⟩ := he
    exact ⟨μ y, h2, y, _, h1, rfl, h4, hs.sub h3⟩
  | exit id =>
    obtain ⟨loc', st', ⟨ρ, st2, h1, h2⟩, hs⟩ := he
    exact ⟨_, st2, h2, hs.sub h1⟩
  | ret =>
    obtain ⟨loc', st', ⟨ρ, st2, h1, h2⟩, hs⟩ := he
    exact ⟨_, st2, h2, hs.sub h1⟩
  | goto l =>
    obtain ⟨loc', st', ⟨ρ, st2, h1, h2⟩, hs⟩ := he
    exact ⟨_, st2, h2, hs.sub h1⟩
  | panic ch => exact he
  | outgrown => exact he

end Go.Ox
