/-
  Pick: a number below another one.
-/
import Derived.Test.YtemgmcchepmicaaProg
import Derived.Test.YtemgmcchepmicaaHOxP
namespace Go.Proofs.Ytemgmcchepmicaa
open Go.Ox
set_option maxRecDepth 100000
set_option linter.unusedVariables false
set_option linter.unusedSimpArgs false

/-! Pick -/
noncomputable def E11 : Env := { nt := 16, n0 := 0, fns := [], loop := fun _ _ => .fail }

theorem pick_fn (k n : Int) : afn Try.prog E11 Try.f11 (codeOf Try.f11) [.int .i64 k, .int .i64 n] [] = 
  T.ite (decide (n < (1 : Int))) (T.ret (AV.int IntKind.i64 (0 : Int), [])) (T.chk (!n == (0 : Int)) (T.ite (decide (Int.tmod k n < (0 : Int))) (T.ret (AV.int IntKind.i64 (IntKind.wrap IntKind.i64 (Int.tmod k n + n)), [])) (T.ret (AV.int IntKind.i64 (Int.tmod k n), [])))) := by
  kernel_rfl

def pickS : List AV → T AV
  | [.int .i64 k, .int .i64 n] => .chk (decide (n ≤ 9223372036854775807)) (.ret (.int .i64 (if n < 1 then 0 else k % n)))
  | _ => .fail

theorem pick_ok : SummOK Try.prog 11 (.pure fun args _ => pickS args) := by
  refine pure_fn (E := E11) (c := codeOf Try.f11) (fun args w => Try.call11 args w) Try.func11 rfl EnvOK.nil (noLoops (by kernel_rfl)) rfl rfl ?_
  intro args Q hq
  unfold pickS at hq ⊢
  split at hq
  · rename_i k n
    obtain ⟨hn, -⟩ := hq
    refine ⟨by simp [plainL, plain], ⟨hn, by simp [plain, T.holds]⟩, fun Q hq => ?_⟩
    obtain ⟨-, hq⟩ := hq
    rw [pick_fn]
    have hn : n ≤ 9223372036854775807 := by simpa using hn
    refine ⟨fun h1 => ?_, fun h1 => ?_⟩
    · have h1 : n < 1 := by simpa using h1
      refine ⟨by simp [plain], ?_⟩
      simpa [T.holds, h1] using hq
    · have h1 : ¬ n < 1 := by simpa using h1
      have hq : Q (AV.int .i64 (k % n)) := by simpa [T.holds, h1] using hq
      refine ⟨by simp; omega, fun h2 => ?_, fun h2 => ?_⟩
      · have h2 : k.tmod n < 0 := by simpa using h2
        refine ⟨by simp [plain], ?_⟩
        have g3 := Int.emod_lt_of_pos k (show 0 < n by omega)
        have g2 := Int.emod_nonneg k (show n ≠ 0 by omega)
        have e : IntKind.wrap .i64 (k.tmod n + n) = k % n := by rw [tmod_neg (by omega) h2, IntWalk.i64_in _ (by omega)]
        rw [e]; exact hq
      · have h2 : ¬ k.tmod n < 0 := by simpa using h2
        refine ⟨by simp [plain], ?_⟩
        have e : k.tmod n = k % n := tmod_nonneg (by omega) (by omega)
        rw [e]; exact hq
  · exact hq.elim

/-- Pick, of which it is told only that it is below. -/
def pickA : List AV → T AV
  | [.int .i64 _, .int .i64 n] => .chk (decide (1 ≤ n) && decide (n ≤ 9223372036854775807)) (.all fun c => .asm (decide ((c : Int) < n)) (.ret (.int .i64 c)))
  | _ => .fail

theorem pickA_ok : SummOK Try.prog 11 (.pure fun args _ => pickA args) := by
  refine pure_weak pick_ok fun args m Q h => ?_
  unfold pickA at h
  split at h
  · rename_i k n
    obtain ⟨h1, h⟩ := h
    simp only [Bool.and_eq_true, decide_eq_true_eq] at h1
    have g2 := Int.emod_nonneg k (show n ≠ 0 by omega)
    have g3 := Int.emod_lt_of_pos k (show 0 < n by omega)
    have := h (k % n).toNat (by rw [decide_eq_true_eq]; omega)
    rw [Int.toNat_of_nonneg g2] at this
    refine ⟨by simpa using h1.2, ?_⟩
    rw [if_neg (by omega)]; exact this
  · exact h.elim

end Go.Proofs.Ytemgmcchepmicaa
