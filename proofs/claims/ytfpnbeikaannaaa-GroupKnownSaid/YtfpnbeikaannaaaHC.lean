/-
  Layer 8: GroupHalves.
-/
import Derived.Test.YtfpnbeikaannaaaHB
namespace Go.Proofs.Ytfpnbeikaannaaa
open Go.Ox
set_option maxRecDepth 100000
set_option linter.unusedVariables false
set_option linter.unusedSimpArgs false

theorem ceil2 {A p : Int} (hp : 0 < p) : (2 * A + 2 * p - 1) / (2 * p) = (A + p - 1) / p := by
  have h1 := Int.mul_ediv_add_emod (A + p - 1) p
  have h2 := Int.emod_nonneg (A + p - 1) (show p ≠ 0 by omega)
  have h3 := Int.emod_lt_of_pos (A + p - 1) hp
  generalize (A + p - 1) / p = q at *
  generalize (A + p - 1) % p = r at *
  have e : q * (2 * p) = 2 * (p * q) := by rw [Int.mul_left_comm, Int.mul_comm q p]
  have e' : (q + 1) * (2 * p) = 2 * (p * q) + 2 * p := by rw [Int.add_mul, Int.one_mul, e]
  refine Int.le_antisymm (Int.lt_add_one_iff.1 ((Int.ediv_lt_iff_lt_mul (by omega)).2 ?_)) ((Int.le_ediv_iff_mul_le (by omega)).2 ?_)
  · rw [e']; omega
  · rw [e]; omega

theorem ha_law (x p g : Int) (w : World) : Calls Try.prog 7 #[.int .i64 x, .int .i64 p, .int .i64 g] w fun e w' => e = .returned (.bool true) ∧ RowKit.Grown w w' := by
  refine law_walk (E := haE) (c := codeOf Try.f7) Try.func7 rfl inE_ok (noLoops (by kernel_rfl)) rfl rfl [.int .i64 x, .int .i64 p, .int .i64 g] rfl (by simp [concL, conc]) ?_ w
  rw [ha_fn]
  have hy : (AV.bool true, ([] : AM)).1.yes = true := rfl
  refine T.hite (fun _ => hy) (fun a1 => T.hite (fun _ => hy) (fun a2 => T.hite (fun _ => hy) (fun a3 => T.hchk rfl ?_)))
  simp only [decide_eq_false_iff_not] at a1 a2 a3
  have w1 : IntKind.wrap .i64 (Int.tdiv g 2) = g / 2 := by rw [Int.tdiv_eq_ediv_of_nonneg (by omega), IntWalk.i64_in _ (by omega)]
  rw [w1]
  refine T.hite (fun _ => hy) (fun a4 => T.hite (fun _ => hy) (fun a5 => T.hite (fun _ => hy) (fun a6 => T.hchk rfl ?_)))
  simp only [decide_eq_false_iff_not] at a4 a5 a6
  have w2 : IntKind.wrap .i64 (2 * p) = 2 * p := IntWalk.i64_in _ (by omega)
  have b1 := owG_eq (x := x) (p := p) (g := g) (by omega) (by omega) (by omega) (by omega) (by omega)
  have b2 := owG_eq (x := x) (p := 2 * p) (g := g) (by omega) (by omega) (by omega) (by omega) (by omega)
  have m0 : 0 ≤ x * p := Int.mul_nonneg (by omega) (by omega)
  have hi0 : 0 ≤ x * p / g := Int.ediv_nonneg (by omega) (by omega)
  have hi1 : x * p / g < p := (Int.ediv_lt_iff_lt_mul (by omega)).2 (by rw [Int.mul_comm p g]; exact Int.mul_lt_mul_of_pos_right (by omega) (by omega))
  have d2 : x * (2 * p) / g / 2 = x * p / g := by
    rw [Int.ediv_ediv, if_neg (fun h => by omega), Int.sub_zero, Int.mul_left_comm, Int.mul_comm g 2, Int.mul_ediv_mul_of_pos _ _ (by omega)]
  have d3 : 0 ≤ x * (2 * p) / g := Int.ediv_nonneg (Int.mul_nonneg (by omega) (by omega)) (by omega)
  have w3 : IntKind.wrap .i64 (Int.tdiv (x * (2 * p) / g) 2) = x * p / g := by rw [Int.tdiv_eq_ediv_of_nonneg d3, d2, IntWalk.i64_in _ (by omega)]
  rw [w2, b1, b2, w3]
  generalize x * p / g = i at *
  have w4 : IntKind.wrap .i64 (2 * i) = 2 * i := IntWalk.i64_in _ (by omega)
  have w5 : IntKind.wrap .i64 (2 * i + 1) = 2 * i + 1 := IntWalk.i64_in _ (by omega)
  have k1 : raG i p g = true := by simp [raG, okG]; omega
  have k2 : raG (2 * i) (2 * p) g = true := by simp [raG, okG]; omega
  have k3 : raG (2 * i + 1) (2 * p) g = true := by simp [raG, okG]; omega
  have l1 : loG (2 * i) (2 * p) g = loG i p g := by
    unfold loG; rw [Int.mul_assoc]; exact ceil2 (by omega)
  have l2 : loG (2 * i + 1 + 1) (2 * p) g = loG (i + 1) p g := by
    unfold loG; rw [show 2 * i + 1 + 1 = 2 * (i + 1) by omega, Int.mul_assoc]; exact ceil2 (by omega)
  rw [w4, w5]
  simp only [rlo, rhi, k1, k2, k3, if_true, l1, l2]
  simp [T.holds, AV.yes]

end Go.Proofs.Ytfpnbeikaannaaa
