/-
  Layer 1: Ints, Order, Lowest.
-/
import Derived.Test.YtlebekeplkkciaaHF
namespace Go.Proofs.Ytlebekeplkkciaa
open Go.Ox Go.Proofs
set_option maxRecDepth 100000
set_option maxHeartbeats 4000000
set_option linter.unusedVariables false
set_option linter.unusedSimpArgs false

theorem fi_law : ∀ args m, ArgsAV [PK.one (CK.int IntKind.i64), PK.one (CK.int IntKind.i64)] [] args m → Walks Try.prog Try.f3 (codeOf Try.f3) args m := by
  intro args m h
  obtain ⟨a, _, rfl, ha, h⟩ := args_int h
  obtain ⟨b, _, rfl, hb, h⟩ := args_int h
  obtain ⟨rfl, rfl⟩ := args_nil h
  refine ⟨laE Try.f3.ntmps, laE_ok _, noLoops (by kernel_rfl), rfl, rfl, vfn_yes ?_⟩
  have ia : i64B a = true := i64_iff.2 (bounds_i64 ha)
  have ib : i64B b = true := i64_iff.2 (bounds_i64 hb)
  have hc : (i64B a && i64B b) = true := by rw [ia, ib]; rfl
  rw [fi_fn]
  refine T.hchk hc (T.hchk hc (T.hchk hc (T.hchk hc (T.hite (fun _ => T.hite (fun _ => T.hite (fun _ => T.hite (fun _ => T.hchk hc (T.hite (fun _ => T.hret rfl) (fun h => ?_))) (fun h => ?_)) (fun h => ?_)) (fun h => ?_)) (fun h => ?_)))))
  all_goals simp at h

theorem nat_of {n : Int} (h : 0 ≤ n) : ∃ N : Nat, n = N := ⟨n.toNat, by omega⟩

theorem low_eq {a b c d : Int} (h1 : Low a b) (h2 : Low c d) (h : a * d = c * b) : a = c ∧ b = d := by
  obtain ⟨a0, _, b0, _, g1⟩ := h1
  obtain ⟨c0, _, d0, _, g2⟩ := h2
  obtain ⟨A, rfl⟩ := nat_of a0
  obtain ⟨B, rfl⟩ := nat_of (show 0 ≤ b by omega)
  obtain ⟨C, rfl⟩ := nat_of c0
  obtain ⟨D, rfl⟩ := nat_of (show 0 ≤ d by omega)
  simp only [Int.toNat_natCast] at g1 g2
  have hn : A * D = C * B := by exact_mod_cast h
  have d1 : A ∣ C := Nat.Coprime.dvd_of_dvd_mul_right (show Nat.Coprime A B from g1) (hn ▸ Nat.dvd_mul_right A D)
  have d2 : C ∣ A := Nat.Coprime.dvd_of_dvd_mul_right (show Nat.Coprime C D from g2) (hn ▸ Nat.dvd_mul_right C B)
  have e : A = C := Nat.dvd_antisymm d1 d2
  subst e
  refine ⟨rfl, ?_⟩
  rcases Nat.eq_zero_or_pos A with h0 | h0
  · subst h0
    rw [Nat.gcd_zero_left] at g1 g2
    omega
  · have := Nat.eq_of_mul_eq_mul_left h0 hn
    omega

theorem cmp_neg (p q : Int) : IntKind.wrap .i64 (0 - cmpI p q) = cmpI q p := by
  unfold cmpI
  rw [IntKind.wrap_i64]
  split <;> split <;> (try split) <;> (try split) <;> omega
theorem cmp_self (p : Int) : cmpI p p = 0 := by unfold cmpI; rw [if_neg (by omega), if_pos rfl]
theorem cmp_rng (p q : Int) : -1 ≤ cmpI p q ∧ cmpI p q ≤ 1 := by unfold cmpI; split <;> (try split) <;> omega
theorem cmp_le {p q : Int} : cmpI p q ≤ 0 ↔ p ≤ q := by unfold cmpI; split <;> (try split) <;> omega
theorem cmp_eq {p q : Int} : cmpI p q = 0 ↔ p = q := by unfold cmpI; split <;> (try split) <;> omega
theorem cmp_lt {p q : Int} : cmpI p q < 0 ↔ p < q := by unfold cmpI; split <;> (try split) <;> omega

theorem ceil_facts {n d : Int} (hn : 0 ≤ n ∧ n ≤ 9223372036854775807) (hd : 1 ≤ d) : 0 ≤ ceilI n d ∧ ceilI n d ≤ 9223372036854775807 ∧ n ≤ ceilI n d * d ∧ (ceilI n d - 1) * d < n := by
  have h1 := ediv_bd hn.1 (show 0 < d by omega)
  have h2 := Int.mul_ediv_add_emod n d
  have h4 := Int.emod_nonneg n (show d ≠ 0 by omega)
  have h5 := Int.emod_lt_of_pos n (show 0 < d by omega)
  have e1 : (n / d - 1) * d = d * (n / d) - d := by rw [Int.sub_mul, Int.one_mul, Int.mul_comm]
  have e2 : (n / d + 1) * d = d * (n / d) + d := by rw [Int.add_mul, Int.one_mul, Int.mul_comm]
  have e3 : n / d * d = d * (n / d) := Int.mul_comm _ _
  unfold ceilI
  split
  · refine ⟨h1.1, by omega, by omega, by omega⟩
  · rename_i hne
    have hd1 : d ≠ 1 := fun e => hne (by rw [e]; exact Int.emod_one n)
    have h3 : 2 * (n / d) ≤ d * (n / d) := Int.mul_le_mul_of_nonneg_right (by omega) h1.1
    refine ⟨by omega, by omega, by omega, ?_⟩
    rw [show n / d + 1 - 1 = n / d from by omega]
    omega

theorem cmp_trans {a b c d e f : Int} (hb : 0 < b) (hd : 0 < d) (hf : 0 < f) (h1 : a * d ≤ c * b) (h2 : c * f ≤ e * d) : a * f ≤ e * b := by
  have h3 : a * d * f ≤ c * b * f := Int.mul_le_mul_of_nonneg_right h1 (Int.le_of_lt hf)
  have h4 : c * f * b ≤ e * d * b := Int.mul_le_mul_of_nonneg_right h2 (Int.le_of_lt hb)
  have e1 : a * d * f = d * (a * f) := by ac_rfl
  have e2 : c * b * f = c * f * b := by ac_rfl
  have e3 : e * d * b = d * (e * b) := by ac_rfl
  rw [e1, e2] at h3
  rw [e3] at h4
  exact Int.le_of_mul_le_mul_left (Int.le_trans h3 h4) hd

theorem low_n64 {n d : Int} (h : Low n d) : n64 n = true ∧ n64 d = true ∧ decide (1 ≤ d) = true := by
  obtain ⟨h1, h2, h3, h4, _⟩ := h
  exact ⟨n64_iff.2 ⟨h1, h2⟩, n64_iff.2 ⟨by omega, h4⟩, decide_eq_true h3⟩

theorem fo_holds (a b c d e f : Int) (ha : i64B a = true) (hb : i64B b = true) (hc : i64B c = true) (hd : i64B d = true) (he : i64B e = true) (hf : i64B f = true) :
    (vfn Try.prog (laE Try.f5.ntmps) Try.f5 (codeOf Try.f5) [.agg [.int .i64 a, .int .i64 b], .agg [.int .i64 c, .int .i64 d], .agg [.int .i64 e, .int .i64 f]]).holds fun v => v.yes = true := by
  rw [fo_fn]
  have l1 := rt_low ha hb
  have l2 := rt_low hc hd
  have l3 := rt_low he hf
  generalize rtN a b = n1 at *
  generalize rtD a b = d1 at *
  generalize rtN c d = n2 at *
  generalize rtD c d = d2 at *
  generalize rtN e f = n3 at *
  generalize rtD e f = d3 at *
  obtain ⟨b1, b2, b3⟩ := low_n64 l1
  obtain ⟨b4, b5, b6⟩ := low_n64 l2
  obtain ⟨b7, b8, b9⟩ := low_n64 l3
  have f1 := cmp_neg (n1 * d2) (n2 * d1)
  have f3 := cmp_self (n1 * d1)
  have f4 := cmp_rng (n1 * d2) (n2 * d1)
  have f2 : (cmpI (n1 * d2) (n2 * d1) == 0) = (n1 == n2 && (d1 == d2 && true)) := by
    rw [Bool.eq_iff_iff]
    simp only [beq_iff_eq, Bool.and_eq_true, and_true, cmp_eq]
    exact ⟨fun h => low_eq l1 l2 h, fun h => by rw [h.1, h.2]⟩
  have f6 : cmpI (n1 * d2) (n2 * d1) ≤ 0 → cmpI (n2 * d3) (n3 * d2) ≤ 0 → cmpI (n1 * d3) (n3 * d1) ≤ 0 := fun h h' => cmp_le.2 (cmp_trans (by have := l1.2.2.1; omega) (by have := l2.2.2.1; omega) (by have := l3.2.2.1; omega) (cmp_le.1 h) (cmp_le.1 h'))
  obtain ⟨c1, c2, c3, c4⟩ := ceil_facts (d := d1) ⟨l1.1, l1.2.1⟩ l1.2.2.1
  have bc : n64 (ceilI n1 d1) = true := n64_iff.2 ⟨c1, c2⟩
  have bo : n64 1 = true := by decide
  have f7 : cmpI (ceilI n1 d1 * d1) (n1 * 1) ≥ 0 := by
    have : ¬ cmpI (ceilI n1 d1 * d1) (n1 * 1) < 0 := fun h => by
      have := cmp_lt.1 h
      omega
    omega
  have fw : ceilI n1 d1 > 0 → IntKind.wrap .i64 (ceilI n1 d1 - 1) = ceilI n1 d1 - 1 := fun h => IntWalk.i64_in _ (by omega)
  have f8 : ceilI n1 d1 > 0 → n64 (IntKind.wrap .i64 (ceilI n1 d1 - 1)) = true ∧ cmpI (IntKind.wrap .i64 (ceilI n1 d1 - 1) * d1) (n1 * 1) < 0 := fun h => by
    rw [fw h]
    exact ⟨n64_iff.2 ⟨by omega, by omega⟩, cmp_lt.2 (by omega)⟩
  have g2 : (!((cmpI (n1 * d2) (n2 * d1) == 0) == (n1 == n2 && (d1 == d2 && true)))) = false := by rw [f2]; simp
  rw [g2]
  simp only [ha, hb, hc, hd, he, hf, b1, b2, b3, b4, b5, b6, b7, b8, b9, bc, bo, Bool.and_self, Bool.true_and]
  refine T.hchk rfl (T.hchk rfl (T.hchk rfl (T.hchk rfl (T.hchk rfl (T.hiteN (fun h => absurd f1.symm h) (fun _ => T.h_ff (T.hchk rfl (T.hiteN (fun h => absurd f3 h) (fun _ => T.hiteP (fun h => by omega) (fun _ => T.hiteP (fun h => by omega) (fun _ => ?_)))))))))))
  refine T.hiteP (fun h => T.hchk rfl (T.hiteP (fun h' => T.hchk rfl (T.hiteP (fun h2 => absurd (f6 h h') (by omega)) (fun _ => ?_))) (fun _ => ?_))) (fun _ => ?_)
  all_goals exact T.hchk rfl (T.hiteP (fun h => absurd h (by omega)) (fun _ => T.hchk rfl (T.hiteP (fun h => absurd h (by omega)) (fun _ => T.hiteP (fun h => T.hchk (by rw [(f8 h).1]; rfl) (T.hiteP (fun h' => absurd h' (by have := (f8 h).2; omega)) (fun _ => T.hret rfl))) (fun _ => T.hret rfl)))))

theorem fo_law : ∀ args m, ArgsAV [PK.agg [CK.int IntKind.i64, CK.int IntKind.i64], PK.agg [CK.int IntKind.i64, CK.int IntKind.i64], PK.agg [CK.int IntKind.i64, CK.int IntKind.i64]] [] args m → Walks Try.prog Try.f5 (codeOf Try.f5) args m := by
  intro args m h
  obtain ⟨_, _, _, rfl, k, h⟩ := args_agg h
  obtain ⟨a, _, rfl, ha, k⟩ := cells_int k
  obtain ⟨b, _, rfl, hb, k⟩ := cells_int k
  obtain ⟨rfl, rfl⟩ := cells_nil k
  obtain ⟨_, _, _, rfl, k, h⟩ := args_agg h
  obtain ⟨c, _, rfl, hc, k⟩ := cells_int k
  obtain ⟨d, _, rfl, hd, k⟩ := cells_int k
  obtain ⟨rfl, rfl⟩ := cells_nil k
  obtain ⟨_, _, _, rfl, k, h⟩ := args_agg h
  obtain ⟨e, _, rfl, he, k⟩ := cells_int k
  obtain ⟨f, _, rfl, hf, k⟩ := cells_int k
  obtain ⟨rfl, rfl⟩ := cells_nil k
  obtain ⟨rfl, rfl⟩ := args_nil h
  exact ⟨laE Try.f5.ntmps, laE_ok _, noLoops (by kernel_rfl), rfl, rfl, vfn_yes (fo_holds a b c d e f (i64_iff.2 (bounds_i64 ha)) (i64_iff.2 (bounds_i64 hb)) (i64_iff.2 (bounds_i64 hc)) (i64_iff.2 (bounds_i64 hd)) (i64_iff.2 (bounds_i64 he)) (i64_iff.2 (bounds_i64 hf)))⟩

end Go.Proofs.Ytlebekeplkkciaa
