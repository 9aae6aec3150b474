/-
  Layer 1: Lowest.
-/
import Derived.Test.YtlebekeplkkciaaHG
namespace Go.Proofs.Ytlebekeplkkciaa
open Go.Ox Go.Proofs
set_option maxRecDepth 100000
set_option maxHeartbeats 4000000
set_option linter.unusedVariables false
set_option linter.unusedSimpArgs false

theorem gcdI_zero {n d : Int} (h : n < 0 ∨ d < 0) : gcdI n d = 0 := if_pos h
theorem gcdI_pos {n d : Int} (h : ¬ (n < 0 ∨ d < 0)) : gcdI n d = gI n d := if_neg h

theorem fl_no (n d k : Int) (h : ¬ (0 ≤ n ∧ 1 ≤ d)) (ia : i64B n = true) (ib : i64B d = true) :
    (vfn Try.prog (laE Try.f7.ntmps) Try.f7 (codeOf Try.f7) [.int .i64 n, .int .i64 d, .int .i64 k]).holds fun v => v.yes = true := by
  rw [fl_fn]
  have e : ofB n d = false := decide_eq_false h
  have f1 : n < 0 ∨ d < 0 → gcdI n d = 0 := gcdI_zero
  have f2 : ¬ (n < 0 ∨ d < 0) → gcdI n d = n := fun h' => by
    have hd : d = 0 := by omega
    subst hd
    rw [gcdI_pos h']
    unfold gI
    rw [show Int.toNat 0 = 0 from rfl, Nat.gcd_zero_right]; omega
  refine T.hchk (by rw [ia, ib]; rfl) ?_
  rw [e]
  refine T.hiteP (fun hn => ?_) (fun hn => ?_)
  · have ed : decide (d ≥ 1) = false := decide_eq_false (by omega)
    rw [ed]
    refine T.h_ff (T.h_tt (T.h_ff (T.h_tt (T.hiteP (fun h1 => by omega) (fun h1 => T.hiteE (fun h2 => T.hiteN (fun h3 => T.hite (fun _ => T.hret rfl) (fun h4 => ?_)) (fun h3 => T.hite (fun _ => T.hret rfl) (fun h4 => ?_))) (fun h2 => T.hite (fun _ => T.hret rfl) (fun h4 => ?_)))))))
    · have : ¬ d < 0 := by simpa using h4
      have := f2 (by omega)
      omega
    · by_cases hd : d < 0
      · have : d ≠ 0 := by omega
        simp [hd, this] at h4
      · have : d = 0 := by omega
        simp [this] at h4
    · have : d < 0 := by simpa using h4
      have := f1 (.inr this)
      omega
  · have eg := f1 (.inl (by omega))
    have en : decide (n < 0) = true := decide_eq_true (by omega)
    have en' : (n != 0) = true := by simp; omega
    rw [eg, en, en']
    exact T.h_ff (T.h_tt (T.h_ff (T.h_tt (T.h_tt (T.h_tt (T.h_tt (T.h_tt (T.hret rfl))))))))

theorem fl_yes (n d k : Int) (h : 0 ≤ n ∧ 1 ≤ d) (ia : i64B n = true) (ib : i64B d = true) (ic : i64B k = true) :
    (vfn Try.prog (laE Try.f7.ntmps) Try.f7 (codeOf Try.f7) [.int .i64 n, .int .i64 d, .int .i64 k]).holds fun v => v.yes = true := by
  rw [fl_fn]
  have ja := i64_iff.1 ia
  have jb := i64_iff.1 ib
  have jc := i64_iff.1 ic
  have e : ofB n d = true := decide_eq_true h
  have eg : gcdI n d = gI n d := gcdI_pos (by omega)
  have g1 := gI_pos (n := n) (m := d) (by omega)
  have g2 := gI_le (n := n) (m := d) (by omega)
  have l := low_div (n := n) (d := d) (by omega) (by omega)
  have hgn : gI n d ∣ n := by
    obtain ⟨N, rfl⟩ := nat_of h.1
    obtain ⟨D, rfl⟩ := nat_of (show 0 ≤ d by omega)
    unfold gI
    simp only [Int.toNat_natCast]
    exact Int.natCast_dvd_natCast.2 (Nat.gcd_dvd_left N D)
  have hgd : gI n d ∣ d := by
    obtain ⟨N, rfl⟩ := nat_of h.1
    obtain ⟨D, rfl⟩ := nat_of (show 0 ≤ d by omega)
    unfold gI
    simp only [Int.toNat_natCast]
    exact Int.natCast_dvd_natCast.2 (Nat.gcd_dvd_right N D)
  have hn1 : n / gI n d * gI n d = n := Int.ediv_mul_cancel hgn
  have hd1 : d / gI n d * gI n d = d := Int.ediv_mul_cancel hgd
  have t1 : Int.tmod n (gI n d) = 0 := Int.tmod_eq_zero_of_dvd hgn
  have t2 : Int.tmod d (gI n d) = 0 := Int.tmod_eq_zero_of_dvd hgd
  have gg : gcdI (n / gI n d) (d / gI n d) = 1 := by
    rw [gcdI_pos (by have := l.1; have := l.2.2.1; omega)]
    unfold gI
    rw [show Nat.gcd (Int.toNat (n / ((Nat.gcd n.toNat d.toNat : Nat) : Int))) (Int.toNat (d / ((Nat.gcd n.toNat d.toNat : Nat) : Int))) = 1 from l.2.2.2.2]
    rfl
  have w1 : IntKind.wrap .i64 n = n := IntWalk.i64_in _ (by omega)
  have w2 : IntKind.wrap .i64 d = d := IntWalk.i64_in _ (by omega)
  have en : decide (n ≥ 0) = true := decide_eq_true (by omega)
  have ed : decide (d ≥ 1) = true := decide_eq_true (by omega)
  have gz : (!(gI n d == 0)) = true := by simp; omega
  have s1 : decide (gI n d < 1) = false := decide_eq_false (by omega)
  have s2 : decide (d / gI n d < 1) = false := decide_eq_false (by have := l.2.2.1; omega)
  have s3 : decide (n / gI n d < 0) = false := decide_eq_false (by have := l.1; omega)
  have hkg : k > 0 → Int.tmod n k = 0 → Int.tmod d k = 0 → Int.tmod (gI n d) k = 0 := fun hk h1 h2 => by
    obtain ⟨N, rfl⟩ := nat_of h.1
    obtain ⟨D, rfl⟩ := nat_of (show 0 ≤ d by omega)
    obtain ⟨K, rfl⟩ := nat_of (show 0 ≤ k by omega)
    have d1 : K ∣ N := Int.natCast_dvd_natCast.1 (Int.dvd_of_tmod_eq_zero h1)
    have d2 : K ∣ D := Int.natCast_dvd_natCast.1 (Int.dvd_of_tmod_eq_zero h2)
    refine Int.tmod_eq_zero_of_dvd ?_
    unfold gI
    exact Int.natCast_dvd_natCast.2 (Nat.dvd_gcd d1 d2)
  have fin : mulB n k = true → mulB d k = true → 1 ≤ k → ofB (mulN n k) (mulN d k) = true ∧ mulN n k / gI (mulN n k) (mulN d k) = n / gI n d ∧ mulN d k / gI (mulN n k) (mulN d k) = d / gI n d := fun h1 h2 hk => by
    have e1 : mulN n k = n * k := if_pos (of_decide_eq_true h1)
    have e2 : mulN d k = d * k := if_pos (of_decide_eq_true h2)
    have e3 : gI (n * k) (d * k) = gI n d * k := by
      obtain ⟨N, rfl⟩ := nat_of h.1
      obtain ⟨D, rfl⟩ := nat_of (show 0 ≤ d by omega)
      obtain ⟨K, rfl⟩ := nat_of (show 0 ≤ k by omega)
      unfold gI
      rw [← Int.natCast_mul, ← Int.natCast_mul]
      simp only [Int.toNat_natCast]
      rw [Nat.gcd_mul_right, Int.natCast_mul]
    have hnk : 0 ≤ n * k := Int.mul_nonneg h.1 (by omega)
    have hdk : 0 < d * k := Int.mul_pos (by omega) (by omega)
    rw [e1, e2, e3]
    exact ⟨decide_eq_true ⟨hnk, by omega⟩, Int.mul_ediv_mul_of_pos_left _ _ (by omega), Int.mul_ediv_mul_of_pos_left _ _ (by omega)⟩
  have im1 : i64B (mulN n k) = true := by rw [i64_iff]; unfold mulN; split <;> omega
  have im2 : i64B (mulN d k) = true := by rw [i64_iff]; unfold mulN; split <;> omega
  rw [e, eg]
  simp only [if_true, hn1, hd1, t1, t2, gg, w1, w2, en, ed, gz, s1, s2, s3, ia, ib, ic, im1, im2, Bool.and_self]
  generalize n / gI n d = p at *
  generalize d / gI n d = q at *
  have nn : (n != n) = false := by simp
  have dd : (d != d) = false := by simp
  rw [nn, dd]
  refine T.hchk rfl (T.h_tt (T.h_ff (T.h_ff (T.h_ff (T.h_ff (T.h_ff (T.h_ff (T.hchk rfl (T.h_ff (T.hchk rfl (T.h_ff (T.h_ff (T.h_ff (T.h_ff ?_))))))))))))))
  have kz : k > 0 → (!(k == 0)) = true := fun hk => by simp; omega
  refine T.hiteP (fun hk => T.hchk (kz hk) (T.hiteE (fun h1 => T.hchk (kz hk) (T.hiteE (fun h2 => T.hchk (kz hk) (T.hiteN (fun h3 => absurd (hkg hk h1 h2) h3) (fun _ => ?_))) (fun _ => ?_))) (fun _ => ?_))) (fun hk => ?_)
  all_goals
    refine T.hchk rfl (T.hchk rfl (T.hchk rfl (T.hite (fun _ => T.hret rfl) (fun h1 => T.hite (fun _ => T.hret rfl) (fun h2 => T.hiteP (fun _ => T.hret rfl) (fun hk1 => ?_))))))
    obtain ⟨f1, f2, f3⟩ := fin (by simpa using h1) (by simpa using h2) (by omega)
    rw [f1]
    simp only [if_true]
    rw [f2, f3]
    refine T.h_tt (T.hite (fun _ => T.hret rfl) (fun h => ?_))
    simp at h

theorem fl_law : ∀ args m, ArgsAV [PK.one (CK.int IntKind.i64), PK.one (CK.int IntKind.i64), PK.one (CK.int IntKind.i64)] [] args m → Walks Try.prog Try.f7 (codeOf Try.f7) args m := by
  intro args m h
  obtain ⟨n, _, rfl, ha, h⟩ := args_int h
  obtain ⟨d, _, rfl, hb, h⟩ := args_int h
  obtain ⟨k, _, rfl, hc, h⟩ := args_int h
  obtain ⟨rfl, rfl⟩ := args_nil h
  refine ⟨laE Try.f7.ntmps, laE_ok _, noLoops (by kernel_rfl), rfl, rfl, vfn_yes ?_⟩
  by_cases hh : 0 ≤ n ∧ 1 ≤ d
  · exact fl_yes n d k hh (i64_iff.2 (bounds_i64 ha)) (i64_iff.2 (bounds_i64 hb)) (i64_iff.2 (bounds_i64 hc))
  · exact fl_no n d k hh (i64_iff.2 (bounds_i64 ha)) (i64_iff.2 (bounds_i64 hb))

end Go.Proofs.Ytlebekeplkkciaa
