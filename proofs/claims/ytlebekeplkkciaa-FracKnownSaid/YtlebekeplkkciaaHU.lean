/-
  Layer 1: Plus.
-/
import Derived.Test.YtlebekeplkkciaaHR
namespace Go.Proofs.Ytlebekeplkkciaa
open Go.Ox Go.Proofs
set_option maxRecDepth 100000
set_option maxHeartbeats 4000000
set_option linter.unusedVariables false
set_option linter.unusedSimpArgs false

theorem gI_mod {s g : Int} (hs : 0 ≤ s) (hg : 0 < g) : gcdI (s % g) g = gI s g := by
  have h1 := Int.emod_nonneg s (show g ≠ 0 by omega)
  rw [gcdI_ge (by omega)]
  obtain ⟨S, rfl⟩ := nat_of hs
  obtain ⟨G, rfl⟩ := nat_of (show 0 ≤ g by omega)
  rw [← Int.natCast_emod]
  unfold gI
  simp only [Int.toNat_natCast]
  rw [Nat.gcd_comm S G, Nat.gcd_rec G S]

theorem pls_ok : SummOK Try.prog 22 (.pure fun args _ => psS args) := by
  refine val_fn (E := plE Try.f22.ntmps) (c := codeOf Try.f22) (fun args w => Try.call22 args w) Try.func22 rfl (plE_ok _) (noLoops (by kernel_rfl)) rfl rfl ?_
  intro args Q hq
  unfold psS at hq ⊢
  split at hq
  · rename_i a b c d
    obtain ⟨l1, l2, hq⟩ := hq
    refine ⟨rfl, _, rfl, fun Q h => h.2.2, ⟨l1, l2, rfl⟩, ?_⟩
    obtain ⟨ra, rb, rb1⟩ := low_rng l1
    obtain ⟨rc, rd, rd1⟩ := low_rng l2
    have g1 := gI_pos (n := b) (m := d) (by omega)
    have g2 := gI_le (n := b) (m := d) (by omega)
    obtain ⟨d1, d2⟩ := gI_dvd (n := b) (m := d) (by omega) (by omega)
    have q1 := ediv_bd rb.1 g1
    have q2 := ediv_bd rd.1 g1
    have rq1 : 0 ≤ b / gI b d ∧ b / gI b d ≤ 9223372036854775807 := by omega
    have rq2 : 0 ≤ d / gI b d ∧ d / gI b d ≤ 9223372036854775807 := by omega
    obtain ⟨s1, s2⟩ := sum_int l1 l2
    have eg : gcdI b d = gI b d := gcdI_ge (by omega)
    have m1 := mul_n ra rq2
    have m2 := mul_n rc rq1
    rw [pl_fn]
    have hu1 : (!(decide (a ≥ 0) && decide (b ≥ 1))) = false := by simp; omega
    have hu2 : (!(decide (c ≥ 0) && decide (d ≥ 1))) = false := by simp; omega
    rw [hu1, hu2]
    refine T.h_ff (T.h_ff ?_)
    simp only [eg, Int.tdiv_eq_ediv_of_nonneg rb.1, Int.tdiv_eq_ediv_of_nonneg rd.1, i_n rq1, i_n rq2, u_n ra, u_n rc, u_n rq1, u_n rq2, W_hilo m1.1 (by omega : a * (d / gI b d) < 340282366920938463463374607431768211456), W_hilo m2.1 (by omega : c * (b / gI b d) < 340282366920938463463374607431768211456),
      W_hilo (by omega : 0 ≤ a * (d / gI b d) + c * (b / gI b d)) (by omega : a * (d / gI b d) + c * (b / gI b d) < 340282366920938463463374607431768211456), u64_hi, u64_lo, ub_n ra, ub_n rc, ub_n rq1, ub_n rq2, Bool.and_self, Bool.true_and]
    have hs0 : 0 ≤ a * (d / gI b d) + c * (b / gI b d) := by omega
    have hs1 : a * (d / gI b d) + c * (b / gI b d) < 340282366920938463463374607431768211456 := by omega
    obtain ⟨s, hs⟩ : ∃ s, s = a * (d / gI b d) + c * (b / gI b d) := ⟨_, rfl⟩
    rw [← hs] at s1 s2 hs0 hs1
    simp only [← hs]
    have em := gI_mod hs0 g1
    have k1 := gI_pos (n := s) g1
    have k2 := gI_le (n := s) g1
    obtain ⟨k3, k4⟩ := gI_dvd (n := s) (m := gI b d) hs0 (by omega)
    simp only [em]
    have q3 := ediv_bd hs0 k1
    have q4 := ediv_bd rd.1 k1
    have rq4 : 0 ≤ d / gI s (gI b d) ∧ d / gI s (gI b d) ≤ 9223372036854775807 := by omega
    simp only [Int.tdiv_eq_ediv_of_nonneg rd.1, i_n rq4, W_hilo q3.1 (by omega : s / gI s (gI b d) < 340282366920938463463374607431768211456), u64_hi, u64_lo, Bool.and_self, Bool.true_and]
    have x1 : (a * d + c * b) / gI (a * d + c * b) (b * d) = s / gI s (gI b d) := by
      rw [s2, s1]
      obtain ⟨t, ht⟩ := k3
      generalize gI s (gI b d) = h at *
      rw [ht, Int.mul_ediv_cancel_left _ (by omega), ← Int.mul_assoc, Int.mul_ediv_cancel_left _ (Int.mul_ne_zero (by omega) (by omega))]
    have x2 : b * d / gI (a * d + c * b) (b * d) = b / gI b d * (d / gI s (gI b d)) := by
      rw [s2]; exact quot_mul (by omega) (by omega) d1 (Int.dvd_trans k4 d2)
    have p1 : 0 ≤ b / gI b d * (d / gI s (gI b d)) := Int.mul_nonneg q1.1 q4.1
    unfold resA rOk
    rw [x1, x2, ← mulB_pos p1]
    have z1 : (!(gI b d == 0)) = true := by simp; omega
    have z2 : (!(gI s (gI b d) == 0)) = true := by simp; omega
    repeat' first | with_reducible refine T.hneed rfl ?_ | with_reducible refine T.hneed trivial ?_ | with_reducible refine T.hchk rfl ?_ | with_reducible refine T.hchk z1 ?_ | with_reducible refine T.hchk z2 ?_ | with_reducible refine T.hchk ?_ ?_ | with_reducible refine T.hite (fun _ => ?_) (fun _ => ?_)
    all_goals first
      | (simp only [Bool.and_eq_true, n64_iff, i64_iff, decide_eq_true_eq]; omega)
      | skip
    · rename_i h
      refine T.hret ?_
      rw [h]
      have h' : s / gI s (gI b d) ≤ 9223372036854775807 := of_decide_eq_true h
      cases h2 : mulB (b / gI b d) (d / gI s (gI b d)) with
      | true => simp only [if_true, Bool.and_self, asN, if_pos h']; rw [mulN_yes h2]; exact Ox.Alike_refl _
      | false => exact Ox.Alike_refl _
    · rename_i h
      refine T.hret ?_
      rw [h]
      exact Ox.Alike_refl _
  · exact hq.elim

/-- What the laws of sums and products stand on. -/
noncomputable def lbE (nt : Nat) : Env := { nt, n0 := 0, loop := fun _ _ => .fail, fns := (22, .pure fun args _ => psS args) :: (23, .pure fun args _ => psS args) :: (20, .pure fun args _ => tmS args) :: (21, .pure fun args _ => tmS args) :: (laE nt).fns }

theorem lbE_ok (nt : Nat) : EnvOK Try.prog (lbE nt).fns := EnvOK.cons pls_ok (EnvOK.cons rpl_ok (EnvOK.cons tim_ok (EnvOK.cons rti_ok (laE_ok nt))))

theorem fr_fn (n d a b c e : Int) : vfn Try.prog (lbE Try.f4.ntmps) Try.f4 (codeOf Try.f4) [.int .i64 n, .int .i64 d, .agg [.int .i64 a, .int .i64 b], .agg [.int .i64 c, .int .i64 e]] = 
  T.chk (i64B n && i64B d)
    (T.chk (i64B n && i64B d)
      (T.ite (!(((if ofB n d = true then n / gI n d else (0 : Int)) == if ofB n d = true then n / gI n d else (0 : Int)) && (((if ofB n d = true then d / gI n d else (0 : Int)) == if ofB n d = true then d / gI n d else (0 : Int)) && true))) (T.ret AV.ff)
        (T.ite (!ofB n d == ofB n d) (T.ret AV.ff)
          (T.chk (i64B a && i64B b)
            (T.chk (i64B c && i64B e)
              (T.need (Low (rtN a b) (rtD a b))
                (T.need (Low (rtN c e) (rtD c e))
                  (T.need (Low (rtN a b) (rtD a b))
                    (T.need (Low (rtN c e) (rtD c e))
                      (T.need (Low (rtN a b) (rtD a b))
                        (T.need (Low (rtN c e) (rtD c e))
                          (T.need (Low (rtN a b) (rtD a b))
                            (T.need (Low (rtN c e) (rtD c e))
                              (T.ite
                                (((if rOk (rtN a b * rtN c e) (rtD a b * rtD c e) = true then rtN a b * rtN c e / gI (rtN a b * rtN c e) (rtD a b * rtD c e) else (0 : Int)) == if rOk (rtN a b * rtN c e) (rtD a b * rtD c e) = true then rtN a b * rtN c e / gI (rtN a b * rtN c e) (rtD a b * rtD c e) else (0 : Int)) &&
                                  (((if rOk (rtN a b * rtN c e) (rtD a b * rtD c e) = true then rtD a b * rtD c e / gI (rtN a b * rtN c e) (rtD a b * rtD c e) else (0 : Int)) == if rOk (rtN a b * rtN c e) (rtD a b * rtD c e) = true then rtD a b * rtD c e / gI (rtN a b * rtN c e) (rtD a b * rtD c e) else (0 : Int)) && true))
                                (T.ite (rOk (rtN a b * rtN c e) (rtD a b * rtD c e) == rOk (rtN a b * rtN c e) (rtD a b * rtD c e))
                                  (T.ite
                                    (((if rOk (rtN a b * rtD c e + rtN c e * rtD a b) (rtD a b * rtD c e) = true then (rtN a b * rtD c e + rtN c e * rtD a b) / gI (rtN a b * rtD c e + rtN c e * rtD a b) (rtD a b * rtD c e) else (0 : Int)) ==
                                        if rOk (rtN a b * rtD c e + rtN c e * rtD a b) (rtD a b * rtD c e) = true then (rtN a b * rtD c e + rtN c e * rtD a b) / gI (rtN a b * rtD c e + rtN c e * rtD a b) (rtD a b * rtD c e) else (0 : Int)) &&
                                      (((if rOk (rtN a b * rtD c e + rtN c e * rtD a b) (rtD a b * rtD c e) = true then rtD a b * rtD c e / gI (rtN a b * rtD c e + rtN c e * rtD a b) (rtD a b * rtD c e) else (0 : Int)) == if rOk (rtN a b * rtD c e + rtN c e * rtD a b) (rtD a b * rtD c e) = true then rtD a b * rtD c e / gI (rtN a b * rtD c e + rtN c e * rtD a b) (rtD a b * rtD c e) else (0 : Int)) &&
                                        true))
                                    (T.ite (rOk (rtN a b * rtD c e + rtN c e * rtD a b) (rtD a b * rtD c e) == rOk (rtN a b * rtD c e + rtN c e * rtD a b) (rtD a b * rtD c e))
                                      (T.chk (n64 (rtN a b) && n64 (rtD a b) && (n64 (rtN c e) && n64 (rtD c e)))
                                        (T.chk (n64 (rtN a b) && n64 (rtD a b) && (n64 (rtN c e) && n64 (rtD c e)))
                                          (T.ite (cmpI (rtN a b * rtD c e) (rtN c e * rtD a b) == cmpI (rtN a b * rtD c e) (rtN c e * rtD a b)) (T.chk (n64 (rtN a b) && n64 (rtD a b) && decide ((1 : Int) ≤ rtD a b)) (T.chk (n64 (rtN a b) && n64 (rtD a b) && decide ((1 : Int) ≤ rtD a b)) (T.ite (ceilI (rtN a b) (rtD a b) == ceilI (rtN a b) (rtD a b)) (T.ret (AV.bool true)) (T.ret AV.ff))))
                                            (T.ret AV.ff))))
                                      (T.ret AV.ff))
                                    (T.ret AV.ff))
                                  (T.ret AV.ff))
                                (T.ret AV.ff))))))))))))))) := by
  kernel_rfl

end Go.Proofs.Ytlebekeplkkciaa
