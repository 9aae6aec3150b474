/-
  Layer 1: Sums.
-/
import Derived.Test.YtlebekeplkkciaaHX
namespace Go.Proofs.Ytlebekeplkkciaa
open Go.Ox Go.Proofs
set_option maxRecDepth 100000
set_option maxHeartbeats 8000000
set_option linter.unusedVariables false
set_option linter.unusedSimpArgs false

theorem same_val {n m n' m' : Int} (hn : 0 ≤ n) (hm : 0 < m) (hn' : 0 ≤ n') (hm' : 0 < m') (h : rOk n m = true) (h' : rOk n' m' = true) (e : n * m' = n' * m) : rp n m = rp n' m' ∧ rq n m = rq n' m' := by
  have hc := res_cmp hn hm hn' hm' h h'
  rw [e, cmp_self] at hc
  exact low_eq (res_of hn hm h).1 (res_of hn' hm' h').1 (cmp_eq.1 hc)

theorem res_low {n d : Int} (l : Low n d) : rp n d = n ∧ rq n d = d := by
  have g : gI n d = 1 := by
    unfold gI
    rw [l.2.2.2.2]; rfl
  have h : rOk n d = true := by
    unfold rOk
    rw [g, Int.ediv_one, Int.ediv_one]
    simp only [Bool.and_eq_true, decide_eq_true_eq]
    exact ⟨l.2.1, l.2.2.2.1⟩
  unfold rp rq
  rw [if_pos h, if_pos h, g, Int.ediv_one, Int.ediv_one]
  exact ⟨rfl, rfl⟩

theorem res_nought {d : Int} (l : 0 < d) : rp 0 d = 0 ∧ rq 0 d = 1 := by
  have g : gI 0 d = d := by
    unfold gI
    rw [show Int.toNat 0 = 0 from rfl, Nat.gcd_zero_left]; omega
  have h : rOk 0 d = true := by
    unfold rOk
    rw [g, Int.zero_ediv, Int.ediv_self (Int.ne_of_gt l)]
    decide
  exact ⟨(res_zero l).1, (res_zero l).2 h⟩

theorem assoc_poly {n1 d1 n2 d2 n3 d3 P Q G P' Q' G' : Int} (hG : 0 < G) (hG' : 0 < G') (e1 : n1 * d2 + n2 * d1 = P * G) (e2 : d1 * d2 = Q * G) (e3 : n2 * d3 + n3 * d2 = P' * G') (e4 : d2 * d3 = Q' * G') :
    (P * d3 + n3 * Q) * (d1 * Q') = (n1 * Q' + P' * d1) * (Q * d3) := by
  refine Int.eq_of_mul_eq_mul_right (Int.ne_of_gt (Int.mul_pos hG hG')) ?_
  have a1 : (P * d3 + n3 * Q) * (d1 * Q') * (G * G') = ((P * G) * d3 + n3 * (Q * G)) * (d1 * (Q' * G')) := by
    simp only [Int.add_mul, Int.mul_add]; congr 1 <;> ac_rfl
  have a2 : (n1 * Q' + P' * d1) * (Q * d3) * (G * G') = (n1 * (Q' * G') + (P' * G') * d1) * ((Q * G) * d3) := by
    simp only [Int.add_mul, Int.mul_add]; congr 1 <;> ac_rfl
  rw [a1, a2, ← e1, ← e2, ← e3, ← e4]
  simp only [Int.add_mul, Int.mul_add, Int.mul_assoc, Int.mul_comm, Int.mul_left_comm, Int.add_assoc, Int.add_comm, Int.add_left_comm]

theorem dist_poly {n1 d1 n2 d2 n3 d3 P Q G A B K A' B' K' : Int} (hG : 0 < G) (hK : 0 < K) (hK' : 0 < K') (e1 : n1 * d2 + n2 * d1 = P * G) (e2 : d1 * d2 = Q * G) (e3 : n1 * n3 = A * K) (e4 : d1 * d3 = B * K) (e5 : n2 * n3 = A' * K') (e6 : d2 * d3 = B' * K') :
    (A * B' + A' * B) * (Q * d3) = (P * n3) * (B * B') := by
  refine Int.eq_of_mul_eq_mul_right (Int.ne_of_gt (Int.mul_pos hG (Int.mul_pos hK hK'))) ?_
  have a1 : (A * B' + A' * B) * (Q * d3) * (G * (K * K')) = ((A * K) * (B' * K') + (A' * K') * (B * K)) * ((Q * G) * d3) := by
    simp only [Int.add_mul, Int.mul_add]; congr 1 <;> ac_rfl
  have a2 : (P * n3) * (B * B') * (G * (K * K')) = ((P * G) * n3) * ((B * K) * (B' * K')) := by ac_rfl
  rw [a1, a2, ← e1, ← e2, ← e3, ← e4, ← e5, ← e6]
  simp only [Int.add_mul, Int.mul_add, Int.mul_assoc, Int.mul_comm, Int.mul_left_comm, Int.add_assoc, Int.add_comm, Int.add_left_comm]

theorem low01 : Low 0 1 := ⟨by decide, by decide, by decide, by decide, by decide⟩
theorem low11 : Low 1 1 := ⟨by decide, by decide, by decide, by decide, by decide⟩

theorem rp_pos {n m : Int} (h : rOk n m = true) : rp n m = n / gI n m := if_pos h
theorem rq_pos {n m : Int} (h : rOk n m = true) : rq n m = m / gI n m := if_pos h

theorem su_ge {a b c d : Int} (l1 : Low a b) (l2 : Low c d) (h : rOk (a * d + c * b) (b * d) = true) : ¬ cmpI (rp (a * d + c * b) (b * d) * b) (a * rq (a * d + c * b) (b * d)) < 0 := by
  obtain ⟨s1, s2, _⟩ := sum_nn l1 l2
  obtain ⟨_, e1, e2, g⟩ := res_of s1 s2 h
  rw [cmp_lt]
  intro hlt
  have h1 := Int.mul_lt_mul_of_pos_right hlt g
  rw [show rp (a * d + c * b) (b * d) * b * gI (a * d + c * b) (b * d) = rp (a * d + c * b) (b * d) * gI (a * d + c * b) (b * d) * b from by ac_rfl, Int.mul_assoc a, ← e1, ← e2] at h1
  have h2 : 0 ≤ c * b * b := Int.mul_nonneg (Int.mul_nonneg (low_pos l2).1 (Int.le_of_lt (low_pos l1).2)) (Int.le_of_lt (low_pos l1).2)
  rw [Int.add_mul, show a * (b * d) = a * d * b from by ac_rfl] at h1
  omega

theorem su_assoc {a b c d e f : Int} (l1 : Low a b) (l2 : Low c d) (l3 : Low e f) (h1 : rOk (a * d + c * b) (b * d) = true) (h2 : rOk (c * f + e * d) (d * f) = true)
    (h3 : rOk (rp (a * d + c * b) (b * d) * f + e * rq (a * d + c * b) (b * d)) (rq (a * d + c * b) (b * d) * f) = true) (h4 : rOk (a * rq (c * f + e * d) (d * f) + rp (c * f + e * d) (d * f) * b) (b * rq (c * f + e * d) (d * f)) = true) :
    rp (rp (a * d + c * b) (b * d) * f + e * rq (a * d + c * b) (b * d)) (rq (a * d + c * b) (b * d) * f) = rp (a * rq (c * f + e * d) (d * f) + rp (c * f + e * d) (d * f) * b) (b * rq (c * f + e * d) (d * f)) ∧
    rq (rp (a * d + c * b) (b * d) * f + e * rq (a * d + c * b) (b * d)) (rq (a * d + c * b) (b * d) * f) = rq (a * rq (c * f + e * d) (d * f) + rp (c * f + e * d) (d * f) * b) (b * rq (c * f + e * d) (d * f)) := by
  obtain ⟨s1, s2, _⟩ := sum_nn l1 l2
  obtain ⟨s3, s4, _⟩ := sum_nn l2 l3
  obtain ⟨k1, e1, e2, g⟩ := res_of s1 s2 h1
  obtain ⟨k2, e3, e4, g'⟩ := res_of s3 s4 h2
  obtain ⟨t1, t2, _⟩ := sum_nn k1 l3
  obtain ⟨t3, t4, _⟩ := sum_nn l1 k2
  exact same_val t1 t2 t3 t4 h3 h4 (assoc_poly g g' e1 e2 e3 e4)

theorem su_dist {a b c d e f : Int} (l1 : Low a b) (l2 : Low c d) (l3 : Low e f) (h1 : rOk (a * d + c * b) (b * d) = true) (h2 : rOk (a * e) (b * f) = true) (h3 : rOk (c * e) (d * f) = true)
    (h4 : rOk (rp (a * e) (b * f) * rq (c * e) (d * f) + rp (c * e) (d * f) * rq (a * e) (b * f)) (rq (a * e) (b * f) * rq (c * e) (d * f)) = true) (h5 : rOk (rp (a * d + c * b) (b * d) * e) (rq (a * d + c * b) (b * d) * f) = true) :
    rp (rp (a * e) (b * f) * rq (c * e) (d * f) + rp (c * e) (d * f) * rq (a * e) (b * f)) (rq (a * e) (b * f) * rq (c * e) (d * f)) = rp (rp (a * d + c * b) (b * d) * e) (rq (a * d + c * b) (b * d) * f) ∧
    rq (rp (a * e) (b * f) * rq (c * e) (d * f) + rp (c * e) (d * f) * rq (a * e) (b * f)) (rq (a * e) (b * f) * rq (c * e) (d * f)) = rq (rp (a * d + c * b) (b * d) * e) (rq (a * d + c * b) (b * d) * f) := by
  obtain ⟨s1, s2, _⟩ := sum_nn l1 l2
  obtain ⟨_, s4, s5⟩ := sum_nn l1 l3
  obtain ⟨_, s6, s7⟩ := sum_nn l2 l3
  obtain ⟨k1, e1, e2, g⟩ := res_of s1 s2 h1
  obtain ⟨k2, e3, e4, g2⟩ := res_of s5 s4 h2
  obtain ⟨k3, e5, e6, g3⟩ := res_of s7 s6 h3
  obtain ⟨t1, t2, _⟩ := sum_nn k2 k3
  obtain ⟨_, t4, t5⟩ := sum_nn k1 l3
  exact same_val t1 t2 t5 t4 h4 h5 (dist_poly g g2 g3 e1 e2 e3 e4 e5 e6)

theorem su_holds (a b c d e f : Int) (ha : i64B a = true) (hb : i64B b = true) (hc : i64B c = true) (hd : i64B d = true) (he : i64B e = true) (hf : i64B f = true) :
    (vfn Try.prog (lbE Try.f6.ntmps) Try.f6 (codeOf Try.f6) [.agg [.int .i64 a, .int .i64 b], .agg [.int .i64 c, .int .i64 d], .agg [.int .i64 e, .int .i64 f]]).holds fun v => v.yes = true := by
  rw [su_fn]
  have l1 := rt_low ha hb
  have l2 := rt_low hc hd
  have l3 := rt_low he hf
  generalize rtN a b = n1 at *
  generalize rtD a b = d1 at *
  generalize rtN c d = n2 at *
  generalize rtD c d = d2 at *
  generalize rtN e f = n3 at *
  generalize rtD e f = d3 at *
  obtain ⟨b1, b2, b3⟩ := low_n64 l1
  obtain ⟨s1, s2, s3⟩ := sum_nn l1 l2
  obtain ⟨s4, s5, s6⟩ := sum_nn l2 l3
  obtain ⟨_, s7, s8⟩ := sum_nn l1 l3
  have c1 : n2 * d1 + n1 * d2 = n1 * d2 + n2 * d1 := Int.add_comm _ _
  have c2 : d2 * d1 = d1 * d2 := Int.mul_comm _ _
  have c3 : n2 * n1 = n1 * n2 := Int.mul_comm _ _
  have F1 := su_ge l1 l2
  have F2 := su_assoc l1 l2 l3
  have F3 := su_dist l1 l2 l3
  have L1 : rOk (n1 * d2 + n2 * d1) (d1 * d2) = true → Low (rp (n1 * d2 + n2 * d1) (d1 * d2)) (rq (n1 * d2 + n2 * d1) (d1 * d2)) := fun h => (res_of s1 s2 h).1
  have L2 : rOk (n2 * d3 + n3 * d2) (d2 * d3) = true → Low (rp (n2 * d3 + n3 * d2) (d2 * d3)) (rq (n2 * d3 + n3 * d2) (d2 * d3)) := fun h => (res_of s4 s5 h).1
  have L3 : rOk (n1 * n3) (d1 * d3) = true → Low (rp (n1 * n3) (d1 * d3)) (rq (n1 * n3) (d1 * d3)) := fun h => (res_of s8 s7 h).1
  have L4 : rOk (n2 * n3) (d2 * d3) = true → Low (rp (n2 * n3) (d2 * d3)) (rq (n2 * n3) (d2 * d3)) := fun h => (res_of s6 s5 h).1
  have r1 := res_low l1
  have r0 := res_nought (low_pos l1).2
  simp only [rp_fold, rq_fold, c1, c2, c3, Int.mul_one, Int.zero_mul, Int.add_zero, Int.mul_zero, r1.1, r1.2, r0.1, r0.2, ha, hb, hc, hd, he, hf, b1, b2, b3, beq_self_eq_true, Bool.and_self, Bool.not_true]
  repeat' first | with_reducible refine T.hneed l1 ?_ | with_reducible refine T.hneed l2 ?_ | with_reducible refine T.hneed l3 ?_ | with_reducible refine T.hneed low01 ?_ | with_reducible refine T.hneed low11 ?_ | with_reducible refine T.hchk rfl ?_ | with_reducible refine T.h_ff ?_ | with_reducible refine T.h_tt ?_ | with_reducible refine T.hiteP (fun _ => ?_) (fun _ => ?_) | with_reducible refine T.hiteF (fun _ => ?_) (fun _ => ?_) | with_reducible refine T.hite (fun _ => ?_) (fun _ => ?_) | with_reducible refine T.hchk ?_ ?_ | with_reducible refine T.hneed ?_ ?_ | with_reducible refine T.hret ?_
  all_goals first
    | rfl
    | exact L1 (by assumption)
    | exact L2 (by assumption)
    | exact L3 (by assumption)
    | exact L4 (by assumption)
    | (have hl := low_n64 (L1 (by assumption)); rw [hl.1, hl.2.1]; rfl)
    | (exact absurd (of_decide_eq_true (by assumption)) (F1 (by assumption)))
    | (exact absurd (by assumption) (F1 (by assumption)))
    | (rename_i h3 h4 hff
       have hz := F2 (by assumption) (by assumption) h3 h4
       rw [rp_pos h3, rq_pos h3, rp_pos h4, rq_pos h4] at hz
       simp only [h3, h4, if_true, eq_self, ite_true, hz.1, hz.2, beq_self_eq_true, Bool.and_self] at hff
       first | done | (cases hff; done))
    | (rename_i h3 h4 hff
       have hz := F3 (by assumption) (by assumption) (by assumption) h3 h4
       rw [rp_pos h3, rq_pos h3, rp_pos h4, rq_pos h4] at hz
       simp only [h3, h4, if_true, eq_self, ite_true, hz.1, hz.2, beq_self_eq_true, Bool.and_self] at hff
       first | done | (cases hff; done))

theorem su_law : ∀ args m, ArgsAV [PK.agg [CK.int IntKind.i64, CK.int IntKind.i64], PK.agg [CK.int IntKind.i64, CK.int IntKind.i64], PK.agg [CK.int IntKind.i64, CK.int IntKind.i64]] [] args m → Walks Try.prog Try.f6 (codeOf Try.f6) args m := by
  intro args m h
  obtain ⟨_, _, _, rfl, k, h⟩ := args_agg h
  obtain ⟨a, _, rfl, ha, k⟩ := cells_int k
  obtain ⟨b, _, rfl, hb, k⟩ := cells_int k
  obtain ⟨rfl, rfl⟩ := cells_nil k
  obtain ⟨_, _, _, rfl, k, h⟩ := args_agg h
  obtain ⟨c, _, rfl, hc, k⟩ := cells_int k
  obtain ⟨d, _, rfl, hd, k⟩ := cells_int k
  obtain ⟨rfl, rfl⟩ := cells_nil k
  obtain ⟨_, _, _, rfl, k, h⟩ := args_agg h
  obtain ⟨e, _, rfl, he, k⟩ := cells_int k
  obtain ⟨f, _, rfl, hf, k⟩ := cells_int k
  obtain ⟨rfl, rfl⟩ := cells_nil k
  obtain ⟨rfl, rfl⟩ := args_nil h
  exact ⟨lbE Try.f6.ntmps, lbE_ok _, noLoops (by kernel_rfl), rfl, rfl, vfn_yes (su_holds a b c d e f (i64_iff.2 (bounds_i64 ha)) (i64_iff.2 (bounds_i64 hb)) (i64_iff.2 (bounds_i64 hc)) (i64_iff.2 (bounds_i64 hd)) (i64_iff.2 (bounds_i64 he)) (i64_iff.2 (bounds_i64 hf)))⟩

end Go.Proofs.Ytlebekeplkkciaa
