/-
  Layer 1: sums and products of fractions.
-/
import Derived.Test.YtlebekeplkkciaaHQ
import Derived.Test.YtlebekeplkkciaaHG
namespace Go.Proofs.Ytlebekeplkkciaa
open Go.Ox Go.Proofs
set_option maxRecDepth 100000
set_option maxHeartbeats 4000000
set_option linter.unusedVariables false
set_option linter.unusedSimpArgs false

theorem cross_nat {a b c d : Nat} (h1 : Nat.gcd a b = 1) (h2 : Nat.gcd c d = 1) : Nat.gcd (a * c) (b * d) = Nat.gcd a d * Nat.gcd c b := by
  obtain ⟨a', d', hc1, ha, hd⟩ := Nat.exists_coprime a d
  obtain ⟨c', b', hc2, hc, hb⟩ := Nat.exists_coprime c b
  generalize Nat.gcd a d = g at *
  generalize Nat.gcd c b = h at *
  subst ha hd hc hb
  have k1 : Nat.Coprime a' b' := Nat.Coprime.coprime_mul_right (Nat.Coprime.coprime_mul_right_right (show Nat.Coprime (a' * g) (b' * h) from h1))
  have k2 : Nat.Coprime c' d' := Nat.Coprime.coprime_mul_right (Nat.Coprime.coprime_mul_right_right (show Nat.Coprime (c' * h) (d' * g) from h2))
  have e1 : a' * g * (c' * h) = g * h * (a' * c') := by ac_rfl
  have e2 : b' * h * (d' * g) = g * h * (b' * d') := by ac_rfl
  rw [e1, e2, Nat.gcd_mul_left]
  have : Nat.Coprime (a' * c') (b' * d') := Nat.Coprime.mul_left (Nat.Coprime.mul_right k1 hc1) (Nat.Coprime.mul_right hc2 k2)
  rw [this, Nat.mul_one]

/-- A sum's divisor in common with the product of what is below. -/

theorem sum_nat {a b c d : Nat} (h1 : Nat.gcd a b = 1) (h2 : Nat.gcd c d = 1) (hb : 0 < b) :
    a * d + c * b = Nat.gcd b d * (a * (d / Nat.gcd b d) + c * (b / Nat.gcd b d)) ∧
    Nat.gcd (a * d + c * b) (b * d) = Nat.gcd b d * Nat.gcd (a * (d / Nat.gcd b d) + c * (b / Nat.gcd b d)) (Nat.gcd b d) := by
  have hg : 0 < Nat.gcd b d := Nat.gcd_pos_of_pos_left d hb
  obtain ⟨b', d', hc, eb, ed⟩ := Nat.exists_coprime b d
  have q1 : b / Nat.gcd b d = b' := Nat.div_eq_of_eq_mul_left hg eb
  have q2 : d / Nat.gcd b d = d' := Nat.div_eq_of_eq_mul_left hg ed
  rw [q1, q2]
  generalize Nat.gcd b d = g at *
  subst eb ed
  have e1 : a * (d' * g) + c * (b' * g) = g * (a * d' + c * b') := by rw [Nat.mul_add]; congr 1 <;> ac_rfl
  refine ⟨e1, ?_⟩
  have e2 : b' * g * (d' * g) = g * (b' * (d' * g)) := by ac_rfl
  rw [e1, e2, Nat.gcd_mul_left]
  congr 1
  have k1 : Nat.Coprime a b' := Nat.Coprime.coprime_mul_right_right (show Nat.Coprime a (b' * g) from h1)
  have k2 : Nat.Coprime c d' := Nat.Coprime.coprime_mul_right_right (show Nat.Coprime c (d' * g) from h2)
  have s1 : Nat.Coprime (a * d' + c * b') b' := by
    show Nat.gcd _ _ = 1
    rw [Nat.gcd_comm, Nat.add_comm, Nat.gcd_mul_right_add_right, Nat.gcd_comm]
    exact Nat.Coprime.mul_left k1 hc.symm
  have s2 : Nat.Coprime (a * d' + c * b') d' := by
    show Nat.gcd _ _ = 1
    rw [Nat.gcd_comm, Nat.gcd_mul_right_add_right, Nat.gcd_comm]
    exact Nat.Coprime.mul_left k2 hc
  rw [Nat.Coprime.gcd_mul_left_cancel_right _ (Nat.Coprime.symm s1), Nat.Coprime.gcd_mul_left_cancel_right _ (Nat.Coprime.symm s2)]

theorem gcdI_ge {n d : Int} (h : ¬ (n < 0 ∨ d < 0)) : gcdI n d = gI n d := if_neg h

theorem u_n {a : Int} (h : 0 ≤ a ∧ a ≤ 9223372036854775807) : IntKind.wrap .u64 a = a := by rw [IntKind.wrap_u64]; omega

theorem i_n {a : Int} (h : 0 ≤ a ∧ a ≤ 9223372036854775807) : IntKind.wrap .i64 a = a := IntWalk.i64_in _ (by omega)

theorem ub_n {a : Int} (h : 0 ≤ a ∧ a ≤ 9223372036854775807) : u64B a = true := u64_iff.2 (by omega)

theorem rem_ok : SummOK Try.prog 47 (.pure fun args _ => remS args) := by
  refine val_fn (E := rmE Try.f47.ntmps) (c := codeOf Try.f47) (fun args w => Try.call47 args w) Try.func47 rfl (rmE_ok _) (noLoops (by kernel_rfl)) rfl rfl ?_
  intro args Q hq
  unfold remS at hq ⊢
  split at hq
  · rename_i h l y
    obtain ⟨hc, hq⟩ := hq
    refine ⟨rfl, _, rfl, fun Q h => h.2, ⟨hc, rfl⟩, ?_⟩
    simp only [Bool.and_eq_true, u64_iff, decide_eq_true_eq] at hc
    have h1 := Int.emod_nonneg h (show y ≠ 0 by omega)
    have h2 := Int.emod_lt_of_pos h hc.2.2
    rw [rem_fn, Int.tmod_eq_emod_of_nonneg hc.1.1.1]
    refine T.hchk (by simp; omega) (T.hchk ?_ (T.hret (Alike_of_eq ?_)))
    · simp only [Bool.and_eq_true, u64_iff, decide_eq_true_eq]; omega
    · have e := Int.emod_add_mul_ediv h y
      have e2 : W h l = W (h % y) l + y * (h / y * 18446744073709551616) := by
        unfold W
        conv => lhs; rw [← e]
        rw [Int.add_mul, Int.mul_assoc]; omega
      rw [e2, Int.add_mul_emod_self_left]
  · exact hq.elim

theorem W_div {a b d : Int} (ha : 0 ≤ a ∧ a ≤ 18446744073709551615) (hb : 0 ≤ b ∧ b ≤ 18446744073709551615) (hd : 0 < d) : hi (W a b / d) = a / d ∧ lo (W a b / d) = W (a % d) b / d := by
  have e := Int.emod_add_mul_ediv a d
  have h1 := Int.emod_nonneg a (show d ≠ 0 by omega)
  have h2 := Int.emod_lt_of_pos a hd
  have e2 : W a b = W (a % d) b + d * (a / d * 18446744073709551616) := by
    unfold W
    conv => lhs; rw [← e]
    rw [Int.add_mul, Int.mul_assoc]; omega
  have e3 : W a b / d = W (a % d) b / d + a / d * 18446744073709551616 := by
    rw [e2, Int.add_mul_ediv_left _ _ (show d ≠ 0 by omega)]
  have b1 : 0 ≤ W (a % d) b / d := Int.ediv_nonneg (by unfold W; omega) (Int.le_of_lt hd)
  have b2 : W (a % d) b / d < 18446744073709551616 := by
    rw [Int.ediv_lt_iff_lt_mul hd]
    unfold W; omega
  have b3 := ediv_bd ha.1 hd
  rw [e3]
  unfold hi lo
  omega

theorem divd_ok : SummOK Try.prog 40 (.pure fun args _ => divdS args) := by
  refine val_fn (E := rmE Try.f40.ntmps) (c := codeOf Try.f40) (fun args w => Try.call40 args w) Try.func40 rfl (rmE_ok _) (noLoops (by kernel_rfl)) rfl rfl ?_
  intro args Q hq
  unfold divdS at hq ⊢
  split at hq
  · rename_i a b d
    obtain ⟨hc, hq⟩ := hq
    refine ⟨rfl, _, rfl, fun Q h => h.2, ⟨hc, rfl⟩, ?_⟩
    simp only [Bool.and_eq_true, u64_iff, n64_iff, decide_eq_true_eq] at hc
    have h1 := Int.emod_nonneg a (show d ≠ 0 by omega)
    have h2 := Int.emod_lt_of_pos a (show 0 < d by omega)
    have b3 := ediv_bd (n := a) (g := d) (by omega) (by omega)
    obtain ⟨e1, e2⟩ := W_div (a := a) (b := b) (d := d) (by omega) (by omega) (by omega)
    have hz : (!(d == 0)) = true := by simp; omega
    rw [divd_fn, u_n hc.2.1, Int.tmod_eq_emod_of_nonneg (by omega), Int.tdiv_eq_ediv_of_nonneg (by omega)]
    refine T.hchk rfl (T.hchk hz (T.hchk rfl (T.hchk hz (T.hchk rfl (T.hchk ?_ (T.hret (al_w ?_ ?_)))))))
    · simp only [Bool.and_eq_true, u64_iff, decide_eq_true_eq]; omega
    · rw [e1, IntKind.wrap_u64]; omega
    · rw [e2]
  · exact hq.elim

theorem wadd_ok : SummOK Try.prog 38 (.pure fun args _ => rplusS args) := by
  refine val_fn (E := rmE Try.f38.ntmps) (c := codeOf Try.f38) (fun args w => Try.call38 args w) Try.func38 rfl (rmE_ok _) (noLoops (by kernel_rfl)) rfl rfl ?_
  intro args Q hq
  unfold rplusS at hq ⊢
  split at hq
  · rename_i a b c d
    obtain ⟨hc, hq⟩ := hq
    refine ⟨rfl, _, rfl, fun Q h => h.2, ⟨hc, rfl⟩, ?_⟩
    simp only [Bool.and_eq_true, u64_iff] at hc
    rw [wadd_fn]
    refine T.hchk rfl (T.hchk rfl (T.hchk ?_ (T.hchk rfl (T.hchk rfl (T.hchk ?_ (T.hret (al_w ?_ ?_)))))))
    · simp only [Bool.and_eq_true, decide_eq_true_eq]; omega
    · simp only [Bool.and_eq_true, decide_eq_true_eq]; omega
    · unfold hi W; omega
    · unfold lo W; omega
  · exact hq.elim

theorem reE_ok (nt : Nat) : EnvOK Try.prog (reE nt).fns := EnvOK.cons rem_ok EnvOK.nil

theorem rest_ok : SummOK Try.prog 39 (.pure fun args _ => restS args) := by
  refine val_fn (E := reE Try.f39.ntmps) (c := codeOf Try.f39) (fun args w => Try.call39 args w) Try.func39 rfl (reE_ok _) (noLoops (by kernel_rfl)) rfl rfl ?_
  intro args Q hq
  unfold restS at hq ⊢
  split at hq
  · rename_i a b d
    obtain ⟨hc, hq⟩ := hq
    refine ⟨rfl, _, rfl, fun Q h => h.2, ⟨hc, rfl⟩, ?_⟩
    simp only [Bool.and_eq_true, u64_iff, n64_iff, decide_eq_true_eq] at hc
    have h1 := Int.emod_nonneg (W a b) (show d ≠ 0 by omega)
    have h2 := Int.emod_lt_of_pos (W a b) (show 0 < d by omega)
    rw [rest_fn, u_n hc.2.1]
    refine T.hchk rfl (T.hchk rfl (T.hchk ?_ (T.hret (Alike_of_eq ?_))))
    · simp only [Bool.and_eq_true, u64_iff, decide_eq_true_eq]; omega
    · exact i_n (by omega)
  · exact hq.elim

theorem plE_ok (nt : Nat) : EnvOK Try.prog (plE nt).fns := EnvOK.cons rest_ok (EnvOK.cons divd_ok (EnvOK.cons wadd_ok (EnvOK.cons nar_ok (f2E_ok nt))))

/-- n by m in lowest terms, where both fit. -/
def resA (n m : Int) : AV := .tup [.agg [.int .i64 (if rOk n m = true then n / gI n m else 0), .int .i64 (if rOk n m = true then m / gI n m else 0)], .bool (rOk n m)]
def tmS : List AV → T AV
  | [.agg [.int .i64 a, .int .i64 b], .agg [.int .i64 c, .int .i64 d]] => .need (Low a b) (.need (Low c d) (.ret (resA (a * c) (b * d))))
  | _ => .fail
def psS : List AV → T AV
  | [.agg [.int .i64 a, .int .i64 b], .agg [.int .i64 c, .int .i64 d]] => .need (Low a b) (.need (Low c d) (.ret (resA (a * d + c * b) (b * d))))
  | _ => .fail

theorem low_rng {a b : Int} (h : Low a b) : (0 ≤ a ∧ a ≤ 9223372036854775807) ∧ (0 ≤ b ∧ b ≤ 9223372036854775807) ∧ 1 ≤ b := ⟨⟨h.1, h.2.1⟩, ⟨by have := h.2.2.1; omega, h.2.2.2.1⟩, h.2.2.1⟩

theorem rti_ok : SummOK Try.prog 21 (.pure fun args _ => tmS args) := by
  refine val_fn (E := plE Try.f21.ntmps) (c := codeOf Try.f21) (fun args w => Try.call21 args w) Try.func21 rfl (plE_ok _) (noLoops (by kernel_rfl)) rfl rfl ?_
  intro args Q hq
  unfold tmS at hq ⊢
  split at hq
  · rename_i a b c d
    obtain ⟨l1, l2, hq⟩ := hq
    refine ⟨rfl, _, rfl, fun Q h => h.2.2, ⟨l1, l2, rfl⟩, ?_⟩
    obtain ⟨ra, rb, rb1⟩ := low_rng l1
    obtain ⟨rc, rd, rd1⟩ := low_rng l2
    have m1 := mul_n ra rc
    have m2 := mul_n rb rd
    have m3 : 0 < b * d := Int.mul_pos (by omega) (by omega)
    rw [rti_fn]
    simp only [u_n ra, u_n rb, u_n rc, u_n rd, W_hilo m1.1 (by omega : a * c < 340282366920938463463374607431768211456), W_hilo m2.1 (by omega : b * d < 340282366920938463463374607431768211456), u64_hi, u64_lo, ub_n ra, ub_n rb, ub_n rc, ub_n rd, Bool.and_self, Bool.true_and]
    exact T.hchk rfl (T.hchk rfl (T.hchk (by simp only [Bool.and_eq_true, decide_eq_true_eq]; omega) (T.hret (Ox.Alike_refl _))))
  · exact hq.elim

theorem rpl_ok : SummOK Try.prog 23 (.pure fun args _ => psS args) := by
  refine val_fn (E := plE Try.f23.ntmps) (c := codeOf Try.f23) (fun args w => Try.call23 args w) Try.func23 rfl (plE_ok _) (noLoops (by kernel_rfl)) rfl rfl ?_
  intro args Q hq
  unfold psS at hq ⊢
  split at hq
  · rename_i a b c d
    obtain ⟨l1, l2, hq⟩ := hq
    refine ⟨rfl, _, rfl, fun Q h => h.2.2, ⟨l1, l2, rfl⟩, ?_⟩
    obtain ⟨ra, rb, rb1⟩ := low_rng l1
    obtain ⟨rc, rd, rd1⟩ := low_rng l2
    have m1 := mul_n ra rd
    have m2 := mul_n rc rb
    have m4 := mul_n rb rd
    have m3 : 0 < b * d := Int.mul_pos (by omega) (by omega)
    rw [rpl_fn]
    simp only [u_n ra, u_n rb, u_n rc, u_n rd, W_hilo m1.1 (by omega : a * d < 340282366920938463463374607431768211456), W_hilo m2.1 (by omega : c * b < 340282366920938463463374607431768211456), W_hilo m4.1 (by omega : b * d < 340282366920938463463374607431768211456), W_hilo (by omega : 0 ≤ a * d + c * b) (by omega : a * d + c * b < 340282366920938463463374607431768211456), u64_hi, u64_lo, ub_n ra, ub_n rb, ub_n rc, ub_n rd, Bool.and_self, Bool.true_and]
    repeat' first | with_reducible refine T.hneed rfl ?_ | with_reducible refine T.hneed trivial ?_ | with_reducible refine T.hchk rfl ?_ | with_reducible refine T.hchk ?_ ?_
    · simp only [Bool.and_eq_true, decide_eq_true_eq]; omega
    · exact T.hret (Ox.Alike_refl _)
  · exact hq.elim

theorem gI_nat {n m : Int} (hn : 0 ≤ n) (hm : 0 ≤ m) : ∃ N M : Nat, n = N ∧ m = M ∧ gI n m = (Nat.gcd N M : Nat) := by
  obtain ⟨N, rfl⟩ := nat_of hn
  obtain ⟨M, rfl⟩ := nat_of hm
  exact ⟨N, M, rfl, rfl, rfl⟩

theorem cross {a b c d : Int} (l1 : Low a b) (l2 : Low c d) : gI (a * c) (b * d) = gI a d * gI c b := by
  obtain ⟨A, rfl⟩ := nat_of l1.1
  obtain ⟨B, rfl⟩ := nat_of (show 0 ≤ b by have := l1.2.2.1; omega)
  obtain ⟨C, rfl⟩ := nat_of l2.1
  obtain ⟨D, rfl⟩ := nat_of (show 0 ≤ d by have := l2.2.2.1; omega)
  have g1 := l1.2.2.2.2
  have g2 := l2.2.2.2.2
  simp only [Int.toNat_natCast] at g1 g2
  unfold gI
  rw [← Int.natCast_mul, ← Int.natCast_mul]
  simp only [Int.toNat_natCast]
  rw [cross_nat g1 g2, Int.natCast_mul]

theorem sum_int {a b c d : Int} (l1 : Low a b) (l2 : Low c d) :
    a * d + c * b = gI b d * (a * (d / gI b d) + c * (b / gI b d)) ∧ gI (a * d + c * b) (b * d) = gI b d * gI (a * (d / gI b d) + c * (b / gI b d)) (gI b d) := by
  obtain ⟨A, rfl⟩ := nat_of l1.1
  obtain ⟨B, rfl⟩ := nat_of (show 0 ≤ b by have := l1.2.2.1; omega)
  obtain ⟨C, rfl⟩ := nat_of l2.1
  obtain ⟨D, rfl⟩ := nat_of (show 0 ≤ d by have := l2.2.2.1; omega)
  have g1 := l1.2.2.2.2
  have g2 := l2.2.2.2.2
  have hB : 0 < B := by have := l1.2.2.1; omega
  simp only [Int.toNat_natCast] at g1 g2
  obtain ⟨s1, s2⟩ := sum_nat g1 g2 hB
  have e : gI (B : Int) (D : Int) = (Nat.gcd B D : Nat) := rfl
  rw [e, ← Int.natCast_ediv, ← Int.natCast_ediv]
  have e2 : ((A : Int) * ((D / Nat.gcd B D : Nat) : Int) + (C : Int) * ((B / Nat.gcd B D : Nat) : Int)) = ((A * (D / Nat.gcd B D) + C * (B / Nat.gcd B D) : Nat) : Int) := by rw [Int.natCast_add, Int.natCast_mul, Int.natCast_mul]
  have e3 : (A : Int) * (D : Int) + (C : Int) * (B : Int) = ((A * D + C * B : Nat) : Int) := by rw [Int.natCast_add, Int.natCast_mul, Int.natCast_mul]
  have e4 : (B : Int) * (D : Int) = ((B * D : Nat) : Int) := (Int.natCast_mul B D).symm
  rw [e2, e3, e4]
  refine ⟨?_, ?_⟩
  · rw [← Int.natCast_mul, ← s1]
  · unfold gI
    simp only [Int.toNat_natCast]
    rw [s2, Int.natCast_mul]

theorem gI_dvd {n m : Int} (hn : 0 ≤ n) (hm : 0 ≤ m) : gI n m ∣ n ∧ gI n m ∣ m := by
  obtain ⟨N, M, rfl, rfl, e⟩ := gI_nat hn hm
  rw [e]
  exact ⟨Int.natCast_dvd_natCast.2 (Nat.gcd_dvd_left N M), Int.natCast_dvd_natCast.2 (Nat.gcd_dvd_right N M)⟩

theorem quot_mul {a c g h : Int} (hg : g ≠ 0) (hh : h ≠ 0) (h1 : g ∣ a) (h2 : h ∣ c) : a * c / (g * h) = a / g * (c / h) := by
  obtain ⟨a', rfl⟩ := h1
  obtain ⟨c', rfl⟩ := h2
  rw [Int.mul_ediv_cancel_left _ hg, Int.mul_ediv_cancel_left _ hh, show g * a' * (h * c') = g * h * (a' * c') from by ac_rfl, Int.mul_ediv_cancel_left _ (Int.mul_ne_zero hg hh)]

theorem mulB_pos {x y : Int} (h : 0 ≤ x * y) : mulB x y = decide (x * y ≤ 9223372036854775807) := by
  unfold mulB; rw [decide_eq_decide]; omega

theorem mulN_yes {x y : Int} (h : mulB x y = true) : mulN x y = x * y := if_pos (of_decide_eq_true h)

theorem tim_ok : SummOK Try.prog 20 (.pure fun args _ => tmS args) := by
  refine val_fn (E := frE Try.f20.ntmps) (c := codeOf Try.f20) (fun args w => Try.call20 args w) Try.func20 rfl (frE_ok _) (noLoops (by kernel_rfl)) rfl rfl ?_
  intro args Q hq
  unfold tmS at hq ⊢
  split at hq
  · rename_i a b c d
    obtain ⟨l1, l2, hq⟩ := hq
    refine ⟨rfl, _, rfl, fun Q h => h.2.2, ⟨l1, l2, rfl⟩, ?_⟩
    obtain ⟨ra, rb, rb1⟩ := low_rng l1
    obtain ⟨rc, rd, rd1⟩ := low_rng l2
    have g1 := gI_pos (n := a) (m := d) (by omega)
    have g2 := gI_pos (n := c) (m := b) (by omega)
    obtain ⟨d1, d2⟩ := gI_dvd (n := a) (m := d) (by omega) (by omega)
    obtain ⟨d3, d4⟩ := gI_dvd (n := c) (m := b) (by omega) (by omega)
    have q1 := ediv_bd ra.1 g1
    have q2 := ediv_bd rd.1 g1
    have q3 := ediv_bd rc.1 g2
    have q4 := ediv_bd rb.1 g2
    have hx := cross l1 l2
    have x1 : a * c / gI (a * c) (b * d) = a / gI a d * (c / gI c b) := by rw [hx]; exact quot_mul (by omega) (by omega) d1 d3
    have x2 : b * d / gI (a * c) (b * d) = b / gI c b * (d / gI a d) := by rw [hx, Int.mul_comm (gI a d)]; exact quot_mul (by omega) (by omega) d4 d2
    have eg1 : gcdI a d = gI a d := gcdI_ge (by omega)
    have eg2 : gcdI c b = gI c b := gcdI_ge (by omega)
    rw [times_fn]
    simp only [eg1, eg2, Int.tdiv_eq_ediv_of_nonneg ra.1, Int.tdiv_eq_ediv_of_nonneg rb.1, Int.tdiv_eq_ediv_of_nonneg rc.1, Int.tdiv_eq_ediv_of_nonneg rd.1, i_n (a := a / gI a d) (by omega), i_n (a := d / gI a d) (by omega), i_n (a := c / gI c b) (by omega), i_n (a := b / gI c b) (by omega)]
    have z1 : (!(gI a d == 0)) = true := by simp; omega
    have z2 : (!(gI c b == 0)) = true := by simp; omega
    have hu1 : (!(decide (a ≥ 0) && decide (b ≥ 1))) = false := by simp; omega
    have hu2 : (!(decide (c ≥ 0) && decide (d ≥ 1))) = false := by simp; omega
    unfold resA rOk
    rw [x1, x2]
    have p1 : 0 ≤ a / gI a d * (c / gI c b) := Int.mul_nonneg q1.1 q3.1
    have p2 : 0 ≤ b / gI c b * (d / gI a d) := Int.mul_nonneg q4.1 q2.1
    rw [← mulB_pos p1, ← mulB_pos p2]
    rw [hu1, hu2]
    refine T.h_ff (T.h_ff (T.hchk z1 (T.hchk z2 (T.hchk ?_ (T.hchk z2 (T.hchk z1 (T.hchk ?_ (T.hite (fun h => T.hret ?_) (fun h => T.hret ?_)))))))))
    · simp only [Bool.and_eq_true, i64_iff]; omega
    · simp only [Bool.and_eq_true, i64_iff]; omega
    · rw [h]
      cases h2 : mulB (b / gI c b) (d / gI a d) with
      | true => simp only [if_true, Bool.and_self]; rw [mulN_yes h, mulN_yes h2]; exact Ox.Alike_refl _
      | false => exact Ox.Alike_refl _
    · rw [h]; exact Ox.Alike_refl _
  · exact hq.elim

end Go.Proofs.Ytlebekeplkkciaa
