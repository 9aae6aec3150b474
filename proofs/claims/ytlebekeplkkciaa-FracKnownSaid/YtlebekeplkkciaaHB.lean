/-
  Layer 1: bits, products.
-/
import Derived.Test.YtlebekeplkkciaaHA
import Derived.Shelf.Bits.Mul64
namespace Go.Proofs.Ytlebekeplkkciaa
open Go.Ox
set_option maxRecDepth 100000
set_option linter.unusedVariables false
set_option linter.unusedSimpArgs false

def bitS : List AV → T AV
  | [.agg [.int .u64 a, .int .u64 b], .int .i64 i] => .chk ((u64B a && u64B b) && (decide (0 ≤ i) && decide (i < 128))) (.ret (.int .u64 (W a b / 2 ^ i.toNat % 2)))
  | _ => .fail
def m64S : List AV → T AV
  | [.int .u64 a, .int .u64 b] => .chk (u64B a && u64B b) (.ret (.tup [.int .u64 (hi (a * b)), .int .u64 (lo (a * b))]))
  | _ => .fail
def prodS : List AV → T AV
  | [.int .u64 a, .int .u64 b] => .chk (u64B a && u64B b) (.ret (.agg [.int .u64 (hi (a * b)), .int .u64 (lo (a * b))]))
  | _ => .fail
noncomputable def prE (nt : Nat) : Env := { nt, n0 := 0, fns := [(44, .pure fun args _ => m64S args)], loop := fun _ _ => .fail }
noncomputable def muE (nt : Nat) : Env := { nt, n0 := 0, fns := [(28, .pure fun args _ => prodS args), (29, .pure fun args _ => sizeS args), (30, .pure fun args _ => asS args)], loop := fun _ _ => .fail }
noncomputable def cpE (nt : Nat) : Env := { nt, n0 := 0, fns := [(49, .pure fun args _ => nanS args)], loop := fun _ _ => .fail }

theorem prod_fn (a b : Int) : vfn Try.prog (prE Try.f28.ntmps) Try.f28 (codeOf Try.f28) [.int .u64 a, .int .u64 b] = 
  T.chk (u64B a && u64B b) (T.ret (AV.agg [AV.int IntKind.u64 (hi (a * b)), AV.int IntKind.u64 (lo (a * b))])) := by
  kernel_rfl

theorem mul_fn (a b : Int) : vfn Try.prog (muE Try.f12.ntmps) Try.f12 (codeOf Try.f12) [.int .i64 a, .int .i64 b] = 
  T.chk (i64B a)
    (T.chk (i64B b)
      (T.chk (u64B (absI a) && u64B (absI b))
        (T.ite (!decide (a < (0 : Int)) == decide (b < (0 : Int)))
          (T.ite (hi (absI a * absI b) == (0 : Int) && (lo (absI a * absI b) == (9223372036854775808 : Int) && true)) (T.ret (AV.tup [AV.int IntKind.i64 (-9223372036854775808 : Int), AV.tt]))
            (T.chk (u64B (hi (absI a * absI b)) && u64B (lo (absI a * absI b)))
              (T.ite (!decide (a < (0 : Int)) == decide (b < (0 : Int))) (T.ret (AV.tup [AV.int IntKind.i64 (IntKind.wrap IntKind.i64 ((0 : Int) - asN (W (hi (absI a * absI b)) (lo (absI a * absI b))))), AV.bool (decide (W (hi (absI a * absI b)) (lo (absI a * absI b)) ≤ (9223372036854775807 : Int)))]))
                (T.ret (AV.tup [AV.int IntKind.i64 (asN (W (hi (absI a * absI b)) (lo (absI a * absI b)))), AV.bool (decide (W (hi (absI a * absI b)) (lo (absI a * absI b)) ≤ (9223372036854775807 : Int)))])))))
          (T.chk (u64B (hi (absI a * absI b)) && u64B (lo (absI a * absI b)))
            (T.ite (!decide (a < (0 : Int)) == decide (b < (0 : Int))) (T.ret (AV.tup [AV.int IntKind.i64 (IntKind.wrap IntKind.i64 ((0 : Int) - asN (W (hi (absI a * absI b)) (lo (absI a * absI b))))), AV.bool (decide (W (hi (absI a * absI b)) (lo (absI a * absI b)) ≤ (9223372036854775807 : Int)))]))
              (T.ret (AV.tup [AV.int IntKind.i64 (asN (W (hi (absI a * absI b)) (lo (absI a * absI b)))), AV.bool (decide (W (hi (absI a * absI b)) (lo (absI a * absI b)) ≤ (9223372036854775807 : Int)))]))))))) := by
  kernel_rfl

theorem comp_fn (a b : Int) : vfn Try.prog (cpE Try.f42.ntmps) Try.f42 (codeOf Try.f42) [.int .u64 a, .int .u64 b] = 
  T.ite false (T.ite false (T.ret (AV.int IntKind.i64 (0 : Int))) (T.ret (AV.int IntKind.i64 (-1 : Int)))) (T.ite false (T.ret (AV.int IntKind.i64 (1 : Int))) (T.ite (decide (a < b)) (T.ret (AV.int IntKind.i64 (-1 : Int))) (T.ite (decide (a > b)) (T.ret (AV.int IntKind.i64 (1 : Int))) (T.ret (AV.int IntKind.i64 (0 : Int)))))) := by
  kernel_rfl

theorem ceil_fn (n d : Int) : vfn Try.prog (noE Try.f27.ntmps) Try.f27 (codeOf Try.f27) [.agg [.int .i64 n, .int .i64 d]] = 
  T.chk (!d == (0 : Int)) (T.ite (Int.tmod n d == (0 : Int)) (T.chk (!d == (0 : Int)) (T.ret (AV.int IntKind.i64 (IntKind.wrap IntKind.i64 (Int.tdiv n d))))) (T.chk (!d == (0 : Int)) (T.ret (AV.int IntKind.i64 (IntKind.wrap IntKind.i64 (IntKind.wrap IntKind.i64 (Int.tdiv n d) + (1 : Int))))))) := by
  kernel_rfl

theorem two_pos (k : Nat) : (0 : Int) < 2 ^ k := Int.pow_pos (by decide)

theorem shr_hi (a b : Int) (k : Nat) (hb : 0 ≤ b ∧ b ≤ 18446744073709551615) : W a b / 2 ^ (64 + k) = a / 2 ^ k := by
  have e : (2 : Int) ^ (64 + k) = 18446744073709551616 * 2 ^ k := by rw [Int.pow_add]; rfl
  rw [e, ← Int.ediv_ediv_of_nonneg (by decide)]
  congr 1
  unfold W; omega

theorem shr_lo (a b : Int) (k : Nat) (hk : k < 64) : W a b / 2 ^ k % 2 = b / 2 ^ k % 2 := by
  have e : (18446744073709551616 : Int) = 2 ^ (63 - k) * 2 * 2 ^ k := by
    rw [Int.mul_assoc, Int.mul_comm 2, ← Int.mul_assoc, ← Int.pow_add, show 63 - k + k = 63 from by omega]; rfl
  have e2 : W a b = b + (a * 2 ^ (63 - k) * 2) * 2 ^ k := by
    unfold W
    rw [Int.add_comm]
    congr 1
    conv => lhs; rw [e]
    simp only [Int.mul_assoc]
  rw [e2, Int.add_mul_ediv_right _ _ (Int.ne_of_gt (two_pos k))]
  omega

theorem bit_ok : SummOK Try.prog 50 (.pure fun args _ => bitS args) := by
  refine val_fn (E := noE Try.f50.ntmps) (c := codeOf Try.f50) (fun args w => Try.call50 args w) Try.func50 rfl (EnvOK.nil) (noLoops (by kernel_rfl)) rfl rfl ?_
  intro args Q hq
  unfold bitS at hq ⊢
  split at hq
  · rename_i a b i
    obtain ⟨hc, hq⟩ := hq
    refine ⟨rfl, _, rfl, fun Q h => h.2, ⟨hc, rfl⟩, ?_⟩
    simp only [Bool.and_eq_true, u64_iff, decide_eq_true_eq] at hc
    rw [bit_fn]
    refine T.hiteP (fun h => ?_) (fun h => ?_)
    · have e1 : IntKind.wrap .i64 (i - 64) = i - 64 := IntWalk.i64_in _ (by omega)
      have e2 : IntKind.wrap .u64 (i - 64) = i - 64 := by rw [IntKind.wrap_u64]; omega
      rw [e1, e2]
      refine T.hchk (by simp; omega) (T.hchk rfl (T.hret (Alike_of_eq ?_)))
      obtain ⟨k, rfl⟩ : ∃ k : Nat, i = 64 + (k : Int) := ⟨(i - 64).toNat, by omega⟩
      rw [show (64 + (k : Int) - 64).toNat = k from by omega, show (64 + (k : Int)).toNat = 64 + k from by omega, Nat.min_eq_left (by omega), shr_hi a b k hc.1.2, Int.fdiv_eq_ediv_of_nonneg _ (Int.le_of_lt (two_pos k))]
      exact Int.tmod_eq_emod_of_nonneg (Int.ediv_nonneg hc.1.1.1 (Int.le_of_lt (two_pos k)))
    · have e2 : IntKind.wrap .u64 i = i := by rw [IntKind.wrap_u64]; omega
      rw [e2]
      refine T.hchk (by simp; omega) (T.hchk rfl (T.hret (Alike_of_eq ?_)))
      obtain ⟨k, rfl⟩ : ∃ k : Nat, i = (k : Int) := ⟨i.toNat, by omega⟩
      rw [show ((k : Int)).toNat = k from by omega, Nat.min_eq_left (by omega), shr_lo a b k (by omega), Int.fdiv_eq_ediv_of_nonneg _ (Int.le_of_lt (two_pos k))]
      exact Int.tmod_eq_emod_of_nonneg (Int.ediv_nonneg hc.1.2.1 (Int.le_of_lt (two_pos k)))
  · exact hq.elim

theorem m64_ok : SummOK Try.prog 44 (.pure fun args _ => m64S args) := by
  refine val_fn (E := noE Try.f44.ntmps) (c := codeOf Try.f44) (fun args w => Try.call44 args w) Try.func44 rfl (EnvOK.nil) (noLoops (by kernel_rfl)) rfl rfl ?_
  intro args Q hq
  unfold m64S at hq ⊢
  split at hq
  · rename_i a b
    obtain ⟨hc, hq⟩ := hq
    refine ⟨rfl, _, rfl, fun Q h => h.2, ⟨hc, rfl⟩, ?_⟩
    simp only [Bool.and_eq_true, u64_iff] at hc
    rw [m64_fn]
    refine T.hchk rfl (T.hchk rfl (T.hchk rfl (T.hchk rfl (T.hchk rfl (T.hret (al_ii ?_ ?_))))))
    · obtain ⟨x, rfl⟩ : ∃ x : Nat, a = (x : Int) := ⟨a.toNat, by omega⟩
      obtain ⟨y, rfl⟩ : ∃ y : Nat, b = (y : Int) := ⟨b.toNat, by omega⟩
      have hx : x < 18446744073709551616 := by omega
      have hy : y < 18446744073709551616 := by omega
      obtain ⟨bd, bt, bw, hhi⟩ := Lib.mul64_hi x y hx hy
      have ba := Lib.half_mul_le (a := x / 4294967296) (b := y / 4294967296) (by omega) (by omega)
      have bb := Lib.half_mul_le (a := x / 4294967296) (b := y % 4294967296) (by omega) (by omega)
      have bc := Lib.half_mul_le (a := x % 4294967296) (b := y / 4294967296) (by omega) (by omega)
      have ba' : x / 4294967296 * (y / 4294967296) < 18446744073709551616 := by omega
      have bb' : x / 4294967296 * (y % 4294967296) < 18446744073709551616 := by omega
      have bc' : x % 4294967296 * (y / 4294967296) < 18446744073709551616 := by omega
      have bh1 : x / 4294967296 * (y / 4294967296) + (x / 4294967296 * (y % 4294967296) + x % 4294967296 * (y % 4294967296) / 4294967296) / 4294967296 < 18446744073709551616 := by omega
      have bh : x / 4294967296 * (y / 4294967296) + (x / 4294967296 * (y % 4294967296) + x % 4294967296 * (y % 4294967296) / 4294967296) / 4294967296 + ((x / 4294967296 * (y % 4294967296) + x % 4294967296 * (y % 4294967296) / 4294967296) % 4294967296 + x % 4294967296 * (y / 4294967296)) / 4294967296 < 18446744073709551616 := by omega
      have fd : ∀ z : Int, Int.fdiv z ((2 : Int) ^ (32 : Nat)) = z / 4294967296 := fun z => by rw [Int.fdiv_eq_ediv_of_nonneg _ (by decide)]; rfl
      simp only [fd, Mul64.maskN x hx, Mul64.maskN y hy, Mul64.divN, Mul64.mulN, Mul64.addN, Mul64.wrapN _ bd, Mul64.wrapN _ bb', Mul64.wrapN _ bt, Mul64.maskN _ bt, Mul64.wrapN _ bc', Mul64.wrapN _ bw, Mul64.wrapN _ ba', Mul64.wrapN _ bh1, Mul64.wrapN _ bh]
      rw [hhi]
      have hlt : x * y / 18446744073709551616 < 18446744073709551616 := by rw [← hhi]; exact bh
      unfold hi
      omega
    · rw [IntKind.wrap_u64]; rfl
  · exact hq.elim

theorem prod_ok : SummOK Try.prog 28 (.pure fun args _ => prodS args) := by
  refine val_fn (E := prE Try.f28.ntmps) (c := codeOf Try.f28) (fun args w => Try.call28 args w) Try.func28 rfl ((EnvOK.cons m64_ok EnvOK.nil)) (noLoops (by kernel_rfl)) rfl rfl ?_
  intro args Q hq
  unfold prodS at hq ⊢
  split at hq
  · rename_i a b
    obtain ⟨hc, hq⟩ := hq
    refine ⟨rfl, _, rfl, fun Q h => h.2, ⟨hc, rfl⟩, ?_⟩
    rw [prod_fn]
    exact T.hchk hc (T.hret (Ox.Alike_refl _))
  · exact hq.elim

def mulB (a b : Int) : Bool := decide (-9223372036854775808 ≤ a * b ∧ a * b ≤ 9223372036854775807)
def mulN (a b : Int) : Int := if -9223372036854775808 ≤ a * b ∧ a * b ≤ 9223372036854775807 then a * b else 0
def mulS : List AV → T AV
  | [.int .i64 a, .int .i64 b] => .chk (i64B a && i64B b) (.ret (.tup [.int .i64 (mulN a b), .bool (mulB a b)]))
  | _ => .fail

theorem abs_mul (a b : Int) : absI a * absI b = if (a < 0) = (b < 0) then a * b else -(a * b) := by
  unfold absI
  by_cases h1 : a < 0 <;> by_cases h2 : b < 0 <;> simp [h1, h2, Int.neg_mul, Int.mul_neg]

theorem abs_lt {a : Int} (h : -9223372036854775808 ≤ a ∧ a ≤ 9223372036854775807) : 0 ≤ absI a ∧ absI a ≤ 9223372036854775808 := by unfold absI; split <;> omega

theorem mul_lt2 {x y : Int} (hx : 0 ≤ x ∧ x ≤ 9223372036854775808) (hy : 0 ≤ y ∧ y ≤ 9223372036854775808) : 0 ≤ x * y ∧ x * y ≤ 85070591730234615865843651857942052864 :=
  ⟨Int.mul_nonneg hx.1 hy.1, Int.le_trans (Int.mul_le_mul hx.2 hy.2 hy.1 (by decide)) (by decide)⟩

theorem mul_ok : SummOK Try.prog 12 (.pure fun args _ => mulS args) := by
  refine val_fn (E := muE Try.f12.ntmps) (c := codeOf Try.f12) (fun args w => Try.call12 args w) Try.func12 rfl ((EnvOK.cons prod_ok (EnvOK.cons size_ok (EnvOK.cons nar_ok EnvOK.nil)))) (noLoops (by kernel_rfl)) rfl rfl ?_
  intro args Q hq
  unfold mulS at hq ⊢
  split at hq
  · rename_i a b
    obtain ⟨hc, hq⟩ := hq
    refine ⟨rfl, _, rfl, fun Q h => h.2, ⟨hc, rfl⟩, ?_⟩
    rw [Bool.and_eq_true] at hc
    have ha := i64_iff.1 hc.1
    have hb := i64_iff.1 hc.2
    have pa := abs_lt ha
    have pb := abs_lt hb
    obtain ⟨p0, p1⟩ := mul_lt2 pa pb
    have hwl : W (hi (absI a * absI b)) (lo (absI a * absI b)) = absI a * absI b := W_hilo p0 (by omega)
    have hab := abs_mul a b
    have fin : ∀ n : Int, ∀ v : AV, (n = mulN a b) → v.asB = some (mulB a b) → (T.ret (AV.tup [.int .i64 n, v])).holds fun r => Ox.Alike r (.tup [.int .i64 (mulN a b), .bool (mulB a b)]) := fun n v h1 h2 => T.hret (al_ib h1 h2)
    rw [mul_fn]
    simp only [hwl]
    have hcu : (u64B (hi (absI a * absI b)) && u64B (lo (absI a * absI b))) = true := by rw [u64_hi, u64_lo]; rfl
    refine T.hchk hc.1 (T.hchk hc.2 (T.hchk (by rw [Bool.and_eq_true, u64_iff, u64_iff]; omega) ?_))
    generalize hp : absI a * absI b = p at *
    have neg : (decide (a < 0) == decide (b < 0)) = false → -(a * b) = p := fun h => by
      have hne : ¬ ((a < 0) = (b < 0)) := by
        intro e
        have : decide (a < 0) = decide (b < 0) := by simp only [e]
        rw [this] at h; simp at h
      rw [if_neg hne] at hab; exact hab.symm
    have pos : (decide (a < 0) == decide (b < 0)) = true → a * b = p := fun h => by
      have he : (a < 0) = (b < 0) := by
        have : decide (a < 0) = decide (b < 0) := by simpa using h
        exact propext (decide_eq_decide.1 this)
      rw [if_pos he] at hab; exact hab.symm
    have negL : (decide (a < 0) == decide (b < 0)) = false → ¬ p = 9223372036854775808 → (T.ret (AV.tup [.int .i64 (IntKind.wrap .i64 (0 - asN p)), .bool (decide (p ≤ 9223372036854775807))])).holds fun r => Ox.Alike r (.tup [.int .i64 (mulN a b), .bool (mulB a b)]) := fun h hne => by
      have e := neg h
      refine fin _ _ ?_ ?_
      · unfold mulN asN
        rw [IntKind.wrap_i64]
        split <;> split <;> omega
      · unfold mulB
        simp only [AV.asB, Option.some.injEq, decide_eq_decide]; omega
    have posL : (decide (a < 0) == decide (b < 0)) = true → (T.ret (AV.tup [.int .i64 (asN p), .bool (decide (p ≤ 9223372036854775807))])).holds fun r => Ox.Alike r (.tup [.int .i64 (mulN a b), .bool (mulB a b)]) := fun h => by
      have e := pos h
      refine fin _ _ ?_ ?_
      · unfold mulN asN
        split <;> split <;> omega
      · unfold mulB
        simp only [AV.asB, Option.some.injEq, decide_eq_decide]; omega
    refine T.hite (fun h => ?_) (fun h => ?_)
    · have h : (decide (a < 0) == decide (b < 0)) = false := by simpa using h
      refine T.hite (fun h2 => ?_) (fun h2 => T.hchk hcu ?_)
      · have e := neg h
        have e2 : p = 9223372036854775808 := by
          simp only [Bool.and_eq_true, beq_iff_eq, and_true] at h2
          rw [← hwl, h2.1, h2.2]; rfl
        refine fin _ _ ?_ ?_
        · unfold mulN; rw [if_pos (by omega)]; omega
        · exact asb_tt (by omega)
      · have hne : ¬ p = 9223372036854775808 := fun e2 => by
          rw [e2] at h2; revert h2; decide
        rw [h]
        exact T.h_tt (negL h hne)
    · have h : (decide (a < 0) == decide (b < 0)) = true := by simpa using h
      rw [h]
      exact T.hchk hcu (T.h_ff (posL h))
  · exact hq.elim

def cmpI (x y : Int) : Int := if x < y then -1 else if x = y then 0 else 1
def compS : List AV → T AV
  | [.int .u64 a, .int .u64 b] => .ret (.int .i64 (cmpI a b))
  | _ => .fail

theorem comp_ok : SummOK Try.prog 42 (.pure fun args _ => compS args) := by
  refine val_fn (E := cpE Try.f42.ntmps) (c := codeOf Try.f42) (fun args w => Try.call42 args w) Try.func42 rfl ((EnvOK.cons nan_ok EnvOK.nil)) (noLoops (by kernel_rfl)) rfl rfl ?_
  intro args Q hq
  unfold compS at hq ⊢
  split at hq
  · rename_i a b
    refine ⟨rfl, _, rfl, fun Q h => h, rfl, ?_⟩
    rw [comp_fn]
    unfold cmpI
    refine T.h_ff (T.h_ff (T.hiteP (fun h => T.hret (Alike_of_eq ?_)) (fun h => T.hiteP (fun h' => T.hret (Alike_of_eq ?_)) (fun h' => T.hret (Alike_of_eq ?_)))))
    · rw [if_pos h]
    · rw [if_neg h, if_neg (by omega)]
    · rw [if_neg h, if_pos (by omega)]
  · exact hq.elim

end Go.Proofs.Ytlebekeplkkciaa
