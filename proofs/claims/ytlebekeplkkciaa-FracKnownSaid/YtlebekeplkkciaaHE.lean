/-
  Layer 1: fractions in lowest terms.
-/
import Derived.Test.YtlebekeplkkciaaHD
namespace Go.Proofs.Ytlebekeplkkciaa
open Go.Ox
set_option maxRecDepth 100000
set_option linter.unusedVariables false
set_option linter.unusedSimpArgs false

noncomputable def frE (nt : Nat) : Env := { nt, n0 := 0, loop := fun _ _ => .fail, fns := [(34, .pure fun args _ => comS args), (45, .pure fun args _ => divS args), (33, .pure fun args _ => asS args), (31, .pure fun args _ => prodS args), (41, .pure fun args _ => rplusS args), (43, .pure fun args _ => lessS args), (32, .pure fun args _ => sizeS args),
  (28, .pure fun args _ => prodS args), (42, .pure fun args _ => compS args), (14, .pure fun args _ => gcdS args), (12, .pure fun args _ => mulS args), (36, .pure fun args _ => usableS args), (37, .pure fun args _ => pairS args)] }

theorem frE_ok (nt : Nat) : EnvOK Try.prog (frE nt).fns := EnvOK.cons common_ok (EnvOK.cons div_ok (EnvOK.cons as_ok (EnvOK.cons times_ok (EnvOK.cons rplus_ok (EnvOK.cons less_ok (EnvOK.cons rsize_ok (EnvOK.cons prod_ok (EnvOK.cons comp_ok (EnvOK.cons gcd_ok (EnvOK.cons mul_ok (EnvOK.cons usable_ok (EnvOK.cons pair_ok EnvOK.nil))))))))))))

theorem right_fn (a b c d : Int) : vfn Try.prog (frE Try.f35.ntmps) Try.f35 (codeOf Try.f35) [.agg [.int .u64 a, .int .u64 b], .agg [.int .u64 c, .int .u64 d]] = 
  T.chk (u64B a && u64B b && (u64B c && u64B d) && decide (W c d ≤ (170141183460469231731687303715884105728 : Int)))
    (T.chk
      (u64B a && u64B b && (u64B (hi (↑(Nat.gcd (Int.toNat (W a b)) (Int.toNat (W c d))) : Int)) && u64B (lo (↑(Nat.gcd (Int.toNat (W a b)) (Int.toNat (W c d))) : Int))) &&
        (decide ((0 : Int) < W (hi (↑(Nat.gcd (Int.toNat (W a b)) (Int.toNat (W c d))) : Int)) (lo (↑(Nat.gcd (Int.toNat (W a b)) (Int.toNat (W c d))) : Int))) && decide (W (hi (↑(Nat.gcd (Int.toNat (W a b)) (Int.toNat (W c d))) : Int)) (lo (↑(Nat.gcd (Int.toNat (W a b)) (Int.toNat (W c d))) : Int)) ≤ (170141183460469231731687303715884105728 : Int))))
      (T.chk
        (u64B c && u64B d && (u64B (hi (↑(Nat.gcd (Int.toNat (W a b)) (Int.toNat (W c d))) : Int)) && u64B (lo (↑(Nat.gcd (Int.toNat (W a b)) (Int.toNat (W c d))) : Int))) &&
          (decide ((0 : Int) < W (hi (↑(Nat.gcd (Int.toNat (W a b)) (Int.toNat (W c d))) : Int)) (lo (↑(Nat.gcd (Int.toNat (W a b)) (Int.toNat (W c d))) : Int))) && decide (W (hi (↑(Nat.gcd (Int.toNat (W a b)) (Int.toNat (W c d))) : Int)) (lo (↑(Nat.gcd (Int.toNat (W a b)) (Int.toNat (W c d))) : Int)) ≤ (170141183460469231731687303715884105728 : Int))))
        (T.chk (u64B (hi (W a b / W (hi (↑(Nat.gcd (Int.toNat (W a b)) (Int.toNat (W c d))) : Int)) (lo (↑(Nat.gcd (Int.toNat (W a b)) (Int.toNat (W c d))) : Int)))) && u64B (lo (W a b / W (hi (↑(Nat.gcd (Int.toNat (W a b)) (Int.toNat (W c d))) : Int)) (lo (↑(Nat.gcd (Int.toNat (W a b)) (Int.toNat (W c d))) : Int)))))
          (T.chk (u64B (hi (W c d / W (hi (↑(Nat.gcd (Int.toNat (W a b)) (Int.toNat (W c d))) : Int)) (lo (↑(Nat.gcd (Int.toNat (W a b)) (Int.toNat (W c d))) : Int)))) && u64B (lo (W c d / W (hi (↑(Nat.gcd (Int.toNat (W a b)) (Int.toNat (W c d))) : Int)) (lo (↑(Nat.gcd (Int.toNat (W a b)) (Int.toNat (W c d))) : Int)))))
            (T.ite (!decide (W (hi (W a b / W (hi (↑(Nat.gcd (Int.toNat (W a b)) (Int.toNat (W c d))) : Int)) (lo (↑(Nat.gcd (Int.toNat (W a b)) (Int.toNat (W c d))) : Int)))) (lo (W a b / W (hi (↑(Nat.gcd (Int.toNat (W a b)) (Int.toNat (W c d))) : Int)) (lo (↑(Nat.gcd (Int.toNat (W a b)) (Int.toNat (W c d))) : Int)))) ≤ (9223372036854775807 : Int)))
              (T.ret (AV.tup [AV.agg [AV.int IntKind.i64 (0 : Int), AV.int IntKind.i64 (0 : Int)], AV.ff]))
              (T.ite (!decide (W (hi (W c d / W (hi (↑(Nat.gcd (Int.toNat (W a b)) (Int.toNat (W c d))) : Int)) (lo (↑(Nat.gcd (Int.toNat (W a b)) (Int.toNat (W c d))) : Int)))) (lo (W c d / W (hi (↑(Nat.gcd (Int.toNat (W a b)) (Int.toNat (W c d))) : Int)) (lo (↑(Nat.gcd (Int.toNat (W a b)) (Int.toNat (W c d))) : Int)))) ≤ (9223372036854775807 : Int)))
                (T.ret (AV.tup [AV.agg [AV.int IntKind.i64 (0 : Int), AV.int IntKind.i64 (0 : Int)], AV.ff]))
                (T.ret
                  (AV.tup
                    [AV.agg
                        [AV.int IntKind.i64 (asN (W (hi (W a b / W (hi (↑(Nat.gcd (Int.toNat (W a b)) (Int.toNat (W c d))) : Int)) (lo (↑(Nat.gcd (Int.toNat (W a b)) (Int.toNat (W c d))) : Int)))) (lo (W a b / W (hi (↑(Nat.gcd (Int.toNat (W a b)) (Int.toNat (W c d))) : Int)) (lo (↑(Nat.gcd (Int.toNat (W a b)) (Int.toNat (W c d))) : Int)))))),
                          AV.int IntKind.i64 (asN (W (hi (W c d / W (hi (↑(Nat.gcd (Int.toNat (W a b)) (Int.toNat (W c d))) : Int)) (lo (↑(Nat.gcd (Int.toNat (W a b)) (Int.toNat (W c d))) : Int)))) (lo (W c d / W (hi (↑(Nat.gcd (Int.toNat (W a b)) (Int.toNat (W c d))) : Int)) (lo (↑(Nat.gcd (Int.toNat (W a b)) (Int.toNat (W c d))) : Int))))))],
                      AV.tt])))))))) := by
  kernel_rfl

theorem rmul_fn (a b : Int) : vfn Try.prog (frE Try.f13.ntmps) Try.f13 (codeOf Try.f13) [.int .i64 a, .int .i64 b] = 
  T.chk (i64B a)
    (T.chk (i64B b)
      (T.chk (u64B (absI a) && u64B (absI b))
        (T.ite (decide (a < (0 : Int)) == decide (b < (0 : Int))) (T.chk (u64B (hi (absI a * absI b)) && u64B (lo (absI a * absI b))) (T.ret (AV.tup [AV.int IntKind.i64 (asN (W (hi (absI a * absI b)) (lo (absI a * absI b)))), AV.bool (decide (W (hi (absI a * absI b)) (lo (absI a * absI b)) ≤ (9223372036854775807 : Int)))])))
          (T.ite (decide (hi (absI a * absI b) > (0 : Int))) (T.ret (AV.tup [AV.int IntKind.i64 (0 : Int), AV.ff])) (T.ite (decide (lo (absI a * absI b) > (9223372036854775808 : Int))) (T.ret (AV.tup [AV.int IntKind.i64 (0 : Int), AV.ff])) (T.ret (AV.tup [AV.int IntKind.i64 (IntKind.wrap IntKind.i64 (IntKind.wrap IntKind.u64 ((0 : Int) - lo (absI a * absI b)))), AV.tt]))))))) := by
  kernel_rfl

theorem rgcd_fn (a b : Int) : vfn Try.prog (frE Try.f15.ntmps) Try.f15 (codeOf Try.f15) [.int .i64 a, .int .i64 b] = 
  T.ite (decide (a < (0 : Int))) (T.ret (AV.int IntKind.i64 (0 : Int)))
    (T.ite (decide (b < (0 : Int))) (T.ret (AV.int IntKind.i64 (0 : Int)))
      (T.chk (u64B (0 : Int) && u64B (IntKind.wrap IntKind.u64 a) && (u64B (0 : Int) && u64B (IntKind.wrap IntKind.u64 b)) && decide (W (0 : Int) (IntKind.wrap IntKind.u64 b) ≤ (170141183460469231731687303715884105728 : Int)))
        (T.chk (u64B (hi (↑(Nat.gcd (Int.toNat (W (0 : Int) (IntKind.wrap IntKind.u64 a))) (Int.toNat (W (0 : Int) (IntKind.wrap IntKind.u64 b)))) : Int)) && u64B (lo (↑(Nat.gcd (Int.toNat (W (0 : Int) (IntKind.wrap IntKind.u64 a))) (Int.toNat (W (0 : Int) (IntKind.wrap IntKind.u64 b)))) : Int)))
          (T.ret (AV.int IntKind.i64 (asN (W (hi (↑(Nat.gcd (Int.toNat (W (0 : Int) (IntKind.wrap IntKind.u64 a))) (Int.toNat (W (0 : Int) (IntKind.wrap IntKind.u64 b)))) : Int)) (lo (↑(Nat.gcd (Int.toNat (W (0 : Int) (IntKind.wrap IntKind.u64 a))) (Int.toNat (W (0 : Int) (IntKind.wrap IntKind.u64 b)))) : Int))))))))) := by
  kernel_rfl

theorem rcmp_fn (a b c d : Int) : vfn Try.prog (frE Try.f25.ntmps) Try.f25 (codeOf Try.f25) [.agg [.int .i64 a, .int .i64 b], .agg [.int .i64 c, .int .i64 d]] = 
  T.chk (u64B (IntKind.wrap IntKind.u64 a) && u64B (IntKind.wrap IntKind.u64 d))
    (T.chk (u64B (IntKind.wrap IntKind.u64 c) && u64B (IntKind.wrap IntKind.u64 b))
      (T.ite (hi (IntKind.wrap IntKind.u64 a * IntKind.wrap IntKind.u64 d) == hi (IntKind.wrap IntKind.u64 c * IntKind.wrap IntKind.u64 b) && (lo (IntKind.wrap IntKind.u64 a * IntKind.wrap IntKind.u64 d) == lo (IntKind.wrap IntKind.u64 c * IntKind.wrap IntKind.u64 b) && true)) (T.ret (AV.int IntKind.i64 (0 : Int)))
        (T.chk (u64B (lo (IntKind.wrap IntKind.u64 a * IntKind.wrap IntKind.u64 d)) && u64B (lo (IntKind.wrap IntKind.u64 c * IntKind.wrap IntKind.u64 b)))
          (T.ite (decide (W (hi (IntKind.wrap IntKind.u64 a * IntKind.wrap IntKind.u64 d)) (lo (IntKind.wrap IntKind.u64 a * IntKind.wrap IntKind.u64 d)) < W (hi (IntKind.wrap IntKind.u64 c * IntKind.wrap IntKind.u64 b)) (lo (IntKind.wrap IntKind.u64 c * IntKind.wrap IntKind.u64 b)))) (T.ret (AV.int IntKind.i64 (-1 : Int))) (T.ret (AV.int IntKind.i64 (1 : Int))))))) := by
  kernel_rfl

theorem cmp_fn (a b c d : Int) : vfn Try.prog (frE Try.f24.ntmps) Try.f24 (codeOf Try.f24) [.agg [.int .i64 a, .int .i64 b], .agg [.int .i64 c, .int .i64 d]] = 
  T.chk (u64B (IntKind.wrap IntKind.u64 a) && u64B (IntKind.wrap IntKind.u64 d))
    (T.chk (u64B (IntKind.wrap IntKind.u64 c) && u64B (IntKind.wrap IntKind.u64 b))
      (T.ite (hi (IntKind.wrap IntKind.u64 a * IntKind.wrap IntKind.u64 d) == hi (IntKind.wrap IntKind.u64 c * IntKind.wrap IntKind.u64 b) && (lo (IntKind.wrap IntKind.u64 a * IntKind.wrap IntKind.u64 d) == lo (IntKind.wrap IntKind.u64 c * IntKind.wrap IntKind.u64 b) && true)) (T.ret (AV.int IntKind.i64 (0 : Int)))
        (T.chk true
          (T.chk true
            (T.ite (hi (IntKind.wrap IntKind.u64 a * IntKind.wrap IntKind.u64 d) != hi (IntKind.wrap IntKind.u64 c * IntKind.wrap IntKind.u64 b)) (T.chk true (T.chk true (T.ret (AV.int IntKind.i64 (cmpI (hi (IntKind.wrap IntKind.u64 a * IntKind.wrap IntKind.u64 d)) (hi (IntKind.wrap IntKind.u64 c * IntKind.wrap IntKind.u64 b)))))))
              (T.chk true (T.chk true (T.ret (AV.int IntKind.i64 (cmpI (lo (IntKind.wrap IntKind.u64 a * IntKind.wrap IntKind.u64 d)) (lo (IntKind.wrap IntKind.u64 c * IntKind.wrap IntKind.u64 b)))))))))))) := by
  kernel_rfl

theorem of_fn (a b : Int) : vfn Try.prog (frE Try.f17.ntmps) Try.f17 (codeOf Try.f17) [.int .i64 a, .int .i64 b] = 
  T.ite (decide (a < (0 : Int))) (T.ret (AV.tup [AV.agg [AV.int IntKind.i64 (0 : Int), AV.int IntKind.i64 (0 : Int)], AV.ff]))
    (T.ite (decide (b < (1 : Int))) (T.ret (AV.tup [AV.agg [AV.int IntKind.i64 (0 : Int), AV.int IntKind.i64 (0 : Int)], AV.ff])) (T.chk (!gcdI a b == (0 : Int)) (T.chk (!gcdI a b == (0 : Int)) (T.ret (AV.tup [AV.agg [AV.int IntKind.i64 (IntKind.wrap IntKind.i64 (Int.tdiv a (gcdI a b))), AV.int IntKind.i64 (IntKind.wrap IntKind.i64 (Int.tdiv b (gcdI a b)))], AV.tt]))))) := by
  kernel_rfl

theorem fceil_fn (n d : Int) : vfn Try.prog (frE Try.f26.ntmps) Try.f26 (codeOf Try.f26) [.agg [.int .i64 n, .int .i64 d]] = 
  T.ite (!(decide (n ≥ (0 : Int)) && decide (d ≥ (1 : Int)))) (T.ret (AV.int IntKind.i64 (0 : Int))) (T.chk (!d == (0 : Int)) (T.chk (!d == (0 : Int)) (T.ite (Int.tmod n d != (0 : Int)) (T.ret (AV.int IntKind.i64 (IntKind.wrap IntKind.i64 (IntKind.wrap IntKind.i64 (Int.tdiv n d) + (1 : Int))))) (T.ret (AV.int IntKind.i64 (IntKind.wrap IntKind.i64 (Int.tdiv n d))))))) := by
  kernel_rfl

theorem times_fn (a b c d : Int) : vfn Try.prog (frE Try.f20.ntmps) Try.f20 (codeOf Try.f20) [.agg [.int .i64 a, .int .i64 b], .agg [.int .i64 c, .int .i64 d]] = 
  T.ite (!(decide (a ≥ (0 : Int)) && decide (b ≥ (1 : Int)))) (T.ret (AV.tup [AV.agg [AV.int IntKind.i64 (0 : Int), AV.int IntKind.i64 (0 : Int)], AV.ff]))
    (T.ite (!(decide (c ≥ (0 : Int)) && decide (d ≥ (1 : Int)))) (T.ret (AV.tup [AV.agg [AV.int IntKind.i64 (0 : Int), AV.int IntKind.i64 (0 : Int)], AV.ff]))
      (T.chk (!gcdI a d == (0 : Int))
        (T.chk (!gcdI c b == (0 : Int))
          (T.chk (i64B (IntKind.wrap IntKind.i64 (Int.tdiv a (gcdI a d))) && i64B (IntKind.wrap IntKind.i64 (Int.tdiv c (gcdI c b))))
            (T.chk (!gcdI c b == (0 : Int))
              (T.chk (!gcdI a d == (0 : Int))
                (T.chk (i64B (IntKind.wrap IntKind.i64 (Int.tdiv b (gcdI c b))) && i64B (IntKind.wrap IntKind.i64 (Int.tdiv d (gcdI a d))))
                  (T.ite (mulB (IntKind.wrap IntKind.i64 (Int.tdiv a (gcdI a d))) (IntKind.wrap IntKind.i64 (Int.tdiv c (gcdI c b))))
                    (T.ret
                      (AV.tup
                        [AV.agg
                            [AV.int IntKind.i64 (if mulB (IntKind.wrap IntKind.i64 (Int.tdiv b (gcdI c b))) (IntKind.wrap IntKind.i64 (Int.tdiv d (gcdI a d))) = true then mulN (IntKind.wrap IntKind.i64 (Int.tdiv a (gcdI a d))) (IntKind.wrap IntKind.i64 (Int.tdiv c (gcdI c b))) else (0 : Int)),
                              AV.int IntKind.i64 (if mulB (IntKind.wrap IntKind.i64 (Int.tdiv b (gcdI c b))) (IntKind.wrap IntKind.i64 (Int.tdiv d (gcdI a d))) = true then mulN (IntKind.wrap IntKind.i64 (Int.tdiv b (gcdI c b))) (IntKind.wrap IntKind.i64 (Int.tdiv d (gcdI a d))) else (0 : Int))],
                          AV.bool (mulB (IntKind.wrap IntKind.i64 (Int.tdiv b (gcdI c b))) (IntKind.wrap IntKind.i64 (Int.tdiv d (gcdI a d))))]))
                    (T.ret (AV.tup [AV.agg [AV.int IntKind.i64 (if false = true then mulN (IntKind.wrap IntKind.i64 (Int.tdiv a (gcdI a d))) (IntKind.wrap IntKind.i64 (Int.tdiv c (gcdI c b))) else (0 : Int)), AV.int IntKind.i64 (if false = true then mulN (IntKind.wrap IntKind.i64 (Int.tdiv b (gcdI c b))) (IntKind.wrap IntKind.i64 (Int.tdiv d (gcdI a d))) else (0 : Int))], AV.bool false])))))))))) := by
  kernel_rfl

def gI (n m : Int) : Int := (Nat.gcd n.toNat m.toNat : Nat)
def rOk (n m : Int) : Bool := decide (n / gI n m ≤ 9223372036854775807) && decide (m / gI n m ≤ 9223372036854775807)
def rightS : List AV → T AV
  | [.agg [.int .u64 a, .int .u64 b], .agg [.int .u64 c, .int .u64 d]] => .chk (((u64B a && u64B b) && (u64B c && u64B d)) && (decide (0 < W c d) && decide (W c d ≤ 170141183460469231731687303715884105728)))
      (.ret (.tup [.agg [.int .i64 (if rOk (W a b) (W c d) = true then W a b / gI (W a b) (W c d) else 0), .int .i64 (if rOk (W a b) (W c d) = true then W c d / gI (W a b) (W c d) else 0)], .bool (rOk (W a b) (W c d))]))
  | _ => .fail

theorem gI_pos {n m : Int} (hm : 0 < m) : 0 < gI n m := by
  have := Nat.gcd_pos_of_pos_right n.toNat (n := m.toNat) (by omega)
  unfold gI; omega

theorem gI_le {n m : Int} (hm : 0 < m) : gI n m ≤ m := by
  have := Nat.gcd_le_right n.toNat (n := m.toNat) (by omega)
  unfold gI; omega

theorem ediv_bd {n g : Int} (hn : 0 ≤ n) (hg : 0 < g) : 0 ≤ n / g ∧ n / g ≤ n := ⟨Int.ediv_nonneg hn (Int.le_of_lt hg), Int.ediv_le_self _ hn⟩

theorem right_ok : SummOK Try.prog 35 (.pure fun args _ => rightS args) := by
  refine val_fn (E := frE Try.f35.ntmps) (c := codeOf Try.f35) (fun args w => Try.call35 args w) Try.func35 rfl (frE_ok _) (noLoops (by kernel_rfl)) rfl rfl ?_
  intro args Q hq
  unfold rightS at hq ⊢
  split at hq
  · rename_i a b c d
    obtain ⟨hc, hq⟩ := hq
    refine ⟨rfl, _, rfl, fun Q h => h.2, ⟨hc, rfl⟩, ?_⟩
    simp only [Bool.and_eq_true, decide_eq_true_eq] at hc
    have h2 := hc.1.1.1
    have h3 := hc.1.1.2
    have h4 := hc.1.2.1
    have h5 := hc.1.2.2
    have h6 := hc.2.1
    have h7 := hc.2.2
    have hA0 := (W_lt h2 h3).1
    have hA1 := (W_lt h2 h3).2
    have g1 := gI_pos (n := W a b) h6
    have g2 := gI_le (n := W a b) h6
    rw [right_fn]
    rw [show ((Nat.gcd (Int.toNat (W a b)) (Int.toNat (W c d)) : Nat) : Int) = gI (W a b) (W c d) from rfl]
    obtain ⟨p1, p2⟩ := ediv_bd hA0 g1
    obtain ⟨q1, q2⟩ := ediv_bd (Int.le_of_lt h6) g1
    have e1 : W (hi (gI (W a b) (W c d))) (lo (gI (W a b) (W c d))) = gI (W a b) (W c d) := W_hilo (by omega) (by omega)
    have e2 : W (hi (W a b / gI (W a b) (W c d))) (lo (W a b / gI (W a b) (W c d))) = W a b / gI (W a b) (W c d) := W_hilo (by omega) (by omega)
    have e3 : W (hi (W c d / gI (W a b) (W c d))) (lo (W c d / gI (W a b) (W c d))) = W c d / gI (W a b) (W c d) := W_hilo (by omega) (by omega)
    simp only [e1, e2, e3, u64_hi, u64_lo, h2, h3, h4, h5, Bool.true_and]
    refine T.hchk (by simp only [decide_eq_true_eq]; omega) (T.hchk (by simp only [Bool.and_eq_true, decide_eq_true_eq]; omega) (T.hchk (by simp only [Bool.and_eq_true, decide_eq_true_eq]; omega) (T.hchk rfl (T.hchk rfl (T.hiteFP (fun h => T.hret (al_wb ?_ ?_ ?_)) (fun h => T.hiteFP (fun h' => T.hret (al_wb ?_ ?_ ?_)) (fun h' => T.hret (al_wb ?_ ?_ ?_))))))))
    · simp [rOk, h]
    · simp [rOk, h]
    · simp [rOk, h, AV.asB]
    · simp [rOk, h']
    · simp [rOk, h']
    · simp [rOk, h', AV.asB]
    · simp [rOk, h, h', asN]
    · simp [rOk, h, h', asN]
    · simp [rOk, h, h', AV.asB]
  · exact hq.elim

theorem rmul_ok : SummOK Try.prog 13 (.pure fun args _ => mulS args) := by
  refine val_fn (E := frE Try.f13.ntmps) (c := codeOf Try.f13) (fun args w => Try.call13 args w) Try.func13 rfl (frE_ok _) (noLoops (by kernel_rfl)) rfl rfl ?_
  intro args Q hq
  unfold mulS at hq ⊢
  split at hq
  · rename_i a b
    obtain ⟨hc, hq⟩ := hq
    refine ⟨rfl, _, rfl, fun Q h => h.2, ⟨hc, rfl⟩, ?_⟩
    rw [Bool.and_eq_true] at hc
    have ha := i64_iff.1 hc.1
    have hb := i64_iff.1 hc.2
    have pa := abs_lt ha
    have pb := abs_lt hb
    obtain ⟨p0, p1⟩ := mul_lt2 pa pb
    have hwl : W (hi (absI a * absI b)) (lo (absI a * absI b)) = absI a * absI b := W_hilo p0 (by omega)
    have hab := abs_mul a b
    rw [rmul_fn]
    simp only [hwl]
    refine T.hchk hc.1 (T.hchk hc.2 (T.hchk (by rw [Bool.and_eq_true, u64_iff, u64_iff]; omega) ?_))
    have hh : hi (absI a * absI b) = absI a * absI b / 18446744073709551616 := by unfold hi; omega
    have hl : lo (absI a * absI b) = absI a * absI b % 18446744073709551616 := rfl
    rw [hh, hl]
    generalize hp : absI a * absI b = p at *
    refine T.hite (fun h => T.hchk (by rw [← hh, ← hl, u64_hi, u64_lo]; rfl) (T.hret (al_ib ?_ ?_))) (fun h => ?_)
    · have he : (a < 0) = (b < 0) := by
        have : decide (a < 0) = decide (b < 0) := by simpa using h
        exact propext (decide_eq_decide.1 this)
      rw [if_pos he] at hab
      unfold mulN asN
      split <;> split <;> omega
    · have he : (a < 0) = (b < 0) := by
        have : decide (a < 0) = decide (b < 0) := by simpa using h
        exact propext (decide_eq_decide.1 this)
      rw [if_pos he] at hab
      unfold mulB
      simp only [AV.asB, Option.some.injEq, decide_eq_decide]; omega
    · have hne : ¬ ((a < 0) = (b < 0)) := by
        intro e
        have : decide (a < 0) = decide (b < 0) := by simp only [e]
        rw [this] at h; simp at h
      rw [if_neg hne] at hab
      refine T.hiteP (fun h1 => T.hret (al_ib ?_ (asb_ff ?_))) (fun h1 => T.hiteP (fun h2 => T.hret (al_ib ?_ (asb_ff ?_))) (fun h2 => T.hret (al_ib ?_ (asb_tt ?_))))
      · unfold mulN; rw [if_neg (by omega)]
      · omega
      · unfold mulN; rw [if_neg (by omega)]
      · omega
      · unfold mulN; rw [if_pos (by omega), IntKind.wrap_i64, IntKind.wrap_u64]; omega
      · omega
  · exact hq.elim

def rgcdS : List AV → T AV
  | [.int .i64 a, .int .i64 b] => .chk (i64B a && i64B b) (.ret (.int .i64 (gcdI a b)))
  | _ => .fail

theorem gI_max {a b : Int} (ha : 0 ≤ a ∧ a ≤ 9223372036854775807) (hb : 0 ≤ b ∧ b ≤ 9223372036854775807) : 0 ≤ gI a b ∧ gI a b ≤ 9223372036854775807 := by
  unfold gI
  rcases Nat.eq_zero_or_pos b.toNat with h | h
  · rw [h, Nat.gcd_zero_right]; omega
  · have := Nat.gcd_le_right a.toNat h
    omega

theorem rgcd_ok : SummOK Try.prog 15 (.pure fun args _ => rgcdS args) := by
  refine val_fn (E := frE Try.f15.ntmps) (c := codeOf Try.f15) (fun args w => Try.call15 args w) Try.func15 rfl (frE_ok _) (noLoops (by kernel_rfl)) rfl rfl ?_
  intro args Q hq
  unfold rgcdS at hq ⊢
  split at hq
  · rename_i a b
    obtain ⟨hc, hq⟩ := hq
    refine ⟨rfl, _, rfl, fun Q h => h.2, ⟨hc, rfl⟩, ?_⟩
    rw [Bool.and_eq_true, i64_iff, i64_iff] at hc
    rw [rgcd_fn]
    refine T.hiteP (fun h => T.hret (Alike_of_eq ?_)) (fun h => T.hiteP (fun h' => T.hret (Alike_of_eq ?_)) (fun h' => ?_))
    · unfold gcdI; rw [if_pos (.inl h)]
    · unfold gcdI; rw [if_pos (.inr h')]
    · have ea : IntKind.wrap .u64 a = a := by rw [IntKind.wrap_u64]; omega
      have eb : IntKind.wrap .u64 b = b := by rw [IntKind.wrap_u64]; omega
      have hm := gI_max (a := a) (b := b) (by omega) (by omega)
      rw [ea, eb, W_zero, W_zero, show ((Nat.gcd a.toNat b.toNat : Nat) : Int) = gI a b from rfl, W_hilo hm.1 (by omega)]
      refine T.hchk ?_ (T.hchk (by rw [u64_hi, u64_lo]; rfl) (T.hret (Alike_of_eq ?_)))
      · simp only [Bool.and_eq_true, u64_iff, decide_eq_true_eq]; omega
      · unfold gcdI asN; rw [if_pos hm.2, if_neg (by omega)]; rfl
  · exact hq.elim

def n64 (a : Int) : Bool := decide (0 ≤ a) && decide (a ≤ 9223372036854775807)

theorem n64_iff {a : Int} : n64 a = true ↔ 0 ≤ a ∧ a ≤ 9223372036854775807 := by simp [n64]
def cmpS : List AV → T AV
  | [.agg [.int .i64 a, .int .i64 b], .agg [.int .i64 c, .int .i64 d]] => .chk ((n64 a && n64 b) && (n64 c && n64 d)) (.ret (.int .i64 (cmpI (a * d) (c * b))))
  | _ => .fail

theorem mul_n {x y : Int} (hx : 0 ≤ x ∧ x ≤ 9223372036854775807) (hy : 0 ≤ y ∧ y ≤ 9223372036854775807) : 0 ≤ x * y ∧ x * y ≤ 85070591730234615865843651857942052864 :=
  mul_lt2 ⟨hx.1, by omega⟩ ⟨hy.1, by omega⟩

theorem rcmp_ok : SummOK Try.prog 25 (.pure fun args _ => cmpS args) := by
  refine val_fn (E := frE Try.f25.ntmps) (c := codeOf Try.f25) (fun args w => Try.call25 args w) Try.func25 rfl (frE_ok _) (noLoops (by kernel_rfl)) rfl rfl ?_
  intro args Q hq
  unfold cmpS at hq ⊢
  split at hq
  · rename_i a b c d
    obtain ⟨hc, hq⟩ := hq
    refine ⟨rfl, _, rfl, fun Q h => h.2, ⟨hc, rfl⟩, ?_⟩
    simp only [Bool.and_eq_true, n64_iff] at hc
    obtain ⟨⟨ha, hb⟩, hcc, hd⟩ := hc
    have u : ∀ x : Int, 0 ≤ x ∧ x ≤ 9223372036854775807 → IntKind.wrap .u64 x = x := fun x h => by rw [IntKind.wrap_u64]; omega
    have m1 := mul_n ha hd
    have m2 := mul_n hcc hb
    rw [rcmp_fn]
    simp only [u a ha, u b hb, u c hcc, u d hd, W_hilo m1.1 (by omega : a * d < 340282366920938463463374607431768211456), W_hilo m2.1 (by omega : c * b < 340282366920938463463374607431768211456)]
    generalize a * d = x at *
    generalize c * b = y at *
    have hx : hi x = x / 18446744073709551616 ∧ lo x = x % 18446744073709551616 := by unfold hi lo; omega
    have hy : hi y = y / 18446744073709551616 ∧ lo y = y % 18446744073709551616 := by unfold hi lo; omega
    rw [hx.1, hx.2, hy.1, hy.2]
    have ub : ∀ z : Int, 0 ≤ z ∧ z ≤ 18446744073709551615 → u64B z = true := fun z h => u64_iff.2 h
    refine T.hchk (by rw [ub a (by omega), ub d (by omega)]; rfl) (T.hchk (by rw [ub c (by omega), ub b (by omega)]; rfl) (T.hite (fun h => T.hret (Alike_of_eq ?_)) (fun h => T.hchk (by rw [ub _ (by omega), ub _ (by omega)]; rfl) (T.hiteP (fun h' => T.hret (Alike_of_eq ?_)) (fun h' => T.hret (Alike_of_eq ?_))))))
    · simp only [Bool.and_eq_true, beq_iff_eq, and_true] at h
      unfold cmpI; rw [if_neg (by omega), if_pos (by omega)]
    · unfold cmpI; rw [if_pos h']
    · have hne : ¬ x = y := fun e => by subst e; simp at h
      unfold cmpI; rw [if_neg h', if_neg hne]
  · exact hq.elim

theorem cmp_ok : SummOK Try.prog 24 (.pure fun args _ => cmpS args) := by
  refine val_fn (E := frE Try.f24.ntmps) (c := codeOf Try.f24) (fun args w => Try.call24 args w) Try.func24 rfl (frE_ok _) (noLoops (by kernel_rfl)) rfl rfl ?_
  intro args Q hq
  unfold cmpS at hq ⊢
  split at hq
  · rename_i a b c d
    obtain ⟨hc, hq⟩ := hq
    refine ⟨rfl, _, rfl, fun Q h => h.2, ⟨hc, rfl⟩, ?_⟩
    simp only [Bool.and_eq_true, n64_iff] at hc
    obtain ⟨⟨ha, hb⟩, hcc, hd⟩ := hc
    have u : ∀ x : Int, 0 ≤ x ∧ x ≤ 9223372036854775807 → IntKind.wrap .u64 x = x := fun x h => by rw [IntKind.wrap_u64]; omega
    have m1 := mul_n ha hd
    have m2 := mul_n hcc hb
    rw [cmp_fn]
    simp only [u a ha, u b hb, u c hcc, u d hd]
    generalize a * d = x at *
    generalize c * b = y at *
    have hx : hi x = x / 18446744073709551616 ∧ lo x = x % 18446744073709551616 := by unfold hi lo; omega
    have hy : hi y = y / 18446744073709551616 ∧ lo y = y % 18446744073709551616 := by unfold hi lo; omega
    rw [hx.1, hx.2, hy.1, hy.2]
    have ub : ∀ z : Int, 0 ≤ z ∧ z ≤ 18446744073709551615 → u64B z = true := fun z h => u64_iff.2 h
    refine T.hchk (by rw [ub a (by omega), ub d (by omega)]; rfl) (T.hchk (by rw [ub c (by omega), ub b (by omega)]; rfl) (T.hite (fun h => T.hret (Alike_of_eq ?_)) (fun h => T.hchk rfl (T.hchk rfl (T.hiteN (fun h' => T.hchk rfl (T.hchk rfl (T.hret (Alike_of_eq ?_)))) (fun h' => T.hchk rfl (T.hchk rfl (T.hret (Alike_of_eq ?_)))))))))
    · simp only [Bool.and_eq_true, beq_iff_eq, and_true] at h
      unfold cmpI; rw [if_neg (by omega), if_pos (by omega)]
    · unfold cmpI; split <;> split <;> (try split) <;> (try split) <;> omega
    · unfold cmpI; split <;> split <;> (try split) <;> (try split) <;> omega
  · exact hq.elim

def ceilI (n d : Int) : Int := if n % d = 0 then n / d else n / d + 1
def ceilS : List AV → T AV
  | [.agg [.int .i64 n, .int .i64 d]] => .chk ((n64 n && n64 d) && decide (1 ≤ d)) (.ret (.int .i64 (ceilI n d)))
  | _ => .fail

theorem ceil_rng {n d : Int} (hn : 0 ≤ n ∧ n ≤ 9223372036854775807) (hd : 1 ≤ d) : IntKind.wrap .i64 (Int.tdiv n d) = n / d ∧ (n % d ≠ 0 → IntKind.wrap .i64 (n / d + 1) = n / d + 1) := by
  have h1 := ediv_bd hn.1 (show 0 < d by omega)
  rw [Int.tdiv_eq_ediv_of_nonneg hn.1, IntWalk.i64_in _ (by omega)]
  refine ⟨rfl, fun h => IntWalk.i64_in _ ?_⟩
  have hd1 : d ≠ 1 := fun e => h (by rw [e]; exact Int.emod_one n)
  have h2 := Int.mul_ediv_add_emod n d
  have h3 : 2 * (n / d) ≤ d * (n / d) := Int.mul_le_mul_of_nonneg_right (by omega) h1.1
  have h4 := Int.emod_nonneg n (show d ≠ 0 by omega)
  omega

theorem rceil_ok : SummOK Try.prog 27 (.pure fun args _ => ceilS args) := by
  refine val_fn (E := noE Try.f27.ntmps) (c := codeOf Try.f27) (fun args w => Try.call27 args w) Try.func27 rfl (EnvOK.nil) (noLoops (by kernel_rfl)) rfl rfl ?_
  intro args Q hq
  unfold ceilS at hq ⊢
  split at hq
  · rename_i n d
    obtain ⟨hc, hq⟩ := hq
    refine ⟨rfl, _, rfl, fun Q h => h.2, ⟨hc, rfl⟩, ?_⟩
    simp only [Bool.and_eq_true, n64_iff, decide_eq_true_eq] at hc
    obtain ⟨⟨hn, hd⟩, hd1⟩ := hc
    obtain ⟨e1, e2⟩ := ceil_rng hn hd1
    have hd0 : (!(d == 0)) = true := by simp; omega
    rw [ceil_fn]
    simp only [e1, Int.tmod_eq_emod_of_nonneg hn.1]
    refine T.hchk hd0 (T.hiteE (fun h => T.hchk hd0 (T.hret (Alike_of_eq ?_))) (fun h => T.hchk hd0 (T.hret (Alike_of_eq ?_))))
    · unfold ceilI; rw [if_pos h]
    · unfold ceilI; rw [if_neg h, e2 h]
  · exact hq.elim

theorem fceil_ok : SummOK Try.prog 26 (.pure fun args _ => ceilS args) := by
  refine val_fn (E := frE Try.f26.ntmps) (c := codeOf Try.f26) (fun args w => Try.call26 args w) Try.func26 rfl (frE_ok _) (noLoops (by kernel_rfl)) rfl rfl ?_
  intro args Q hq
  unfold ceilS at hq ⊢
  split at hq
  · rename_i n d
    obtain ⟨hc, hq⟩ := hq
    refine ⟨rfl, _, rfl, fun Q h => h.2, ⟨hc, rfl⟩, ?_⟩
    simp only [Bool.and_eq_true, n64_iff, decide_eq_true_eq] at hc
    obtain ⟨⟨hn, hd⟩, hd1⟩ := hc
    obtain ⟨e1, e2⟩ := ceil_rng hn hd1
    have hd0 : (!(d == 0)) = true := by simp; omega
    have hu : (!(decide (n ≥ 0) && decide (d ≥ 1))) = false := by simp; omega
    rw [fceil_fn]
    simp only [e1, Int.tmod_eq_emod_of_nonneg hn.1, hu]
    refine T.h_ff (T.hchk hd0 (T.hchk hd0 (T.hiteN (fun h => T.hret (Alike_of_eq ?_)) (fun h => T.hret (Alike_of_eq ?_)))))
    · unfold ceilI; rw [if_neg h, e2 h]
    · unfold ceilI; rw [if_pos h]
  · exact hq.elim

def ofB (a b : Int) : Bool := decide (0 ≤ a ∧ 1 ≤ b)
def ofS : List AV → T AV
  | [.int .i64 a, .int .i64 b] => .chk (i64B a && i64B b) (.ret (.tup [.agg [.int .i64 (if ofB a b = true then a / gI a b else 0), .int .i64 (if ofB a b = true then b / gI a b else 0)], .bool (ofB a b)]))
  | _ => .fail

theorem of_ok : SummOK Try.prog 17 (.pure fun args _ => ofS args) := by
  refine val_fn (E := frE Try.f17.ntmps) (c := codeOf Try.f17) (fun args w => Try.call17 args w) Try.func17 rfl (frE_ok _) (noLoops (by kernel_rfl)) rfl rfl ?_
  intro args Q hq
  unfold ofS at hq ⊢
  split at hq
  · rename_i a b
    obtain ⟨hc, hq⟩ := hq
    refine ⟨rfl, _, rfl, fun Q h => h.2, ⟨hc, rfl⟩, ?_⟩
    rw [Bool.and_eq_true, i64_iff, i64_iff] at hc
    rw [of_fn]
    refine T.hiteP (fun h => T.hret ?_) (fun h => T.hiteP (fun h' => T.hret ?_) (fun h' => ?_))
    · have e : ofB a b = false := decide_eq_false (by omega)
      exact al_wb (by rw [e]; rfl) (by rw [e]; rfl) (by rw [e]; rfl)
    · have e : ofB a b = false := decide_eq_false (by omega)
      exact al_wb (by rw [e]; rfl) (by rw [e]; rfl) (by rw [e]; rfl)
    · have e : ofB a b = true := decide_eq_true (by omega)
      have eg : gcdI a b = gI a b := if_neg (by omega)
      have g1 := gI_pos (n := a) (m := b) (by omega)
      have p1 := ediv_bd (n := a) (by omega) g1
      have p2 := ediv_bd (n := b) (by omega) g1
      rw [eg, Int.tdiv_eq_ediv_of_nonneg (by omega), Int.tdiv_eq_ediv_of_nonneg (by omega), IntWalk.i64_in _ (by omega), IntWalk.i64_in _ (by omega)]
      have hz : (!(gI a b == 0)) = true := by simp; omega
      exact T.hchk hz (T.hchk hz (T.hret (al_wb (by rw [e]; rfl) (by rw [e]; rfl) (by rw [e]; rfl))))
  · exact hq.elim

end Go.Proofs.Ytlebekeplkkciaa
