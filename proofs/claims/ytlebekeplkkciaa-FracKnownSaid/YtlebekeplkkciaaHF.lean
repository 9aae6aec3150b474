/-
  Layer 1: Of, Right, known.
-/
import Derived.Test.YtlebekeplkkciaaHE
namespace Go.Proofs.Ytlebekeplkkciaa
open Go.Ox Go.Proofs
set_option maxRecDepth 100000
set_option linter.unusedVariables false
set_option linter.unusedSimpArgs false

noncomputable def f2E (nt : Nat) : Env := { nt, n0 := 0, loop := fun _ _ => .fail, fns := (35, .pure fun args _ => rightS args) :: (frE nt).fns }

theorem f2E_ok (nt : Nat) : EnvOK Try.prog (f2E nt).fns := EnvOK.cons right_ok (frE_ok nt)

theorem rof_fn (a b : Int) : vfn Try.prog (f2E Try.f18.ntmps) Try.f18 (codeOf Try.f18) [.int .i64 a, .int .i64 b] = 
  T.ite (decide (a < (0 : Int))) (T.ret (AV.tup [AV.agg [AV.int IntKind.i64 (0 : Int), AV.int IntKind.i64 (0 : Int)], AV.ff]))
    (T.ite (decide (b < (1 : Int))) (T.ret (AV.tup [AV.agg [AV.int IntKind.i64 (0 : Int), AV.int IntKind.i64 (0 : Int)], AV.ff]))
      (T.chk (u64B (0 : Int) && u64B (IntKind.wrap IntKind.u64 a) && (u64B (0 : Int) && u64B (IntKind.wrap IntKind.u64 b)) && (decide ((0 : Int) < W (0 : Int) (IntKind.wrap IntKind.u64 b)) && decide (W (0 : Int) (IntKind.wrap IntKind.u64 b) ≤ (170141183460469231731687303715884105728 : Int))))
        (T.ret
          (AV.tup
            [AV.agg
                [AV.int IntKind.i64 (if rOk (W (0 : Int) (IntKind.wrap IntKind.u64 a)) (W (0 : Int) (IntKind.wrap IntKind.u64 b)) = true then W (0 : Int) (IntKind.wrap IntKind.u64 a) / gI (W (0 : Int) (IntKind.wrap IntKind.u64 a)) (W (0 : Int) (IntKind.wrap IntKind.u64 b)) else (0 : Int)),
                  AV.int IntKind.i64 (if rOk (W (0 : Int) (IntKind.wrap IntKind.u64 a)) (W (0 : Int) (IntKind.wrap IntKind.u64 b)) = true then W (0 : Int) (IntKind.wrap IntKind.u64 b) / gI (W (0 : Int) (IntKind.wrap IntKind.u64 a)) (W (0 : Int) (IntKind.wrap IntKind.u64 b)) else (0 : Int))],
              AV.bool (rOk (W (0 : Int) (IntKind.wrap IntKind.u64 a)) (W (0 : Int) (IntKind.wrap IntKind.u64 b)))])))) := by
  kernel_rfl

noncomputable def f3E (nt : Nat) : Env := { nt, n0 := 0, loop := fun _ _ => .fail, fns := (18, .pure fun args _ => ofS args) :: (f2E nt).fns }

theorem rght_fn (a b : Int) : vfn Try.prog (f3E Try.f19.ntmps) Try.f19 (codeOf Try.f19) [.agg [.int .i64 a, .int .i64 b]] = 
  T.chk (i64B (if a > (0 : Int) then a else (0 : Int)) && i64B (if b > (1 : Int) then b else (1 : Int)))
    (T.ret
      (AV.agg
        [AV.int IntKind.i64 (if ofB (if a > (0 : Int) then a else (0 : Int)) (if b > (1 : Int) then b else (1 : Int)) = true then (if a > (0 : Int) then a else (0 : Int)) / gI (if a > (0 : Int) then a else (0 : Int)) (if b > (1 : Int) then b else (1 : Int)) else (0 : Int)),
          AV.int IntKind.i64 (if ofB (if a > (0 : Int) then a else (0 : Int)) (if b > (1 : Int) then b else (1 : Int)) = true then (if b > (1 : Int) then b else (1 : Int)) / gI (if a > (0 : Int) then a else (0 : Int)) (if b > (1 : Int) then b else (1 : Int)) else (0 : Int))])) := by
  kernel_rfl

def a64S : List AV → T AV
  | [.int .u64 x, .int .u64 y, .int .u64 c] => .chk ((decide (0 ≤ x) && decide (0 ≤ y)) && (decide (0 ≤ c) && decide (c ≤ 1))) (.ret (.tup [.int .u64 ((x + y + c) % 18446744073709551616), .int .u64 ((x + y + c) / 18446744073709551616)]))
  | _ => .fail

noncomputable def knB : List (Nat × Summ) := (46, .ext a64S) :: (10, .pure fun args _ => addS args) :: (26, .pure fun args _ => ceilS args) :: (30, .pure fun args _ => asS args) :: (frE 0).fns
noncomputable def knL : List (Nat × Func) := [(22, Try.f22), (39, Try.f39), (40, Try.f40), (38, Try.f38), (47, Try.f47), (48, Try.f48)]

theorem knL_ok : InlOK Try.prog knL := ⟨⟨fun args w => Try.call22 args w, Try.func22, rfl, by kernel_rfl⟩, ⟨fun args w => Try.call39 args w, Try.func39, rfl, by kernel_rfl⟩, ⟨fun args w => Try.call40 args w, Try.func40, rfl, by kernel_rfl⟩, ⟨fun args w => Try.call38 args w, Try.func38, rfl, by kernel_rfl⟩, ⟨fun args w => Try.call47 args w, Try.func47, rfl, by kernel_rfl⟩, ⟨fun args w => Try.call48 args w, Try.func48, rfl, by kernel_rfl⟩, trivial⟩

theorem kn_fn : T.cut (vfn Try.prog (inlE Try.prog knB knL Try.f16 0) Try.f16 (codeOf Try.f16) []) [0, 0, 2, 10, 0, 0, 1, 0, 0, 1, 1, 1, 1, 1, 0, 0, 1, 0, 0, 1, 1, 1, 1, 1] = 
  T.chk true
    (@T.chk AV true
      (@T.chk AV true
        (T.chk true
          (T.chk true
            (T.chk true
              (T.chk true
                (T.all fun c =>
                  T.ite (decide (c = (0 : Nat)))
                    (T.chk true
                      (T.chk true
                        (T.chk true
                          (T.chk true
                            (T.chk true
                              (T.chk true
                                (T.need (AV.int IntKind.i64 (6 : Int) = AV.int IntKind.i64 (6 : Int))
                                  (T.need (AV.int IntKind.i64 (1 : Int) = AV.int IntKind.i64 (1 : Int))
                                    (T.need (AV.int IntKind.i64 (3 : Int) = AV.int IntKind.i64 (3 : Int))
                                      (T.need (AV.int IntKind.i64 (1 : Int) = AV.int IntKind.i64 (1 : Int))
                                        (T.chk true
                                          (T.need (AV.agg [AV.int IntKind.u64 (0 : Int), AV.int IntKind.u64 (2 : Int)] = AV.agg [AV.int IntKind.u64 (0 : Int), AV.int IntKind.u64 (2 : Int)])
                                            (T.need (AV.int IntKind.i64 (6 : Int) = AV.int IntKind.i64 (6 : Int))
                                              (T.need (AV.int IntKind.i64 (1 : Int) = AV.int IntKind.i64 (1 : Int))
                                                (T.chk true
                                                  (T.need (AV.agg [AV.int IntKind.u64 (0 : Int), AV.int IntKind.u64 (1 : Int)] = AV.agg [AV.int IntKind.u64 (0 : Int), AV.int IntKind.u64 (1 : Int)])
                                                    (T.need (AV.int IntKind.i64 (3 : Int) = AV.int IntKind.i64 (3 : Int))
                                                      (T.need (AV.int IntKind.i64 (1 : Int) = AV.int IntKind.i64 (1 : Int))
                                                        (T.chk true
                                                          (T.chk true
                                                            (T.chk true
                                                              (@T.chk AV true
                                                                (@T.chk AV true
                                                                  (@T.chk AV true
                                                                    (T.chk true
                                                                      (T.chk true
                                                                        (T.chk true (T.chk true (T.chk true (T.chk true (T.chk true (@T.chk AV true (@T.chk AV true (@T.chk AV true (T.chk true (T.chk true (T.chk true (T.chk true (T.chk true (T.chk true (@T.chk AV true (@T.chk AV true (@T.chk AV true (@T.chk AV true (T.chk true (T.ret (AV.bool true)))))))))))))))))))))))))))))))))))))))))))))))
                    (T.chk true
                      (T.need (AV.agg [AV.int IntKind.u64 (0 : Int), AV.int IntKind.u64 (2 : Int)] = AV.agg [AV.int IntKind.u64 (0 : Int), AV.int IntKind.u64 (2 : Int)])
                        (T.need (AV.int IntKind.i64 (6 : Int) = AV.int IntKind.i64 (6 : Int))
                          (T.need (AV.int IntKind.i64 (1 : Int) = AV.int IntKind.i64 (1 : Int))
                            (T.chk true
                              (T.need (AV.agg [AV.int IntKind.u64 (0 : Int), AV.int IntKind.u64 (1 : Int)] = AV.agg [AV.int IntKind.u64 (0 : Int), AV.int IntKind.u64 (1 : Int)])
                                (T.need (AV.int IntKind.i64 (3 : Int) = AV.int IntKind.i64 (3 : Int))
                                  (T.need (AV.int IntKind.i64 (1 : Int) = AV.int IntKind.i64 (1 : Int))
                                    (T.chk true
                                      (T.chk true
                                        (T.chk true
                                          (T.chk true
                                            (T.chk true
                                              (T.chk true
                                                (T.need (AV.int IntKind.i64 (6 : Int) = AV.int IntKind.i64 (6 : Int))
                                                  (T.need (AV.int IntKind.i64 (1 : Int) = AV.int IntKind.i64 (1 : Int))
                                                    (T.need (AV.int IntKind.i64 (3 : Int) = AV.int IntKind.i64 (3 : Int))
                                                      (T.need (AV.int IntKind.i64 (1 : Int) = AV.int IntKind.i64 (1 : Int))
                                                        (T.chk true
                                                          (T.chk true
                                                            (T.chk true
                                                              (@T.chk AV true
                                                                (@T.chk AV true
                                                                  (@T.chk AV true
                                                                    (T.chk true
                                                                      (T.chk true
                                                                        (T.chk true (T.chk true (T.chk true (T.chk true (T.chk true (@T.chk AV true (@T.chk AV true (@T.chk AV true (T.chk true (T.chk true (T.chk true (T.chk true (T.chk true (T.chk true (@T.chk AV true (@T.chk AV true (@T.chk AV true (@T.chk AV true (T.chk true (T.ret (AV.bool true)))))))))))))))))))))))))))))))))))))))))))))))))))))) := by
  kernel_rfl

theorem rof_ok : SummOK Try.prog 18 (.pure fun args _ => ofS args) := by
  refine val_fn (E := f2E Try.f18.ntmps) (c := codeOf Try.f18) (fun args w => Try.call18 args w) Try.func18 rfl (f2E_ok _) (noLoops (by kernel_rfl)) rfl rfl ?_
  intro args Q hq
  unfold ofS at hq ⊢
  split at hq
  · rename_i a b
    obtain ⟨hc, hq⟩ := hq
    refine ⟨rfl, _, rfl, fun Q h => h.2, ⟨hc, rfl⟩, ?_⟩
    rw [Bool.and_eq_true, i64_iff, i64_iff] at hc
    rw [rof_fn]
    refine T.hiteP (fun h => T.hret ?_) (fun h => T.hiteP (fun h' => T.hret ?_) (fun h' => ?_))
    · have e : ofB a b = false := decide_eq_false (by omega)
      exact al_wb (by rw [e]; rfl) (by rw [e]; rfl) (by rw [e]; rfl)
    · have e : ofB a b = false := decide_eq_false (by omega)
      exact al_wb (by rw [e]; rfl) (by rw [e]; rfl) (by rw [e]; rfl)
    · have e : ofB a b = true := decide_eq_true (by omega)
      have g1 := gI_pos (n := a) (m := b) (by omega)
      have p1 := ediv_bd (n := a) (by omega) g1
      have p2 := ediv_bd (n := b) (by omega) g1
      have ea : IntKind.wrap .u64 a = a := by rw [IntKind.wrap_u64]; omega
      have eb : IntKind.wrap .u64 b = b := by rw [IntKind.wrap_u64]; omega
      have er : rOk a b = true := by simp only [rOk, Bool.and_eq_true, decide_eq_true_eq]; omega
      rw [ea, eb]
      simp only [W_zero, er, if_true]
      refine T.hchk ?_ (T.hret (al_wb (by rw [e]; rfl) (by rw [e]; rfl) (by rw [e]; rfl)))
      simp only [Bool.and_eq_true, u64_iff, decide_eq_true_eq]; omega
  · exact hq.elim

theorem f3E_ok (nt : Nat) : EnvOK Try.prog (f3E nt).fns := EnvOK.cons rof_ok (f2E_ok nt)

def mxN (a : Int) : Int := if a > 0 then a else 0
def mxD (b : Int) : Int := if b > 1 then b else 1
def rtN (a b : Int) : Int := mxN a / gI (mxN a) (mxD b)
def rtD (a b : Int) : Int := mxD b / gI (mxN a) (mxD b)
def rghtS : List AV → T AV
  | [.agg [.int .i64 a, .int .i64 b]] => .chk (i64B a && i64B b) (.ret (.agg [.int .i64 (rtN a b), .int .i64 (rtD a b)]))
  | _ => .fail

theorem rght_ok : SummOK Try.prog 19 (.pure fun args _ => rghtS args) := by
  refine val_fn (E := f3E Try.f19.ntmps) (c := codeOf Try.f19) (fun args w => Try.call19 args w) Try.func19 rfl (f3E_ok _) (noLoops (by kernel_rfl)) rfl rfl ?_
  intro args Q hq
  unfold rghtS at hq ⊢
  split at hq
  · rename_i a b
    obtain ⟨hc, hq⟩ := hq
    refine ⟨rfl, _, rfl, fun Q h => h.2, ⟨hc, rfl⟩, ?_⟩
    rw [Bool.and_eq_true, i64_iff, i64_iff] at hc
    rw [rght_fn]
    have e : ofB (if a > 0 then a else 0) (if b > 1 then b else 1) = true := decide_eq_true (by constructor <;> split <;> omega)
    rw [e]
    refine T.hchk ?_ (T.hret (Ox.Alike_refl _))
    simp only [Bool.and_eq_true, i64_iff]
    constructor <;> split <;> omega
  · exact hq.elim

/-- In lowest terms. -/
def Low (n d : Int) : Prop := 0 ≤ n ∧ n ≤ 9223372036854775807 ∧ 1 ≤ d ∧ d ≤ 9223372036854775807 ∧ Nat.gcd n.toNat d.toNat = 1

theorem low_div {n d : Int} (hn : 0 ≤ n ∧ n ≤ 9223372036854775807) (hd : 1 ≤ d ∧ d ≤ 9223372036854775807) : Low (n / gI n d) (d / gI n d) := by
  have g1 := gI_pos (n := n) (m := d) (by omega)
  have p1 := ediv_bd hn.1 g1
  have p2 := ediv_bd (n := d) (by omega) g1
  have hdd : 1 ≤ d / gI n d := by
    have := gI_le (n := n) (m := d) (by omega)
    exact (Int.le_ediv_iff_mul_le g1).2 (by omega)
  refine ⟨p1.1, by omega, hdd, by omega, ?_⟩
  obtain ⟨N, rfl⟩ : ∃ N : Nat, n = N := ⟨n.toNat, by omega⟩
  obtain ⟨D, rfl⟩ : ∃ D : Nat, d = D := ⟨d.toNat, by omega⟩
  unfold gI
  simp only [Int.toNat_natCast]
  have hg : 0 < Nat.gcd N D := Nat.gcd_pos_of_pos_right N (by omega)
  have e1 : ((N : Int) / ((Nat.gcd N D : Nat) : Int)) = ((N / Nat.gcd N D : Nat) : Int) := rfl
  have e2 : ((D : Int) / ((Nat.gcd N D : Nat) : Int)) = ((D / Nat.gcd N D : Nat) : Int) := rfl
  rw [e1, e2, Int.toNat_natCast, Int.toNat_natCast]
  exact Nat.coprime_div_gcd_div_gcd hg

theorem rt_low {a b : Int} (ha : i64B a = true) (hb : i64B b = true) : Low (rtN a b) (rtD a b) := by
  rw [i64_iff] at ha hb
  exact low_div (by unfold mxN; split <;> omega) (by unfold mxD; split <;> omega)

theorem a64_ok : SummOK Try.prog 46 (.ext a64S) := by
  intro args Q hq loc w
  unfold a64S at hq
  split at hq
  · rename_i x y c
    obtain ⟨hc, hq⟩ := hq
    simp only [Bool.and_eq_true, decide_eq_true_eq] at hc
    refine ⟨_, hq, fun n => by simp [below, belowL], ?_⟩
    have := run_callFunc_extern (P := Try.prog) Try.func46 (by kernel_rfl) (by kernel_rfl) (by kernel_rfl) (e := add64Entry) (by kernel_rfl) #[.int .u64 x, .int .u64 y, .int .u64 c] w
    simp only [concL, conc]
    rw [this, run_add64 x y c hc.1.1 hc.1.2 hc.2.1 hc.2.2]
    rfl
  · exact hq.elim

theorem knB_ok : EnvOK Try.prog knB := EnvOK.cons a64_ok (EnvOK.cons add_ok (EnvOK.cons fceil_ok (EnvOK.cons nar_ok (frE_ok 0))))

theorem kn_ok : SummOK Try.prog 16 (.pure yesS) := by
  refine yes_ok knB_ok knL_ok (fun args w => Try.call16 args w) Try.func16 rfl (by kernel_rfl) (T.cut_eq kn_fn ?_)
  repeat' first | with_reducible refine T.hneed rfl ?_ | with_reducible refine T.hchk rfl ?_ | with_reducible refine T.hall (fun _ => ?_) | with_reducible refine T.hasm (fun _ => ?_) | with_reducible refine T.hite (fun _ => ?_) (fun _ => ?_) | with_reducible refine T.hchk ?_ ?_
  all_goals first | rfl | (simp; done) | (simp at *; omega) | (simp at *; (repeat' split) <;> omega)

/-- What the laws stand on. -/
noncomputable def laE (nt : Nat) : Env := { nt, n0 := 0, loop := fun _ _ => .fail, fns := (16, .pure yesS) :: (19, .pure fun args _ => rghtS args) :: (18, .pure fun args _ => ofS args) :: (17, .pure fun args _ => ofS args) :: (24, .pure fun args _ => cmpS args) :: (25, .pure fun args _ => cmpS args) :: (26, .pure fun args _ => ceilS args) :: (27, .pure fun args _ => ceilS args) ::
  (13, .pure fun args _ => mulS args) :: (12, .pure fun args _ => mulS args) :: (15, .pure fun args _ => rgcdS args) :: (14, .pure fun args _ => gcdS args) :: (11, .pure fun args _ => addS args) :: (10, .pure fun args _ => addS args) :: [] }

theorem laE_ok (nt : Nat) : EnvOK Try.prog (laE nt).fns := EnvOK.cons kn_ok (EnvOK.cons rght_ok (EnvOK.cons rof_ok (EnvOK.cons of_ok (EnvOK.cons cmp_ok (EnvOK.cons rcmp_ok (EnvOK.cons fceil_ok (EnvOK.cons rceil_ok (EnvOK.cons rmul_ok (EnvOK.cons mul_ok (EnvOK.cons rgcd_ok (EnvOK.cons gcd_ok (EnvOK.cons radd_ok (EnvOK.cons add_ok EnvOK.nil)))))))))))))

theorem fi_fn (a b : Int) : vfn Try.prog (laE Try.f3.ntmps) Try.f3 (codeOf Try.f3) [.int .i64 a, .int .i64 b] = 
  T.chk (i64B a && i64B b) (T.chk (i64B a && i64B b) (T.chk (i64B a && i64B b) (T.chk (i64B a && i64B b) (T.ite (addN a b == addN a b) (T.ite (addB a b == addB a b) (T.ite (mulN a b == mulN a b) (T.ite (mulB a b == mulB a b) (T.chk (i64B a && i64B b) (T.ite (gcdI a b == gcdI a b) (T.ret (AV.bool true)) (T.ret AV.ff))) (T.ret AV.ff)) (T.ret AV.ff)) (T.ret AV.ff)) (T.ret AV.ff))))) := by
  kernel_rfl

theorem fo_fn (a b c d e f : Int) : vfn Try.prog (laE Try.f5.ntmps) Try.f5 (codeOf Try.f5) [.agg [.int .i64 a, .int .i64 b], .agg [.int .i64 c, .int .i64 d], .agg [.int .i64 e, .int .i64 f]] = 
  T.chk (i64B a && i64B b)
    (T.chk (i64B c && i64B d)
      (T.chk (i64B e && i64B f)
        (T.chk (n64 (rtN a b) && n64 (rtD a b) && (n64 (rtN c d) && n64 (rtD c d)))
          (T.chk (n64 (rtN c d) && n64 (rtD c d) && (n64 (rtN a b) && n64 (rtD a b)))
            (T.ite (cmpI (rtN c d * rtD a b) (rtN a b * rtD c d) != IntKind.wrap IntKind.i64 ((0 : Int) - cmpI (rtN a b * rtD c d) (rtN c d * rtD a b))) (T.ret AV.ff)
              (T.ite (!(cmpI (rtN a b * rtD c d) (rtN c d * rtD a b) == (0 : Int)) == (rtN a b == rtN c d && (rtD a b == rtD c d && true))) (T.ret AV.ff)
                (T.chk (n64 (rtN a b) && n64 (rtD a b) && (n64 (rtN a b) && n64 (rtD a b)))
                  (T.ite (cmpI (rtN a b * rtD a b) (rtN a b * rtD a b) != (0 : Int)) (T.ret AV.ff)
                    (T.ite (decide (cmpI (rtN a b * rtD c d) (rtN c d * rtD a b) < (-1 : Int))) (T.ret AV.ff)
                      (T.ite (decide (cmpI (rtN a b * rtD c d) (rtN c d * rtD a b) > (1 : Int))) (T.ret AV.ff)
                        (T.ite (decide (cmpI (rtN a b * rtD c d) (rtN c d * rtD a b) ≤ (0 : Int)))
                          (T.chk (n64 (rtN c d) && n64 (rtD c d) && (n64 (rtN e f) && n64 (rtD e f)))
                            (T.ite (decide (cmpI (rtN c d * rtD e f) (rtN e f * rtD c d) ≤ (0 : Int)))
                              (T.chk (n64 (rtN a b) && n64 (rtD a b) && (n64 (rtN e f) && n64 (rtD e f)))
                                (T.ite (decide (cmpI (rtN a b * rtD e f) (rtN e f * rtD a b) > (0 : Int))) (T.ret AV.ff)
                                  (T.chk (n64 (rtN a b) && n64 (rtD a b) && decide ((1 : Int) ≤ rtD a b))
                                    (T.ite (decide (ceilI (rtN a b) (rtD a b) < (0 : Int))) (T.ret AV.ff)
                                      (T.chk (n64 (ceilI (rtN a b) (rtD a b)) && n64 (1 : Int) && (n64 (rtN a b) && n64 (rtD a b)))
                                        (T.ite (decide (cmpI (ceilI (rtN a b) (rtD a b) * rtD a b) (rtN a b * (1 : Int)) < (0 : Int))) (T.ret AV.ff)
                                          (T.ite (decide (ceilI (rtN a b) (rtD a b) > (0 : Int)))
                                            (T.chk (n64 (IntKind.wrap IntKind.i64 (ceilI (rtN a b) (rtD a b) - (1 : Int))) && n64 (1 : Int) && (n64 (rtN a b) && n64 (rtD a b))) (T.ite (decide (cmpI (IntKind.wrap IntKind.i64 (ceilI (rtN a b) (rtD a b) - (1 : Int)) * rtD a b) (rtN a b * (1 : Int)) ≥ (0 : Int))) (T.ret AV.ff) (T.ret (AV.bool true)))) (T.ret (AV.bool true)))))))))
                              (T.chk (n64 (rtN a b) && n64 (rtD a b) && decide ((1 : Int) ≤ rtD a b))
                                (T.ite (decide (ceilI (rtN a b) (rtD a b) < (0 : Int))) (T.ret AV.ff)
                                  (T.chk (n64 (ceilI (rtN a b) (rtD a b)) && n64 (1 : Int) && (n64 (rtN a b) && n64 (rtD a b)))
                                    (T.ite (decide (cmpI (ceilI (rtN a b) (rtD a b) * rtD a b) (rtN a b * (1 : Int)) < (0 : Int))) (T.ret AV.ff)
                                      (T.ite (decide (ceilI (rtN a b) (rtD a b) > (0 : Int))) (T.chk (n64 (IntKind.wrap IntKind.i64 (ceilI (rtN a b) (rtD a b) - (1 : Int))) && n64 (1 : Int) && (n64 (rtN a b) && n64 (rtD a b))) (T.ite (decide (cmpI (IntKind.wrap IntKind.i64 (ceilI (rtN a b) (rtD a b) - (1 : Int)) * rtD a b) (rtN a b * (1 : Int)) ≥ (0 : Int))) (T.ret AV.ff) (T.ret (AV.bool true))))
                                        (T.ret (AV.bool true)))))))))
                          (T.chk (n64 (rtN a b) && n64 (rtD a b) && decide ((1 : Int) ≤ rtD a b))
                            (T.ite (decide (ceilI (rtN a b) (rtD a b) < (0 : Int))) (T.ret AV.ff)
                              (T.chk (n64 (ceilI (rtN a b) (rtD a b)) && n64 (1 : Int) && (n64 (rtN a b) && n64 (rtD a b)))
                                (T.ite (decide (cmpI (ceilI (rtN a b) (rtD a b) * rtD a b) (rtN a b * (1 : Int)) < (0 : Int))) (T.ret AV.ff)
                                  (T.ite (decide (ceilI (rtN a b) (rtD a b) > (0 : Int))) (T.chk (n64 (IntKind.wrap IntKind.i64 (ceilI (rtN a b) (rtD a b) - (1 : Int))) && n64 (1 : Int) && (n64 (rtN a b) && n64 (rtD a b))) (T.ite (decide (cmpI (IntKind.wrap IntKind.i64 (ceilI (rtN a b) (rtD a b) - (1 : Int)) * rtD a b) (rtN a b * (1 : Int)) ≥ (0 : Int))) (T.ret AV.ff) (T.ret (AV.bool true))))
                                    (T.ret (AV.bool true)))))))))))))))))) := by
  kernel_rfl

theorem fl_fn (n d k : Int) : vfn Try.prog (laE Try.f7.ntmps) Try.f7 (codeOf Try.f7) [.int .i64 n, .int .i64 d, .int .i64 k] = 
  T.chk (i64B n && i64B d)
    (T.ite (decide (n ≥ (0 : Int)))
      (T.ite (!ofB n d == decide (d ≥ (1 : Int))) (T.ret AV.ff)
        (T.ite (!ofB n d)
          (T.ite (!((if ofB n d = true then n / gI n d else (0 : Int)) == (0 : Int) && ((if ofB n d = true then d / gI n d else (0 : Int)) == (0 : Int) && true))) (T.ret AV.ff)
            (T.ite (!ofB n d)
              (T.ite (decide (n < (0 : Int))) (T.ite (gcdI n d == (0 : Int)) (T.ite (n != (0 : Int)) (T.ite true (T.ret (AV.bool true)) (T.ret AV.ff)) (T.ite (true == (d != (0 : Int))) (T.ret (AV.bool true)) (T.ret AV.ff))) (T.ite false (T.ret (AV.bool true)) (T.ret AV.ff)))
                (T.ite (gcdI n d == (0 : Int)) (T.ite (n != (0 : Int)) (T.ite (decide (d < (0 : Int)) == true) (T.ret (AV.bool true)) (T.ret AV.ff)) (T.ite (decide (d < (0 : Int)) == (d != (0 : Int))) (T.ret (AV.bool true)) (T.ret AV.ff))) (T.ite (decide (d < (0 : Int)) == false) (T.ret (AV.bool true)) (T.ret AV.ff))))
              (T.ite (decide (gcdI n d < (1 : Int))) (T.ret AV.ff)
                (T.ite (decide ((if ofB n d = true then d / gI n d else (0 : Int)) < (1 : Int))) (T.ret AV.ff)
                  (T.ite (decide ((if ofB n d = true then n / gI n d else (0 : Int)) < (0 : Int))) (T.ret AV.ff)
                    (T.chk (!gcdI n d == (0 : Int))
                      (T.ite (Int.tmod n (gcdI n d) != (0 : Int)) (T.ret AV.ff)
                        (T.chk (!gcdI n d == (0 : Int))
                          (T.ite (Int.tmod d (gcdI n d) != (0 : Int)) (T.ret AV.ff)
                            (T.ite (IntKind.wrap IntKind.i64 ((if ofB n d = true then n / gI n d else (0 : Int)) * gcdI n d) != n) (T.ret AV.ff)
                              (T.ite (IntKind.wrap IntKind.i64 ((if ofB n d = true then d / gI n d else (0 : Int)) * gcdI n d) != d) (T.ret AV.ff)
                                (T.ite (gcdI (if ofB n d = true then n / gI n d else (0 : Int)) (if ofB n d = true then d / gI n d else (0 : Int)) != (1 : Int)) (T.ret AV.ff)
                                  (T.ite (decide (k > (0 : Int)))
                                    (T.chk (!k == (0 : Int))
                                      (T.ite (Int.tmod n k == (0 : Int))
                                        (T.chk (!k == (0 : Int))
                                          (T.ite (Int.tmod d k == (0 : Int))
                                            (T.chk (!k == (0 : Int))
                                              (T.ite (Int.tmod (gcdI n d) k != (0 : Int)) (T.ret AV.ff)
                                                (T.chk (i64B n && i64B k)
                                                  (T.chk (i64B d && i64B k)
                                                    (T.chk (i64B (mulN n k) && i64B (mulN d k))
                                                      (T.ite (!mulB n k) (T.ret (AV.bool true))
                                                        (T.ite (!mulB d k) (T.ret (AV.bool true))
                                                          (T.ite (decide (k < (1 : Int))) (T.ret (AV.bool true))
                                                            (T.ite (ofB (mulN n k) (mulN d k))
                                                              (T.ite (((if ofB (mulN n k) (mulN d k) = true then mulN n k / gI (mulN n k) (mulN d k) else (0 : Int)) == if ofB n d = true then n / gI n d else (0 : Int)) && (((if ofB (mulN n k) (mulN d k) = true then mulN d k / gI (mulN n k) (mulN d k) else (0 : Int)) == if ofB n d = true then d / gI n d else (0 : Int)) && true)) (T.ret (AV.bool true))
                                                                (T.ret AV.ff))
                                                              (T.ret AV.ff))))))))))
                                            (T.chk (i64B n && i64B k)
                                              (T.chk (i64B d && i64B k)
                                                (T.chk (i64B (mulN n k) && i64B (mulN d k))
                                                  (T.ite (!mulB n k) (T.ret (AV.bool true))
                                                    (T.ite (!mulB d k) (T.ret (AV.bool true))
                                                      (T.ite (decide (k < (1 : Int))) (T.ret (AV.bool true))
                                                        (T.ite (ofB (mulN n k) (mulN d k))
                                                          (T.ite (((if ofB (mulN n k) (mulN d k) = true then mulN n k / gI (mulN n k) (mulN d k) else (0 : Int)) == if ofB n d = true then n / gI n d else (0 : Int)) && (((if ofB (mulN n k) (mulN d k) = true then mulN d k / gI (mulN n k) (mulN d k) else (0 : Int)) == if ofB n d = true then d / gI n d else (0 : Int)) && true)) (T.ret (AV.bool true))
                                                            (T.ret AV.ff))
                                                          (T.ret AV.ff))))))))))
                                        (T.chk (i64B n && i64B k)
                                          (T.chk (i64B d && i64B k)
                                            (T.chk (i64B (mulN n k) && i64B (mulN d k))
                                              (T.ite (!mulB n k) (T.ret (AV.bool true))
                                                (T.ite (!mulB d k) (T.ret (AV.bool true))
                                                  (T.ite (decide (k < (1 : Int))) (T.ret (AV.bool true))
                                                    (T.ite (ofB (mulN n k) (mulN d k))
                                                      (T.ite (((if ofB (mulN n k) (mulN d k) = true then mulN n k / gI (mulN n k) (mulN d k) else (0 : Int)) == if ofB n d = true then n / gI n d else (0 : Int)) && (((if ofB (mulN n k) (mulN d k) = true then mulN d k / gI (mulN n k) (mulN d k) else (0 : Int)) == if ofB n d = true then d / gI n d else (0 : Int)) && true)) (T.ret (AV.bool true))
                                                        (T.ret AV.ff))
                                                      (T.ret AV.ff))))))))))
                                    (T.chk (i64B n && i64B k)
                                      (T.chk (i64B d && i64B k)
                                        (T.chk (i64B (mulN n k) && i64B (mulN d k))
                                          (T.ite (!mulB n k) (T.ret (AV.bool true))
                                            (T.ite (!mulB d k) (T.ret (AV.bool true))
                                              (T.ite (decide (k < (1 : Int))) (T.ret (AV.bool true))
                                                (T.ite (ofB (mulN n k) (mulN d k))
                                                  (T.ite (((if ofB (mulN n k) (mulN d k) = true then mulN n k / gI (mulN n k) (mulN d k) else (0 : Int)) == if ofB n d = true then n / gI n d else (0 : Int)) && (((if ofB (mulN n k) (mulN d k) = true then mulN d k / gI (mulN n k) (mulN d k) else (0 : Int)) == if ofB n d = true then d / gI n d else (0 : Int)) && true)) (T.ret (AV.bool true))
                                                    (T.ret AV.ff))
                                                  (T.ret AV.ff)))))))))))))))))))))
          (T.ite (!ofB n d)
            (T.ite (decide (n < (0 : Int))) (T.ite (gcdI n d == (0 : Int)) (T.ite (n != (0 : Int)) (T.ite true (T.ret (AV.bool true)) (T.ret AV.ff)) (T.ite (true == (d != (0 : Int))) (T.ret (AV.bool true)) (T.ret AV.ff))) (T.ite false (T.ret (AV.bool true)) (T.ret AV.ff)))
              (T.ite (gcdI n d == (0 : Int)) (T.ite (n != (0 : Int)) (T.ite (decide (d < (0 : Int)) == true) (T.ret (AV.bool true)) (T.ret AV.ff)) (T.ite (decide (d < (0 : Int)) == (d != (0 : Int))) (T.ret (AV.bool true)) (T.ret AV.ff))) (T.ite (decide (d < (0 : Int)) == false) (T.ret (AV.bool true)) (T.ret AV.ff))))
            (T.ite (decide (gcdI n d < (1 : Int))) (T.ret AV.ff)
              (T.ite (decide ((if ofB n d = true then d / gI n d else (0 : Int)) < (1 : Int))) (T.ret AV.ff)
                (T.ite (decide ((if ofB n d = true then n / gI n d else (0 : Int)) < (0 : Int))) (T.ret AV.ff)
                  (T.chk (!gcdI n d == (0 : Int))
                    (T.ite (Int.tmod n (gcdI n d) != (0 : Int)) (T.ret AV.ff)
                      (T.chk (!gcdI n d == (0 : Int))
                        (T.ite (Int.tmod d (gcdI n d) != (0 : Int)) (T.ret AV.ff)
                          (T.ite (IntKind.wrap IntKind.i64 ((if ofB n d = true then n / gI n d else (0 : Int)) * gcdI n d) != n) (T.ret AV.ff)
                            (T.ite (IntKind.wrap IntKind.i64 ((if ofB n d = true then d / gI n d else (0 : Int)) * gcdI n d) != d) (T.ret AV.ff)
                              (T.ite (gcdI (if ofB n d = true then n / gI n d else (0 : Int)) (if ofB n d = true then d / gI n d else (0 : Int)) != (1 : Int)) (T.ret AV.ff)
                                (T.ite (decide (k > (0 : Int)))
                                  (T.chk (!k == (0 : Int))
                                    (T.ite (Int.tmod n k == (0 : Int))
                                      (T.chk (!k == (0 : Int))
                                        (T.ite (Int.tmod d k == (0 : Int))
                                          (T.chk (!k == (0 : Int))
                                            (T.ite (Int.tmod (gcdI n d) k != (0 : Int)) (T.ret AV.ff)
                                              (T.chk (i64B n && i64B k)
                                                (T.chk (i64B d && i64B k)
                                                  (T.chk (i64B (mulN n k) && i64B (mulN d k))
                                                    (T.ite (!mulB n k) (T.ret (AV.bool true))
                                                      (T.ite (!mulB d k) (T.ret (AV.bool true))
                                                        (T.ite (decide (k < (1 : Int))) (T.ret (AV.bool true))
                                                          (T.ite (ofB (mulN n k) (mulN d k))
                                                            (T.ite (((if ofB (mulN n k) (mulN d k) = true then mulN n k / gI (mulN n k) (mulN d k) else (0 : Int)) == if ofB n d = true then n / gI n d else (0 : Int)) && (((if ofB (mulN n k) (mulN d k) = true then mulN d k / gI (mulN n k) (mulN d k) else (0 : Int)) == if ofB n d = true then d / gI n d else (0 : Int)) && true)) (T.ret (AV.bool true))
                                                              (T.ret AV.ff))
                                                            (T.ret AV.ff))))))))))
                                          (T.chk (i64B n && i64B k)
                                            (T.chk (i64B d && i64B k)
                                              (T.chk (i64B (mulN n k) && i64B (mulN d k))
                                                (T.ite (!mulB n k) (T.ret (AV.bool true))
                                                  (T.ite (!mulB d k) (T.ret (AV.bool true))
                                                    (T.ite (decide (k < (1 : Int))) (T.ret (AV.bool true))
                                                      (T.ite (ofB (mulN n k) (mulN d k))
                                                        (T.ite (((if ofB (mulN n k) (mulN d k) = true then mulN n k / gI (mulN n k) (mulN d k) else (0 : Int)) == if ofB n d = true then n / gI n d else (0 : Int)) && (((if ofB (mulN n k) (mulN d k) = true then mulN d k / gI (mulN n k) (mulN d k) else (0 : Int)) == if ofB n d = true then d / gI n d else (0 : Int)) && true)) (T.ret (AV.bool true))
                                                          (T.ret AV.ff))
                                                        (T.ret AV.ff))))))))))
                                      (T.chk (i64B n && i64B k)
                                        (T.chk (i64B d && i64B k)
                                          (T.chk (i64B (mulN n k) && i64B (mulN d k))
                                            (T.ite (!mulB n k) (T.ret (AV.bool true))
                                              (T.ite (!mulB d k) (T.ret (AV.bool true))
                                                (T.ite (decide (k < (1 : Int))) (T.ret (AV.bool true))
                                                  (T.ite (ofB (mulN n k) (mulN d k))
                                                    (T.ite (((if ofB (mulN n k) (mulN d k) = true then mulN n k / gI (mulN n k) (mulN d k) else (0 : Int)) == if ofB n d = true then n / gI n d else (0 : Int)) && (((if ofB (mulN n k) (mulN d k) = true then mulN d k / gI (mulN n k) (mulN d k) else (0 : Int)) == if ofB n d = true then d / gI n d else (0 : Int)) && true)) (T.ret (AV.bool true))
                                                      (T.ret AV.ff))
                                                    (T.ret AV.ff))))))))))
                                  (T.chk (i64B n && i64B k)
                                    (T.chk (i64B d && i64B k)
                                      (T.chk (i64B (mulN n k) && i64B (mulN d k))
                                        (T.ite (!mulB n k) (T.ret (AV.bool true))
                                          (T.ite (!mulB d k) (T.ret (AV.bool true))
                                            (T.ite (decide (k < (1 : Int))) (T.ret (AV.bool true))
                                              (T.ite (ofB (mulN n k) (mulN d k))
                                                (T.ite (((if ofB (mulN n k) (mulN d k) = true then mulN n k / gI (mulN n k) (mulN d k) else (0 : Int)) == if ofB n d = true then n / gI n d else (0 : Int)) && (((if ofB (mulN n k) (mulN d k) = true then mulN d k / gI (mulN n k) (mulN d k) else (0 : Int)) == if ofB n d = true then d / gI n d else (0 : Int)) && true)) (T.ret (AV.bool true))
                                                  (T.ret AV.ff))
                                                (T.ret AV.ff))))))))))))))))))))))
      (T.ite (!ofB n d == false) (T.ret AV.ff)
        (T.ite (!ofB n d)
          (T.ite (!((if ofB n d = true then n / gI n d else (0 : Int)) == (0 : Int) && ((if ofB n d = true then d / gI n d else (0 : Int)) == (0 : Int) && true))) (T.ret AV.ff)
            (T.ite (!ofB n d)
              (T.ite (decide (n < (0 : Int))) (T.ite (gcdI n d == (0 : Int)) (T.ite (n != (0 : Int)) (T.ite true (T.ret (AV.bool true)) (T.ret AV.ff)) (T.ite (true == (d != (0 : Int))) (T.ret (AV.bool true)) (T.ret AV.ff))) (T.ite false (T.ret (AV.bool true)) (T.ret AV.ff)))
                (T.ite (gcdI n d == (0 : Int)) (T.ite (n != (0 : Int)) (T.ite (decide (d < (0 : Int)) == true) (T.ret (AV.bool true)) (T.ret AV.ff)) (T.ite (decide (d < (0 : Int)) == (d != (0 : Int))) (T.ret (AV.bool true)) (T.ret AV.ff))) (T.ite (decide (d < (0 : Int)) == false) (T.ret (AV.bool true)) (T.ret AV.ff))))
              (T.ite (decide (gcdI n d < (1 : Int))) (T.ret AV.ff)
                (T.ite (decide ((if ofB n d = true then d / gI n d else (0 : Int)) < (1 : Int))) (T.ret AV.ff)
                  (T.ite (decide ((if ofB n d = true then n / gI n d else (0 : Int)) < (0 : Int))) (T.ret AV.ff)
                    (T.chk (!gcdI n d == (0 : Int))
                      (T.ite (Int.tmod n (gcdI n d) != (0 : Int)) (T.ret AV.ff)
                        (T.chk (!gcdI n d == (0 : Int))
                          (T.ite (Int.tmod d (gcdI n d) != (0 : Int)) (T.ret AV.ff)
                            (T.ite (IntKind.wrap IntKind.i64 ((if ofB n d = true then n / gI n d else (0 : Int)) * gcdI n d) != n) (T.ret AV.ff)
                              (T.ite (IntKind.wrap IntKind.i64 ((if ofB n d = true then d / gI n d else (0 : Int)) * gcdI n d) != d) (T.ret AV.ff)
                                (T.ite (gcdI (if ofB n d = true then n / gI n d else (0 : Int)) (if ofB n d = true then d / gI n d else (0 : Int)) != (1 : Int)) (T.ret AV.ff)
                                  (T.ite (decide (k > (0 : Int)))
                                    (T.chk (!k == (0 : Int))
                                      (T.ite (Int.tmod n k == (0 : Int))
                                        (T.chk (!k == (0 : Int))
                                          (T.ite (Int.tmod d k == (0 : Int))
                                            (T.chk (!k == (0 : Int))
                                              (T.ite (Int.tmod (gcdI n d) k != (0 : Int)) (T.ret AV.ff)
                                                (T.chk (i64B n && i64B k)
                                                  (T.chk (i64B d && i64B k)
                                                    (T.chk (i64B (mulN n k) && i64B (mulN d k))
                                                      (T.ite (!mulB n k) (T.ret (AV.bool true))
                                                        (T.ite (!mulB d k) (T.ret (AV.bool true))
                                                          (T.ite (decide (k < (1 : Int))) (T.ret (AV.bool true))
                                                            (T.ite (ofB (mulN n k) (mulN d k))
                                                              (T.ite (((if ofB (mulN n k) (mulN d k) = true then mulN n k / gI (mulN n k) (mulN d k) else (0 : Int)) == if ofB n d = true then n / gI n d else (0 : Int)) && (((if ofB (mulN n k) (mulN d k) = true then mulN d k / gI (mulN n k) (mulN d k) else (0 : Int)) == if ofB n d = true then d / gI n d else (0 : Int)) && true)) (T.ret (AV.bool true))
                                                                (T.ret AV.ff))
                                                              (T.ret AV.ff))))))))))
                                            (T.chk (i64B n && i64B k)
                                              (T.chk (i64B d && i64B k)
                                                (T.chk (i64B (mulN n k) && i64B (mulN d k))
                                                  (T.ite (!mulB n k) (T.ret (AV.bool true))
                                                    (T.ite (!mulB d k) (T.ret (AV.bool true))
                                                      (T.ite (decide (k < (1 : Int))) (T.ret (AV.bool true))
                                                        (T.ite (ofB (mulN n k) (mulN d k))
                                                          (T.ite (((if ofB (mulN n k) (mulN d k) = true then mulN n k / gI (mulN n k) (mulN d k) else (0 : Int)) == if ofB n d = true then n / gI n d else (0 : Int)) && (((if ofB (mulN n k) (mulN d k) = true then mulN d k / gI (mulN n k) (mulN d k) else (0 : Int)) == if ofB n d = true then d / gI n d else (0 : Int)) && true)) (T.ret (AV.bool true))
                                                            (T.ret AV.ff))
                                                          (T.ret AV.ff))))))))))
                                        (T.chk (i64B n && i64B k)
                                          (T.chk (i64B d && i64B k)
                                            (T.chk (i64B (mulN n k) && i64B (mulN d k))
                                              (T.ite (!mulB n k) (T.ret (AV.bool true))
                                                (T.ite (!mulB d k) (T.ret (AV.bool true))
                                                  (T.ite (decide (k < (1 : Int))) (T.ret (AV.bool true))
                                                    (T.ite (ofB (mulN n k) (mulN d k))
                                                      (T.ite (((if ofB (mulN n k) (mulN d k) = true then mulN n k / gI (mulN n k) (mulN d k) else (0 : Int)) == if ofB n d = true then n / gI n d else (0 : Int)) && (((if ofB (mulN n k) (mulN d k) = true then mulN d k / gI (mulN n k) (mulN d k) else (0 : Int)) == if ofB n d = true then d / gI n d else (0 : Int)) && true)) (T.ret (AV.bool true))
                                                        (T.ret AV.ff))
                                                      (T.ret AV.ff))))))))))
                                    (T.chk (i64B n && i64B k)
                                      (T.chk (i64B d && i64B k)
                                        (T.chk (i64B (mulN n k) && i64B (mulN d k))
                                          (T.ite (!mulB n k) (T.ret (AV.bool true))
                                            (T.ite (!mulB d k) (T.ret (AV.bool true))
                                              (T.ite (decide (k < (1 : Int))) (T.ret (AV.bool true))
                                                (T.ite (ofB (mulN n k) (mulN d k))
                                                  (T.ite (((if ofB (mulN n k) (mulN d k) = true then mulN n k / gI (mulN n k) (mulN d k) else (0 : Int)) == if ofB n d = true then n / gI n d else (0 : Int)) && (((if ofB (mulN n k) (mulN d k) = true then mulN d k / gI (mulN n k) (mulN d k) else (0 : Int)) == if ofB n d = true then d / gI n d else (0 : Int)) && true)) (T.ret (AV.bool true))
                                                    (T.ret AV.ff))
                                                  (T.ret AV.ff)))))))))))))))))))))
          (T.ite (!ofB n d)
            (T.ite (decide (n < (0 : Int))) (T.ite (gcdI n d == (0 : Int)) (T.ite (n != (0 : Int)) (T.ite true (T.ret (AV.bool true)) (T.ret AV.ff)) (T.ite (true == (d != (0 : Int))) (T.ret (AV.bool true)) (T.ret AV.ff))) (T.ite false (T.ret (AV.bool true)) (T.ret AV.ff)))
              (T.ite (gcdI n d == (0 : Int)) (T.ite (n != (0 : Int)) (T.ite (decide (d < (0 : Int)) == true) (T.ret (AV.bool true)) (T.ret AV.ff)) (T.ite (decide (d < (0 : Int)) == (d != (0 : Int))) (T.ret (AV.bool true)) (T.ret AV.ff))) (T.ite (decide (d < (0 : Int)) == false) (T.ret (AV.bool true)) (T.ret AV.ff))))
            (T.ite (decide (gcdI n d < (1 : Int))) (T.ret AV.ff)
              (T.ite (decide ((if ofB n d = true then d / gI n d else (0 : Int)) < (1 : Int))) (T.ret AV.ff)
                (T.ite (decide ((if ofB n d = true then n / gI n d else (0 : Int)) < (0 : Int))) (T.ret AV.ff)
                  (T.chk (!gcdI n d == (0 : Int))
                    (T.ite (Int.tmod n (gcdI n d) != (0 : Int)) (T.ret AV.ff)
                      (T.chk (!gcdI n d == (0 : Int))
                        (T.ite (Int.tmod d (gcdI n d) != (0 : Int)) (T.ret AV.ff)
                          (T.ite (IntKind.wrap IntKind.i64 ((if ofB n d = true then n / gI n d else (0 : Int)) * gcdI n d) != n) (T.ret AV.ff)
                            (T.ite (IntKind.wrap IntKind.i64 ((if ofB n d = true then d / gI n d else (0 : Int)) * gcdI n d) != d) (T.ret AV.ff)
                              (T.ite (gcdI (if ofB n d = true then n / gI n d else (0 : Int)) (if ofB n d = true then d / gI n d else (0 : Int)) != (1 : Int)) (T.ret AV.ff)
                                (T.ite (decide (k > (0 : Int)))
                                  (T.chk (!k == (0 : Int))
                                    (T.ite (Int.tmod n k == (0 : Int))
                                      (T.chk (!k == (0 : Int))
                                        (T.ite (Int.tmod d k == (0 : Int))
                                          (T.chk (!k == (0 : Int))
                                            (T.ite (Int.tmod (gcdI n d) k != (0 : Int)) (T.ret AV.ff)
                                              (T.chk (i64B n && i64B k)
                                                (T.chk (i64B d && i64B k)
                                                  (T.chk (i64B (mulN n k) && i64B (mulN d k))
                                                    (T.ite (!mulB n k) (T.ret (AV.bool true))
                                                      (T.ite (!mulB d k) (T.ret (AV.bool true))
                                                        (T.ite (decide (k < (1 : Int))) (T.ret (AV.bool true))
                                                          (T.ite (ofB (mulN n k) (mulN d k))
                                                            (T.ite (((if ofB (mulN n k) (mulN d k) = true then mulN n k / gI (mulN n k) (mulN d k) else (0 : Int)) == if ofB n d = true then n / gI n d else (0 : Int)) && (((if ofB (mulN n k) (mulN d k) = true then mulN d k / gI (mulN n k) (mulN d k) else (0 : Int)) == if ofB n d = true then d / gI n d else (0 : Int)) && true)) (T.ret (AV.bool true))
                                                              (T.ret AV.ff))
                                                            (T.ret AV.ff))))))))))
                                          (T.chk (i64B n && i64B k)
                                            (T.chk (i64B d && i64B k)
                                              (T.chk (i64B (mulN n k) && i64B (mulN d k))
                                                (T.ite (!mulB n k) (T.ret (AV.bool true))
                                                  (T.ite (!mulB d k) (T.ret (AV.bool true))
                                                    (T.ite (decide (k < (1 : Int))) (T.ret (AV.bool true))
                                                      (T.ite (ofB (mulN n k) (mulN d k))
                                                        (T.ite (((if ofB (mulN n k) (mulN d k) = true then mulN n k / gI (mulN n k) (mulN d k) else (0 : Int)) == if ofB n d = true then n / gI n d else (0 : Int)) && (((if ofB (mulN n k) (mulN d k) = true then mulN d k / gI (mulN n k) (mulN d k) else (0 : Int)) == if ofB n d = true then d / gI n d else (0 : Int)) && true)) (T.ret (AV.bool true))
                                                          (T.ret AV.ff))
                                                        (T.ret AV.ff))))))))))
                                      (T.chk (i64B n && i64B k)
                                        (T.chk (i64B d && i64B k)
                                          (T.chk (i64B (mulN n k) && i64B (mulN d k))
                                            (T.ite (!mulB n k) (T.ret (AV.bool true))
                                              (T.ite (!mulB d k) (T.ret (AV.bool true))
                                                (T.ite (decide (k < (1 : Int))) (T.ret (AV.bool true))
                                                  (T.ite (ofB (mulN n k) (mulN d k))
                                                    (T.ite (((if ofB (mulN n k) (mulN d k) = true then mulN n k / gI (mulN n k) (mulN d k) else (0 : Int)) == if ofB n d = true then n / gI n d else (0 : Int)) && (((if ofB (mulN n k) (mulN d k) = true then mulN d k / gI (mulN n k) (mulN d k) else (0 : Int)) == if ofB n d = true then d / gI n d else (0 : Int)) && true)) (T.ret (AV.bool true))
                                                      (T.ret AV.ff))
                                                    (T.ret AV.ff))))))))))
                                  (T.chk (i64B n && i64B k)
                                    (T.chk (i64B d && i64B k)
                                      (T.chk (i64B (mulN n k) && i64B (mulN d k))
                                        (T.ite (!mulB n k) (T.ret (AV.bool true))
                                          (T.ite (!mulB d k) (T.ret (AV.bool true))
                                            (T.ite (decide (k < (1 : Int))) (T.ret (AV.bool true))
                                              (T.ite (ofB (mulN n k) (mulN d k))
                                                (T.ite (((if ofB (mulN n k) (mulN d k) = true then mulN n k / gI (mulN n k) (mulN d k) else (0 : Int)) == if ofB n d = true then n / gI n d else (0 : Int)) && (((if ofB (mulN n k) (mulN d k) = true then mulN d k / gI (mulN n k) (mulN d k) else (0 : Int)) == if ofB n d = true then d / gI n d else (0 : Int)) && true)) (T.ret (AV.bool true))
                                                  (T.ret AV.ff))
                                                (T.ret AV.ff))))))))))))))))))))))) := by
  kernel_rfl

end Go.Proofs.Ytlebekeplkkciaa
