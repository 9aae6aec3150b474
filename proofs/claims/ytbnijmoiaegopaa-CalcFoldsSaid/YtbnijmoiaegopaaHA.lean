/-
  Layer 10: Check, Map, Keep, Fold, Window, each twice, as the program and as the document have them.
-/
import Derived.Test.YtbnijmoiaegopaaProg
import Derived.Test.YtbnijmoiaegopaaHOxU
namespace Go.Proofs.Ytbnijmoiaegopaa
open Go.Ox
set_option maxRecDepth 100000
set_option linter.unusedVariables false
set_option linter.unusedSimpArgs false

noncomputable def leafE (nt : Nat) : Env := { nt := nt, n0 := 0, fns := [], loop := fun _ _ => .fail }

def fnV (op a b : Int) : AV := .agg [.int .i64 op, .int .i64 a, .int .i64 b]

def restV (v a : Int) : Int := if v.tmod a < 0 then IntKind.wrap .i64 (v.tmod a + a) else v.tmod a
def reS : List AV → T AV
  | [.int .i64 v, .int .i64 a] => .ret (.int .i64 (if a < 1 then 0 else restV v a))
  | _ => .fail
def rrS : List AV → T AV
  | [.int .i64 v, .int .i64 a] => .chk (!(a == 0)) (.ret (.int .i64 (restV v a)))
  | _ => .fail
def vmP (op a : Int) : Prop := 1 ≤ op ∧ op ≤ 7 ∧ (op = 5 → 1 ≤ a) ∧ (op = 4 → a = 0)
instance (op a : Int) : Decidable (vmP op a) := by unfold vmP; infer_instance
def vmS : List AV → T AV
  | [.agg [.int .i64 op, .int .i64 a, .int .i64 b]] => .ret (.bool (decide (vmP op a)))
  | _ => .fail

theorem vm_fn (op a b : Int) : vfn Try.prog (leafE Try.f29.ntmps) Try.f29 (codeOf Try.f29) [fnV op a b] = 
  T.ite (op == (5 : Int)) (T.ret (AV.bool (decide (a ≥ (1 : Int))))) (T.ite (op == (4 : Int)) (T.ret (AV.bool (a == (0 : Int)))) (T.ite (decide (op ≥ (1 : Int))) (T.ret (AV.bool (decide (op ≤ (7 : Int))))) (T.ret AV.ff))) := by
  kernel_rfl

theorem re_fn (v a : Int) : vfn Try.prog (leafE Try.f27.ntmps) Try.f27 (codeOf Try.f27) [.int .i64 v, .int .i64 a] = 
  T.ite (decide (a < (1 : Int))) (T.ret (AV.int IntKind.i64 (0 : Int))) (T.chk (!a == (0 : Int)) (T.ite (decide (Int.tmod v a < (0 : Int))) (T.ret (AV.int IntKind.i64 (IntKind.wrap IntKind.i64 (Int.tmod v a + a)))) (T.ret (AV.int IntKind.i64 (Int.tmod v a))))) := by
  kernel_rfl

theorem rr_fn (v a : Int) : vfn Try.prog (leafE Try.f28.ntmps) Try.f28 (codeOf Try.f28) [.int .i64 v, .int .i64 a] = 
  T.chk (!a == (0 : Int)) (T.ite (decide (Int.tmod v a < (0 : Int))) (T.ret (AV.int IntKind.i64 (IntKind.wrap IntKind.i64 (Int.tmod v a + a)))) (T.ret (AV.int IntKind.i64 (Int.tmod v a)))) := by
  kernel_rfl

noncomputable def vaE : Env := { nt := Try.f26.ntmps, n0 := 0, fns := [(29, .pure fun args _ => vmS args)], loop := fun _ _ => .fail }

theorem va_fn (k op a b : Int) : vfn Try.prog vaE Try.f26 (codeOf Try.f26) [.int .i64 k, fnV op a b] = 
  T.ite (decide (op ≥ (1 : Int)))
    (T.ite (k == (2 : Int)) (T.ite (b == (0 : Int)) (T.ret (AV.bool (decide (vmP op a)))) (T.ret AV.ff))
      (T.ite (k == (3 : Int)) (T.ite (op == (1 : Int)) (T.ret (AV.bool (b == (0 : Int)))) (T.ite (op == (2 : Int)) (T.ite (decide (b ≥ (0 : Int))) (T.ret (AV.bool (decide (b < a)))) (T.ret AV.ff)) (T.ite (op == (3 : Int)) (T.ite (decide (b ≥ (0 : Int))) (T.ret (AV.bool (decide (b < a)))) (T.ret AV.ff)) (T.ret AV.ff))))
        (T.ite (k == (4 : Int)) (T.ite (op == (0 : Int)) (T.ite (decide (a ≥ (0 : Int))) (T.ret (AV.bool (decide (a ≤ (4 : Int))))) (T.ret AV.ff)) (T.ret AV.ff))
          (T.ite (k == (5 : Int)) (T.ite (decide (op ≤ (4 : Int))) (T.ite (a == (0 : Int)) (T.ret (AV.bool (b == (0 : Int)))) (T.ret AV.ff)) (T.ret AV.ff))
            (T.ite (k == (6 : Int)) (T.ite (decide (op ≤ (4 : Int))) (T.ite (decide (a ≥ (1 : Int))) (T.ite (decide (a ≤ (16 : Int))) (T.ret (AV.bool (b == (0 : Int)))) (T.ret AV.ff)) (T.ret AV.ff)) (T.ret AV.ff)) (T.ret (AV.bool (op == (0 : Int) && (a == (0 : Int) && (b == (0 : Int) && true))))))))))
    (T.ite (k == (2 : Int)) (T.ite (b == (0 : Int)) (T.ret (AV.bool (decide (vmP op a)))) (T.ret AV.ff))
      (T.ite (k == (3 : Int)) (T.ite (op == (1 : Int)) (T.ret (AV.bool (b == (0 : Int)))) (T.ite (op == (2 : Int)) (T.ite (decide (b ≥ (0 : Int))) (T.ret (AV.bool (decide (b < a)))) (T.ret AV.ff)) (T.ite (op == (3 : Int)) (T.ite (decide (b ≥ (0 : Int))) (T.ret (AV.bool (decide (b < a)))) (T.ret AV.ff)) (T.ret AV.ff))))
        (T.ite (k == (4 : Int)) (T.ite (op == (0 : Int)) (T.ite (decide (a ≥ (0 : Int))) (T.ret (AV.bool (decide (a ≤ (4 : Int))))) (T.ret AV.ff)) (T.ret AV.ff)) (T.ite (k == (5 : Int)) (T.ret AV.ff) (T.ite (k == (6 : Int)) (T.ret AV.ff) (T.ret (AV.bool (op == (0 : Int) && (a == (0 : Int) && (b == (0 : Int) && true)))))))))) := by
  kernel_rfl

noncomputable def reE (nt : Nat) : Env := { nt := nt, n0 := 0, fns := [(27, .pure fun args _ => reS args), (28, .pure fun args _ => rrS args)], loop := fun _ _ => .fail }

theorem ma_fn (op a b v : Int) : vfn Try.prog (reE Try.f13.ntmps) Try.f13 (codeOf Try.f13) [fnV op a b, .int .i64 v] = 
  T.ite (op == (1 : Int)) (T.ret (AV.int IntKind.i64 (IntKind.wrap IntKind.i64 (v + a))))
    (T.ite (op == (2 : Int)) (T.ret (AV.int IntKind.i64 (IntKind.wrap IntKind.i64 (v * a))))
      (T.ite (op == (3 : Int)) (T.ret (AV.int IntKind.i64 (bits BinOp.xor IntKind.i64 v a)))
        (T.ite (op == (4 : Int)) (T.ret (AV.int IntKind.i64 (IntKind.wrap IntKind.i64 ((0 : Int) - v))))
          (T.ite (op == (5 : Int)) (T.ret (AV.int IntKind.i64 (if a < (1 : Int) then (0 : Int) else restV v a))) (T.ite (op == (6 : Int)) (T.ret (AV.int IntKind.i64 (if a < v then a else v))) (T.ite (op == (7 : Int)) (T.ret (AV.int IntKind.i64 (if a > v then a else v))) (T.ret (AV.int IntKind.i64 (0 : Int))))))))) := by
  kernel_rfl

theorem rm_fn (op a b v : Int) : vfn Try.prog (reE Try.f14.ntmps) Try.f14 (codeOf Try.f14) [fnV op a b, .int .i64 v] = 
  T.ite (op == (1 : Int)) (T.ret (AV.int IntKind.i64 (IntKind.wrap IntKind.i64 (v + a))))
    (T.ite (op == (2 : Int)) (T.ret (AV.int IntKind.i64 (IntKind.wrap IntKind.i64 (v * a))))
      (T.ite (op == (3 : Int)) (T.ret (AV.int IntKind.i64 (bits BinOp.xor IntKind.i64 v a))) (T.ite (op == (4 : Int)) (T.ret (AV.int IntKind.i64 (IntKind.wrap IntKind.i64 ((0 : Int) - v)))) (T.ite (op == (5 : Int)) (T.chk (!a == (0 : Int)) (T.ret (AV.int IntKind.i64 (restV v a)))) (T.ite (decide (v < a) == (op == (6 : Int))) (T.ret (AV.int IntKind.i64 v)) (T.ret (AV.int IntKind.i64 a))))))) := by
  kernel_rfl

theorem ke_fn (op a b x v : Int) : vfn Try.prog (reE Try.f15.ntmps) Try.f15 (codeOf Try.f15) [fnV op a b, .agg [.int .i64 x, .int .i64 v]] = 
  T.ite (op == (1 : Int)) (T.ret (AV.bool (decide (v < a)))) (T.ite (op == (3 : Int)) (T.ite (decide (a ≥ (1 : Int))) (T.ret (AV.bool ((if a < (1 : Int) then (0 : Int) else restV x a) == b))) (T.ret AV.ff)) (T.ite (op == (2 : Int)) (T.ite (decide (a ≥ (1 : Int))) (T.ret (AV.bool ((if a < (1 : Int) then (0 : Int) else restV v a) == b))) (T.ret AV.ff)) (T.ret AV.ff))) := by
  kernel_rfl

theorem rk_fn (op a b x v : Int) : vfn Try.prog (reE Try.f16.ntmps) Try.f16 (codeOf Try.f16) [fnV op a b, .agg [.int .i64 x, .int .i64 v]] = 
  T.ite (op == (1 : Int)) (T.ret (AV.bool (decide (v < a)))) (T.ite (op == (2 : Int)) (T.chk (!a == (0 : Int)) (T.ret (AV.bool (restV v a == b)))) (T.chk (!a == (0 : Int)) (T.ret (AV.bool (restV x a == b))))) := by
  kernel_rfl

theorem fo_fn (op a b x n v : Int) : vfn Try.prog (leafE Try.f20.ntmps) Try.f20 (codeOf Try.f20) [fnV op a b, .agg [.int .i64 x, .int .i64 n], .int .i64 v] = 
  T.ite (op == (4 : Int)) (T.ret (AV.agg [AV.int IntKind.i64 (IntKind.wrap IntKind.i64 (n + (1 : Int))), AV.int IntKind.i64 (IntKind.wrap IntKind.i64 (n + (1 : Int)))]))
    (T.ite (n == (0 : Int)) (T.ret (AV.agg [AV.int IntKind.i64 v, AV.int IntKind.i64 (IntKind.wrap IntKind.i64 (n + (1 : Int)))]))
      (T.ite (op == (1 : Int)) (T.ret (AV.agg [AV.int IntKind.i64 (IntKind.wrap IntKind.i64 (x + v)), AV.int IntKind.i64 (IntKind.wrap IntKind.i64 (n + (1 : Int)))]))
        (T.ite (op == (2 : Int)) (T.ret (AV.agg [AV.int IntKind.i64 (if v < x then v else x), AV.int IntKind.i64 (IntKind.wrap IntKind.i64 (n + (1 : Int)))]))
          (T.ite (op == (3 : Int)) (T.ret (AV.agg [AV.int IntKind.i64 (if v > x then v else x), AV.int IntKind.i64 (IntKind.wrap IntKind.i64 (n + (1 : Int)))])) (T.ret (AV.agg [AV.int IntKind.i64 v, AV.int IntKind.i64 (IntKind.wrap IntKind.i64 (n + (1 : Int)))])))))) := by
  kernel_rfl

theorem rf_fn (op a b x n v : Int) : vfn Try.prog (leafE Try.f21.ntmps) Try.f21 (codeOf Try.f21) [fnV op a b, .agg [.int .i64 x, .int .i64 n], .int .i64 v] = 
  T.ite (op == (4 : Int)) (T.ret (AV.agg [AV.int IntKind.i64 (IntKind.wrap IntKind.i64 (n + (1 : Int))), AV.int IntKind.i64 (IntKind.wrap IntKind.i64 (n + (1 : Int)))]))
    (T.ite (n == (0 : Int)) (T.ret (AV.agg [AV.int IntKind.i64 v, AV.int IntKind.i64 (IntKind.wrap IntKind.i64 (n + (1 : Int)))]))
      (T.ite (op == (1 : Int))
        (T.ite (op == (2 : Int))
          (T.ite (decide (x < v)) (T.ret (AV.agg [AV.int IntKind.i64 x, AV.int IntKind.i64 (IntKind.wrap IntKind.i64 (n + (1 : Int)))]))
            (T.ite (op == (3 : Int)) (T.ite (decide (x > v)) (T.ret (AV.agg [AV.int IntKind.i64 x, AV.int IntKind.i64 (IntKind.wrap IntKind.i64 (n + (1 : Int)))])) (T.ret (AV.agg [AV.int IntKind.i64 (IntKind.wrap IntKind.i64 (x + v)), AV.int IntKind.i64 (IntKind.wrap IntKind.i64 (n + (1 : Int)))])))
              (T.ret (AV.agg [AV.int IntKind.i64 (IntKind.wrap IntKind.i64 (x + v)), AV.int IntKind.i64 (IntKind.wrap IntKind.i64 (n + (1 : Int)))]))))
          (T.ite (op == (3 : Int)) (T.ite (decide (x > v)) (T.ret (AV.agg [AV.int IntKind.i64 x, AV.int IntKind.i64 (IntKind.wrap IntKind.i64 (n + (1 : Int)))])) (T.ret (AV.agg [AV.int IntKind.i64 (IntKind.wrap IntKind.i64 (x + v)), AV.int IntKind.i64 (IntKind.wrap IntKind.i64 (n + (1 : Int)))])))
            (T.ret (AV.agg [AV.int IntKind.i64 (IntKind.wrap IntKind.i64 (x + v)), AV.int IntKind.i64 (IntKind.wrap IntKind.i64 (n + (1 : Int)))]))))
        (T.ite (op == (2 : Int))
          (T.ite (decide (x < v)) (T.ret (AV.agg [AV.int IntKind.i64 x, AV.int IntKind.i64 (IntKind.wrap IntKind.i64 (n + (1 : Int)))]))
            (T.ite (op == (3 : Int)) (T.ite (decide (x > v)) (T.ret (AV.agg [AV.int IntKind.i64 x, AV.int IntKind.i64 (IntKind.wrap IntKind.i64 (n + (1 : Int)))])) (T.ret (AV.agg [AV.int IntKind.i64 v, AV.int IntKind.i64 (IntKind.wrap IntKind.i64 (n + (1 : Int)))]))) (T.ret (AV.agg [AV.int IntKind.i64 v, AV.int IntKind.i64 (IntKind.wrap IntKind.i64 (n + (1 : Int)))]))))
          (T.ite (op == (3 : Int)) (T.ite (decide (x > v)) (T.ret (AV.agg [AV.int IntKind.i64 x, AV.int IntKind.i64 (IntKind.wrap IntKind.i64 (n + (1 : Int)))])) (T.ret (AV.agg [AV.int IntKind.i64 v, AV.int IntKind.i64 (IntKind.wrap IntKind.i64 (n + (1 : Int)))]))) (T.ret (AV.agg [AV.int IntKind.i64 v, AV.int IntKind.i64 (IntKind.wrap IntKind.i64 (n + (1 : Int)))])))))) := by
  kernel_rfl

theorem vm_ok : SummOK Try.prog 29 (.pure fun args _ => vmS args) := by
  refine val_fn (E := leafE Try.f29.ntmps) (c := codeOf Try.f29) (fun args w => Try.call29 args w) Try.func29 rfl (EnvOK.nil) (noLoops (by kernel_rfl)) rfl rfl ?_
  intro args Q hq
  unfold vmS at hq ⊢
  split at hq
  · rename_i op a b
    refine ⟨rfl, _, rfl, fun Q h => h, rfl, ?_⟩
    rw [show AV.agg [.int .i64 op, .int .i64 a, .int .i64 b] = fnV op a b from rfl, vm_fn]
    repeat' first | refine T.hiteP (fun _ => ?_) (fun _ => ?_) | refine T.hiteE (fun _ => ?_) (fun _ => ?_) | refine T.hiteN (fun _ => ?_) (fun _ => ?_) | refine T.hiteFP (fun _ => ?_) (fun _ => ?_) | refine T.hiteFE (fun _ => ?_) (fun _ => ?_) | refine T.hiteF (fun _ => ?_) (fun _ => ?_) | refine T.hite (fun _ => ?_) (fun _ => ?_) | refine T.hneed rfl ?_ | refine T.hneed IntRow.rows ?_ | refine T.hneed trivial ?_ | refine T.hchk ?_ ?_ | refine T.hall (fun _ => ?_) | refine T.hasm (fun _ => ?_)
    all_goals (try refine T.hret ?_)
    all_goals first | refine Alike_dec_dec ?_ | refine Alike_eq_dec ?_ | refine Alike_tt_dec ?_ | refine Alike_ff_dec ?_ | refine Alike_bool_dec ?_
    all_goals unfold vmP
    all_goals omega
  · exact hq.elim

theorem re_ok : SummOK Try.prog 27 (.pure fun args _ => reS args) := by
  refine val_fn (E := leafE Try.f27.ntmps) (c := codeOf Try.f27) (fun args w => Try.call27 args w) Try.func27 rfl (EnvOK.nil) (noLoops (by kernel_rfl)) rfl rfl ?_
  intro args Q hq
  unfold reS at hq ⊢
  split at hq
  · rename_i v a
    refine ⟨rfl, _, rfl, fun Q h => h, rfl, ?_⟩
    rw [re_fn]
    repeat' first | refine T.hchk ?_ ?_ | refine T.hite (fun _ => ?_) (fun _ => ?_) | refine T.hall (fun _ => ?_) | refine T.hasm (fun _ => ?_)
    all_goals (try simp only [decide_eq_true_eq, decide_eq_false_iff_not, Bool.and_eq_true, bne_iff_ne, ne_eq, beq_iff_eq, Bool.not_eq_true', bne_eq_false_iff_eq, beq_eq_false_iff_ne, Bool.and_eq_false_iff, not_true_eq_false, Bool.false_eq_true, reduceCtorEq] at *)
    all_goals simp [T.holds, restV, *] at *
    all_goals omega
  · exact hq.elim

theorem rr_ok : SummOK Try.prog 28 (.pure fun args _ => rrS args) := by
  refine val_fn (E := leafE Try.f28.ntmps) (c := codeOf Try.f28) (fun args w => Try.call28 args w) Try.func28 rfl (EnvOK.nil) (noLoops (by kernel_rfl)) rfl rfl ?_
  intro args Q hq
  unfold rrS at hq ⊢
  split at hq
  · rename_i v a
    obtain ⟨hk, -⟩ := hq
    refine ⟨rfl, _, rfl, fun Q h => h.2, ⟨hk, rfl⟩, ?_⟩
    rw [rr_fn]
    refine T.hchk hk ?_
    repeat' first | refine T.hchk ?_ ?_ | refine T.hite (fun _ => ?_) (fun _ => ?_) | refine T.hall (fun _ => ?_) | refine T.hasm (fun _ => ?_)
    all_goals (try simp only [decide_eq_true_eq, decide_eq_false_iff_not, Bool.and_eq_true, bne_iff_ne, ne_eq, beq_iff_eq, Bool.not_eq_true', bne_eq_false_iff_eq, beq_eq_false_iff_ne, Bool.and_eq_false_iff, not_true_eq_false, Bool.false_eq_true, reduceCtorEq] at *)
    all_goals simp [T.holds, restV, *] at *
  · exact hq.elim

def vaP (k op a b : Int) : Prop :=
  (k = 2 ∧ b = 0 ∧ vmP op a) ∨ (k = 3 ∧ (op = 1 ∧ b = 0 ∨ (op = 2 ∨ op = 3) ∧ 0 ≤ b ∧ b < a)) ∨ (k = 4 ∧ op = 0 ∧ 0 ≤ a ∧ a ≤ 4) ∨ (k = 5 ∧ 1 ≤ op ∧ op ≤ 4 ∧ a = 0 ∧ b = 0) ∨
  (k = 6 ∧ 1 ≤ op ∧ op ≤ 4 ∧ 1 ≤ a ∧ a ≤ 16 ∧ b = 0) ∨ (k ≠ 2 ∧ k ≠ 3 ∧ k ≠ 4 ∧ k ≠ 5 ∧ k ≠ 6 ∧ op = 0 ∧ a = 0 ∧ b = 0)
instance (k op a b : Int) : Decidable (vaP k op a b) := by unfold vaP; infer_instance
def vaS : List AV → T AV
  | [.int .i64 k, .agg [.int .i64 op, .int .i64 a, .int .i64 b]] => .ret (.bool (decide (vaP k op a b)))
  | _ => .fail
def chV (k op a b : Int) : Int := if k < 1 ∨ 8 < k then 2 else if vaP k op a b then 0 else 1
theorem chV_kind {k op a b : Int} (h : k < 1 ∨ 8 < k) : chV k op a b = 2 := if_pos h
theorem chV_ok {k op a b : Int} (h : ¬ (k < 1 ∨ 8 < k)) (hv : vaP k op a b) : chV k op a b = 0 := by unfold chV; rw [if_neg h, if_pos hv]
theorem chV_arg {k op a b : Int} (h : ¬ (k < 1 ∨ 8 < k)) (hv : ¬ vaP k op a b) : chV k op a b = 1 := by unfold chV; rw [if_neg h, if_neg hv]
def chS : List AV → T AV
  | [.int .i64 k, .agg [.int .i64 op, .int .i64 a, .int .i64 b]] => .ret (.int .i64 (chV k op a b))
  | _ => .fail

theorem vaE_ok : EnvOK Try.prog vaE.fns := EnvOK.cons vm_ok EnvOK.nil
theorem reE_ok (nt : Nat) : EnvOK Try.prog (reE nt).fns := EnvOK.cons re_ok (EnvOK.cons rr_ok EnvOK.nil)

theorem va_ok : SummOK Try.prog 26 (.pure fun args _ => vaS args) := by
  refine val_fn (E := vaE) (c := codeOf Try.f26) (fun args w => Try.call26 args w) Try.func26 rfl (vaE_ok) (noLoops (by kernel_rfl)) rfl rfl ?_
  intro args Q hq
  unfold vaS at hq ⊢
  split at hq
  · rename_i k op a b
    refine ⟨rfl, _, rfl, fun Q h => h, rfl, ?_⟩
    rw [show AV.agg [.int .i64 op, .int .i64 a, .int .i64 b] = fnV op a b from rfl, va_fn]
    repeat' first | refine T.hiteP (fun _ => ?_) (fun _ => ?_) | refine T.hiteE (fun _ => ?_) (fun _ => ?_) | refine T.hiteN (fun _ => ?_) (fun _ => ?_) | refine T.hiteFP (fun _ => ?_) (fun _ => ?_) | refine T.hiteFE (fun _ => ?_) (fun _ => ?_) | refine T.hiteF (fun _ => ?_) (fun _ => ?_) | refine T.hite (fun _ => ?_) (fun _ => ?_) | refine T.hneed rfl ?_ | refine T.hneed IntRow.rows ?_ | refine T.hneed trivial ?_ | refine T.hchk ?_ ?_ | refine T.hall (fun _ => ?_) | refine T.hasm (fun _ => ?_)
    all_goals (try refine T.hret ?_)
    all_goals first | refine Alike_dec_dec ?_ | refine Alike_eq_dec ?_ | refine Alike_tt_dec ?_ | refine Alike_ff_dec ?_ | refine Alike_bool_dec ?_
    all_goals unfold vaP
    all_goals (try simp only [Bool.and_true, beq_iff_eq, Bool.and_eq_true])
    all_goals (try unfold vmP)
    all_goals omega
  · exact hq.elim

noncomputable def chE : Env := { nt := Try.f10.ntmps, n0 := 0, fns := [(26, .pure fun args _ => vaS args)], loop := fun _ _ => .fail }

theorem ch_fn (k op a b : Int) : vfn Try.prog chE Try.f10 (codeOf Try.f10) [.int .i64 k, fnV op a b] = 
  T.ite (decide (k < (1 : Int))) (T.ret (AV.int IntKind.i64 (2 : Int))) (T.ite (decide (k > (8 : Int))) (T.ret (AV.int IntKind.i64 (2 : Int))) (T.ite (!decide (vaP k op a b)) (T.ret (AV.int IntKind.i64 (1 : Int))) (T.ret (AV.int IntKind.i64 (0 : Int))))) := by
  kernel_rfl

theorem ch_ok : SummOK Try.prog 10 (.pure fun args _ => chS args) := by
  refine val_fn (E := chE) (c := codeOf Try.f10) (fun args w => Try.call10 args w) Try.func10 rfl ((EnvOK.cons va_ok EnvOK.nil)) (noLoops (by kernel_rfl)) rfl rfl ?_
  intro args Q hq
  unfold chS at hq ⊢
  split at hq
  · rename_i k op a b
    refine ⟨rfl, _, rfl, fun Q h => h, rfl, ?_⟩
    rw [show AV.agg [.int .i64 op, .int .i64 a, .int .i64 b] = fnV op a b from rfl, ch_fn]
    repeat' first | refine T.hiteP (fun _ => ?_) (fun _ => ?_) | refine T.hiteE (fun _ => ?_) (fun _ => ?_) | refine T.hiteN (fun _ => ?_) (fun _ => ?_) | refine T.hiteFP (fun _ => ?_) (fun _ => ?_) | refine T.hiteFE (fun _ => ?_) (fun _ => ?_) | refine T.hiteF (fun _ => ?_) (fun _ => ?_) | refine T.hite (fun _ => ?_) (fun _ => ?_) | refine T.hneed rfl ?_ | refine T.hneed IntRow.rows ?_ | refine T.hneed trivial ?_ | refine T.hchk ?_ ?_ | refine T.hall (fun _ => ?_) | refine T.hasm (fun _ => ?_)
    all_goals (try refine T.hret ?_)
    all_goals (refine Alike_of_eq ?_; unfold chV)
    · rw [if_pos (by omega)]
    · rw [if_pos (by omega)]
    · rw [if_neg (by omega), if_neg (by simp_all)]
    · rw [if_neg (by omega), if_pos (by simp_all)]
  · exact hq.elim

/-! ### Map, Keep, Fold, Window -/

def maV (op a v : Int) : Int :=
  if op = 1 then IntKind.wrap .i64 (v + a) else if op = 2 then IntKind.wrap .i64 (v * a) else if op = 3 then bits .xor .i64 v a else if op = 4 then IntKind.wrap .i64 (0 - v)
  else if op = 5 then (if a < 1 then 0 else restV v a) else if op = 6 then (if a < v then a else v) else if op = 7 then (if a > v then a else v) else 0
def maS : List AV → T AV
  | [.agg [.int .i64 op, .int .i64 a, .int .i64 b], .int .i64 v] => .ret (.int .i64 (maV op a v))
  | _ => .fail
def rmS : List AV → T AV
  | [.agg [.int .i64 op, .int .i64 a, .int .i64 b], .int .i64 v] => .chk (decide (1 ≤ op ∧ op ≤ 7 ∧ (op = 5 → 1 ≤ a))) (.ret (.int .i64 (maV op a v)))
  | _ => .fail

theorem ma_ok : SummOK Try.prog 13 (.pure fun args _ => maS args) := by
  refine val_fn (E := reE Try.f13.ntmps) (c := codeOf Try.f13) (fun args w => Try.call13 args w) Try.func13 rfl (reE_ok _) (noLoops (by kernel_rfl)) rfl rfl ?_
  intro args Q hq
  unfold maS at hq ⊢
  split at hq
  · rename_i op a b v
    refine ⟨rfl, _, rfl, fun Q h => h, rfl, ?_⟩
    rw [show AV.agg [.int .i64 op, .int .i64 a, .int .i64 b] = fnV op a b from rfl, ma_fn]
    repeat' first | refine T.hiteP (fun _ => ?_) (fun _ => ?_) | refine T.hiteE (fun _ => ?_) (fun _ => ?_) | refine T.hiteN (fun _ => ?_) (fun _ => ?_) | refine T.hiteFP (fun _ => ?_) (fun _ => ?_) | refine T.hiteFE (fun _ => ?_) (fun _ => ?_) | refine T.hiteF (fun _ => ?_) (fun _ => ?_) | refine T.hite (fun _ => ?_) (fun _ => ?_) | refine T.hneed rfl ?_ | refine T.hneed IntRow.rows ?_ | refine T.hneed trivial ?_ | refine T.hchk ?_ ?_ | refine T.hall (fun _ => ?_) | refine T.hasm (fun _ => ?_)
    all_goals (try refine T.hret ?_)
    all_goals refine Alike_of_eq ?_
    all_goals simp [maV, *]
  · exact hq.elim

theorem rm_ok : SummOK Try.prog 14 (.pure fun args _ => rmS args) := by
  refine val_fn (E := reE Try.f14.ntmps) (c := codeOf Try.f14) (fun args w => Try.call14 args w) Try.func14 rfl (reE_ok _) (noLoops (by kernel_rfl)) rfl rfl ?_
  intro args Q hq
  unfold rmS at hq ⊢
  split at hq
  · rename_i op a b v
    obtain ⟨hk, -⟩ := hq
    refine ⟨rfl, _, rfl, fun Q h => h.2, ⟨hk, rfl⟩, ?_⟩
    have hk := of_decide_eq_true hk
    rw [show AV.agg [.int .i64 op, .int .i64 a, .int .i64 b] = fnV op a b from rfl, rm_fn]
    refine T.hiteE (fun h => ?_) (fun h1 => T.hiteE (fun h => ?_) (fun h2 => T.hiteE (fun h => ?_) (fun h3 => T.hiteE (fun h => ?_) (fun h4 => T.hiteE (fun h => ?_) (fun h5 => ?_)))))
    · refine T.hret (Alike_of_eq ?_); simp [maV, *]
    · refine T.hret (Alike_of_eq ?_); simp [maV, *]
    · refine T.hret (Alike_of_eq ?_); simp [maV, *]
    · refine T.hret (Alike_of_eq ?_); simp [maV, *]
    · refine T.hchk (by simp; omega) (T.hret (Alike_of_eq ?_)); rw [h]; simp [maV, show ¬ a < 1 by omega]
    · refine T.hite (fun h => T.hret (Alike_of_eq ?_)) (fun h => T.hret (Alike_of_eq ?_))
      · by_cases h6 : op = 6
        · simp [h6] at h; simp [maV, h6, show ¬ a < v by omega]
        · have h7 : op = 7 := by omega
          simp [h7] at h; simp [maV, h7, show ¬ a > v by omega]
      · by_cases h6 : op = 6
        · simp [h6] at h; simp [maV, h6]; omega
        · have h7 : op = 7 := by omega
          simp [h7] at h; simp [maV, h7]; omega
  · exact hq.elim

def keV (op a b x v : Int) : Bool :=
  if op = 1 then decide (v < a) else if op = 3 then decide (1 ≤ a) && (restV x a == b) else if op = 2 then decide (1 ≤ a) && (restV v a == b) else false
def keS : List AV → T AV
  | [.agg [.int .i64 op, .int .i64 a, .int .i64 b], .agg [.int .i64 x, .int .i64 v]] => .ret (.bool (keV op a b x v))
  | _ => .fail
def rkS : List AV → T AV
  | [.agg [.int .i64 op, .int .i64 a, .int .i64 b], .agg [.int .i64 x, .int .i64 v]] => .chk (decide (op = 1 ∨ (op = 2 ∨ op = 3) ∧ 1 ≤ a)) (.ret (.bool (keV op a b x v)))
  | _ => .fail

theorem ke_ok : SummOK Try.prog 15 (.pure fun args _ => keS args) := by
  refine val_fn (E := reE Try.f15.ntmps) (c := codeOf Try.f15) (fun args w => Try.call15 args w) Try.func15 rfl (reE_ok _) (noLoops (by kernel_rfl)) rfl rfl ?_
  intro args Q hq
  unfold keS at hq ⊢
  split at hq
  · rename_i op a b x v
    refine ⟨rfl, _, rfl, fun Q h => h, rfl, ?_⟩
    rw [show AV.agg [.int .i64 op, .int .i64 a, .int .i64 b] = fnV op a b from rfl, ke_fn]
    repeat' first | refine T.hiteP (fun _ => ?_) (fun _ => ?_) | refine T.hiteE (fun _ => ?_) (fun _ => ?_) | refine T.hiteN (fun _ => ?_) (fun _ => ?_) | refine T.hiteFP (fun _ => ?_) (fun _ => ?_) | refine T.hiteFE (fun _ => ?_) (fun _ => ?_) | refine T.hiteF (fun _ => ?_) (fun _ => ?_) | refine T.hite (fun _ => ?_) (fun _ => ?_) | refine T.hneed rfl ?_ | refine T.hneed IntRow.rows ?_ | refine T.hneed trivial ?_ | refine T.hchk ?_ ?_ | refine T.hall (fun _ => ?_) | refine T.hasm (fun _ => ?_)
    all_goals (try refine T.hret ?_)
    all_goals first | rw [Alike_bool] | rw [Alike_ff]
    · simp [keV, *]
    · rename_i h1 h2 h3; simp [keV, h2, show 1 ≤ a from h3, show ¬ a < 1 by omega]
    · rename_i h1 h2 h3; simp [keV, h2]; omega
    · rename_i h1 h2 h3 h4; simp [keV, h3, show 1 ≤ a from h4, show ¬ a < 1 by omega]
    · rename_i h1 h2 h3 h4; simp [keV, h3]; omega
    · simp [keV, *]
  · exact hq.elim

theorem rk_ok : SummOK Try.prog 16 (.pure fun args _ => rkS args) := by
  refine val_fn (E := reE Try.f16.ntmps) (c := codeOf Try.f16) (fun args w => Try.call16 args w) Try.func16 rfl (reE_ok _) (noLoops (by kernel_rfl)) rfl rfl ?_
  intro args Q hq
  unfold rkS at hq ⊢
  split at hq
  · rename_i op a b x v
    obtain ⟨hk, -⟩ := hq
    refine ⟨rfl, _, rfl, fun Q h => h.2, ⟨hk, rfl⟩, ?_⟩
    have hk := of_decide_eq_true hk
    rw [show AV.agg [.int .i64 op, .int .i64 a, .int .i64 b] = fnV op a b from rfl, rk_fn]
    refine T.hiteE (fun h => T.hret ((Alike_bool _ _).2 ?_)) (fun h1 => T.hiteE (fun h => T.hchk (by simp; omega) (T.hret ((Alike_bool _ _).2 ?_))) (fun h2 => T.hchk (by simp; omega) (T.hret ((Alike_bool _ _).2 ?_))))
    · simp [keV, h]
    · simp [keV, h, show 1 ≤ a by omega]
    · simp [keV, show op = 3 by omega, show 1 ≤ a by omega]
  · exact hq.elim

def foV (op x n v : Int) : Int :=
  if op = 4 then IntKind.wrap .i64 (n + 1) else if n = 0 then v else if op = 1 then IntKind.wrap .i64 (x + v) else if op = 2 then (if v < x then v else x) else if op = 3 then (if v > x then v else x) else v
def foS : List AV → T AV
  | [.agg [.int .i64 op, .int .i64 a, .int .i64 b], .agg [.int .i64 x, .int .i64 n], .int .i64 v] => .ret (.agg [.int .i64 (foV op x n v), .int .i64 (IntKind.wrap .i64 (n + 1))])
  | _ => .fail

theorem fo_ok : SummOK Try.prog 20 (.pure fun args _ => foS args) := by
  refine val_fn (E := leafE Try.f20.ntmps) (c := codeOf Try.f20) (fun args w => Try.call20 args w) Try.func20 rfl (EnvOK.nil) (noLoops (by kernel_rfl)) rfl rfl ?_
  intro args Q hq
  unfold foS at hq ⊢
  split at hq
  · rename_i op a b x n v
    refine ⟨rfl, _, rfl, fun Q h => h, rfl, ?_⟩
    rw [show AV.agg [.int .i64 op, .int .i64 a, .int .i64 b] = fnV op a b from rfl, fo_fn]
    repeat' first | refine T.hiteP (fun _ => ?_) (fun _ => ?_) | refine T.hiteE (fun _ => ?_) (fun _ => ?_) | refine T.hiteN (fun _ => ?_) (fun _ => ?_) | refine T.hiteFP (fun _ => ?_) (fun _ => ?_) | refine T.hiteFE (fun _ => ?_) (fun _ => ?_) | refine T.hiteF (fun _ => ?_) (fun _ => ?_) | refine T.hite (fun _ => ?_) (fun _ => ?_) | refine T.hneed rfl ?_ | refine T.hneed IntRow.rows ?_ | refine T.hneed trivial ?_ | refine T.hchk ?_ ?_ | refine T.hall (fun _ => ?_) | refine T.hasm (fun _ => ?_)
    all_goals (try refine T.hret ?_)
    all_goals refine Alike_agg ⟨Alike_of_eq ?_, Alike_refl _, trivial⟩
    all_goals simp [foV, *]
  · exact hq.elim

theorem rf_ok : SummOK Try.prog 21 (.pure fun args _ => foS args) := by
  refine val_fn (E := leafE Try.f21.ntmps) (c := codeOf Try.f21) (fun args w => Try.call21 args w) Try.func21 rfl (EnvOK.nil) (noLoops (by kernel_rfl)) rfl rfl ?_
  intro args Q hq
  unfold foS at hq ⊢
  split at hq
  · rename_i op a b x n v
    refine ⟨rfl, _, rfl, fun Q h => h, rfl, ?_⟩
    rw [show AV.agg [.int .i64 op, .int .i64 a, .int .i64 b] = fnV op a b from rfl, rf_fn]
    repeat' first | refine T.hiteP (fun _ => ?_) (fun _ => ?_) | refine T.hiteE (fun _ => ?_) (fun _ => ?_) | refine T.hiteN (fun _ => ?_) (fun _ => ?_) | refine T.hiteFP (fun _ => ?_) (fun _ => ?_) | refine T.hiteFE (fun _ => ?_) (fun _ => ?_) | refine T.hiteF (fun _ => ?_) (fun _ => ?_) | refine T.hite (fun _ => ?_) (fun _ => ?_) | refine T.hneed rfl ?_ | refine T.hneed IntRow.rows ?_ | refine T.hneed trivial ?_ | refine T.hchk ?_ ?_ | refine T.hall (fun _ => ?_) | refine T.hasm (fun _ => ?_)
    all_goals (try refine T.hret ?_)
    all_goals refine Alike_agg ⟨Alike_of_eq ?_, Alike_refl _, trivial⟩
    all_goals (unfold foV; repeat' split)
    all_goals first | rfl | omega
  · exact hq.elim

noncomputable def wiE (nt : Nat) : Env := { nt := nt, n0 := 0, fns := [(20, .pure fun args _ => foS args), (21, .pure fun args _ => foS args)], loop := fun _ _ => .fail }

theorem wiE_ok (nt : Nat) : EnvOK Try.prog (wiE nt).fns := EnvOK.cons fo_ok (EnvOK.cons rf_ok EnvOK.nil)

theorem wi_fn (op a b x n v : Int) : vfn Try.prog (wiE Try.f22.ntmps) Try.f22 (codeOf Try.f22) [fnV op a b, .agg [.int .i64 x, .int .i64 n], .int .i64 v] = 
  T.ite (decide (IntKind.wrap IntKind.i64 (n + (1 : Int)) ≥ a)) (T.need (AV.int IntKind.i64 (foV op x n v) = AV.int IntKind.i64 (foV op x n v)) (T.ret (AV.tup [AV.agg [AV.int IntKind.i64 (0 : Int), AV.int IntKind.i64 (0 : Int)], AV.int IntKind.i64 (foV op x n v), AV.tt])))
    (T.ret (AV.tup [AV.agg [AV.int IntKind.i64 (foV op x n v), AV.int IntKind.i64 (IntKind.wrap IntKind.i64 (n + (1 : Int)))], AV.int IntKind.i64 (0 : Int), AV.ff])) := by
  kernel_rfl

theorem rw_fn (op a b x n v : Int) : vfn Try.prog (wiE Try.f23.ntmps) Try.f23 (codeOf Try.f23) [fnV op a b, .agg [.int .i64 x, .int .i64 n], .int .i64 v] = 
  T.ite (decide (IntKind.wrap IntKind.i64 (n + (1 : Int)) ≥ a)) (T.need (AV.int IntKind.i64 (foV op x n v) = AV.int IntKind.i64 (foV op x n v)) (T.ret (AV.tup [AV.agg [AV.int IntKind.i64 (0 : Int), AV.int IntKind.i64 (0 : Int)], AV.int IntKind.i64 (foV op x n v), AV.tt])))
    (T.ret (AV.tup [AV.agg [AV.int IntKind.i64 (foV op x n v), AV.int IntKind.i64 (IntKind.wrap IntKind.i64 (n + (1 : Int)))], AV.int IntKind.i64 (0 : Int), AV.ff])) := by
  kernel_rfl

def wiP (a n : Int) : Prop := a ≤ IntKind.wrap .i64 (n + 1)
instance (a n : Int) : Decidable (wiP a n) := by unfold wiP; infer_instance
def wiV (op a x n v : Int) : AV := .tup [.agg [.int .i64 (if wiP a n then 0 else foV op x n v), .int .i64 (if wiP a n then 0 else IntKind.wrap .i64 (n + 1))], .int .i64 (if wiP a n then foV op x n v else 0), .bool (decide (wiP a n))]
def wiS : List AV → T AV
  | [.agg [.int .i64 op, .int .i64 a, .int .i64 b], .agg [.int .i64 x, .int .i64 n], .int .i64 v] =>
    .ret (wiV op a x n v)
  | _ => .fail

theorem wi_pos {op a x n v : Int} (h : wiP a n) : Ox.Alike (.tup [.agg [.int .i64 0, .int .i64 0], .int .i64 (foV op x n v), .tt]) (wiV op a x n v) :=
  Alike_tup (.cons (Alike_agg (.cons (Alike_of_eq (if_pos h).symm) (.cons (Alike_of_eq (if_pos h).symm) .nil))) (.cons (Alike_of_eq (if_pos h).symm) (.cons ((Alike_tt _).2 (decide_eq_true h)) .nil)))
theorem wi_neg {op a x n v : Int} (h : ¬ wiP a n) : Ox.Alike (.tup [.agg [.int .i64 (foV op x n v), .int .i64 (IntKind.wrap .i64 (n + 1))], .int .i64 0, .ff]) (wiV op a x n v) :=
  Alike_tup (.cons (Alike_agg (.cons (Alike_of_eq (if_neg h).symm) (.cons (Alike_of_eq (if_neg h).symm) .nil))) (.cons (Alike_of_eq (if_neg h).symm) (.cons ((Alike_ff _).2 (decide_eq_false h)) .nil)))

theorem wi_ok : SummOK Try.prog 22 (.pure fun args _ => wiS args) := by
  refine val_fn (E := wiE Try.f22.ntmps) (c := codeOf Try.f22) (fun args w => Try.call22 args w) Try.func22 rfl (wiE_ok _) (noLoops (by kernel_rfl)) rfl rfl ?_
  intro args Q hq
  unfold wiS at hq ⊢
  split at hq
  · rename_i op a b x n v
    refine ⟨rfl, _, rfl, fun Q h => h, rfl, ?_⟩
    rw [show AV.agg [.int .i64 op, .int .i64 a, .int .i64 b] = fnV op a b from rfl, wi_fn]
    refine T.hiteP (fun h => ?_) (fun h => ?_)
    · have h : wiP a n := h
      repeat' first | refine T.hiteP (fun _ => ?_) (fun _ => ?_) | refine T.hiteE (fun _ => ?_) (fun _ => ?_) | refine T.hiteN (fun _ => ?_) (fun _ => ?_) | refine T.hiteFP (fun _ => ?_) (fun _ => ?_) | refine T.hiteFE (fun _ => ?_) (fun _ => ?_) | refine T.hiteF (fun _ => ?_) (fun _ => ?_) | refine T.hite (fun _ => ?_) (fun _ => ?_) | refine T.hneed rfl ?_ | refine T.hneed IntRow.rows ?_ | refine T.hneed trivial ?_ | refine T.hchk ?_ ?_ | refine T.hall (fun _ => ?_) | refine T.hasm (fun _ => ?_)
      all_goals (try refine T.hret ?_)
      all_goals exact wi_pos h
    · have h : ¬ wiP a n := h
      repeat' first | refine T.hiteP (fun _ => ?_) (fun _ => ?_) | refine T.hiteE (fun _ => ?_) (fun _ => ?_) | refine T.hiteN (fun _ => ?_) (fun _ => ?_) | refine T.hiteFP (fun _ => ?_) (fun _ => ?_) | refine T.hiteFE (fun _ => ?_) (fun _ => ?_) | refine T.hiteF (fun _ => ?_) (fun _ => ?_) | refine T.hite (fun _ => ?_) (fun _ => ?_) | refine T.hneed rfl ?_ | refine T.hneed IntRow.rows ?_ | refine T.hneed trivial ?_ | refine T.hchk ?_ ?_ | refine T.hall (fun _ => ?_) | refine T.hasm (fun _ => ?_)
      all_goals (try refine T.hret ?_)
      all_goals exact wi_neg h
  · exact hq.elim

theorem rw_ok : SummOK Try.prog 23 (.pure fun args _ => wiS args) := by
  refine val_fn (E := wiE Try.f23.ntmps) (c := codeOf Try.f23) (fun args w => Try.call23 args w) Try.func23 rfl (wiE_ok _) (noLoops (by kernel_rfl)) rfl rfl ?_
  intro args Q hq
  unfold wiS at hq ⊢
  split at hq
  · rename_i op a b x n v
    refine ⟨rfl, _, rfl, fun Q h => h, rfl, ?_⟩
    rw [show AV.agg [.int .i64 op, .int .i64 a, .int .i64 b] = fnV op a b from rfl, rw_fn]
    refine T.hiteP (fun h => ?_) (fun h => ?_)
    · have h : wiP a n := h
      repeat' first | refine T.hiteP (fun _ => ?_) (fun _ => ?_) | refine T.hiteE (fun _ => ?_) (fun _ => ?_) | refine T.hiteN (fun _ => ?_) (fun _ => ?_) | refine T.hiteFP (fun _ => ?_) (fun _ => ?_) | refine T.hiteFE (fun _ => ?_) (fun _ => ?_) | refine T.hiteF (fun _ => ?_) (fun _ => ?_) | refine T.hite (fun _ => ?_) (fun _ => ?_) | refine T.hneed rfl ?_ | refine T.hneed IntRow.rows ?_ | refine T.hneed trivial ?_ | refine T.hchk ?_ ?_ | refine T.hall (fun _ => ?_) | refine T.hasm (fun _ => ?_)
      all_goals (try refine T.hret ?_)
      all_goals exact wi_pos h
    · have h : ¬ wiP a n := h
      repeat' first | refine T.hiteP (fun _ => ?_) (fun _ => ?_) | refine T.hiteE (fun _ => ?_) (fun _ => ?_) | refine T.hiteN (fun _ => ?_) (fun _ => ?_) | refine T.hiteFP (fun _ => ?_) (fun _ => ?_) | refine T.hiteFE (fun _ => ?_) (fun _ => ?_) | refine T.hiteF (fun _ => ?_) (fun _ => ?_) | refine T.hite (fun _ => ?_) (fun _ => ?_) | refine T.hneed rfl ?_ | refine T.hneed IntRow.rows ?_ | refine T.hneed trivial ?_ | refine T.hchk ?_ ?_ | refine T.hall (fun _ => ?_) | refine T.hasm (fun _ => ?_)
      all_goals (try refine T.hret ?_)
      all_goals exact wi_neg h
  · exact hq.elim

end Go.Proofs.Ytbnijmoiaegopaa
