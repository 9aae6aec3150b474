/-
  Layer 10: the document's Check.
-/
import Derived.Test.YtbnijmoiaegopaaHA
namespace Go.Proofs.Ytbnijmoiaegopaa
open Go.Ox
set_option maxRecDepth 100000
set_option linter.unusedVariables false
set_option linter.unusedSimpArgs false

theorem rc_fn (k op a b : Int) : vfn Try.prog (leafE Try.f11.ntmps) Try.f11 (codeOf Try.f11) [.int .i64 k, fnV op a b] = 
  T.ite (decide (k < (1 : Int))) (T.ret (AV.int IntKind.i64 (2 : Int)))
    (T.ite (decide (k > (8 : Int))) (T.ret (AV.int IntKind.i64 (2 : Int)))
      (T.ite (op == (0 : Int))
        (T.ite (a == (0 : Int))
          (T.ite (k == (2 : Int))
            (T.ite (decide (op ≥ (1 : Int)))
              (T.ite (decide (op ≤ (7 : Int)))
                (T.ite (op == (5 : Int))
                  (T.ite (decide (a < (1 : Int))) (T.ret (AV.int IntKind.i64 (1 : Int))) (T.ite (op == (4 : Int)) (T.ite (a != (0 : Int)) (T.ret (AV.int IntKind.i64 (1 : Int))) (T.ite (!b == (0 : Int)) (T.ret (AV.int IntKind.i64 (1 : Int))) (T.ret (AV.int IntKind.i64 (0 : Int))))) (T.ite (!b == (0 : Int)) (T.ret (AV.int IntKind.i64 (1 : Int))) (T.ret (AV.int IntKind.i64 (0 : Int))))))
                  (T.ite (op == (4 : Int)) (T.ite (a != (0 : Int)) (T.ret (AV.int IntKind.i64 (1 : Int))) (T.ite (!b == (0 : Int)) (T.ret (AV.int IntKind.i64 (1 : Int))) (T.ret (AV.int IntKind.i64 (0 : Int))))) (T.ite (!b == (0 : Int)) (T.ret (AV.int IntKind.i64 (1 : Int))) (T.ret (AV.int IntKind.i64 (0 : Int))))))
                (T.ite (op == (5 : Int)) (T.ite (decide (a < (1 : Int))) (T.ret (AV.int IntKind.i64 (1 : Int))) (T.ite (op == (4 : Int)) (T.ite (a != (0 : Int)) (T.ret (AV.int IntKind.i64 (1 : Int))) (T.ret (AV.int IntKind.i64 (1 : Int)))) (T.ret (AV.int IntKind.i64 (1 : Int)))))
                  (T.ite (op == (4 : Int)) (T.ite (a != (0 : Int)) (T.ret (AV.int IntKind.i64 (1 : Int))) (T.ret (AV.int IntKind.i64 (1 : Int)))) (T.ret (AV.int IntKind.i64 (1 : Int))))))
              (T.ite (op == (5 : Int)) (T.ite (decide (a < (1 : Int))) (T.ret (AV.int IntKind.i64 (1 : Int))) (T.ite (op == (4 : Int)) (T.ite (a != (0 : Int)) (T.ret (AV.int IntKind.i64 (1 : Int))) (T.ret (AV.int IntKind.i64 (1 : Int)))) (T.ret (AV.int IntKind.i64 (1 : Int)))))
                (T.ite (op == (4 : Int)) (T.ite (a != (0 : Int)) (T.ret (AV.int IntKind.i64 (1 : Int))) (T.ret (AV.int IntKind.i64 (1 : Int)))) (T.ret (AV.int IntKind.i64 (1 : Int))))))
            (T.ite (k == (3 : Int))
              (T.ite (op == (1 : Int))
                (T.ite (b == (0 : Int)) (T.ret (AV.int IntKind.i64 (0 : Int)))
                  (T.ite (op == (2 : Int)) (T.ite (decide (a > (0 : Int))) (T.ite (decide (b ≥ (0 : Int))) (T.ite (!decide (b < a)) (T.ret (AV.int IntKind.i64 (1 : Int))) (T.ret (AV.int IntKind.i64 (0 : Int)))) (T.ret (AV.int IntKind.i64 (1 : Int)))) (T.ret (AV.int IntKind.i64 (1 : Int))))
                    (T.ite (op == (3 : Int)) (T.ite (decide (a > (0 : Int))) (T.ite (decide (b ≥ (0 : Int))) (T.ite (!decide (b < a)) (T.ret (AV.int IntKind.i64 (1 : Int))) (T.ret (AV.int IntKind.i64 (0 : Int)))) (T.ret (AV.int IntKind.i64 (1 : Int)))) (T.ret (AV.int IntKind.i64 (1 : Int)))) (T.ret (AV.int IntKind.i64 (1 : Int))))))
                (T.ite (op == (2 : Int)) (T.ite (decide (a > (0 : Int))) (T.ite (decide (b ≥ (0 : Int))) (T.ite (!decide (b < a)) (T.ret (AV.int IntKind.i64 (1 : Int))) (T.ret (AV.int IntKind.i64 (0 : Int)))) (T.ret (AV.int IntKind.i64 (1 : Int)))) (T.ret (AV.int IntKind.i64 (1 : Int))))
                  (T.ite (op == (3 : Int)) (T.ite (decide (a > (0 : Int))) (T.ite (decide (b ≥ (0 : Int))) (T.ite (!decide (b < a)) (T.ret (AV.int IntKind.i64 (1 : Int))) (T.ret (AV.int IntKind.i64 (0 : Int)))) (T.ret (AV.int IntKind.i64 (1 : Int)))) (T.ret (AV.int IntKind.i64 (1 : Int)))) (T.ret (AV.int IntKind.i64 (1 : Int))))))
              (T.ite (k == (4 : Int)) (T.ite (op == (0 : Int)) (T.ite (decide (a ≥ (0 : Int))) (T.ite (!decide (a ≤ (4 : Int))) (T.ret (AV.int IntKind.i64 (1 : Int))) (T.ret (AV.int IntKind.i64 (0 : Int)))) (T.ret (AV.int IntKind.i64 (1 : Int)))) (T.ret (AV.int IntKind.i64 (1 : Int))))
                (T.ite (k == (5 : Int)) (T.ite (decide (op ≥ (1 : Int))) (T.ite (decide (op ≤ (4 : Int))) (T.ite (a == (0 : Int)) (T.ite (!b == (0 : Int)) (T.ret (AV.int IntKind.i64 (1 : Int))) (T.ret (AV.int IntKind.i64 (0 : Int)))) (T.ret (AV.int IntKind.i64 (1 : Int)))) (T.ret (AV.int IntKind.i64 (1 : Int)))) (T.ret (AV.int IntKind.i64 (1 : Int))))
                  (T.ite (k == (6 : Int))
                    (T.ite (decide (op ≥ (1 : Int))) (T.ite (decide (op ≤ (4 : Int))) (T.ite (decide (a ≥ (1 : Int))) (T.ite (decide (a ≤ (16 : Int))) (T.ite (!b == (0 : Int)) (T.ret (AV.int IntKind.i64 (1 : Int))) (T.ret (AV.int IntKind.i64 (0 : Int)))) (T.ret (AV.int IntKind.i64 (1 : Int)))) (T.ret (AV.int IntKind.i64 (1 : Int)))) (T.ret (AV.int IntKind.i64 (1 : Int))))
                      (T.ret (AV.int IntKind.i64 (1 : Int))))
                    (T.ite (!b == (0 : Int)) (T.ret (AV.int IntKind.i64 (1 : Int))) (T.ret (AV.int IntKind.i64 (0 : Int)))))))))
          (T.ite (k == (2 : Int))
            (T.ite (decide (op ≥ (1 : Int)))
              (T.ite (decide (op ≤ (7 : Int)))
                (T.ite (op == (5 : Int))
                  (T.ite (decide (a < (1 : Int))) (T.ret (AV.int IntKind.i64 (1 : Int))) (T.ite (op == (4 : Int)) (T.ite (a != (0 : Int)) (T.ret (AV.int IntKind.i64 (1 : Int))) (T.ite (!b == (0 : Int)) (T.ret (AV.int IntKind.i64 (1 : Int))) (T.ret (AV.int IntKind.i64 (0 : Int))))) (T.ite (!b == (0 : Int)) (T.ret (AV.int IntKind.i64 (1 : Int))) (T.ret (AV.int IntKind.i64 (0 : Int))))))
                  (T.ite (op == (4 : Int)) (T.ite (a != (0 : Int)) (T.ret (AV.int IntKind.i64 (1 : Int))) (T.ite (!b == (0 : Int)) (T.ret (AV.int IntKind.i64 (1 : Int))) (T.ret (AV.int IntKind.i64 (0 : Int))))) (T.ite (!b == (0 : Int)) (T.ret (AV.int IntKind.i64 (1 : Int))) (T.ret (AV.int IntKind.i64 (0 : Int))))))
                (T.ite (op == (5 : Int)) (T.ite (decide (a < (1 : Int))) (T.ret (AV.int IntKind.i64 (1 : Int))) (T.ite (op == (4 : Int)) (T.ite (a != (0 : Int)) (T.ret (AV.int IntKind.i64 (1 : Int))) (T.ret (AV.int IntKind.i64 (1 : Int)))) (T.ret (AV.int IntKind.i64 (1 : Int)))))
                  (T.ite (op == (4 : Int)) (T.ite (a != (0 : Int)) (T.ret (AV.int IntKind.i64 (1 : Int))) (T.ret (AV.int IntKind.i64 (1 : Int)))) (T.ret (AV.int IntKind.i64 (1 : Int))))))
              (T.ite (op == (5 : Int)) (T.ite (decide (a < (1 : Int))) (T.ret (AV.int IntKind.i64 (1 : Int))) (T.ite (op == (4 : Int)) (T.ite (a != (0 : Int)) (T.ret (AV.int IntKind.i64 (1 : Int))) (T.ret (AV.int IntKind.i64 (1 : Int)))) (T.ret (AV.int IntKind.i64 (1 : Int)))))
                (T.ite (op == (4 : Int)) (T.ite (a != (0 : Int)) (T.ret (AV.int IntKind.i64 (1 : Int))) (T.ret (AV.int IntKind.i64 (1 : Int)))) (T.ret (AV.int IntKind.i64 (1 : Int))))))
            (T.ite (k == (3 : Int))
              (T.ite (op == (1 : Int))
                (T.ite (b == (0 : Int)) (T.ret (AV.int IntKind.i64 (0 : Int)))
                  (T.ite (op == (2 : Int)) (T.ite (decide (a > (0 : Int))) (T.ite (decide (b ≥ (0 : Int))) (T.ite (!decide (b < a)) (T.ret (AV.int IntKind.i64 (1 : Int))) (T.ret (AV.int IntKind.i64 (0 : Int)))) (T.ret (AV.int IntKind.i64 (1 : Int)))) (T.ret (AV.int IntKind.i64 (1 : Int))))
                    (T.ite (op == (3 : Int)) (T.ite (decide (a > (0 : Int))) (T.ite (decide (b ≥ (0 : Int))) (T.ite (!decide (b < a)) (T.ret (AV.int IntKind.i64 (1 : Int))) (T.ret (AV.int IntKind.i64 (0 : Int)))) (T.ret (AV.int IntKind.i64 (1 : Int)))) (T.ret (AV.int IntKind.i64 (1 : Int)))) (T.ret (AV.int IntKind.i64 (1 : Int))))))
                (T.ite (op == (2 : Int)) (T.ite (decide (a > (0 : Int))) (T.ite (decide (b ≥ (0 : Int))) (T.ite (!decide (b < a)) (T.ret (AV.int IntKind.i64 (1 : Int))) (T.ret (AV.int IntKind.i64 (0 : Int)))) (T.ret (AV.int IntKind.i64 (1 : Int)))) (T.ret (AV.int IntKind.i64 (1 : Int))))
                  (T.ite (op == (3 : Int)) (T.ite (decide (a > (0 : Int))) (T.ite (decide (b ≥ (0 : Int))) (T.ite (!decide (b < a)) (T.ret (AV.int IntKind.i64 (1 : Int))) (T.ret (AV.int IntKind.i64 (0 : Int)))) (T.ret (AV.int IntKind.i64 (1 : Int)))) (T.ret (AV.int IntKind.i64 (1 : Int)))) (T.ret (AV.int IntKind.i64 (1 : Int))))))
              (T.ite (k == (4 : Int)) (T.ite (op == (0 : Int)) (T.ite (decide (a ≥ (0 : Int))) (T.ite (!decide (a ≤ (4 : Int))) (T.ret (AV.int IntKind.i64 (1 : Int))) (T.ret (AV.int IntKind.i64 (0 : Int)))) (T.ret (AV.int IntKind.i64 (1 : Int)))) (T.ret (AV.int IntKind.i64 (1 : Int))))
                (T.ite (k == (5 : Int)) (T.ite (decide (op ≥ (1 : Int))) (T.ite (decide (op ≤ (4 : Int))) (T.ite (a == (0 : Int)) (T.ite (!b == (0 : Int)) (T.ret (AV.int IntKind.i64 (1 : Int))) (T.ret (AV.int IntKind.i64 (0 : Int)))) (T.ret (AV.int IntKind.i64 (1 : Int)))) (T.ret (AV.int IntKind.i64 (1 : Int)))) (T.ret (AV.int IntKind.i64 (1 : Int))))
                  (T.ite (k == (6 : Int))
                    (T.ite (decide (op ≥ (1 : Int))) (T.ite (decide (op ≤ (4 : Int))) (T.ite (decide (a ≥ (1 : Int))) (T.ite (decide (a ≤ (16 : Int))) (T.ite (!b == (0 : Int)) (T.ret (AV.int IntKind.i64 (1 : Int))) (T.ret (AV.int IntKind.i64 (0 : Int)))) (T.ret (AV.int IntKind.i64 (1 : Int)))) (T.ret (AV.int IntKind.i64 (1 : Int)))) (T.ret (AV.int IntKind.i64 (1 : Int))))
                      (T.ret (AV.int IntKind.i64 (1 : Int))))
                    (T.ret (AV.int IntKind.i64 (1 : Int)))))))))
        (T.ite (k == (2 : Int))
          (T.ite (decide (op ≥ (1 : Int)))
            (T.ite (decide (op ≤ (7 : Int)))
              (T.ite (op == (5 : Int))
                (T.ite (decide (a < (1 : Int))) (T.ret (AV.int IntKind.i64 (1 : Int))) (T.ite (op == (4 : Int)) (T.ite (a != (0 : Int)) (T.ret (AV.int IntKind.i64 (1 : Int))) (T.ite (!b == (0 : Int)) (T.ret (AV.int IntKind.i64 (1 : Int))) (T.ret (AV.int IntKind.i64 (0 : Int))))) (T.ite (!b == (0 : Int)) (T.ret (AV.int IntKind.i64 (1 : Int))) (T.ret (AV.int IntKind.i64 (0 : Int))))))
                (T.ite (op == (4 : Int)) (T.ite (a != (0 : Int)) (T.ret (AV.int IntKind.i64 (1 : Int))) (T.ite (!b == (0 : Int)) (T.ret (AV.int IntKind.i64 (1 : Int))) (T.ret (AV.int IntKind.i64 (0 : Int))))) (T.ite (!b == (0 : Int)) (T.ret (AV.int IntKind.i64 (1 : Int))) (T.ret (AV.int IntKind.i64 (0 : Int))))))
              (T.ite (op == (5 : Int)) (T.ite (decide (a < (1 : Int))) (T.ret (AV.int IntKind.i64 (1 : Int))) (T.ite (op == (4 : Int)) (T.ite (a != (0 : Int)) (T.ret (AV.int IntKind.i64 (1 : Int))) (T.ret (AV.int IntKind.i64 (1 : Int)))) (T.ret (AV.int IntKind.i64 (1 : Int)))))
                (T.ite (op == (4 : Int)) (T.ite (a != (0 : Int)) (T.ret (AV.int IntKind.i64 (1 : Int))) (T.ret (AV.int IntKind.i64 (1 : Int)))) (T.ret (AV.int IntKind.i64 (1 : Int))))))
            (T.ite (op == (5 : Int)) (T.ite (decide (a < (1 : Int))) (T.ret (AV.int IntKind.i64 (1 : Int))) (T.ite (op == (4 : Int)) (T.ite (a != (0 : Int)) (T.ret (AV.int IntKind.i64 (1 : Int))) (T.ret (AV.int IntKind.i64 (1 : Int)))) (T.ret (AV.int IntKind.i64 (1 : Int)))))
              (T.ite (op == (4 : Int)) (T.ite (a != (0 : Int)) (T.ret (AV.int IntKind.i64 (1 : Int))) (T.ret (AV.int IntKind.i64 (1 : Int)))) (T.ret (AV.int IntKind.i64 (1 : Int))))))
          (T.ite (k == (3 : Int))
            (T.ite (op == (1 : Int))
              (T.ite (b == (0 : Int)) (T.ret (AV.int IntKind.i64 (0 : Int)))
                (T.ite (op == (2 : Int)) (T.ite (decide (a > (0 : Int))) (T.ite (decide (b ≥ (0 : Int))) (T.ite (!decide (b < a)) (T.ret (AV.int IntKind.i64 (1 : Int))) (T.ret (AV.int IntKind.i64 (0 : Int)))) (T.ret (AV.int IntKind.i64 (1 : Int)))) (T.ret (AV.int IntKind.i64 (1 : Int))))
                  (T.ite (op == (3 : Int)) (T.ite (decide (a > (0 : Int))) (T.ite (decide (b ≥ (0 : Int))) (T.ite (!decide (b < a)) (T.ret (AV.int IntKind.i64 (1 : Int))) (T.ret (AV.int IntKind.i64 (0 : Int)))) (T.ret (AV.int IntKind.i64 (1 : Int)))) (T.ret (AV.int IntKind.i64 (1 : Int)))) (T.ret (AV.int IntKind.i64 (1 : Int))))))
              (T.ite (op == (2 : Int)) (T.ite (decide (a > (0 : Int))) (T.ite (decide (b ≥ (0 : Int))) (T.ite (!decide (b < a)) (T.ret (AV.int IntKind.i64 (1 : Int))) (T.ret (AV.int IntKind.i64 (0 : Int)))) (T.ret (AV.int IntKind.i64 (1 : Int)))) (T.ret (AV.int IntKind.i64 (1 : Int))))
                (T.ite (op == (3 : Int)) (T.ite (decide (a > (0 : Int))) (T.ite (decide (b ≥ (0 : Int))) (T.ite (!decide (b < a)) (T.ret (AV.int IntKind.i64 (1 : Int))) (T.ret (AV.int IntKind.i64 (0 : Int)))) (T.ret (AV.int IntKind.i64 (1 : Int)))) (T.ret (AV.int IntKind.i64 (1 : Int)))) (T.ret (AV.int IntKind.i64 (1 : Int))))))
            (T.ite (k == (4 : Int)) (T.ite (op == (0 : Int)) (T.ite (decide (a ≥ (0 : Int))) (T.ite (!decide (a ≤ (4 : Int))) (T.ret (AV.int IntKind.i64 (1 : Int))) (T.ret (AV.int IntKind.i64 (0 : Int)))) (T.ret (AV.int IntKind.i64 (1 : Int)))) (T.ret (AV.int IntKind.i64 (1 : Int))))
              (T.ite (k == (5 : Int)) (T.ite (decide (op ≥ (1 : Int))) (T.ite (decide (op ≤ (4 : Int))) (T.ite (a == (0 : Int)) (T.ite (!b == (0 : Int)) (T.ret (AV.int IntKind.i64 (1 : Int))) (T.ret (AV.int IntKind.i64 (0 : Int)))) (T.ret (AV.int IntKind.i64 (1 : Int)))) (T.ret (AV.int IntKind.i64 (1 : Int)))) (T.ret (AV.int IntKind.i64 (1 : Int))))
                (T.ite (k == (6 : Int))
                  (T.ite (decide (op ≥ (1 : Int))) (T.ite (decide (op ≤ (4 : Int))) (T.ite (decide (a ≥ (1 : Int))) (T.ite (decide (a ≤ (16 : Int))) (T.ite (!b == (0 : Int)) (T.ret (AV.int IntKind.i64 (1 : Int))) (T.ret (AV.int IntKind.i64 (0 : Int)))) (T.ret (AV.int IntKind.i64 (1 : Int)))) (T.ret (AV.int IntKind.i64 (1 : Int)))) (T.ret (AV.int IntKind.i64 (1 : Int))))
                    (T.ret (AV.int IntKind.i64 (1 : Int))))
                  (T.ret (AV.int IntKind.i64 (1 : Int)))))))))) := by
  kernel_rfl

theorem va2 {k op a b : Int} (h : k = 2) : vaP k op a b ↔ b = 0 ∧ 1 ≤ op ∧ op ≤ 7 ∧ (op = 5 → 1 ≤ a) ∧ (op = 4 → a = 0) := by subst h; unfold vaP vmP; omega
theorem va3 {k op a b : Int} (h : k = 3) : vaP k op a b ↔ (op = 1 ∧ b = 0 ∨ (op = 2 ∨ op = 3) ∧ 0 ≤ b ∧ b < a) := by subst h; unfold vaP vmP; omega
theorem va4 {k op a b : Int} (h : k = 4) : vaP k op a b ↔ op = 0 ∧ 0 ≤ a ∧ a ≤ 4 := by subst h; unfold vaP vmP; omega
theorem va5 {k op a b : Int} (h : k = 5) : vaP k op a b ↔ 1 ≤ op ∧ op ≤ 4 ∧ a = 0 ∧ b = 0 := by subst h; unfold vaP vmP; omega
theorem va6 {k op a b : Int} (h : k = 6) : vaP k op a b ↔ 1 ≤ op ∧ op ≤ 4 ∧ 1 ≤ a ∧ a ≤ 16 ∧ b = 0 := by subst h; unfold vaP vmP; omega
theorem va0 {k op a b : Int} (h2 : k ≠ 2) (h3 : k ≠ 3) (h4 : k ≠ 4) (h5 : k ≠ 5) (h6 : k ≠ 6) : vaP k op a b ↔ op = 0 ∧ a = 0 ∧ b = 0 := by unfold vaP vmP; omega

set_option maxHeartbeats 2000000 in
theorem rc_ok : SummOK Try.prog 11 (.pure fun args _ => chS args) := by
  refine val_fn (E := leafE Try.f11.ntmps) (c := codeOf Try.f11) (fun args w => Try.call11 args w) Try.func11 rfl (EnvOK.nil) (noLoops (by kernel_rfl)) rfl rfl ?_
  intro args Q hq
  unfold chS at hq ⊢
  split at hq
  · rename_i k op a b
    refine ⟨rfl, _, rfl, fun Q h => h, rfl, ?_⟩
    rw [show AV.agg [.int .i64 op, .int .i64 a, .int .i64 b] = fnV op a b from rfl, rc_fn]
    repeat' first | refine T.hiteP (fun _ => ?_) (fun _ => ?_) | refine T.hiteE (fun _ => ?_) (fun _ => ?_) | refine T.hiteN (fun _ => ?_) (fun _ => ?_) | refine T.hiteFP (fun _ => ?_) (fun _ => ?_) | refine T.hiteFE (fun _ => ?_) (fun _ => ?_) | refine T.hiteF (fun _ => ?_) (fun _ => ?_) | refine T.hite (fun _ => ?_) (fun _ => ?_) | refine T.hneed rfl ?_ | refine T.hneed IntRow.rows ?_ | refine T.hneed trivial ?_ | refine T.hchk ?_ ?_ | refine T.hall (fun _ => ?_) | refine T.hasm (fun _ => ?_)
    all_goals (try refine T.hret ?_)
    all_goals refine Alike_of_eq ?_
    all_goals first
      | exact (chV_kind (by omega)).symm
      | exact (chV_ok (by omega) ((va2 (by assumption)).2 (by omega))).symm
      | exact (chV_arg (by omega) (fun h => by have := (va2 (by assumption)).1 h; omega)).symm
      | exact (chV_ok (by omega) ((va3 (by assumption)).2 (by omega))).symm
      | exact (chV_arg (by omega) (fun h => by have := (va3 (by assumption)).1 h; omega)).symm
      | exact (chV_ok (by omega) ((va4 (by assumption)).2 (by omega))).symm
      | exact (chV_arg (by omega) (fun h => by have := (va4 (by assumption)).1 h; omega)).symm
      | exact (chV_ok (by omega) ((va5 (by assumption)).2 (by omega))).symm
      | exact (chV_arg (by omega) (fun h => by have := (va5 (by assumption)).1 h; omega)).symm
      | exact (chV_ok (by omega) ((va6 (by assumption)).2 (by omega))).symm
      | exact (chV_arg (by omega) (fun h => by have := (va6 (by assumption)).1 h; omega)).symm
      | exact (chV_ok (by omega) ((va0 (by assumption) (by assumption) (by assumption) (by assumption) (by assumption)).2 (by omega))).symm
      | exact (chV_arg (by omega) (fun h => by have := (va0 (by assumption) (by assumption) (by assumption) (by assumption) (by assumption)).1 h; omega)).symm
  · exact hq.elim

end Go.Proofs.Ytbnijmoiaegopaa
