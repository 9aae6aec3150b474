/-
  Layer 10: works; Checks, Maps.
-/
import Derived.Test.YtbnijmoiaegopaaHB
import Derived.Test.YtbnijmoiaegopaaHSameInts
import Derived.Test.YtbnijmoiaegopaaHPick
namespace Go.Proofs.Ytbnijmoiaegopaa
open Go.Ox
set_option maxRecDepth 100000
set_option linter.unusedVariables false
set_option linter.unusedSimpArgs false

noncomputable def alE (nt : Nat) : Env := { nt := nt, n0 := 0, loop := fun _ _ => .fail, fns := [(10, .pure fun args _ => chS args), (11, .pure fun args _ => chS args),
  (13, .pure fun args _ => maS args), (14, .pure fun args _ => rmS args), (15, .pure fun args _ => keS args), (16, .pure fun args _ => rkS args),
  (20, .pure fun args _ => foS args), (21, .pure fun args _ => foS args), (22, .pure fun args _ => wiS args), (23, .pure fun args _ => wiS args),
  (18, .eff fun args m => lift [] m [] (fanS args)), (19, .eff fun args m => lift [] m [] (fanS args)), (17, .pure sameS)] }

theorem alE_ok (nt : Nat) : EnvOK Try.prog (alE nt).fns :=
  EnvOK.cons ch_ok (EnvOK.cons rc_ok (EnvOK.cons ma_ok (EnvOK.cons rm_ok (EnvOK.cons ke_ok (EnvOK.cons rk_ok (EnvOK.cons fo_ok (EnvOK.cons rf_ok (EnvOK.cons wi_ok (EnvOK.cons rw_ok (EnvOK.cons fa_ok (EnvOK.cons rfan_ok (EnvOK.cons same_ok EnvOK.nil))))))))))))

theorem wo_fn : vfn Try.prog (alE Try.f12.ntmps) Try.f12 (codeOf Try.f12) [] = 
  T.ite true
    (T.ite true
      (T.ite true
        (T.chk true
          (T.chk true
            (T.ite true
              (T.all fun c =>
                T.asm (decide ((3 : Nat) ≤ c))
                  (T.need (IntRow IntKind.i64 (Blk.mk true [] (1 : Nat) c (fun j => [AV.int IntKind.i64 (if j < (3 : Nat) then fanV (1 : Int) (10 : Int) j else (0 : Int))]) []))
                    (T.need (IntRow IntKind.i64 (Blk.mk true [] (1 : Nat) (3 : Nat) (fun i => [AV.int IntKind.i64 (List.getD [(1 : Int), (11 : Int), (21 : Int)] i (0 : Int))]) []))
                      (T.chk (decide ((3 : Nat) ≤ c))
                        (T.chk true
                          (T.chk (decide ((3 : Nat) ≤ (4611686018427387904 : Nat)))
                            (T.ite (decide ((3 : Nat) = (3 : Nat)) && eqN (fun i => if (0 : Nat) + i < (3 : Nat) then fanV (1 : Int) (10 : Int) ((0 : Nat) + i) else (0 : Int)) (fun i => List.getD [(1 : Int), (11 : Int), (21 : Int)] ((0 : Nat) + i) (0 : Int)) (0 : Nat) (3 : Nat))
                              (T.ite true (T.ite true (T.ite true (T.ite true (T.ite true (T.ite true (T.ret (AV.bool true)) (T.ret AV.ff)) (T.ret AV.ff)) (T.ret AV.ff)) (T.ret AV.ff)) (T.ret AV.ff)) (T.ret AV.ff)) (T.ret AV.ff))))))))
              (T.need True
                (T.need (IntRow IntKind.i64 (Blk.mk true [] (1 : Nat) (3 : Nat) (fun i => [AV.int IntKind.i64 (List.getD [(1 : Int), (11 : Int), (21 : Int)] i (0 : Int))]) []))
                  (T.chk true (T.chk true (T.chk true (T.ite false (T.ite true (T.ite true (T.ite true (T.ite true (T.ite true (T.ite true (T.ret (AV.bool true)) (T.ret AV.ff)) (T.ret AV.ff)) (T.ret AV.ff)) (T.ret AV.ff)) (T.ret AV.ff)) (T.ret AV.ff)) (T.ret AV.ff))))))))))
        (T.ret AV.ff))
      (T.ret AV.ff))
    (T.ret AV.ff) := by
  kernel_rfl

def woS : List AV → T AV
  | [] => .ret (.bool true)
  | _ => .fail

theorem wo_ok : SummOK Try.prog 12 (.pure fun args _ => woS args) := by
  refine val_fn (E := alE Try.f12.ntmps) (c := codeOf Try.f12) (fun args w => Try.call12 args w) Try.func12 rfl (alE_ok _) (noLoops (by kernel_rfl)) rfl rfl ?_
  intro args Q hq
  unfold woS at hq ⊢
  split at hq
  · refine ⟨rfl, _, rfl, fun Q h => h, rfl, ?_⟩
    rw [wo_fn]
    refine T.hite (fun _ => T.hite (fun _ => T.hite (fun _ => T.hchk rfl (T.hchk rfl (T.hite (fun _ => T.hall fun c => T.hasm fun hc => ?_) (fun h => by cases h)))) (fun h => by cases h)) (fun h => by cases h)) (fun h => by cases h)
    refine T.hneed IntRow.rows (T.hneed IntRow.rows (T.hchk hc (T.hchk rfl (T.hchk rfl (T.hite (fun _ => ?_) (fun h => absurd (h.symm.trans (show _ = true by kernel_rfl)) (by simp)))))))
    simp only [T.holds, Bool.true_eq_false, false_implies, true_implies, and_true]
    exact Alike_refl _
  · exact hq.elim

noncomputable def laE (nt : Nat) : Env := { alE nt with fns := (12, .pure fun args _ => woS args) :: (alE nt).fns }

theorem laE_ok (nt : Nat) : EnvOK Try.prog (laE nt).fns := EnvOK.cons wo_ok (alE_ok nt)

theorem cc_fn (k op a b : Int) : afn Try.prog (laE Try.f3.ntmps) Try.f3 (codeOf Try.f3) [.int .i64 k, fnV op a b] [] = 
  T.ite (chV k op a b == chV k op a b) (T.ret (AV.bool true, [some (Blk.mk true [AV.int IntKind.i64 op, AV.int IntKind.i64 a, AV.int IntKind.i64 b] (0 : Nat) (0 : Nat) (fun x => []) [])])) (T.ret (AV.ff, [some (Blk.mk true [AV.int IntKind.i64 op, AV.int IntKind.i64 a, AV.int IntKind.i64 b] (0 : Nat) (0 : Nat) (fun x => []) [])])) := by
  kernel_rfl

theorem cd_fn (k op a b x v acc n : Int) : afn Try.prog (laE Try.f4.ntmps) Try.f4 (codeOf Try.f4) [.int .i64 k, fnV op a b, .agg [.int .i64 x, .int .i64 v], .agg [.int .i64 acc, .int .i64 n]] [] = 
  T.ite (chV k op a b != (0 : Int)) (T.ret (AV.bool true, [some (Blk.mk true [AV.int IntKind.i64 op, AV.int IntKind.i64 a, AV.int IntKind.i64 b] (0 : Nat) (0 : Nat) (fun x => []) []), some (Blk.mk true [AV.int IntKind.i64 x, AV.int IntKind.i64 v] (0 : Nat) (0 : Nat) (fun x => []) []), some (Blk.mk true [AV.int IntKind.i64 acc, AV.int IntKind.i64 n] (0 : Nat) (0 : Nat) (fun x => []) [])]))
    (T.ite (decide (n < (0 : Int))) (T.ret (AV.bool true, [some (Blk.mk true [AV.int IntKind.i64 op, AV.int IntKind.i64 a, AV.int IntKind.i64 b] (0 : Nat) (0 : Nat) (fun x => []) []), some (Blk.mk true [AV.int IntKind.i64 x, AV.int IntKind.i64 v] (0 : Nat) (0 : Nat) (fun x => []) []), some (Blk.mk true [AV.int IntKind.i64 acc, AV.int IntKind.i64 n] (0 : Nat) (0 : Nat) (fun x => []) [])]))
      (T.ite (k == (2 : Int))
        (T.chk (decide ((1 : Int) ≤ op ∧ op ≤ (7 : Int) ∧ (op = (5 : Int) → (1 : Int) ≤ a)))
          (T.ite (maV op a v == maV op a v) (T.ret (AV.bool true, [some (Blk.mk true [AV.int IntKind.i64 op, AV.int IntKind.i64 a, AV.int IntKind.i64 b] (0 : Nat) (0 : Nat) (fun x => []) []), some (Blk.mk true [AV.int IntKind.i64 x, AV.int IntKind.i64 v] (0 : Nat) (0 : Nat) (fun x => []) []), some (Blk.mk true [AV.int IntKind.i64 acc, AV.int IntKind.i64 n] (0 : Nat) (0 : Nat) (fun x => []) [])]))
            (T.ret (AV.ff, [some (Blk.mk true [AV.int IntKind.i64 op, AV.int IntKind.i64 a, AV.int IntKind.i64 b] (0 : Nat) (0 : Nat) (fun x => []) []), some (Blk.mk true [AV.int IntKind.i64 x, AV.int IntKind.i64 v] (0 : Nat) (0 : Nat) (fun x => []) []), some (Blk.mk true [AV.int IntKind.i64 acc, AV.int IntKind.i64 n] (0 : Nat) (0 : Nat) (fun x => []) [])]))))
        (T.ite (k == (3 : Int))
          (T.chk (decide (op = (1 : Int) ∨ (op = (2 : Int) ∨ op = (3 : Int)) ∧ (1 : Int) ≤ a))
            (T.ite (keV op a b x v == keV op a b x v)
              (T.ret (AV.bool true, [some (Blk.mk true [AV.int IntKind.i64 op, AV.int IntKind.i64 a, AV.int IntKind.i64 b] (0 : Nat) (0 : Nat) (fun x => []) []), some (Blk.mk true [AV.int IntKind.i64 x, AV.int IntKind.i64 v] (0 : Nat) (0 : Nat) (fun x => []) []), some (Blk.mk true [AV.int IntKind.i64 acc, AV.int IntKind.i64 n] (0 : Nat) (0 : Nat) (fun x => []) [])]))
              (T.ret (AV.ff, [some (Blk.mk true [AV.int IntKind.i64 op, AV.int IntKind.i64 a, AV.int IntKind.i64 b] (0 : Nat) (0 : Nat) (fun x => []) []), some (Blk.mk true [AV.int IntKind.i64 x, AV.int IntKind.i64 v] (0 : Nat) (0 : Nat) (fun x => []) []), some (Blk.mk true [AV.int IntKind.i64 acc, AV.int IntKind.i64 n] (0 : Nat) (0 : Nat) (fun x => []) [])]))))
          (T.ite (k == (4 : Int))
            (T.chk (decide ((0 : Int) ≤ a))
              (T.chk (decide (a ≤ (4 : Int)))
                (T.ite (decide ((0 : Int) < a))
                  (T.all fun c =>
                    T.asm (decide (Int.toNat a ≤ c))
                      (T.need (AV.int IntKind.i64 v = AV.int IntKind.i64 v)
                        (T.need (AV.agg [AV.int IntKind.i64 op, AV.int IntKind.i64 a, AV.int IntKind.i64 b] = AV.agg [AV.int IntKind.i64 op, AV.int IntKind.i64 a, AV.int IntKind.i64 b])
                          (T.chk (decide ((0 : Int) ≤ a))
                            (T.chk (decide (a ≤ (4 : Int)))
                              (T.ite (decide ((0 : Int) < a))
                                (T.all fun c_1 =>
                                  T.asm (decide (Int.toNat a ≤ c_1))
                                    (T.need (AV.int IntKind.i64 v = AV.int IntKind.i64 v)
                                      (T.need (AV.agg [AV.int IntKind.i64 op, AV.int IntKind.i64 a, AV.int IntKind.i64 b] = AV.agg [AV.int IntKind.i64 op, AV.int IntKind.i64 a, AV.int IntKind.i64 b])
                                        (T.need (IntRow IntKind.i64 (Blk.mk true [] (1 : Nat) c (fun j => [AV.int IntKind.i64 (if j < Int.toNat a then fanV v b j else (0 : Int))]) []))
                                          (T.need (IntRow IntKind.i64 (Blk.mk true [] (1 : Nat) c_1 (fun j => [AV.int IntKind.i64 (if j < Int.toNat a then fanV v b j else (0 : Int))]) []))
                                            (T.chk (decide ((0 : Nat) + Int.toNat a ≤ c))
                                              (T.chk (decide ((0 : Nat) + Int.toNat a ≤ c_1))
                                                (T.chk (decide (Int.toNat a ≤ (4611686018427387904 : Nat)))
                                                  (T.ite (decide (Int.toNat a = Int.toNat a) && eqN (fun i => if (0 : Nat) + i < Int.toNat a then fanV v b ((0 : Nat) + i) else (0 : Int)) (fun i => if (0 : Nat) + i < Int.toNat a then fanV v b ((0 : Nat) + i) else (0 : Int)) (0 : Nat) (Int.toNat a))
                                                    (T.need (IntRow IntKind.i64 (Blk.mk true [] (1 : Nat) c (fun j => [AV.int IntKind.i64 (if j < Int.toNat a then fanV v b j else (0 : Int))]) []))
                                                      (T.need (IntRow IntKind.i64 (Blk.mk true [] (1 : Nat) c_1 (fun j => [AV.int IntKind.i64 (if j < Int.toNat a then fanV v b j else (0 : Int))]) []))
                                                        (T.chk (decide ((0 : Nat) + Int.toNat a ≤ c))
                                                          (T.chk (decide ((0 : Nat) + Int.toNat a ≤ c_1))
                                                            (T.chk (decide (Int.toNat a ≤ (4611686018427387904 : Nat)))
                                                              (T.need
                                                                (AV.bool (decide (Int.toNat a = Int.toNat a) && eqN (fun i => if (0 : Nat) + i < Int.toNat a then fanV v b ((0 : Nat) + i) else (0 : Int)) (fun i => if (0 : Nat) + i < Int.toNat a then fanV v b ((0 : Nat) + i) else (0 : Int)) (0 : Nat) (Int.toNat a)) =
                                                                  AV.bool (decide (Int.toNat a = Int.toNat a) && eqN (fun i => if (0 : Nat) + i < Int.toNat a then fanV v b ((0 : Nat) + i) else (0 : Int)) (fun i => if (0 : Nat) + i < Int.toNat a then fanV v b ((0 : Nat) + i) else (0 : Int)) (0 : Nat) (Int.toNat a)))
                                                                (T.need (AV.int IntKind.i64 v = AV.int IntKind.i64 v)
                                                                  (T.need (AV.ptr (1 : Nat) (1 : Nat) (0 : Nat) (0 : Nat) = AV.ptr (1 : Nat) (1 : Nat) (0 : Nat) (0 : Nat))
                                                                    (T.need (AV.agg [AV.int IntKind.i64 op, AV.int IntKind.i64 a, AV.int IntKind.i64 b] = AV.agg [AV.int IntKind.i64 op, AV.int IntKind.i64 a, AV.int IntKind.i64 b])
                                                                      (T.need (AV.int IntKind.i64 v = AV.int IntKind.i64 v)
                                                                        (T.need (AV.ptr (1 : Nat) (1 : Nat) (0 : Nat) (0 : Nat) = AV.ptr (1 : Nat) (1 : Nat) (0 : Nat) (0 : Nat))
                                                                          (T.need (AV.agg [AV.int IntKind.i64 op, AV.int IntKind.i64 a, AV.int IntKind.i64 b] = AV.agg [AV.int IntKind.i64 op, AV.int IntKind.i64 a, AV.int IntKind.i64 b])
                                                                            (T.ret
                                                                              (AV.bool true,
                                                                                [some (Blk.mk true [AV.int IntKind.i64 op, AV.int IntKind.i64 a, AV.int IntKind.i64 b] (0 : Nat) (0 : Nat) (fun x => []) []), some (Blk.mk true [AV.int IntKind.i64 x, AV.int IntKind.i64 v] (0 : Nat) (0 : Nat) (fun x => []) []),
                                                                                  some (Blk.mk true [AV.int IntKind.i64 acc, AV.int IntKind.i64 n] (0 : Nat) (0 : Nat) (fun x => []) []), some (Blk.mk true [] (1 : Nat) c (fun j => [AV.int IntKind.i64 (if j < Int.toNat a then fanV v b j else (0 : Int))]) []),
                                                                                  some (Blk.mk true [] (1 : Nat) c_1 (fun j => [AV.int IntKind.i64 (if j < Int.toNat a then fanV v b j else (0 : Int))]) [])]))))))))))))))
                                                    (T.need (IntRow IntKind.i64 (Blk.mk true [] (1 : Nat) c (fun j => [AV.int IntKind.i64 (if j < Int.toNat a then fanV v b j else (0 : Int))]) []))
                                                      (T.need (IntRow IntKind.i64 (Blk.mk true [] (1 : Nat) c_1 (fun j => [AV.int IntKind.i64 (if j < Int.toNat a then fanV v b j else (0 : Int))]) []))
                                                        (T.chk (decide ((0 : Nat) + Int.toNat a ≤ c))
                                                          (T.chk (decide ((0 : Nat) + Int.toNat a ≤ c_1))
                                                            (T.chk (decide (Int.toNat a ≤ (4611686018427387904 : Nat)))
                                                              (T.need
                                                                (AV.bool (decide (Int.toNat a = Int.toNat a) && eqN (fun i => if (0 : Nat) + i < Int.toNat a then fanV v b ((0 : Nat) + i) else (0 : Int)) (fun i => if (0 : Nat) + i < Int.toNat a then fanV v b ((0 : Nat) + i) else (0 : Int)) (0 : Nat) (Int.toNat a)) =
                                                                  AV.bool (decide (Int.toNat a = Int.toNat a) && eqN (fun i => if (0 : Nat) + i < Int.toNat a then fanV v b ((0 : Nat) + i) else (0 : Int)) (fun i => if (0 : Nat) + i < Int.toNat a then fanV v b ((0 : Nat) + i) else (0 : Int)) (0 : Nat) (Int.toNat a)))
                                                                (T.need (AV.int IntKind.i64 v = AV.int IntKind.i64 v)
                                                                  (T.need (AV.ptr (1 : Nat) (1 : Nat) (0 : Nat) (0 : Nat) = AV.ptr (1 : Nat) (1 : Nat) (0 : Nat) (0 : Nat))
                                                                    (T.need (AV.agg [AV.int IntKind.i64 op, AV.int IntKind.i64 a, AV.int IntKind.i64 b] = AV.agg [AV.int IntKind.i64 op, AV.int IntKind.i64 a, AV.int IntKind.i64 b])
                                                                      (T.need (AV.int IntKind.i64 v = AV.int IntKind.i64 v)
                                                                        (T.need (AV.ptr (1 : Nat) (1 : Nat) (0 : Nat) (0 : Nat) = AV.ptr (1 : Nat) (1 : Nat) (0 : Nat) (0 : Nat))
                                                                          (T.need (AV.agg [AV.int IntKind.i64 op, AV.int IntKind.i64 a, AV.int IntKind.i64 b] = AV.agg [AV.int IntKind.i64 op, AV.int IntKind.i64 a, AV.int IntKind.i64 b])
                                                                            (T.ret
                                                                              (AV.ff,
                                                                                [some (Blk.mk true [AV.int IntKind.i64 op, AV.int IntKind.i64 a, AV.int IntKind.i64 b] (0 : Nat) (0 : Nat) (fun x => []) []), some (Blk.mk true [AV.int IntKind.i64 x, AV.int IntKind.i64 v] (0 : Nat) (0 : Nat) (fun x => []) []),
                                                                                  some (Blk.mk true [AV.int IntKind.i64 acc, AV.int IntKind.i64 n] (0 : Nat) (0 : Nat) (fun x => []) []), some (Blk.mk true [] (1 : Nat) c (fun j => [AV.int IntKind.i64 (if j < Int.toNat a then fanV v b j else (0 : Int))]) []),
                                                                                  some (Blk.mk true [] (1 : Nat) c_1 (fun j => [AV.int IntKind.i64 (if j < Int.toNat a then fanV v b j else (0 : Int))]) [])])))))))))))))))))))))))
                                (T.need (AV.int IntKind.i64 v = AV.int IntKind.i64 v)
                                  (T.need (AV.agg [AV.int IntKind.i64 op, AV.int IntKind.i64 a, AV.int IntKind.i64 b] = AV.agg [AV.int IntKind.i64 op, AV.int IntKind.i64 a, AV.int IntKind.i64 b])
                                    (T.need (IntRow IntKind.i64 (Blk.mk true [] (1 : Nat) c (fun j => [AV.int IntKind.i64 (if j < Int.toNat a then fanV v b j else (0 : Int))]) []))
                                      (T.need True
                                        (T.chk (decide ((0 : Nat) + Int.toNat a ≤ c))
                                          (T.chk true
                                            (T.chk (decide (Int.toNat a ≤ (4611686018427387904 : Nat)))
                                              (T.ite (decide (Int.toNat a = (0 : Nat)) && eqN (fun i => if (0 : Nat) + i < Int.toNat a then fanV v b ((0 : Nat) + i) else (0 : Int)) (fun x => (0 : Int)) (0 : Nat) (Int.toNat a))
                                                (T.need (IntRow IntKind.i64 (Blk.mk true [] (1 : Nat) c (fun j => [AV.int IntKind.i64 (if j < Int.toNat a then fanV v b j else (0 : Int))]) []))
                                                  (T.need True
                                                    (T.chk (decide ((0 : Nat) + Int.toNat a ≤ c))
                                                      (T.chk true
                                                        (T.chk (decide (Int.toNat a ≤ (4611686018427387904 : Nat)))
                                                          (T.need
                                                            (AV.bool (decide (Int.toNat a = (0 : Nat)) && eqN (fun i => if (0 : Nat) + i < Int.toNat a then fanV v b ((0 : Nat) + i) else (0 : Int)) (fun x => (0 : Int)) (0 : Nat) (Int.toNat a)) =
                                                              AV.bool (decide (Int.toNat a = (0 : Nat)) && eqN (fun i => if (0 : Nat) + i < Int.toNat a then fanV v b ((0 : Nat) + i) else (0 : Int)) (fun x => (0 : Int)) (0 : Nat) (Int.toNat a)))
                                                            (T.need (AV.int IntKind.i64 v = AV.int IntKind.i64 v)
                                                              (T.need (AV.ptr (1 : Nat) (1 : Nat) (0 : Nat) (0 : Nat) = AV.ptr (1 : Nat) (1 : Nat) (0 : Nat) (0 : Nat))
                                                                (T.need (AV.agg [AV.int IntKind.i64 op, AV.int IntKind.i64 a, AV.int IntKind.i64 b] = AV.agg [AV.int IntKind.i64 op, AV.int IntKind.i64 a, AV.int IntKind.i64 b])
                                                                  (T.need (AV.int IntKind.i64 v = AV.int IntKind.i64 v)
                                                                    (T.need (AV.ptr (1 : Nat) (1 : Nat) (0 : Nat) (0 : Nat) = AV.ptr (1 : Nat) (1 : Nat) (0 : Nat) (0 : Nat))
                                                                      (T.need (AV.agg [AV.int IntKind.i64 op, AV.int IntKind.i64 a, AV.int IntKind.i64 b] = AV.agg [AV.int IntKind.i64 op, AV.int IntKind.i64 a, AV.int IntKind.i64 b])
                                                                        (T.ret
                                                                          (AV.bool true,
                                                                            [some (Blk.mk true [AV.int IntKind.i64 op, AV.int IntKind.i64 a, AV.int IntKind.i64 b] (0 : Nat) (0 : Nat) (fun x => []) []), some (Blk.mk true [AV.int IntKind.i64 x, AV.int IntKind.i64 v] (0 : Nat) (0 : Nat) (fun x => []) []),
                                                                              some (Blk.mk true [AV.int IntKind.i64 acc, AV.int IntKind.i64 n] (0 : Nat) (0 : Nat) (fun x => []) []), some (Blk.mk true [] (1 : Nat) c (fun j => [AV.int IntKind.i64 (if j < Int.toNat a then fanV v b j else (0 : Int))]) [])]))))))))))))))
                                                (T.need (IntRow IntKind.i64 (Blk.mk true [] (1 : Nat) c (fun j => [AV.int IntKind.i64 (if j < Int.toNat a then fanV v b j else (0 : Int))]) []))
                                                  (T.need True
                                                    (T.chk (decide ((0 : Nat) + Int.toNat a ≤ c))
                                                      (T.chk true
                                                        (T.chk (decide (Int.toNat a ≤ (4611686018427387904 : Nat)))
                                                          (T.need
                                                            (AV.bool (decide (Int.toNat a = (0 : Nat)) && eqN (fun i => if (0 : Nat) + i < Int.toNat a then fanV v b ((0 : Nat) + i) else (0 : Int)) (fun x => (0 : Int)) (0 : Nat) (Int.toNat a)) =
                                                              AV.bool (decide (Int.toNat a = (0 : Nat)) && eqN (fun i => if (0 : Nat) + i < Int.toNat a then fanV v b ((0 : Nat) + i) else (0 : Int)) (fun x => (0 : Int)) (0 : Nat) (Int.toNat a)))
                                                            (T.need (AV.int IntKind.i64 v = AV.int IntKind.i64 v)
                                                              (T.need (AV.ptr (1 : Nat) (1 : Nat) (0 : Nat) (0 : Nat) = AV.ptr (1 : Nat) (1 : Nat) (0 : Nat) (0 : Nat))
                                                                (T.need (AV.agg [AV.int IntKind.i64 op, AV.int IntKind.i64 a, AV.int IntKind.i64 b] = AV.agg [AV.int IntKind.i64 op, AV.int IntKind.i64 a, AV.int IntKind.i64 b])
                                                                  (T.need (AV.int IntKind.i64 v = AV.int IntKind.i64 v)
                                                                    (T.need (AV.ptr (1 : Nat) (1 : Nat) (0 : Nat) (0 : Nat) = AV.ptr (1 : Nat) (1 : Nat) (0 : Nat) (0 : Nat))
                                                                      (T.need (AV.agg [AV.int IntKind.i64 op, AV.int IntKind.i64 a, AV.int IntKind.i64 b] = AV.agg [AV.int IntKind.i64 op, AV.int IntKind.i64 a, AV.int IntKind.i64 b])
                                                                        (T.ret
                                                                          (AV.ff,
                                                                            [some (Blk.mk true [AV.int IntKind.i64 op, AV.int IntKind.i64 a, AV.int IntKind.i64 b] (0 : Nat) (0 : Nat) (fun x => []) []), some (Blk.mk true [AV.int IntKind.i64 x, AV.int IntKind.i64 v] (0 : Nat) (0 : Nat) (fun x => []) []),
                                                                              some (Blk.mk true [AV.int IntKind.i64 acc, AV.int IntKind.i64 n] (0 : Nat) (0 : Nat) (fun x => []) []), some (Blk.mk true [] (1 : Nat) c (fun j => [AV.int IntKind.i64 (if j < Int.toNat a then fanV v b j else (0 : Int))]) [])]))))))))))))))))))))))))))))
                  (T.need (AV.int IntKind.i64 v = AV.int IntKind.i64 v)
                    (T.need (AV.agg [AV.int IntKind.i64 op, AV.int IntKind.i64 a, AV.int IntKind.i64 b] = AV.agg [AV.int IntKind.i64 op, AV.int IntKind.i64 a, AV.int IntKind.i64 b])
                      (T.chk (decide ((0 : Int) ≤ a))
                        (T.chk (decide (a ≤ (4 : Int)))
                          (T.ite (decide ((0 : Int) < a))
                            (T.all fun c =>
                              T.asm (decide (Int.toNat a ≤ c))
                                (T.need (AV.int IntKind.i64 v = AV.int IntKind.i64 v)
                                  (T.need (AV.agg [AV.int IntKind.i64 op, AV.int IntKind.i64 a, AV.int IntKind.i64 b] = AV.agg [AV.int IntKind.i64 op, AV.int IntKind.i64 a, AV.int IntKind.i64 b])
                                    (T.need True
                                      (T.need (IntRow IntKind.i64 (Blk.mk true [] (1 : Nat) c (fun j => [AV.int IntKind.i64 (if j < Int.toNat a then fanV v b j else (0 : Int))]) []))
                                        (T.chk true
                                          (T.chk (decide ((0 : Nat) + Int.toNat a ≤ c))
                                            (T.chk true
                                              (T.ite (decide ((0 : Nat) = Int.toNat a) && eqN (fun x => (0 : Int)) (fun i => if (0 : Nat) + i < Int.toNat a then fanV v b ((0 : Nat) + i) else (0 : Int)) (0 : Nat) (0 : Nat))
                                                (T.need True
                                                  (T.need (IntRow IntKind.i64 (Blk.mk true [] (1 : Nat) c (fun j => [AV.int IntKind.i64 (if j < Int.toNat a then fanV v b j else (0 : Int))]) []))
                                                    (T.chk true
                                                      (T.chk (decide ((0 : Nat) + Int.toNat a ≤ c))
                                                        (T.chk true
                                                          (T.need
                                                            (AV.bool (decide ((0 : Nat) = Int.toNat a) && eqN (fun x => (0 : Int)) (fun i => if (0 : Nat) + i < Int.toNat a then fanV v b ((0 : Nat) + i) else (0 : Int)) (0 : Nat) (0 : Nat)) =
                                                              AV.bool (decide ((0 : Nat) = Int.toNat a) && eqN (fun x => (0 : Int)) (fun i => if (0 : Nat) + i < Int.toNat a then fanV v b ((0 : Nat) + i) else (0 : Int)) (0 : Nat) (0 : Nat)))
                                                            (T.need (AV.int IntKind.i64 v = AV.int IntKind.i64 v)
                                                              (T.need (AV.ptr (1 : Nat) (1 : Nat) (0 : Nat) (0 : Nat) = AV.ptr (1 : Nat) (1 : Nat) (0 : Nat) (0 : Nat))
                                                                (T.need (AV.agg [AV.int IntKind.i64 op, AV.int IntKind.i64 a, AV.int IntKind.i64 b] = AV.agg [AV.int IntKind.i64 op, AV.int IntKind.i64 a, AV.int IntKind.i64 b])
                                                                  (T.need (AV.int IntKind.i64 v = AV.int IntKind.i64 v)
                                                                    (T.need (AV.ptr (1 : Nat) (1 : Nat) (0 : Nat) (0 : Nat) = AV.ptr (1 : Nat) (1 : Nat) (0 : Nat) (0 : Nat))
                                                                      (T.need (AV.agg [AV.int IntKind.i64 op, AV.int IntKind.i64 a, AV.int IntKind.i64 b] = AV.agg [AV.int IntKind.i64 op, AV.int IntKind.i64 a, AV.int IntKind.i64 b])
                                                                        (T.ret
                                                                          (AV.bool true,
                                                                            [some (Blk.mk true [AV.int IntKind.i64 op, AV.int IntKind.i64 a, AV.int IntKind.i64 b] (0 : Nat) (0 : Nat) (fun x => []) []), some (Blk.mk true [AV.int IntKind.i64 x, AV.int IntKind.i64 v] (0 : Nat) (0 : Nat) (fun x => []) []),
                                                                              some (Blk.mk true [AV.int IntKind.i64 acc, AV.int IntKind.i64 n] (0 : Nat) (0 : Nat) (fun x => []) []), some (Blk.mk true [] (1 : Nat) c (fun j => [AV.int IntKind.i64 (if j < Int.toNat a then fanV v b j else (0 : Int))]) [])]))))))))))))))
                                                (T.need True
                                                  (T.need (IntRow IntKind.i64 (Blk.mk true [] (1 : Nat) c (fun j => [AV.int IntKind.i64 (if j < Int.toNat a then fanV v b j else (0 : Int))]) []))
                                                    (T.chk true
                                                      (T.chk (decide ((0 : Nat) + Int.toNat a ≤ c))
                                                        (T.chk true
                                                          (T.need
                                                            (AV.bool (decide ((0 : Nat) = Int.toNat a) && eqN (fun x => (0 : Int)) (fun i => if (0 : Nat) + i < Int.toNat a then fanV v b ((0 : Nat) + i) else (0 : Int)) (0 : Nat) (0 : Nat)) =
                                                              AV.bool (decide ((0 : Nat) = Int.toNat a) && eqN (fun x => (0 : Int)) (fun i => if (0 : Nat) + i < Int.toNat a then fanV v b ((0 : Nat) + i) else (0 : Int)) (0 : Nat) (0 : Nat)))
                                                            (T.need (AV.int IntKind.i64 v = AV.int IntKind.i64 v)
                                                              (T.need (AV.ptr (1 : Nat) (1 : Nat) (0 : Nat) (0 : Nat) = AV.ptr (1 : Nat) (1 : Nat) (0 : Nat) (0 : Nat))
                                                                (T.need (AV.agg [AV.int IntKind.i64 op, AV.int IntKind.i64 a, AV.int IntKind.i64 b] = AV.agg [AV.int IntKind.i64 op, AV.int IntKind.i64 a, AV.int IntKind.i64 b])
                                                                  (T.need (AV.int IntKind.i64 v = AV.int IntKind.i64 v)
                                                                    (T.need (AV.ptr (1 : Nat) (1 : Nat) (0 : Nat) (0 : Nat) = AV.ptr (1 : Nat) (1 : Nat) (0 : Nat) (0 : Nat))
                                                                      (T.need (AV.agg [AV.int IntKind.i64 op, AV.int IntKind.i64 a, AV.int IntKind.i64 b] = AV.agg [AV.int IntKind.i64 op, AV.int IntKind.i64 a, AV.int IntKind.i64 b])
                                                                        (T.ret
                                                                          (AV.ff,
                                                                            [some (Blk.mk true [AV.int IntKind.i64 op, AV.int IntKind.i64 a, AV.int IntKind.i64 b] (0 : Nat) (0 : Nat) (fun x => []) []), some (Blk.mk true [AV.int IntKind.i64 x, AV.int IntKind.i64 v] (0 : Nat) (0 : Nat) (fun x => []) []),
                                                                              some (Blk.mk true [AV.int IntKind.i64 acc, AV.int IntKind.i64 n] (0 : Nat) (0 : Nat) (fun x => []) []), some (Blk.mk true [] (1 : Nat) c (fun j => [AV.int IntKind.i64 (if j < Int.toNat a then fanV v b j else (0 : Int))]) [])])))))))))))))))))))))))
                            (T.need (AV.int IntKind.i64 v = AV.int IntKind.i64 v)
                              (T.need (AV.agg [AV.int IntKind.i64 op, AV.int IntKind.i64 a, AV.int IntKind.i64 b] = AV.agg [AV.int IntKind.i64 op, AV.int IntKind.i64 a, AV.int IntKind.i64 b])
                                (T.need True
                                  (T.need True
                                    (T.chk true
                                      (T.chk true
                                        (T.chk true
                                          (T.ite true
                                            (T.need True
                                              (T.need True
                                                (T.chk true
                                                  (T.chk true
                                                    (T.chk true
                                                      (T.need (AV.bool true = AV.bool true)
                                                        (T.need (AV.int IntKind.i64 v = AV.int IntKind.i64 v)
                                                          (T.need (AV.ptr (1 : Nat) (1 : Nat) (0 : Nat) (0 : Nat) = AV.ptr (1 : Nat) (1 : Nat) (0 : Nat) (0 : Nat))
                                                            (T.need (AV.agg [AV.int IntKind.i64 op, AV.int IntKind.i64 a, AV.int IntKind.i64 b] = AV.agg [AV.int IntKind.i64 op, AV.int IntKind.i64 a, AV.int IntKind.i64 b])
                                                              (T.need (AV.int IntKind.i64 v = AV.int IntKind.i64 v)
                                                                (T.need (AV.ptr (1 : Nat) (1 : Nat) (0 : Nat) (0 : Nat) = AV.ptr (1 : Nat) (1 : Nat) (0 : Nat) (0 : Nat))
                                                                  (T.need (AV.agg [AV.int IntKind.i64 op, AV.int IntKind.i64 a, AV.int IntKind.i64 b] = AV.agg [AV.int IntKind.i64 op, AV.int IntKind.i64 a, AV.int IntKind.i64 b])
                                                                    (T.ret
                                                                      (AV.bool true,
                                                                        [some (Blk.mk true [AV.int IntKind.i64 op, AV.int IntKind.i64 a, AV.int IntKind.i64 b] (0 : Nat) (0 : Nat) (fun x => []) []), some (Blk.mk true [AV.int IntKind.i64 x, AV.int IntKind.i64 v] (0 : Nat) (0 : Nat) (fun x => []) []),
                                                                          some (Blk.mk true [AV.int IntKind.i64 acc, AV.int IntKind.i64 n] (0 : Nat) (0 : Nat) (fun x => []) [])]))))))))))))))
                                            (T.need True
                                              (T.need True
                                                (T.chk true
                                                  (T.chk true
                                                    (T.chk true
                                                      (T.need (AV.bool true = AV.bool true)
                                                        (T.need (AV.int IntKind.i64 v = AV.int IntKind.i64 v)
                                                          (T.need (AV.ptr (1 : Nat) (1 : Nat) (0 : Nat) (0 : Nat) = AV.ptr (1 : Nat) (1 : Nat) (0 : Nat) (0 : Nat))
                                                            (T.need (AV.agg [AV.int IntKind.i64 op, AV.int IntKind.i64 a, AV.int IntKind.i64 b] = AV.agg [AV.int IntKind.i64 op, AV.int IntKind.i64 a, AV.int IntKind.i64 b])
                                                              (T.need (AV.int IntKind.i64 v = AV.int IntKind.i64 v)
                                                                (T.need (AV.ptr (1 : Nat) (1 : Nat) (0 : Nat) (0 : Nat) = AV.ptr (1 : Nat) (1 : Nat) (0 : Nat) (0 : Nat))
                                                                  (T.need (AV.agg [AV.int IntKind.i64 op, AV.int IntKind.i64 a, AV.int IntKind.i64 b] = AV.agg [AV.int IntKind.i64 op, AV.int IntKind.i64 a, AV.int IntKind.i64 b])
                                                                    (T.ret
                                                                      (AV.ff,
                                                                        [some (Blk.mk true [AV.int IntKind.i64 op, AV.int IntKind.i64 a, AV.int IntKind.i64 b] (0 : Nat) (0 : Nat) (fun x => []) []), some (Blk.mk true [AV.int IntKind.i64 x, AV.int IntKind.i64 v] (0 : Nat) (0 : Nat) (fun x => []) []),
                                                                          some (Blk.mk true [AV.int IntKind.i64 acc, AV.int IntKind.i64 n] (0 : Nat) (0 : Nat) (fun x => []) [])]))))))))))))))))))))))))))))))
            (T.ite (k == (5 : Int))
              (T.ite (foV op acc n v == foV op acc n v && (IntKind.wrap IntKind.i64 (n + (1 : Int)) == IntKind.wrap IntKind.i64 (n + (1 : Int)) && true))
                (T.ret (AV.bool true, [some (Blk.mk true [AV.int IntKind.i64 op, AV.int IntKind.i64 a, AV.int IntKind.i64 b] (0 : Nat) (0 : Nat) (fun x => []) []), some (Blk.mk true [AV.int IntKind.i64 x, AV.int IntKind.i64 v] (0 : Nat) (0 : Nat) (fun x => []) []), some (Blk.mk true [AV.int IntKind.i64 acc, AV.int IntKind.i64 n] (0 : Nat) (0 : Nat) (fun x => []) [])]))
                (T.ret (AV.ff, [some (Blk.mk true [AV.int IntKind.i64 op, AV.int IntKind.i64 a, AV.int IntKind.i64 b] (0 : Nat) (0 : Nat) (fun x => []) []), some (Blk.mk true [AV.int IntKind.i64 x, AV.int IntKind.i64 v] (0 : Nat) (0 : Nat) (fun x => []) []), some (Blk.mk true [AV.int IntKind.i64 acc, AV.int IntKind.i64 n] (0 : Nat) (0 : Nat) (fun x => []) [])])))
              (T.ite (k == (6 : Int))
                (T.ite (((if wiP a n then (0 : Int) else foV op acc n v) == if wiP a n then (0 : Int) else foV op acc n v) && (((if wiP a n then (0 : Int) else IntKind.wrap IntKind.i64 (n + (1 : Int))) == if wiP a n then (0 : Int) else IntKind.wrap IntKind.i64 (n + (1 : Int))) && true))
                  (T.ite ((if wiP a n then foV op acc n v else (0 : Int)) == if wiP a n then foV op acc n v else (0 : Int))
                    (T.ite (decide (wiP a n) == decide (wiP a n))
                      (T.ret
                        (AV.bool true,
                          [some (Blk.mk true [AV.int IntKind.i64 op, AV.int IntKind.i64 a, AV.int IntKind.i64 b] (0 : Nat) (0 : Nat) (fun x => []) []), some (Blk.mk true [AV.int IntKind.i64 x, AV.int IntKind.i64 v] (0 : Nat) (0 : Nat) (fun x => []) []), some (Blk.mk true [AV.int IntKind.i64 acc, AV.int IntKind.i64 n] (0 : Nat) (0 : Nat) (fun x => []) []),
                            some (Blk.mk true [AV.int IntKind.i64 (if wiP a n then (0 : Int) else foV op acc n v), AV.int IntKind.i64 (if wiP a n then (0 : Int) else IntKind.wrap IntKind.i64 (n + (1 : Int)))] (0 : Nat) (0 : Nat) (fun a => []) []),
                            some (Blk.mk true [AV.int IntKind.i64 (if wiP a n then (0 : Int) else foV op acc n v), AV.int IntKind.i64 (if wiP a n then (0 : Int) else IntKind.wrap IntKind.i64 (n + (1 : Int)))] (0 : Nat) (0 : Nat) (fun a => []) [])]))
                      (T.ret
                        (AV.ff,
                          [some (Blk.mk true [AV.int IntKind.i64 op, AV.int IntKind.i64 a, AV.int IntKind.i64 b] (0 : Nat) (0 : Nat) (fun x => []) []), some (Blk.mk true [AV.int IntKind.i64 x, AV.int IntKind.i64 v] (0 : Nat) (0 : Nat) (fun x => []) []), some (Blk.mk true [AV.int IntKind.i64 acc, AV.int IntKind.i64 n] (0 : Nat) (0 : Nat) (fun x => []) []),
                            some (Blk.mk true [AV.int IntKind.i64 (if wiP a n then (0 : Int) else foV op acc n v), AV.int IntKind.i64 (if wiP a n then (0 : Int) else IntKind.wrap IntKind.i64 (n + (1 : Int)))] (0 : Nat) (0 : Nat) (fun a => []) []),
                            some (Blk.mk true [AV.int IntKind.i64 (if wiP a n then (0 : Int) else foV op acc n v), AV.int IntKind.i64 (if wiP a n then (0 : Int) else IntKind.wrap IntKind.i64 (n + (1 : Int)))] (0 : Nat) (0 : Nat) (fun a => []) [])])))
                    (T.ret
                      (AV.ff,
                        [some (Blk.mk true [AV.int IntKind.i64 op, AV.int IntKind.i64 a, AV.int IntKind.i64 b] (0 : Nat) (0 : Nat) (fun x => []) []), some (Blk.mk true [AV.int IntKind.i64 x, AV.int IntKind.i64 v] (0 : Nat) (0 : Nat) (fun x => []) []), some (Blk.mk true [AV.int IntKind.i64 acc, AV.int IntKind.i64 n] (0 : Nat) (0 : Nat) (fun x => []) []),
                          some (Blk.mk true [AV.int IntKind.i64 (if wiP a n then (0 : Int) else foV op acc n v), AV.int IntKind.i64 (if wiP a n then (0 : Int) else IntKind.wrap IntKind.i64 (n + (1 : Int)))] (0 : Nat) (0 : Nat) (fun a => []) []),
                          some (Blk.mk true [AV.int IntKind.i64 (if wiP a n then (0 : Int) else foV op acc n v), AV.int IntKind.i64 (if wiP a n then (0 : Int) else IntKind.wrap IntKind.i64 (n + (1 : Int)))] (0 : Nat) (0 : Nat) (fun a => []) [])])))
                  (T.ret
                    (AV.ff,
                      [some (Blk.mk true [AV.int IntKind.i64 op, AV.int IntKind.i64 a, AV.int IntKind.i64 b] (0 : Nat) (0 : Nat) (fun x => []) []), some (Blk.mk true [AV.int IntKind.i64 x, AV.int IntKind.i64 v] (0 : Nat) (0 : Nat) (fun x => []) []), some (Blk.mk true [AV.int IntKind.i64 acc, AV.int IntKind.i64 n] (0 : Nat) (0 : Nat) (fun x => []) []),
                        some (Blk.mk true [AV.int IntKind.i64 (if wiP a n then (0 : Int) else foV op acc n v), AV.int IntKind.i64 (if wiP a n then (0 : Int) else IntKind.wrap IntKind.i64 (n + (1 : Int)))] (0 : Nat) (0 : Nat) (fun a => []) []),
                        some (Blk.mk true [AV.int IntKind.i64 (if wiP a n then (0 : Int) else foV op acc n v), AV.int IntKind.i64 (if wiP a n then (0 : Int) else IntKind.wrap IntKind.i64 (n + (1 : Int)))] (0 : Nat) (0 : Nat) (fun a => []) [])])))
                (T.ret (AV.bool true, [some (Blk.mk true [AV.int IntKind.i64 op, AV.int IntKind.i64 a, AV.int IntKind.i64 b] (0 : Nat) (0 : Nat) (fun x => []) []), some (Blk.mk true [AV.int IntKind.i64 x, AV.int IntKind.i64 v] (0 : Nat) (0 : Nat) (fun x => []) []), some (Blk.mk true [AV.int IntKind.i64 acc, AV.int IntKind.i64 n] (0 : Nat) (0 : Nat) (fun x => []) [])])))))))) := by
  kernel_rfl

theorem cm_fn (a v : Int) : afn Try.prog (laE Try.f6.ntmps) Try.f6 (codeOf Try.f6) [.int .i64 a, .int .i64 v] [] = 
  T.ite (maV (1 : Int) (IntKind.wrap IntKind.i64 ((0 : Int) - a)) (maV (1 : Int) a v) != v) (T.ret (AV.ff, []))
    (T.ite (maV (3 : Int) a (maV (3 : Int) a v) != v) (T.ret (AV.ff, []))
      (T.ite (maV (4 : Int) (0 : Int) (maV (4 : Int) (0 : Int) v) != v) (T.ret (AV.ff, []))
        (T.ite (decide (maV (6 : Int) a v > maV (7 : Int) a v)) (T.ret (AV.ff, []))
          (T.ite (IntKind.wrap IntKind.i64 (maV (6 : Int) a v + maV (7 : Int) a v) != maV (1 : Int) a v) (T.ret (AV.ff, []))
            (T.ite (maV (6 : Int) a v != a)
              (T.ite (maV (6 : Int) a v != v) (T.ret (AV.ff, []))
                (T.ite (maV (2 : Int) a v != maV (2 : Int) v a) (T.ite (decide (a < (1 : Int))) (T.ret (AV.bool true, [])) (T.ret (AV.ff, [])))
                  (T.ite (decide (a < (1 : Int))) (T.ite (decide (a < (1 : Int))) (T.ret (AV.bool true, [])) (T.ret (AV.ff, [])))
                    (T.ite (decide (maV (5 : Int) a v ≥ (0 : Int)))
                      (T.ite (decide (maV (5 : Int) a v < a))
                        (T.chk (!a == (0 : Int))
                          (T.ite ((IntKind.wrap IntKind.i64 (IntKind.wrap IntKind.i64 (Int.tdiv v a) * a) == v) == (maV (5 : Int) a v == (0 : Int)))
                            (T.ite (maV (5 : Int) a (maV (5 : Int) a v) == maV (5 : Int) a v) (T.ite (decide (v < (0 : Int))) (T.ret (AV.bool true, [])) (T.chk (!a == (0 : Int)) (T.ite (maV (5 : Int) a v == Int.tmod v a) (T.ret (AV.bool true, [])) (T.ret (AV.ff, []))))) (T.ret (AV.ff, []))) (T.ret (AV.ff, []))))
                        (T.ret (AV.ff, [])))
                      (T.ret (AV.ff, []))))))
              (T.ite (maV (2 : Int) a v != maV (2 : Int) v a) (T.ite (decide (a < (1 : Int))) (T.ret (AV.bool true, [])) (T.ret (AV.ff, [])))
                (T.ite (decide (a < (1 : Int))) (T.ite (decide (a < (1 : Int))) (T.ret (AV.bool true, [])) (T.ret (AV.ff, [])))
                  (T.ite (decide (maV (5 : Int) a v ≥ (0 : Int)))
                    (T.ite (decide (maV (5 : Int) a v < a))
                      (T.chk (!a == (0 : Int))
                        (T.ite ((IntKind.wrap IntKind.i64 (IntKind.wrap IntKind.i64 (Int.tdiv v a) * a) == v) == (maV (5 : Int) a v == (0 : Int)))
                          (T.ite (maV (5 : Int) a (maV (5 : Int) a v) == maV (5 : Int) a v) (T.ite (decide (v < (0 : Int))) (T.ret (AV.bool true, [])) (T.chk (!a == (0 : Int)) (T.ite (maV (5 : Int) a v == Int.tmod v a) (T.ret (AV.bool true, [])) (T.ret (AV.ff, []))))) (T.ret (AV.ff, []))) (T.ret (AV.ff, []))))
                      (T.ret (AV.ff, [])))
                    (T.ret (AV.ff, [])))))))))) := by
  kernel_rfl

theorem cc_law : ∀ args m, ArgsAV [PK.one (CK.int IntKind.i64), PK.agg [CK.int IntKind.i64, CK.int IntKind.i64, CK.int IntKind.i64]] [] args m → Walks Try.prog Try.f3 (codeOf Try.f3) args m := by
  intro args m h
  obtain ⟨k, _, rfl, hk, h⟩ := args_int h
  obtain ⟨_, _, _, rfl, hc, h⟩ := args_agg h
  obtain ⟨op, _, rfl, hop, hc⟩ := cells_int hc
  obtain ⟨a, _, rfl, ha, hc⟩ := cells_int hc
  obtain ⟨b, _, rfl, hb, hc⟩ := cells_int hc
  obtain ⟨rfl, rfl⟩ := cells_nil hc
  obtain ⟨rfl, rfl⟩ := args_nil h
  refine ⟨laE Try.f3.ntmps, laE_ok _, noLoops (by kernel_rfl), rfl, rfl, ?_⟩
  rw [show AV.agg [.int .i64 op, .int .i64 a, .int .i64 b] = fnV op a b from rfl, cc_fn]
  exact T.hite (fun _ => rfl) (fun h => by simp at h)

theorem cd_law : ∀ args m, ArgsAV [PK.one (CK.int IntKind.i64), PK.agg [CK.int IntKind.i64, CK.int IntKind.i64, CK.int IntKind.i64], PK.agg [CK.int IntKind.i64, CK.int IntKind.i64], PK.agg [CK.int IntKind.i64, CK.int IntKind.i64]] [] args m →
    Walks Try.prog Try.f4 (codeOf Try.f4) args m := by
  intro args m h
  obtain ⟨k, _, rfl, hk, h⟩ := args_int h
  obtain ⟨_, _, _, rfl, hc, h⟩ := args_agg h
  obtain ⟨op, _, rfl, hop, hc⟩ := cells_int hc
  obtain ⟨a, _, rfl, ha, hc⟩ := cells_int hc
  obtain ⟨b, _, rfl, hb, hc⟩ := cells_int hc
  obtain ⟨rfl, rfl⟩ := cells_nil hc
  obtain ⟨_, _, _, rfl, hc, h⟩ := args_agg h
  obtain ⟨x, _, rfl, hx, hc⟩ := cells_int hc
  obtain ⟨v, _, rfl, hv, hc⟩ := cells_int hc
  obtain ⟨rfl, rfl⟩ := cells_nil hc
  obtain ⟨_, _, _, rfl, hc, h⟩ := args_agg h
  obtain ⟨acc, _, rfl, hac, hc⟩ := cells_int hc
  obtain ⟨n, _, rfl, hn, hc⟩ := cells_int hc
  obtain ⟨rfl, rfl⟩ := cells_nil hc
  obtain ⟨rfl, rfl⟩ := args_nil h
  refine ⟨laE Try.f4.ntmps, laE_ok _, noLoops (by kernel_rfl), rfl, rfl, ?_⟩
  rw [show AV.agg [.int .i64 op, .int .i64 a, .int .i64 b] = fnV op a b from rfl, cd_fn]
  refine T.hiteN (fun _ => rfl) (fun h0 => T.hiteP (fun _ => rfl) (fun hn0 => ?_))
  have hva : vaP k op a b ∧ 1 ≤ k := by
    unfold chV at h0
    split at h0
    · cases h0
    · split at h0
      · exact ⟨by assumption, by omega⟩
      · cases h0
  refine T.hiteE (fun e => ?_) (fun k2 => T.hiteE (fun e => ?_) (fun k3 => T.hiteE (fun e => ?_) (fun k4 => T.hiteE (fun e => ?_) (fun k5 => T.hiteE (fun e => ?_) (fun k6 => rfl)))))
  · have := (va2 e).1 hva.1
    exact T.hchkP (by omega) (T.hite (fun _ => rfl) (fun h => by simp at h))
  · have := (va3 e).1 hva.1
    exact T.hchkP (by omega) (T.hite (fun _ => rfl) (fun h => by simp at h))
  · have := (va4 e).1 hva.1
    repeat' first | refine T.hiteP (fun _ => ?_) (fun _ => ?_) | refine T.hiteE (fun _ => ?_) (fun _ => ?_) | refine T.hiteN (fun _ => ?_) (fun _ => ?_) | refine T.hiteFP (fun _ => ?_) (fun _ => ?_) | refine T.hiteFE (fun _ => ?_) (fun _ => ?_) | refine T.hiteF (fun _ => ?_) (fun _ => ?_) | refine T.hite (fun _ => ?_) (fun _ => ?_) | refine T.hneed rfl ?_ | refine T.hneed IntRow.rows ?_ | refine T.hneed trivial ?_ | refine T.hchk ?_ ?_ | refine T.hall (fun _ => ?_) | refine T.hasm (fun _ => ?_)
    all_goals (try refine T.hret ?_)
    all_goals first
      | rfl
      | (simp only [decide_eq_true_eq] at *; omega)
      | (exfalso; rename_i e0; rw [eqN_all (fun _ _ => rfl)] at e0; simp at e0; done)
      | (exfalso; rename_i e0; cases e0; done)
      | (exfalso; rename_i e0; simp [eqN] at e0; done)
  · exact T.hite (fun _ => rfl) (fun h => by simp at h)
  · exact T.hite (fun _ => T.hite (fun _ => T.hite (fun _ => rfl) (fun h => by simp at h)) (fun h => by simp at h)) (fun h => by simp at h)

theorem cm_law : ∀ args m, ArgsAV [PK.one (CK.int IntKind.i64), PK.one (CK.int IntKind.i64)] [] args m → Walks Try.prog Try.f6 (codeOf Try.f6) args m := by
  intro args m h
  obtain ⟨a, _, rfl, ha, h⟩ := args_int h
  obtain ⟨v, _, rfl, hv, h⟩ := args_int h
  obtain ⟨rfl, rfl⟩ := args_nil h
  have ha := bounds_i64 ha
  have hv := bounds_i64 hv
  refine ⟨laE Try.f6.ntmps, laE_ok _, noLoops (by kernel_rfl), rfl, rfl, ?_⟩
  rw [cm_fn]
  have m1 : ∀ x y, maV 1 x y = IntKind.wrap .i64 (y + x) := fun _ _ => rfl
  have m2 : ∀ x y, maV 2 x y = IntKind.wrap .i64 (y * x) := fun _ _ => rfl
  have m3 : ∀ x y, maV 3 x y = bits .xor .i64 y x := fun _ _ => rfl
  have m4 : ∀ x y, maV 4 x y = IntKind.wrap .i64 (0 - y) := fun _ _ => rfl
  have m5 : ∀ x y, 1 ≤ x → maV 5 x y = restV y x := fun x y h => by simp [maV, show ¬ x < 1 by omega]
  have m6 : ∀ x y, maV 6 x y = if x < y then x else y := fun _ _ => rfl
  have m7 : ∀ x y, maV 7 x y = if x > y then x else y := fun _ _ => rfl
  have e1 : maV 1 (IntKind.wrap .i64 (0 - a)) (maV 1 a v) = v := by rw [m1, m1, IntKind.wrap_i64, IntKind.wrap_i64, IntKind.wrap_i64]; omega
  have e3 : maV 3 a (maV 3 a v) = v := by rw [m3, m3]; exact xor64_back v a hv
  have e4 : maV 4 0 (maV 4 0 v) = v := by rw [m4, m4, IntKind.wrap_i64, IntKind.wrap_i64]; omega
  have e6 : maV 6 a v ≤ maV 7 a v := by rw [m6, m7]; split <;> split <;> omega
  have e7 : IntKind.wrap .i64 (maV 6 a v + maV 7 a v) = maV 1 a v := by
    rw [m6, m7, m1]
    split <;> split <;> first | (exfalso; omega) | rfl | (rw [Int.add_comm a v]; done) | (rw [show a = v by omega]; done)
  have e8 : maV 6 a v = a ∨ maV 6 a v = v := by rw [m6]; split <;> simp
  have e2 : maV 2 a v = maV 2 v a := by rw [m2, m2, Int.mul_comm]
  have hS : ∀ t : T (AV × AM), (1 ≤ a → t.holds fun r => r.1.yes = true) → (T.ite (maV 2 a v != maV 2 v a) (T.ite (decide (a < 1)) (T.ret (AV.bool true, [])) (T.ret (AV.ff, []))) (T.ite (decide (a < 1)) (T.ite (decide (a < 1)) (T.ret (AV.bool true, [])) (T.ret (AV.ff, []))) t)).holds fun r => r.1.yes = true :=
    fun t ht => T.hiteN (fun h => absurd e2 h) (fun _ => T.hiteP (fun h => T.hiteP (fun _ => rfl) (fun h' => absurd h h')) (fun h => ht (by omega)))
  have hS2 : 1 ≤ a → (T.ite (decide (maV 5 a v ≥ 0)) (T.ite (decide (maV 5 a v < a)) (T.chk (!(a == 0)) (T.ite ((IntKind.wrap IntKind.i64 (IntKind.wrap IntKind.i64 (Int.tdiv v a) * a) == v) == (maV 5 a v == 0))
      (T.ite (maV 5 a (maV 5 a v) == maV 5 a v) (T.ite (decide (v < 0)) (T.ret (AV.bool true, ([] : AM))) (T.chk (!(a == 0)) (T.ite (maV 5 a v == Int.tmod v a) (T.ret (AV.bool true, [])) (T.ret (AV.ff, []))))) (T.ret (AV.ff, []))) (T.ret (AV.ff, [])))) (T.ret (AV.ff, []))) (T.ret (AV.ff, []))).holds fun r => r.1.yes = true := by
    intro h1
    have r0 := Int.emod_nonneg v (show a ≠ 0 by omega)
    have r1 := Int.emod_lt_of_pos v (show 0 < a by omega)
    have er : ∀ x, -9223372036854775808 ≤ x ∧ x ≤ 9223372036854775807 → maV 5 a x = x % a := fun x hx => by rw [m5 a x h1]; exact tmod_rest h1 hx ha.2
    have q0 := Int.tmod_add_tdiv_mul v a
    have qr : -9223372036854775808 ≤ Int.tdiv v a * a ∧ Int.tdiv v a * a ≤ 9223372036854775807 := by
      have g1 := Int.tmod_eq_emod (a := v) (b := a)
      rcases Int.le_total 0 v with g | g
      · rw [Int.tmod_eq_emod_of_nonneg g] at q0; have t5 := Int.emod_add_mul_ediv v a; have t6 := Int.mul_nonneg (show 0 ≤ a by omega) (Int.ediv_nonneg g (show 0 ≤ a by omega)); omega
      · have t1 := Int.neg_tmod v a
        have t2 := Int.tmod_eq_emod_of_nonneg (a := -v) (b := a) (by omega)
        have t3 := Int.emod_nonneg (-v) (show a ≠ 0 by omega)
        have t5 := Int.emod_add_mul_ediv (-v) a
        have t6 := Int.mul_nonneg (show 0 ≤ a by omega) (Int.ediv_nonneg (show 0 ≤ -v by omega) (show 0 ≤ a by omega))
        omega
    have qd : -9223372036854775808 ≤ Int.tdiv v a ∧ Int.tdiv v a ≤ 9223372036854775807 := by
      rcases Int.le_total 0 (Int.tdiv v a) with g | g
      · have := Int.mul_le_mul_of_nonneg_left h1 g; omega
      · have := Int.mul_le_mul_of_nonpos_left g h1; omega
    rw [er v hv, er (v % a) (by omega), IntWalk.i64_in _ qd, IntWalk.i64_in _ qr]
    have ee : (v % a) % a = v % a := Int.emod_emod_of_dvd v (Int.dvd_refl a)
    refine T.hiteP (fun _ => T.hiteP (fun _ => T.hchk (by simp; omega) (T.hite (fun _ => T.hiteE (fun _ => T.hiteP (fun _ => rfl) (fun hv0 => T.hchk (by simp; omega) (T.hiteE (fun _ => rfl) (fun h => absurd (Int.tmod_eq_emod_of_nonneg (by omega)).symm h)))) (fun h => absurd ee h)) (fun h => ?_))) (fun h => absurd r1 h)) (fun h => absurd r0 h)
    exfalso
    have key : Int.tdiv v a * a = v ↔ v % a = 0 := by
      constructor
      · intro h
        have : v.tmod a = 0 := by omega
        exact Int.emod_eq_zero_of_dvd (Int.dvd_of_tmod_eq_zero this)
      · intro h
        have := Int.tmod_eq_zero_of_dvd (Int.dvd_of_emod_eq_zero h)
        omega
    have e : (Int.tdiv v a * a == v) = (v % a == 0) := by rw [Bool.eq_iff_iff, beq_iff_eq, beq_iff_eq]; exact key
    rw [e, beq_self_eq_true] at h
    cases h
  refine T.hiteN (fun h => absurd e1 h) (fun _ => T.hiteN (fun h => absurd e3 h) (fun _ => T.hiteN (fun h => absurd e4 h) (fun _ => T.hiteP (fun h => absurd e6 (by omega)) (fun _ => T.hiteN (fun h => absurd e7 h) (fun _ => ?_)))))
  exact T.hiteN (fun h6 => T.hiteN (fun h7 => absurd e8 (by simp [h6, h7])) (fun _ => hS _ hS2)) (fun _ => hS _ hS2)

end Go.Proofs.Ytbnijmoiaegopaa
