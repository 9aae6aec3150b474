/-
  Layer 19: Opens.
-/
import Derived.Test.YthbdkhlpojngeaaHC
namespace Go.Proofs.Ythbdkhlpojngeaa
open Go.Ox
set_option maxRecDepth 100000
set_option linter.unusedVariables false
set_option linter.unusedSimpArgs false

def pkV (k n : Int) : Int := if n < 1 then 0 else k % n
def pickO : List AV → T AV
  | [.int .i64 k, .int .i64 n] => .chk (decide (n ≤ 9223372036854775807)) (.ret (.int .i64 (pkV k n)))
  | _ => .fail

theorem pickO_ok : SummOK Try.prog 10 (.pure fun args _ => pickO args) := by
  refine pure_weak pick_ok fun args m Q h => ?_
  unfold pickO at h
  split at h
  · exact h
  · exact h.elim

noncomputable def opE : Env := { nt := Try.f6.ntmps, n0 := 0, loop := fun _ _ => .fail, fns := [(11, .eff fun args m => lift [] m [] (nwS args)), (13, .eff baS), (15, .pure bkS), (10, .pure fun args _ => pickO args), (17, .pure fun args _ => knS args)] }

theorem opE_ok : EnvOK Try.prog opE.fns := EnvOK.cons nw_ok (EnvOK.cons ba_ok (EnvOK.cons bk_ok (EnvOK.cons pickO_ok (EnvOK.cons kn_ok EnvOK.nil))))

theorem op_fn (n i k a b : Int) : vfn Try.prog opE Try.f6 (codeOf Try.f6) [.int .i64 n, .int .i64 i, .int .i64 k, .int .i64 a, .int .i64 b] = 
  T.chk true
    (T.chk (decide (IntKind.wrap IntKind.i64 ((2 : Int) + pkV n (63 : Int)) ≤ (9223372036854775807 : Int)))
      (T.chk (decide (IntKind.wrap IntKind.i64 ((2 : Int) + pkV n (63 : Int)) ≤ (9223372036854775807 : Int)))
        (T.need (IsAl (Blk.mk true [AV.int IntKind.i64 (clampA (IntKind.wrap IntKind.i64 ((2 : Int) + pkV n (63 : Int))))] (1 : Nat) (96 : Nat) (fun j => [AV.bool false]) [AV.int IntKind.i64 (0 : Int), AV.int IntKind.i64 (0 : Int), AV.int IntKind.i64 (0 : Int), AV.bool false]))
          (T.chk (decide (intA (List.getD (renL (out [] (0 : Nat)) [AV.int IntKind.i64 (clampA (IntKind.wrap IntKind.i64 ((2 : Int) + pkV n (63 : Int))))]) (0 : Nat) AV.ff) ≤ (96 : Int)))
            (T.ite (barR (stA (renB (out [] (0 : Nat)) (alB (newA (IntKind.wrap IntKind.i64 ((2 : Int) + pkV n (63 : Int))))))) (pkV i (IntKind.wrap IntKind.i64 ((2 : Int) + pkV n (63 : Int)))) a) (T.ret AV.ff)
              (T.need
                (IsAl
                  (Blk.mk true [AV.int IntKind.i64 (AL.n (bar (stA (renB (out [] (0 : Nat)) (alB (newA (IntKind.wrap IntKind.i64 ((2 : Int) + pkV n (63 : Int))))))) (pkV i (IntKind.wrap IntKind.i64 ((2 : Int) + pkV n (63 : Int)))) a))] (1 : Nat) (96 : Nat)
                    (fun j => [AV.bool (AL.B (bar (stA (renB (out [] (0 : Nat)) (alB (newA (IntKind.wrap IntKind.i64 ((2 : Int) + pkV n (63 : Int))))))) (pkV i (IntKind.wrap IntKind.i64 ((2 : Int) + pkV n (63 : Int)))) a) j)])
                    [AV.int IntKind.i64 (AL.c (bar (stA (renB (out [] (0 : Nat)) (alB (newA (IntKind.wrap IntKind.i64 ((2 : Int) + pkV n (63 : Int))))))) (pkV i (IntKind.wrap IntKind.i64 ((2 : Int) + pkV n (63 : Int)))) a)),
                      AV.int IntKind.i64 (AL.w (bar (stA (renB (out [] (0 : Nat)) (alB (newA (IntKind.wrap IntKind.i64 ((2 : Int) + pkV n (63 : Int))))))) (pkV i (IntKind.wrap IntKind.i64 ((2 : Int) + pkV n (63 : Int)))) a)),
                      AV.int IntKind.i64 (AL.l (bar (stA (renB (out [] (0 : Nat)) (alB (newA (IntKind.wrap IntKind.i64 ((2 : Int) + pkV n (63 : Int))))))) (pkV i (IntKind.wrap IntKind.i64 ((2 : Int) + pkV n (63 : Int)))) a)),
                      AV.bool (AL.d (bar (stA (renB (out [] (0 : Nat)) (alB (newA (IntKind.wrap IntKind.i64 ((2 : Int) + pkV n (63 : Int))))))) (pkV i (IntKind.wrap IntKind.i64 ((2 : Int) + pkV n (63 : Int)))) a))]))
                (T.chk
                  (decide
                    (intA
                        (List.getD
                          (renL (out [(0 : Nat)] (List.length (putAll [] (0 : Nat) [] [some (alB (newA (IntKind.wrap IntKind.i64 ((2 : Int) + pkV n (63 : Int)))))] [] (0 : Nat) [] ++ news [] (0 : Nat) (List.drop (0 : Nat) [some (alB (newA (IntKind.wrap IntKind.i64 ((2 : Int) + pkV n (63 : Int)))))]))))
                            [AV.int IntKind.i64 (AL.n (bar (stA (renB (out [] (0 : Nat)) (alB (newA (IntKind.wrap IntKind.i64 ((2 : Int) + pkV n (63 : Int))))))) (pkV i (IntKind.wrap IntKind.i64 ((2 : Int) + pkV n (63 : Int)))) a))])
                          (0 : Nat) AV.ff) ≤
                      (96 : Int)))
                  (T.ite
                    (!blkA
                        (stA
                          (renB (out [(0 : Nat)] (List.length (putAll [] (0 : Nat) [] [some (alB (newA (IntKind.wrap IntKind.i64 ((2 : Int) + pkV n (63 : Int)))))] [] (0 : Nat) [] ++ news [] (0 : Nat) (List.drop (0 : Nat) [some (alB (newA (IntKind.wrap IntKind.i64 ((2 : Int) + pkV n (63 : Int)))))]))))
                            (alB (bar (stA (renB (out [] (0 : Nat)) (alB (newA (IntKind.wrap IntKind.i64 ((2 : Int) + pkV n (63 : Int))))))) (pkV i (IntKind.wrap IntKind.i64 ((2 : Int) + pkV n (63 : Int)))) a))))
                        (pkV i (IntKind.wrap IntKind.i64 ((2 : Int) + pkV n (63 : Int)))))
                    (T.ret AV.ff)
                    (T.need
                      (IsAl
                        (Blk.mk true [AV.int IntKind.i64 (AL.n (bar (stA (renB (out [] (0 : Nat)) (alB (newA (IntKind.wrap IntKind.i64 ((2 : Int) + pkV n (63 : Int))))))) (pkV i (IntKind.wrap IntKind.i64 ((2 : Int) + pkV n (63 : Int)))) a))] (1 : Nat) (96 : Nat)
                          (fun j => [AV.bool (AL.B (bar (stA (renB (out [] (0 : Nat)) (alB (newA (IntKind.wrap IntKind.i64 ((2 : Int) + pkV n (63 : Int))))))) (pkV i (IntKind.wrap IntKind.i64 ((2 : Int) + pkV n (63 : Int)))) a) j)])
                          [AV.int IntKind.i64 (AL.c (bar (stA (renB (out [] (0 : Nat)) (alB (newA (IntKind.wrap IntKind.i64 ((2 : Int) + pkV n (63 : Int))))))) (pkV i (IntKind.wrap IntKind.i64 ((2 : Int) + pkV n (63 : Int)))) a)),
                            AV.int IntKind.i64 (AL.w (bar (stA (renB (out [] (0 : Nat)) (alB (newA (IntKind.wrap IntKind.i64 ((2 : Int) + pkV n (63 : Int))))))) (pkV i (IntKind.wrap IntKind.i64 ((2 : Int) + pkV n (63 : Int)))) a)),
                            AV.int IntKind.i64 (AL.l (bar (stA (renB (out [] (0 : Nat)) (alB (newA (IntKind.wrap IntKind.i64 ((2 : Int) + pkV n (63 : Int))))))) (pkV i (IntKind.wrap IntKind.i64 ((2 : Int) + pkV n (63 : Int)))) a)),
                            AV.bool (AL.d (bar (stA (renB (out [] (0 : Nat)) (alB (newA (IntKind.wrap IntKind.i64 ((2 : Int) + pkV n (63 : Int))))))) (pkV i (IntKind.wrap IntKind.i64 ((2 : Int) + pkV n (63 : Int)))) a))]))
                      (T.chk
                        (decide
                          (intA
                              (List.getD
                                (renL (out [(0 : Nat)] (List.length (putAll [] (0 : Nat) [] [some (alB (newA (IntKind.wrap IntKind.i64 ((2 : Int) + pkV n (63 : Int)))))] [] (0 : Nat) [] ++ news [] (0 : Nat) (List.drop (0 : Nat) [some (alB (newA (IntKind.wrap IntKind.i64 ((2 : Int) + pkV n (63 : Int)))))]))))
                                  [AV.int IntKind.i64 (AL.n (bar (stA (renB (out [] (0 : Nat)) (alB (newA (IntKind.wrap IntKind.i64 ((2 : Int) + pkV n (63 : Int))))))) (pkV i (IntKind.wrap IntKind.i64 ((2 : Int) + pkV n (63 : Int)))) a))])
                                (0 : Nat) AV.ff) ≤
                            (96 : Int)))
                        (T.ite (decide (b < a))
                          (T.ite
                            (!barR
                                (stA
                                  (renB (out [(0 : Nat)] (List.length (putAll [] (0 : Nat) [] [some (alB (newA (IntKind.wrap IntKind.i64 ((2 : Int) + pkV n (63 : Int)))))] [] (0 : Nat) [] ++ news [] (0 : Nat) (List.drop (0 : Nat) [some (alB (newA (IntKind.wrap IntKind.i64 ((2 : Int) + pkV n (63 : Int)))))]))))
                                    (alB (bar (stA (renB (out [] (0 : Nat)) (alB (newA (IntKind.wrap IntKind.i64 ((2 : Int) + pkV n (63 : Int))))))) (pkV i (IntKind.wrap IntKind.i64 ((2 : Int) + pkV n (63 : Int)))) a))))
                                (pkV k (IntKind.wrap IntKind.i64 ((2 : Int) + pkV n (63 : Int)))) b)
                            (T.need
                              (IsAl
                                (Blk.mk true
                                  [AV.int IntKind.i64
                                      (AL.n
                                        (bar
                                          (stA
                                            (renB (out [(0 : Nat)] (List.length (putAll [] (0 : Nat) [] [some (alB (newA (IntKind.wrap IntKind.i64 ((2 : Int) + pkV n (63 : Int)))))] [] (0 : Nat) [] ++ news [] (0 : Nat) (List.drop (0 : Nat) [some (alB (newA (IntKind.wrap IntKind.i64 ((2 : Int) + pkV n (63 : Int)))))]))))
                                              (alB (bar (stA (renB (out [] (0 : Nat)) (alB (newA (IntKind.wrap IntKind.i64 ((2 : Int) + pkV n (63 : Int))))))) (pkV i (IntKind.wrap IntKind.i64 ((2 : Int) + pkV n (63 : Int)))) a))))
                                          (pkV k (IntKind.wrap IntKind.i64 ((2 : Int) + pkV n (63 : Int)))) b))]
                                  (1 : Nat) (96 : Nat)
                                  (fun j =>
                                    [AV.bool
                                        (AL.B
                                          (bar
                                            (stA
                                              (renB (out [(0 : Nat)] (List.length (putAll [] (0 : Nat) [] [some (alB (newA (IntKind.wrap IntKind.i64 ((2 : Int) + pkV n (63 : Int)))))] [] (0 : Nat) [] ++ news [] (0 : Nat) (List.drop (0 : Nat) [some (alB (newA (IntKind.wrap IntKind.i64 ((2 : Int) + pkV n (63 : Int)))))]))))
                                                (alB (bar (stA (renB (out [] (0 : Nat)) (alB (newA (IntKind.wrap IntKind.i64 ((2 : Int) + pkV n (63 : Int))))))) (pkV i (IntKind.wrap IntKind.i64 ((2 : Int) + pkV n (63 : Int)))) a))))
                                            (pkV k (IntKind.wrap IntKind.i64 ((2 : Int) + pkV n (63 : Int)))) b)
                                          j)])
                                  [AV.int IntKind.i64
                                      (AL.c
                                        (bar
                                          (stA
                                            (renB (out [(0 : Nat)] (List.length (putAll [] (0 : Nat) [] [some (alB (newA (IntKind.wrap IntKind.i64 ((2 : Int) + pkV n (63 : Int)))))] [] (0 : Nat) [] ++ news [] (0 : Nat) (List.drop (0 : Nat) [some (alB (newA (IntKind.wrap IntKind.i64 ((2 : Int) + pkV n (63 : Int)))))]))))
                                              (alB (bar (stA (renB (out [] (0 : Nat)) (alB (newA (IntKind.wrap IntKind.i64 ((2 : Int) + pkV n (63 : Int))))))) (pkV i (IntKind.wrap IntKind.i64 ((2 : Int) + pkV n (63 : Int)))) a))))
                                          (pkV k (IntKind.wrap IntKind.i64 ((2 : Int) + pkV n (63 : Int)))) b)),
                                    AV.int IntKind.i64
                                      (AL.w
                                        (bar
                                          (stA
                                            (renB (out [(0 : Nat)] (List.length (putAll [] (0 : Nat) [] [some (alB (newA (IntKind.wrap IntKind.i64 ((2 : Int) + pkV n (63 : Int)))))] [] (0 : Nat) [] ++ news [] (0 : Nat) (List.drop (0 : Nat) [some (alB (newA (IntKind.wrap IntKind.i64 ((2 : Int) + pkV n (63 : Int)))))]))))
                                              (alB (bar (stA (renB (out [] (0 : Nat)) (alB (newA (IntKind.wrap IntKind.i64 ((2 : Int) + pkV n (63 : Int))))))) (pkV i (IntKind.wrap IntKind.i64 ((2 : Int) + pkV n (63 : Int)))) a))))
                                          (pkV k (IntKind.wrap IntKind.i64 ((2 : Int) + pkV n (63 : Int)))) b)),
                                    AV.int IntKind.i64
                                      (AL.l
                                        (bar
                                          (stA
                                            (renB (out [(0 : Nat)] (List.length (putAll [] (0 : Nat) [] [some (alB (newA (IntKind.wrap IntKind.i64 ((2 : Int) + pkV n (63 : Int)))))] [] (0 : Nat) [] ++ news [] (0 : Nat) (List.drop (0 : Nat) [some (alB (newA (IntKind.wrap IntKind.i64 ((2 : Int) + pkV n (63 : Int)))))]))))
                                              (alB (bar (stA (renB (out [] (0 : Nat)) (alB (newA (IntKind.wrap IntKind.i64 ((2 : Int) + pkV n (63 : Int))))))) (pkV i (IntKind.wrap IntKind.i64 ((2 : Int) + pkV n (63 : Int)))) a))))
                                          (pkV k (IntKind.wrap IntKind.i64 ((2 : Int) + pkV n (63 : Int)))) b)),
                                    AV.bool
                                      (AL.d
                                        (bar
                                          (stA
                                            (renB (out [(0 : Nat)] (List.length (putAll [] (0 : Nat) [] [some (alB (newA (IntKind.wrap IntKind.i64 ((2 : Int) + pkV n (63 : Int)))))] [] (0 : Nat) [] ++ news [] (0 : Nat) (List.drop (0 : Nat) [some (alB (newA (IntKind.wrap IntKind.i64 ((2 : Int) + pkV n (63 : Int)))))]))))
                                              (alB (bar (stA (renB (out [] (0 : Nat)) (alB (newA (IntKind.wrap IntKind.i64 ((2 : Int) + pkV n (63 : Int))))))) (pkV i (IntKind.wrap IntKind.i64 ((2 : Int) + pkV n (63 : Int)))) a))))
                                          (pkV k (IntKind.wrap IntKind.i64 ((2 : Int) + pkV n (63 : Int)))) b))]))
                              (T.chk
                                (decide
                                  (intA
                                      (List.getD
                                        (renL
                                          (out [(0 : Nat)]
                                            (List.length
                                              (putAll [(0 : Nat)] (List.length (putAll [] (0 : Nat) [] [some (alB (newA (IntKind.wrap IntKind.i64 ((2 : Int) + pkV n (63 : Int)))))] [] (0 : Nat) [] ++ news [] (0 : Nat) (List.drop (0 : Nat) [some (alB (newA (IntKind.wrap IntKind.i64 ((2 : Int) + pkV n (63 : Int)))))])))
                                                  [some (alB (stA (renB (out [] (0 : Nat)) (alB (newA (IntKind.wrap IntKind.i64 ((2 : Int) + pkV n (63 : Int))))))))] [some (alB (bar (stA (renB (out [] (0 : Nat)) (alB (newA (IntKind.wrap IntKind.i64 ((2 : Int) + pkV n (63 : Int))))))) (pkV i (IntKind.wrap IntKind.i64 ((2 : Int) + pkV n (63 : Int)))) a))] [(0 : Nat)] (0 : Nat)
                                                  (putAll [] (0 : Nat) [] [some (alB (newA (IntKind.wrap IntKind.i64 ((2 : Int) + pkV n (63 : Int)))))] [] (0 : Nat) [] ++ news [] (0 : Nat) (List.drop (0 : Nat) [some (alB (newA (IntKind.wrap IntKind.i64 ((2 : Int) + pkV n (63 : Int)))))])) ++
                                                news [(0 : Nat)] (List.length (putAll [] (0 : Nat) [] [some (alB (newA (IntKind.wrap IntKind.i64 ((2 : Int) + pkV n (63 : Int)))))] [] (0 : Nat) [] ++ news [] (0 : Nat) (List.drop (0 : Nat) [some (alB (newA (IntKind.wrap IntKind.i64 ((2 : Int) + pkV n (63 : Int)))))])))
                                                  (List.drop (1 : Nat) [some (alB (bar (stA (renB (out [] (0 : Nat)) (alB (newA (IntKind.wrap IntKind.i64 ((2 : Int) + pkV n (63 : Int))))))) (pkV i (IntKind.wrap IntKind.i64 ((2 : Int) + pkV n (63 : Int)))) a))]))))
                                          [AV.int IntKind.i64
                                              (AL.n
                                                (bar
                                                  (stA
                                                    (renB (out [(0 : Nat)] (List.length (putAll [] (0 : Nat) [] [some (alB (newA (IntKind.wrap IntKind.i64 ((2 : Int) + pkV n (63 : Int)))))] [] (0 : Nat) [] ++ news [] (0 : Nat) (List.drop (0 : Nat) [some (alB (newA (IntKind.wrap IntKind.i64 ((2 : Int) + pkV n (63 : Int)))))]))))
                                                      (alB (bar (stA (renB (out [] (0 : Nat)) (alB (newA (IntKind.wrap IntKind.i64 ((2 : Int) + pkV n (63 : Int))))))) (pkV i (IntKind.wrap IntKind.i64 ((2 : Int) + pkV n (63 : Int)))) a))))
                                                  (pkV k (IntKind.wrap IntKind.i64 ((2 : Int) + pkV n (63 : Int)))) b))])
                                        (0 : Nat) AV.ff) ≤
                                    (96 : Int)))
                                (T.ite
                                  (blkA
                                    (stA
                                      (renB
                                        (out [(0 : Nat)]
                                          (List.length
                                            (putAll [(0 : Nat)] (List.length (putAll [] (0 : Nat) [] [some (alB (newA (IntKind.wrap IntKind.i64 ((2 : Int) + pkV n (63 : Int)))))] [] (0 : Nat) [] ++ news [] (0 : Nat) (List.drop (0 : Nat) [some (alB (newA (IntKind.wrap IntKind.i64 ((2 : Int) + pkV n (63 : Int)))))])))
                                                [some (alB (stA (renB (out [] (0 : Nat)) (alB (newA (IntKind.wrap IntKind.i64 ((2 : Int) + pkV n (63 : Int))))))))] [some (alB (bar (stA (renB (out [] (0 : Nat)) (alB (newA (IntKind.wrap IntKind.i64 ((2 : Int) + pkV n (63 : Int))))))) (pkV i (IntKind.wrap IntKind.i64 ((2 : Int) + pkV n (63 : Int)))) a))] [(0 : Nat)] (0 : Nat)
                                                (putAll [] (0 : Nat) [] [some (alB (newA (IntKind.wrap IntKind.i64 ((2 : Int) + pkV n (63 : Int)))))] [] (0 : Nat) [] ++ news [] (0 : Nat) (List.drop (0 : Nat) [some (alB (newA (IntKind.wrap IntKind.i64 ((2 : Int) + pkV n (63 : Int)))))])) ++
                                              news [(0 : Nat)] (List.length (putAll [] (0 : Nat) [] [some (alB (newA (IntKind.wrap IntKind.i64 ((2 : Int) + pkV n (63 : Int)))))] [] (0 : Nat) [] ++ news [] (0 : Nat) (List.drop (0 : Nat) [some (alB (newA (IntKind.wrap IntKind.i64 ((2 : Int) + pkV n (63 : Int)))))])))
                                                (List.drop (1 : Nat) [some (alB (bar (stA (renB (out [] (0 : Nat)) (alB (newA (IntKind.wrap IntKind.i64 ((2 : Int) + pkV n (63 : Int))))))) (pkV i (IntKind.wrap IntKind.i64 ((2 : Int) + pkV n (63 : Int)))) a))]))))
                                        (alB
                                          (bar
                                            (stA
                                              (renB (out [(0 : Nat)] (List.length (putAll [] (0 : Nat) [] [some (alB (newA (IntKind.wrap IntKind.i64 ((2 : Int) + pkV n (63 : Int)))))] [] (0 : Nat) [] ++ news [] (0 : Nat) (List.drop (0 : Nat) [some (alB (newA (IntKind.wrap IntKind.i64 ((2 : Int) + pkV n (63 : Int)))))]))))
                                                (alB (bar (stA (renB (out [] (0 : Nat)) (alB (newA (IntKind.wrap IntKind.i64 ((2 : Int) + pkV n (63 : Int))))))) (pkV i (IntKind.wrap IntKind.i64 ((2 : Int) + pkV n (63 : Int)))) a))))
                                            (pkV k (IntKind.wrap IntKind.i64 ((2 : Int) + pkV n (63 : Int)))) b))))
                                    (pkV i (IntKind.wrap IntKind.i64 ((2 : Int) + pkV n (63 : Int)))))
                                  (T.ite (pkV k (IntKind.wrap IntKind.i64 ((2 : Int) + pkV n (63 : Int))) == pkV i (IntKind.wrap IntKind.i64 ((2 : Int) + pkV n (63 : Int)))) (T.ret (AV.bool true))
                                    (T.need
                                      (IsAl
                                        (Blk.mk true
                                          [AV.int IntKind.i64
                                              (AL.n
                                                (bar
                                                  (stA
                                                    (renB (out [(0 : Nat)] (List.length (putAll [] (0 : Nat) [] [some (alB (newA (IntKind.wrap IntKind.i64 ((2 : Int) + pkV n (63 : Int)))))] [] (0 : Nat) [] ++ news [] (0 : Nat) (List.drop (0 : Nat) [some (alB (newA (IntKind.wrap IntKind.i64 ((2 : Int) + pkV n (63 : Int)))))]))))
                                                      (alB (bar (stA (renB (out [] (0 : Nat)) (alB (newA (IntKind.wrap IntKind.i64 ((2 : Int) + pkV n (63 : Int))))))) (pkV i (IntKind.wrap IntKind.i64 ((2 : Int) + pkV n (63 : Int)))) a))))
                                                  (pkV k (IntKind.wrap IntKind.i64 ((2 : Int) + pkV n (63 : Int)))) b))]
                                          (1 : Nat) (96 : Nat)
                                          (fun j =>
                                            [AV.bool
                                                (AL.B
                                                  (bar
                                                    (stA
                                                      (renB (out [(0 : Nat)] (List.length (putAll [] (0 : Nat) [] [some (alB (newA (IntKind.wrap IntKind.i64 ((2 : Int) + pkV n (63 : Int)))))] [] (0 : Nat) [] ++ news [] (0 : Nat) (List.drop (0 : Nat) [some (alB (newA (IntKind.wrap IntKind.i64 ((2 : Int) + pkV n (63 : Int)))))]))))
                                                        (alB (bar (stA (renB (out [] (0 : Nat)) (alB (newA (IntKind.wrap IntKind.i64 ((2 : Int) + pkV n (63 : Int))))))) (pkV i (IntKind.wrap IntKind.i64 ((2 : Int) + pkV n (63 : Int)))) a))))
                                                    (pkV k (IntKind.wrap IntKind.i64 ((2 : Int) + pkV n (63 : Int)))) b)
                                                  j)])
                                          [AV.int IntKind.i64
                                              (AL.c
                                                (bar
                                                  (stA
                                                    (renB (out [(0 : Nat)] (List.length (putAll [] (0 : Nat) [] [some (alB (newA (IntKind.wrap IntKind.i64 ((2 : Int) + pkV n (63 : Int)))))] [] (0 : Nat) [] ++ news [] (0 : Nat) (List.drop (0 : Nat) [some (alB (newA (IntKind.wrap IntKind.i64 ((2 : Int) + pkV n (63 : Int)))))]))))
                                                      (alB (bar (stA (renB (out [] (0 : Nat)) (alB (newA (IntKind.wrap IntKind.i64 ((2 : Int) + pkV n (63 : Int))))))) (pkV i (IntKind.wrap IntKind.i64 ((2 : Int) + pkV n (63 : Int)))) a))))
                                                  (pkV k (IntKind.wrap IntKind.i64 ((2 : Int) + pkV n (63 : Int)))) b)),
                                            AV.int IntKind.i64
                                              (AL.w
                                                (bar
                                                  (stA
                                                    (renB (out [(0 : Nat)] (List.length (putAll [] (0 : Nat) [] [some (alB (newA (IntKind.wrap IntKind.i64 ((2 : Int) + pkV n (63 : Int)))))] [] (0 : Nat) [] ++ news [] (0 : Nat) (List.drop (0 : Nat) [some (alB (newA (IntKind.wrap IntKind.i64 ((2 : Int) + pkV n (63 : Int)))))]))))
                                                      (alB (bar (stA (renB (out [] (0 : Nat)) (alB (newA (IntKind.wrap IntKind.i64 ((2 : Int) + pkV n (63 : Int))))))) (pkV i (IntKind.wrap IntKind.i64 ((2 : Int) + pkV n (63 : Int)))) a))))
                                                  (pkV k (IntKind.wrap IntKind.i64 ((2 : Int) + pkV n (63 : Int)))) b)),
                                            AV.int IntKind.i64
                                              (AL.l
                                                (bar
                                                  (stA
                                                    (renB (out [(0 : Nat)] (List.length (putAll [] (0 : Nat) [] [some (alB (newA (IntKind.wrap IntKind.i64 ((2 : Int) + pkV n (63 : Int)))))] [] (0 : Nat) [] ++ news [] (0 : Nat) (List.drop (0 : Nat) [some (alB (newA (IntKind.wrap IntKind.i64 ((2 : Int) + pkV n (63 : Int)))))]))))
                                                      (alB (bar (stA (renB (out [] (0 : Nat)) (alB (newA (IntKind.wrap IntKind.i64 ((2 : Int) + pkV n (63 : Int))))))) (pkV i (IntKind.wrap IntKind.i64 ((2 : Int) + pkV n (63 : Int)))) a))))
                                                  (pkV k (IntKind.wrap IntKind.i64 ((2 : Int) + pkV n (63 : Int)))) b)),
                                            AV.bool
                                              (AL.d
                                                (bar
                                                  (stA
                                                    (renB (out [(0 : Nat)] (List.length (putAll [] (0 : Nat) [] [some (alB (newA (IntKind.wrap IntKind.i64 ((2 : Int) + pkV n (63 : Int)))))] [] (0 : Nat) [] ++ news [] (0 : Nat) (List.drop (0 : Nat) [some (alB (newA (IntKind.wrap IntKind.i64 ((2 : Int) + pkV n (63 : Int)))))]))))
                                                      (alB (bar (stA (renB (out [] (0 : Nat)) (alB (newA (IntKind.wrap IntKind.i64 ((2 : Int) + pkV n (63 : Int))))))) (pkV i (IntKind.wrap IntKind.i64 ((2 : Int) + pkV n (63 : Int)))) a))))
                                                  (pkV k (IntKind.wrap IntKind.i64 ((2 : Int) + pkV n (63 : Int)))) b))]))
                                      (T.chk
                                        (decide
                                          (intA
                                              (List.getD
                                                (renL
                                                  (out [(0 : Nat)]
                                                    (List.length
                                                      (putAll [(0 : Nat)] (List.length (putAll [] (0 : Nat) [] [some (alB (newA (IntKind.wrap IntKind.i64 ((2 : Int) + pkV n (63 : Int)))))] [] (0 : Nat) [] ++ news [] (0 : Nat) (List.drop (0 : Nat) [some (alB (newA (IntKind.wrap IntKind.i64 ((2 : Int) + pkV n (63 : Int)))))])))
                                                          [some (alB (stA (renB (out [] (0 : Nat)) (alB (newA (IntKind.wrap IntKind.i64 ((2 : Int) + pkV n (63 : Int))))))))] [some (alB (bar (stA (renB (out [] (0 : Nat)) (alB (newA (IntKind.wrap IntKind.i64 ((2 : Int) + pkV n (63 : Int))))))) (pkV i (IntKind.wrap IntKind.i64 ((2 : Int) + pkV n (63 : Int)))) a))] [(0 : Nat)] (0 : Nat)
                                                          (putAll [] (0 : Nat) [] [some (alB (newA (IntKind.wrap IntKind.i64 ((2 : Int) + pkV n (63 : Int)))))] [] (0 : Nat) [] ++ news [] (0 : Nat) (List.drop (0 : Nat) [some (alB (newA (IntKind.wrap IntKind.i64 ((2 : Int) + pkV n (63 : Int)))))])) ++
                                                        news [(0 : Nat)] (List.length (putAll [] (0 : Nat) [] [some (alB (newA (IntKind.wrap IntKind.i64 ((2 : Int) + pkV n (63 : Int)))))] [] (0 : Nat) [] ++ news [] (0 : Nat) (List.drop (0 : Nat) [some (alB (newA (IntKind.wrap IntKind.i64 ((2 : Int) + pkV n (63 : Int)))))])))
                                                          (List.drop (1 : Nat) [some (alB (bar (stA (renB (out [] (0 : Nat)) (alB (newA (IntKind.wrap IntKind.i64 ((2 : Int) + pkV n (63 : Int))))))) (pkV i (IntKind.wrap IntKind.i64 ((2 : Int) + pkV n (63 : Int)))) a))]))))
                                                  [AV.int IntKind.i64
                                                      (AL.n
                                                        (bar
                                                          (stA
                                                            (renB (out [(0 : Nat)] (List.length (putAll [] (0 : Nat) [] [some (alB (newA (IntKind.wrap IntKind.i64 ((2 : Int) + pkV n (63 : Int)))))] [] (0 : Nat) [] ++ news [] (0 : Nat) (List.drop (0 : Nat) [some (alB (newA (IntKind.wrap IntKind.i64 ((2 : Int) + pkV n (63 : Int)))))]))))
                                                              (alB (bar (stA (renB (out [] (0 : Nat)) (alB (newA (IntKind.wrap IntKind.i64 ((2 : Int) + pkV n (63 : Int))))))) (pkV i (IntKind.wrap IntKind.i64 ((2 : Int) + pkV n (63 : Int)))) a))))
                                                          (pkV k (IntKind.wrap IntKind.i64 ((2 : Int) + pkV n (63 : Int)))) b))])
                                                (0 : Nat) AV.ff) ≤
                                            (96 : Int)))
                                        (T.ite
                                          (!blkA
                                              (stA
                                                (renB
                                                  (out [(0 : Nat)]
                                                    (List.length
                                                      (putAll [(0 : Nat)] (List.length (putAll [] (0 : Nat) [] [some (alB (newA (IntKind.wrap IntKind.i64 ((2 : Int) + pkV n (63 : Int)))))] [] (0 : Nat) [] ++ news [] (0 : Nat) (List.drop (0 : Nat) [some (alB (newA (IntKind.wrap IntKind.i64 ((2 : Int) + pkV n (63 : Int)))))])))
                                                          [some (alB (stA (renB (out [] (0 : Nat)) (alB (newA (IntKind.wrap IntKind.i64 ((2 : Int) + pkV n (63 : Int))))))))] [some (alB (bar (stA (renB (out [] (0 : Nat)) (alB (newA (IntKind.wrap IntKind.i64 ((2 : Int) + pkV n (63 : Int))))))) (pkV i (IntKind.wrap IntKind.i64 ((2 : Int) + pkV n (63 : Int)))) a))] [(0 : Nat)] (0 : Nat)
                                                          (putAll [] (0 : Nat) [] [some (alB (newA (IntKind.wrap IntKind.i64 ((2 : Int) + pkV n (63 : Int)))))] [] (0 : Nat) [] ++ news [] (0 : Nat) (List.drop (0 : Nat) [some (alB (newA (IntKind.wrap IntKind.i64 ((2 : Int) + pkV n (63 : Int)))))])) ++
                                                        news [(0 : Nat)] (List.length (putAll [] (0 : Nat) [] [some (alB (newA (IntKind.wrap IntKind.i64 ((2 : Int) + pkV n (63 : Int)))))] [] (0 : Nat) [] ++ news [] (0 : Nat) (List.drop (0 : Nat) [some (alB (newA (IntKind.wrap IntKind.i64 ((2 : Int) + pkV n (63 : Int)))))])))
                                                          (List.drop (1 : Nat) [some (alB (bar (stA (renB (out [] (0 : Nat)) (alB (newA (IntKind.wrap IntKind.i64 ((2 : Int) + pkV n (63 : Int))))))) (pkV i (IntKind.wrap IntKind.i64 ((2 : Int) + pkV n (63 : Int)))) a))]))))
                                                  (alB
                                                    (bar
                                                      (stA
                                                        (renB (out [(0 : Nat)] (List.length (putAll [] (0 : Nat) [] [some (alB (newA (IntKind.wrap IntKind.i64 ((2 : Int) + pkV n (63 : Int)))))] [] (0 : Nat) [] ++ news [] (0 : Nat) (List.drop (0 : Nat) [some (alB (newA (IntKind.wrap IntKind.i64 ((2 : Int) + pkV n (63 : Int)))))]))))
                                                          (alB (bar (stA (renB (out [] (0 : Nat)) (alB (newA (IntKind.wrap IntKind.i64 ((2 : Int) + pkV n (63 : Int))))))) (pkV i (IntKind.wrap IntKind.i64 ((2 : Int) + pkV n (63 : Int)))) a))))
                                                      (pkV k (IntKind.wrap IntKind.i64 ((2 : Int) + pkV n (63 : Int)))) b))))
                                              (pkV k (IntKind.wrap IntKind.i64 ((2 : Int) + pkV n (63 : Int)))))
                                          (T.ret (AV.bool true)) (T.ret AV.ff)))))
                                  (T.ret AV.ff))))
                            (T.ret AV.ff))
                          (T.ite (decide (b > a))
                            (T.ite
                              (!barR
                                  (stA
                                    (renB (out [(0 : Nat)] (List.length (putAll [] (0 : Nat) [] [some (alB (newA (IntKind.wrap IntKind.i64 ((2 : Int) + pkV n (63 : Int)))))] [] (0 : Nat) [] ++ news [] (0 : Nat) (List.drop (0 : Nat) [some (alB (newA (IntKind.wrap IntKind.i64 ((2 : Int) + pkV n (63 : Int)))))]))))
                                      (alB (bar (stA (renB (out [] (0 : Nat)) (alB (newA (IntKind.wrap IntKind.i64 ((2 : Int) + pkV n (63 : Int))))))) (pkV i (IntKind.wrap IntKind.i64 ((2 : Int) + pkV n (63 : Int)))) a))))
                                  (pkV k (IntKind.wrap IntKind.i64 ((2 : Int) + pkV n (63 : Int)))) b)
                              (T.need
                                (IsAl
                                  (Blk.mk true
                                    [AV.int IntKind.i64
                                        (AL.n
                                          (bar
                                            (stA
                                              (renB (out [(0 : Nat)] (List.length (putAll [] (0 : Nat) [] [some (alB (newA (IntKind.wrap IntKind.i64 ((2 : Int) + pkV n (63 : Int)))))] [] (0 : Nat) [] ++ news [] (0 : Nat) (List.drop (0 : Nat) [some (alB (newA (IntKind.wrap IntKind.i64 ((2 : Int) + pkV n (63 : Int)))))]))))
                                                (alB (bar (stA (renB (out [] (0 : Nat)) (alB (newA (IntKind.wrap IntKind.i64 ((2 : Int) + pkV n (63 : Int))))))) (pkV i (IntKind.wrap IntKind.i64 ((2 : Int) + pkV n (63 : Int)))) a))))
                                            (pkV k (IntKind.wrap IntKind.i64 ((2 : Int) + pkV n (63 : Int)))) b))]
                                    (1 : Nat) (96 : Nat)
                                    (fun j =>
                                      [AV.bool
                                          (AL.B
                                            (bar
                                              (stA
                                                (renB (out [(0 : Nat)] (List.length (putAll [] (0 : Nat) [] [some (alB (newA (IntKind.wrap IntKind.i64 ((2 : Int) + pkV n (63 : Int)))))] [] (0 : Nat) [] ++ news [] (0 : Nat) (List.drop (0 : Nat) [some (alB (newA (IntKind.wrap IntKind.i64 ((2 : Int) + pkV n (63 : Int)))))]))))
                                                  (alB (bar (stA (renB (out [] (0 : Nat)) (alB (newA (IntKind.wrap IntKind.i64 ((2 : Int) + pkV n (63 : Int))))))) (pkV i (IntKind.wrap IntKind.i64 ((2 : Int) + pkV n (63 : Int)))) a))))
                                              (pkV k (IntKind.wrap IntKind.i64 ((2 : Int) + pkV n (63 : Int)))) b)
                                            j)])
                                    [AV.int IntKind.i64
                                        (AL.c
                                          (bar
                                            (stA
                                              (renB (out [(0 : Nat)] (List.length (putAll [] (0 : Nat) [] [some (alB (newA (IntKind.wrap IntKind.i64 ((2 : Int) + pkV n (63 : Int)))))] [] (0 : Nat) [] ++ news [] (0 : Nat) (List.drop (0 : Nat) [some (alB (newA (IntKind.wrap IntKind.i64 ((2 : Int) + pkV n (63 : Int)))))]))))
                                                (alB (bar (stA (renB (out [] (0 : Nat)) (alB (newA (IntKind.wrap IntKind.i64 ((2 : Int) + pkV n (63 : Int))))))) (pkV i (IntKind.wrap IntKind.i64 ((2 : Int) + pkV n (63 : Int)))) a))))
                                            (pkV k (IntKind.wrap IntKind.i64 ((2 : Int) + pkV n (63 : Int)))) b)),
                                      AV.int IntKind.i64
                                        (AL.w
                                          (bar
                                            (stA
                                              (renB (out [(0 : Nat)] (List.length (putAll [] (0 : Nat) [] [some (alB (newA (IntKind.wrap IntKind.i64 ((2 : Int) + pkV n (63 : Int)))))] [] (0 : Nat) [] ++ news [] (0 : Nat) (List.drop (0 : Nat) [some (alB (newA (IntKind.wrap IntKind.i64 ((2 : Int) + pkV n (63 : Int)))))]))))
                                                (alB (bar (stA (renB (out [] (0 : Nat)) (alB (newA (IntKind.wrap IntKind.i64 ((2 : Int) + pkV n (63 : Int))))))) (pkV i (IntKind.wrap IntKind.i64 ((2 : Int) + pkV n (63 : Int)))) a))))
                                            (pkV k (IntKind.wrap IntKind.i64 ((2 : Int) + pkV n (63 : Int)))) b)),
                                      AV.int IntKind.i64
                                        (AL.l
                                          (bar
                                            (stA
                                              (renB (out [(0 : Nat)] (List.length (putAll [] (0 : Nat) [] [some (alB (newA (IntKind.wrap IntKind.i64 ((2 : Int) + pkV n (63 : Int)))))] [] (0 : Nat) [] ++ news [] (0 : Nat) (List.drop (0 : Nat) [some (alB (newA (IntKind.wrap IntKind.i64 ((2 : Int) + pkV n (63 : Int)))))]))))
                                                (alB (bar (stA (renB (out [] (0 : Nat)) (alB (newA (IntKind.wrap IntKind.i64 ((2 : Int) + pkV n (63 : Int))))))) (pkV i (IntKind.wrap IntKind.i64 ((2 : Int) + pkV n (63 : Int)))) a))))
                                            (pkV k (IntKind.wrap IntKind.i64 ((2 : Int) + pkV n (63 : Int)))) b)),
                                      AV.bool
                                        (AL.d
                                          (bar
                                            (stA
                                              (renB (out [(0 : Nat)] (List.length (putAll [] (0 : Nat) [] [some (alB (newA (IntKind.wrap IntKind.i64 ((2 : Int) + pkV n (63 : Int)))))] [] (0 : Nat) [] ++ news [] (0 : Nat) (List.drop (0 : Nat) [some (alB (newA (IntKind.wrap IntKind.i64 ((2 : Int) + pkV n (63 : Int)))))]))))
                                                (alB (bar (stA (renB (out [] (0 : Nat)) (alB (newA (IntKind.wrap IntKind.i64 ((2 : Int) + pkV n (63 : Int))))))) (pkV i (IntKind.wrap IntKind.i64 ((2 : Int) + pkV n (63 : Int)))) a))))
                                            (pkV k (IntKind.wrap IntKind.i64 ((2 : Int) + pkV n (63 : Int)))) b))]))
                                (T.chk
                                  (decide
                                    (intA
                                        (List.getD
                                          (renL
                                            (out [(0 : Nat)]
                                              (List.length
                                                (putAll [(0 : Nat)] (List.length (putAll [] (0 : Nat) [] [some (alB (newA (IntKind.wrap IntKind.i64 ((2 : Int) + pkV n (63 : Int)))))] [] (0 : Nat) [] ++ news [] (0 : Nat) (List.drop (0 : Nat) [some (alB (newA (IntKind.wrap IntKind.i64 ((2 : Int) + pkV n (63 : Int)))))])))
                                                    [some (alB (stA (renB (out [] (0 : Nat)) (alB (newA (IntKind.wrap IntKind.i64 ((2 : Int) + pkV n (63 : Int))))))))] [some (alB (bar (stA (renB (out [] (0 : Nat)) (alB (newA (IntKind.wrap IntKind.i64 ((2 : Int) + pkV n (63 : Int))))))) (pkV i (IntKind.wrap IntKind.i64 ((2 : Int) + pkV n (63 : Int)))) a))] [(0 : Nat)] (0 : Nat)
                                                    (putAll [] (0 : Nat) [] [some (alB (newA (IntKind.wrap IntKind.i64 ((2 : Int) + pkV n (63 : Int)))))] [] (0 : Nat) [] ++ news [] (0 : Nat) (List.drop (0 : Nat) [some (alB (newA (IntKind.wrap IntKind.i64 ((2 : Int) + pkV n (63 : Int)))))])) ++
                                                  news [(0 : Nat)] (List.length (putAll [] (0 : Nat) [] [some (alB (newA (IntKind.wrap IntKind.i64 ((2 : Int) + pkV n (63 : Int)))))] [] (0 : Nat) [] ++ news [] (0 : Nat) (List.drop (0 : Nat) [some (alB (newA (IntKind.wrap IntKind.i64 ((2 : Int) + pkV n (63 : Int)))))])))
                                                    (List.drop (1 : Nat) [some (alB (bar (stA (renB (out [] (0 : Nat)) (alB (newA (IntKind.wrap IntKind.i64 ((2 : Int) + pkV n (63 : Int))))))) (pkV i (IntKind.wrap IntKind.i64 ((2 : Int) + pkV n (63 : Int)))) a))]))))
                                            [AV.int IntKind.i64
                                                (AL.n
                                                  (bar
                                                    (stA
                                                      (renB (out [(0 : Nat)] (List.length (putAll [] (0 : Nat) [] [some (alB (newA (IntKind.wrap IntKind.i64 ((2 : Int) + pkV n (63 : Int)))))] [] (0 : Nat) [] ++ news [] (0 : Nat) (List.drop (0 : Nat) [some (alB (newA (IntKind.wrap IntKind.i64 ((2 : Int) + pkV n (63 : Int)))))]))))
                                                        (alB (bar (stA (renB (out [] (0 : Nat)) (alB (newA (IntKind.wrap IntKind.i64 ((2 : Int) + pkV n (63 : Int))))))) (pkV i (IntKind.wrap IntKind.i64 ((2 : Int) + pkV n (63 : Int)))) a))))
                                                    (pkV k (IntKind.wrap IntKind.i64 ((2 : Int) + pkV n (63 : Int)))) b))])
                                          (0 : Nat) AV.ff) ≤
                                      (96 : Int)))
                                  (T.ite
                                    (blkA
                                      (stA
                                        (renB
                                          (out [(0 : Nat)]
                                            (List.length
                                              (putAll [(0 : Nat)] (List.length (putAll [] (0 : Nat) [] [some (alB (newA (IntKind.wrap IntKind.i64 ((2 : Int) + pkV n (63 : Int)))))] [] (0 : Nat) [] ++ news [] (0 : Nat) (List.drop (0 : Nat) [some (alB (newA (IntKind.wrap IntKind.i64 ((2 : Int) + pkV n (63 : Int)))))])))
                                                  [some (alB (stA (renB (out [] (0 : Nat)) (alB (newA (IntKind.wrap IntKind.i64 ((2 : Int) + pkV n (63 : Int))))))))] [some (alB (bar (stA (renB (out [] (0 : Nat)) (alB (newA (IntKind.wrap IntKind.i64 ((2 : Int) + pkV n (63 : Int))))))) (pkV i (IntKind.wrap IntKind.i64 ((2 : Int) + pkV n (63 : Int)))) a))] [(0 : Nat)] (0 : Nat)
                                                  (putAll [] (0 : Nat) [] [some (alB (newA (IntKind.wrap IntKind.i64 ((2 : Int) + pkV n (63 : Int)))))] [] (0 : Nat) [] ++ news [] (0 : Nat) (List.drop (0 : Nat) [some (alB (newA (IntKind.wrap IntKind.i64 ((2 : Int) + pkV n (63 : Int)))))])) ++
                                                news [(0 : Nat)] (List.length (putAll [] (0 : Nat) [] [some (alB (newA (IntKind.wrap IntKind.i64 ((2 : Int) + pkV n (63 : Int)))))] [] (0 : Nat) [] ++ news [] (0 : Nat) (List.drop (0 : Nat) [some (alB (newA (IntKind.wrap IntKind.i64 ((2 : Int) + pkV n (63 : Int)))))])))
                                                  (List.drop (1 : Nat) [some (alB (bar (stA (renB (out [] (0 : Nat)) (alB (newA (IntKind.wrap IntKind.i64 ((2 : Int) + pkV n (63 : Int))))))) (pkV i (IntKind.wrap IntKind.i64 ((2 : Int) + pkV n (63 : Int)))) a))]))))
                                          (alB
                                            (bar
                                              (stA
                                                (renB (out [(0 : Nat)] (List.length (putAll [] (0 : Nat) [] [some (alB (newA (IntKind.wrap IntKind.i64 ((2 : Int) + pkV n (63 : Int)))))] [] (0 : Nat) [] ++ news [] (0 : Nat) (List.drop (0 : Nat) [some (alB (newA (IntKind.wrap IntKind.i64 ((2 : Int) + pkV n (63 : Int)))))]))))
                                                  (alB (bar (stA (renB (out [] (0 : Nat)) (alB (newA (IntKind.wrap IntKind.i64 ((2 : Int) + pkV n (63 : Int))))))) (pkV i (IntKind.wrap IntKind.i64 ((2 : Int) + pkV n (63 : Int)))) a))))
                                              (pkV k (IntKind.wrap IntKind.i64 ((2 : Int) + pkV n (63 : Int)))) b))))
                                      (pkV k (IntKind.wrap IntKind.i64 ((2 : Int) + pkV n (63 : Int)))))
                                    (T.ite (pkV k (IntKind.wrap IntKind.i64 ((2 : Int) + pkV n (63 : Int))) == pkV i (IntKind.wrap IntKind.i64 ((2 : Int) + pkV n (63 : Int)))) (T.ret (AV.bool true))
                                      (T.need
                                        (IsAl
                                          (Blk.mk true
                                            [AV.int IntKind.i64
                                                (AL.n
                                                  (bar
                                                    (stA
                                                      (renB (out [(0 : Nat)] (List.length (putAll [] (0 : Nat) [] [some (alB (newA (IntKind.wrap IntKind.i64 ((2 : Int) + pkV n (63 : Int)))))] [] (0 : Nat) [] ++ news [] (0 : Nat) (List.drop (0 : Nat) [some (alB (newA (IntKind.wrap IntKind.i64 ((2 : Int) + pkV n (63 : Int)))))]))))
                                                        (alB (bar (stA (renB (out [] (0 : Nat)) (alB (newA (IntKind.wrap IntKind.i64 ((2 : Int) + pkV n (63 : Int))))))) (pkV i (IntKind.wrap IntKind.i64 ((2 : Int) + pkV n (63 : Int)))) a))))
                                                    (pkV k (IntKind.wrap IntKind.i64 ((2 : Int) + pkV n (63 : Int)))) b))]
                                            (1 : Nat) (96 : Nat)
                                            (fun j =>
                                              [AV.bool
                                                  (AL.B
                                                    (bar
                                                      (stA
                                                        (renB (out [(0 : Nat)] (List.length (putAll [] (0 : Nat) [] [some (alB (newA (IntKind.wrap IntKind.i64 ((2 : Int) + pkV n (63 : Int)))))] [] (0 : Nat) [] ++ news [] (0 : Nat) (List.drop (0 : Nat) [some (alB (newA (IntKind.wrap IntKind.i64 ((2 : Int) + pkV n (63 : Int)))))]))))
                                                          (alB (bar (stA (renB (out [] (0 : Nat)) (alB (newA (IntKind.wrap IntKind.i64 ((2 : Int) + pkV n (63 : Int))))))) (pkV i (IntKind.wrap IntKind.i64 ((2 : Int) + pkV n (63 : Int)))) a))))
                                                      (pkV k (IntKind.wrap IntKind.i64 ((2 : Int) + pkV n (63 : Int)))) b)
                                                    j)])
                                            [AV.int IntKind.i64
                                                (AL.c
                                                  (bar
                                                    (stA
                                                      (renB (out [(0 : Nat)] (List.length (putAll [] (0 : Nat) [] [some (alB (newA (IntKind.wrap IntKind.i64 ((2 : Int) + pkV n (63 : Int)))))] [] (0 : Nat) [] ++ news [] (0 : Nat) (List.drop (0 : Nat) [some (alB (newA (IntKind.wrap IntKind.i64 ((2 : Int) + pkV n (63 : Int)))))]))))
                                                        (alB (bar (stA (renB (out [] (0 : Nat)) (alB (newA (IntKind.wrap IntKind.i64 ((2 : Int) + pkV n (63 : Int))))))) (pkV i (IntKind.wrap IntKind.i64 ((2 : Int) + pkV n (63 : Int)))) a))))
                                                    (pkV k (IntKind.wrap IntKind.i64 ((2 : Int) + pkV n (63 : Int)))) b)),
                                              AV.int IntKind.i64
                                                (AL.w
                                                  (bar
                                                    (stA
                                                      (renB (out [(0 : Nat)] (List.length (putAll [] (0 : Nat) [] [some (alB (newA (IntKind.wrap IntKind.i64 ((2 : Int) + pkV n (63 : Int)))))] [] (0 : Nat) [] ++ news [] (0 : Nat) (List.drop (0 : Nat) [some (alB (newA (IntKind.wrap IntKind.i64 ((2 : Int) + pkV n (63 : Int)))))]))))
                                                        (alB (bar (stA (renB (out [] (0 : Nat)) (alB (newA (IntKind.wrap IntKind.i64 ((2 : Int) + pkV n (63 : Int))))))) (pkV i (IntKind.wrap IntKind.i64 ((2 : Int) + pkV n (63 : Int)))) a))))
                                                    (pkV k (IntKind.wrap IntKind.i64 ((2 : Int) + pkV n (63 : Int)))) b)),
                                              AV.int IntKind.i64
                                                (AL.l
                                                  (bar
                                                    (stA
                                                      (renB (out [(0 : Nat)] (List.length (putAll [] (0 : Nat) [] [some (alB (newA (IntKind.wrap IntKind.i64 ((2 : Int) + pkV n (63 : Int)))))] [] (0 : Nat) [] ++ news [] (0 : Nat) (List.drop (0 : Nat) [some (alB (newA (IntKind.wrap IntKind.i64 ((2 : Int) + pkV n (63 : Int)))))]))))
                                                        (alB (bar (stA (renB (out [] (0 : Nat)) (alB (newA (IntKind.wrap IntKind.i64 ((2 : Int) + pkV n (63 : Int))))))) (pkV i (IntKind.wrap IntKind.i64 ((2 : Int) + pkV n (63 : Int)))) a))))
                                                    (pkV k (IntKind.wrap IntKind.i64 ((2 : Int) + pkV n (63 : Int)))) b)),
                                              AV.bool
                                                (AL.d
                                                  (bar
                                                    (stA
                                                      (renB (out [(0 : Nat)] (List.length (putAll [] (0 : Nat) [] [some (alB (newA (IntKind.wrap IntKind.i64 ((2 : Int) + pkV n (63 : Int)))))] [] (0 : Nat) [] ++ news [] (0 : Nat) (List.drop (0 : Nat) [some (alB (newA (IntKind.wrap IntKind.i64 ((2 : Int) + pkV n (63 : Int)))))]))))
                                                        (alB (bar (stA (renB (out [] (0 : Nat)) (alB (newA (IntKind.wrap IntKind.i64 ((2 : Int) + pkV n (63 : Int))))))) (pkV i (IntKind.wrap IntKind.i64 ((2 : Int) + pkV n (63 : Int)))) a))))
                                                    (pkV k (IntKind.wrap IntKind.i64 ((2 : Int) + pkV n (63 : Int)))) b))]))
                                        (T.chk
                                          (decide
                                            (intA
                                                (List.getD
                                                  (renL
                                                    (out [(0 : Nat)]
                                                      (List.length
                                                        (putAll [(0 : Nat)] (List.length (putAll [] (0 : Nat) [] [some (alB (newA (IntKind.wrap IntKind.i64 ((2 : Int) + pkV n (63 : Int)))))] [] (0 : Nat) [] ++ news [] (0 : Nat) (List.drop (0 : Nat) [some (alB (newA (IntKind.wrap IntKind.i64 ((2 : Int) + pkV n (63 : Int)))))])))
                                                            [some (alB (stA (renB (out [] (0 : Nat)) (alB (newA (IntKind.wrap IntKind.i64 ((2 : Int) + pkV n (63 : Int))))))))] [some (alB (bar (stA (renB (out [] (0 : Nat)) (alB (newA (IntKind.wrap IntKind.i64 ((2 : Int) + pkV n (63 : Int))))))) (pkV i (IntKind.wrap IntKind.i64 ((2 : Int) + pkV n (63 : Int)))) a))] [(0 : Nat)] (0 : Nat)
                                                            (putAll [] (0 : Nat) [] [some (alB (newA (IntKind.wrap IntKind.i64 ((2 : Int) + pkV n (63 : Int)))))] [] (0 : Nat) [] ++ news [] (0 : Nat) (List.drop (0 : Nat) [some (alB (newA (IntKind.wrap IntKind.i64 ((2 : Int) + pkV n (63 : Int)))))])) ++
                                                          news [(0 : Nat)] (List.length (putAll [] (0 : Nat) [] [some (alB (newA (IntKind.wrap IntKind.i64 ((2 : Int) + pkV n (63 : Int)))))] [] (0 : Nat) [] ++ news [] (0 : Nat) (List.drop (0 : Nat) [some (alB (newA (IntKind.wrap IntKind.i64 ((2 : Int) + pkV n (63 : Int)))))])))
                                                            (List.drop (1 : Nat) [some (alB (bar (stA (renB (out [] (0 : Nat)) (alB (newA (IntKind.wrap IntKind.i64 ((2 : Int) + pkV n (63 : Int))))))) (pkV i (IntKind.wrap IntKind.i64 ((2 : Int) + pkV n (63 : Int)))) a))]))))
                                                    [AV.int IntKind.i64
                                                        (AL.n
                                                          (bar
                                                            (stA
                                                              (renB (out [(0 : Nat)] (List.length (putAll [] (0 : Nat) [] [some (alB (newA (IntKind.wrap IntKind.i64 ((2 : Int) + pkV n (63 : Int)))))] [] (0 : Nat) [] ++ news [] (0 : Nat) (List.drop (0 : Nat) [some (alB (newA (IntKind.wrap IntKind.i64 ((2 : Int) + pkV n (63 : Int)))))]))))
                                                                (alB (bar (stA (renB (out [] (0 : Nat)) (alB (newA (IntKind.wrap IntKind.i64 ((2 : Int) + pkV n (63 : Int))))))) (pkV i (IntKind.wrap IntKind.i64 ((2 : Int) + pkV n (63 : Int)))) a))))
                                                            (pkV k (IntKind.wrap IntKind.i64 ((2 : Int) + pkV n (63 : Int)))) b))])
                                                  (0 : Nat) AV.ff) ≤
                                              (96 : Int)))
                                          (T.ite
                                            (!blkA
                                                (stA
                                                  (renB
                                                    (out [(0 : Nat)]
                                                      (List.length
                                                        (putAll [(0 : Nat)] (List.length (putAll [] (0 : Nat) [] [some (alB (newA (IntKind.wrap IntKind.i64 ((2 : Int) + pkV n (63 : Int)))))] [] (0 : Nat) [] ++ news [] (0 : Nat) (List.drop (0 : Nat) [some (alB (newA (IntKind.wrap IntKind.i64 ((2 : Int) + pkV n (63 : Int)))))])))
                                                            [some (alB (stA (renB (out [] (0 : Nat)) (alB (newA (IntKind.wrap IntKind.i64 ((2 : Int) + pkV n (63 : Int))))))))] [some (alB (bar (stA (renB (out [] (0 : Nat)) (alB (newA (IntKind.wrap IntKind.i64 ((2 : Int) + pkV n (63 : Int))))))) (pkV i (IntKind.wrap IntKind.i64 ((2 : Int) + pkV n (63 : Int)))) a))] [(0 : Nat)] (0 : Nat)
                                                            (putAll [] (0 : Nat) [] [some (alB (newA (IntKind.wrap IntKind.i64 ((2 : Int) + pkV n (63 : Int)))))] [] (0 : Nat) [] ++ news [] (0 : Nat) (List.drop (0 : Nat) [some (alB (newA (IntKind.wrap IntKind.i64 ((2 : Int) + pkV n (63 : Int)))))])) ++
                                                          news [(0 : Nat)] (List.length (putAll [] (0 : Nat) [] [some (alB (newA (IntKind.wrap IntKind.i64 ((2 : Int) + pkV n (63 : Int)))))] [] (0 : Nat) [] ++ news [] (0 : Nat) (List.drop (0 : Nat) [some (alB (newA (IntKind.wrap IntKind.i64 ((2 : Int) + pkV n (63 : Int)))))])))
                                                            (List.drop (1 : Nat) [some (alB (bar (stA (renB (out [] (0 : Nat)) (alB (newA (IntKind.wrap IntKind.i64 ((2 : Int) + pkV n (63 : Int))))))) (pkV i (IntKind.wrap IntKind.i64 ((2 : Int) + pkV n (63 : Int)))) a))]))))
                                                    (alB
                                                      (bar
                                                        (stA
                                                          (renB (out [(0 : Nat)] (List.length (putAll [] (0 : Nat) [] [some (alB (newA (IntKind.wrap IntKind.i64 ((2 : Int) + pkV n (63 : Int)))))] [] (0 : Nat) [] ++ news [] (0 : Nat) (List.drop (0 : Nat) [some (alB (newA (IntKind.wrap IntKind.i64 ((2 : Int) + pkV n (63 : Int)))))]))))
                                                            (alB (bar (stA (renB (out [] (0 : Nat)) (alB (newA (IntKind.wrap IntKind.i64 ((2 : Int) + pkV n (63 : Int))))))) (pkV i (IntKind.wrap IntKind.i64 ((2 : Int) + pkV n (63 : Int)))) a))))
                                                        (pkV k (IntKind.wrap IntKind.i64 ((2 : Int) + pkV n (63 : Int)))) b))))
                                                (pkV i (IntKind.wrap IntKind.i64 ((2 : Int) + pkV n (63 : Int)))))
                                            (T.ret (AV.bool true)) (T.ret AV.ff)))))
                                    (T.ret AV.ff))))
                              (T.ret AV.ff))
                            (T.ite (IntKind.wrap IntKind.i64 ((2 : Int) + pkV n (63 : Int)) == (2 : Int))
                              (T.ite
                                (barR
                                    (stA
                                      (renB (out [(0 : Nat)] (List.length (putAll [] (0 : Nat) [] [some (alB (newA (IntKind.wrap IntKind.i64 ((2 : Int) + pkV n (63 : Int)))))] [] (0 : Nat) [] ++ news [] (0 : Nat) (List.drop (0 : Nat) [some (alB (newA (IntKind.wrap IntKind.i64 ((2 : Int) + pkV n (63 : Int)))))]))))
                                        (alB (bar (stA (renB (out [] (0 : Nat)) (alB (newA (IntKind.wrap IntKind.i64 ((2 : Int) + pkV n (63 : Int))))))) (pkV i (IntKind.wrap IntKind.i64 ((2 : Int) + pkV n (63 : Int)))) a))))
                                    (pkV k (IntKind.wrap IntKind.i64 ((2 : Int) + pkV n (63 : Int)))) b ==
                                  (pkV k (IntKind.wrap IntKind.i64 ((2 : Int) + pkV n (63 : Int))) != pkV i (IntKind.wrap IntKind.i64 ((2 : Int) + pkV n (63 : Int)))))
                                (T.need
                                  (IsAl
                                    (Blk.mk true
                                      [AV.int IntKind.i64
                                          (AL.n
                                            (bar
                                              (stA
                                                (renB (out [(0 : Nat)] (List.length (putAll [] (0 : Nat) [] [some (alB (newA (IntKind.wrap IntKind.i64 ((2 : Int) + pkV n (63 : Int)))))] [] (0 : Nat) [] ++ news [] (0 : Nat) (List.drop (0 : Nat) [some (alB (newA (IntKind.wrap IntKind.i64 ((2 : Int) + pkV n (63 : Int)))))]))))
                                                  (alB (bar (stA (renB (out [] (0 : Nat)) (alB (newA (IntKind.wrap IntKind.i64 ((2 : Int) + pkV n (63 : Int))))))) (pkV i (IntKind.wrap IntKind.i64 ((2 : Int) + pkV n (63 : Int)))) a))))
                                              (pkV k (IntKind.wrap IntKind.i64 ((2 : Int) + pkV n (63 : Int)))) b))]
                                      (1 : Nat) (96 : Nat)
                                      (fun j =>
                                        [AV.bool
                                            (AL.B
                                              (bar
                                                (stA
                                                  (renB (out [(0 : Nat)] (List.length (putAll [] (0 : Nat) [] [some (alB (newA (IntKind.wrap IntKind.i64 ((2 : Int) + pkV n (63 : Int)))))] [] (0 : Nat) [] ++ news [] (0 : Nat) (List.drop (0 : Nat) [some (alB (newA (IntKind.wrap IntKind.i64 ((2 : Int) + pkV n (63 : Int)))))]))))
                                                    (alB (bar (stA (renB (out [] (0 : Nat)) (alB (newA (IntKind.wrap IntKind.i64 ((2 : Int) + pkV n (63 : Int))))))) (pkV i (IntKind.wrap IntKind.i64 ((2 : Int) + pkV n (63 : Int)))) a))))
                                                (pkV k (IntKind.wrap IntKind.i64 ((2 : Int) + pkV n (63 : Int)))) b)
                                              j)])
                                      [AV.int IntKind.i64
                                          (AL.c
                                            (bar
                                              (stA
                                                (renB (out [(0 : Nat)] (List.length (putAll [] (0 : Nat) [] [some (alB (newA (IntKind.wrap IntKind.i64 ((2 : Int) + pkV n (63 : Int)))))] [] (0 : Nat) [] ++ news [] (0 : Nat) (List.drop (0 : Nat) [some (alB (newA (IntKind.wrap IntKind.i64 ((2 : Int) + pkV n (63 : Int)))))]))))
                                                  (alB (bar (stA (renB (out [] (0 : Nat)) (alB (newA (IntKind.wrap IntKind.i64 ((2 : Int) + pkV n (63 : Int))))))) (pkV i (IntKind.wrap IntKind.i64 ((2 : Int) + pkV n (63 : Int)))) a))))
                                              (pkV k (IntKind.wrap IntKind.i64 ((2 : Int) + pkV n (63 : Int)))) b)),
                                        AV.int IntKind.i64
                                          (AL.w
                                            (bar
                                              (stA
                                                (renB (out [(0 : Nat)] (List.length (putAll [] (0 : Nat) [] [some (alB (newA (IntKind.wrap IntKind.i64 ((2 : Int) + pkV n (63 : Int)))))] [] (0 : Nat) [] ++ news [] (0 : Nat) (List.drop (0 : Nat) [some (alB (newA (IntKind.wrap IntKind.i64 ((2 : Int) + pkV n (63 : Int)))))]))))
                                                  (alB (bar (stA (renB (out [] (0 : Nat)) (alB (newA (IntKind.wrap IntKind.i64 ((2 : Int) + pkV n (63 : Int))))))) (pkV i (IntKind.wrap IntKind.i64 ((2 : Int) + pkV n (63 : Int)))) a))))
                                              (pkV k (IntKind.wrap IntKind.i64 ((2 : Int) + pkV n (63 : Int)))) b)),
                                        AV.int IntKind.i64
                                          (AL.l
                                            (bar
                                              (stA
                                                (renB (out [(0 : Nat)] (List.length (putAll [] (0 : Nat) [] [some (alB (newA (IntKind.wrap IntKind.i64 ((2 : Int) + pkV n (63 : Int)))))] [] (0 : Nat) [] ++ news [] (0 : Nat) (List.drop (0 : Nat) [some (alB (newA (IntKind.wrap IntKind.i64 ((2 : Int) + pkV n (63 : Int)))))]))))
                                                  (alB (bar (stA (renB (out [] (0 : Nat)) (alB (newA (IntKind.wrap IntKind.i64 ((2 : Int) + pkV n (63 : Int))))))) (pkV i (IntKind.wrap IntKind.i64 ((2 : Int) + pkV n (63 : Int)))) a))))
                                              (pkV k (IntKind.wrap IntKind.i64 ((2 : Int) + pkV n (63 : Int)))) b)),
                                        AV.bool
                                          (AL.d
                                            (bar
                                              (stA
                                                (renB (out [(0 : Nat)] (List.length (putAll [] (0 : Nat) [] [some (alB (newA (IntKind.wrap IntKind.i64 ((2 : Int) + pkV n (63 : Int)))))] [] (0 : Nat) [] ++ news [] (0 : Nat) (List.drop (0 : Nat) [some (alB (newA (IntKind.wrap IntKind.i64 ((2 : Int) + pkV n (63 : Int)))))]))))
                                                  (alB (bar (stA (renB (out [] (0 : Nat)) (alB (newA (IntKind.wrap IntKind.i64 ((2 : Int) + pkV n (63 : Int))))))) (pkV i (IntKind.wrap IntKind.i64 ((2 : Int) + pkV n (63 : Int)))) a))))
                                              (pkV k (IntKind.wrap IntKind.i64 ((2 : Int) + pkV n (63 : Int)))) b))]))
                                  (T.chk
                                    (decide
                                      (intA
                                          (List.getD
                                            (renL
                                              (out [(0 : Nat)]
                                                (List.length
                                                  (putAll [(0 : Nat)] (List.length (putAll [] (0 : Nat) [] [some (alB (newA (IntKind.wrap IntKind.i64 ((2 : Int) + pkV n (63 : Int)))))] [] (0 : Nat) [] ++ news [] (0 : Nat) (List.drop (0 : Nat) [some (alB (newA (IntKind.wrap IntKind.i64 ((2 : Int) + pkV n (63 : Int)))))])))
                                                      [some (alB (stA (renB (out [] (0 : Nat)) (alB (newA (IntKind.wrap IntKind.i64 ((2 : Int) + pkV n (63 : Int))))))))] [some (alB (bar (stA (renB (out [] (0 : Nat)) (alB (newA (IntKind.wrap IntKind.i64 ((2 : Int) + pkV n (63 : Int))))))) (pkV i (IntKind.wrap IntKind.i64 ((2 : Int) + pkV n (63 : Int)))) a))] [(0 : Nat)] (0 : Nat)
                                                      (putAll [] (0 : Nat) [] [some (alB (newA (IntKind.wrap IntKind.i64 ((2 : Int) + pkV n (63 : Int)))))] [] (0 : Nat) [] ++ news [] (0 : Nat) (List.drop (0 : Nat) [some (alB (newA (IntKind.wrap IntKind.i64 ((2 : Int) + pkV n (63 : Int)))))])) ++
                                                    news [(0 : Nat)] (List.length (putAll [] (0 : Nat) [] [some (alB (newA (IntKind.wrap IntKind.i64 ((2 : Int) + pkV n (63 : Int)))))] [] (0 : Nat) [] ++ news [] (0 : Nat) (List.drop (0 : Nat) [some (alB (newA (IntKind.wrap IntKind.i64 ((2 : Int) + pkV n (63 : Int)))))])))
                                                      (List.drop (1 : Nat) [some (alB (bar (stA (renB (out [] (0 : Nat)) (alB (newA (IntKind.wrap IntKind.i64 ((2 : Int) + pkV n (63 : Int))))))) (pkV i (IntKind.wrap IntKind.i64 ((2 : Int) + pkV n (63 : Int)))) a))]))))
                                              [AV.int IntKind.i64
                                                  (AL.n
                                                    (bar
                                                      (stA
                                                        (renB (out [(0 : Nat)] (List.length (putAll [] (0 : Nat) [] [some (alB (newA (IntKind.wrap IntKind.i64 ((2 : Int) + pkV n (63 : Int)))))] [] (0 : Nat) [] ++ news [] (0 : Nat) (List.drop (0 : Nat) [some (alB (newA (IntKind.wrap IntKind.i64 ((2 : Int) + pkV n (63 : Int)))))]))))
                                                          (alB (bar (stA (renB (out [] (0 : Nat)) (alB (newA (IntKind.wrap IntKind.i64 ((2 : Int) + pkV n (63 : Int))))))) (pkV i (IntKind.wrap IntKind.i64 ((2 : Int) + pkV n (63 : Int)))) a))))
                                                      (pkV k (IntKind.wrap IntKind.i64 ((2 : Int) + pkV n (63 : Int)))) b))])
                                            (0 : Nat) AV.ff) ≤
                                        (96 : Int)))
                                    (T.ite
                                      (blkA
                                          (stA
                                            (renB
                                              (out [(0 : Nat)]
                                                (List.length
                                                  (putAll [(0 : Nat)] (List.length (putAll [] (0 : Nat) [] [some (alB (newA (IntKind.wrap IntKind.i64 ((2 : Int) + pkV n (63 : Int)))))] [] (0 : Nat) [] ++ news [] (0 : Nat) (List.drop (0 : Nat) [some (alB (newA (IntKind.wrap IntKind.i64 ((2 : Int) + pkV n (63 : Int)))))])))
                                                      [some (alB (stA (renB (out [] (0 : Nat)) (alB (newA (IntKind.wrap IntKind.i64 ((2 : Int) + pkV n (63 : Int))))))))] [some (alB (bar (stA (renB (out [] (0 : Nat)) (alB (newA (IntKind.wrap IntKind.i64 ((2 : Int) + pkV n (63 : Int))))))) (pkV i (IntKind.wrap IntKind.i64 ((2 : Int) + pkV n (63 : Int)))) a))] [(0 : Nat)] (0 : Nat)
                                                      (putAll [] (0 : Nat) [] [some (alB (newA (IntKind.wrap IntKind.i64 ((2 : Int) + pkV n (63 : Int)))))] [] (0 : Nat) [] ++ news [] (0 : Nat) (List.drop (0 : Nat) [some (alB (newA (IntKind.wrap IntKind.i64 ((2 : Int) + pkV n (63 : Int)))))])) ++
                                                    news [(0 : Nat)] (List.length (putAll [] (0 : Nat) [] [some (alB (newA (IntKind.wrap IntKind.i64 ((2 : Int) + pkV n (63 : Int)))))] [] (0 : Nat) [] ++ news [] (0 : Nat) (List.drop (0 : Nat) [some (alB (newA (IntKind.wrap IntKind.i64 ((2 : Int) + pkV n (63 : Int)))))])))
                                                      (List.drop (1 : Nat) [some (alB (bar (stA (renB (out [] (0 : Nat)) (alB (newA (IntKind.wrap IntKind.i64 ((2 : Int) + pkV n (63 : Int))))))) (pkV i (IntKind.wrap IntKind.i64 ((2 : Int) + pkV n (63 : Int)))) a))]))))
                                              (alB
                                                (bar
                                                  (stA
                                                    (renB (out [(0 : Nat)] (List.length (putAll [] (0 : Nat) [] [some (alB (newA (IntKind.wrap IntKind.i64 ((2 : Int) + pkV n (63 : Int)))))] [] (0 : Nat) [] ++ news [] (0 : Nat) (List.drop (0 : Nat) [some (alB (newA (IntKind.wrap IntKind.i64 ((2 : Int) + pkV n (63 : Int)))))]))))
                                                      (alB (bar (stA (renB (out [] (0 : Nat)) (alB (newA (IntKind.wrap IntKind.i64 ((2 : Int) + pkV n (63 : Int))))))) (pkV i (IntKind.wrap IntKind.i64 ((2 : Int) + pkV n (63 : Int)))) a))))
                                                  (pkV k (IntKind.wrap IntKind.i64 ((2 : Int) + pkV n (63 : Int)))) b))))
                                          (pkV i (IntKind.wrap IntKind.i64 ((2 : Int) + pkV n (63 : Int)))) ==
                                        !barR
                                            (stA
                                              (renB (out [(0 : Nat)] (List.length (putAll [] (0 : Nat) [] [some (alB (newA (IntKind.wrap IntKind.i64 ((2 : Int) + pkV n (63 : Int)))))] [] (0 : Nat) [] ++ news [] (0 : Nat) (List.drop (0 : Nat) [some (alB (newA (IntKind.wrap IntKind.i64 ((2 : Int) + pkV n (63 : Int)))))]))))
                                                (alB (bar (stA (renB (out [] (0 : Nat)) (alB (newA (IntKind.wrap IntKind.i64 ((2 : Int) + pkV n (63 : Int))))))) (pkV i (IntKind.wrap IntKind.i64 ((2 : Int) + pkV n (63 : Int)))) a))))
                                            (pkV k (IntKind.wrap IntKind.i64 ((2 : Int) + pkV n (63 : Int)))) b)
                                      (T.ret (AV.bool true)) (T.ret AV.ff))))
                                (T.ret AV.ff))
                              (T.ite
                                (barR
                                    (stA
                                      (renB (out [(0 : Nat)] (List.length (putAll [] (0 : Nat) [] [some (alB (newA (IntKind.wrap IntKind.i64 ((2 : Int) + pkV n (63 : Int)))))] [] (0 : Nat) [] ++ news [] (0 : Nat) (List.drop (0 : Nat) [some (alB (newA (IntKind.wrap IntKind.i64 ((2 : Int) + pkV n (63 : Int)))))]))))
                                        (alB (bar (stA (renB (out [] (0 : Nat)) (alB (newA (IntKind.wrap IntKind.i64 ((2 : Int) + pkV n (63 : Int))))))) (pkV i (IntKind.wrap IntKind.i64 ((2 : Int) + pkV n (63 : Int)))) a))))
                                    (pkV k (IntKind.wrap IntKind.i64 ((2 : Int) + pkV n (63 : Int)))) b ==
                                  false)
                                (T.need
                                  (IsAl
                                    (Blk.mk true
                                      [AV.int IntKind.i64
                                          (AL.n
                                            (bar
                                              (stA
                                                (renB (out [(0 : Nat)] (List.length (putAll [] (0 : Nat) [] [some (alB (newA (IntKind.wrap IntKind.i64 ((2 : Int) + pkV n (63 : Int)))))] [] (0 : Nat) [] ++ news [] (0 : Nat) (List.drop (0 : Nat) [some (alB (newA (IntKind.wrap IntKind.i64 ((2 : Int) + pkV n (63 : Int)))))]))))
                                                  (alB (bar (stA (renB (out [] (0 : Nat)) (alB (newA (IntKind.wrap IntKind.i64 ((2 : Int) + pkV n (63 : Int))))))) (pkV i (IntKind.wrap IntKind.i64 ((2 : Int) + pkV n (63 : Int)))) a))))
                                              (pkV k (IntKind.wrap IntKind.i64 ((2 : Int) + pkV n (63 : Int)))) b))]
                                      (1 : Nat) (96 : Nat)
                                      (fun j =>
                                        [AV.bool
                                            (AL.B
                                              (bar
                                                (stA
                                                  (renB (out [(0 : Nat)] (List.length (putAll [] (0 : Nat) [] [some (alB (newA (IntKind.wrap IntKind.i64 ((2 : Int) + pkV n (63 : Int)))))] [] (0 : Nat) [] ++ news [] (0 : Nat) (List.drop (0 : Nat) [some (alB (newA (IntKind.wrap IntKind.i64 ((2 : Int) + pkV n (63 : Int)))))]))))
                                                    (alB (bar (stA (renB (out [] (0 : Nat)) (alB (newA (IntKind.wrap IntKind.i64 ((2 : Int) + pkV n (63 : Int))))))) (pkV i (IntKind.wrap IntKind.i64 ((2 : Int) + pkV n (63 : Int)))) a))))
                                                (pkV k (IntKind.wrap IntKind.i64 ((2 : Int) + pkV n (63 : Int)))) b)
                                              j)])
                                      [AV.int IntKind.i64
                                          (AL.c
                                            (bar
                                              (stA
                                                (renB (out [(0 : Nat)] (List.length (putAll [] (0 : Nat) [] [some (alB (newA (IntKind.wrap IntKind.i64 ((2 : Int) + pkV n (63 : Int)))))] [] (0 : Nat) [] ++ news [] (0 : Nat) (List.drop (0 : Nat) [some (alB (newA (IntKind.wrap IntKind.i64 ((2 : Int) + pkV n (63 : Int)))))]))))
                                                  (alB (bar (stA (renB (out [] (0 : Nat)) (alB (newA (IntKind.wrap IntKind.i64 ((2 : Int) + pkV n (63 : Int))))))) (pkV i (IntKind.wrap IntKind.i64 ((2 : Int) + pkV n (63 : Int)))) a))))
                                              (pkV k (IntKind.wrap IntKind.i64 ((2 : Int) + pkV n (63 : Int)))) b)),
                                        AV.int IntKind.i64
                                          (AL.w
                                            (bar
                                              (stA
                                                (renB (out [(0 : Nat)] (List.length (putAll [] (0 : Nat) [] [some (alB (newA (IntKind.wrap IntKind.i64 ((2 : Int) + pkV n (63 : Int)))))] [] (0 : Nat) [] ++ news [] (0 : Nat) (List.drop (0 : Nat) [some (alB (newA (IntKind.wrap IntKind.i64 ((2 : Int) + pkV n (63 : Int)))))]))))
                                                  (alB (bar (stA (renB (out [] (0 : Nat)) (alB (newA (IntKind.wrap IntKind.i64 ((2 : Int) + pkV n (63 : Int))))))) (pkV i (IntKind.wrap IntKind.i64 ((2 : Int) + pkV n (63 : Int)))) a))))
                                              (pkV k (IntKind.wrap IntKind.i64 ((2 : Int) + pkV n (63 : Int)))) b)),
                                        AV.int IntKind.i64
                                          (AL.l
                                            (bar
                                              (stA
                                                (renB (out [(0 : Nat)] (List.length (putAll [] (0 : Nat) [] [some (alB (newA (IntKind.wrap IntKind.i64 ((2 : Int) + pkV n (63 : Int)))))] [] (0 : Nat) [] ++ news [] (0 : Nat) (List.drop (0 : Nat) [some (alB (newA (IntKind.wrap IntKind.i64 ((2 : Int) + pkV n (63 : Int)))))]))))
                                                  (alB (bar (stA (renB (out [] (0 : Nat)) (alB (newA (IntKind.wrap IntKind.i64 ((2 : Int) + pkV n (63 : Int))))))) (pkV i (IntKind.wrap IntKind.i64 ((2 : Int) + pkV n (63 : Int)))) a))))
                                              (pkV k (IntKind.wrap IntKind.i64 ((2 : Int) + pkV n (63 : Int)))) b)),
                                        AV.bool
                                          (AL.d
                                            (bar
                                              (stA
                                                (renB (out [(0 : Nat)] (List.length (putAll [] (0 : Nat) [] [some (alB (newA (IntKind.wrap IntKind.i64 ((2 : Int) + pkV n (63 : Int)))))] [] (0 : Nat) [] ++ news [] (0 : Nat) (List.drop (0 : Nat) [some (alB (newA (IntKind.wrap IntKind.i64 ((2 : Int) + pkV n (63 : Int)))))]))))
                                                  (alB (bar (stA (renB (out [] (0 : Nat)) (alB (newA (IntKind.wrap IntKind.i64 ((2 : Int) + pkV n (63 : Int))))))) (pkV i (IntKind.wrap IntKind.i64 ((2 : Int) + pkV n (63 : Int)))) a))))
                                              (pkV k (IntKind.wrap IntKind.i64 ((2 : Int) + pkV n (63 : Int)))) b))]))
                                  (T.chk
                                    (decide
                                      (intA
                                          (List.getD
                                            (renL
                                              (out [(0 : Nat)]
                                                (List.length
                                                  (putAll [(0 : Nat)] (List.length (putAll [] (0 : Nat) [] [some (alB (newA (IntKind.wrap IntKind.i64 ((2 : Int) + pkV n (63 : Int)))))] [] (0 : Nat) [] ++ news [] (0 : Nat) (List.drop (0 : Nat) [some (alB (newA (IntKind.wrap IntKind.i64 ((2 : Int) + pkV n (63 : Int)))))])))
                                                      [some (alB (stA (renB (out [] (0 : Nat)) (alB (newA (IntKind.wrap IntKind.i64 ((2 : Int) + pkV n (63 : Int))))))))] [some (alB (bar (stA (renB (out [] (0 : Nat)) (alB (newA (IntKind.wrap IntKind.i64 ((2 : Int) + pkV n (63 : Int))))))) (pkV i (IntKind.wrap IntKind.i64 ((2 : Int) + pkV n (63 : Int)))) a))] [(0 : Nat)] (0 : Nat)
                                                      (putAll [] (0 : Nat) [] [some (alB (newA (IntKind.wrap IntKind.i64 ((2 : Int) + pkV n (63 : Int)))))] [] (0 : Nat) [] ++ news [] (0 : Nat) (List.drop (0 : Nat) [some (alB (newA (IntKind.wrap IntKind.i64 ((2 : Int) + pkV n (63 : Int)))))])) ++
                                                    news [(0 : Nat)] (List.length (putAll [] (0 : Nat) [] [some (alB (newA (IntKind.wrap IntKind.i64 ((2 : Int) + pkV n (63 : Int)))))] [] (0 : Nat) [] ++ news [] (0 : Nat) (List.drop (0 : Nat) [some (alB (newA (IntKind.wrap IntKind.i64 ((2 : Int) + pkV n (63 : Int)))))])))
                                                      (List.drop (1 : Nat) [some (alB (bar (stA (renB (out [] (0 : Nat)) (alB (newA (IntKind.wrap IntKind.i64 ((2 : Int) + pkV n (63 : Int))))))) (pkV i (IntKind.wrap IntKind.i64 ((2 : Int) + pkV n (63 : Int)))) a))]))))
                                              [AV.int IntKind.i64
                                                  (AL.n
                                                    (bar
                                                      (stA
                                                        (renB (out [(0 : Nat)] (List.length (putAll [] (0 : Nat) [] [some (alB (newA (IntKind.wrap IntKind.i64 ((2 : Int) + pkV n (63 : Int)))))] [] (0 : Nat) [] ++ news [] (0 : Nat) (List.drop (0 : Nat) [some (alB (newA (IntKind.wrap IntKind.i64 ((2 : Int) + pkV n (63 : Int)))))]))))
                                                          (alB (bar (stA (renB (out [] (0 : Nat)) (alB (newA (IntKind.wrap IntKind.i64 ((2 : Int) + pkV n (63 : Int))))))) (pkV i (IntKind.wrap IntKind.i64 ((2 : Int) + pkV n (63 : Int)))) a))))
                                                      (pkV k (IntKind.wrap IntKind.i64 ((2 : Int) + pkV n (63 : Int)))) b))])
                                            (0 : Nat) AV.ff) ≤
                                        (96 : Int)))
                                    (T.ite
                                      (blkA
                                          (stA
                                            (renB
                                              (out [(0 : Nat)]
                                                (List.length
                                                  (putAll [(0 : Nat)] (List.length (putAll [] (0 : Nat) [] [some (alB (newA (IntKind.wrap IntKind.i64 ((2 : Int) + pkV n (63 : Int)))))] [] (0 : Nat) [] ++ news [] (0 : Nat) (List.drop (0 : Nat) [some (alB (newA (IntKind.wrap IntKind.i64 ((2 : Int) + pkV n (63 : Int)))))])))
                                                      [some (alB (stA (renB (out [] (0 : Nat)) (alB (newA (IntKind.wrap IntKind.i64 ((2 : Int) + pkV n (63 : Int))))))))] [some (alB (bar (stA (renB (out [] (0 : Nat)) (alB (newA (IntKind.wrap IntKind.i64 ((2 : Int) + pkV n (63 : Int))))))) (pkV i (IntKind.wrap IntKind.i64 ((2 : Int) + pkV n (63 : Int)))) a))] [(0 : Nat)] (0 : Nat)
                                                      (putAll [] (0 : Nat) [] [some (alB (newA (IntKind.wrap IntKind.i64 ((2 : Int) + pkV n (63 : Int)))))] [] (0 : Nat) [] ++ news [] (0 : Nat) (List.drop (0 : Nat) [some (alB (newA (IntKind.wrap IntKind.i64 ((2 : Int) + pkV n (63 : Int)))))])) ++
                                                    news [(0 : Nat)] (List.length (putAll [] (0 : Nat) [] [some (alB (newA (IntKind.wrap IntKind.i64 ((2 : Int) + pkV n (63 : Int)))))] [] (0 : Nat) [] ++ news [] (0 : Nat) (List.drop (0 : Nat) [some (alB (newA (IntKind.wrap IntKind.i64 ((2 : Int) + pkV n (63 : Int)))))])))
                                                      (List.drop (1 : Nat) [some (alB (bar (stA (renB (out [] (0 : Nat)) (alB (newA (IntKind.wrap IntKind.i64 ((2 : Int) + pkV n (63 : Int))))))) (pkV i (IntKind.wrap IntKind.i64 ((2 : Int) + pkV n (63 : Int)))) a))]))))
                                              (alB
                                                (bar
                                                  (stA
                                                    (renB (out [(0 : Nat)] (List.length (putAll [] (0 : Nat) [] [some (alB (newA (IntKind.wrap IntKind.i64 ((2 : Int) + pkV n (63 : Int)))))] [] (0 : Nat) [] ++ news [] (0 : Nat) (List.drop (0 : Nat) [some (alB (newA (IntKind.wrap IntKind.i64 ((2 : Int) + pkV n (63 : Int)))))]))))
                                                      (alB (bar (stA (renB (out [] (0 : Nat)) (alB (newA (IntKind.wrap IntKind.i64 ((2 : Int) + pkV n (63 : Int))))))) (pkV i (IntKind.wrap IntKind.i64 ((2 : Int) + pkV n (63 : Int)))) a))))
                                                  (pkV k (IntKind.wrap IntKind.i64 ((2 : Int) + pkV n (63 : Int)))) b))))
                                          (pkV i (IntKind.wrap IntKind.i64 ((2 : Int) + pkV n (63 : Int)))) ==
                                        !barR
                                            (stA
                                              (renB (out [(0 : Nat)] (List.length (putAll [] (0 : Nat) [] [some (alB (newA (IntKind.wrap IntKind.i64 ((2 : Int) + pkV n (63 : Int)))))] [] (0 : Nat) [] ++ news [] (0 : Nat) (List.drop (0 : Nat) [some (alB (newA (IntKind.wrap IntKind.i64 ((2 : Int) + pkV n (63 : Int)))))]))))
                                                (alB (bar (stA (renB (out [] (0 : Nat)) (alB (newA (IntKind.wrap IntKind.i64 ((2 : Int) + pkV n (63 : Int))))))) (pkV i (IntKind.wrap IntKind.i64 ((2 : Int) + pkV n (63 : Int)))) a))))
                                            (pkV k (IntKind.wrap IntKind.i64 ((2 : Int) + pkV n (63 : Int)))) b)
                                      (T.ret (AV.bool true)) (T.ret AV.ff))))
                                (T.ret AV.ff))))))))))))))) := by
  kernel_rfl

def oneA (N I a : Int) : AL := ⟨N, fun j => decide (j = I.toNat), 1, a, 0, false⟩
def bothA (N I K a : Int) : AL := ⟨N, fun j => if j = K.toNat then true else decide (j = I.toNat), 2, a, 0, false⟩
def shutA (N a : Int) : AL := ⟨N, fun _ => false, 0, a, a, true⟩

theorem one_clamp {N : Int} (h2 : 2 ≤ N) (h : N ≤ 64) : clampA N = N := by unfold clampA; rw [if_neg (by rw [if_neg (by omega)]; omega), if_neg (by omega)]

theorem op_first {N I a : Int} (h2 : 2 ≤ N) (h64 : N ≤ 64) (h0 : 0 ≤ I) (h1 : I < N) : barR (newA N) I a = false ∧ bar (newA N) I a = oneA N I a := by
  have hr : ¬ rfA (newA N) I a := by
    unfold rfA newA
    rw [one_clamp h2 h64]
    rintro (h | h | ⟨h, h'⟩ | ⟨h, h'⟩)
    · omega
    · exact absurd h (by show ¬ N ≤ I; omega)
    · cases h
    · exact absurd h (by show ¬ (0 : Int) < 0; omega)
  have hB : ∀ j, B1A (newA N) a j = false := fun j => by unfold B1A newA; split <;> rfl
  have hc : c1A (newA N) a = 0 := by unfold c1A newA; split <;> rfl
  have h2' : c2A (newA N) I a = 1 := by unfold c2A; rw [hB, hc]; rfl
  have hf : ¬ fuA (newA N) I a := by unfold fuA; rw [h2']; show ¬ ¬ (1 : Int) < clampA N; rw [one_clamp h2 h64]; omega
  refine ⟨by simp [barR, hf], ?_⟩
  rw [bar, if_neg hr, if_neg hf]
  unfold moreA oneA
  rw [h2']
  have e : (fun j => if j = I.toNat then true else B1A (newA N) a j) = fun j => decide (j = I.toNat) := by
    funext j; rw [hB]; by_cases h : j = I.toNat <;> simp [h]
  rw [e]
  show AL.mk (clampA N) _ 1 a 0 false = _
  rw [one_clamp h2 h64]

theorem op_less {N I K a b : Int} (h : b < a) : barR (oneA N I a) K b = false ∧ bar (oneA N I a) K b = oneA N I a := by
  have hr : rfA (oneA N I a) K b := .inr (.inr (.inr ⟨by show (0 : Int) < 1; omega, h⟩))
  exact ⟨by simp [barR, hr], if_pos hr⟩

theorem op_nrf {N I K a b : Int} (h0 : 0 ≤ K) (h1 : K < N) (h : a ≤ b) : ¬ rfA (oneA N I a) K b := by
  rintro (h' | h' | ⟨h', h''⟩ | ⟨h', h''⟩)
  · omega
  · exact absurd h' (by show ¬ N ≤ K; omega)
  · cases h'
  · exact absurd h'' (by show ¬ b < a; omega)

theorem op_more {N I K a b : Int} (h2 : 2 ≤ N) (h0 : 0 ≤ K) (h1 : K < N) (h : a < b) : barR (oneA N I a) K b = false ∧ bar (oneA N I a) K b = oneA N K b := by
  have hr := op_nrf (I := I) h0 h1 (Int.le_of_lt h)
  have hB : ∀ j, B1A (oneA N I a) b j = false := fun j => if_neg (by show ¬ a = b; omega)
  have hc : c1A (oneA N I a) b = 0 := if_neg (by show ¬ a = b; omega)
  have h2' : c2A (oneA N I a) K b = 1 := by unfold c2A; rw [hB, hc]; rfl
  have hf : ¬ fuA (oneA N I a) K b := by unfold fuA; rw [h2']; show ¬ ¬ (1 : Int) < N; omega
  refine ⟨by simp [barR, hf], ?_⟩
  rw [bar, if_neg hr, if_neg hf]
  unfold moreA
  rw [h2']
  have e : (fun j => if j = K.toNat then true else B1A (oneA N I a) b j) = fun j => decide (j = K.toNat) := by
    funext j; rw [hB]; by_cases h : j = K.toNat <;> simp [h]
  rw [e]; rfl

theorem op_B {N I a : Int} (j : Nat) : B1A (oneA N I a) a j = decide (j = I.toNat) := if_pos rfl
theorem op_c {N I a : Int} : c1A (oneA N I a) a = 1 := if_pos rfl

theorem op_again {N I a : Int} (h2 : 2 ≤ N) (h0 : 0 ≤ I) (h1 : I < N) : barR (oneA N I a) I a = false ∧ bar (oneA N I a) I a = oneA N I a := by
  have hr := op_nrf (I := I) h0 h1 (Int.le_refl a)
  have h2' : c2A (oneA N I a) I a = 1 := by unfold c2A; rw [op_B, op_c]; simp
  have hf : ¬ fuA (oneA N I a) I a := by unfold fuA; rw [h2']; show ¬ ¬ (1 : Int) < N; omega
  refine ⟨by simp [barR, hf], ?_⟩
  rw [bar, if_neg hr, if_neg hf]
  unfold moreA
  rw [h2']
  have e : (fun j => if j = I.toNat then true else B1A (oneA N I a) a j) = fun j => decide (j = I.toNat) := by
    funext j; rw [op_B]; by_cases h : j = I.toNat <;> simp [h]
  rw [e]; rfl

theorem op_c2 {N I K a : Int} (h0 : 0 ≤ K) (hI : 0 ≤ I) (hne : K ≠ I) : c2A (oneA N I a) K a = 2 := by
  unfold c2A
  rw [op_B, op_c, if_neg (by rw [decide_eq_true_eq]; omega)]; rfl

theorem op_full {I K a : Int} (h0 : 0 ≤ K) (h1 : K < 2) (hI : 0 ≤ I) (hne : K ≠ I) : barR (oneA 2 I a) K a = true ∧ bar (oneA 2 I a) K a = shutA 2 a := by
  have hr := op_nrf (I := I) h0 h1 (Int.le_refl a)
  have hf : fuA (oneA 2 I a) K a := by unfold fuA; rw [op_c2 h0 hI hne]; show ¬ (2 : Int) < 2; omega
  exact ⟨by simp [barR, hr, hf], by rw [bar, if_neg hr, if_pos hf]; rfl⟩

theorem op_both {N I K a : Int} (h2 : 2 < N) (h0 : 0 ≤ K) (h1 : K < N) (hI : 0 ≤ I) (hne : K ≠ I) : barR (oneA N I a) K a = false ∧ bar (oneA N I a) K a = bothA N I K a := by
  have hr := op_nrf (I := I) h0 h1 (Int.le_refl a)
  have hf : ¬ fuA (oneA N I a) K a := by unfold fuA; rw [op_c2 h0 hI hne]; show ¬ ¬ (2 : Int) < N; omega
  refine ⟨by simp [barR, hf], ?_⟩
  rw [bar, if_neg hr, if_neg hf]
  unfold moreA
  rw [op_c2 h0 hI hne]
  have e : (fun j => if j = K.toNat then true else B1A (oneA N I a) a j) = fun j => if j = K.toNat then true else decide (j = I.toNat) := by
    funext j; rw [op_B]
  rw [e]; rfl

theorem blk_one {N I a x : Int} (h0 : 0 ≤ x) (h1 : x < N) (hI : 0 ≤ I) : blkA (oneA N I a) x = decide (x = I) := by
  have : (decide (x.toNat = I.toNat)) = decide (x = I) := by rw [decide_eq_decide]; omega
  simp [blkA, oneA, h0, h1, this]
theorem blk_both {N I K a : Int} (h0 : 0 ≤ I) (h1 : I < N) : blkA (bothA N I K a) I = true := by
  simp [blkA, bothA, h0, h1]
theorem blk_shut {N a x : Int} : blkA (shutA N a) x = false := by simp [blkA, shutA]

theorem op_law : ∀ args m, ArgsAV [PK.one (CK.int IntKind.i64), PK.one (CK.int IntKind.i64), PK.one (CK.int IntKind.i64), PK.one (CK.int IntKind.i64), PK.one (CK.int IntKind.i64)] [] args m → Walks Try.prog Try.f6 (codeOf Try.f6) args m := by
  intro args m h
  obtain ⟨n, _, rfl, -, h⟩ := args_int h
  obtain ⟨i, _, rfl, -, h⟩ := args_int h
  obtain ⟨k, _, rfl, -, h⟩ := args_int h
  obtain ⟨a, _, rfl, -, h⟩ := args_int h
  obtain ⟨b, _, rfl, -, h⟩ := args_int h
  obtain ⟨rfl, rfl⟩ := args_nil h
  have key : (vfn Try.prog opE Try.f6 (codeOf Try.f6) [.int .i64 n, .int .i64 i, .int .i64 k, .int .i64 a, .int .i64 b]).holds fun v => v.yes = true := by
    rw [op_fn]
    have p1 := Int.emod_nonneg n (show (63 : Int) ≠ 0 by omega)
    have p2 := Int.emod_lt_of_pos n (show (0 : Int) < 63 by omega)
    obtain ⟨N, hN⟩ : ∃ N, IntKind.wrap .i64 (2 + pkV n 63) = N := ⟨_, rfl⟩
    have hNr : 2 ≤ N ∧ N ≤ 64 := by
      rw [← hN, pkV, if_neg (by omega), IntWalk.i64_in _ (by omega)]; omega
    rw [hN]
    obtain ⟨I, hI⟩ : ∃ I, pkV i N = I := ⟨_, rfl⟩
    obtain ⟨K, hK⟩ : ∃ K, pkV k N = K := ⟨_, rfl⟩
    have hIr : 0 ≤ I ∧ I < N := by rw [← hI, pkV, if_neg (by omega)]; exact ⟨Int.emod_nonneg _ (by omega), Int.emod_lt_of_pos _ (by omega)⟩
    have hKr : 0 ≤ K ∧ K < N := by rw [← hK, pkV, if_neg (by omega)]; exact ⟨Int.emod_nonneg _ (by omega), Int.emod_lt_of_pos _ (by omega)⟩
    rw [hI, hK]
    clear hN hI hK p1 p2
    obtain ⟨e1, e2⟩ := op_first (a := a) hNr.1 hNr.2 hIr.1 hIr.2
    have e3 : blkA (oneA N I a) I = true := by rw [blk_one hIr.1 hIr.2 hIr.1]; exact decide_eq_true rfl
    have cl := one_clamp hNr.1 hNr.2
    simp only [st1, st2, cl, e1, e2, e3]
    rcases Int.lt_trichotomy b a with hb | hb | hb
    · obtain ⟨g1, g2⟩ := op_less (N := N) (I := I) (K := K) hb
      have g3 := blk_one (a := a) hKr.1 hKr.2 hIr.1
      simp only [g1, g2, e3, g3]
      repeat' first | refine T.hneed isAl ?_ | refine T.hiteP (fun _ => ?_) (fun _ => ?_) | refine T.hiteE (fun _ => ?_) (fun _ => ?_) | refine T.hiteN (fun _ => ?_) (fun _ => ?_) | refine T.hiteFP (fun _ => ?_) (fun _ => ?_) | refine T.hiteFE (fun _ => ?_) (fun _ => ?_) | refine T.hiteF (fun _ => ?_) (fun _ => ?_) | refine T.hite (fun _ => ?_) (fun _ => ?_) | refine T.hneed rfl ?_ | refine T.hneed IntRow.rows ?_ | refine T.hneed trivial ?_ | refine T.hchk ?_ ?_ | refine T.hall (fun _ => ?_) | refine T.hasm (fun _ => ?_)
      all_goals (try refine T.hret ?_)
      all_goals first
        | contradiction
        | exact decide_eq_true (show N ≤ 96 by omega)
        | rfl
        | (simp; omega)
        | (exfalso; omega)
        | (exfalso; simp_all; done)
    · subst hb
      by_cases hKI : K = I
      · subst hKI
        obtain ⟨g1, g2⟩ := op_again (a := b) hNr.1 hKr.1 hKr.2
        simp only [g1, g2, e3]
        repeat' first | refine T.hneed isAl ?_ | refine T.hiteP (fun _ => ?_) (fun _ => ?_) | refine T.hiteE (fun _ => ?_) (fun _ => ?_) | refine T.hiteN (fun _ => ?_) (fun _ => ?_) | refine T.hiteFP (fun _ => ?_) (fun _ => ?_) | refine T.hiteFE (fun _ => ?_) (fun _ => ?_) | refine T.hiteF (fun _ => ?_) (fun _ => ?_) | refine T.hite (fun _ => ?_) (fun _ => ?_) | refine T.hneed rfl ?_ | refine T.hneed IntRow.rows ?_ | refine T.hneed trivial ?_ | refine T.hchk ?_ ?_ | refine T.hall (fun _ => ?_) | refine T.hasm (fun _ => ?_)
        all_goals (try refine T.hret ?_)
        all_goals first
          | contradiction
          | exact decide_eq_true (show N ≤ 96 by omega)
          | rfl
          | (simp; omega)
          | (exfalso; omega)
          | (exfalso; simp_all; done)
      · by_cases hN2 : N = 2
        · subst hN2
          obtain ⟨g1, g2⟩ := op_full (a := b) hKr.1 hKr.2 hIr.1 hKI
          simp only [g1, g2, blk_shut]
          repeat' first | refine T.hneed isAl ?_ | refine T.hiteP (fun _ => ?_) (fun _ => ?_) | refine T.hiteE (fun _ => ?_) (fun _ => ?_) | refine T.hiteN (fun _ => ?_) (fun _ => ?_) | refine T.hiteFP (fun _ => ?_) (fun _ => ?_) | refine T.hiteFE (fun _ => ?_) (fun _ => ?_) | refine T.hiteF (fun _ => ?_) (fun _ => ?_) | refine T.hite (fun _ => ?_) (fun _ => ?_) | refine T.hneed rfl ?_ | refine T.hneed IntRow.rows ?_ | refine T.hneed trivial ?_ | refine T.hchk ?_ ?_ | refine T.hall (fun _ => ?_) | refine T.hasm (fun _ => ?_)
          all_goals (try refine T.hret ?_)
          all_goals first
            | contradiction
            | exact decide_eq_true (show (2 : Int) ≤ 96 by omega)
            | rfl
            | (simp; omega)
            | (exfalso; omega)
            | (exfalso; simp_all; done)
        · obtain ⟨g1, g2⟩ := op_both (a := b) (by omega) hKr.1 hKr.2 hIr.1 hKI
          have g3 := blk_both (K := K) (a := b) hIr.1 hIr.2
          simp only [g1, g2, g3]
          repeat' first | refine T.hneed isAl ?_ | refine T.hiteP (fun _ => ?_) (fun _ => ?_) | refine T.hiteE (fun _ => ?_) (fun _ => ?_) | refine T.hiteN (fun _ => ?_) (fun _ => ?_) | refine T.hiteFP (fun _ => ?_) (fun _ => ?_) | refine T.hiteFE (fun _ => ?_) (fun _ => ?_) | refine T.hiteF (fun _ => ?_) (fun _ => ?_) | refine T.hite (fun _ => ?_) (fun _ => ?_) | refine T.hneed rfl ?_ | refine T.hneed IntRow.rows ?_ | refine T.hneed trivial ?_ | refine T.hchk ?_ ?_ | refine T.hall (fun _ => ?_) | refine T.hasm (fun _ => ?_)
          all_goals (try refine T.hret ?_)
          all_goals first
            | contradiction
            | exact decide_eq_true (show N ≤ 96 by omega)
            | rfl
            | (simp; omega)
            | (exfalso; omega)
            | (exfalso; simp_all; done)
    · obtain ⟨g1, g2⟩ := op_more (I := I) (a := a) hNr.1 hKr.1 hKr.2 hb
      have g3 : blkA (oneA N K b) K = true := by rw [blk_one hKr.1 hKr.2 hKr.1]; exact decide_eq_true rfl
      have g4 := blk_one (a := b) hIr.1 hIr.2 hKr.1
      simp only [g1, g2, g3, g4]
      repeat' first | refine T.hneed isAl ?_ | refine T.hiteP (fun _ => ?_) (fun _ => ?_) | refine T.hiteE (fun _ => ?_) (fun _ => ?_) | refine T.hiteN (fun _ => ?_) (fun _ => ?_) | refine T.hiteFP (fun _ => ?_) (fun _ => ?_) | refine T.hiteFE (fun _ => ?_) (fun _ => ?_) | refine T.hiteF (fun _ => ?_) (fun _ => ?_) | refine T.hite (fun _ => ?_) (fun _ => ?_) | refine T.hneed rfl ?_ | refine T.hneed IntRow.rows ?_ | refine T.hneed trivial ?_ | refine T.hchk ?_ ?_ | refine T.hall (fun _ => ?_) | refine T.hasm (fun _ => ?_)
      all_goals (try refine T.hret ?_)
      all_goals first
        | contradiction
        | exact decide_eq_true (show N ≤ 96 by omega)
        | rfl
        | (simp; omega)
        | (exfalso; omega)
        | (exfalso; simp_all; done)
  exact ⟨opE, opE_ok, noLoops (by kernel_rfl), rfl, rfl, by unfold vfn at key; rw [T.holds_bind] at key; exact key⟩

end Go.Proofs.Ythbdkhlpojngeaa
