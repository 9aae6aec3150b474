/-
  Layer 19: Barrier.
-/
import Derived.Test.YthbdkhlpojngeaaHA
namespace Go.Proofs.Ythbdkhlpojngeaa
open Go.Ox
set_option maxRecDepth 100000
set_option linter.unusedVariables false
set_option linter.unusedSimpArgs false

noncomputable def baE : Env := { nt := Try.f13.ntmps, n0 := 1, fns := [(18, .eff ubS)], loop := fun _ _ => .fail }

theorem ba_fn (s : AL) (i no : Int) : afn Try.prog baE Try.f13 (codeOf Try.f13) [.ptr 0 0 0 0, .int .i64 i, .int .i64 no] [some (alB s)] = 
  T.ite (decide (i < (0 : Int))) (T.ret (AV.ff, [some (Blk.mk true [AV.int IntKind.i64 (AL.n s)] (1 : Nat) (96 : Nat) (fun j => [AV.bool (AL.B s j)]) [AV.int IntKind.i64 (AL.c s), AV.int IntKind.i64 (AL.w s), AV.int IntKind.i64 (AL.l s), AV.bool (AL.d s)] none)]))
    (T.ite (decide (i ≥ AL.n s)) (T.ret (AV.ff, [some (Blk.mk true [AV.int IntKind.i64 (AL.n s)] (1 : Nat) (96 : Nat) (fun j => [AV.bool (AL.B s j)]) [AV.int IntKind.i64 (AL.c s), AV.int IntKind.i64 (AL.w s), AV.int IntKind.i64 (AL.l s), AV.bool (AL.d s)] none)]))
      (T.ite (AL.d s)
        (T.ite (decide (AL.l s ≥ no)) (T.ret (AV.ff, [some (Blk.mk true [AV.int IntKind.i64 (AL.n s)] (1 : Nat) (96 : Nat) (fun j => [AV.bool (AL.B s j)]) [AV.int IntKind.i64 (AL.c s), AV.int IntKind.i64 (AL.w s), AV.int IntKind.i64 (AL.l s), AV.bool (AL.d s)] none)]))
          (T.ite (decide (AL.c s > (0 : Int)))
            (T.ite (decide (AL.w s > no)) (T.ret (AV.ff, [some (Blk.mk true [AV.int IntKind.i64 (AL.n s)] (1 : Nat) (96 : Nat) (fun j => [AV.bool (AL.B s j)]) [AV.int IntKind.i64 (AL.c s), AV.int IntKind.i64 (AL.w s), AV.int IntKind.i64 (AL.l s), AV.bool (AL.d s)] none)]))
              (T.ite (AL.w s != no)
                (T.need (IsAl (Blk.mk true [AV.int IntKind.i64 (AL.n s)] (1 : Nat) (96 : Nat) (fun j => [AV.bool (AL.B s j)]) [AV.int IntKind.i64 (AL.c s), AV.int IntKind.i64 (AL.w s), AV.int IntKind.i64 (AL.l s), AV.bool (AL.d s)] none))
                  (T.chk (decide (intA (AV.int IntKind.i64 (AL.n s)) ≤ (96 : Int)))
                    (T.chk (decide ((0 : Int) ≤ i) && decide (i < (↑(96 : Nat) : Int)))
                      (T.chk (decide (Int.toNat i < (96 : Nat)))
                        (T.ite (!false)
                          (T.chk (decide ((0 : Int) ≤ i) && decide (i < (↑(96 : Nat) : Int)))
                            (T.chk (decide (Int.toNat i < (96 : Nat)))
                              (T.ite (decide (IntKind.wrap IntKind.i64 ((0 : Int) + (1 : Int)) < intA (AV.int IntKind.i64 (AL.n s))))
                                (T.ret
                                  (AV.ff,
                                    [some
                                        (Blk.mk true [AV.int IntKind.i64 (intA (AV.int IntKind.i64 (AL.n s)))] (1 : Nat) (96 : Nat) (fun a => if a = Int.toNat i then List.set (renL (out [(0 : Nat)] (1 : Nat)) [AV.bool false]) (0 : Nat) AV.tt else renL (out [(0 : Nat)] (1 : Nat)) [AV.bool false])
                                          [AV.int IntKind.i64 (IntKind.wrap IntKind.i64 ((0 : Int) + (1 : Int))), AV.int IntKind.i64 no, AV.int IntKind.i64 (intA (AV.int IntKind.i64 (AL.l s))), AV.bool (boolA (AV.bool (AL.d s)))] none)]))
                                (T.need
                                  (IsAl
                                    (Blk.mk true [AV.int IntKind.i64 (intA (AV.int IntKind.i64 (AL.n s)))] (1 : Nat) (96 : Nat) (fun a => if a = Int.toNat i then List.set (renL (out [(0 : Nat)] (1 : Nat)) [AV.bool false]) (0 : Nat) AV.tt else renL (out [(0 : Nat)] (1 : Nat)) [AV.bool false])
                                      [AV.int IntKind.i64 (IntKind.wrap IntKind.i64 ((0 : Int) + (1 : Int))), AV.int IntKind.i64 no, AV.int IntKind.i64 (intA (AV.int IntKind.i64 (AL.l s))), AV.bool (boolA (AV.bool (AL.d s)))] none))
                                  (T.chk (decide (intA (AV.int IntKind.i64 (intA (AV.int IntKind.i64 (AL.n s)))) ≤ (96 : Int)))
                                    (T.ret (AV.tt, [some (Blk.mk true [AV.int IntKind.i64 (intA (AV.int IntKind.i64 (intA (AV.int IntKind.i64 (AL.n s)))))] (1 : Nat) (96 : Nat) (fun a => [AV.bool false]) [AV.int IntKind.i64 (0 : Int), AV.int IntKind.i64 (intA (AV.int IntKind.i64 no)), AV.int IntKind.i64 no, AV.tt] none)])))))))
                          (T.ite (decide ((0 : Int) < intA (AV.int IntKind.i64 (AL.n s)))) (T.ret (AV.ff, [some (Blk.mk true [AV.int IntKind.i64 (intA (AV.int IntKind.i64 (AL.n s)))] (1 : Nat) (96 : Nat) (fun a => [AV.bool false]) [AV.int IntKind.i64 (0 : Int), AV.int IntKind.i64 no, AV.int IntKind.i64 (intA (AV.int IntKind.i64 (AL.l s))), AV.bool (boolA (AV.bool (AL.d s)))] none)]))
                            (T.need (IsAl (Blk.mk true [AV.int IntKind.i64 (intA (AV.int IntKind.i64 (AL.n s)))] (1 : Nat) (96 : Nat) (fun a => [AV.bool false]) [AV.int IntKind.i64 (0 : Int), AV.int IntKind.i64 no, AV.int IntKind.i64 (intA (AV.int IntKind.i64 (AL.l s))), AV.bool (boolA (AV.bool (AL.d s)))] none))
                              (T.chk (decide (intA (AV.int IntKind.i64 (intA (AV.int IntKind.i64 (AL.n s)))) ≤ (96 : Int)))
                                (T.ret (AV.tt, [some (Blk.mk true [AV.int IntKind.i64 (intA (AV.int IntKind.i64 (intA (AV.int IntKind.i64 (AL.n s)))))] (1 : Nat) (96 : Nat) (fun a => [AV.bool false]) [AV.int IntKind.i64 (0 : Int), AV.int IntKind.i64 (intA (AV.int IntKind.i64 no)), AV.int IntKind.i64 no, AV.tt] none)]))))))))))
                (T.chk (decide ((0 : Int) ≤ i) && decide (i < (↑(96 : Nat) : Int)))
                  (T.chk (decide (Int.toNat i < (96 : Nat)))
                    (T.ite (!AL.B s (Int.toNat i))
                      (T.chk (decide ((0 : Int) ≤ i) && decide (i < (↑(96 : Nat) : Int)))
                        (T.chk (decide (Int.toNat i < (96 : Nat)))
                          (T.ite (decide (IntKind.wrap IntKind.i64 (AL.c s + (1 : Int)) < AL.n s))
                            (T.ret (AV.ff, [some (Blk.mk true [AV.int IntKind.i64 (AL.n s)] (1 : Nat) (96 : Nat) (fun a => if a = Int.toNat i then List.set [AV.bool (AL.B s (Int.toNat i))] (0 : Nat) AV.tt else [AV.bool (AL.B s a)]) [AV.int IntKind.i64 (IntKind.wrap IntKind.i64 (AL.c s + (1 : Int))), AV.int IntKind.i64 (AL.w s), AV.int IntKind.i64 (AL.l s), AV.bool (AL.d s)] none)]))
                            (T.need (IsAl (Blk.mk true [AV.int IntKind.i64 (AL.n s)] (1 : Nat) (96 : Nat) (fun a => if a = Int.toNat i then List.set [AV.bool (AL.B s (Int.toNat i))] (0 : Nat) AV.tt else [AV.bool (AL.B s a)]) [AV.int IntKind.i64 (IntKind.wrap IntKind.i64 (AL.c s + (1 : Int))), AV.int IntKind.i64 (AL.w s), AV.int IntKind.i64 (AL.l s), AV.bool (AL.d s)] none))
                              (T.chk (decide (intA (AV.int IntKind.i64 (AL.n s)) ≤ (96 : Int))) (T.ret (AV.tt, [some (Blk.mk true [AV.int IntKind.i64 (intA (AV.int IntKind.i64 (AL.n s)))] (1 : Nat) (96 : Nat) (fun a => [AV.bool false]) [AV.int IntKind.i64 (0 : Int), AV.int IntKind.i64 (intA (AV.int IntKind.i64 (AL.w s))), AV.int IntKind.i64 no, AV.tt] none)])))))))
                      (T.ite (decide (AL.c s < AL.n s)) (T.ret (AV.ff, [some (Blk.mk true [AV.int IntKind.i64 (AL.n s)] (1 : Nat) (96 : Nat) (fun j => [AV.bool (AL.B s j)]) [AV.int IntKind.i64 (AL.c s), AV.int IntKind.i64 (AL.w s), AV.int IntKind.i64 (AL.l s), AV.bool (AL.d s)] none)]))
                        (T.need (IsAl (Blk.mk true [AV.int IntKind.i64 (AL.n s)] (1 : Nat) (96 : Nat) (fun j => [AV.bool (AL.B s j)]) [AV.int IntKind.i64 (AL.c s), AV.int IntKind.i64 (AL.w s), AV.int IntKind.i64 (AL.l s), AV.bool (AL.d s)] none))
                          (T.chk (decide (intA (AV.int IntKind.i64 (AL.n s)) ≤ (96 : Int))) (T.ret (AV.tt, [some (Blk.mk true [AV.int IntKind.i64 (intA (AV.int IntKind.i64 (AL.n s)))] (1 : Nat) (96 : Nat) (fun a => [AV.bool false]) [AV.int IntKind.i64 (0 : Int), AV.int IntKind.i64 (intA (AV.int IntKind.i64 (AL.w s))), AV.int IntKind.i64 no, AV.tt] none)]))))))))))
            (T.ite (AL.w s != no)
              (T.need (IsAl (Blk.mk true [AV.int IntKind.i64 (AL.n s)] (1 : Nat) (96 : Nat) (fun j => [AV.bool (AL.B s j)]) [AV.int IntKind.i64 (AL.c s), AV.int IntKind.i64 (AL.w s), AV.int IntKind.i64 (AL.l s), AV.bool (AL.d s)] none))
                (T.chk (decide (intA (AV.int IntKind.i64 (AL.n s)) ≤ (96 : Int)))
                  (T.chk (decide ((0 : Int) ≤ i) && decide (i < (↑(96 : Nat) : Int)))
                    (T.chk (decide (Int.toNat i < (96 : Nat)))
                      (T.ite (!false)
                        (T.chk (decide ((0 : Int) ≤ i) && decide (i < (↑(96 : Nat) : Int)))
                          (T.chk (decide (Int.toNat i < (96 : Nat)))
                            (T.ite (decide (IntKind.wrap IntKind.i64 ((0 : Int) + (1 : Int)) < intA (AV.int IntKind.i64 (AL.n s))))
                              (T.ret
                                (AV.ff,
                                  [some
                                      (Blk.mk true [AV.int IntKind.i64 (intA (AV.int IntKind.i64 (AL.n s)))] (1 : Nat) (96 : Nat) (fun a => if a = Int.toNat i then List.set (renL (out [(0 : Nat)] (1 : Nat)) [AV.bool false]) (0 : Nat) AV.tt else renL (out [(0 : Nat)] (1 : Nat)) [AV.bool false])
                                        [AV.int IntKind.i64 (IntKind.wrap IntKind.i64 ((0 : Int) + (1 : Int))), AV.int IntKind.i64 no, AV.int IntKind.i64 (intA (AV.int IntKind.i64 (AL.l s))), AV.bool (boolA (AV.bool (AL.d s)))] none)]))
                              (T.need
                                (IsAl
                                  (Blk.mk true [AV.int IntKind.i64 (intA (AV.int IntKind.i64 (AL.n s)))] (1 : Nat) (96 : Nat) (fun a => if a = Int.toNat i then List.set (renL (out [(0 : Nat)] (1 : Nat)) [AV.bool false]) (0 : Nat) AV.tt else renL (out [(0 : Nat)] (1 : Nat)) [AV.bool false])
                                    [AV.int IntKind.i64 (IntKind.wrap IntKind.i64 ((0 : Int) + (1 : Int))), AV.int IntKind.i64 no, AV.int IntKind.i64 (intA (AV.int IntKind.i64 (AL.l s))), AV.bool (boolA (AV.bool (AL.d s)))] none))
                                (T.chk (decide (intA (AV.int IntKind.i64 (intA (AV.int IntKind.i64 (AL.n s)))) ≤ (96 : Int)))
                                  (T.ret (AV.tt, [some (Blk.mk true [AV.int IntKind.i64 (intA (AV.int IntKind.i64 (intA (AV.int IntKind.i64 (AL.n s)))))] (1 : Nat) (96 : Nat) (fun a => [AV.bool false]) [AV.int IntKind.i64 (0 : Int), AV.int IntKind.i64 (intA (AV.int IntKind.i64 no)), AV.int IntKind.i64 no, AV.tt] none)])))))))
                        (T.ite (decide ((0 : Int) < intA (AV.int IntKind.i64 (AL.n s)))) (T.ret (AV.ff, [some (Blk.mk true [AV.int IntKind.i64 (intA (AV.int IntKind.i64 (AL.n s)))] (1 : Nat) (96 : Nat) (fun a => [AV.bool false]) [AV.int IntKind.i64 (0 : Int), AV.int IntKind.i64 no, AV.int IntKind.i64 (intA (AV.int IntKind.i64 (AL.l s))), AV.bool (boolA (AV.bool (AL.d s)))] none)]))
                          (T.need (IsAl (Blk.mk true [AV.int IntKind.i64 (intA (AV.int IntKind.i64 (AL.n s)))] (1 : Nat) (96 : Nat) (fun a => [AV.bool false]) [AV.int IntKind.i64 (0 : Int), AV.int IntKind.i64 no, AV.int IntKind.i64 (intA (AV.int IntKind.i64 (AL.l s))), AV.bool (boolA (AV.bool (AL.d s)))] none))
                            (T.chk (decide (intA (AV.int IntKind.i64 (intA (AV.int IntKind.i64 (AL.n s)))) ≤ (96 : Int)))
                              (T.ret (AV.tt, [some (Blk.mk true [AV.int IntKind.i64 (intA (AV.int IntKind.i64 (intA (AV.int IntKind.i64 (AL.n s)))))] (1 : Nat) (96 : Nat) (fun a => [AV.bool false]) [AV.int IntKind.i64 (0 : Int), AV.int IntKind.i64 (intA (AV.int IntKind.i64 no)), AV.int IntKind.i64 no, AV.tt] none)]))))))))))
              (T.chk (decide ((0 : Int) ≤ i) && decide (i < (↑(96 : Nat) : Int)))
                (T.chk (decide (Int.toNat i < (96 : Nat)))
                  (T.ite (!AL.B s (Int.toNat i))
                    (T.chk (decide ((0 : Int) ≤ i) && decide (i < (↑(96 : Nat) : Int)))
                      (T.chk (decide (Int.toNat i < (96 : Nat)))
                        (T.ite (decide (IntKind.wrap IntKind.i64 (AL.c s + (1 : Int)) < AL.n s))
                          (T.ret (AV.ff, [some (Blk.mk true [AV.int IntKind.i64 (AL.n s)] (1 : Nat) (96 : Nat) (fun a => if a = Int.toNat i then List.set [AV.bool (AL.B s (Int.toNat i))] (0 : Nat) AV.tt else [AV.bool (AL.B s a)]) [AV.int IntKind.i64 (IntKind.wrap IntKind.i64 (AL.c s + (1 : Int))), AV.int IntKind.i64 (AL.w s), AV.int IntKind.i64 (AL.l s), AV.bool (AL.d s)] none)]))
                          (T.need (IsAl (Blk.mk true [AV.int IntKind.i64 (AL.n s)] (1 : Nat) (96 : Nat) (fun a => if a = Int.toNat i then List.set [AV.bool (AL.B s (Int.toNat i))] (0 : Nat) AV.tt else [AV.bool (AL.B s a)]) [AV.int IntKind.i64 (IntKind.wrap IntKind.i64 (AL.c s + (1 : Int))), AV.int IntKind.i64 (AL.w s), AV.int IntKind.i64 (AL.l s), AV.bool (AL.d s)] none))
                            (T.chk (decide (intA (AV.int IntKind.i64 (AL.n s)) ≤ (96 : Int))) (T.ret (AV.tt, [some (Blk.mk true [AV.int IntKind.i64 (intA (AV.int IntKind.i64 (AL.n s)))] (1 : Nat) (96 : Nat) (fun a => [AV.bool false]) [AV.int IntKind.i64 (0 : Int), AV.int IntKind.i64 (intA (AV.int IntKind.i64 (AL.w s))), AV.int IntKind.i64 no, AV.tt] none)])))))))
                    (T.ite (decide (AL.c s < AL.n s)) (T.ret (AV.ff, [some (Blk.mk true [AV.int IntKind.i64 (AL.n s)] (1 : Nat) (96 : Nat) (fun j => [AV.bool (AL.B s j)]) [AV.int IntKind.i64 (AL.c s), AV.int IntKind.i64 (AL.w s), AV.int IntKind.i64 (AL.l s), AV.bool (AL.d s)] none)]))
                      (T.need (IsAl (Blk.mk true [AV.int IntKind.i64 (AL.n s)] (1 : Nat) (96 : Nat) (fun j => [AV.bool (AL.B s j)]) [AV.int IntKind.i64 (AL.c s), AV.int IntKind.i64 (AL.w s), AV.int IntKind.i64 (AL.l s), AV.bool (AL.d s)] none))
                        (T.chk (decide (intA (AV.int IntKind.i64 (AL.n s)) ≤ (96 : Int))) (T.ret (AV.tt, [some (Blk.mk true [AV.int IntKind.i64 (intA (AV.int IntKind.i64 (AL.n s)))] (1 : Nat) (96 : Nat) (fun a => [AV.bool false]) [AV.int IntKind.i64 (0 : Int), AV.int IntKind.i64 (intA (AV.int IntKind.i64 (AL.w s))), AV.int IntKind.i64 no, AV.tt] none)])))))))))))
        (T.ite (decide (AL.c s > (0 : Int)))
          (T.ite (decide (AL.w s > no)) (T.ret (AV.ff, [some (Blk.mk true [AV.int IntKind.i64 (AL.n s)] (1 : Nat) (96 : Nat) (fun j => [AV.bool (AL.B s j)]) [AV.int IntKind.i64 (AL.c s), AV.int IntKind.i64 (AL.w s), AV.int IntKind.i64 (AL.l s), AV.bool (AL.d s)] none)]))
            (T.ite (AL.w s != no)
              (T.need (IsAl (Blk.mk true [AV.int IntKind.i64 (AL.n s)] (1 : Nat) (96 : Nat) (fun j => [AV.bool (AL.B s j)]) [AV.int IntKind.i64 (AL.c s), AV.int IntKind.i64 (AL.w s), AV.int IntKind.i64 (AL.l s), AV.bool (AL.d s)] none))
                (T.chk (decide (intA (AV.int IntKind.i64 (AL.n s)) ≤ (96 : Int)))
                  (T.chk (decide ((0 : Int) ≤ i) && decide (i < (↑(96 : Nat) : Int)))
                    (T.chk (decide (Int.toNat i < (96 : Nat)))
                      (T.ite (!false)
                        (T.chk (decide ((0 : Int) ≤ i) && decide (i < (↑(96 : Nat) : Int)))
                          (T.chk (decide (Int.toNat i < (96 : Nat)))
                            (T.ite (decide (IntKind.wrap IntKind.i64 ((0 : Int) + (1 : Int)) < intA (AV.int IntKind.i64 (AL.n s))))
                              (T.ret
                                (AV.ff,
                                  [some
                                      (Blk.mk true [AV.int IntKind.i64 (intA (AV.int IntKind.i64 (AL.n s)))] (1 : Nat) (96 : Nat) (fun a => if a = Int.toNat i then List.set (renL (out [(0 : Nat)] (1 : Nat)) [AV.bool false]) (0 : Nat) AV.tt else renL (out [(0 : Nat)] (1 : Nat)) [AV.bool false])
                                        [AV.int IntKind.i64 (IntKind.wrap IntKind.i64 ((0 : Int) + (1 : Int))), AV.int IntKind.i64 no, AV.int IntKind.i64 (intA (AV.int IntKind.i64 (AL.l s))), AV.bool (boolA (AV.bool (AL.d s)))] none)]))
                              (T.need
                                (IsAl
                                  (Blk.mk true [AV.int IntKind.i64 (intA (AV.int IntKind.i64 (AL.n s)))] (1 : Nat) (96 : Nat) (fun a => if a = Int.toNat i then List.set (renL (out [(0 : Nat)] (1 : Nat)) [AV.bool false]) (0 : Nat) AV.tt else renL (out [(0 : Nat)] (1 : Nat)) [AV.bool false])
                                    [AV.int IntKind.i64 (IntKind.wrap IntKind.i64 ((0 : Int) + (1 : Int))), AV.int IntKind.i64 no, AV.int IntKind.i64 (intA (AV.int IntKind.i64 (AL.l s))), AV.bool (boolA (AV.bool (AL.d s)))] none))
                                (T.chk (decide (intA (AV.int IntKind.i64 (intA (AV.int IntKind.i64 (AL.n s)))) ≤ (96 : Int)))
                                  (T.ret (AV.tt, [some (Blk.mk true [AV.int IntKind.i64 (intA (AV.int IntKind.i64 (intA (AV.int IntKind.i64 (AL.n s)))))] (1 : Nat) (96 : Nat) (fun a => [AV.bool false]) [AV.int IntKind.i64 (0 : Int), AV.int IntKind.i64 (intA (AV.int IntKind.i64 no)), AV.int IntKind.i64 no, AV.tt] none)])))))))
                        (T.ite (decide ((0 : Int) < intA (AV.int IntKind.i64 (AL.n s)))) (T.ret (AV.ff, [some (Blk.mk true [AV.int IntKind.i64 (intA (AV.int IntKind.i64 (AL.n s)))] (1 : Nat) (96 : Nat) (fun a => [AV.bool false]) [AV.int IntKind.i64 (0 : Int), AV.int IntKind.i64 no, AV.int IntKind.i64 (intA (AV.int IntKind.i64 (AL.l s))), AV.bool (boolA (AV.bool (AL.d s)))] none)]))
                          (T.need (IsAl (Blk.mk true [AV.int IntKind.i64 (intA (AV.int IntKind.i64 (AL.n s)))] (1 : Nat) (96 : Nat) (fun a => [AV.bool false]) [AV.int IntKind.i64 (0 : Int), AV.int IntKind.i64 no, AV.int IntKind.i64 (intA (AV.int IntKind.i64 (AL.l s))), AV.bool (boolA (AV.bool (AL.d s)))] none))
                            (T.chk (decide (intA (AV.int IntKind.i64 (intA (AV.int IntKind.i64 (AL.n s)))) ≤ (96 : Int)))
                              (T.ret (AV.tt, [some (Blk.mk true [AV.int IntKind.i64 (intA (AV.int IntKind.i64 (intA (AV.int IntKind.i64 (AL.n s)))))] (1 : Nat) (96 : Nat) (fun a => [AV.bool false]) [AV.int IntKind.i64 (0 : Int), AV.int IntKind.i64 (intA (AV.int IntKind.i64 no)), AV.int IntKind.i64 no, AV.tt] none)]))))))))))
              (T.chk (decide ((0 : Int) ≤ i) && decide (i < (↑(96 : Nat) : Int)))
                (T.chk (decide (Int.toNat i < (96 : Nat)))
                  (T.ite (!AL.B s (Int.toNat i))
                    (T.chk (decide ((0 : Int) ≤ i) && decide (i < (↑(96 : Nat) : Int)))
                      (T.chk (decide (Int.toNat i < (96 : Nat)))
                        (T.ite (decide (IntKind.wrap IntKind.i64 (AL.c s + (1 : Int)) < AL.n s))
                          (T.ret (AV.ff, [some (Blk.mk true [AV.int IntKind.i64 (AL.n s)] (1 : Nat) (96 : Nat) (fun a => if a = Int.toNat i then List.set [AV.bool (AL.B s (Int.toNat i))] (0 : Nat) AV.tt else [AV.bool (AL.B s a)]) [AV.int IntKind.i64 (IntKind.wrap IntKind.i64 (AL.c s + (1 : Int))), AV.int IntKind.i64 (AL.w s), AV.int IntKind.i64 (AL.l s), AV.bool (AL.d s)] none)]))
                          (T.need (IsAl (Blk.mk true [AV.int IntKind.i64 (AL.n s)] (1 : Nat) (96 : Nat) (fun a => if a = Int.toNat i then List.set [AV.bool (AL.B s (Int.toNat i))] (0 : Nat) AV.tt else [AV.bool (AL.B s a)]) [AV.int IntKind.i64 (IntKind.wrap IntKind.i64 (AL.c s + (1 : Int))), AV.int IntKind.i64 (AL.w s), AV.int IntKind.i64 (AL.l s), AV.bool (AL.d s)] none))
                            (T.chk (decide (intA (AV.int IntKind.i64 (AL.n s)) ≤ (96 : Int))) (T.ret (AV.tt, [some (Blk.mk true [AV.int IntKind.i64 (intA (AV.int IntKind.i64 (AL.n s)))] (1 : Nat) (96 : Nat) (fun a => [AV.bool false]) [AV.int IntKind.i64 (0 : Int), AV.int IntKind.i64 (intA (AV.int IntKind.i64 (AL.w s))), AV.int IntKind.i64 no, AV.tt] none)])))))))
                    (T.ite (decide (AL.c s < AL.n s)) (T.ret (AV.ff, [some (Blk.mk true [AV.int IntKind.i64 (AL.n s)] (1 : Nat) (96 : Nat) (fun j => [AV.bool (AL.B s j)]) [AV.int IntKind.i64 (AL.c s), AV.int IntKind.i64 (AL.w s), AV.int IntKind.i64 (AL.l s), AV.bool (AL.d s)] none)]))
                      (T.need (IsAl (Blk.mk true [AV.int IntKind.i64 (AL.n s)] (1 : Nat) (96 : Nat) (fun j => [AV.bool (AL.B s j)]) [AV.int IntKind.i64 (AL.c s), AV.int IntKind.i64 (AL.w s), AV.int IntKind.i64 (AL.l s), AV.bool (AL.d s)] none))
                        (T.chk (decide (intA (AV.int IntKind.i64 (AL.n s)) ≤ (96 : Int))) (T.ret (AV.tt, [some (Blk.mk true [AV.int IntKind.i64 (intA (AV.int IntKind.i64 (AL.n s)))] (1 : Nat) (96 : Nat) (fun a => [AV.bool false]) [AV.int IntKind.i64 (0 : Int), AV.int IntKind.i64 (intA (AV.int IntKind.i64 (AL.w s))), AV.int IntKind.i64 no, AV.tt] none)]))))))))))
          (T.ite (AL.w s != no)
            (T.need (IsAl (Blk.mk true [AV.int IntKind.i64 (AL.n s)] (1 : Nat) (96 : Nat) (fun j => [AV.bool (AL.B s j)]) [AV.int IntKind.i64 (AL.c s), AV.int IntKind.i64 (AL.w s), AV.int IntKind.i64 (AL.l s), AV.bool (AL.d s)] none))
              (T.chk (decide (intA (AV.int IntKind.i64 (AL.n s)) ≤ (96 : Int)))
                (T.chk (decide ((0 : Int) ≤ i) && decide (i < (↑(96 : Nat) : Int)))
                  (T.chk (decide (Int.toNat i < (96 : Nat)))
                    (T.ite (!false)
                      (T.chk (decide ((0 : Int) ≤ i) && decide (i < (↑(96 : Nat) : Int)))
                        (T.chk (decide (Int.toNat i < (96 : Nat)))
                          (T.ite (decide (IntKind.wrap IntKind.i64 ((0 : Int) + (1 : Int)) < intA (AV.int IntKind.i64 (AL.n s))))
                            (T.ret
                              (AV.ff,
                                [some
                                    (Blk.mk true [AV.int IntKind.i64 (intA (AV.int IntKind.i64 (AL.n s)))] (1 : Nat) (96 : Nat) (fun a => if a = Int.toNat i then List.set (renL (out [(0 : Nat)] (1 : Nat)) [AV.bool false]) (0 : Nat) AV.tt else renL (out [(0 : Nat)] (1 : Nat)) [AV.bool false])
                                      [AV.int IntKind.i64 (IntKind.wrap IntKind.i64 ((0 : Int) + (1 : Int))), AV.int IntKind.i64 no, AV.int IntKind.i64 (intA (AV.int IntKind.i64 (AL.l s))), AV.bool (boolA (AV.bool (AL.d s)))] none)]))
                            (T.need
                              (IsAl
                                (Blk.mk true [AV.int IntKind.i64 (intA (AV.int IntKind.i64 (AL.n s)))] (1 : Nat) (96 : Nat) (fun a => if a = Int.toNat i then List.set (renL (out [(0 : Nat)] (1 : Nat)) [AV.bool false]) (0 : Nat) AV.tt else renL (out [(0 : Nat)] (1 : Nat)) [AV.bool false])
                                  [AV.int IntKind.i64 (IntKind.wrap IntKind.i64 ((0 : Int) + (1 : Int))), AV.int IntKind.i64 no, AV.int IntKind.i64 (intA (AV.int IntKind.i64 (AL.l s))), AV.bool (boolA (AV.bool (AL.d s)))] none))
                              (T.chk (decide (intA (AV.int IntKind.i64 (intA (AV.int IntKind.i64 (AL.n s)))) ≤ (96 : Int)))
                                (T.ret (AV.tt, [some (Blk.mk true [AV.int IntKind.i64 (intA (AV.int IntKind.i64 (intA (AV.int IntKind.i64 (AL.n s)))))] (1 : Nat) (96 : Nat) (fun a => [AV.bool false]) [AV.int IntKind.i64 (0 : Int), AV.int IntKind.i64 (intA (AV.int IntKind.i64 no)), AV.int IntKind.i64 no, AV.tt] none)])))))))
                      (T.ite (decide ((0 : Int) < intA (AV.int IntKind.i64 (AL.n s)))) (T.ret (AV.ff, [some (Blk.mk true [AV.int IntKind.i64 (intA (AV.int IntKind.i64 (AL.n s)))] (1 : Nat) (96 : Nat) (fun a => [AV.bool false]) [AV.int IntKind.i64 (0 : Int), AV.int IntKind.i64 no, AV.int IntKind.i64 (intA (AV.int IntKind.i64 (AL.l s))), AV.bool (boolA (AV.bool (AL.d s)))] none)]))
                        (T.need (IsAl (Blk.mk true [AV.int IntKind.i64 (intA (AV.int IntKind.i64 (AL.n s)))] (1 : Nat) (96 : Nat) (fun a => [AV.bool false]) [AV.int IntKind.i64 (0 : Int), AV.int IntKind.i64 no, AV.int IntKind.i64 (intA (AV.int IntKind.i64 (AL.l s))), AV.bool (boolA (AV.bool (AL.d s)))] none))
                          (T.chk (decide (intA (AV.int IntKind.i64 (intA (AV.int IntKind.i64 (AL.n s)))) ≤ (96 : Int)))
                            (T.ret (AV.tt, [some (Blk.mk true [AV.int IntKind.i64 (intA (AV.int IntKind.i64 (intA (AV.int IntKind.i64 (AL.n s)))))] (1 : Nat) (96 : Nat) (fun a => [AV.bool false]) [AV.int IntKind.i64 (0 : Int), AV.int IntKind.i64 (intA (AV.int IntKind.i64 no)), AV.int IntKind.i64 no, AV.tt] none)]))))))))))
            (T.chk (decide ((0 : Int) ≤ i) && decide (i < (↑(96 : Nat) : Int)))
              (T.chk (decide (Int.toNat i < (96 : Nat)))
                (T.ite (!AL.B s (Int.toNat i))
                  (T.chk (decide ((0 : Int) ≤ i) && decide (i < (↑(96 : Nat) : Int)))
                    (T.chk (decide (Int.toNat i < (96 : Nat)))
                      (T.ite (decide (IntKind.wrap IntKind.i64 (AL.c s + (1 : Int)) < AL.n s))
                        (T.ret (AV.ff, [some (Blk.mk true [AV.int IntKind.i64 (AL.n s)] (1 : Nat) (96 : Nat) (fun a => if a = Int.toNat i then List.set [AV.bool (AL.B s (Int.toNat i))] (0 : Nat) AV.tt else [AV.bool (AL.B s a)]) [AV.int IntKind.i64 (IntKind.wrap IntKind.i64 (AL.c s + (1 : Int))), AV.int IntKind.i64 (AL.w s), AV.int IntKind.i64 (AL.l s), AV.bool (AL.d s)] none)]))
                        (T.need (IsAl (Blk.mk true [AV.int IntKind.i64 (AL.n s)] (1 : Nat) (96 : Nat) (fun a => if a = Int.toNat i then List.set [AV.bool (AL.B s (Int.toNat i))] (0 : Nat) AV.tt else [AV.bool (AL.B s a)]) [AV.int IntKind.i64 (IntKind.wrap IntKind.i64 (AL.c s + (1 : Int))), AV.int IntKind.i64 (AL.w s), AV.int IntKind.i64 (AL.l s), AV.bool (AL.d s)] none))
                          (T.chk (decide (intA (AV.int IntKind.i64 (AL.n s)) ≤ (96 : Int))) (T.ret (AV.tt, [some (Blk.mk true [AV.int IntKind.i64 (intA (AV.int IntKind.i64 (AL.n s)))] (1 : Nat) (96 : Nat) (fun a => [AV.bool false]) [AV.int IntKind.i64 (0 : Int), AV.int IntKind.i64 (intA (AV.int IntKind.i64 (AL.w s))), AV.int IntKind.i64 no, AV.tt] none)])))))))
                  (T.ite (decide (AL.c s < AL.n s)) (T.ret (AV.ff, [some (Blk.mk true [AV.int IntKind.i64 (AL.n s)] (1 : Nat) (96 : Nat) (fun j => [AV.bool (AL.B s j)]) [AV.int IntKind.i64 (AL.c s), AV.int IntKind.i64 (AL.w s), AV.int IntKind.i64 (AL.l s), AV.bool (AL.d s)] none)]))
                    (T.need (IsAl (Blk.mk true [AV.int IntKind.i64 (AL.n s)] (1 : Nat) (96 : Nat) (fun j => [AV.bool (AL.B s j)]) [AV.int IntKind.i64 (AL.c s), AV.int IntKind.i64 (AL.w s), AV.int IntKind.i64 (AL.l s), AV.bool (AL.d s)] none))
                      (T.chk (decide (intA (AV.int IntKind.i64 (AL.n s)) ≤ (96 : Int))) (T.ret (AV.tt, [some (Blk.mk true [AV.int IntKind.i64 (intA (AV.int IntKind.i64 (AL.n s)))] (1 : Nat) (96 : Nat) (fun a => [AV.bool false]) [AV.int IntKind.i64 (0 : Int), AV.int IntKind.i64 (intA (AV.int IntKind.i64 (AL.w s))), AV.int IntKind.i64 no, AV.tt] none)])))))))))))) := by
  kernel_rfl

def boolish (v : AV) : Prop := v = .tt ∨ v = .ff ∨ ∃ b, v = .bool b
theorem boolish_alike {v : AV} (h : boolish v) {n : Nat} {ρ : Nat → Nat} : LAlike n ρ [v] [.bool (boolA v)] := by
  rcases h with rfl | rfl | ⟨b, rfl⟩ <;> simp [LAlike, boolA, ren, below, AV.scalar]

theorem isAl2 {n c w l : Int} {F : Nat → List AV} {D : AV} (hF : ∀ j, j < 96 → ∃ v, F j = [v] ∧ boolish v) (hD : boolish D) : IsAl ⟨true, [.int .i64 n], 1, 96, F, [.int .i64 c, .int .i64 w, .int .i64 l, D], none⟩ := by
  refine ⟨rfl, fun m ρ => ⟨fun h => h, by simp [alB, stA, intA, LAlike, ren, below, AV.scalar], rfl, rfl, fun j hj => ?_, ?_, trivial⟩⟩
  · obtain ⟨v, hv, hb⟩ := hF j hj
    simp only [alB, stA, hv, List.getD_cons_zero]
    exact boolish_alike hb
  · have := boolish_alike (n := m) (ρ := ρ) hD
    simp only [LAlike, and_true] at this
    simp [alB, stA, intA, LAlike, ren, below, AV.scalar] at this ⊢
    exact this

/-- A block of an Align, told by what it holds. -/
theorem alOK {N : Nat} {ρ : Nat → Nat} {n c w l : Int} {F : Nat → List AV} {D : AV} {t : AL} (h1 : n = t.n) (hF : ∀ j, j < 96 → LAlike N ρ (F j) [.bool (t.B j)]) (h3 : c = t.c) (h4 : w = t.w) (h5 : l = t.l) (hD : Ox.Alike D (.bool t.d)) :
    BlkOK N ρ ⟨true, [.int .i64 n], 1, 96, F, [.int .i64 c, .int .i64 w, .int .i64 l, D], none⟩ (alB t) :=
  ⟨fun h => h, by simp [alB, h1, LAlike, ren, below, AV.scalar], rfl, rfl, hF, by simp [alB, h3, h4, h5, LAlike, ren, below, AV.scalar, hD], trivial⟩

def rfA (s : AL) (i no : Int) : Prop := i < 0 ∨ s.n ≤ i ∨ (s.d = true ∧ no ≤ s.l) ∨ (0 < s.c ∧ no < s.w)
instance (s : AL) (i no : Int) : Decidable (rfA s i no) := by unfold rfA; infer_instance
def B1A (s : AL) (no : Int) (j : Nat) : Bool := if s.w = no then s.B j else false
def c1A (s : AL) (no : Int) : Int := if s.w = no then s.c else 0
def c2A (s : AL) (i no : Int) : Int := if B1A s no i.toNat = true then c1A s no else IntKind.wrap .i64 (c1A s no + 1)
def fuA (s : AL) (i no : Int) : Prop := ¬ c2A s i no < s.n
instance (s : AL) (i no : Int) : Decidable (fuA s i no) := by unfold fuA; infer_instance
def fullA (s : AL) (no : Int) : AL := ⟨s.n, fun _ => false, 0, no, no, true⟩
def moreA (s : AL) (i no : Int) : AL := ⟨s.n, fun j => if j = i.toNat then true else B1A s no j, c2A s i no, no, s.l, s.d⟩
def bar (s : AL) (i no : Int) : AL := if rfA s i no then s else if fuA s i no then fullA s no else moreA s i no
def barR (s : AL) (i no : Int) : Bool := decide (¬ rfA s i no ∧ fuA s i no)

theorem ba_eff (s : AL) (i no : Int) (hn : s.n ≤ 96) : EffAt Try.prog 13 [.ptr 0 0 0 0, .int .i64 i, .int .i64 no] [some (alB s)] (.ret (.bool (barR s i no), [some (alB (bar s i no))])) := by
  refine fn_ok (E := baE) (c := codeOf Try.f13) Try.func13 rfl (EnvOK.cons ub_ok EnvOK.nil) (noLoops (by kernel_rfl)) rfl rfl fun Q hq => ?_
  have hq : Q (.bool (barR s i no), [some (alB (bar s i no))]) := hq
  have refuse : rfA s i no → Leaf 1 Q (.ff, [some (alB s)]) := fun h => by
    have e1 : barR s i no = false := by simp [barR, h]
    have e2 : bar s i no = s := if_pos h
    rw [e1, e2] at hq
    exact leaf_of id hq (by simp [ren]) (by simp [below]) al_sub
  have more : ∀ X, ¬ rfA s i no → c2A s i no < s.n → BlkOK 1 id X (alB (moreA s i no)) → Leaf 1 Q (.ff, [some X]) := fun X h hf hX => by
    have e1 : barR s i no = false := by simp [barR, fuA, hf]
    have e2 : bar s i no = moreA s i no := by rw [bar, if_neg h, if_neg (fun hh => hh hf)]
    rw [e1, e2] at hq
    exact leaf_of id hq (by simp [ren]) (by simp [below]) (Sub.ofId ⟨⟨_, rfl, hX⟩, trivial⟩ (Nat.le_refl _))
  have full : ∀ X, ¬ rfA s i no → ¬ c2A s i no < s.n → BlkOK 1 id X (alB (fullA s no)) → Leaf 1 Q (.tt, [some X]) := fun X h hf hX => by
    have e1 : barR s i no = true := by simp [barR, h, fuA, hf]
    have e2 : bar s i no = fullA s no := by rw [bar, if_neg h]; exact if_pos hf
    rw [e1, e2] at hq
    exact leaf_of id hq (by simp [ren]) (by simp [below]) (Sub.ofId ⟨⟨_, rfl, hX⟩, trivial⟩ (Nat.le_refl _))
  rw [ba_fn]
  clear hq
  refine T.hiteP (fun h1 => refuse (.inl h1)) (fun h1 => T.hiteP (fun h2 => refuse (.inr (.inl h2))) (fun h2 => T.hite (fun hd => T.hiteP (fun h3 => refuse (.inr (.inr (.inl ⟨hd, h3⟩)))) (fun h3 => T.hiteP (fun h4 => T.hiteP (fun h5 => refuse (.inr (.inr (.inr ⟨h4, h5⟩)))) (fun h5 => ?_)) (fun h4 => ?_)))
    (fun hd => T.hiteP (fun h4 => T.hiteP (fun h5 => refuse (.inr (.inr (.inr ⟨h4, h5⟩)))) (fun h5 => ?_)) (fun h4 => ?_))))
  all_goals
    have nrf : ¬ rfA s i no := by
      rintro (h | h | ⟨h, h'⟩ | ⟨h, h'⟩) <;> first | omega | (rw [hd] at h; cases h)
    refine T.hiteN (fun hw => ?_) (fun hw => ?_)
    · have e : c2A s i no = IntKind.wrap .i64 (0 + 1) := by simp [c2A, B1A, c1A, hw]
      refine T.hneed isAl (T.hchk (decide_eq_true hn) (T.hchk (by simp; omega) (T.hchk (by simp; omega) (T.hite (fun _ => T.hchk (by simp; omega) (T.hchk (by simp; omega) (T.hiteP (fun hc => ?_) (fun hc => ?_)))) (fun h => by cases h)))))
      · refine T.hret (more _ nrf (by rw [e]; exact hc) (alOK rfl (fun j _ => ?_) e.symm rfl rfl (Ox.Alike_refl _)))
        by_cases hj : j = i.toNat
        · rw [if_pos hj]; simp [LAlike, renL, ren, moreA, hj, below, AV.scalar]
        · rw [if_neg hj]; simp [LAlike, renL, ren, moreA, B1A, hw, hj, below, AV.scalar]
      · refine T.hneed (isAl2 (fun j _ => ?_) (.inr (.inr ⟨_, rfl⟩))) (T.hchk (decide_eq_true hn) (T.hret (full _ nrf (by rw [e]; exact hc) (alOK rfl (fun j _ => by simp [LAlike, fullA, ren, below, AV.scalar]) rfl rfl rfl (by simp [fullA])))))
        by_cases hj : j = i.toNat
        · rw [if_pos hj]; exact ⟨_, rfl, .inl rfl⟩
        · rw [if_neg hj]; exact ⟨_, rfl, .inr (.inr ⟨_, rfl⟩)⟩
    · refine T.hchk (by simp; omega) (T.hchk (by simp; omega) (T.hiteF (fun hb => T.hchk (by simp; omega) (T.hchk (by simp; omega) (T.hiteP (fun hc => ?_) (fun hc => ?_)))) (fun hb => T.hiteP (fun hc => ?_) (fun hc => ?_))))
      · have e : c2A s i no = IntKind.wrap .i64 (s.c + 1) := by simp [c2A, B1A, c1A, hw, hb]
        refine T.hret (more _ nrf (by rw [e]; exact hc) (alOK rfl (fun j _ => ?_) e.symm hw rfl (Ox.Alike_refl _)))
        by_cases hj : j = i.toNat
        · rw [if_pos hj]; simp [LAlike, ren, moreA, hj, below, AV.scalar]
        · rw [if_neg hj]; simp [LAlike, ren, moreA, B1A, hw, hj, below, AV.scalar]
      · have e : c2A s i no = IntKind.wrap .i64 (s.c + 1) := by simp [c2A, B1A, c1A, hw, hb]
        refine T.hneed (isAl2 (fun j _ => ?_) (.inr (.inr ⟨_, rfl⟩))) (T.hchk (decide_eq_true hn) (T.hret (full _ nrf (by rw [e]; exact hc) (alOK rfl (fun j _ => by simp [LAlike, fullA, ren, below, AV.scalar]) rfl hw rfl (by simp [fullA])))))
        by_cases hj : j = i.toNat
        · rw [if_pos hj]; exact ⟨_, rfl, .inl rfl⟩
        · rw [if_neg hj]; exact ⟨_, rfl, .inr (.inr ⟨_, rfl⟩)⟩
      · have e : c2A s i no = s.c := by simp [c2A, B1A, c1A, hw, hb]
        refine T.hret (more _ nrf (by rw [e]; exact hc) (alOK rfl (fun j _ => ?_) e.symm hw rfl (Ox.Alike_refl _)))
        by_cases hj : j = i.toNat
        · subst hj; simp [LAlike, ren, moreA, below, AV.scalar, hb]
        · simp [LAlike, ren, moreA, B1A, hw, hj, below, AV.scalar]
      · have e : c2A s i no = s.c := by simp [c2A, B1A, c1A, hw, hb]
        exact T.hneed isAl (T.hchk (decide_eq_true hn) (T.hret (full _ nrf (by rw [e]; exact hc) (alOK rfl (fun j _ => by simp [LAlike, fullA, ren, below, AV.scalar]) rfl hw rfl (by simp [fullA])))))

def baS : List AV → AM → T (AV × AM)
  | [.ptr id 0 0 0, .int .i64 i, .int .i64 no], m => onAl (fun s => .ret (.bool (barR s i no), [some (alB (bar s i no))])) id m
  | _, _ => .fail
def twoI : List AV → Int × Int
  | [.int _ i, .int _ no] => (i, no)
  | _ => (0, 0)

theorem ba_ok : SummOK Try.prog 13 (.eff baS) := by
  refine onAl_ok (fun args w => Try.call13 args w) (t := fun more s => .ret (.bool (barR s (twoI more).1 (twoI more).2), [some (alB (bar s (twoI more).1 (twoI more).2))])) fun args m Q hq => ?_
  unfold baS at hq
  split at hq
  · rename_i id i no
    exact ⟨id, [.int .i64 i, .int .i64 no], rfl, rfl, hq, fun s hn => ba_eff s i no hn⟩
  · exact hq.elim

end Go.Proofs.Ythbdkhlpojngeaa
