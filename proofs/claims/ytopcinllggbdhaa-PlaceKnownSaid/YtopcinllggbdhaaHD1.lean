/-
  PlaceKnown: a round of the inmost loop, place of kind 1.
-/
import Derived.Test.YtopcinllggbdhaaHD
namespace Go.Proofs.Ytopcinllggbdhaa
open Go.Ox
set_option maxRecDepth 100000

theorem pk9_tree1 (g : Nat → Int) (i k j : Nat) : keepT [1, 2, 3, 4] (acode Try.prog (pkE 1) (loopAt (loopAt (loopAt (codeOf Try.f5) 0) 0) 0) (pk9 (g, i, k, j))) = 
  T.ite (decide ((↑j : Int) < (↑(12 : Nat) : Int)))
    (T.chk (decide ((0 : Int) ≤ (↑i : Int)) && decide ((↑i : Int) < (↑(12 : Nat) : Int)))
      (T.chk (decide ((0 : Nat) + Int.toNat (↑i : Int) < (12 : Nat)))
        (T.chk (decide ((0 : Int) ≤ (↑k : Int)) && decide ((↑k : Int) < (↑(12 : Nat) : Int)))
          (T.chk (decide ((0 : Nat) + Int.toNat (↑k : Int) < (12 : Nat)))
            (T.chk (decide ((0 : Int) ≤ (↑j : Int)) && decide ((↑j : Int) < (↑(12 : Nat) : Int)))
              (T.chk (decide ((0 : Nat) + Int.toNat (↑j : Int) < (12 : Nat)))
                (T.chk (okA (g ((0 : Nat) + Int.toNat (↑i : Int))) (g ((0 : Nat) + Int.toNat (↑k : Int))) (g ((0 : Nat) + Int.toNat (↑j : Int))) && !decide (g ((0 : Nat) + Int.toNat (↑i : Int)) ≤ g ((0 : Nat) + Int.toNat (↑k : Int)) * g ((0 : Nat) + Int.toNat (↑j : Int))))
                  (T.chk (decide ((0 : Int) ≤ (↑i : Int)) && decide ((↑i : Int) < (↑(12 : Nat) : Int)))
                    (T.chk (decide ((0 : Nat) + Int.toNat (↑i : Int) < (12 : Nat)))
                      (T.ite (decide (g ((0 : Nat) + Int.toNat (↑i : Int)) ≥ (0 : Int)))
                        (T.chk (decide ((0 : Int) ≤ (↑k : Int)) && decide ((↑k : Int) < (↑(12 : Nat) : Int)))
                          (T.chk (decide ((0 : Nat) + Int.toNat (↑k : Int) < (12 : Nat)))
                            (T.ite (decide (g ((0 : Nat) + Int.toNat (↑k : Int)) ≥ (1 : Int)))
                              (T.chk (decide ((0 : Int) ≤ (↑k : Int)) && decide ((↑k : Int) < (↑(12 : Nat) : Int)))
                                (T.chk (decide ((0 : Nat) + Int.toNat (↑k : Int) < (12 : Nat)))
                                  (T.ite (decide (g ((0 : Nat) + Int.toNat (↑k : Int)) ≤ (8 : Int)))
                                    (T.chk (decide ((0 : Int) ≤ (↑j : Int)) && decide ((↑j : Int) < (↑(12 : Nat) : Int)))
                                      (T.chk (decide ((0 : Nat) + Int.toNat (↑j : Int) < (12 : Nat)))
                                        (T.ite (decide (g ((0 : Nat) + Int.toNat (↑j : Int)) ≥ (1 : Int)))
                                          (T.chk (decide ((0 : Int) ≤ (↑j : Int)) && decide ((↑j : Int) < (↑(12 : Nat) : Int)))
                                            (T.chk (decide ((0 : Nat) + Int.toNat (↑j : Int) < (12 : Nat)))
                                              (T.ite (decide (g ((0 : Nat) + Int.toNat (↑j : Int)) ≤ (16 : Int)))
                                                (T.chk (decide ((0 : Int) ≤ (↑i : Int)) && decide ((↑i : Int) < (↑(12 : Nat) : Int)))
                                                  (T.chk (decide ((0 : Nat) + Int.toNat (↑i : Int) < (12 : Nat)))
                                                    (T.chk (decide ((0 : Int) ≤ (↑k : Int)) && decide ((↑k : Int) < (↑(12 : Nat) : Int)))
                                                      (T.chk (decide ((0 : Nat) + Int.toNat (↑k : Int) < (12 : Nat)))
                                                        (T.chk (decide ((0 : Int) ≤ (↑j : Int)) && decide ((↑j : Int) < (↑(12 : Nat) : Int)))
                                                          (T.chk (decide ((0 : Nat) + Int.toNat (↑j : Int) < (12 : Nat)))
                                                            (T.ite (!((13 : Int) == (0 : Int)) == decide (g ((0 : Nat) + Int.toNat (↑i : Int)) ≤ IntKind.wrap IntKind.i64 (g ((0 : Nat) + Int.toNat (↑k : Int)) * g ((0 : Nat) + Int.toNat (↑j : Int)))))
                                                              (T.ret (Ex.ret, St.mk [((1 : Nat), AV.sl (0 : Nat) (0 : Nat) (1 : Nat) (0 : Nat) (12 : Nat) (12 : Nat)), ((2 : Nat), AV.int IntKind.i64 (↑i : Int)), ((3 : Nat), AV.int IntKind.i64 (↑k : Int)), ((4 : Nat), AV.int IntKind.i64 (↑j : Int))] [some (Blk.mk true [] (1 : Nat) (12 : Nat) (fun j => [AV.int IntKind.i64 (g j)]) [])]))
                                                              (T.ite (!decide (g ((0 : Nat) + Int.toNat (↑j : Int)) ≤ (16 : Int)))
                                                                (T.ite true (T.ret (Ex.ret, St.mk [((1 : Nat), AV.sl (0 : Nat) (0 : Nat) (1 : Nat) (0 : Nat) (12 : Nat) (12 : Nat)), ((2 : Nat), AV.int IntKind.i64 (↑i : Int)), ((3 : Nat), AV.int IntKind.i64 (↑k : Int)), ((4 : Nat), AV.int IntKind.i64 (↑j : Int))] [some (Blk.mk true [] (1 : Nat) (12 : Nat) (fun j => [AV.int IntKind.i64 (g j)]) [])]))
                                                                  (T.ite true
                                                                    (T.ite false
                                                                      (T.ret (Ex.ret, St.mk [((1 : Nat), AV.sl (0 : Nat) (0 : Nat) (1 : Nat) (0 : Nat) (12 : Nat) (12 : Nat)), ((2 : Nat), AV.int IntKind.i64 (↑i : Int)), ((3 : Nat), AV.int IntKind.i64 (↑k : Int)), ((4 : Nat), AV.int IntKind.i64 (↑j : Int))] [some (Blk.mk true [] (1 : Nat) (12 : Nat) (fun j => [AV.int IntKind.i64 (g j)]) [])]))
                                                                      (T.ite false
                                                                        (T.chk (decide ((0 : Int) ≤ (↑i : Int)) && decide ((↑i : Int) < (↑(12 : Nat) : Int)))
                                                                          (T.chk (decide ((0 : Nat) + Int.toNat (↑i : Int) < (12 : Nat)))
                                                                            (T.ite ((0 : Int) != g ((0 : Nat) + Int.toNat (↑i : Int)))
                                                                              (T.ret (Ex.ret, St.mk [((1 : Nat), AV.sl (0 : Nat) (0 : Nat) (1 : Nat) (0 : Nat) (12 : Nat) (12 : Nat)), ((2 : Nat), AV.int IntKind.i64 (↑i : Int)), ((3 : Nat), AV.int IntKind.i64 (↑k : Int)), ((4 : Nat), AV.int IntKind.i64 (↑j : Int))] [some (Blk.mk true [] (1 : Nat) (12 : Nat) (fun j => [AV.int IntKind.i64 (g j)]) [])]))
                                                                              (T.ret
                                                                                (Ex.norm,
                                                                                  St.mk [((1 : Nat), AV.sl (0 : Nat) (0 : Nat) (1 : Nat) (0 : Nat) (12 : Nat) (12 : Nat)), ((2 : Nat), AV.int IntKind.i64 (↑i : Int)), ((3 : Nat), AV.int IntKind.i64 (↑k : Int)), ((4 : Nat), AV.int IntKind.i64 (IntKind.wrap IntKind.i64 ((↑j : Int) + (1 : Int))))]
                                                                                    [some (Blk.mk true [] (1 : Nat) (12 : Nat) (fun j => [AV.int IntKind.i64 (g j)]) [])])))))
                                                                        (T.ret
                                                                          (Ex.norm,
                                                                            St.mk [((1 : Nat), AV.sl (0 : Nat) (0 : Nat) (1 : Nat) (0 : Nat) (12 : Nat) (12 : Nat)), ((2 : Nat), AV.int IntKind.i64 (↑i : Int)), ((3 : Nat), AV.int IntKind.i64 (↑k : Int)), ((4 : Nat), AV.int IntKind.i64 (IntKind.wrap IntKind.i64 ((↑j : Int) + (1 : Int))))]
                                                                              [some (Blk.mk true [] (1 : Nat) (12 : Nat) (fun j => [AV.int IntKind.i64 (g j)]) [])]))))
                                                                    (T.ite false
                                                                      (T.chk (decide ((0 : Int) ≤ (↑i : Int)) && decide ((↑i : Int) < (↑(12 : Nat) : Int)))
                                                                        (T.chk (decide ((0 : Nat) + Int.toNat (↑i : Int) < (12 : Nat)))
                                                                          (T.ite ((0 : Int) != g ((0 : Nat) + Int.toNat (↑i : Int)))
                                                                            (T.ret (Ex.ret, St.mk [((1 : Nat), AV.sl (0 : Nat) (0 : Nat) (1 : Nat) (0 : Nat) (12 : Nat) (12 : Nat)), ((2 : Nat), AV.int IntKind.i64 (↑i : Int)), ((3 : Nat), AV.int IntKind.i64 (↑k : Int)), ((4 : Nat), AV.int IntKind.i64 (↑j : Int))] [some (Blk.mk true [] (1 : Nat) (12 : Nat) (fun j => [AV.int IntKind.i64 (g j)]) [])]))
                                                                            (T.ret
                                                                              (Ex.norm,
                                                                                St.mk [((1 : Nat), AV.sl (0 : Nat) (0 : Nat) (1 : Nat) (0 : Nat) (12 : Nat) (12 : Nat)), ((2 : Nat), AV.int IntKind.i64 (↑i : Int)), ((3 : Nat), AV.int IntKind.i64 (↑k : Int)), ((4 : Nat), AV.int IntKind.i64 (IntKind.wrap IntKind.i64 ((↑j : Int) + (1 : Int))))]
                                                                                  [some (Blk.mk true [] (1 : Nat) (12 : Nat) (fun j => [AV.int IntKind.i64 (g j)]) [])])))))
                                                                      (T.ret
                                                                        (Ex.norm,
                                                                          St.mk [((1 : Nat), AV.sl (0 : Nat) (0 : Nat) (1 : Nat) (0 : Nat) (12 : Nat) (12 : Nat)), ((2 : Nat), AV.int IntKind.i64 (↑i : Int)), ((3 : Nat), AV.int IntKind.i64 (↑k : Int)), ((4 : Nat), AV.int IntKind.i64 (IntKind.wrap IntKind.i64 ((↑j : Int) + (1 : Int))))]
                                                                            [some (Blk.mk true [] (1 : Nat) (12 : Nat) (fun j => [AV.int IntKind.i64 (g j)]) [])])))))
                                                                (T.ite true
                                                                  (T.ite false
                                                                    (T.ret (Ex.ret, St.mk [((1 : Nat), AV.sl (0 : Nat) (0 : Nat) (1 : Nat) (0 : Nat) (12 : Nat) (12 : Nat)), ((2 : Nat), AV.int IntKind.i64 (↑i : Int)), ((3 : Nat), AV.int IntKind.i64 (↑k : Int)), ((4 : Nat), AV.int IntKind.i64 (↑j : Int))] [some (Blk.mk true [] (1 : Nat) (12 : Nat) (fun j => [AV.int IntKind.i64 (g j)]) [])]))
                                                                    (T.ite false
                                                                      (T.chk (decide ((0 : Int) ≤ (↑i : Int)) && decide ((↑i : Int) < (↑(12 : Nat) : Int)))
                                                                        (T.chk (decide ((0 : Nat) + Int.toNat (↑i : Int) < (12 : Nat)))
                                                                          (T.ite ((0 : Int) != g ((0 : Nat) + Int.toNat (↑i : Int)))
                                                                            (T.ret (Ex.ret, St.mk [((1 : Nat), AV.sl (0 : Nat) (0 : Nat) (1 : Nat) (0 : Nat) (12 : Nat) (12 : Nat)), ((2 : Nat), AV.int IntKind.i64 (↑i : Int)), ((3 : Nat), AV.int IntKind.i64 (↑k : Int)), ((4 : Nat), AV.int IntKind.i64 (↑j : Int))] [some (Blk.mk true [] (1 : Nat) (12 : Nat) (fun j => [AV.int IntKind.i64 (g j)]) [])]))
                                                                            (T.ret
                                                                              (Ex.norm,
                                                                                St.mk [((1 : Nat), AV.sl (0 : Nat) (0 : Nat) (1 : Nat) (0 : Nat) (12 : Nat) (12 : Nat)), ((2 : Nat), AV.int IntKind.i64 (↑i : Int)), ((3 : Nat), AV.int IntKind.i64 (↑k : Int)), ((4 : Nat), AV.int IntKind.i64 (IntKind.wrap IntKind.i64 ((↑j : Int) + (1 : Int))))]
                                                                                  [some (Blk.mk true [] (1 : Nat) (12 : Nat) (fun j => [AV.int IntKind.i64 (g j)]) [])])))))
                                                                      (T.ret
                                                                        (Ex.norm,
                                                                          St.mk [((1 : Nat), AV.sl (0 : Nat) (0 : Nat) (1 : Nat) (0 : Nat) (12 : Nat) (12 : Nat)), ((2 : Nat), AV.int IntKind.i64 (↑i : Int)), ((3 : Nat), AV.int IntKind.i64 (↑k : Int)), ((4 : Nat), AV.int IntKind.i64 (IntKind.wrap IntKind.i64 ((↑j : Int) + (1 : Int))))]
                                                                            [some (Blk.mk true [] (1 : Nat) (12 : Nat) (fun j => [AV.int IntKind.i64 (g j)]) [])]))))
                                                                  (T.ite false
                                                                    (T.chk (decide ((0 : Int) ≤ (↑i : Int)) && decide ((↑i : Int) < (↑(12 : Nat) : Int)))
                                                                      (T.chk (decide ((0 : Nat) + Int.toNat (↑i : Int) < (12 : Nat)))
                                                                        (T.ite ((0 : Int) != g ((0 : Nat) + Int.toNat (↑i : Int)))
                                                                          (T.ret (Ex.ret, St.mk [((1 : Nat), AV.sl (0 : Nat) (0 : Nat) (1 : Nat) (0 : Nat) (12 : Nat) (12 : Nat)), ((2 : Nat), AV.int IntKind.i64 (↑i : Int)), ((3 : Nat), AV.int IntKind.i64 (↑k : Int)), ((4 : Nat), AV.int IntKind.i64 (↑j : Int))] [some (Blk.mk true [] (1 : Nat) (12 : Nat) (fun j => [AV.int IntKind.i64 (g j)]) [])]))
                                                                          (T.ret
                                                                            (Ex.norm,
                                                                              St.mk [((1 : Nat), AV.sl (0 : Nat) (0 : Nat) (1 : Nat) (0 : Nat) (12 : Nat) (12 : Nat)), ((2 : Nat), AV.int IntKind.i64 (↑i : Int)), ((3 : Nat), AV.int IntKind.i64 (↑k : Int)), ((4 : Nat), AV.int IntKind.i64 (IntKind.wrap IntKind.i64 ((↑j : Int) + (1 : Int))))]
                                                                                [some (Blk.mk true [] (1 : Nat) (12 : Nat) (fun j => [AV.int IntKind.i64 (g j)]) [])])))))
                                                                    (T.ret
                                                                      (Ex.norm,
                                                                        St.mk [((1 : Nat), AV.sl (0 : Nat) (0 : Nat) (1 : Nat) (0 : Nat) (12 : Nat) (12 : Nat)), ((2 : Nat), AV.int IntKind.i64 (↑i : Int)), ((3 : Nat), AV.int IntKind.i64 (↑k : Int)), ((4 : Nat), AV.int IntKind.i64 (IntKind.wrap IntKind.i64 ((↑j : Int) + (1 : Int))))]
                                                                          [some (Blk.mk true [] (1 : Nat) (12 : Nat) (fun j => [AV.int IntKind.i64 (g j)]) [])]))))))))))))
                                                (T.ite (!decide (g ((0 : Nat) + Int.toNat (↑j : Int)) ≤ (16 : Int)))
                                                  (T.ite true (T.ret (Ex.ret, St.mk [((1 : Nat), AV.sl (0 : Nat) (0 : Nat) (1 : Nat) (0 : Nat) (12 : Nat) (12 : Nat)), ((2 : Nat), AV.int IntKind.i64 (↑i : Int)), ((3 : Nat), AV.int IntKind.i64 (↑k : Int)), ((4 : Nat), AV.int IntKind.i64 (↑j : Int))] [some (Blk.mk true [] (1 : Nat) (12 : Nat) (fun j => [AV.int IntKind.i64 (g j)]) [])]))
                                                    (T.ite true
                                                      (T.ite false (T.ret (Ex.ret, St.mk [((1 : Nat), AV.sl (0 : Nat) (0 : Nat) (1 : Nat) (0 : Nat) (12 : Nat) (12 : Nat)), ((2 : Nat), AV.int IntKind.i64 (↑i : Int)), ((3 : Nat), AV.int IntKind.i64 (↑k : Int)), ((4 : Nat), AV.int IntKind.i64 (↑j : Int))] [some (Blk.mk true [] (1 : Nat) (12 : Nat) (fun j => [AV.int IntKind.i64 (g j)]) [])]))
                                                        (T.ite false
                                                          (T.chk (decide ((0 : Int) ≤ (↑i : Int)) && decide ((↑i : Int) < (↑(12 : Nat) : Int)))
                                                            (T.chk (decide ((0 : Nat) + Int.toNat (↑i : Int) < (12 : Nat)))
                                                              (T.ite ((0 : Int) != g ((0 : Nat) + Int.toNat (↑i : Int)))
                                                                (T.ret (Ex.ret, St.mk [((1 : Nat), AV.sl (0 : Nat) (0 : Nat) (1 : Nat) (0 : Nat) (12 : Nat) (12 : Nat)), ((2 : Nat), AV.int IntKind.i64 (↑i : Int)), ((3 : Nat), AV.int IntKind.i64 (↑k : Int)), ((4 : Nat), AV.int IntKind.i64 (↑j : Int))] [some (Blk.mk true [] (1 : Nat) (12 : Nat) (fun j => [AV.int IntKind.i64 (g j)]) [])]))
                                                                (T.ret
                                                                  (Ex.norm,
                                                                    St.mk [((1 : Nat), AV.sl (0 : Nat) (0 : Nat) (1 : Nat) (0 : Nat) (12 : Nat) (12 : Nat)), ((2 : Nat), AV.int IntKind.i64 (↑i : Int)), ((3 : Nat), AV.int IntKind.i64 (↑k : Int)), ((4 : Nat), AV.int IntKind.i64 (IntKind.wrap IntKind.i64 ((↑j : Int) + (1 : Int))))]
                                                                      [some (Blk.mk true [] (1 : Nat) (12 : Nat) (fun j => [AV.int IntKind.i64 (g j)]) [])])))))
                                                          (T.ret
                                                            (Ex.norm,
                                                              St.mk [((1 : Nat), AV.sl (0 : Nat) (0 : Nat) (1 : Nat) (0 : Nat) (12 : Nat) (12 : Nat)), ((2 : Nat), AV.int IntKind.i64 (↑i : Int)), ((3 : Nat), AV.int IntKind.i64 (↑k : Int)), ((4 : Nat), AV.int IntKind.i64 (IntKind.wrap IntKind.i64 ((↑j : Int) + (1 : Int))))]
                                                                [some (Blk.mk true [] (1 : Nat) (12 : Nat) (fun j => [AV.int IntKind.i64 (g j)]) [])]))))
                                                      (T.ite false
                                                        (T.chk (decide ((0 : Int) ≤ (↑i : Int)) && decide ((↑i : Int) < (↑(12 : Nat) : Int)))
                                                          (T.chk (decide ((0 : Nat) + Int.toNat (↑i : Int) < (12 : Nat)))
                                                            (T.ite ((0 : Int) != g ((0 : Nat) + Int.toNat (↑i : Int)))
                                                              (T.ret (Ex.ret, St.mk [((1 : Nat), AV.sl (0 : Nat) (0 : Nat) (1 : Nat) (0 : Nat) (12 : Nat) (12 : Nat)), ((2 : Nat), AV.int IntKind.i64 (↑i : Int)), ((3 : Nat), AV.int IntKind.i64 (↑k : Int)), ((4 : Nat), AV.int IntKind.i64 (↑j : Int))] [some (Blk.mk true [] (1 : Nat) (12 : Nat) (fun j => [AV.int IntKind.i64 (g j)]) [])]))
                                                              (T.ret
                                                                (Ex.norm,
                                                                  St.mk [((1 : Nat), AV.sl (0 : Nat) (0 : Nat) (1 : Nat) (0 : Nat) (12 : Nat) (12 : Nat)), ((2 : Nat), AV.int IntKind.i64 (↑i : Int)), ((3 : Nat), AV.int IntKind.i64 (↑k : Int)), ((4 : Nat), AV.int IntKind.i64 (IntKind.wrap IntKind.i64 ((↑j : Int) + (1 : Int))))]
                                                                    [some (Blk.mk true [] (1 : Nat) (12 : Nat) (fun j => [AV.int IntKind.i64 (g j)]) [])])))))
                                                        (T.ret
                                                          (Ex.norm,
                                                            St.mk [((1 : Nat), AV.sl (0 : Nat) (0 : Nat) (1 : Nat) (0 : Nat) (12 : Nat) (12 : Nat)), ((2 : Nat), AV.int IntKind.i64 (↑i : Int)), ((3 : Nat), AV.int IntKind.i64 (↑k : Int)), ((4 : Nat), AV.int IntKind.i64 (IntKind.wrap IntKind.i64 ((↑j : Int) + (1 : Int))))]
                                                              [some (Blk.mk true [] (1 : Nat) (12 : Nat) (fun j => [AV.int IntKind.i64 (g j)]) [])])))))
                                                  (T.ite true
                                                    (T.ite false (T.ret (Ex.ret, St.mk [((1 : Nat), AV.sl (0 : Nat) (0 : Nat) (1 : Nat) (0 : Nat) (12 : Nat) (12 : Nat)), ((2 : Nat), AV.int IntKind.i64 (↑i : Int)), ((3 : Nat), AV.int IntKind.i64 (↑k : Int)), ((4 : Nat), AV.int IntKind.i64 (↑j : Int))] [some (Blk.mk true [] (1 : Nat) (12 : Nat) (fun j => [AV.int IntKind.i64 (g j)]) [])]))
                                                      (T.ite false
                                                        (T.chk (decide ((0 : Int) ≤ (↑i : Int)) && decide ((↑i : Int) < (↑(12 : Nat) : Int)))
                                                          (T.chk (decide ((0 : Nat) + Int.toNat (↑i : Int) < (12 : Nat)))
                                                            (T.ite ((0 : Int) != g ((0 : Nat) + Int.toNat (↑i : Int)))
                                                              (T.ret (Ex.ret, St.mk [((1 : Nat), AV.sl (0 : Nat) (0 : Nat) (1 : Nat) (0 : Nat) (12 : Nat) (12 : Nat)), ((2 : Nat), AV.int IntKind.i64 (↑i : Int)), ((3 : Nat), AV.int IntKind.i64 (↑k : Int)), ((4 : Nat), AV.int IntKind.i64 (↑j : Int))] [some (Blk.mk true [] (1 : Nat) (12 : Nat) (fun j => [AV.int IntKind.i64 (g j)]) [])]))
                                                              (T.ret
                                                                (Ex.norm,
                                                                  St.mk [((1 : Nat), AV.sl (0 : Nat) (0 : Nat) (1 : Nat) (0 : Nat) (12 : Nat) (12 : Nat)), ((2 : Nat), AV.int IntKind.i64 (↑i : Int)), ((3 : Nat), AV.int IntKind.i64 (↑k : Int)), ((4 : Nat), AV.int IntKind.i64 (IntKind.wrap IntKind.i64 ((↑j : Int) + (1 : Int))))]
                                                                    [some (Blk.mk true [] (1 : Nat) (12 : Nat) (fun j => [AV.int IntKind.i64 (g j)]) [])])))))
                                                        (T.ret
                                                          (Ex.norm,
                                                            St.mk [((1 : Nat), AV.sl (0 : Nat) (0 : Nat) (1 : Nat) (0 : Nat) (12 : Nat) (12 : Nat)), ((2 : Nat), AV.int IntKind.i64 (↑i : Int)), ((3 : Nat), AV.int IntKind.i64 (↑k : Int)), ((4 : Nat), AV.int IntKind.i64 (IntKind.wrap IntKind.i64 ((↑j : Int) + (1 : Int))))]
                                                              [some (Blk.mk true [] (1 : Nat) (12 : Nat) (fun j => [AV.int IntKind.i64 (g j)]) [])]))))
                                                    (T.ite false
                                                      (T.chk (decide ((0 : Int) ≤ (↑i : Int)) && decide ((↑i : Int) < (↑(12 : Nat) : Int)))
                                                        (T.chk (decide ((0 : Nat) + Int.toNat (↑i : Int) < (12 : Nat)))
                                                          (T.ite ((0 : Int) != g ((0 : Nat) + Int.toNat (↑i : Int)))
                                                            (T.ret (Ex.ret, St.mk [((1 : Nat), AV.sl (0 : Nat) (0 : Nat) (1 : Nat) (0 : Nat) (12 : Nat) (12 : Nat)), ((2 : Nat), AV.int IntKind.i64 (↑i : Int)), ((3 : Nat), AV.int IntKind.i64 (↑k : Int)), ((4 : Nat), AV.int IntKind.i64 (↑j : Int))] [some (Blk.mk true [] (1 : Nat) (12 : Nat) (fun j => [AV.int IntKind.i64 (g j)]) [])]))
                                                            (T.ret
                                                              (Ex.norm,
                                                                St.mk [((1 : Nat), AV.sl (0 : Nat) (0 : Nat) (1 : Nat) (0 : Nat) (12 : Nat) (12 : Nat)), ((2 : Nat), AV.int IntKind.i64 (↑i : Int)), ((3 : Nat), AV.int IntKind.i64 (↑k : Int)), ((4 : Nat), AV.int IntKind.i64 (IntKind.wrap IntKind.i64 ((↑j : Int) + (1 : Int))))]
                                                                  [some (Blk.mk true [] (1 : Nat) (12 : Nat) (fun j => [AV.int IntKind.i64 (g j)]) [])])))))
                                                      (T.ret
                                                        (Ex.norm,
                                                          St.mk [((1 : Nat), AV.sl (0 : Nat) (0 : Nat) (1 : Nat) (0 : Nat) (12 : Nat) (12 : Nat)), ((2 : Nat), AV.int IntKind.i64 (↑i : Int)), ((3 : Nat), AV.int IntKind.i64 (↑k : Int)), ((4 : Nat), AV.int IntKind.i64 (IntKind.wrap IntKind.i64 ((↑j : Int) + (1 : Int))))]
                                                            [some (Blk.mk true [] (1 : Nat) (12 : Nat) (fun j => [AV.int IntKind.i64 (g j)]) [])]))))))))
                                          (T.ite true (T.ret (Ex.ret, St.mk [((1 : Nat), AV.sl (0 : Nat) (0 : Nat) (1 : Nat) (0 : Nat) (12 : Nat) (12 : Nat)), ((2 : Nat), AV.int IntKind.i64 (↑i : Int)), ((3 : Nat), AV.int IntKind.i64 (↑k : Int)), ((4 : Nat), AV.int IntKind.i64 (↑j : Int))] [some (Blk.mk true [] (1 : Nat) (12 : Nat) (fun j => [AV.int IntKind.i64 (g j)]) [])]))
                                            (T.ite true
                                              (T.ite false (T.ret (Ex.ret, St.mk [((1 : Nat), AV.sl (0 : Nat) (0 : Nat) (1 : Nat) (0 : Nat) (12 : Nat) (12 : Nat)), ((2 : Nat), AV.int IntKind.i64 (↑i : Int)), ((3 : Nat), AV.int IntKind.i64 (↑k : Int)), ((4 : Nat), AV.int IntKind.i64 (↑j : Int))] [some (Blk.mk true [] (1 : Nat) (12 : Nat) (fun j => [AV.int IntKind.i64 (g j)]) [])]))
                                                (T.ite false
                                                  (T.chk (decide ((0 : Int) ≤ (↑i : Int)) && decide ((↑i : Int) < (↑(12 : Nat) : Int)))
                                                    (T.chk (decide ((0 : Nat) + Int.toNat (↑i : Int) < (12 : Nat)))
                                                      (T.ite ((0 : Int) != g ((0 : Nat) + Int.toNat (↑i : Int)))
                                                        (T.ret (Ex.ret, St.mk [((1 : Nat), AV.sl (0 : Nat) (0 : Nat) (1 : Nat) (0 : Nat) (12 : Nat) (12 : Nat)), ((2 : Nat), AV.int IntKind.i64 (↑i : Int)), ((3 : Nat), AV.int IntKind.i64 (↑k : Int)), ((4 : Nat), AV.int IntKind.i64 (↑j : Int))] [some (Blk.mk true [] (1 : Nat) (12 : Nat) (fun j => [AV.int IntKind.i64 (g j)]) [])]))
                                                        (T.ret
                                                          (Ex.norm,
                                                            St.mk [((1 : Nat), AV.sl (0 : Nat) (0 : Nat) (1 : Nat) (0 : Nat) (12 : Nat) (12 : Nat)), ((2 : Nat), AV.int IntKind.i64 (↑i : Int)), ((3 : Nat), AV.int IntKind.i64 (↑k : Int)), ((4 : Nat), AV.int IntKind.i64 (IntKind.wrap IntKind.i64 ((↑j : Int) + (1 : Int))))]
                                                              [some (Blk.mk true [] (1 : Nat) (12 : Nat) (fun j => [AV.int IntKind.i64 (g j)]) [])])))))
                                                  (T.ret
                                                    (Ex.norm,
                                                      St.mk [((1 : Nat), AV.sl (0 : Nat) (0 : Nat) (1 : Nat) (0 : Nat) (12 : Nat) (12 : Nat)), ((2 : Nat), AV.int IntKind.i64 (↑i : Int)), ((3 : Nat), AV.int IntKind.i64 (↑k : Int)), ((4 : Nat), AV.int IntKind.i64 (IntKind.wrap IntKind.i64 ((↑j : Int) + (1 : Int))))]
                                                        [some (Blk.mk true [] (1 : Nat) (12 : Nat) (fun j => [AV.int IntKind.i64 (g j)]) [])]))))
                                              (T.ite false
                                                (T.chk (decide ((0 : Int) ≤ (↑i : Int)) && decide ((↑i : Int) < (↑(12 : Nat) : Int)))
                                                  (T.chk (decide ((0 : Nat) + Int.toNat (↑i : Int) < (12 : Nat)))
                                                    (T.ite ((0 : Int) != g ((0 : Nat) + Int.toNat (↑i : Int)))
                                                      (T.ret (Ex.ret, St.mk [((1 : Nat), AV.sl (0 : Nat) (0 : Nat) (1 : Nat) (0 : Nat) (12 : Nat) (12 : Nat)), ((2 : Nat), AV.int IntKind.i64 (↑i : Int)), ((3 : Nat), AV.int IntKind.i64 (↑k : Int)), ((4 : Nat), AV.int IntKind.i64 (↑j : Int))] [some (Blk.mk true [] (1 : Nat) (12 : Nat) (fun j => [AV.int IntKind.i64 (g j)]) [])]))
                                                      (T.ret
                                                        (Ex.norm,
                                                          St.mk [((1 : Nat), AV.sl (0 : Nat) (0 : Nat) (1 : Nat) (0 : Nat) (12 : Nat) (12 : Nat)), ((2 : Nat), AV.int IntKind.i64 (↑i : Int)), ((3 : Nat), AV.int IntKind.i64 (↑k : Int)), ((4 : Nat), AV.int IntKind.i64 (IntKind.wrap IntKind.i64 ((↑j : Int) + (1 : Int))))]
                                                            [some (Blk.mk true [] (1 : Nat) (12 : Nat) (fun j => [AV.int IntKind.i64 (g j)]) [])])))))
                                                (T.ret
                                                  (Ex.norm,
                                                    St.mk [((1 : Nat), AV.sl (0 : Nat) (0 : Nat) (1 : Nat) (0 : Nat) (12 : Nat) (12 : Nat)), ((2 : Nat), AV.int IntKind.i64 (↑i : Int)), ((3 : Nat), AV.int IntKind.i64 (↑k : Int)), ((4 : Nat), AV.int IntKind.i64 (IntKind.wrap IntKind.i64 ((↑j : Int) + (1 : Int))))]
                                                      [some (Blk.mk true [] (1 : Nat) (12 : Nat) (fun j => [AV.int IntKind.i64 (g j)]) [])]))))))))
                                    (T.ite true (T.ret (Ex.ret, St.mk [((1 : Nat), AV.sl (0 : Nat) (0 : Nat) (1 : Nat) (0 : Nat) (12 : Nat) (12 : Nat)), ((2 : Nat), AV.int IntKind.i64 (↑i : Int)), ((3 : Nat), AV.int IntKind.i64 (↑k : Int)), ((4 : Nat), AV.int IntKind.i64 (↑j : Int))] [some (Blk.mk true [] (1 : Nat) (12 : Nat) (fun j => [AV.int IntKind.i64 (g j)]) [])]))
                                      (T.ite true
                                        (T.ite false (T.ret (Ex.ret, St.mk [((1 : Nat), AV.sl (0 : Nat) (0 : Nat) (1 : Nat) (0 : Nat) (12 : Nat) (12 : Nat)), ((2 : Nat), AV.int IntKind.i64 (↑i : Int)), ((3 : Nat), AV.int IntKind.i64 (↑k : Int)), ((4 : Nat), AV.int IntKind.i64 (↑j : Int))] [some (Blk.mk true [] (1 : Nat) (12 : Nat) (fun j => [AV.int IntKind.i64 (g j)]) [])]))
                                          (T.ite false
                                            (T.chk (decide ((0 : Int) ≤ (↑i : Int)) && decide ((↑i : Int) < (↑(12 : Nat) : Int)))
                                              (T.chk (decide ((0 : Nat) + Int.toNat (↑i : Int) < (12 : Nat)))
                                                (T.ite ((0 : Int) != g ((0 : Nat) + Int.toNat (↑i : Int)))
                                                  (T.ret (Ex.ret, St.mk [((1 : Nat), AV.sl (0 : Nat) (0 : Nat) (1 : Nat) (0 : Nat) (12 : Nat) (12 : Nat)), ((2 : Nat), AV.int IntKind.i64 (↑i : Int)), ((3 : Nat), AV.int IntKind.i64 (↑k : Int)), ((4 : Nat), AV.int IntKind.i64 (↑j : Int))] [some (Blk.mk true [] (1 : Nat) (12 : Nat) (fun j => [AV.int IntKind.i64 (g j)]) [])]))
                                                  (T.ret
                                                    (Ex.norm,
                                                      St.mk [((1 : Nat), AV.sl (0 : Nat) (0 : Nat) (1 : Nat) (0 : Nat) (12 : Nat) (12 : Nat)), ((2 : Nat), AV.int IntKind.i64 (↑i : Int)), ((3 : Nat), AV.int IntKind.i64 (↑k : Int)), ((4 : Nat), AV.int IntKind.i64 (IntKind.wrap IntKind.i64 ((↑j : Int) + (1 : Int))))]
                                                        [some (Blk.mk true [] (1 : Nat) (12 : Nat) (fun j => [AV.int IntKind.i64 (g j)]) [])])))))
                                            (T.ret
                                              (Ex.norm,
                                                St.mk [((1 : Nat), AV.sl (0 : Nat) (0 : Nat) (1 : Nat) (0 : Nat) (12 : Nat) (12 : Nat)), ((2 : Nat), AV.int IntKind.i64 (↑i : Int)), ((3 : Nat), AV.int IntKind.i64 (↑k : Int)), ((4 : Nat), AV.int IntKind.i64 (IntKind.wrap IntKind.i64 ((↑j : Int) + (1 : Int))))] [some (Blk.mk true [] (1 : Nat) (12 : Nat) (fun j => [AV.int IntKind.i64 (g j)]) [])]))))
                                        (T.ite false
                                          (T.chk (decide ((0 : Int) ≤ (↑i : Int)) && decide ((↑i : Int) < (↑(12 : Nat) : Int)))
                                            (T.chk (decide ((0 : Nat) + Int.toNat (↑i : Int) < (12 : Nat)))
                                              (T.ite ((0 : Int) != g ((0 : Nat) + Int.toNat (↑i : Int)))
                                                (T.ret (Ex.ret, St.mk [((1 : Nat), AV.sl (0 : Nat) (0 : Nat) (1 : Nat) (0 : Nat) (12 : Nat) (12 : Nat)), ((2 : Nat), AV.int IntKind.i64 (↑i : Int)), ((3 : Nat), AV.int IntKind.i64 (↑k : Int)), ((4 : Nat), AV.int IntKind.i64 (↑j : Int))] [some (Blk.mk true [] (1 : Nat) (12 : Nat) (fun j => [AV.int IntKind.i64 (g j)]) [])]))
                                                (T.ret
                                                  (Ex.norm,
                                                    St.mk [((1 : Nat), AV.sl (0 : Nat) (0 : Nat) (1 : Nat) (0 : Nat) (12 : Nat) (12 : Nat)), ((2 : Nat), AV.int IntKind.i64 (↑i : Int)), ((3 : Nat), AV.int IntKind.i64 (↑k : Int)), ((4 : Nat), AV.int IntKind.i64 (IntKind.wrap IntKind.i64 ((↑j : Int) + (1 : Int))))]
                                                      [some (Blk.mk true [] (1 : Nat) (12 : Nat) (fun j => [AV.int IntKind.i64 (g j)]) [])])))))
                                          (T.ret
                                            (Ex.norm,
                                              St.mk [((1 : Nat), AV.sl (0 : Nat) (0 : Nat) (1 : Nat) (0 : Nat) (12 : Nat) (12 : Nat)), ((2 : Nat), AV.int IntKind.i64 (↑i : Int)), ((3 : Nat), AV.int IntKind.i64 (↑k : Int)), ((4 : Nat), AV.int IntKind.i64 (IntKind.wrap IntKind.i64 ((↑j : Int) + (1 : Int))))] [some (Blk.mk true [] (1 : Nat) (12 : Nat) (fun j => [AV.int IntKind.i64 (g j)]) [])]))))))))
                              (T.ite true (T.ret (Ex.ret, St.mk [((1 : Nat), AV.sl (0 : Nat) (0 : Nat) (1 : Nat) (0 : Nat) (12 : Nat) (12 : Nat)), ((2 : Nat), AV.int IntKind.i64 (↑i : Int)), ((3 : Nat), AV.int IntKind.i64 (↑k : Int)), ((4 : Nat), AV.int IntKind.i64 (↑j : Int))] [some (Blk.mk true [] (1 : Nat) (12 : Nat) (fun j => [AV.int IntKind.i64 (g j)]) [])]))
                                (T.ite true
                                  (T.ite false (T.ret (Ex.ret, St.mk [((1 : Nat), AV.sl (0 : Nat) (0 : Nat) (1 : Nat) (0 : Nat) (12 : Nat) (12 : Nat)), ((2 : Nat), AV.int IntKind.i64 (↑i : Int)), ((3 : Nat), AV.int IntKind.i64 (↑k : Int)), ((4 : Nat), AV.int IntKind.i64 (↑j : Int))] [some (Blk.mk true [] (1 : Nat) (12 : Nat) (fun j => [AV.int IntKind.i64 (g j)]) [])]))
                                    (T.ite false
                                      (T.chk (decide ((0 : Int) ≤ (↑i : Int)) && decide ((↑i : Int) < (↑(12 : Nat) : Int)))
                                        (T.chk (decide ((0 : Nat) + Int.toNat (↑i : Int) < (12 : Nat)))
                                          (T.ite ((0 : Int) != g ((0 : Nat) + Int.toNat (↑i : Int)))
                                            (T.ret (Ex.ret, St.mk [((1 : Nat), AV.sl (0 : Nat) (0 : Nat) (1 : Nat) (0 : Nat) (12 : Nat) (12 : Nat)), ((2 : Nat), AV.int IntKind.i64 (↑i : Int)), ((3 : Nat), AV.int IntKind.i64 (↑k : Int)), ((4 : Nat), AV.int IntKind.i64 (↑j : Int))] [some (Blk.mk true [] (1 : Nat) (12 : Nat) (fun j => [AV.int IntKind.i64 (g j)]) [])]))
                                            (T.ret
                                              (Ex.norm,
                                                St.mk [((1 : Nat), AV.sl (0 : Nat) (0 : Nat) (1 : Nat) (0 : Nat) (12 : Nat) (12 : Nat)), ((2 : Nat), AV.int IntKind.i64 (↑i : Int)), ((3 : Nat), AV.int IntKind.i64 (↑k : Int)), ((4 : Nat), AV.int IntKind.i64 (IntKind.wrap IntKind.i64 ((↑j : Int) + (1 : Int))))] [some (Blk.mk true [] (1 : Nat) (12 : Nat) (fun j => [AV.int IntKind.i64 (g j)]) [])])))))
                                      (T.ret
                                        (Ex.norm, St.mk [((1 : Nat), AV.sl (0 : Nat) (0 : Nat) (1 : Nat) (0 : Nat) (12 : Nat) (12 : Nat)), ((2 : Nat), AV.int IntKind.i64 (↑i : Int)), ((3 : Nat), AV.int IntKind.i64 (↑k : Int)), ((4 : Nat), AV.int IntKind.i64 (IntKind.wrap IntKind.i64 ((↑j : Int) + (1 : Int))))] [some (Blk.mk true [] (1 : Nat) (12 : Nat) (fun j => [AV.int IntKind.i64 (g j)]) [])]))))
                                  (T.ite false
                                    (T.chk (decide ((0 : Int) ≤ (↑i : Int)) && decide ((↑i : Int) < (↑(12 : Nat) : Int)))
                                      (T.chk (decide ((0 : Nat) + Int.toNat (↑i : Int) < (12 : Nat)))
                                        (T.ite ((0 : Int) != g ((0 : Nat) + Int.toNat (↑i : Int)))
                                          (T.ret (Ex.ret, St.mk [((1 : Nat), AV.sl (0 : Nat) (0 : Nat) (1 : Nat) (0 : Nat) (12 : Nat) (12 : Nat)), ((2 : Nat), AV.int IntKind.i64 (↑i : Int)), ((3 : Nat), AV.int IntKind.i64 (↑k : Int)), ((4 : Nat), AV.int IntKind.i64 (↑j : Int))] [some (Blk.mk true [] (1 : Nat) (12 : Nat) (fun j => [AV.int IntKind.i64 (g j)]) [])]))
                                          (T.ret
                                            (Ex.norm,
                                              St.mk [((1 : Nat), AV.sl (0 : Nat) (0 : Nat) (1 : Nat) (0 : Nat) (12 : Nat) (12 : Nat)), ((2 : Nat), AV.int IntKind.i64 (↑i : Int)), ((3 : Nat), AV.int IntKind.i64 (↑k : Int)), ((4 : Nat), AV.int IntKind.i64 (IntKind.wrap IntKind.i64 ((↑j : Int) + (1 : Int))))] [some (Blk.mk true [] (1 : Nat) (12 : Nat) (fun j => [AV.int IntKind.i64 (g j)]) [])])))))
                                    (T.ret
                                      (Ex.norm,
                                        St.mk [((1 : Nat), AV.sl (0 : Nat) (0 : Nat) (1 : Nat) (0 : Nat) (12 : Nat) (12 : Nat)), ((2 : Nat), AV.int IntKind.i64 (↑i : Int)), ((3 : Nat), AV.int IntKind.i64 (↑k : Int)), ((4 : Nat), AV.int IntKind.i64 (IntKind.wrap IntKind.i64 ((↑j : Int) + (1 : Int))))] [some (Blk.mk true [] (1 : Nat) (12 : Nat) (fun j => [AV.int IntKind.i64 (g j)]) [])]))))))))
                        (T.ite true (T.ret (Ex.ret, St.mk [((1 : Nat), AV.sl (0 : Nat) (0 : Nat) (1 : Nat) (0 : Nat) (12 : Nat) (12 : Nat)), ((2 : Nat), AV.int IntKind.i64 (↑i : Int)), ((3 : Nat), AV.int IntKind.i64 (↑k : Int)), ((4 : Nat), AV.int IntKind.i64 (↑j : Int))] [some (Blk.mk true [] (1 : Nat) (12 : Nat) (fun j => [AV.int IntKind.i64 (g j)]) [])]))
                          (T.ite true
                            (T.ite false (T.ret (Ex.ret, St.mk [((1 : Nat), AV.sl (0 : Nat) (0 : Nat) (1 : Nat) (0 : Nat) (12 : Nat) (12 : Nat)), ((2 : Nat), AV.int IntKind.i64 (↑i : Int)), ((3 : Nat), AV.int IntKind.i64 (↑k : Int)), ((4 : Nat), AV.int IntKind.i64 (↑j : Int))] [some (Blk.mk true [] (1 : Nat) (12 : Nat) (fun j => [AV.int IntKind.i64 (g j)]) [])]))
                              (T.ite false
                                (T.chk (decide ((0 : Int) ≤ (↑i : Int)) && decide ((↑i : Int) < (↑(12 : Nat) : Int)))
                                  (T.chk (decide ((0 : Nat) + Int.toNat (↑i : Int) < (12 : Nat)))
                                    (T.ite ((0 : Int) != g ((0 : Nat) + Int.toNat (↑i : Int)))
                                      (T.ret (Ex.ret, St.mk [((1 : Nat), AV.sl (0 : Nat) (0 : Nat) (1 : Nat) (0 : Nat) (12 : Nat) (12 : Nat)), ((2 : Nat), AV.int IntKind.i64 (↑i : Int)), ((3 : Nat), AV.int IntKind.i64 (↑k : Int)), ((4 : Nat), AV.int IntKind.i64 (↑j : Int))] [some (Blk.mk true [] (1 : Nat) (12 : Nat) (fun j => [AV.int IntKind.i64 (g j)]) [])]))
                                      (T.ret
                                        (Ex.norm, St.mk [((1 : Nat), AV.sl (0 : Nat) (0 : Nat) (1 : Nat) (0 : Nat) (12 : Nat) (12 : Nat)), ((2 : Nat), AV.int IntKind.i64 (↑i : Int)), ((3 : Nat), AV.int IntKind.i64 (↑k : Int)), ((4 : Nat), AV.int IntKind.i64 (IntKind.wrap IntKind.i64 ((↑j : Int) + (1 : Int))))] [some (Blk.mk true [] (1 : Nat) (12 : Nat) (fun j => [AV.int IntKind.i64 (g j)]) [])])))))
                                (T.ret (Ex.norm, St.mk [((1 : Nat), AV.sl (0 : Nat) (0 : Nat) (1 : Nat) (0 : Nat) (12 : Nat) (12 : Nat)), ((2 : Nat), AV.int IntKind.i64 (↑i : Int)), ((3 : Nat), AV.int IntKind.i64 (↑k : Int)), ((4 : Nat), AV.int IntKind.i64 (IntKind.wrap IntKind.i64 ((↑j : Int) + (1 : Int))))] [some (Blk.mk true [] (1 : Nat) (12 : Nat) (fun j => [AV.int IntKind.i64 (g j)]) [])]))))
                            (T.ite false
                              (T.chk (decide ((0 : Int) ≤ (↑i : Int)) && decide ((↑i : Int) < (↑(12 : Nat) : Int)))
                                (T.chk (decide ((0 : Nat) + Int.toNat (↑i : Int) < (12 : Nat)))
                                  (T.ite ((0 : Int) != g ((0 : Nat) + Int.toNat (↑i : Int)))
                                    (T.ret (Ex.ret, St.mk [((1 : Nat), AV.sl (0 : Nat) (0 : Nat) (1 : Nat) (0 : Nat) (12 : Nat) (12 : Nat)), ((2 : Nat), AV.int IntKind.i64 (↑i : Int)), ((3 : Nat), AV.int IntKind.i64 (↑k : Int)), ((4 : Nat), AV.int IntKind.i64 (↑j : Int))] [some (Blk.mk true [] (1 : Nat) (12 : Nat) (fun j => [AV.int IntKind.i64 (g j)]) [])]))
                                    (T.ret
                                      (Ex.norm, St.mk [((1 : Nat), AV.sl (0 : Nat) (0 : Nat) (1 : Nat) (0 : Nat) (12 : Nat) (12 : Nat)), ((2 : Nat), AV.int IntKind.i64 (↑i : Int)), ((3 : Nat), AV.int IntKind.i64 (↑k : Int)), ((4 : Nat), AV.int IntKind.i64 (IntKind.wrap IntKind.i64 ((↑j : Int) + (1 : Int))))] [some (Blk.mk true [] (1 : Nat) (12 : Nat) (fun j => [AV.int IntKind.i64 (g j)]) [])])))))
                              (T.ret
                                (Ex.norm,
                                  St.mk [((1 : Nat), AV.sl (0 : Nat) (0 : Nat) (1 : Nat) (0 : Nat) (12 : Nat) (12 : Nat)), ((2 : Nat), AV.int IntKind.i64 (↑i : Int)), ((3 : Nat), AV.int IntKind.i64 (↑k : Int)), ((4 : Nat), AV.int IntKind.i64 (IntKind.wrap IntKind.i64 ((↑j : Int) + (1 : Int))))] [some (Blk.mk true [] (1 : Nat) (12 : Nat) (fun j => [AV.int IntKind.i64 (g j)]) [])])))))))))))))))
    (T.ret (Ex.exit (4 : Nat), St.mk [((1 : Nat), AV.sl (0 : Nat) (0 : Nat) (1 : Nat) (0 : Nat) (12 : Nat) (12 : Nat)), ((2 : Nat), AV.int IntKind.i64 (↑i : Int)), ((3 : Nat), AV.int IntKind.i64 (↑k : Int)), ((4 : Nat), AV.int IntKind.i64 (↑j : Int))] [some (Blk.mk true [] (1 : Nat) (12 : Nat) (fun j => [AV.int IntKind.i64 (g j)]) [])])) := by
  kernel_rfl

end Go.Proofs.Ytopcinllggbdhaa
