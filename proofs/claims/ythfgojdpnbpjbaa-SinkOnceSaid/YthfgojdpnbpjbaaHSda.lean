/-
  Layer 13: Once: the round's tree.
-/
import Derived.Test.YthfgojdpnbpjbaaHSc
namespace Go.Proofs.Ythfgojdpnbpjbaa
open Go.Ox
set_option maxRecDepth 100000
set_option maxHeartbeats 4000000
set_option linter.unusedVariables false
set_option linter.unusedSimpArgs false

theorem so_tree_a (k o z y : Nat → Int) (len cap i J nc cc cB : Nat) (p q : Nat → Int) (most : Int) (tn tc n rc rB : Nat) (f g : Nat → Int) (A dc : Nat) : T.cut (keepT [0, 3, 4, 5, 6, 7] (acode Try.prog soE (loopAt (codeOf Try.f4) 0) (soSt ⟨k, o, z, y, len, cap, i, .a, J, nc, cc, cB, p, q, most, tn, tc, n, rc, rB, f, g, A, dc⟩))) [2, 14, 2, 12, 2, 1, 0, 2, 5, 0, 0, 0, 1, 0, 0, 0] = 
  T.ite (decide ((↑i : Int) < (↑len : Int)))
    (T.ite (decide ((↑i : Int) < (200 : Int)))
      (T.chk (decide ((0 : Int) ≤ (↑i : Int)) && decide ((↑i : Int) < (↑len : Int)))
        (T.chk (decide ((0 : Nat) + Int.toNat (↑i : Int) < cap))
          (T.ite (pk5 (k ((0 : Nat) + Int.toNat (↑i : Int))) == (3 : Int))
            (T.need (AV.int IntKind.i64 (0 : Int) = AV.int IntKind.i64 (0 : Int))
              (T.need (AV.nils = AV.nils)
                (T.need (AV.ptr (1 : Nat) (0 : Nat) (0 : Nat) (0 : Nat) = AV.ptr (1 : Nat) (0 : Nat) (0 : Nat) (0 : Nat))
                  (T.need (AV.nils = AV.nils)
                    (T.need (AV.ptr (1 : Nat) (0 : Nat) (0 : Nat) (0 : Nat) = AV.ptr (1 : Nat) (0 : Nat) (0 : Nat) (0 : Nat))
                      (T.chk true
                        (@T.chk (Ex × St) true
                          (T.chk true
                            (T.all fun c =>
                              T.asm (decide ((1 : Nat) ≤ c))
                                (T.need (AV.int IntKind.i64 (0 : Int) = AV.int IntKind.i64 (0 : Int))
                                  (T.need (AV.nils = AV.nils)
                                    (T.need (AV.ptr (1 : Nat) (0 : Nat) (0 : Nat) (0 : Nat) = AV.ptr (1 : Nat) (0 : Nat) (0 : Nat) (0 : Nat))
                                      (T.need (AV.ptr (1 : Nat) (0 : Nat) (0 : Nat) (0 : Nat) = AV.ptr (1 : Nat) (0 : Nat) (0 : Nat) (0 : Nat))
                                        (T.need (AV.ptr (1 : Nat) (0 : Nat) (0 : Nat) (0 : Nat) = AV.ptr (1 : Nat) (0 : Nat) (0 : Nat) (0 : Nat))
                                          (T.chk true
                                            (T.chk true
                                              (T.ret
                                                (Ex.norm,
                                                  St.mk [((0 : Nat), AV.sl (0 : Nat) (0 : Nat) (4 : Nat) (0 : Nat) len cap), ((3 : Nat), AV.ptr (1 : Nat) (0 : Nat) (0 : Nat) (0 : Nat)), ((4 : Nat), AV.nils), ((5 : Nat), AV.nils), ((6 : Nat), AV.int IntKind.i64 (↑A : Int)), ((7 : Nat), AV.int IntKind.i64 (IntKind.wrap IntKind.i64 ((↑i : Int) + (1 : Int))))]
                                                    [some (Blk.mk false [] (4 : Nat) cap (fun j => [AV.int IntKind.i64 (k j), AV.int IntKind.i64 (o j), AV.int IntKind.i64 (z j), AV.int IntKind.i64 (y j)]) [] none),
                                                      some (Blk.mk true [AV.nils, AV.sl (3 : Nat) (0 : Nat) (2 : Nat) (0 : Nat) (1 : Nat) c, AV.int IntKind.i64 (IntKind.wrap IntKind.i64 ((↑i : Int) + (1 : Int))), AV.tt] (0 : Nat) (0 : Nat) (fun a => []) [] none),
                                                      some (Blk.mk true [] (2 : Nat) (1 : Nat) (fun i_1 => [AV.int IntKind.i64 (List.getD [IntKind.wrap IntKind.i64 ((↑i : Int) + (1 : Int))] i_1 (0 : Int)), AV.int IntKind.i64 (List.getD [(0 : Int)] i_1 (0 : Int))]) [] none),
                                                      some
                                                        (Blk.mk true [] (2 : Nat) c
                                                          (fun r => if r < (0 : Nat) then [] else if r < (1 : Nat) then List.map (fun c => Col.at c ((0 : Nat) + (r - (0 : Nat)))) ([] ++ [Col.ints IntKind.i64 [IntKind.wrap IntKind.i64 ((↑i : Int) + (1 : Int))]] ++ [Col.ints IntKind.i64 [(0 : Int)]]) else AV.cells (AV.agg (List.reverse [AV.int IntKind.i64 (0 : Int), AV.int IntKind.i64 (0 : Int)]))) []
                                                          none)]))))))))))))))))))
            (T.ite (pk5 (k ((0 : Nat) + Int.toNat (↑i : Int))) == (4 : Int))
              (T.need (AV.int IntKind.i64 (0 : Int) = AV.int IntKind.i64 (0 : Int))
                (T.need (AV.nils = AV.nils)
                  (T.need (AV.ptr (1 : Nat) (0 : Nat) (0 : Nat) (0 : Nat) = AV.ptr (1 : Nat) (0 : Nat) (0 : Nat) (0 : Nat))
                    (T.need (AV.nils = AV.nils)
                      (T.need (AV.ptr (1 : Nat) (0 : Nat) (0 : Nat) (0 : Nat) = AV.ptr (1 : Nat) (0 : Nat) (0 : Nat) (0 : Nat))
                        (T.chk true
                          (@T.chk (Ex × St) true
                            (T.chk true
                              (T.all fun c =>
                                T.asm (decide ((1 : Nat) ≤ c))
                                  (T.need (AV.int IntKind.i64 (0 : Int) = AV.int IntKind.i64 (0 : Int))
                                    (T.need (AV.nils = AV.nils)
                                      (T.need (AV.ptr (1 : Nat) (0 : Nat) (0 : Nat) (0 : Nat) = AV.ptr (1 : Nat) (0 : Nat) (0 : Nat) (0 : Nat))
                                        (T.need (AV.ptr (1 : Nat) (0 : Nat) (0 : Nat) (0 : Nat) = AV.ptr (1 : Nat) (0 : Nat) (0 : Nat) (0 : Nat))
                                          (T.need (AV.ptr (1 : Nat) (0 : Nat) (0 : Nat) (0 : Nat) = AV.ptr (1 : Nat) (0 : Nat) (0 : Nat) (0 : Nat))
                                            (T.chk true
                                              (T.chk true
                                                (T.need
                                                  (SkB (Blk.mk true [AV.nils, AV.sl (3 : Nat) (0 : Nat) (2 : Nat) (0 : Nat) (1 : Nat) c, AV.int IntKind.i64 (IntKind.wrap IntKind.i64 ((↑i : Int) + (1 : Int))), AV.tt] (0 : Nat) (0 : Nat) (fun a => []) [] none) ∧
                                                    PrB
                                                        (Blk.mk true [] (2 : Nat) c
                                                          (fun r => if r < (0 : Nat) then [] else if r < (1 : Nat) then List.map (fun c => Col.at c ((0 : Nat) + (r - (0 : Nat)))) ([] ++ [Col.ints IntKind.i64 [IntKind.wrap IntKind.i64 ((↑i : Int) + (1 : Int))]] ++ [Col.ints IntKind.i64 [(0 : Int)]]) else AV.cells (AV.agg (List.reverse [AV.int IntKind.i64 (0 : Int), AV.int IntKind.i64 (0 : Int)]))) []
                                                          none) ∧
                                                      (1 : Nat) ≠ (3 : Nat))
                                                  (T.need
                                                    (CkAll (0 : Nat) (1 : Nat) c c
                                                      (fstAt
                                                        (Blk.mk true [] (2 : Nat) c
                                                          (fun r => if r < (0 : Nat) then [] else if r < (1 : Nat) then List.map (fun c => Col.at c ((0 : Nat) + (r - (0 : Nat)))) ([] ++ [Col.ints IntKind.i64 [IntKind.wrap IntKind.i64 ((↑i : Int) + (1 : Int))]] ++ [Col.ints IntKind.i64 [(0 : Int)]]) else AV.cells (AV.agg (List.reverse [AV.int IntKind.i64 (0 : Int), AV.int IntKind.i64 (0 : Int)]))) []
                                                          none))
                                                      (sndAt
                                                        (Blk.mk true [] (2 : Nat) c
                                                          (fun r => if r < (0 : Nat) then [] else if r < (1 : Nat) then List.map (fun c => Col.at c ((0 : Nat) + (r - (0 : Nat)))) ([] ++ [Col.ints IntKind.i64 [IntKind.wrap IntKind.i64 ((↑i : Int) + (1 : Int))]] ++ [Col.ints IntKind.i64 [(0 : Int)]]) else AV.cells (AV.agg (List.reverse [AV.int IntKind.i64 (0 : Int), AV.int IntKind.i64 (0 : Int)]))) []
                                                          none))
                                                      (IntKind.wrap IntKind.i64 ((↑i : Int) + (1 : Int))) (IntKind.wrap IntKind.i64 ((↑i : Int) + (1 : Int))) (0 : Int))
                                                    (T.all fun c_1 =>
                                                      T.asm (decide (c_1 + (c - (1 : Nat)) ≤ c))
                                                        (@T.chk (Ex × St) true
                                                          (@T.chk (Ex × St) true
                                                            (@T.chk (Ex × St) true
                                                              (@T.chk (Ex × St) true
                                                                (T.ret
                                                                  (Ex.norm,
                                                                    St.mk [((0 : Nat), AV.sl (0 : Nat) (0 : Nat) (4 : Nat) (0 : Nat) len cap), ((3 : Nat), AV.ptr (1 : Nat) (0 : Nat) (0 : Nat) (0 : Nat)), ((4 : Nat), AV.nils), ((5 : Nat), AV.nils), ((6 : Nat), AV.int IntKind.i64 (0 : Int)), ((7 : Nat), AV.int IntKind.i64 (IntKind.wrap IntKind.i64 ((↑i : Int) + (1 : Int))))]
                                                                      [some (Blk.mk false [] (4 : Nat) cap (fun j => [AV.int IntKind.i64 (k j), AV.int IntKind.i64 (o j), AV.int IntKind.i64 (z j), AV.int IntKind.i64 (y j)]) [] none),
                                                                        some (Blk.mk true [AV.nils, AV.sl (3 : Nat) (0 : Nat) (2 : Nat) c_1 (0 : Nat) (c - (1 : Nat)), AV.int IntKind.i64 (IntKind.wrap IntKind.i64 ((↑i : Int) + (1 : Int))), AV.tt] (0 : Nat) (0 : Nat) (fun j => []) [] none),
                                                                        some (Blk.mk true [] (2 : Nat) (1 : Nat) (fun i_1 => [AV.int IntKind.i64 (List.getD [IntKind.wrap IntKind.i64 ((↑i : Int) + (1 : Int))] i_1 (0 : Int)), AV.int IntKind.i64 (List.getD [(0 : Int)] i_1 (0 : Int))]) [] none),
                                                                        some
                                                                          (Blk.mk true [] (2 : Nat) c
                                                                            (fun j =>
                                                                              [AV.int IntKind.i64
                                                                                  (fstAt
                                                                                    (Blk.rows true (2 : Nat) c fun r =>
                                                                                      if r < (0 : Nat) then []
                                                                                      else if r < (1 : Nat) then List.map (fun c => Col.at c ((0 : Nat) + (r - (0 : Nat)))) ([] ++ [Col.ints IntKind.i64 [IntKind.wrap IntKind.i64 ((↑i : Int) + (1 : Int))]] ++ [Col.ints IntKind.i64 [(0 : Int)]]) else AV.cells (AV.agg (List.reverse [AV.int IntKind.i64 (0 : Int), AV.int IntKind.i64 (0 : Int)])))
                                                                                    j),
                                                                                AV.int IntKind.i64
                                                                                  (sndAt
                                                                                    (Blk.rows true (2 : Nat) c fun r =>
                                                                                      if r < (0 : Nat) then []
                                                                                      else if r < (1 : Nat) then List.map (fun c => Col.at c ((0 : Nat) + (r - (0 : Nat)))) ([] ++ [Col.ints IntKind.i64 [IntKind.wrap IntKind.i64 ((↑i : Int) + (1 : Int))]] ++ [Col.ints IntKind.i64 [(0 : Int)]]) else AV.cells (AV.agg (List.reverse [AV.int IntKind.i64 (0 : Int), AV.int IntKind.i64 (0 : Int)])))
                                                                                    j)])
                                                                            [] none)])))))))))))))))))))))))))
              (T.chk (decide ((0 : Int) ≤ (↑i : Int)) && decide ((↑i : Int) < (↑len : Int)))
                (T.chk (decide ((0 : Nat) + Int.toNat (↑i : Int) < cap))
                  (T.chk (decide ((0 : Nat) + Int.toNat (↑i : Int) < cap))
                    (T.need (AV.nils = AV.nils)
                      (T.need (AV.ptr (1 : Nat) (0 : Nat) (0 : Nat) (0 : Nat) = AV.ptr (1 : Nat) (0 : Nat) (0 : Nat) (0 : Nat))
                        (T.chk true
                          (@T.chk (Ex × St) true
                            (T.chk true
                              (T.all fun c =>
                                T.asm (decide ((1 : Nat) ≤ c))
                                  (T.need (AV.agg [AV.int IntKind.i64 (z ((0 : Nat) + Int.toNat (↑i : Int))), AV.int IntKind.i64 (y ((0 : Nat) + Int.toNat (↑i : Int)))] = AV.agg [AV.int IntKind.i64 (z ((0 : Nat) + Int.toNat (↑i : Int))), AV.int IntKind.i64 (y ((0 : Nat) + Int.toNat (↑i : Int)))])
                                    (T.need (AV.ptr (1 : Nat) (0 : Nat) (0 : Nat) (0 : Nat) = AV.ptr (1 : Nat) (0 : Nat) (0 : Nat) (0 : Nat))
                                      (T.need (AV.ptr (1 : Nat) (0 : Nat) (0 : Nat) (0 : Nat) = AV.ptr (1 : Nat) (0 : Nat) (0 : Nat) (0 : Nat))
                                        (T.chk (decide ((0 : Int) ≤ (↑i : Int)) && decide ((↑i : Int) < (↑len : Int)))
                                          (T.chk (decide ((0 : Nat) + Int.toNat (↑i : Int) < cap))
                                            (T.chk (decide ((0 : Nat) + Int.toNat (↑i : Int) < cap))
                                              (T.chk true
                                                (@T.chk (Ex × St) true
                                                  (T.chk true
                                                    (T.all fun c_1 =>
                                                      T.asm (decide ((1 : Nat) ≤ c_1))
                                                        (T.ret
                                                          (Ex.norm,
                                                            St.mk
                                                              [((0 : Nat), AV.sl (0 : Nat) (0 : Nat) (4 : Nat) (0 : Nat) len cap), ((3 : Nat), AV.ptr (1 : Nat) (0 : Nat) (0 : Nat) (0 : Nat)), ((4 : Nat), AV.sl (6 : Nat) (0 : Nat) (2 : Nat) (0 : Nat) (1 : Nat) c_1), ((5 : Nat), AV.nils), ((6 : Nat), AV.int IntKind.i64 (↑A : Int)),
                                                                ((7 : Nat), AV.int IntKind.i64 (IntKind.wrap IntKind.i64 ((↑i : Int) + (1 : Int))))]
                                                              [some (Blk.mk false [] (4 : Nat) cap (fun j => [AV.int IntKind.i64 (k j), AV.int IntKind.i64 (o j), AV.int IntKind.i64 (z j), AV.int IntKind.i64 (y j)]) [] none), some (Blk.mk true [AV.sl (4 : Nat) (0 : Nat) (2 : Nat) (0 : Nat) (1 : Nat) c, AV.nils, AV.int IntKind.i64 (0 : Int), AV.ff] (0 : Nat) (0 : Nat) (fun a => []) [] none),
                                                                some (Blk.mk true [AV.int IntKind.i64 (z ((0 : Nat) + Int.toNat (↑i : Int))), AV.int IntKind.i64 (y ((0 : Nat) + Int.toNat (↑i : Int)))] (0 : Nat) (0 : Nat) (fun x => []) [] none),
                                                                some (Blk.mk true [] (2 : Nat) (1 : Nat) (fun i_1 => [AV.int IntKind.i64 (List.getD [z ((0 : Nat) + Int.toNat (↑i : Int))] i_1 (0 : Int)), AV.int IntKind.i64 (List.getD [y ((0 : Nat) + Int.toNat (↑i : Int))] i_1 (0 : Int))]) [] none),
                                                                some
                                                                  (Blk.mk true [] (2 : Nat) c
                                                                    (fun r =>
                                                                      if r < (0 : Nat) then []
                                                                      else if r < (1 : Nat) then List.map (fun c => Col.at c ((0 : Nat) + (r - (0 : Nat)))) ([] ++ [Col.ints IntKind.i64 [z ((0 : Nat) + Int.toNat (↑i : Int))]] ++ [Col.ints IntKind.i64 [y ((0 : Nat) + Int.toNat (↑i : Int))]]) else AV.cells (AV.agg (List.reverse [AV.int IntKind.i64 (0 : Int), AV.int IntKind.i64 (0 : Int)])))
                                                                    [] none),
                                                                some (Blk.mk true [] (2 : Nat) (1 : Nat) (fun i_1 => [AV.int IntKind.i64 (List.getD [z ((0 : Nat) + Int.toNat (↑i : Int))] i_1 (0 : Int)), AV.int IntKind.i64 (List.getD [y ((0 : Nat) + Int.toNat (↑i : Int))] i_1 (0 : Int))]) [] none),
                                                                some
                                                                  (Blk.mk true [] (2 : Nat) c_1
                                                                    (fun r =>
                                                                      if r < (0 : Nat) then []
                                                                      else if r < (1 : Nat) then List.map (fun c => Col.at c ((0 : Nat) + (r - (0 : Nat)))) ([] ++ [Col.ints IntKind.i64 [z ((0 : Nat) + Int.toNat (↑i : Int))]] ++ [Col.ints IntKind.i64 [y ((0 : Nat) + Int.toNat (↑i : Int))]]) else AV.cells (AV.agg (List.reverse [AV.int IntKind.i64 (0 : Int), AV.int IntKind.i64 (0 : Int)])))
                                                                    [] none)])))))))))))))))))))))))))
      (T.ret
        (Ex.exit (0 : Nat),
          St.mk [((0 : Nat), AV.sl (0 : Nat) (0 : Nat) (4 : Nat) (0 : Nat) len cap), ((3 : Nat), AV.ptr (1 : Nat) (0 : Nat) (0 : Nat) (0 : Nat)), ((4 : Nat), AV.nils), ((5 : Nat), AV.nils), ((6 : Nat), AV.int IntKind.i64 (↑A : Int)), ((7 : Nat), AV.int IntKind.i64 (↑i : Int))]
            [some (Blk.mk false [] (4 : Nat) cap (fun j => [AV.int IntKind.i64 (k j), AV.int IntKind.i64 (o j), AV.int IntKind.i64 (z j), AV.int IntKind.i64 (y j)]) [] none), some (Blk.mk true [AV.nils, AV.nils, AV.int IntKind.i64 (0 : Int), AV.ff] (0 : Nat) (0 : Nat) (fun x => []) [] none)])))
    (T.ret
      (Ex.exit (0 : Nat),
        St.mk [((0 : Nat), AV.sl (0 : Nat) (0 : Nat) (4 : Nat) (0 : Nat) len cap), ((3 : Nat), AV.ptr (1 : Nat) (0 : Nat) (0 : Nat) (0 : Nat)), ((4 : Nat), AV.nils), ((5 : Nat), AV.nils), ((6 : Nat), AV.int IntKind.i64 (↑A : Int)), ((7 : Nat), AV.int IntKind.i64 (↑i : Int))]
          [some (Blk.mk false [] (4 : Nat) cap (fun j => [AV.int IntKind.i64 (k j), AV.int IntKind.i64 (o j), AV.int IntKind.i64 (z j), AV.int IntKind.i64 (y j)]) [] none), some (Blk.mk true [AV.nils, AV.nils, AV.int IntKind.i64 (0 : Int), AV.ff] (0 : Nat) (0 : Nat) (fun x => []) [] none)])) := by
  kernel_rfl

end Go.Proofs.Ythfgojdpnbpjbaa
