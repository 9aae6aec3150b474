/-
  Layer 13: Once: the round's tree.
-/
import Derived.Test.YthfgojdpnbpjbaaHSc
namespace Go.Proofs.Ythfgojdpnbpjbaa
open Go.Ox
set_option maxRecDepth 100000
set_option maxHeartbeats 4000000
set_option linter.unusedVariables false
set_option linter.unusedSimpArgs false

theorem so_tree_b (k o z y : Nat → Int) (len cap i J nc cc cB : Nat) (p q : Nat → Int) (most : Int) (tn tc n rc rB : Nat) (f g : Nat → Int) (A dc : Nat) : T.cut (keepT [0, 3, 4, 5, 6, 7] (acode Try.prog soE (loopAt (codeOf Try.f4) 0) (soSt ⟨k, o, z, y, len, cap, i, .b, J, nc, cc, cB, p, q, most, tn, tc, n, rc, rB, f, g, A, dc⟩))) [2, 20, 2, 18, 2, 2, 2, 0, 2, 10, 2, 4, 0, 0, 1, 0, 0, 0, 1, 0, 0, 0] = 
  T.ite (decide ((↑i : Int) < (↑len : Int)))
    (T.ite (decide ((↑i : Int) < (200 : Int)))
      (T.chk (decide ((0 : Int) ≤ (↑i : Int)) && decide ((↑i : Int) < (↑len : Int)))
        (T.chk (decide ((0 : Nat) + Int.toNat (↑i : Int) < cap))
          (T.ite (pk5 (k ((0 : Nat) + Int.toNat (↑i : Int))) == (3 : Int))
            (T.ite (decide (IntKind.wrap IntKind.i64 ((↑i : Int) + (1 : Int)) ≤ most))
              (T.ret
                (Ex.norm,
                  St.mk [((0 : Nat), AV.sl (0 : Nat) (0 : Nat) (4 : Nat) (0 : Nat) len cap), ((3 : Nat), AV.ptr (1 : Nat) (0 : Nat) (0 : Nat) (0 : Nat)), ((4 : Nat), AV.nils), ((5 : Nat), AV.nils), ((6 : Nat), AV.int IntKind.i64 (↑A : Int)), ((7 : Nat), AV.int IntKind.i64 (IntKind.wrap IntKind.i64 ((↑i : Int) + (1 : Int))))]
                    [some (Blk.mk false [] (4 : Nat) cap (fun j => [AV.int IntKind.i64 (k j), AV.int IntKind.i64 (o j), AV.int IntKind.i64 (z j), AV.int IntKind.i64 (y j)]) [] none), some (Blk.mk true [AV.nils, AV.sl (2 : Nat) (0 : Nat) (2 : Nat) J nc cc, AV.int IntKind.i64 most, AV.tt] (0 : Nat) (0 : Nat) (fun x => []) [] none),
                      some (Blk.mk true [] (2 : Nat) cB (fun j => [AV.int IntKind.i64 (p j), AV.int IntKind.i64 (q j)]) [] none)]))
              (T.need (AV.int IntKind.i64 (0 : Int) = AV.int IntKind.i64 (0 : Int))
                (T.need (AV.nils = AV.nils)
                  (T.need (AV.ptr (1 : Nat) (0 : Nat) (0 : Nat) (0 : Nat) = AV.ptr (1 : Nat) (0 : Nat) (0 : Nat) (0 : Nat))
                    (T.need (AV.sl (2 : Nat) (0 : Nat) (2 : Nat) J nc cc = AV.sl (2 : Nat) (0 : Nat) (2 : Nat) J nc cc)
                      (T.need (AV.ptr (1 : Nat) (0 : Nat) (0 : Nat) (0 : Nat) = AV.ptr (1 : Nat) (0 : Nat) (0 : Nat) (0 : Nat))
                        (T.chk true
                          (T.chk (decide (J + cc ≤ cB))
                            (T.chk (decide (nc ≤ cc))
                              (T.chk (decide (nc + (1 : Nat) ≤ (4294967296 : Nat)))
                                (T.all fun c =>
                                  T.all fun c_1 =>
                                    T.asm (decide (nc + (1 : Nat) ≤ c ∧ (c_1 = (0 : Nat) ∨ c = cc)))
                                      (T.need (AV.int IntKind.i64 (0 : Int) = AV.int IntKind.i64 (0 : Int))
                                        (T.need (AV.nils = AV.nils)
                                          (T.need (AV.ptr (1 : Nat) (0 : Nat) (0 : Nat) (0 : Nat) = AV.ptr (1 : Nat) (0 : Nat) (0 : Nat) (0 : Nat))
                                            (T.need (AV.ptr (1 : Nat) (0 : Nat) (0 : Nat) (0 : Nat) = AV.ptr (1 : Nat) (0 : Nat) (0 : Nat) (0 : Nat))
                                              (T.need (AV.ptr (1 : Nat) (0 : Nat) (0 : Nat) (0 : Nat) = AV.ptr (1 : Nat) (0 : Nat) (0 : Nat) (0 : Nat))
                                                (T.chk true
                                                  (T.chk true
                                                    (T.ret
                                                      (Ex.norm,
                                                        St.mk [((0 : Nat), AV.sl (0 : Nat) (0 : Nat) (4 : Nat) (0 : Nat) len cap), ((3 : Nat), AV.ptr (1 : Nat) (0 : Nat) (0 : Nat) (0 : Nat)), ((4 : Nat), AV.nils), ((5 : Nat), AV.nils), ((6 : Nat), AV.int IntKind.i64 (↑A : Int)), ((7 : Nat), AV.int IntKind.i64 (IntKind.wrap IntKind.i64 ((↑i : Int) + (1 : Int))))]
                                                          [some (Blk.mk false [] (4 : Nat) cap (fun j => [AV.int IntKind.i64 (k j), AV.int IntKind.i64 (o j), AV.int IntKind.i64 (z j), AV.int IntKind.i64 (y j)]) [] none),
                                                            some (Blk.mk true [AV.nils, AV.sl (4 : Nat) (0 : Nat) (2 : Nat) (0 : Nat) (nc + (1 : Nat)) c, AV.int IntKind.i64 (IntKind.wrap IntKind.i64 ((↑i : Int) + (1 : Int))), AV.tt] (0 : Nat) (0 : Nat) (fun a => []) [] none), none,
                                                            some (Blk.mk true [] (2 : Nat) (1 : Nat) (fun i_1 => [AV.int IntKind.i64 (List.getD [IntKind.wrap IntKind.i64 ((↑i : Int) + (1 : Int))] i_1 (0 : Int)), AV.int IntKind.i64 (List.getD [(0 : Int)] i_1 (0 : Int))]) [] none),
                                                            some
                                                              (Blk.mk true [] (2 : Nat) c
                                                                (fun r =>
                                                                  if r < nc then [AV.int IntKind.i64 (p (J + r)), AV.int IntKind.i64 (q (J + r))]
                                                                  else
                                                                    if r < nc + (1 : Nat) then List.map (fun c => Col.at c ((0 : Nat) + (r - nc))) ([] ++ [Col.ints IntKind.i64 [IntKind.wrap IntKind.i64 ((↑i : Int) + (1 : Int))]] ++ [Col.ints IntKind.i64 [(0 : Int)]])
                                                                    else if c_1 = (0 : Nat) then AV.cells (AV.agg (List.reverse [AV.int IntKind.i64 (0 : Int), AV.int IntKind.i64 (0 : Int)])) else [AV.int IntKind.i64 (p (J + r)), AV.int IntKind.i64 (q (J + r))])
                                                                [] none)]))))))))))))))))))))
            (T.ite (pk5 (k ((0 : Nat) + Int.toNat (↑i : Int))) == (4 : Int))
              (T.ite (decide (IntKind.wrap IntKind.i64 ((↑i : Int) + (1 : Int)) ≤ most))
                (T.need (SkB (Blk.mk true [AV.nils, AV.sl (2 : Nat) (0 : Nat) (2 : Nat) J nc cc, AV.int IntKind.i64 most, AV.tt] (0 : Nat) (0 : Nat) (fun x => []) [] none) ∧ PrB (Blk.mk true [] (2 : Nat) cB (fun j => [AV.int IntKind.i64 (p j), AV.int IntKind.i64 (q j)]) [] none) ∧ (1 : Nat) ≠ (2 : Nat))
                  (T.need (CkAll J nc cc cB (fstAt (Blk.mk true [] (2 : Nat) cB (fun j => [AV.int IntKind.i64 (p j), AV.int IntKind.i64 (q j)]) [] none)) (sndAt (Blk.mk true [] (2 : Nat) cB (fun j => [AV.int IntKind.i64 (p j), AV.int IntKind.i64 (q j)]) [] none)) (IntKind.wrap IntKind.i64 ((↑i : Int) + (1 : Int))) most (0 : Int))
                    (T.all fun c =>
                      T.asm (decide (c + (cc - nc) ≤ cB))
                        (@T.chk (Ex × St) true
                          (@T.chk (Ex × St) true
                            (@T.chk (Ex × St) true
                              (@T.chk (Ex × St) true
                                (T.ret
                                  (Ex.norm,
                                    St.mk [((0 : Nat), AV.sl (0 : Nat) (0 : Nat) (4 : Nat) (0 : Nat) len cap), ((3 : Nat), AV.ptr (1 : Nat) (0 : Nat) (0 : Nat) (0 : Nat)), ((4 : Nat), AV.nils), ((5 : Nat), AV.nils), ((6 : Nat), AV.int IntKind.i64 (0 : Int)), ((7 : Nat), AV.int IntKind.i64 (IntKind.wrap IntKind.i64 ((↑i : Int) + (1 : Int))))]
                                      [some (Blk.mk false [] (4 : Nat) cap (fun j => [AV.int IntKind.i64 (k j), AV.int IntKind.i64 (o j), AV.int IntKind.i64 (z j), AV.int IntKind.i64 (y j)]) [] none), some (Blk.mk true [AV.nils, AV.sl (2 : Nat) (0 : Nat) (2 : Nat) c (0 : Nat) (cc - nc), AV.int IntKind.i64 most, AV.tt] (0 : Nat) (0 : Nat) (fun j => []) [] none),
                                        some (Blk.mk true [] (2 : Nat) cB (fun j => [AV.int IntKind.i64 (fstAt (pB cB p q) j), AV.int IntKind.i64 (sndAt (pB cB p q) j)]) [] none)])))))))))
                (T.need (AV.int IntKind.i64 (0 : Int) = AV.int IntKind.i64 (0 : Int))
                  (T.need (AV.nils = AV.nils)
                    (T.need (AV.ptr (1 : Nat) (0 : Nat) (0 : Nat) (0 : Nat) = AV.ptr (1 : Nat) (0 : Nat) (0 : Nat) (0 : Nat))
                      (T.need (AV.sl (2 : Nat) (0 : Nat) (2 : Nat) J nc cc = AV.sl (2 : Nat) (0 : Nat) (2 : Nat) J nc cc)
                        (T.need (AV.ptr (1 : Nat) (0 : Nat) (0 : Nat) (0 : Nat) = AV.ptr (1 : Nat) (0 : Nat) (0 : Nat) (0 : Nat))
                          (T.chk true
                            (T.chk (decide (J + cc ≤ cB))
                              (T.chk (decide (nc ≤ cc))
                                (T.chk (decide (nc + (1 : Nat) ≤ (4294967296 : Nat)))
                                  (T.all fun c =>
                                    T.all fun c_1 =>
                                      T.asm (decide (nc + (1 : Nat) ≤ c ∧ (c_1 = (0 : Nat) ∨ c = cc)))
                                        (T.need (AV.int IntKind.i64 (0 : Int) = AV.int IntKind.i64 (0 : Int))
                                          (T.need (AV.nils = AV.nils)
                                            (T.need (AV.ptr (1 : Nat) (0 : Nat) (0 : Nat) (0 : Nat) = AV.ptr (1 : Nat) (0 : Nat) (0 : Nat) (0 : Nat))
                                              (T.need (AV.ptr (1 : Nat) (0 : Nat) (0 : Nat) (0 : Nat) = AV.ptr (1 : Nat) (0 : Nat) (0 : Nat) (0 : Nat))
                                                (T.need (AV.ptr (1 : Nat) (0 : Nat) (0 : Nat) (0 : Nat) = AV.ptr (1 : Nat) (0 : Nat) (0 : Nat) (0 : Nat))
                                                  (T.chk true
                                                    (T.chk true
                                                      (T.need
                                                        (SkB (Blk.mk true [AV.nils, AV.sl (4 : Nat) (0 : Nat) (2 : Nat) (0 : Nat) (nc + (1 : Nat)) c, AV.int IntKind.i64 (IntKind.wrap IntKind.i64 ((↑i : Int) + (1 : Int))), AV.tt] (0 : Nat) (0 : Nat) (fun a => []) [] none) ∧
                                                          PrB
                                                              (Blk.mk true [] (2 : Nat) c
                                                                (fun r =>
                                                                  if r < nc then [AV.int IntKind.i64 (p (J + r)), AV.int IntKind.i64 (q (J + r))]
                                                                  else
                                                                    if r < nc + (1 : Nat) then List.map (fun c => Col.at c ((0 : Nat) + (r - nc))) ([] ++ [Col.ints IntKind.i64 [IntKind.wrap IntKind.i64 ((↑i : Int) + (1 : Int))]] ++ [Col.ints IntKind.i64 [(0 : Int)]])
                                                                    else if c_1 = (0 : Nat) then AV.cells (AV.agg (List.reverse [AV.int IntKind.i64 (0 : Int), AV.int IntKind.i64 (0 : Int)])) else [AV.int IntKind.i64 (p (J + r)), AV.int IntKind.i64 (q (J + r))])
                                                                [] none) ∧
                                                            (1 : Nat) ≠ (4 : Nat))
                                                        (T.need
                                                          (CkAll (0 : Nat) (nc + (1 : Nat)) c c
                                                            (fstAt
                                                              (Blk.mk true [] (2 : Nat) c
                                                                (fun r =>
                                                                  if r < nc then [AV.int IntKind.i64 (p (J + r)), AV.int IntKind.i64 (q (J + r))]
                                                                  else
                                                                    if r < nc + (1 : Nat) then List.map (fun c => Col.at c ((0 : Nat) + (r - nc))) ([] ++ [Col.ints IntKind.i64 [IntKind.wrap IntKind.i64 ((↑i : Int) + (1 : Int))]] ++ [Col.ints IntKind.i64 [(0 : Int)]])
                                                                    else if c_1 = (0 : Nat) then AV.cells (AV.agg (List.reverse [AV.int IntKind.i64 (0 : Int), AV.int IntKind.i64 (0 : Int)])) else [AV.int IntKind.i64 (p (J + r)), AV.int IntKind.i64 (q (J + r))])
                                                                [] none))
                                                            (sndAt
                                                              (Blk.mk true [] (2 : Nat) c
                                                                (fun r =>
                                                                  if r < nc then [AV.int IntKind.i64 (p (J + r)), AV.int IntKind.i64 (q (J + r))]
                                                                  else
                                                                    if r < nc + (1 : Nat) then List.map (fun c => Col.at c ((0 : Nat) + (r - nc))) ([] ++ [Col.ints IntKind.i64 [IntKind.wrap IntKind.i64 ((↑i : Int) + (1 : Int))]] ++ [Col.ints IntKind.i64 [(0 : Int)]])
                                                                    else if c_1 = (0 : Nat) then AV.cells (AV.agg (List.reverse [AV.int IntKind.i64 (0 : Int), AV.int IntKind.i64 (0 : Int)])) else [AV.int IntKind.i64 (p (J + r)), AV.int IntKind.i64 (q (J + r))])
                                                                [] none))
                                                            (IntKind.wrap IntKind.i64 ((↑i : Int) + (1 : Int))) (IntKind.wrap IntKind.i64 ((↑i : Int) + (1 : Int))) (0 : Int))
                                                          (T.all fun c_2 =>
                                                            T.asm (decide (c_2 + (c - (nc + (1 : Nat))) ≤ c))
                                                              (@T.chk (Ex × St) true
                                                                (@T.chk (Ex × St) true
                                                                  (@T.chk (Ex × St) true
                                                                    (@T.chk (Ex × St) true
                                                                      (T.ret
                                                                        (Ex.norm,
                                                                          St.mk [((0 : Nat), AV.sl (0 : Nat) (0 : Nat) (4 : Nat) (0 : Nat) len cap), ((3 : Nat), AV.ptr (1 : Nat) (0 : Nat) (0 : Nat) (0 : Nat)), ((4 : Nat), AV.nils), ((5 : Nat), AV.nils), ((6 : Nat), AV.int IntKind.i64 (0 : Int)), ((7 : Nat), AV.int IntKind.i64 (IntKind.wrap IntKind.i64 ((↑i : Int) + (1 : Int))))]
                                                                            [some (Blk.mk false [] (4 : Nat) cap (fun j => [AV.int IntKind.i64 (k j), AV.int IntKind.i64 (o j), AV.int IntKind.i64 (z j), AV.int IntKind.i64 (y j)]) [] none),
                                                                              some (Blk.mk true [AV.nils, AV.sl (4 : Nat) (0 : Nat) (2 : Nat) c_2 (0 : Nat) (c - (nc + (1 : Nat))), AV.int IntKind.i64 (IntKind.wrap IntKind.i64 ((↑i : Int) + (1 : Int))), AV.tt] (0 : Nat) (0 : Nat) (fun j => []) [] none), none,
                                                                              some (Blk.mk true [] (2 : Nat) (1 : Nat) (fun i_1 => [AV.int IntKind.i64 (List.getD [IntKind.wrap IntKind.i64 ((↑i : Int) + (1 : Int))] i_1 (0 : Int)), AV.int IntKind.i64 (List.getD [(0 : Int)] i_1 (0 : Int))]) [] none),
                                                                              some
                                                                                (Blk.mk true [] (2 : Nat) c
                                                                                  (fun j =>
                                                                                    [AV.int IntKind.i64
                                                                                        (fstAt
                                                                                          (vecRows (2 : Nat) nc (1 : Nat) c c_1 J (pB cB p q) (fun i_1 => List.map (fun c => Col.at c ((0 : Nat) + i_1)) ([] ++ [Col.ints IntKind.i64 [IntKind.wrap IntKind.i64 ((↑i : Int) + (1 : Int))]] ++ [Col.ints IntKind.i64 [(0 : Int)]]))
                                                                                            (AV.cells (AV.agg (List.reverse [AV.int IntKind.i64 (0 : Int), AV.int IntKind.i64 (0 : Int)]))))
                                                                                          j),
                                                                                      AV.int IntKind.i64
                                                                                        (sndAt
                                                                                          (vecRows (2 : Nat) nc (1 : Nat) c c_1 J (pB cB p q) (fun i_1 => List.map (fun c => Col.at c ((0 : Nat) + i_1)) ([] ++ [Col.ints IntKind.i64 [IntKind.wrap IntKind.i64 ((↑i : Int) + (1 : Int))]] ++ [Col.ints IntKind.i64 [(0 : Int)]]))
                                                                                            (AV.cells (AV.agg (List.reverse [AV.int IntKind.i64 (0 : Int), AV.int IntKind.i64 (0 : Int)]))))
                                                                                          j)])
                                                                                  [] none)])))))))))))))))))))))))))))
              (T.chk (decide ((0 : Int) ≤ (↑i : Int)) && decide ((↑i : Int) < (↑len : Int)))
                (T.chk (decide ((0 : Nat) + Int.toNat (↑i : Int) < cap))
                  (T.chk (decide ((0 : Nat) + Int.toNat (↑i : Int) < cap))
                    (T.need (AV.nils = AV.nils)
                      (T.need (AV.ptr (1 : Nat) (0 : Nat) (0 : Nat) (0 : Nat) = AV.ptr (1 : Nat) (0 : Nat) (0 : Nat) (0 : Nat))
                        (T.chk true
                          (@T.chk (Ex × St) true
                            (T.chk true
                              (T.all fun c =>
                                T.asm (decide ((1 : Nat) ≤ c))
                                  (T.need (AV.agg [AV.int IntKind.i64 (z ((0 : Nat) + Int.toNat (↑i : Int))), AV.int IntKind.i64 (y ((0 : Nat) + Int.toNat (↑i : Int)))] = AV.agg [AV.int IntKind.i64 (z ((0 : Nat) + Int.toNat (↑i : Int))), AV.int IntKind.i64 (y ((0 : Nat) + Int.toNat (↑i : Int)))])
                                    (T.need (AV.ptr (1 : Nat) (0 : Nat) (0 : Nat) (0 : Nat) = AV.ptr (1 : Nat) (0 : Nat) (0 : Nat) (0 : Nat))
                                      (T.need (AV.ptr (1 : Nat) (0 : Nat) (0 : Nat) (0 : Nat) = AV.ptr (1 : Nat) (0 : Nat) (0 : Nat) (0 : Nat))
                                        (T.chk (decide ((0 : Int) ≤ (↑i : Int)) && decide ((↑i : Int) < (↑len : Int)))
                                          (T.chk (decide ((0 : Nat) + Int.toNat (↑i : Int) < cap))
                                            (T.chk (decide ((0 : Nat) + Int.toNat (↑i : Int) < cap))
                                              (T.chk true
                                                (@T.chk (Ex × St) true
                                                  (T.chk true
                                                    (T.all fun c_1 =>
                                                      T.asm (decide ((1 : Nat) ≤ c_1))
                                                        (T.ret
                                                          (Ex.norm,
                                                            St.mk
                                                              [((0 : Nat), AV.sl (0 : Nat) (0 : Nat) (4 : Nat) (0 : Nat) len cap), ((3 : Nat), AV.ptr (1 : Nat) (0 : Nat) (0 : Nat) (0 : Nat)), ((4 : Nat), AV.sl (7 : Nat) (0 : Nat) (2 : Nat) (0 : Nat) (1 : Nat) c_1), ((5 : Nat), AV.nils), ((6 : Nat), AV.int IntKind.i64 (↑A : Int)),
                                                                ((7 : Nat), AV.int IntKind.i64 (IntKind.wrap IntKind.i64 ((↑i : Int) + (1 : Int))))]
                                                              [some (Blk.mk false [] (4 : Nat) cap (fun j => [AV.int IntKind.i64 (k j), AV.int IntKind.i64 (o j), AV.int IntKind.i64 (z j), AV.int IntKind.i64 (y j)]) [] none),
                                                                some (Blk.mk true [AV.sl (5 : Nat) (0 : Nat) (2 : Nat) (0 : Nat) (1 : Nat) c, AV.sl (2 : Nat) (0 : Nat) (2 : Nat) J nc cc, AV.int IntKind.i64 most, AV.tt] (0 : Nat) (0 : Nat) (fun a => []) [] none), some (Blk.mk true [] (2 : Nat) cB (fun j => [AV.int IntKind.i64 (p j), AV.int IntKind.i64 (q j)]) [] none),
                                                                some (Blk.mk true [AV.int IntKind.i64 (z ((0 : Nat) + Int.toNat (↑i : Int))), AV.int IntKind.i64 (y ((0 : Nat) + Int.toNat (↑i : Int)))] (0 : Nat) (0 : Nat) (fun x => []) [] none),
                                                                some (Blk.mk true [] (2 : Nat) (1 : Nat) (fun i_1 => [AV.int IntKind.i64 (List.getD [z ((0 : Nat) + Int.toNat (↑i : Int))] i_1 (0 : Int)), AV.int IntKind.i64 (List.getD [y ((0 : Nat) + Int.toNat (↑i : Int))] i_1 (0 : Int))]) [] none),
                                                                some
                                                                  (Blk.mk true [] (2 : Nat) c
                                                                    (fun r =>
                                                                      if r < (0 : Nat) then []
                                                                      else if r < (1 : Nat) then List.map (fun c => Col.at c ((0 : Nat) + (r - (0 : Nat)))) ([] ++ [Col.ints IntKind.i64 [z ((0 : Nat) + Int.toNat (↑i : Int))]] ++ [Col.ints IntKind.i64 [y ((0 : Nat) + Int.toNat (↑i : Int))]]) else AV.cells (AV.agg (List.reverse [AV.int IntKind.i64 (0 : Int), AV.int IntKind.i64 (0 : Int)])))
                                                                    [] none),
                                                                some (Blk.mk true [] (2 : Nat) (1 : Nat) (fun i_1 => [AV.int IntKind.i64 (List.getD [z ((0 : Nat) + Int.toNat (↑i : Int))] i_1 (0 : Int)), AV.int IntKind.i64 (List.getD [y ((0 : Nat) + Int.toNat (↑i : Int))] i_1 (0 : Int))]) [] none),
                                                                some
                                                                  (Blk.mk true [] (2 : Nat) c_1
                                                                    (fun r =>
                                                                      if r < (0 : Nat) then []
                                                                      else if r < (1 : Nat) then List.map (fun c => Col.at c ((0 : Nat) + (r - (0 : Nat)))) ([] ++ [Col.ints IntKind.i64 [z ((0 : Nat) + Int.toNat (↑i : Int))]] ++ [Col.ints IntKind.i64 [y ((0 : Nat) + Int.toNat (↑i : Int))]]) else AV.cells (AV.agg (List.reverse [AV.int IntKind.i64 (0 : Int), AV.int IntKind.i64 (0 : Int)])))
                                                                    [] none)])))))))))))))))))))))))))
      (T.ret
        (Ex.exit (0 : Nat),
          St.mk [((0 : Nat), AV.sl (0 : Nat) (0 : Nat) (4 : Nat) (0 : Nat) len cap), ((3 : Nat), AV.ptr (1 : Nat) (0 : Nat) (0 : Nat) (0 : Nat)), ((4 : Nat), AV.nils), ((5 : Nat), AV.nils), ((6 : Nat), AV.int IntKind.i64 (↑A : Int)), ((7 : Nat), AV.int IntKind.i64 (↑i : Int))]
            [some (Blk.mk false [] (4 : Nat) cap (fun j => [AV.int IntKind.i64 (k j), AV.int IntKind.i64 (o j), AV.int IntKind.i64 (z j), AV.int IntKind.i64 (y j)]) [] none), some (Blk.mk true [AV.nils, AV.sl (2 : Nat) (0 : Nat) (2 : Nat) J nc cc, AV.int IntKind.i64 most, AV.tt] (0 : Nat) (0 : Nat) (fun x => []) [] none),
              some (Blk.mk true [] (2 : Nat) cB (fun j => [AV.int IntKind.i64 (p j), AV.int IntKind.i64 (q j)]) [] none)])))
    (T.ret
      (Ex.exit (0 : Nat),
        St.mk [((0 : Nat), AV.sl (0 : Nat) (0 : Nat) (4 : Nat) (0 : Nat) len cap), ((3 : Nat), AV.ptr (1 : Nat) (0 : Nat) (0 : Nat) (0 : Nat)), ((4 : Nat), AV.nils), ((5 : Nat), AV.nils), ((6 : Nat), AV.int IntKind.i64 (↑A : Int)), ((7 : Nat), AV.int IntKind.i64 (↑i : Int))]
          [some (Blk.mk false [] (4 : Nat) cap (fun j => [AV.int IntKind.i64 (k j), AV.int IntKind.i64 (o j), AV.int IntKind.i64 (z j), AV.int IntKind.i64 (y j)]) [] none), some (Blk.mk true [AV.nils, AV.sl (2 : Nat) (0 : Nat) (2 : Nat) J nc cc, AV.int IntKind.i64 most, AV.tt] (0 : Nat) (0 : Nat) (fun x => []) [] none),
            some (Blk.mk true [] (2 : Nat) cB (fun j => [AV.int IntKind.i64 (p j), AV.int IntKind.i64 (q j)]) [] none)])) := by
  kernel_rfl

end Go.Proofs.Ythfgojdpnbpjbaa
