/-
  Layer 13: Once: the loop, the law's trees.
-/
import Derived.Test.YthfgojdpnbpjbaaHSfa
import Derived.Test.YthfgojdpnbpjbaaHSfb
import Derived.Test.YthfgojdpnbpjbaaHSfc
import Derived.Test.YthfgojdpnbpjbaaHSfd
import Derived.Test.YthfgojdpnbpjbaaHSfe
namespace Go.Proofs.Ythfgojdpnbpjbaa
open Go.Ox
set_option maxRecDepth 100000
set_option maxHeartbeats 4000000
set_option linter.unusedVariables false
set_option linter.unusedSimpArgs false

theorem so_loop : LoopOK Try.prog soE (loopAt (codeOf Try.f4) 0) := by
  refine loopSumm_ok (E := soE) (inl_ok soB_ok soL soL_ok) (noLoops (by kernel_rfl)) soSt soInv (fun x => x.N - x.i) soPick soEnd ?_ (by kernel_rfl)
  rintro ⟨k, o, z, y, len, cap, i, s, J, nc, cc, cB, p, q, most, tn, tc, n, rc, rB, f, g, A, dc⟩ hinv Q hq
  refine round_keep [0, 3, 4, 5, 6, 7] ?_
  cases s with
  | a => exact so_round_a k o z y len cap i J nc cc cB p q most tn tc n rc rB f g A dc Q hq hinv
  | b => exact so_round_b k o z y len cap i J nc cc cB p q most tn tc n rc rB f g A dc Q hq hinv
  | c => exact so_round_c k o z y len cap i J nc cc cB p q most tn tc n rc rB f g A dc Q hq hinv
  | d => exact so_round_d k o z y len cap i J nc cc cB p q most tn tc n rc rB f g A dc Q hq hinv
  | e => exact so_round_e k o z y len cap i J nc cc cB p q most tn tc n rc rB f g A dc Q hq hinv

theorem so_fn (k o z y : Nat → Int) (len cap : Nat) : T.cut ((afn Try.prog soE Try.f4 (codeOf Try.f4) [.sl 0 0 4 0 len cap] [some (actB k o z y cap)]).bind fun r => .ret r.1) [2, 1, 1, 2, 1, 1, 1] = 
  T.need
    (∃ ρ,
      SubSt (1 : Nat) ρ
        (St.mk [((0 : Nat), AV.sl (0 : Nat) (0 : Nat) (4 : Nat) (0 : Nat) len cap), ((3 : Nat), AV.ptr (1 : Nat) (0 : Nat) (0 : Nat) (0 : Nat)), ((4 : Nat), AV.nils), ((5 : Nat), AV.nils), ((6 : Nat), AV.int IntKind.i64 (0 : Int)), ((7 : Nat), AV.int IntKind.i64 (0 : Int))]
          [some (Blk.mk false [] (4 : Nat) cap (fun j => [AV.int IntKind.i64 (k j), AV.int IntKind.i64 (o j), AV.int IntKind.i64 (z j), AV.int IntKind.i64 (y j)]) [] none), some (Blk.mk true [AV.nils, AV.nils, AV.int IntKind.i64 (0 : Int), AV.ff] (0 : Nat) (0 : Nat) (fun x => []) [] none)])
        (soSt
          (SO.mk (fun j => intC [AV.int IntKind.i64 (k j), AV.int IntKind.i64 (o j), AV.int IntKind.i64 (z j), AV.int IntKind.i64 (y j)] (0 : Nat)) (fun j => intC [AV.int IntKind.i64 (k j), AV.int IntKind.i64 (o j), AV.int IntKind.i64 (z j), AV.int IntKind.i64 (y j)] (1 : Nat))
            (fun j => intC [AV.int IntKind.i64 (k j), AV.int IntKind.i64 (o j), AV.int IntKind.i64 (z j), AV.int IntKind.i64 (y j)] (2 : Nat)) (fun j => intC [AV.int IntKind.i64 (k j), AV.int IntKind.i64 (o j), AV.int IntKind.i64 (z j), AV.int IntKind.i64 (y j)] (3 : Nat)) len cap (0 : Nat) SS.a (0 : Nat) (0 : Nat) (0 : Nat) (0 : Nat) (fun x => (0 : Int)) (fun x => (0 : Int)) (0 : Int) (0 : Nat)
            (0 : Nat) (0 : Nat) (0 : Nat) (0 : Nat) (fun x => (0 : Int)) (fun x => (0 : Int)) (0 : Nat) (0 : Nat))))
    (T.need
      (soInv
        (SO.mk (fun j => intC [AV.int IntKind.i64 (k j), AV.int IntKind.i64 (o j), AV.int IntKind.i64 (z j), AV.int IntKind.i64 (y j)] (0 : Nat)) (fun j => intC [AV.int IntKind.i64 (k j), AV.int IntKind.i64 (o j), AV.int IntKind.i64 (z j), AV.int IntKind.i64 (y j)] (1 : Nat))
          (fun j => intC [AV.int IntKind.i64 (k j), AV.int IntKind.i64 (o j), AV.int IntKind.i64 (z j), AV.int IntKind.i64 (y j)] (2 : Nat)) (fun j => intC [AV.int IntKind.i64 (k j), AV.int IntKind.i64 (o j), AV.int IntKind.i64 (z j), AV.int IntKind.i64 (y j)] (3 : Nat)) len cap (0 : Nat) SS.a (0 : Nat) (0 : Nat) (0 : Nat) (0 : Nat) (fun x => (0 : Int)) (fun x => (0 : Int)) (0 : Int) (0 : Nat)
          (0 : Nat) (0 : Nat) (0 : Nat) (0 : Nat) (fun x => (0 : Int)) (fun x => (0 : Int)) (0 : Nat) (0 : Nat)))
      (T.ite
        (decide
          (cnt (fun j => intC [AV.int IntKind.i64 (k j), AV.int IntKind.i64 (o j), AV.int IntKind.i64 (z j), AV.int IntKind.i64 (y j)] (0 : Nat))
              (SO.N
                (SO.mk (fun j => intC [AV.int IntKind.i64 (k j), AV.int IntKind.i64 (o j), AV.int IntKind.i64 (z j), AV.int IntKind.i64 (y j)] (0 : Nat)) (fun j => intC [AV.int IntKind.i64 (k j), AV.int IntKind.i64 (o j), AV.int IntKind.i64 (z j), AV.int IntKind.i64 (y j)] (1 : Nat))
                  (fun j => intC [AV.int IntKind.i64 (k j), AV.int IntKind.i64 (o j), AV.int IntKind.i64 (z j), AV.int IntKind.i64 (y j)] (2 : Nat)) (fun j => intC [AV.int IntKind.i64 (k j), AV.int IntKind.i64 (o j), AV.int IntKind.i64 (z j), AV.int IntKind.i64 (y j)] (3 : Nat)) len cap (0 : Nat) SS.a (0 : Nat) (0 : Nat) (0 : Nat) (0 : Nat) (fun x => (0 : Int)) (fun x => (0 : Int)) (0 : Int)
                  (0 : Nat) (0 : Nat) (0 : Nat) (0 : Nat) (0 : Nat) (fun x => (0 : Int)) (fun x => (0 : Int)) (0 : Nat) (0 : Nat))) =
            (0 : Nat)))
        (T.chk true (@T.chk AV true (T.ret (AV.bool true))))
        (T.all fun c =>
          T.asm
            (decide
              (cnt (fun j => intC [AV.int IntKind.i64 (k j), AV.int IntKind.i64 (o j), AV.int IntKind.i64 (z j), AV.int IntKind.i64 (y j)] (0 : Nat))
                  (SO.N
                    (SO.mk (fun j => intC [AV.int IntKind.i64 (k j), AV.int IntKind.i64 (o j), AV.int IntKind.i64 (z j), AV.int IntKind.i64 (y j)] (0 : Nat)) (fun j => intC [AV.int IntKind.i64 (k j), AV.int IntKind.i64 (o j), AV.int IntKind.i64 (z j), AV.int IntKind.i64 (y j)] (1 : Nat))
                      (fun j => intC [AV.int IntKind.i64 (k j), AV.int IntKind.i64 (o j), AV.int IntKind.i64 (z j), AV.int IntKind.i64 (y j)] (2 : Nat)) (fun j => intC [AV.int IntKind.i64 (k j), AV.int IntKind.i64 (o j), AV.int IntKind.i64 (z j), AV.int IntKind.i64 (y j)] (3 : Nat)) len cap (0 : Nat) SS.a (0 : Nat) (0 : Nat) (0 : Nat) (0 : Nat) (fun x => (0 : Int)) (fun x => (0 : Int)) (0 : Int)
                      (0 : Nat) (0 : Nat) (0 : Nat) (0 : Nat) (0 : Nat) (fun x => (0 : Int)) (fun x => (0 : Int)) (0 : Nat) (0 : Nat))) ≤
                c))
            (T.all fun c_1 =>
              T.asm
                (decide
                  (c_1 ≤
                    cnt (fun j => intC [AV.int IntKind.i64 (k j), AV.int IntKind.i64 (o j), AV.int IntKind.i64 (z j), AV.int IntKind.i64 (y j)] (0 : Nat))
                      (SO.N
                        (SO.mk (fun j => intC [AV.int IntKind.i64 (k j), AV.int IntKind.i64 (o j), AV.int IntKind.i64 (z j), AV.int IntKind.i64 (y j)] (0 : Nat)) (fun j => intC [AV.int IntKind.i64 (k j), AV.int IntKind.i64 (o j), AV.int IntKind.i64 (z j), AV.int IntKind.i64 (y j)] (1 : Nat))
                          (fun j => intC [AV.int IntKind.i64 (k j), AV.int IntKind.i64 (o j), AV.int IntKind.i64 (z j), AV.int IntKind.i64 (y j)] (2 : Nat)) (fun j => intC [AV.int IntKind.i64 (k j), AV.int IntKind.i64 (o j), AV.int IntKind.i64 (z j), AV.int IntKind.i64 (y j)] (3 : Nat)) len cap (0 : Nat) SS.a (0 : Nat) (0 : Nat) (0 : Nat) (0 : Nat) (fun x => (0 : Int)) (fun x => (0 : Int)) (0 : Int)
                          (0 : Nat) (0 : Nat) (0 : Nat) (0 : Nat) (0 : Nat) (fun x => (0 : Int)) (fun x => (0 : Int)) (0 : Nat) (0 : Nat)))))
                (T.ite (decide (c_1 = (0 : Nat)))
                  (T.chk true
                    (T.need
                      (PairRow
                        (Blk.mk true [] (2 : Nat) c
                          (fun j =>
                            [AV.int IntKind.i64
                                (aZ
                                  (SO.tz
                                    (SO.mk (fun j => intC [AV.int IntKind.i64 (k j), AV.int IntKind.i64 (o j), AV.int IntKind.i64 (z j), AV.int IntKind.i64 (y j)] (0 : Nat)) (fun j => intC [AV.int IntKind.i64 (k j), AV.int IntKind.i64 (o j), AV.int IntKind.i64 (z j), AV.int IntKind.i64 (y j)] (1 : Nat))
                                      (fun j => intC [AV.int IntKind.i64 (k j), AV.int IntKind.i64 (o j), AV.int IntKind.i64 (z j), AV.int IntKind.i64 (y j)] (2 : Nat)) (fun j => intC [AV.int IntKind.i64 (k j), AV.int IntKind.i64 (o j), AV.int IntKind.i64 (z j), AV.int IntKind.i64 (y j)] (3 : Nat)) len cap (0 : Nat) SS.a (0 : Nat) (0 : Nat) (0 : Nat) (0 : Nat) (fun x => (0 : Int))
                                      (fun x => (0 : Int)) (0 : Int) (0 : Nat) (0 : Nat) (0 : Nat) (0 : Nat) (0 : Nat) (fun x => (0 : Int)) (fun x => (0 : Int)) (0 : Nat) (0 : Nat)))
                                  (cnt (fun j => intC [AV.int IntKind.i64 (k j), AV.int IntKind.i64 (o j), AV.int IntKind.i64 (z j), AV.int IntKind.i64 (y j)] (0 : Nat))
                                    (SO.N
                                      (SO.mk (fun j => intC [AV.int IntKind.i64 (k j), AV.int IntKind.i64 (o j), AV.int IntKind.i64 (z j), AV.int IntKind.i64 (y j)] (0 : Nat)) (fun j => intC [AV.int IntKind.i64 (k j), AV.int IntKind.i64 (o j), AV.int IntKind.i64 (z j), AV.int IntKind.i64 (y j)] (1 : Nat))
                                        (fun j => intC [AV.int IntKind.i64 (k j), AV.int IntKind.i64 (o j), AV.int IntKind.i64 (z j), AV.int IntKind.i64 (y j)] (2 : Nat)) (fun j => intC [AV.int IntKind.i64 (k j), AV.int IntKind.i64 (o j), AV.int IntKind.i64 (z j), AV.int IntKind.i64 (y j)] (3 : Nat)) len cap (0 : Nat) SS.a (0 : Nat) (0 : Nat) (0 : Nat) (0 : Nat) (fun x => (0 : Int))
                                        (fun x => (0 : Int)) (0 : Int) (0 : Nat) (0 : Nat) (0 : Nat) (0 : Nat) (0 : Nat) (fun x => (0 : Int)) (fun x => (0 : Int)) (0 : Nat) (0 : Nat))))
                                  j),
                              AV.int IntKind.i64
                                (aZ
                                  (SO.ty
                                    (SO.mk (fun j => intC [AV.int IntKind.i64 (k j), AV.int IntKind.i64 (o j), AV.int IntKind.i64 (z j), AV.int IntKind.i64 (y j)] (0 : Nat)) (fun j => intC [AV.int IntKind.i64 (k j), AV.int IntKind.i64 (o j), AV.int IntKind.i64 (z j), AV.int IntKind.i64 (y j)] (1 : Nat))
                                      (fun j => intC [AV.int IntKind.i64 (k j), AV.int IntKind.i64 (o j), AV.int IntKind.i64 (z j), AV.int IntKind.i64 (y j)] (2 : Nat)) (fun j => intC [AV.int IntKind.i64 (k j), AV.int IntKind.i64 (o j), AV.int IntKind.i64 (z j), AV.int IntKind.i64 (y j)] (3 : Nat)) len cap (0 : Nat) SS.a (0 : Nat) (0 : Nat) (0 : Nat) (0 : Nat) (fun x => (0 : Int))
                                      (fun x => (0 : Int)) (0 : Int) (0 : Nat) (0 : Nat) (0 : Nat) (0 : Nat) (0 : Nat) (fun x => (0 : Int)) (fun x => (0 : Int)) (0 : Nat) (0 : Nat)))
                                  (cnt (fun j => intC [AV.int IntKind.i64 (k j), AV.int IntKind.i64 (o j), AV.int IntKind.i64 (z j), AV.int IntKind.i64 (y j)] (0 : Nat))
                                    (SO.N
                                      (SO.mk (fun j => intC [AV.int IntKind.i64 (k j), AV.int IntKind.i64 (o j), AV.int IntKind.i64 (z j), AV.int IntKind.i64 (y j)] (0 : Nat)) (fun j => intC [AV.int IntKind.i64 (k j), AV.int IntKind.i64 (o j), AV.int IntKind.i64 (z j), AV.int IntKind.i64 (y j)] (1 : Nat))
                                        (fun j => intC [AV.int IntKind.i64 (k j), AV.int IntKind.i64 (o j), AV.int IntKind.i64 (z j), AV.int IntKind.i64 (y j)] (2 : Nat)) (fun j => intC [AV.int IntKind.i64 (k j), AV.int IntKind.i64 (o j), AV.int IntKind.i64 (z j), AV.int IntKind.i64 (y j)] (3 : Nat)) len cap (0 : Nat) SS.a (0 : Nat) (0 : Nat) (0 : Nat) (0 : Nat) (fun x => (0 : Int))
                                        (fun x => (0 : Int)) (0 : Int) (0 : Nat) (0 : Nat) (0 : Nat) (0 : Nat) (0 : Nat) (fun x => (0 : Int)) (fun x => (0 : Int)) (0 : Nat) (0 : Nat))))
                                  j)])
                          [] none))
                      (T.chk true (@T.chk AV true (T.ret (AV.bool true))))))
                  (T.all fun c_2 =>
                    T.asm (decide (c_1 ≤ c_2))
                      (T.chk (decide ((0 : Int) ≤ (↑c_1 : Int)) && decide ((↑c_1 : Int) ≤ (↑c : Int)))
                        (T.need
                          (PairRow
                            (Blk.mk true [] (2 : Nat) c_2
                              (fun j =>
                                [AV.int IntKind.i64
                                    (aZ
                                      (SO.tz
                                        (SO.mk (fun j => intC [AV.int IntKind.i64 (k j), AV.int IntKind.i64 (o j), AV.int IntKind.i64 (z j), AV.int IntKind.i64 (y j)] (0 : Nat)) (fun j => intC [AV.int IntKind.i64 (k j), AV.int IntKind.i64 (o j), AV.int IntKind.i64 (z j), AV.int IntKind.i64 (y j)] (1 : Nat))
                                          (fun j => intC [AV.int IntKind.i64 (k j), AV.int IntKind.i64 (o j), AV.int IntKind.i64 (z j), AV.int IntKind.i64 (y j)] (2 : Nat)) (fun j => intC [AV.int IntKind.i64 (k j), AV.int IntKind.i64 (o j), AV.int IntKind.i64 (z j), AV.int IntKind.i64 (y j)] (3 : Nat)) len cap (0 : Nat) SS.a (0 : Nat) (0 : Nat) (0 : Nat) (0 : Nat) (fun x => (0 : Int))
                                          (fun x => (0 : Int)) (0 : Int) (0 : Nat) (0 : Nat) (0 : Nat) (0 : Nat) (0 : Nat) (fun x => (0 : Int)) (fun x => (0 : Int)) (0 : Nat) (0 : Nat)))
                                      c_1 j),
                                  AV.int IntKind.i64
                                    (aZ
                                      (SO.ty
                                        (SO.mk (fun j => intC [AV.int IntKind.i64 (k j), AV.int IntKind.i64 (o j), AV.int IntKind.i64 (z j), AV.int IntKind.i64 (y j)] (0 : Nat)) (fun j => intC [AV.int IntKind.i64 (k j), AV.int IntKind.i64 (o j), AV.int IntKind.i64 (z j), AV.int IntKind.i64 (y j)] (1 : Nat))
                                          (fun j => intC [AV.int IntKind.i64 (k j), AV.int IntKind.i64 (o j), AV.int IntKind.i64 (z j), AV.int IntKind.i64 (y j)] (2 : Nat)) (fun j => intC [AV.int IntKind.i64 (k j), AV.int IntKind.i64 (o j), AV.int IntKind.i64 (z j), AV.int IntKind.i64 (y j)] (3 : Nat)) len cap (0 : Nat) SS.a (0 : Nat) (0 : Nat) (0 : Nat) (0 : Nat) (fun x => (0 : Int))
                                          (fun x => (0 : Int)) (0 : Int) (0 : Nat) (0 : Nat) (0 : Nat) (0 : Nat) (0 : Nat) (fun x => (0 : Int)) (fun x => (0 : Int)) (0 : Nat) (0 : Nat)))
                                      c_1 j)])
                              [] none))
                          (T.need
                            (PairRow
                              (Blk.mk true [] (2 : Nat) c
                                (fun j =>
                                  [AV.int IntKind.i64
                                      (aZ
                                        (SO.tz
                                          (SO.mk (fun j => intC [AV.int IntKind.i64 (k j), AV.int IntKind.i64 (o j), AV.int IntKind.i64 (z j), AV.int IntKind.i64 (y j)] (0 : Nat)) (fun j => intC [AV.int IntKind.i64 (k j), AV.int IntKind.i64 (o j), AV.int IntKind.i64 (z j), AV.int IntKind.i64 (y j)] (1 : Nat))
                                            (fun j => intC [AV.int IntKind.i64 (k j), AV.int IntKind.i64 (o j), AV.int IntKind.i64 (z j), AV.int IntKind.i64 (y j)] (2 : Nat)) (fun j => intC [AV.int IntKind.i64 (k j), AV.int IntKind.i64 (o j), AV.int IntKind.i64 (z j), AV.int IntKind.i64 (y j)] (3 : Nat)) len cap (0 : Nat) SS.a (0 : Nat) (0 : Nat) (0 : Nat) (0 : Nat) (fun x => (0 : Int))
                                            (fun x => (0 : Int)) (0 : Int) (0 : Nat) (0 : Nat) (0 : Nat) (0 : Nat) (0 : Nat) (fun x => (0 : Int)) (fun x => (0 : Int)) (0 : Nat) (0 : Nat)))
                                        (cnt (fun j => intC [AV.int IntKind.i64 (k j), AV.int IntKind.i64 (o j), AV.int IntKind.i64 (z j), AV.int IntKind.i64 (y j)] (0 : Nat))
                                          (SO.N
                                            (SO.mk (fun j => intC [AV.int IntKind.i64 (k j), AV.int IntKind.i64 (o j), AV.int IntKind.i64 (z j), AV.int IntKind.i64 (y j)] (0 : Nat)) (fun j => intC [AV.int IntKind.i64 (k j), AV.int IntKind.i64 (o j), AV.int IntKind.i64 (z j), AV.int IntKind.i64 (y j)] (1 : Nat))
                                              (fun j => intC [AV.int IntKind.i64 (k j), AV.int IntKind.i64 (o j), AV.int IntKind.i64 (z j), AV.int IntKind.i64 (y j)] (2 : Nat)) (fun j => intC [AV.int IntKind.i64 (k j), AV.int IntKind.i64 (o j), AV.int IntKind.i64 (z j), AV.int IntKind.i64 (y j)] (3 : Nat)) len cap (0 : Nat) SS.a (0 : Nat) (0 : Nat) (0 : Nat) (0 : Nat) (fun x => (0 : Int))
                                              (fun x => (0 : Int)) (0 : Int) (0 : Nat) (0 : Nat) (0 : Nat) (0 : Nat) (0 : Nat) (fun x => (0 : Int)) (fun x => (0 : Int)) (0 : Nat) (0 : Nat))))
                                        j),
                                    AV.int IntKind.i64
                                      (aZ
                                        (SO.ty
                                          (SO.mk (fun j => intC [AV.int IntKind.i64 (k j), AV.int IntKind.i64 (o j), AV.int IntKind.i64 (z j), AV.int IntKind.i64 (y j)] (0 : Nat)) (fun j => intC [AV.int IntKind.i64 (k j), AV.int IntKind.i64 (o j), AV.int IntKind.i64 (z j), AV.int IntKind.i64 (y j)] (1 : Nat))
                                            (fun j => intC [AV.int IntKind.i64 (k j), AV.int IntKind.i64 (o j), AV.int IntKind.i64 (z j), AV.int IntKind.i64 (y j)] (2 : Nat)) (fun j => intC [AV.int IntKind.i64 (k j), AV.int IntKind.i64 (o j), AV.int IntKind.i64 (z j), AV.int IntKind.i64 (y j)] (3 : Nat)) len cap (0 : Nat) SS.a (0 : Nat) (0 : Nat) (0 : Nat) (0 : Nat) (fun x => (0 : Int))
                                            (fun x => (0 : Int)) (0 : Int) (0 : Nat) (0 : Nat) (0 : Nat) (0 : Nat) (0 : Nat) (fun x => (0 : Int)) (fun x => (0 : Int)) (0 : Nat) (0 : Nat)))
                                        (cnt (fun j => intC [AV.int IntKind.i64 (k j), AV.int IntKind.i64 (o j), AV.int IntKind.i64 (z j), AV.int IntKind.i64 (y j)] (0 : Nat))
                                          (SO.N
                                            (SO.mk (fun j => intC [AV.int IntKind.i64 (k j), AV.int IntKind.i64 (o j), AV.int IntKind.i64 (z j), AV.int IntKind.i64 (y j)] (0 : Nat)) (fun j => intC [AV.int IntKind.i64 (k j), AV.int IntKind.i64 (o j), AV.int IntKind.i64 (z j), AV.int IntKind.i64 (y j)] (1 : Nat))
                                              (fun j => intC [AV.int IntKind.i64 (k j), AV.int IntKind.i64 (o j), AV.int IntKind.i64 (z j), AV.int IntKind.i64 (y j)] (2 : Nat)) (fun j => intC [AV.int IntKind.i64 (k j), AV.int IntKind.i64 (o j), AV.int IntKind.i64 (z j), AV.int IntKind.i64 (y j)] (3 : Nat)) len cap (0 : Nat) SS.a (0 : Nat) (0 : Nat) (0 : Nat) (0 : Nat) (fun x => (0 : Int))
                                              (fun x => (0 : Int)) (0 : Int) (0 : Nat) (0 : Nat) (0 : Nat) (0 : Nat) (0 : Nat) (fun x => (0 : Int)) (fun x => (0 : Int)) (0 : Nat) (0 : Nat))))
                                        j)])
                                [] none))
                            (T.chk (decide ((0 : Nat) + c_1 ≤ c_2))
                              (T.chk (decide ((0 : Nat) + c_1 ≤ c))
                                (T.chk (decide (c_1 ≤ (4611686018427387904 : Nat)))
                                  (T.chk (decide (c_1 = Int.toNat (↑c_1 : Int)))
                                    (T.need
                                      (PairEq
                                        (Blk.mk true [] (2 : Nat) c_2
                                          (fun j =>
                                            [AV.int IntKind.i64
                                                (aZ
                                                  (SO.tz
                                                    (SO.mk (fun j => intC [AV.int IntKind.i64 (k j), AV.int IntKind.i64 (o j), AV.int IntKind.i64 (z j), AV.int IntKind.i64 (y j)] (0 : Nat)) (fun j => intC [AV.int IntKind.i64 (k j), AV.int IntKind.i64 (o j), AV.int IntKind.i64 (z j), AV.int IntKind.i64 (y j)] (1 : Nat))
                                                      (fun j => intC [AV.int IntKind.i64 (k j), AV.int IntKind.i64 (o j), AV.int IntKind.i64 (z j), AV.int IntKind.i64 (y j)] (2 : Nat)) (fun j => intC [AV.int IntKind.i64 (k j), AV.int IntKind.i64 (o j), AV.int IntKind.i64 (z j), AV.int IntKind.i64 (y j)] (3 : Nat)) len cap (0 : Nat) SS.a (0 : Nat) (0 : Nat) (0 : Nat) (0 : Nat) (fun x => (0 : Int))
                                                      (fun x => (0 : Int)) (0 : Int) (0 : Nat) (0 : Nat) (0 : Nat) (0 : Nat) (0 : Nat) (fun x => (0 : Int)) (fun x => (0 : Int)) (0 : Nat) (0 : Nat)))
                                                  c_1 j),
                                              AV.int IntKind.i64
                                                (aZ
                                                  (SO.ty
                                                    (SO.mk (fun j => intC [AV.int IntKind.i64 (k j), AV.int IntKind.i64 (o j), AV.int IntKind.i64 (z j), AV.int IntKind.i64 (y j)] (0 : Nat)) (fun j => intC [AV.int IntKind.i64 (k j), AV.int IntKind.i64 (o j), AV.int IntKind.i64 (z j), AV.int IntKind.i64 (y j)] (1 : Nat))
                                                      (fun j => intC [AV.int IntKind.i64 (k j), AV.int IntKind.i64 (o j), AV.int IntKind.i64 (z j), AV.int IntKind.i64 (y j)] (2 : Nat)) (fun j => intC [AV.int IntKind.i64 (k j), AV.int IntKind.i64 (o j), AV.int IntKind.i64 (z j), AV.int IntKind.i64 (y j)] (3 : Nat)) len cap (0 : Nat) SS.a (0 : Nat) (0 : Nat) (0 : Nat) (0 : Nat) (fun x => (0 : Int))
                                                      (fun x => (0 : Int)) (0 : Int) (0 : Nat) (0 : Nat) (0 : Nat) (0 : Nat) (0 : Nat) (fun x => (0 : Int)) (fun x => (0 : Int)) (0 : Nat) (0 : Nat)))
                                                  c_1 j)])
                                          [] none)
                                        (0 : Nat)
                                        (Blk.mk true [] (2 : Nat) c
                                          (fun j =>
                                            [AV.int IntKind.i64
                                                (aZ
                                                  (SO.tz
                                                    (SO.mk (fun j => intC [AV.int IntKind.i64 (k j), AV.int IntKind.i64 (o j), AV.int IntKind.i64 (z j), AV.int IntKind.i64 (y j)] (0 : Nat)) (fun j => intC [AV.int IntKind.i64 (k j), AV.int IntKind.i64 (o j), AV.int IntKind.i64 (z j), AV.int IntKind.i64 (y j)] (1 : Nat))
                                                      (fun j => intC [AV.int IntKind.i64 (k j), AV.int IntKind.i64 (o j), AV.int IntKind.i64 (z j), AV.int IntKind.i64 (y j)] (2 : Nat)) (fun j => intC [AV.int IntKind.i64 (k j), AV.int IntKind.i64 (o j), AV.int IntKind.i64 (z j), AV.int IntKind.i64 (y j)] (3 : Nat)) len cap (0 : Nat) SS.a (0 : Nat) (0 : Nat) (0 : Nat) (0 : Nat) (fun x => (0 : Int))
                                                      (fun x => (0 : Int)) (0 : Int) (0 : Nat) (0 : Nat) (0 : Nat) (0 : Nat) (0 : Nat) (fun x => (0 : Int)) (fun x => (0 : Int)) (0 : Nat) (0 : Nat)))
                                                  (cnt (fun j => intC [AV.int IntKind.i64 (k j), AV.int IntKind.i64 (o j), AV.int IntKind.i64 (z j), AV.int IntKind.i64 (y j)] (0 : Nat))
                                                    (SO.N
                                                      (SO.mk (fun j => intC [AV.int IntKind.i64 (k j), AV.int IntKind.i64 (o j), AV.int IntKind.i64 (z j), AV.int IntKind.i64 (y j)] (0 : Nat)) (fun j => intC [AV.int IntKind.i64 (k j), AV.int IntKind.i64 (o j), AV.int IntKind.i64 (z j), AV.int IntKind.i64 (y j)] (1 : Nat))
                                                        (fun j => intC [AV.int IntKind.i64 (k j), AV.int IntKind.i64 (o j), AV.int IntKind.i64 (z j), AV.int IntKind.i64 (y j)] (2 : Nat)) (fun j => intC [AV.int IntKind.i64 (k j), AV.int IntKind.i64 (o j), AV.int IntKind.i64 (z j), AV.int IntKind.i64 (y j)] (3 : Nat)) len cap (0 : Nat) SS.a (0 : Nat) (0 : Nat) (0 : Nat) (0 : Nat) (fun x => (0 : Int))
                                                        (fun x => (0 : Int)) (0 : Int) (0 : Nat) (0 : Nat) (0 : Nat) (0 : Nat) (0 : Nat) (fun x => (0 : Int)) (fun x => (0 : Int)) (0 : Nat) (0 : Nat))))
                                                  j),
                                              AV.int IntKind.i64
                                                (aZ
                                                  (SO.ty
                                                    (SO.mk (fun j => intC [AV.int IntKind.i64 (k j), AV.int IntKind.i64 (o j), AV.int IntKind.i64 (z j), AV.int IntKind.i64 (y j)] (0 : Nat)) (fun j => intC [AV.int IntKind.i64 (k j), AV.int IntKind.i64 (o j), AV.int IntKind.i64 (z j), AV.int IntKind.i64 (y j)] (1 : Nat))
                                                      (fun j => intC [AV.int IntKind.i64 (k j), AV.int IntKind.i64 (o j), AV.int IntKind.i64 (z j), AV.int IntKind.i64 (y j)] (2 : Nat)) (fun j => intC [AV.int IntKind.i64 (k j), AV.int IntKind.i64 (o j), AV.int IntKind.i64 (z j), AV.int IntKind.i64 (y j)] (3 : Nat)) len cap (0 : Nat) SS.a (0 : Nat) (0 : Nat) (0 : Nat) (0 : Nat) (fun x => (0 : Int))
                                                      (fun x => (0 : Int)) (0 : Int) (0 : Nat) (0 : Nat) (0 : Nat) (0 : Nat) (0 : Nat) (fun x => (0 : Int)) (fun x => (0 : Int)) (0 : Nat) (0 : Nat)))
                                                  (cnt (fun j => intC [AV.int IntKind.i64 (k j), AV.int IntKind.i64 (o j), AV.int IntKind.i64 (z j), AV.int IntKind.i64 (y j)] (0 : Nat))
                                                    (SO.N
                                                      (SO.mk (fun j => intC [AV.int IntKind.i64 (k j), AV.int IntKind.i64 (o j), AV.int IntKind.i64 (z j), AV.int IntKind.i64 (y j)] (0 : Nat)) (fun j => intC [AV.int IntKind.i64 (k j), AV.int IntKind.i64 (o j), AV.int IntKind.i64 (z j), AV.int IntKind.i64 (y j)] (1 : Nat))
                                                        (fun j => intC [AV.int IntKind.i64 (k j), AV.int IntKind.i64 (o j), AV.int IntKind.i64 (z j), AV.int IntKind.i64 (y j)] (2 : Nat)) (fun j => intC [AV.int IntKind.i64 (k j), AV.int IntKind.i64 (o j), AV.int IntKind.i64 (z j), AV.int IntKind.i64 (y j)] (3 : Nat)) len cap (0 : Nat) SS.a (0 : Nat) (0 : Nat) (0 : Nat) (0 : Nat) (fun x => (0 : Int))
                                                        (fun x => (0 : Int)) (0 : Int) (0 : Nat) (0 : Nat) (0 : Nat) (0 : Nat) (0 : Nat) (fun x => (0 : Int)) (fun x => (0 : Int)) (0 : Nat) (0 : Nat))))
                                                  j)])
                                          [] none)
                                        (0 : Nat) c_1)
                                      (@T.chk AV true (T.ret (AV.bool true))))))))))))))))) := by
  kernel_rfl

theorem so_fnN : T.cut ((afn Try.prog soN Try.f4 (codeOf Try.f4) [.nils] []).bind fun r => .ret r.1) [0, 1] = 
  @T.chk AV true (T.chk true (@T.chk AV true (T.ret (AV.bool true)))) := by
  kernel_rfl

end Go.Proofs.Ythfgojdpnbpjbaa
