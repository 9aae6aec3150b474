/-
  Layer 15: Plays: trees.
-/
import Derived.Test.YtemgmcchepmicaaHPd
namespace Go.Proofs.Ytemgmcchepmicaa
open Go.Ox

set_option maxRecDepth 100000
set_option maxHeartbeats 16000000
set_option linter.unusedVariables false
set_option linter.unusedSimpArgs false

theorem pl_a00 (x : FD) (kd ar nn : Nat → Int) (len cap i : Nat) (N : Int) (n0 s0 c0 b0 : Nat) (f0 : Nat → Int) (d0 e0 : Nat) (g0 : Nat → Int) (n1 s1 c1 b1 : Nat) (f1 : Nat → Int) (d1 e1 : Nat) (g1 : Nat → Int) : T.cut (keepT [1, 5, 7, 9] (acodeL Try.prog plE ((chainOf plC).take 2) (plSt ⟨x, kd, ar, nn, len, cap, N, i, ⟨false, n0, s0, c0, b0, f0, d0, e0, g0⟩, ⟨false, n1, s1, c1, b1, f1, d1, e1, g1⟩⟩))) [2, 2, 2, 0] = 
  T.ite (decide ((↑i : Int) < (↑len : Int)))
    (T.ite (decide ((↑i : Int) < (100 : Int)))
      (T.ret
        (Ex.norm,
          St.mk [((1 : Nat), AV.sl (1 : Nat) (0 : Nat) (4 : Nat) (0 : Nat) len cap), ((5 : Nat), AV.ptr (2 : Nat) (0 : Nat) (0 : Nat) (0 : Nat)), ((7 : Nat), AV.ptr (3 : Nat) (0 : Nat) (0 : Nat) (0 : Nat)), ((9 : Nat), AV.int IntKind.i64 (↑i : Int))]
            [some (Blk.mk false [] (0 : Nat) (0 : Nat) (fun x => []) [] (some fun js => Mem.mk (FD.nl x js) (FD.ad x js) (FD.ln x js) (FD.cp x js) (1 : Nat) fun q => [AV.int IntKind.u8 (FD.z x (q :: js))])), some (Blk.mk false [] (4 : Nat) cap (fun r => [AV.int IntKind.i64 (kd r), AV.int IntKind.i64 (ar r), AV.int IntKind.i64 (nn r), AV.part (0 : Nat) [r]]) [] none),
              some (Blk.mk true [AV.nils, AV.int IntKind.i64 (0 : Int), AV.nils, AV.int IntKind.i64 (0 : Int), AV.int IntKind.i64 N] (0 : Nat) (0 : Nat) (fun x => []) [] none), some (Blk.mk true [AV.int IntKind.i64 N, AV.nils, AV.nils, AV.int IntKind.i64 (0 : Int), AV.int IntKind.i64 (0 : Int)] (0 : Nat) (0 : Nat) (fun x => []) [] none)]))
      (T.ret
        (Ex.exit (0 : Nat),
          St.mk [((1 : Nat), AV.sl (1 : Nat) (0 : Nat) (4 : Nat) (0 : Nat) len cap), ((5 : Nat), AV.ptr (2 : Nat) (0 : Nat) (0 : Nat) (0 : Nat)), ((7 : Nat), AV.ptr (3 : Nat) (0 : Nat) (0 : Nat) (0 : Nat)), ((9 : Nat), AV.int IntKind.i64 (↑i : Int))]
            [some (Blk.mk false [] (0 : Nat) (0 : Nat) (fun x => []) [] (some fun js => Mem.mk (FD.nl x js) (FD.ad x js) (FD.ln x js) (FD.cp x js) (1 : Nat) fun q => [AV.int IntKind.u8 (FD.z x (q :: js))])), some (Blk.mk false [] (4 : Nat) cap (fun r => [AV.int IntKind.i64 (kd r), AV.int IntKind.i64 (ar r), AV.int IntKind.i64 (nn r), AV.part (0 : Nat) [r]]) [] none),
              some (Blk.mk true [AV.nils, AV.int IntKind.i64 (0 : Int), AV.nils, AV.int IntKind.i64 (0 : Int), AV.int IntKind.i64 N] (0 : Nat) (0 : Nat) (fun x => []) [] none), some (Blk.mk true [AV.int IntKind.i64 N, AV.nils, AV.nils, AV.int IntKind.i64 (0 : Int), AV.int IntKind.i64 (0 : Int)] (0 : Nat) (0 : Nat) (fun x => []) [] none)])))
    (T.ret
      (Ex.exit (0 : Nat),
        St.mk [((1 : Nat), AV.sl (1 : Nat) (0 : Nat) (4 : Nat) (0 : Nat) len cap), ((5 : Nat), AV.ptr (2 : Nat) (0 : Nat) (0 : Nat) (0 : Nat)), ((7 : Nat), AV.ptr (3 : Nat) (0 : Nat) (0 : Nat) (0 : Nat)), ((9 : Nat), AV.int IntKind.i64 (↑i : Int))]
          [some (Blk.mk false [] (0 : Nat) (0 : Nat) (fun x => []) [] (some fun js => Mem.mk (FD.nl x js) (FD.ad x js) (FD.ln x js) (FD.cp x js) (1 : Nat) fun q => [AV.int IntKind.u8 (FD.z x (q :: js))])), some (Blk.mk false [] (4 : Nat) cap (fun r => [AV.int IntKind.i64 (kd r), AV.int IntKind.i64 (ar r), AV.int IntKind.i64 (nn r), AV.part (0 : Nat) [r]]) [] none),
            some (Blk.mk true [AV.nils, AV.int IntKind.i64 (0 : Int), AV.nils, AV.int IntKind.i64 (0 : Int), AV.int IntKind.i64 N] (0 : Nat) (0 : Nat) (fun x => []) [] none), some (Blk.mk true [AV.int IntKind.i64 N, AV.nils, AV.nils, AV.int IntKind.i64 (0 : Int), AV.int IntKind.i64 (0 : Int)] (0 : Nat) (0 : Nat) (fun x => []) [] none)])) := by
  kernel_rfl

theorem pl_b00 (x : FD) (kd ar nn : Nat → Int) (len cap i : Nat) (N : Int) (n0 s0 c0 b0 : Nat) (f0 : Nat → Int) (d0 e0 : Nat) (g0 : Nat → Int) (n1 s1 c1 b1 : Nat) (f1 : Nat → Int) (d1 e1 : Nat) (g1 : Nat → Int) : T.cut (keepT [1, 4, 5, 7, 9, 10] (acodeL Try.prog plE ((chainOf plD).take 3) (plSt ⟨x, kd, ar, nn, len, cap, N, i, ⟨false, n0, s0, c0, b0, f0, d0, e0, g0⟩, ⟨false, n1, s1, c1, b1, f1, d1, e1, g1⟩⟩))) [2, 1, 0, 2, 0] = 
  T.chk (decide ((0 : Int) ≤ (↑i : Int)) && decide ((↑i : Int) < (↑len : Int)))
    (T.chk (decide ((0 : Nat) + Int.toNat (↑i : Int) < cap))
      (T.chk (decide ((0 : Nat) + Int.toNat (↑i : Int) < cap))
        (T.chk (decide ((0 : Nat) + Int.toNat (↑i : Int) < cap))
          (T.chk (decide ((0 : Nat) + Int.toNat (↑i : Int) < cap))
            (T.ite (FD.nl x [(0 : Nat) + Int.toNat (↑i : Int)])
              (@T.chk (Ex × St) true
                (T.ret
                  (Ex.norm,
                    St.mk [((1 : Nat), AV.sl (1 : Nat) (0 : Nat) (4 : Nat) (0 : Nat) len cap), ((5 : Nat), AV.ptr (2 : Nat) (0 : Nat) (0 : Nat) (0 : Nat)), ((7 : Nat), AV.ptr (3 : Nat) (0 : Nat) (0 : Nat) (0 : Nat)), ((9 : Nat), AV.int IntKind.i64 (↑i : Int)), ((10 : Nat), AV.ptr (4 : Nat) (0 : Nat) (0 : Nat) (0 : Nat))]
                      [some (Blk.mk false [] (0 : Nat) (0 : Nat) (fun x => []) [] (some fun js => Mem.mk (FD.nl x js) (FD.ad x js) (FD.ln x js) (FD.cp x js) (1 : Nat) fun q => [AV.int IntKind.u8 (FD.z x (q :: js))])), some (Blk.mk false [] (4 : Nat) cap (fun r => [AV.int IntKind.i64 (kd r), AV.int IntKind.i64 (ar r), AV.int IntKind.i64 (nn r), AV.part (0 : Nat) [r]]) [] none),
                        some (Blk.mk true [AV.nils, AV.int IntKind.i64 (0 : Int), AV.nils, AV.int IntKind.i64 (0 : Int), AV.int IntKind.i64 N] (0 : Nat) (0 : Nat) (fun x => []) [] none), some (Blk.mk true [AV.int IntKind.i64 N, AV.nils, AV.nils, AV.int IntKind.i64 (0 : Int), AV.int IntKind.i64 (0 : Int)] (0 : Nat) (0 : Nat) (fun x => []) [] none),
                        some (Blk.mk true [AV.int IntKind.i64 (kd ((0 : Nat) + Int.toNat (↑i : Int))), AV.int IntKind.i64 (ar ((0 : Nat) + Int.toNat (↑i : Int))), AV.int IntKind.i64 (nn ((0 : Nat) + Int.toNat (↑i : Int))), AV.part (0 : Nat) [(0 : Nat) + Int.toNat (↑i : Int)]] (0 : Nat) (0 : Nat) (fun a => []) [] none)])))
              (T.ite (decide ((↑(FD.ln x [(0 : Nat) + Int.toNat (↑i : Int)]) : Int) > (4096 : Int)))
                (T.ret
                  (Ex.ret,
                    St.mk [((1 : Nat), AV.sl (1 : Nat) (0 : Nat) (4 : Nat) (0 : Nat) len cap), ((4 : Nat), AV.bool true), ((5 : Nat), AV.ptr (2 : Nat) (0 : Nat) (0 : Nat) (0 : Nat)), ((7 : Nat), AV.ptr (3 : Nat) (0 : Nat) (0 : Nat) (0 : Nat)), ((9 : Nat), AV.int IntKind.i64 (↑i : Int)), ((10 : Nat), AV.ptr (4 : Nat) (0 : Nat) (0 : Nat) (0 : Nat))]
                      [some (Blk.mk false [] (0 : Nat) (0 : Nat) (fun x => []) [] (some fun js => Mem.mk (FD.nl x js) (FD.ad x js) (FD.ln x js) (FD.cp x js) (1 : Nat) fun q => [AV.int IntKind.u8 (FD.z x (q :: js))])), some (Blk.mk false [] (4 : Nat) cap (fun r => [AV.int IntKind.i64 (kd r), AV.int IntKind.i64 (ar r), AV.int IntKind.i64 (nn r), AV.part (0 : Nat) [r]]) [] none),
                        some (Blk.mk true [AV.nils, AV.int IntKind.i64 (0 : Int), AV.nils, AV.int IntKind.i64 (0 : Int), AV.int IntKind.i64 N] (0 : Nat) (0 : Nat) (fun x => []) [] none), some (Blk.mk true [AV.int IntKind.i64 N, AV.nils, AV.nils, AV.int IntKind.i64 (0 : Int), AV.int IntKind.i64 (0 : Int)] (0 : Nat) (0 : Nat) (fun x => []) [] none),
                        some (Blk.mk true [AV.int IntKind.i64 (kd ((0 : Nat) + Int.toNat (↑i : Int))), AV.int IntKind.i64 (ar ((0 : Nat) + Int.toNat (↑i : Int))), AV.int IntKind.i64 (nn ((0 : Nat) + Int.toNat (↑i : Int))), AV.part (0 : Nat) [(0 : Nat) + Int.toNat (↑i : Int)]] (0 : Nat) (0 : Nat) (fun a => []) [] none),
                        some (Blk.mk false [] (1 : Nat) (FD.cp x [(0 : Nat) + Int.toNat (↑i : Int)]) (fun a => [AV.int IntKind.u8 (FD.z x [a, (0 : Nat) + Int.toNat (↑i : Int)])]) [] none)]))
                (T.ret
                  (Ex.norm,
                    St.mk [((1 : Nat), AV.sl (1 : Nat) (0 : Nat) (4 : Nat) (0 : Nat) len cap), ((5 : Nat), AV.ptr (2 : Nat) (0 : Nat) (0 : Nat) (0 : Nat)), ((7 : Nat), AV.ptr (3 : Nat) (0 : Nat) (0 : Nat) (0 : Nat)), ((9 : Nat), AV.int IntKind.i64 (↑i : Int)), ((10 : Nat), AV.ptr (4 : Nat) (0 : Nat) (0 : Nat) (0 : Nat))]
                      [some (Blk.mk false [] (0 : Nat) (0 : Nat) (fun x => []) [] (some fun js => Mem.mk (FD.nl x js) (FD.ad x js) (FD.ln x js) (FD.cp x js) (1 : Nat) fun q => [AV.int IntKind.u8 (FD.z x (q :: js))])), some (Blk.mk false [] (4 : Nat) cap (fun r => [AV.int IntKind.i64 (kd r), AV.int IntKind.i64 (ar r), AV.int IntKind.i64 (nn r), AV.part (0 : Nat) [r]]) [] none),
                        some (Blk.mk true [AV.nils, AV.int IntKind.i64 (0 : Int), AV.nils, AV.int IntKind.i64 (0 : Int), AV.int IntKind.i64 N] (0 : Nat) (0 : Nat) (fun x => []) [] none), some (Blk.mk true [AV.int IntKind.i64 N, AV.nils, AV.nils, AV.int IntKind.i64 (0 : Int), AV.int IntKind.i64 (0 : Int)] (0 : Nat) (0 : Nat) (fun x => []) [] none),
                        some (Blk.mk true [AV.int IntKind.i64 (kd ((0 : Nat) + Int.toNat (↑i : Int))), AV.int IntKind.i64 (ar ((0 : Nat) + Int.toNat (↑i : Int))), AV.int IntKind.i64 (nn ((0 : Nat) + Int.toNat (↑i : Int))), AV.part (0 : Nat) [(0 : Nat) + Int.toNat (↑i : Int)]] (0 : Nat) (0 : Nat) (fun a => []) [] none),
                        some (Blk.mk false [] (1 : Nat) (FD.cp x [(0 : Nat) + Int.toNat (↑i : Int)]) (fun a => [AV.int IntKind.u8 (FD.z x [a, (0 : Nat) + Int.toNat (↑i : Int)])]) [] none)])))))))) := by
  kernel_rfl

theorem pl_c00 (x : FD) (kd ar nn : Nat → Int) (len cap i : Nat) (N : Int) (n0 s0 c0 b0 : Nat) (f0 : Nat → Int) (d0 e0 : Nat) (g0 : Nat → Int) (n1 s1 c1 b1 : Nat) (f1 : Nat → Int) (d1 e1 : Nat) (g1 : Nat → Int) : T.cut (keepT [1, 5, 7, 9] (acodeL Try.prog plE ((chainOf plC).drop 3) (plSt ⟨x, kd, ar, nn, len, cap, N, i, ⟨false, n0, s0, c0, b0, f0, d0, e0, g0⟩, ⟨false, n1, s1, c1, b1, f1, d1, e1, g1⟩⟩))) [] = 
  T.ret
    (Ex.norm,
      St.mk [((1 : Nat), AV.sl (1 : Nat) (0 : Nat) (4 : Nat) (0 : Nat) len cap), ((5 : Nat), AV.ptr (2 : Nat) (0 : Nat) (0 : Nat) (0 : Nat)), ((7 : Nat), AV.ptr (3 : Nat) (0 : Nat) (0 : Nat) (0 : Nat)), ((9 : Nat), AV.int IntKind.i64 (IntKind.wrap IntKind.i64 ((↑i : Int) + (1 : Int))))]
        [some (Blk.mk false [] (0 : Nat) (0 : Nat) (fun x => []) [] (some fun js => Mem.mk (FD.nl x js) (FD.ad x js) (FD.ln x js) (FD.cp x js) (1 : Nat) fun q => [AV.int IntKind.u8 (FD.z x (q :: js))])), some (Blk.mk false [] (4 : Nat) cap (fun r => [AV.int IntKind.i64 (kd r), AV.int IntKind.i64 (ar r), AV.int IntKind.i64 (nn r), AV.part (0 : Nat) [r]]) [] none),
          some (Blk.mk true [AV.nils, AV.int IntKind.i64 (0 : Int), AV.nils, AV.int IntKind.i64 (0 : Int), AV.int IntKind.i64 N] (0 : Nat) (0 : Nat) (fun x => []) [] none), some (Blk.mk true [AV.int IntKind.i64 N, AV.nils, AV.nils, AV.int IntKind.i64 (0 : Int), AV.int IntKind.i64 (0 : Int)] (0 : Nat) (0 : Nat) (fun x => []) [] none)]) := by
  kernel_rfl



set_option maxRecDepth 100000
set_option maxHeartbeats 16000000
set_option linter.unusedVariables false
set_option linter.unusedSimpArgs false

theorem pl_a10 (x : FD) (kd ar nn : Nat → Int) (len cap i : Nat) (N : Int) (n0 s0 c0 b0 : Nat) (f0 : Nat → Int) (d0 e0 : Nat) (g0 : Nat → Int) (n1 s1 c1 b1 : Nat) (f1 : Nat → Int) (d1 e1 : Nat) (g1 : Nat → Int) : T.cut (keepT [1, 5, 7, 9] (acodeL Try.prog plE ((chainOf plC).take 2) (plSt ⟨x, kd, ar, nn, len, cap, N, i, ⟨true, n0, s0, c0, b0, f0, d0, e0, g0⟩, ⟨false, n1, s1, c1, b1, f1, d1, e1, g1⟩⟩))) [2, 2, 2, 0] = 
  T.ite (decide ((↑i : Int) < (↑len : Int)))
    (T.ite (decide ((↑i : Int) < (100 : Int)))
      (T.ret
        (Ex.norm,
          St.mk [((1 : Nat), AV.sl (1 : Nat) (0 : Nat) (4 : Nat) (0 : Nat) len cap), ((5 : Nat), AV.ptr (2 : Nat) (0 : Nat) (0 : Nat) (0 : Nat)), ((7 : Nat), AV.ptr (3 : Nat) (0 : Nat) (0 : Nat) (0 : Nat)), ((9 : Nat), AV.int IntKind.i64 (↑i : Int))]
            [some (Blk.mk false [] (0 : Nat) (0 : Nat) (fun x => []) [] (some fun js => Mem.mk (FD.nl x js) (FD.ad x js) (FD.ln x js) (FD.cp x js) (1 : Nat) fun q => [AV.int IntKind.u8 (FD.z x (q :: js))])), some (Blk.mk false [] (4 : Nat) cap (fun r => [AV.int IntKind.i64 (kd r), AV.int IntKind.i64 (ar r), AV.int IntKind.i64 (nn r), AV.part (0 : Nat) [r]]) [] none),
              some (Blk.mk true [AV.sl (4 : Nat) (0 : Nat) (1 : Nat) (0 : Nat) n0 c0, AV.int IntKind.i64 (↑s0 : Int), AV.nils, AV.int IntKind.i64 (0 : Int), AV.int IntKind.i64 N] (0 : Nat) (0 : Nat) (fun x => []) [] none),
              some (Blk.mk true [AV.int IntKind.i64 N, AV.sl (5 : Nat) (0 : Nat) (1 : Nat) (0 : Nat) n0 d0, AV.nils, AV.int IntKind.i64 (↑s0 : Int), AV.int IntKind.i64 (0 : Int)] (0 : Nat) (0 : Nat) (fun x => []) [] none), some (Blk.mk true [] (1 : Nat) b0 (fun j => [AV.int IntKind.u8 (f0 j)]) [] none), some (Blk.mk true [] (1 : Nat) e0 (fun j => [AV.int IntKind.u8 (g0 j)]) [] none)]))
      (T.ret
        (Ex.exit (0 : Nat),
          St.mk [((1 : Nat), AV.sl (1 : Nat) (0 : Nat) (4 : Nat) (0 : Nat) len cap), ((5 : Nat), AV.ptr (2 : Nat) (0 : Nat) (0 : Nat) (0 : Nat)), ((7 : Nat), AV.ptr (3 : Nat) (0 : Nat) (0 : Nat) (0 : Nat)), ((9 : Nat), AV.int IntKind.i64 (↑i : Int))]
            [some (Blk.mk false [] (0 : Nat) (0 : Nat) (fun x => []) [] (some fun js => Mem.mk (FD.nl x js) (FD.ad x js) (FD.ln x js) (FD.cp x js) (1 : Nat) fun q => [AV.int IntKind.u8 (FD.z x (q :: js))])), some (Blk.mk false [] (4 : Nat) cap (fun r => [AV.int IntKind.i64 (kd r), AV.int IntKind.i64 (ar r), AV.int IntKind.i64 (nn r), AV.part (0 : Nat) [r]]) [] none),
              some (Blk.mk true [AV.sl (4 : Nat) (0 : Nat) (1 : Nat) (0 : Nat) n0 c0, AV.int IntKind.i64 (↑s0 : Int), AV.nils, AV.int IntKind.i64 (0 : Int), AV.int IntKind.i64 N] (0 : Nat) (0 : Nat) (fun x => []) [] none),
              some (Blk.mk true [AV.int IntKind.i64 N, AV.sl (5 : Nat) (0 : Nat) (1 : Nat) (0 : Nat) n0 d0, AV.nils, AV.int IntKind.i64 (↑s0 : Int), AV.int IntKind.i64 (0 : Int)] (0 : Nat) (0 : Nat) (fun x => []) [] none), some (Blk.mk true [] (1 : Nat) b0 (fun j => [AV.int IntKind.u8 (f0 j)]) [] none), some (Blk.mk true [] (1 : Nat) e0 (fun j => [AV.int IntKind.u8 (g0 j)]) [] none)])))
    (T.ret
      (Ex.exit (0 : Nat),
        St.mk [((1 : Nat), AV.sl (1 : Nat) (0 : Nat) (4 : Nat) (0 : Nat) len cap), ((5 : Nat), AV.ptr (2 : Nat) (0 : Nat) (0 : Nat) (0 : Nat)), ((7 : Nat), AV.ptr (3 : Nat) (0 : Nat) (0 : Nat) (0 : Nat)), ((9 : Nat), AV.int IntKind.i64 (↑i : Int))]
          [some (Blk.mk false [] (0 : Nat) (0 : Nat) (fun x => []) [] (some fun js => Mem.mk (FD.nl x js) (FD.ad x js) (FD.ln x js) (FD.cp x js) (1 : Nat) fun q => [AV.int IntKind.u8 (FD.z x (q :: js))])), some (Blk.mk false [] (4 : Nat) cap (fun r => [AV.int IntKind.i64 (kd r), AV.int IntKind.i64 (ar r), AV.int IntKind.i64 (nn r), AV.part (0 : Nat) [r]]) [] none),
            some (Blk.mk true [AV.sl (4 : Nat) (0 : Nat) (1 : Nat) (0 : Nat) n0 c0, AV.int IntKind.i64 (↑s0 : Int), AV.nils, AV.int IntKind.i64 (0 : Int), AV.int IntKind.i64 N] (0 : Nat) (0 : Nat) (fun x => []) [] none),
            some (Blk.mk true [AV.int IntKind.i64 N, AV.sl (5 : Nat) (0 : Nat) (1 : Nat) (0 : Nat) n0 d0, AV.nils, AV.int IntKind.i64 (↑s0 : Int), AV.int IntKind.i64 (0 : Int)] (0 : Nat) (0 : Nat) (fun x => []) [] none), some (Blk.mk true [] (1 : Nat) b0 (fun j => [AV.int IntKind.u8 (f0 j)]) [] none), some (Blk.mk true [] (1 : Nat) e0 (fun j => [AV.int IntKind.u8 (g0 j)]) [] none)])) := by
  kernel_rfl

theorem pl_b10 (x : FD) (kd ar nn : Nat → Int) (len cap i : Nat) (N : Int) (n0 s0 c0 b0 : Nat) (f0 : Nat → Int) (d0 e0 : Nat) (g0 : Nat → Int) (n1 s1 c1 b1 : Nat) (f1 : Nat → Int) (d1 e1 : Nat) (g1 : Nat → Int) : T.cut (keepT [1, 4, 5, 7, 9, 10] (acodeL Try.prog plE ((chainOf plD).take 3) (plSt ⟨x, kd, ar, nn, len, cap, N, i, ⟨true, n0, s0, c0, b0, f0, d0, e0, g0⟩, ⟨false, n1, s1, c1, b1, f1, d1, e1, g1⟩⟩))) [2, 1, 0, 2, 0] = 
  T.chk (decide ((0 : Int) ≤ (↑i : Int)) && decide ((↑i : Int) < (↑len : Int)))
    (T.chk (decide ((0 : Nat) + Int.toNat (↑i : Int) < cap))
      (T.chk (decide ((0 : Nat) + Int.toNat (↑i : Int) < cap))
        (T.chk (decide ((0 : Nat) + Int.toNat (↑i : Int) < cap))
          (T.chk (decide ((0 : Nat) + Int.toNat (↑i : Int) < cap))
            (T.ite (FD.nl x [(0 : Nat) + Int.toNat (↑i : Int)])
              (@T.chk (Ex × St) true
                (T.ret
                  (Ex.norm,
                    St.mk [((1 : Nat), AV.sl (1 : Nat) (0 : Nat) (4 : Nat) (0 : Nat) len cap), ((5 : Nat), AV.ptr (2 : Nat) (0 : Nat) (0 : Nat) (0 : Nat)), ((7 : Nat), AV.ptr (3 : Nat) (0 : Nat) (0 : Nat) (0 : Nat)), ((9 : Nat), AV.int IntKind.i64 (↑i : Int)), ((10 : Nat), AV.ptr (6 : Nat) (0 : Nat) (0 : Nat) (0 : Nat))]
                      [some (Blk.mk false [] (0 : Nat) (0 : Nat) (fun x => []) [] (some fun js => Mem.mk (FD.nl x js) (FD.ad x js) (FD.ln x js) (FD.cp x js) (1 : Nat) fun q => [AV.int IntKind.u8 (FD.z x (q :: js))])), some (Blk.mk false [] (4 : Nat) cap (fun r => [AV.int IntKind.i64 (kd r), AV.int IntKind.i64 (ar r), AV.int IntKind.i64 (nn r), AV.part (0 : Nat) [r]]) [] none),
                        some (Blk.mk true [AV.sl (4 : Nat) (0 : Nat) (1 : Nat) (0 : Nat) n0 c0, AV.int IntKind.i64 (↑s0 : Int), AV.nils, AV.int IntKind.i64 (0 : Int), AV.int IntKind.i64 N] (0 : Nat) (0 : Nat) (fun x => []) [] none),
                        some (Blk.mk true [AV.int IntKind.i64 N, AV.sl (5 : Nat) (0 : Nat) (1 : Nat) (0 : Nat) n0 d0, AV.nils, AV.int IntKind.i64 (↑s0 : Int), AV.int IntKind.i64 (0 : Int)] (0 : Nat) (0 : Nat) (fun x => []) [] none), some (Blk.mk true [] (1 : Nat) b0 (fun j => [AV.int IntKind.u8 (f0 j)]) [] none), some (Blk.mk true [] (1 : Nat) e0 (fun j => [AV.int IntKind.u8 (g0 j)]) [] none),
                        some (Blk.mk true [AV.int IntKind.i64 (kd ((0 : Nat) + Int.toNat (↑i : Int))), AV.int IntKind.i64 (ar ((0 : Nat) + Int.toNat (↑i : Int))), AV.int IntKind.i64 (nn ((0 : Nat) + Int.toNat (↑i : Int))), AV.part (0 : Nat) [(0 : Nat) + Int.toNat (↑i : Int)]] (0 : Nat) (0 : Nat) (fun a => []) [] none)])))
              (T.ite (decide ((↑(FD.ln x [(0 : Nat) + Int.toNat (↑i : Int)]) : Int) > (4096 : Int)))
                (T.ret
                  (Ex.ret,
                    St.mk [((1 : Nat), AV.sl (1 : Nat) (0 : Nat) (4 : Nat) (0 : Nat) len cap), ((4 : Nat), AV.bool true), ((5 : Nat), AV.ptr (2 : Nat) (0 : Nat) (0 : Nat) (0 : Nat)), ((7 : Nat), AV.ptr (3 : Nat) (0 : Nat) (0 : Nat) (0 : Nat)), ((9 : Nat), AV.int IntKind.i64 (↑i : Int)), ((10 : Nat), AV.ptr (6 : Nat) (0 : Nat) (0 : Nat) (0 : Nat))]
                      [some (Blk.mk false [] (0 : Nat) (0 : Nat) (fun x => []) [] (some fun js => Mem.mk (FD.nl x js) (FD.ad x js) (FD.ln x js) (FD.cp x js) (1 : Nat) fun q => [AV.int IntKind.u8 (FD.z x (q :: js))])), some (Blk.mk false [] (4 : Nat) cap (fun r => [AV.int IntKind.i64 (kd r), AV.int IntKind.i64 (ar r), AV.int IntKind.i64 (nn r), AV.part (0 : Nat) [r]]) [] none),
                        some (Blk.mk true [AV.sl (4 : Nat) (0 : Nat) (1 : Nat) (0 : Nat) n0 c0, AV.int IntKind.i64 (↑s0 : Int), AV.nils, AV.int IntKind.i64 (0 : Int), AV.int IntKind.i64 N] (0 : Nat) (0 : Nat) (fun x => []) [] none),
                        some (Blk.mk true [AV.int IntKind.i64 N, AV.sl (5 : Nat) (0 : Nat) (1 : Nat) (0 : Nat) n0 d0, AV.nils, AV.int IntKind.i64 (↑s0 : Int), AV.int IntKind.i64 (0 : Int)] (0 : Nat) (0 : Nat) (fun x => []) [] none), some (Blk.mk true [] (1 : Nat) b0 (fun j => [AV.int IntKind.u8 (f0 j)]) [] none), some (Blk.mk true [] (1 : Nat) e0 (fun j => [AV.int IntKind.u8 (g0 j)]) [] none),
                        some (Blk.mk true [AV.int IntKind.i64 (kd ((0 : Nat) + Int.toNat (↑i : Int))), AV.int IntKind.i64 (ar ((0 : Nat) + Int.toNat (↑i : Int))), AV.int IntKind.i64 (nn ((0 : Nat) + Int.toNat (↑i : Int))), AV.part (0 : Nat) [(0 : Nat) + Int.toNat (↑i : Int)]] (0 : Nat) (0 : Nat) (fun a => []) [] none),
                        some (Blk.mk false [] (1 : Nat) (FD.cp x [(0 : Nat) + Int.toNat (↑i : Int)]) (fun a => [AV.int IntKind.u8 (FD.z x [a, (0 : Nat) + Int.toNat (↑i : Int)])]) [] none)]))
                (T.ret
                  (Ex.norm,
                    St.mk [((1 : Nat), AV.sl (1 : Nat) (0 : Nat) (4 : Nat) (0 : Nat) len cap), ((5 : Nat), AV.ptr (2 : Nat) (0 : Nat) (0 : Nat) (0 : Nat)), ((7 : Nat), AV.ptr (3 : Nat) (0 : Nat) (0 : Nat) (0 : Nat)), ((9 : Nat), AV.int IntKind.i64 (↑i : Int)), ((10 : Nat), AV.ptr (6 : Nat) (0 : Nat) (0 : Nat) (0 : Nat))]
                      [some (Blk.mk false [] (0 : Nat) (0 : Nat) (fun x => []) [] (some fun js => Mem.mk (FD.nl x js) (FD.ad x js) (FD.ln x js) (FD.cp x js) (1 : Nat) fun q => [AV.int IntKind.u8 (FD.z x (q :: js))])), some (Blk.mk false [] (4 : Nat) cap (fun r => [AV.int IntKind.i64 (kd r), AV.int IntKind.i64 (ar r), AV.int IntKind.i64 (nn r), AV.part (0 : Nat) [r]]) [] none),
                        some (Blk.mk true [AV.sl (4 : Nat) (0 : Nat) (1 : Nat) (0 : Nat) n0 c0, AV.int IntKind.i64 (↑s0 : Int), AV.nils, AV.int IntKind.i64 (0 : Int), AV.int IntKind.i64 N] (0 : Nat) (0 : Nat) (fun x => []) [] none),
                        some (Blk.mk true [AV.int IntKind.i64 N, AV.sl (5 : Nat) (0 : Nat) (1 : Nat) (0 : Nat) n0 d0, AV.nils, AV.int IntKind.i64 (↑s0 : Int), AV.int IntKind.i64 (0 : Int)] (0 : Nat) (0 : Nat) (fun x => []) [] none), some (Blk.mk true [] (1 : Nat) b0 (fun j => [AV.int IntKind.u8 (f0 j)]) [] none), some (Blk.mk true [] (1 : Nat) e0 (fun j => [AV.int IntKind.u8 (g0 j)]) [] none),
                        some (Blk.mk true [AV.int IntKind.i64 (kd ((0 : Nat) + Int.toNat (↑i : Int))), AV.int IntKind.i64 (ar ((0 : Nat) + Int.toNat (↑i : Int))), AV.int IntKind.i64 (nn ((0 : Nat) + Int.toNat (↑i : Int))), AV.part (0 : Nat) [(0 : Nat) + Int.toNat (↑i : Int)]] (0 : Nat) (0 : Nat) (fun a => []) [] none),
                        some (Blk.mk false [] (1 : Nat) (FD.cp x [(0 : Nat) + Int.toNat (↑i : Int)]) (fun a => [AV.int IntKind.u8 (FD.z x [a, (0 : Nat) + Int.toNat (↑i : Int)])]) [] none)])))))))) := by
  kernel_rfl

theorem pl_c10 (x : FD) (kd ar nn : Nat → Int) (len cap i : Nat) (N : Int) (n0 s0 c0 b0 : Nat) (f0 : Nat → Int) (d0 e0 : Nat) (g0 : Nat → Int) (n1 s1 c1 b1 : Nat) (f1 : Nat → Int) (d1 e1 : Nat) (g1 : Nat → Int) : T.cut (keepT [1, 5, 7, 9] (acodeL Try.prog plE ((chainOf plC).drop 3) (plSt ⟨x, kd, ar, nn, len, cap, N, i, ⟨true, n0, s0, c0, b0, f0, d0, e0, g0⟩, ⟨false, n1, s1, c1, b1, f1, d1, e1, g1⟩⟩))) [] = 
  T.ret
    (Ex.norm,
      St.mk [((1 : Nat), AV.sl (1 : Nat) (0 : Nat) (4 : Nat) (0 : Nat) len cap), ((5 : Nat), AV.ptr (2 : Nat) (0 : Nat) (0 : Nat) (0 : Nat)), ((7 : Nat), AV.ptr (3 : Nat) (0 : Nat) (0 : Nat) (0 : Nat)), ((9 : Nat), AV.int IntKind.i64 (IntKind.wrap IntKind.i64 ((↑i : Int) + (1 : Int))))]
        [some (Blk.mk false [] (0 : Nat) (0 : Nat) (fun x => []) [] (some fun js => Mem.mk (FD.nl x js) (FD.ad x js) (FD.ln x js) (FD.cp x js) (1 : Nat) fun q => [AV.int IntKind.u8 (FD.z x (q :: js))])), some (Blk.mk false [] (4 : Nat) cap (fun r => [AV.int IntKind.i64 (kd r), AV.int IntKind.i64 (ar r), AV.int IntKind.i64 (nn r), AV.part (0 : Nat) [r]]) [] none),
          some (Blk.mk true [AV.sl (4 : Nat) (0 : Nat) (1 : Nat) (0 : Nat) n0 c0, AV.int IntKind.i64 (↑s0 : Int), AV.nils, AV.int IntKind.i64 (0 : Int), AV.int IntKind.i64 N] (0 : Nat) (0 : Nat) (fun x => []) [] none),
          some (Blk.mk true [AV.int IntKind.i64 N, AV.sl (5 : Nat) (0 : Nat) (1 : Nat) (0 : Nat) n0 d0, AV.nils, AV.int IntKind.i64 (↑s0 : Int), AV.int IntKind.i64 (0 : Int)] (0 : Nat) (0 : Nat) (fun x => []) [] none), some (Blk.mk true [] (1 : Nat) b0 (fun j => [AV.int IntKind.u8 (f0 j)]) [] none), some (Blk.mk true [] (1 : Nat) e0 (fun j => [AV.int IntKind.u8 (g0 j)]) [] none)]) := by
  kernel_rfl



set_option maxRecDepth 100000
set_option maxHeartbeats 16000000
set_option linter.unusedVariables false
set_option linter.unusedSimpArgs false

theorem pl_a01 (x : FD) (kd ar nn : Nat → Int) (len cap i : Nat) (N : Int) (n0 s0 c0 b0 : Nat) (f0 : Nat → Int) (d0 e0 : Nat) (g0 : Nat → Int) (n1 s1 c1 b1 : Nat) (f1 : Nat → Int) (d1 e1 : Nat) (g1 : Nat → Int) : T.cut (keepT [1, 5, 7, 9] (acodeL Try.prog plE ((chainOf plC).take 2) (plSt ⟨x, kd, ar, nn, len, cap, N, i, ⟨false, n0, s0, c0, b0, f0, d0, e0, g0⟩, ⟨true, n1, s1, c1, b1, f1, d1, e1, g1⟩⟩))) [2, 2, 2, 0] = 
  T.ite (decide ((↑i : Int) < (↑len : Int)))
    (T.ite (decide ((↑i : Int) < (100 : Int)))
      (T.ret
        (Ex.norm,
          St.mk [((1 : Nat), AV.sl (1 : Nat) (0 : Nat) (4 : Nat) (0 : Nat) len cap), ((5 : Nat), AV.ptr (2 : Nat) (0 : Nat) (0 : Nat) (0 : Nat)), ((7 : Nat), AV.ptr (3 : Nat) (0 : Nat) (0 : Nat) (0 : Nat)), ((9 : Nat), AV.int IntKind.i64 (↑i : Int))]
            [some (Blk.mk false [] (0 : Nat) (0 : Nat) (fun x => []) [] (some fun js => Mem.mk (FD.nl x js) (FD.ad x js) (FD.ln x js) (FD.cp x js) (1 : Nat) fun q => [AV.int IntKind.u8 (FD.z x (q :: js))])), some (Blk.mk false [] (4 : Nat) cap (fun r => [AV.int IntKind.i64 (kd r), AV.int IntKind.i64 (ar r), AV.int IntKind.i64 (nn r), AV.part (0 : Nat) [r]]) [] none),
              some (Blk.mk true [AV.nils, AV.int IntKind.i64 (0 : Int), AV.sl (4 : Nat) (0 : Nat) (1 : Nat) (0 : Nat) n1 c1, AV.int IntKind.i64 (↑s1 : Int), AV.int IntKind.i64 N] (0 : Nat) (0 : Nat) (fun x => []) [] none),
              some (Blk.mk true [AV.int IntKind.i64 N, AV.nils, AV.sl (5 : Nat) (0 : Nat) (1 : Nat) (0 : Nat) n1 d1, AV.int IntKind.i64 (0 : Int), AV.int IntKind.i64 (↑s1 : Int)] (0 : Nat) (0 : Nat) (fun x => []) [] none), some (Blk.mk true [] (1 : Nat) b1 (fun j => [AV.int IntKind.u8 (f1 j)]) [] none), some (Blk.mk true [] (1 : Nat) e1 (fun j => [AV.int IntKind.u8 (g1 j)]) [] none)]))
      (T.ret
        (Ex.exit (0 : Nat),
          St.mk [((1 : Nat), AV.sl (1 : Nat) (0 : Nat) (4 : Nat) (0 : Nat) len cap), ((5 : Nat), AV.ptr (2 : Nat) (0 : Nat) (0 : Nat) (0 : Nat)), ((7 : Nat), AV.ptr (3 : Nat) (0 : Nat) (0 : Nat) (0 : Nat)), ((9 : Nat), AV.int IntKind.i64 (↑i : Int))]
            [some (Blk.mk false [] (0 : Nat) (0 : Nat) (fun x => []) [] (some fun js => Mem.mk (FD.nl x js) (FD.ad x js) (FD.ln x js) (FD.cp x js) (1 : Nat) fun q => [AV.int IntKind.u8 (FD.z x (q :: js))])), some (Blk.mk false [] (4 : Nat) cap (fun r => [AV.int IntKind.i64 (kd r), AV.int IntKind.i64 (ar r), AV.int IntKind.i64 (nn r), AV.part (0 : Nat) [r]]) [] none),
              some (Blk.mk true [AV.nils, AV.int IntKind.i64 (0 : Int), AV.sl (4 : Nat) (0 : Nat) (1 : Nat) (0 : Nat) n1 c1, AV.int IntKind.i64 (↑s1 : Int), AV.int IntKind.i64 N] (0 : Nat) (0 : Nat) (fun x => []) [] none),
              some (Blk.mk true [AV.int IntKind.i64 N, AV.nils, AV.sl (5 : Nat) (0 : Nat) (1 : Nat) (0 : Nat) n1 d1, AV.int IntKind.i64 (0 : Int), AV.int IntKind.i64 (↑s1 : Int)] (0 : Nat) (0 : Nat) (fun x => []) [] none), some (Blk.mk true [] (1 : Nat) b1 (fun j => [AV.int IntKind.u8 (f1 j)]) [] none), some (Blk.mk true [] (1 : Nat) e1 (fun j => [AV.int IntKind.u8 (g1 j)]) [] none)])))
    (T.ret
      (Ex.exit (0 : Nat),
        St.mk [((1 : Nat), AV.sl (1 : Nat) (0 : Nat) (4 : Nat) (0 : Nat) len cap), ((5 : Nat), AV.ptr (2 : Nat) (0 : Nat) (0 : Nat) (0 : Nat)), ((7 : Nat), AV.ptr (3 : Nat) (0 : Nat) (0 : Nat) (0 : Nat)), ((9 : Nat), AV.int IntKind.i64 (↑i : Int))]
          [some (Blk.mk false [] (0 : Nat) (0 : Nat) (fun x => []) [] (some fun js => Mem.mk (FD.nl x js) (FD.ad x js) (FD.ln x js) (FD.cp x js) (1 : Nat) fun q => [AV.int IntKind.u8 (FD.z x (q :: js))])), some (Blk.mk false [] (4 : Nat) cap (fun r => [AV.int IntKind.i64 (kd r), AV.int IntKind.i64 (ar r), AV.int IntKind.i64 (nn r), AV.part (0 : Nat) [r]]) [] none),
            some (Blk.mk true [AV.nils, AV.int IntKind.i64 (0 : Int), AV.sl (4 : Nat) (0 : Nat) (1 : Nat) (0 : Nat) n1 c1, AV.int IntKind.i64 (↑s1 : Int), AV.int IntKind.i64 N] (0 : Nat) (0 : Nat) (fun x => []) [] none),
            some (Blk.mk true [AV.int IntKind.i64 N, AV.nils, AV.sl (5 : Nat) (0 : Nat) (1 : Nat) (0 : Nat) n1 d1, AV.int IntKind.i64 (0 : Int), AV.int IntKind.i64 (↑s1 : Int)] (0 : Nat) (0 : Nat) (fun x => []) [] none), some (Blk.mk true [] (1 : Nat) b1 (fun j => [AV.int IntKind.u8 (f1 j)]) [] none), some (Blk.mk true [] (1 : Nat) e1 (fun j => [AV.int IntKind.u8 (g1 j)]) [] none)])) := by
  kernel_rfl

theorem pl_b01 (x : FD) (kd ar nn : Nat → Int) (len cap i : Nat) (N : Int) (n0 s0 c0 b0 : Nat) (f0 : Nat → Int) (d0 e0 : Nat) (g0 : Nat → Int) (n1 s1 c1 b1 : Nat) (f1 : Nat → Int) (d1 e1 : Nat) (g1 : Nat → Int) : T.cut (keepT [1, 4, 5, 7, 9, 10] (acodeL Try.prog plE ((chainOf plD).take 3) (plSt ⟨x, kd, ar, nn, len, cap, N, i, ⟨false, n0, s0, c0, b0, f0, d0, e0, g0⟩, ⟨true, n1, s1, c1, b1, f1, d1, e1, g1⟩⟩))) [2, 1, 0, 2, 0] = 
  T.chk (decide ((0 : Int) ≤ (↑i : Int)) && decide ((↑i : Int) < (↑len : Int)))
    (T.chk (decide ((0 : Nat) + Int.toNat (↑i : Int) < cap))
      (T.chk (decide ((0 : Nat) + Int.toNat (↑i : Int) < cap))
        (T.chk (decide ((0 : Nat) + Int.toNat (↑i : Int) < cap))
          (T.chk (decide ((0 : Nat) + Int.toNat (↑i : Int) < cap))
            (T.ite (FD.nl x [(0 : Nat) + Int.toNat (↑i : Int)])
              (@T.chk (Ex × St) true
                (T.ret
                  (Ex.norm,
                    St.mk [((1 : Nat), AV.sl (1 : Nat) (0 : Nat) (4 : Nat) (0 : Nat) len cap), ((5 : Nat), AV.ptr (2 : Nat) (0 : Nat) (0 : Nat) (0 : Nat)), ((7 : Nat), AV.ptr (3 : Nat) (0 : Nat) (0 : Nat) (0 : Nat)), ((9 : Nat), AV.int IntKind.i64 (↑i : Int)), ((10 : Nat), AV.ptr (6 : Nat) (0 : Nat) (0 : Nat) (0 : Nat))]
                      [some (Blk.mk false [] (0 : Nat) (0 : Nat) (fun x => []) [] (some fun js => Mem.mk (FD.nl x js) (FD.ad x js) (FD.ln x js) (FD.cp x js) (1 : Nat) fun q => [AV.int IntKind.u8 (FD.z x (q :: js))])), some (Blk.mk false [] (4 : Nat) cap (fun r => [AV.int IntKind.i64 (kd r), AV.int IntKind.i64 (ar r), AV.int IntKind.i64 (nn r), AV.part (0 : Nat) [r]]) [] none),
                        some (Blk.mk true [AV.nils, AV.int IntKind.i64 (0 : Int), AV.sl (4 : Nat) (0 : Nat) (1 : Nat) (0 : Nat) n1 c1, AV.int IntKind.i64 (↑s1 : Int), AV.int IntKind.i64 N] (0 : Nat) (0 : Nat) (fun x => []) [] none),
                        some (Blk.mk true [AV.int IntKind.i64 N, AV.nils, AV.sl (5 : Nat) (0 : Nat) (1 : Nat) (0 : Nat) n1 d1, AV.int IntKind.i64 (0 : Int), AV.int IntKind.i64 (↑s1 : Int)] (0 : Nat) (0 : Nat) (fun x => []) [] none), some (Blk.mk true [] (1 : Nat) b1 (fun j => [AV.int IntKind.u8 (f1 j)]) [] none), some (Blk.mk true [] (1 : Nat) e1 (fun j => [AV.int IntKind.u8 (g1 j)]) [] none),
                        some (Blk.mk true [AV.int IntKind.i64 (kd ((0 : Nat) + Int.toNat (↑i : Int))), AV.int IntKind.i64 (ar ((0 : Nat) + Int.toNat (↑i : Int))), AV.int IntKind.i64 (nn ((0 : Nat) + Int.toNat (↑i : Int))), AV.part (0 : Nat) [(0 : Nat) + Int.toNat (↑i : Int)]] (0 : Nat) (0 : Nat) (fun a => []) [] none)])))
              (T.ite (decide ((↑(FD.ln x [(0 : Nat) + Int.toNat (↑i : Int)]) : Int) > (4096 : Int)))
                (T.ret
                  (Ex.ret,
                    St.mk [((1 : Nat), AV.sl (1 : Nat) (0 : Nat) (4 : Nat) (0 : Nat) len cap), ((4 : Nat), AV.bool true), ((5 : Nat), AV.ptr (2 : Nat) (0 : Nat) (0 : Nat) (0 : Nat)), ((7 : Nat), AV.ptr (3 : Nat) (0 : Nat) (0 : Nat) (0 : Nat)), ((9 : Nat), AV.int IntKind.i64 (↑i : Int)), ((10 : Nat), AV.ptr (6 : Nat) (0 : Nat) (0 : Nat) (0 : Nat))]
                      [some (Blk.mk false [] (0 : Nat) (0 : Nat) (fun x => []) [] (some fun js => Mem.mk (FD.nl x js) (FD.ad x js) (FD.ln x js) (FD.cp x js) (1 : Nat) fun q => [AV.int IntKind.u8 (FD.z x (q :: js))])), some (Blk.mk false [] (4 : Nat) cap (fun r => [AV.int IntKind.i64 (kd r), AV.int IntKind.i64 (ar r), AV.int IntKind.i64 (nn r), AV.part (0 : Nat) [r]]) [] none),
                        some (Blk.mk true [AV.nils, AV.int IntKind.i64 (0 : Int), AV.sl (4 : Nat) (0 : Nat) (1 : Nat) (0 : Nat) n1 c1, AV.int IntKind.i64 (↑s1 : Int), AV.int IntKind.i64 N] (0 : Nat) (0 : Nat) (fun x => []) [] none),
                        some (Blk.mk true [AV.int IntKind.i64 N, AV.nils, AV.sl (5 : Nat) (0 : Nat) (1 : Nat) (0 : Nat) n1 d1, AV.int IntKind.i64 (0 : Int), AV.int IntKind.i64 (↑s1 : Int)] (0 : Nat) (0 : Nat) (fun x => []) [] none), some (Blk.mk true [] (1 : Nat) b1 (fun j => [AV.int IntKind.u8 (f1 j)]) [] none), some (Blk.mk true [] (1 : Nat) e1 (fun j => [AV.int IntKind.u8 (g1 j)]) [] none),
                        some (Blk.mk true [AV.int IntKind.i64 (kd ((0 : Nat) + Int.toNat (↑i : Int))), AV.int IntKind.i64 (ar ((0 : Nat) + Int.toNat (↑i : Int))), AV.int IntKind.i64 (nn ((0 : Nat) + Int.toNat (↑i : Int))), AV.part (0 : Nat) [(0 : Nat) + Int.toNat (↑i : Int)]] (0 : Nat) (0 : Nat) (fun a => []) [] none),
                        some (Blk.mk false [] (1 : Nat) (FD.cp x [(0 : Nat) + Int.toNat (↑i : Int)]) (fun a => [AV.int IntKind.u8 (FD.z x [a, (0 : Nat) + Int.toNat (↑i : Int)])]) [] none)]))
                (T.ret
                  (Ex.norm,
                    St.mk [((1 : Nat), AV.sl (1 : Nat) (0 : Nat) (4 : Nat) (0 : Nat) len cap), ((5 : Nat), AV.ptr (2 : Nat) (0 : Nat) (0 : Nat) (0 : Nat)), ((7 : Nat), AV.ptr (3 : Nat) (0 : Nat) (0 : Nat) (0 : Nat)), ((9 : Nat), AV.int IntKind.i64 (↑i : Int)), ((10 : Nat), AV.ptr (6 : Nat) (0 : Nat) (0 : Nat) (0 : Nat))]
                      [some (Blk.mk false [] (0 : Nat) (0 : Nat) (fun x => []) [] (some fun js => Mem.mk (FD.nl x js) (FD.ad x js) (FD.ln x js) (FD.cp x js) (1 : Nat) fun q => [AV.int IntKind.u8 (FD.z x (q :: js))])), some (Blk.mk false [] (4 : Nat) cap (fun r => [AV.int IntKind.i64 (kd r), AV.int IntKind.i64 (ar r), AV.int IntKind.i64 (nn r), AV.part (0 : Nat) [r]]) [] none),
                        some (Blk.mk true [AV.nils, AV.int IntKind.i64 (0 : Int), AV.sl (4 : Nat) (0 : Nat) (1 : Nat) (0 : Nat) n1 c1, AV.int IntKind.i64 (↑s1 : Int), AV.int IntKind.i64 N] (0 : Nat) (0 : Nat) (fun x => []) [] none),
                        some (Blk.mk true [AV.int IntKind.i64 N, AV.nils, AV.sl (5 : Nat) (0 : Nat) (1 : Nat) (0 : Nat) n1 d1, AV.int IntKind.i64 (0 : Int), AV.int IntKind.i64 (↑s1 : Int)] (0 : Nat) (0 : Nat) (fun x => []) [] none), some (Blk.mk true [] (1 : Nat) b1 (fun j => [AV.int IntKind.u8 (f1 j)]) [] none), some (Blk.mk true [] (1 : Nat) e1 (fun j => [AV.int IntKind.u8 (g1 j)]) [] none),
                        some (Blk.mk true [AV.int IntKind.i64 (kd ((0 : Nat) + Int.toNat (↑i : Int))), AV.int IntKind.i64 (ar ((0 : Nat) + Int.toNat (↑i : Int))), AV.int IntKind.i64 (nn ((0 : Nat) + Int.toNat (↑i : Int))), AV.part (0 : Nat) [(0 : Nat) + Int.toNat (↑i : Int)]] (0 : Nat) (0 : Nat) (fun a => []) [] none),
                        some (Blk.mk false [] (1 : Nat) (FD.cp x [(0 : Nat) + Int.toNat (↑i : Int)]) (fun a => [AV.int IntKind.u8 (FD.z x [a, (0 : Nat) + Int.toNat (↑i : Int)])]) [] none)])))))))) := by
  kernel_rfl

theorem pl_c01 (x : FD) (kd ar nn : Nat → Int) (len cap i : Nat) (N : Int) (n0 s0 c0 b0 : Nat) (f0 : Nat → Int) (d0 e0 : Nat) (g0 : Nat → Int) (n1 s1 c1 b1 : Nat) (f1 : Nat → Int) (d1 e1 : Nat) (g1 : Nat → Int) : T.cut (keepT [1, 5, 7, 9] (acodeL Try.prog plE ((chainOf plC).drop 3) (plSt ⟨x, kd, ar, nn, len, cap, N, i, ⟨false, n0, s0, c0, b0, f0, d0, e0, g0⟩, ⟨true, n1, s1, c1, b1, f1, d1, e1, g1⟩⟩))) [] = 
  T.ret
    (Ex.norm,
      St.mk [((1 : Nat), AV.sl (1 : Nat) (0 : Nat) (4 : Nat) (0 : Nat) len cap), ((5 : Nat), AV.ptr (2 : Nat) (0 : Nat) (0 : Nat) (0 : Nat)), ((7 : Nat), AV.ptr (3 : Nat) (0 : Nat) (0 : Nat) (0 : Nat)), ((9 : Nat), AV.int IntKind.i64 (IntKind.wrap IntKind.i64 ((↑i : Int) + (1 : Int))))]
        [some (Blk.mk false [] (0 : Nat) (0 : Nat) (fun x => []) [] (some fun js => Mem.mk (FD.nl x js) (FD.ad x js) (FD.ln x js) (FD.cp x js) (1 : Nat) fun q => [AV.int IntKind.u8 (FD.z x (q :: js))])), some (Blk.mk false [] (4 : Nat) cap (fun r => [AV.int IntKind.i64 (kd r), AV.int IntKind.i64 (ar r), AV.int IntKind.i64 (nn r), AV.part (0 : Nat) [r]]) [] none),
          some (Blk.mk true [AV.nils, AV.int IntKind.i64 (0 : Int), AV.sl (4 : Nat) (0 : Nat) (1 : Nat) (0 : Nat) n1 c1, AV.int IntKind.i64 (↑s1 : Int), AV.int IntKind.i64 N] (0 : Nat) (0 : Nat) (fun x => []) [] none),
          some (Blk.mk true [AV.int IntKind.i64 N, AV.nils, AV.sl (5 : Nat) (0 : Nat) (1 : Nat) (0 : Nat) n1 d1, AV.int IntKind.i64 (0 : Int), AV.int IntKind.i64 (↑s1 : Int)] (0 : Nat) (0 : Nat) (fun x => []) [] none), some (Blk.mk true [] (1 : Nat) b1 (fun j => [AV.int IntKind.u8 (f1 j)]) [] none), some (Blk.mk true [] (1 : Nat) e1 (fun j => [AV.int IntKind.u8 (g1 j)]) [] none)]) := by
  kernel_rfl



set_option maxRecDepth 100000
set_option maxHeartbeats 16000000
set_option linter.unusedVariables false
set_option linter.unusedSimpArgs false

theorem pl_a11 (x : FD) (kd ar nn : Nat → Int) (len cap i : Nat) (N : Int) (n0 s0 c0 b0 : Nat) (f0 : Nat → Int) (d0 e0 : Nat) (g0 : Nat → Int) (n1 s1 c1 b1 : Nat) (f1 : Nat → Int) (d1 e1 : Nat) (g1 : Nat → Int) : T.cut (keepT [1, 5, 7, 9] (acodeL Try.prog plE ((chainOf plC).take 2) (plSt ⟨x, kd, ar, nn, len, cap, N, i, ⟨true, n0, s0, c0, b0, f0, d0, e0, g0⟩, ⟨true, n1, s1, c1, b1, f1, d1, e1, g1⟩⟩))) [2, 2, 2, 0] = 
  T.ite (decide ((↑i : Int) < (↑len : Int)))
    (T.ite (decide ((↑i : Int) < (100 : Int)))
      (T.ret
        (Ex.norm,
          St.mk [((1 : Nat), AV.sl (1 : Nat) (0 : Nat) (4 : Nat) (0 : Nat) len cap), ((5 : Nat), AV.ptr (2 : Nat) (0 : Nat) (0 : Nat) (0 : Nat)), ((7 : Nat), AV.ptr (3 : Nat) (0 : Nat) (0 : Nat) (0 : Nat)), ((9 : Nat), AV.int IntKind.i64 (↑i : Int))]
            [some (Blk.mk false [] (0 : Nat) (0 : Nat) (fun x => []) [] (some fun js => Mem.mk (FD.nl x js) (FD.ad x js) (FD.ln x js) (FD.cp x js) (1 : Nat) fun q => [AV.int IntKind.u8 (FD.z x (q :: js))])), some (Blk.mk false [] (4 : Nat) cap (fun r => [AV.int IntKind.i64 (kd r), AV.int IntKind.i64 (ar r), AV.int IntKind.i64 (nn r), AV.part (0 : Nat) [r]]) [] none),
              some (Blk.mk true [AV.sl (4 : Nat) (0 : Nat) (1 : Nat) (0 : Nat) n0 c0, AV.int IntKind.i64 (↑s0 : Int), AV.sl (6 : Nat) (0 : Nat) (1 : Nat) (0 : Nat) n1 c1, AV.int IntKind.i64 (↑s1 : Int), AV.int IntKind.i64 N] (0 : Nat) (0 : Nat) (fun x => []) [] none),
              some (Blk.mk true [AV.int IntKind.i64 N, AV.sl (5 : Nat) (0 : Nat) (1 : Nat) (0 : Nat) n0 d0, AV.sl (7 : Nat) (0 : Nat) (1 : Nat) (0 : Nat) n1 d1, AV.int IntKind.i64 (↑s0 : Int), AV.int IntKind.i64 (↑s1 : Int)] (0 : Nat) (0 : Nat) (fun x => []) [] none), some (Blk.mk true [] (1 : Nat) b0 (fun j => [AV.int IntKind.u8 (f0 j)]) [] none),
              some (Blk.mk true [] (1 : Nat) e0 (fun j => [AV.int IntKind.u8 (g0 j)]) [] none), some (Blk.mk true [] (1 : Nat) b1 (fun j => [AV.int IntKind.u8 (f1 j)]) [] none), some (Blk.mk true [] (1 : Nat) e1 (fun j => [AV.int IntKind.u8 (g1 j)]) [] none)]))
      (T.ret
        (Ex.exit (0 : Nat),
          St.mk [((1 : Nat), AV.sl (1 : Nat) (0 : Nat) (4 : Nat) (0 : Nat) len cap), ((5 : Nat), AV.ptr (2 : Nat) (0 : Nat) (0 : Nat) (0 : Nat)), ((7 : Nat), AV.ptr (3 : Nat) (0 : Nat) (0 : Nat) (0 : Nat)), ((9 : Nat), AV.int IntKind.i64 (↑i : Int))]
            [some (Blk.mk false [] (0 : Nat) (0 : Nat) (fun x => []) [] (some fun js => Mem.mk (FD.nl x js) (FD.ad x js) (FD.ln x js) (FD.cp x js) (1 : Nat) fun q => [AV.int IntKind.u8 (FD.z x (q :: js))])), some (Blk.mk false [] (4 : Nat) cap (fun r => [AV.int IntKind.i64 (kd r), AV.int IntKind.i64 (ar r), AV.int IntKind.i64 (nn r), AV.part (0 : Nat) [r]]) [] none),
              some (Blk.mk true [AV.sl (4 : Nat) (0 : Nat) (1 : Nat) (0 : Nat) n0 c0, AV.int IntKind.i64 (↑s0 : Int), AV.sl (6 : Nat) (0 : Nat) (1 : Nat) (0 : Nat) n1 c1, AV.int IntKind.i64 (↑s1 : Int), AV.int IntKind.i64 N] (0 : Nat) (0 : Nat) (fun x => []) [] none),
              some (Blk.mk true [AV.int IntKind.i64 N, AV.sl (5 : Nat) (0 : Nat) (1 : Nat) (0 : Nat) n0 d0, AV.sl (7 : Nat) (0 : Nat) (1 : Nat) (0 : Nat) n1 d1, AV.int IntKind.i64 (↑s0 : Int), AV.int IntKind.i64 (↑s1 : Int)] (0 : Nat) (0 : Nat) (fun x => []) [] none), some (Blk.mk true [] (1 : Nat) b0 (fun j => [AV.int IntKind.u8 (f0 j)]) [] none),
              some (Blk.mk true [] (1 : Nat) e0 (fun j => [AV.int IntKind.u8 (g0 j)]) [] none), some (Blk.mk true [] (1 : Nat) b1 (fun j => [AV.int IntKind.u8 (f1 j)]) [] none), some (Blk.mk true [] (1 : Nat) e1 (fun j => [AV.int IntKind.u8 (g1 j)]) [] none)])))
    (T.ret
      (Ex.exit (0 : Nat),
        St.mk [((1 : Nat), AV.sl (1 : Nat) (0 : Nat) (4 : Nat) (0 : Nat) len cap), ((5 : Nat), AV.ptr (2 : Nat) (0 : Nat) (0 : Nat) (0 : Nat)), ((7 : Nat), AV.ptr (3 : Nat) (0 : Nat) (0 : Nat) (0 : Nat)), ((9 : Nat), AV.int IntKind.i64 (↑i : Int))]
          [some (Blk.mk false [] (0 : Nat) (0 : Nat) (fun x => []) [] (some fun js => Mem.mk (FD.nl x js) (FD.ad x js) (FD.ln x js) (FD.cp x js) (1 : Nat) fun q => [AV.int IntKind.u8 (FD.z x (q :: js))])), some (Blk.mk false [] (4 : Nat) cap (fun r => [AV.int IntKind.i64 (kd r), AV.int IntKind.i64 (ar r), AV.int IntKind.i64 (nn r), AV.part (0 : Nat) [r]]) [] none),
            some (Blk.mk true [AV.sl (4 : Nat) (0 : Nat) (1 : Nat) (0 : Nat) n0 c0, AV.int IntKind.i64 (↑s0 : Int), AV.sl (6 : Nat) (0 : Nat) (1 : Nat) (0 : Nat) n1 c1, AV.int IntKind.i64 (↑s1 : Int), AV.int IntKind.i64 N] (0 : Nat) (0 : Nat) (fun x => []) [] none),
            some (Blk.mk true [AV.int IntKind.i64 N, AV.sl (5 : Nat) (0 : Nat) (1 : Nat) (0 : Nat) n0 d0, AV.sl (7 : Nat) (0 : Nat) (1 : Nat) (0 : Nat) n1 d1, AV.int IntKind.i64 (↑s0 : Int), AV.int IntKind.i64 (↑s1 : Int)] (0 : Nat) (0 : Nat) (fun x => []) [] none), some (Blk.mk true [] (1 : Nat) b0 (fun j => [AV.int IntKind.u8 (f0 j)]) [] none),
            some (Blk.mk true [] (1 : Nat) e0 (fun j => [AV.int IntKind.u8 (g0 j)]) [] none), some (Blk.mk true [] (1 : Nat) b1 (fun j => [AV.int IntKind.u8 (f1 j)]) [] none), some (Blk.mk true [] (1 : Nat) e1 (fun j => [AV.int IntKind.u8 (g1 j)]) [] none)])) := by
  kernel_rfl

theorem pl_b11 (x : FD) (kd ar nn : Nat → Int) (len cap i : Nat) (N : Int) (n0 s0 c0 b0 : Nat) (f0 : Nat → Int) (d0 e0 : Nat) (g0 : Nat → Int) (n1 s1 c1 b1 : Nat) (f1 : Nat → Int) (d1 e1 : Nat) (g1 : Nat → Int) : T.cut (keepT [1, 4, 5, 7, 9, 10] (acodeL Try.prog plE ((chainOf plD).take 3) (plSt ⟨x, kd, ar, nn, len, cap, N, i, ⟨true, n0, s0, c0, b0, f0, d0, e0, g0⟩, ⟨true, n1, s1, c1, b1, f1, d1, e1, g1⟩⟩))) [2, 1, 0, 2, 0] = 
  T.chk (decide ((0 : Int) ≤ (↑i : Int)) && decide ((↑i : Int) < (↑len : Int)))
    (T.chk (decide ((0 : Nat) + Int.toNat (↑i : Int) < cap))
      (T.chk (decide ((0 : Nat) + Int.toNat (↑i : Int) < cap))
        (T.chk (decide ((0 : Nat) + Int.toNat (↑i : Int) < cap))
          (T.chk (decide ((0 : Nat) + Int.toNat (↑i : Int) < cap))
            (T.ite (FD.nl x [(0 : Nat) + Int.toNat (↑i : Int)])
              (@T.chk (Ex × St) true
                (T.ret
                  (Ex.norm,
                    St.mk [((1 : Nat), AV.sl (1 : Nat) (0 : Nat) (4 : Nat) (0 : Nat) len cap), ((5 : Nat), AV.ptr (2 : Nat) (0 : Nat) (0 : Nat) (0 : Nat)), ((7 : Nat), AV.ptr (3 : Nat) (0 : Nat) (0 : Nat) (0 : Nat)), ((9 : Nat), AV.int IntKind.i64 (↑i : Int)), ((10 : Nat), AV.ptr (8 : Nat) (0 : Nat) (0 : Nat) (0 : Nat))]
                      [some (Blk.mk false [] (0 : Nat) (0 : Nat) (fun x => []) [] (some fun js => Mem.mk (FD.nl x js) (FD.ad x js) (FD.ln x js) (FD.cp x js) (1 : Nat) fun q => [AV.int IntKind.u8 (FD.z x (q :: js))])), some (Blk.mk false [] (4 : Nat) cap (fun r => [AV.int IntKind.i64 (kd r), AV.int IntKind.i64 (ar r), AV.int IntKind.i64 (nn r), AV.part (0 : Nat) [r]]) [] none),
                        some (Blk.mk true [AV.sl (4 : Nat) (0 : Nat) (1 : Nat) (0 : Nat) n0 c0, AV.int IntKind.i64 (↑s0 : Int), AV.sl (6 : Nat) (0 : Nat) (1 : Nat) (0 : Nat) n1 c1, AV.int IntKind.i64 (↑s1 : Int), AV.int IntKind.i64 N] (0 : Nat) (0 : Nat) (fun x => []) [] none),
                        some (Blk.mk true [AV.int IntKind.i64 N, AV.sl (5 : Nat) (0 : Nat) (1 : Nat) (0 : Nat) n0 d0, AV.sl (7 : Nat) (0 : Nat) (1 : Nat) (0 : Nat) n1 d1, AV.int IntKind.i64 (↑s0 : Int), AV.int IntKind.i64 (↑s1 : Int)] (0 : Nat) (0 : Nat) (fun x => []) [] none), some (Blk.mk true [] (1 : Nat) b0 (fun j => [AV.int IntKind.u8 (f0 j)]) [] none),
                        some (Blk.mk true [] (1 : Nat) e0 (fun j => [AV.int IntKind.u8 (g0 j)]) [] none), some (Blk.mk true [] (1 : Nat) b1 (fun j => [AV.int IntKind.u8 (f1 j)]) [] none), some (Blk.mk true [] (1 : Nat) e1 (fun j => [AV.int IntKind.u8 (g1 j)]) [] none),
                        some (Blk.mk true [AV.int IntKind.i64 (kd ((0 : Nat) + Int.toNat (↑i : Int))), AV.int IntKind.i64 (ar ((0 : Nat) + Int.toNat (↑i : Int))), AV.int IntKind.i64 (nn ((0 : Nat) + Int.toNat (↑i : Int))), AV.part (0 : Nat) [(0 : Nat) + Int.toNat (↑i : Int)]] (0 : Nat) (0 : Nat) (fun a => []) [] none)])))
              (T.ite (decide ((↑(FD.ln x [(0 : Nat) + Int.toNat (↑i : Int)]) : Int) > (4096 : Int)))
                (T.ret
                  (Ex.ret,
                    St.mk [((1 : Nat), AV.sl (1 : Nat) (0 : Nat) (4 : Nat) (0 : Nat) len cap), ((4 : Nat), AV.bool true), ((5 : Nat), AV.ptr (2 : Nat) (0 : Nat) (0 : Nat) (0 : Nat)), ((7 : Nat), AV.ptr (3 : Nat) (0 : Nat) (0 : Nat) (0 : Nat)), ((9 : Nat), AV.int IntKind.i64 (↑i : Int)), ((10 : Nat), AV.ptr (8 : Nat) (0 : Nat) (0 : Nat) (0 : Nat))]
                      [some (Blk.mk false [] (0 : Nat) (0 : Nat) (fun x => []) [] (some fun js => Mem.mk (FD.nl x js) (FD.ad x js) (FD.ln x js) (FD.cp x js) (1 : Nat) fun q => [AV.int IntKind.u8 (FD.z x (q :: js))])), some (Blk.mk false [] (4 : Nat) cap (fun r => [AV.int IntKind.i64 (kd r), AV.int IntKind.i64 (ar r), AV.int IntKind.i64 (nn r), AV.part (0 : Nat) [r]]) [] none),
                        some (Blk.mk true [AV.sl (4 : Nat) (0 : Nat) (1 : Nat) (0 : Nat) n0 c0, AV.int IntKind.i64 (↑s0 : Int), AV.sl (6 : Nat) (0 : Nat) (1 : Nat) (0 : Nat) n1 c1, AV.int IntKind.i64 (↑s1 : Int), AV.int IntKind.i64 N] (0 : Nat) (0 : Nat) (fun x => []) [] none),
                        some (Blk.mk true [AV.int IntKind.i64 N, AV.sl (5 : Nat) (0 : Nat) (1 : Nat) (0 : Nat) n0 d0, AV.sl (7 : Nat) (0 : Nat) (1 : Nat) (0 : Nat) n1 d1, AV.int IntKind.i64 (↑s0 : Int), AV.int IntKind.i64 (↑s1 : Int)] (0 : Nat) (0 : Nat) (fun x => []) [] none), some (Blk.mk true [] (1 : Nat) b0 (fun j => [AV.int IntKind.u8 (f0 j)]) [] none),
                        some (Blk.mk true [] (1 : Nat) e0 (fun j => [AV.int IntKind.u8 (g0 j)]) [] none), some (Blk.mk true [] (1 : Nat) b1 (fun j => [AV.int IntKind.u8 (f1 j)]) [] none), some (Blk.mk true [] (1 : Nat) e1 (fun j => [AV.int IntKind.u8 (g1 j)]) [] none),
                        some (Blk.mk true [AV.int IntKind.i64 (kd ((0 : Nat) + Int.toNat (↑i : Int))), AV.int IntKind.i64 (ar ((0 : Nat) + Int.toNat (↑i : Int))), AV.int IntKind.i64 (nn ((0 : Nat) + Int.toNat (↑i : Int))), AV.part (0 : Nat) [(0 : Nat) + Int.toNat (↑i : Int)]] (0 : Nat) (0 : Nat) (fun a => []) [] none),
                        some (Blk.mk false [] (1 : Nat) (FD.cp x [(0 : Nat) + Int.toNat (↑i : Int)]) (fun a => [AV.int IntKind.u8 (FD.z x [a, (0 : Nat) + Int.toNat (↑i : Int)])]) [] none)]))
                (T.ret
                  (Ex.norm,
                    St.mk [((1 : Nat), AV.sl (1 : Nat) (0 : Nat) (4 : Nat) (0 : Nat) len cap), ((5 : Nat), AV.ptr (2 : Nat) (0 : Nat) (0 : Nat) (0 : Nat)), ((7 : Nat), AV.ptr (3 : Nat) (0 : Nat) (0 : Nat) (0 : Nat)), ((9 : Nat), AV.int IntKind.i64 (↑i : Int)), ((10 : Nat), AV.ptr (8 : Nat) (0 : Nat) (0 : Nat) (0 : Nat))]
                      [some (Blk.mk false [] (0 : Nat) (0 : Nat) (fun x => []) [] (some fun js => Mem.mk (FD.nl x js) (FD.ad x js) (FD.ln x js) (FD.cp x js) (1 : Nat) fun q => [AV.int IntKind.u8 (FD.z x (q :: js))])), some (Blk.mk false [] (4 : Nat) cap (fun r => [AV.int IntKind.i64 (kd r), AV.int IntKind.i64 (ar r), AV.int IntKind.i64 (nn r), AV.part (0 : Nat) [r]]) [] none),
                        some (Blk.mk true [AV.sl (4 : Nat) (0 : Nat) (1 : Nat) (0 : Nat) n0 c0, AV.int IntKind.i64 (↑s0 : Int), AV.sl (6 : Nat) (0 : Nat) (1 : Nat) (0 : Nat) n1 c1, AV.int IntKind.i64 (↑s1 : Int), AV.int IntKind.i64 N] (0 : Nat) (0 : Nat) (fun x => []) [] none),
                        some (Blk.mk true [AV.int IntKind.i64 N, AV.sl (5 : Nat) (0 : Nat) (1 : Nat) (0 : Nat) n0 d0, AV.sl (7 : Nat) (0 : Nat) (1 : Nat) (0 : Nat) n1 d1, AV.int IntKind.i64 (↑s0 : Int), AV.int IntKind.i64 (↑s1 : Int)] (0 : Nat) (0 : Nat) (fun x => []) [] none), some (Blk.mk true [] (1 : Nat) b0 (fun j => [AV.int IntKind.u8 (f0 j)]) [] none),
                        some (Blk.mk true [] (1 : Nat) e0 (fun j => [AV.int IntKind.u8 (g0 j)]) [] none), some (Blk.mk true [] (1 : Nat) b1 (fun j => [AV.int IntKind.u8 (f1 j)]) [] none), some (Blk.mk true [] (1 : Nat) e1 (fun j => [AV.int IntKind.u8 (g1 j)]) [] none),
                        some (Blk.mk true [AV.int IntKind.i64 (kd ((0 : Nat) + Int.toNat (↑i : Int))), AV.int IntKind.i64 (ar ((0 : Nat) + Int.toNat (↑i : Int))), AV.int IntKind.i64 (nn ((0 : Nat) + Int.toNat (↑i : Int))), AV.part (0 : Nat) [(0 : Nat) + Int.toNat (↑i : Int)]] (0 : Nat) (0 : Nat) (fun a => []) [] none),
                        some (Blk.mk false [] (1 : Nat) (FD.cp x [(0 : Nat) + Int.toNat (↑i : Int)]) (fun a => [AV.int IntKind.u8 (FD.z x [a, (0 : Nat) + Int.toNat (↑i : Int)])]) [] none)])))))))) := by
  kernel_rfl

theorem pl_c11 (x : FD) (kd ar nn : Nat → Int) (len cap i : Nat) (N : Int) (n0 s0 c0 b0 : Nat) (f0 : Nat → Int) (d0 e0 : Nat) (g0 : Nat → Int) (n1 s1 c1 b1 : Nat) (f1 : Nat → Int) (d1 e1 : Nat) (g1 : Nat → Int) : T.cut (keepT [1, 5, 7, 9] (acodeL Try.prog plE ((chainOf plC).drop 3) (plSt ⟨x, kd, ar, nn, len, cap, N, i, ⟨true, n0, s0, c0, b0, f0, d0, e0, g0⟩, ⟨true, n1, s1, c1, b1, f1, d1, e1, g1⟩⟩))) [] = 
  T.ret
    (Ex.norm,
      St.mk [((1 : Nat), AV.sl (1 : Nat) (0 : Nat) (4 : Nat) (0 : Nat) len cap), ((5 : Nat), AV.ptr (2 : Nat) (0 : Nat) (0 : Nat) (0 : Nat)), ((7 : Nat), AV.ptr (3 : Nat) (0 : Nat) (0 : Nat) (0 : Nat)), ((9 : Nat), AV.int IntKind.i64 (IntKind.wrap IntKind.i64 ((↑i : Int) + (1 : Int))))]
        [some (Blk.mk false [] (0 : Nat) (0 : Nat) (fun x => []) [] (some fun js => Mem.mk (FD.nl x js) (FD.ad x js) (FD.ln x js) (FD.cp x js) (1 : Nat) fun q => [AV.int IntKind.u8 (FD.z x (q :: js))])), some (Blk.mk false [] (4 : Nat) cap (fun r => [AV.int IntKind.i64 (kd r), AV.int IntKind.i64 (ar r), AV.int IntKind.i64 (nn r), AV.part (0 : Nat) [r]]) [] none),
          some (Blk.mk true [AV.sl (4 : Nat) (0 : Nat) (1 : Nat) (0 : Nat) n0 c0, AV.int IntKind.i64 (↑s0 : Int), AV.sl (6 : Nat) (0 : Nat) (1 : Nat) (0 : Nat) n1 c1, AV.int IntKind.i64 (↑s1 : Int), AV.int IntKind.i64 N] (0 : Nat) (0 : Nat) (fun x => []) [] none),
          some (Blk.mk true [AV.int IntKind.i64 N, AV.sl (5 : Nat) (0 : Nat) (1 : Nat) (0 : Nat) n0 d0, AV.sl (7 : Nat) (0 : Nat) (1 : Nat) (0 : Nat) n1 d1, AV.int IntKind.i64 (↑s0 : Int), AV.int IntKind.i64 (↑s1 : Int)] (0 : Nat) (0 : Nat) (fun x => []) [] none), some (Blk.mk true [] (1 : Nat) b0 (fun j => [AV.int IntKind.u8 (f0 j)]) [] none),
          some (Blk.mk true [] (1 : Nat) e0 (fun j => [AV.int IntKind.u8 (g0 j)]) [] none), some (Blk.mk true [] (1 : Nat) b1 (fun j => [AV.int IntKind.u8 (f1 j)]) [] none), some (Blk.mk true [] (1 : Nat) e1 (fun j => [AV.int IntKind.u8 (g1 j)]) [] none)]) := by
  kernel_rfl

end Go.Proofs.Ytemgmcchepmicaa
