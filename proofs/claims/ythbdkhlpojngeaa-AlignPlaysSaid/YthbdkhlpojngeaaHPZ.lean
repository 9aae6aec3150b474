/-
  Layer 19: AlignPlays: the other pieces.
-/
import Derived.Test.YthbdkhlpojngeaaHI
namespace Go.Proofs.Ythbdkhlpojngeaa
open Go.Ox
set_option maxRecDepth 100000
set_option linter.unusedVariables false
set_option linter.unusedSimpArgs false

theorem ph_t0 (N : Nat) (z y : Nat → Int) (len cap : Nat) (t : AL) (s : RA) (i : Nat) : keepT [0, 1, 5, 6, 7] (acodeL Try.prog plE ((chainOf plO).take 2) (plSt ⟨N, z, y, len, cap, t, s, false, fun _ => 0, 0, 0, i, 0⟩)) = 
  T.ite (decide ((↑i : Int) < (↑len : Int)))
    (T.ite (decide ((↑i : Int) < (300 : Int)))
      (T.ret
        (Ex.norm,
          St.mk [((0 : Nat), AV.int IntKind.i64 (↑N : Int)), ((1 : Nat), AV.sl (0 : Nat) (0 : Nat) (2 : Nat) (0 : Nat) len cap), ((5 : Nat), AV.ptr (1 : Nat) (0 : Nat) (0 : Nat) (0 : Nat)), ((6 : Nat), AV.ptr (2 : Nat) (0 : Nat) (0 : Nat) (0 : Nat)), ((7 : Nat), AV.int IntKind.i64 (↑i : Int))]
            [some (Blk.mk false [] (2 : Nat) cap (fun r => [AV.int IntKind.i64 (z r), AV.int IntKind.i64 (y r)]) [] none), some (Blk.mk true [AV.int IntKind.i64 (AL.n t)] (1 : Nat) (96 : Nat) (fun j => [AV.bool (AL.B t j)]) [AV.int IntKind.i64 (AL.c t), AV.int IntKind.i64 (AL.w t), AV.int IntKind.i64 (AL.l t), AV.bool (AL.d t)] none),
              some (Blk.mk true [AV.int IntKind.i64 (RA.n s), AV.nils, AV.bool (RA.w s), AV.bool (RA.d s), AV.int IntKind.i64 (RA.no s), AV.int IntKind.i64 (RA.co s)] (0 : Nat) (0 : Nat) (fun x => []) [] none)]))
      (T.ret
        (Ex.exit (0 : Nat),
          St.mk [((0 : Nat), AV.int IntKind.i64 (↑N : Int)), ((1 : Nat), AV.sl (0 : Nat) (0 : Nat) (2 : Nat) (0 : Nat) len cap), ((5 : Nat), AV.ptr (1 : Nat) (0 : Nat) (0 : Nat) (0 : Nat)), ((6 : Nat), AV.ptr (2 : Nat) (0 : Nat) (0 : Nat) (0 : Nat)), ((7 : Nat), AV.int IntKind.i64 (↑i : Int))]
            [some (Blk.mk false [] (2 : Nat) cap (fun r => [AV.int IntKind.i64 (z r), AV.int IntKind.i64 (y r)]) [] none), some (Blk.mk true [AV.int IntKind.i64 (AL.n t)] (1 : Nat) (96 : Nat) (fun j => [AV.bool (AL.B t j)]) [AV.int IntKind.i64 (AL.c t), AV.int IntKind.i64 (AL.w t), AV.int IntKind.i64 (AL.l t), AV.bool (AL.d t)] none),
              some (Blk.mk true [AV.int IntKind.i64 (RA.n s), AV.nils, AV.bool (RA.w s), AV.bool (RA.d s), AV.int IntKind.i64 (RA.no s), AV.int IntKind.i64 (RA.co s)] (0 : Nat) (0 : Nat) (fun x => []) [] none)])))
    (T.ret
      (Ex.exit (0 : Nat),
        St.mk [((0 : Nat), AV.int IntKind.i64 (↑N : Int)), ((1 : Nat), AV.sl (0 : Nat) (0 : Nat) (2 : Nat) (0 : Nat) len cap), ((5 : Nat), AV.ptr (1 : Nat) (0 : Nat) (0 : Nat) (0 : Nat)), ((6 : Nat), AV.ptr (2 : Nat) (0 : Nat) (0 : Nat) (0 : Nat)), ((7 : Nat), AV.int IntKind.i64 (↑i : Int))]
          [some (Blk.mk false [] (2 : Nat) cap (fun r => [AV.int IntKind.i64 (z r), AV.int IntKind.i64 (y r)]) [] none), some (Blk.mk true [AV.int IntKind.i64 (AL.n t)] (1 : Nat) (96 : Nat) (fun j => [AV.bool (AL.B t j)]) [AV.int IntKind.i64 (AL.c t), AV.int IntKind.i64 (AL.w t), AV.int IntKind.i64 (AL.l t), AV.bool (AL.d t)] none),
            some (Blk.mk true [AV.int IntKind.i64 (RA.n s), AV.nils, AV.bool (RA.w s), AV.bool (RA.d s), AV.int IntKind.i64 (RA.no s), AV.int IntKind.i64 (RA.co s)] (0 : Nat) (0 : Nat) (fun x => []) [] none)])) := by
  kernel_rfl

theorem ph_t1 (N : Nat) (z y : Nat → Int) (len cap : Nat) (t : AL) (s : RA) (f : Nat → Int) (ll lc i : Nat) : keepT [0, 1, 5, 6, 7] (acodeL Try.prog plE ((chainOf plO).take 2) (plSt ⟨N, z, y, len, cap, t, s, true, f, ll, lc, i, 0⟩)) = 
  T.ite (decide ((↑i : Int) < (↑len : Int)))
    (T.ite (decide ((↑i : Int) < (300 : Int)))
      (T.ret
        (Ex.norm,
          St.mk [((0 : Nat), AV.int IntKind.i64 (↑N : Int)), ((1 : Nat), AV.sl (0 : Nat) (0 : Nat) (2 : Nat) (0 : Nat) len cap), ((5 : Nat), AV.ptr (1 : Nat) (0 : Nat) (0 : Nat) (0 : Nat)), ((6 : Nat), AV.ptr (2 : Nat) (0 : Nat) (0 : Nat) (0 : Nat)), ((7 : Nat), AV.int IntKind.i64 (↑i : Int))]
            [some (Blk.mk false [] (2 : Nat) cap (fun r => [AV.int IntKind.i64 (z r), AV.int IntKind.i64 (y r)]) [] none), some (Blk.mk true [AV.int IntKind.i64 (AL.n t)] (1 : Nat) (96 : Nat) (fun j => [AV.bool (AL.B t j)]) [AV.int IntKind.i64 (AL.c t), AV.int IntKind.i64 (AL.w t), AV.int IntKind.i64 (AL.l t), AV.bool (AL.d t)] none),
              some (Blk.mk true [AV.int IntKind.i64 (RA.n s), AV.sl (3 : Nat) (0 : Nat) (1 : Nat) (0 : Nat) ll lc, AV.bool (RA.w s), AV.bool (RA.d s), AV.int IntKind.i64 (RA.no s), AV.int IntKind.i64 (RA.co s)] (0 : Nat) (0 : Nat) (fun x => []) [] none), some (Blk.mk true [] (1 : Nat) lc (fun j => [AV.int IntKind.i64 (f j)]) [] none)]))
      (T.ret
        (Ex.exit (0 : Nat),
          St.mk [((0 : Nat), AV.int IntKind.i64 (↑N : Int)), ((1 : Nat), AV.sl (0 : Nat) (0 : Nat) (2 : Nat) (0 : Nat) len cap), ((5 : Nat), AV.ptr (1 : Nat) (0 : Nat) (0 : Nat) (0 : Nat)), ((6 : Nat), AV.ptr (2 : Nat) (0 : Nat) (0 : Nat) (0 : Nat)), ((7 : Nat), AV.int IntKind.i64 (↑i : Int))]
            [some (Blk.mk false [] (2 : Nat) cap (fun r => [AV.int IntKind.i64 (z r), AV.int IntKind.i64 (y r)]) [] none), some (Blk.mk true [AV.int IntKind.i64 (AL.n t)] (1 : Nat) (96 : Nat) (fun j => [AV.bool (AL.B t j)]) [AV.int IntKind.i64 (AL.c t), AV.int IntKind.i64 (AL.w t), AV.int IntKind.i64 (AL.l t), AV.bool (AL.d t)] none),
              some (Blk.mk true [AV.int IntKind.i64 (RA.n s), AV.sl (3 : Nat) (0 : Nat) (1 : Nat) (0 : Nat) ll lc, AV.bool (RA.w s), AV.bool (RA.d s), AV.int IntKind.i64 (RA.no s), AV.int IntKind.i64 (RA.co s)] (0 : Nat) (0 : Nat) (fun x => []) [] none), some (Blk.mk true [] (1 : Nat) lc (fun j => [AV.int IntKind.i64 (f j)]) [] none)])))
    (T.ret
      (Ex.exit (0 : Nat),
        St.mk [((0 : Nat), AV.int IntKind.i64 (↑N : Int)), ((1 : Nat), AV.sl (0 : Nat) (0 : Nat) (2 : Nat) (0 : Nat) len cap), ((5 : Nat), AV.ptr (1 : Nat) (0 : Nat) (0 : Nat) (0 : Nat)), ((6 : Nat), AV.ptr (2 : Nat) (0 : Nat) (0 : Nat) (0 : Nat)), ((7 : Nat), AV.int IntKind.i64 (↑i : Int))]
          [some (Blk.mk false [] (2 : Nat) cap (fun r => [AV.int IntKind.i64 (z r), AV.int IntKind.i64 (y r)]) [] none), some (Blk.mk true [AV.int IntKind.i64 (AL.n t)] (1 : Nat) (96 : Nat) (fun j => [AV.bool (AL.B t j)]) [AV.int IntKind.i64 (AL.c t), AV.int IntKind.i64 (AL.w t), AV.int IntKind.i64 (AL.l t), AV.bool (AL.d t)] none),
            some (Blk.mk true [AV.int IntKind.i64 (RA.n s), AV.sl (3 : Nat) (0 : Nat) (1 : Nat) (0 : Nat) ll lc, AV.bool (RA.w s), AV.bool (RA.d s), AV.int IntKind.i64 (RA.no s), AV.int IntKind.i64 (RA.co s)] (0 : Nat) (0 : Nat) (fun x => []) [] none), some (Blk.mk true [] (1 : Nat) lc (fun j => [AV.int IntKind.i64 (f j)]) [] none)])) := by
  kernel_rfl

theorem pr_t0 (N : Nat) (z y : Nat → Int) (len cap : Nat) (t : AL) (s : RA) (i : Nat) : keepT [0, 1, 5, 6, 7] (acodeL Try.prog plE ((chainOf plC).drop 2) (plSt ⟨N, z, y, len, cap, t, s, false, fun _ => 0, 0, 0, i, 0⟩)) = 
  T.need
    (∃ ρ,
      SubSt (1 : Nat) ρ
        (St.mk [((0 : Nat), AV.int IntKind.i64 (↑N : Int)), ((1 : Nat), AV.sl (0 : Nat) (0 : Nat) (2 : Nat) (0 : Nat) len cap), ((5 : Nat), AV.ptr (1 : Nat) (0 : Nat) (0 : Nat) (0 : Nat)), ((6 : Nat), AV.ptr (2 : Nat) (0 : Nat) (0 : Nat) (0 : Nat)), ((7 : Nat), AV.int IntKind.i64 (↑i : Int)), ((8 : Nat), AV.int IntKind.i64 (-1 : Int))]
          [some (Blk.mk false [] (2 : Nat) cap (fun r => [AV.int IntKind.i64 (z r), AV.int IntKind.i64 (y r)]) [] none), some (Blk.mk true [AV.int IntKind.i64 (AL.n t)] (1 : Nat) (96 : Nat) (fun j => [AV.bool (AL.B t j)]) [AV.int IntKind.i64 (AL.c t), AV.int IntKind.i64 (AL.w t), AV.int IntKind.i64 (AL.l t), AV.bool (AL.d t)] none),
            some (Blk.mk true [AV.int IntKind.i64 (RA.n s), AV.nils, AV.bool (RA.w s), AV.bool (RA.d s), AV.int IntKind.i64 (RA.no s), AV.int IntKind.i64 (RA.co s)] (0 : Nat) (0 : Nat) (fun x => []) [] none)])
        (inSt (PL.mk (natOf (AV.int IntKind.i64 (↑N : Int))) (fun r => intA (AV.int IntKind.i64 (z r))) (fun r => intA (AV.int IntKind.i64 (y r))) len cap (stA (alB t)) (raOf (raB s (plL (0 : Nat) (0 : Nat) false))) false (fun x => (0 : Int)) (0 : Nat) (0 : Nat) (natOf (AV.int IntKind.i64 (↑i : Int))) (0 : Nat))))
    (T.need (inInv (PL.mk (natOf (AV.int IntKind.i64 (↑N : Int))) (fun r => intA (AV.int IntKind.i64 (z r))) (fun r => intA (AV.int IntKind.i64 (y r))) len cap (stA (alB t)) (raOf (raB s (plL (0 : Nat) (0 : Nat) false))) false (fun x => (0 : Int)) (0 : Nat) (0 : Nat) (natOf (AV.int IntKind.i64 (↑i : Int))) (0 : Nat)))
      (T.ret
        (Ex.norm,
          St.mk [((0 : Nat), AV.int IntKind.i64 (↑(natOf (AV.int IntKind.i64 (↑N : Int))) : Int)), ((1 : Nat), AV.sl (0 : Nat) (0 : Nat) (2 : Nat) (0 : Nat) len cap), ((5 : Nat), AV.ptr (1 : Nat) (0 : Nat) (0 : Nat) (0 : Nat)), ((6 : Nat), AV.ptr (2 : Nat) (0 : Nat) (0 : Nat) (0 : Nat)), ((7 : Nat), AV.int IntKind.i64 (↑(natOf (AV.int IntKind.i64 (↑i : Int))) : Int))]
            [some (Blk.mk false [] (2 : Nat) cap (fun r => [AV.int IntKind.i64 (intA (AV.int IntKind.i64 (z r))), AV.int IntKind.i64 (intA (AV.int IntKind.i64 (y r)))]) [] none),
              some (Blk.mk true [AV.int IntKind.i64 (intA (AV.int IntKind.i64 (AL.n t)))] (1 : Nat) (96 : Nat) (fun j => [AV.bool (boolA (AV.bool (AL.B t j)))]) [AV.int IntKind.i64 (intA (AV.int IntKind.i64 (AL.c t))), AV.int IntKind.i64 (intA (AV.int IntKind.i64 (AL.w t))), AV.int IntKind.i64 (intA (AV.int IntKind.i64 (AL.l t))), AV.bool (boolA (AV.bool (AL.d t)))] none),
              some (Blk.mk true [AV.int IntKind.i64 (intA (AV.int IntKind.i64 (RA.n s))), AV.nils, AV.bool (boolA (AV.bool (RA.w s))), AV.bool (boolA (AV.bool (RA.d s))), AV.int IntKind.i64 (intA (AV.int IntKind.i64 (RA.no s))), AV.int IntKind.i64 (intA (AV.int IntKind.i64 (RA.co s)))] (0 : Nat) (0 : Nat) (fun x => []) [] none)]))) := by
  kernel_rfl

theorem pr_t1 (N : Nat) (z y : Nat → Int) (len cap : Nat) (t : AL) (s : RA) (f : Nat → Int) (ll lc i : Nat) : keepT [0, 1, 5, 6, 7] (acodeL Try.prog plE ((chainOf plC).drop 2) (plSt ⟨N, z, y, len, cap, t, s, true, f, ll, lc, i, 0⟩)) = 
  T.need
    (∃ ρ,
      SubSt (1 : Nat) ρ
        (St.mk [((0 : Nat), AV.int IntKind.i64 (↑N : Int)), ((1 : Nat), AV.sl (0 : Nat) (0 : Nat) (2 : Nat) (0 : Nat) len cap), ((5 : Nat), AV.ptr (1 : Nat) (0 : Nat) (0 : Nat) (0 : Nat)), ((6 : Nat), AV.ptr (2 : Nat) (0 : Nat) (0 : Nat) (0 : Nat)), ((7 : Nat), AV.int IntKind.i64 (↑i : Int)), ((8 : Nat), AV.int IntKind.i64 (-1 : Int))]
          [some (Blk.mk false [] (2 : Nat) cap (fun r => [AV.int IntKind.i64 (z r), AV.int IntKind.i64 (y r)]) [] none), some (Blk.mk true [AV.int IntKind.i64 (AL.n t)] (1 : Nat) (96 : Nat) (fun j => [AV.bool (AL.B t j)]) [AV.int IntKind.i64 (AL.c t), AV.int IntKind.i64 (AL.w t), AV.int IntKind.i64 (AL.l t), AV.bool (AL.d t)] none),
            some (Blk.mk true [AV.int IntKind.i64 (RA.n s), AV.sl (3 : Nat) (0 : Nat) (1 : Nat) (0 : Nat) ll lc, AV.bool (RA.w s), AV.bool (RA.d s), AV.int IntKind.i64 (RA.no s), AV.int IntKind.i64 (RA.co s)] (0 : Nat) (0 : Nat) (fun x => []) [] none), some (Blk.mk true [] (1 : Nat) lc (fun j => [AV.int IntKind.i64 (f j)]) [] none)])
        (inSt (PL.mk (natOf (AV.int IntKind.i64 (↑N : Int))) (fun r => intA (AV.int IntKind.i64 (z r))) (fun r => intA (AV.int IntKind.i64 (y r))) len cap (stA (alB t)) (raOf (raB s (plL ll lc true))) true f ll lc (natOf (AV.int IntKind.i64 (↑i : Int))) (0 : Nat))))
    (T.need (inInv (PL.mk (natOf (AV.int IntKind.i64 (↑N : Int))) (fun r => intA (AV.int IntKind.i64 (z r))) (fun r => intA (AV.int IntKind.i64 (y r))) len cap (stA (alB t)) (raOf (raB s (plL ll lc true))) true f ll lc (natOf (AV.int IntKind.i64 (↑i : Int))) (0 : Nat)))
      (T.ret
        (Ex.norm,
          St.mk [((0 : Nat), AV.int IntKind.i64 (↑(natOf (AV.int IntKind.i64 (↑N : Int))) : Int)), ((1 : Nat), AV.sl (0 : Nat) (0 : Nat) (2 : Nat) (0 : Nat) len cap), ((5 : Nat), AV.ptr (1 : Nat) (0 : Nat) (0 : Nat) (0 : Nat)), ((6 : Nat), AV.ptr (2 : Nat) (0 : Nat) (0 : Nat) (0 : Nat)), ((7 : Nat), AV.int IntKind.i64 (↑(natOf (AV.int IntKind.i64 (↑i : Int))) : Int))]
            [some (Blk.mk false [] (2 : Nat) cap (fun r => [AV.int IntKind.i64 (intA (AV.int IntKind.i64 (z r))), AV.int IntKind.i64 (intA (AV.int IntKind.i64 (y r)))]) [] none),
              some (Blk.mk true [AV.int IntKind.i64 (intA (AV.int IntKind.i64 (AL.n t)))] (1 : Nat) (96 : Nat) (fun j => [AV.bool (boolA (AV.bool (AL.B t j)))]) [AV.int IntKind.i64 (intA (AV.int IntKind.i64 (AL.c t))), AV.int IntKind.i64 (intA (AV.int IntKind.i64 (AL.w t))), AV.int IntKind.i64 (intA (AV.int IntKind.i64 (AL.l t))), AV.bool (boolA (AV.bool (AL.d t)))] none),
              some (Blk.mk true [AV.int IntKind.i64 (intA (AV.int IntKind.i64 (RA.n s))), AV.sl (3 : Nat) (0 : Nat) (1 : Nat) (0 : Nat) ll lc, AV.bool (boolA (AV.bool (RA.w s))), AV.bool (boolA (AV.bool (RA.d s))), AV.int IntKind.i64 (intA (AV.int IntKind.i64 (RA.no s))), AV.int IntKind.i64 (intA (AV.int IntKind.i64 (RA.co s)))] (0 : Nat) (0 : Nat) (fun x => []) [] none),
              some (Blk.mk true [] (1 : Nat) lc (fun j => [AV.int IntKind.i64 (f j)]) [] none)]))) := by
  kernel_rfl

theorem pe_t0 (N : Nat) (z y : Nat → Int) (len cap : Nat) (t : AL) (s : RA) (i : Nat) : keepT [0, 1, 5, 6, 7] (acodeL Try.prog plE ((chainOf plO).drop 3) (plSt ⟨N, z, y, len, cap, t, s, false, fun _ => 0, 0, 0, i, 0⟩)) = 
  T.ret
    (Ex.norm,
      St.mk [((0 : Nat), AV.int IntKind.i64 (↑N : Int)), ((1 : Nat), AV.sl (0 : Nat) (0 : Nat) (2 : Nat) (0 : Nat) len cap), ((5 : Nat), AV.ptr (1 : Nat) (0 : Nat) (0 : Nat) (0 : Nat)), ((6 : Nat), AV.ptr (2 : Nat) (0 : Nat) (0 : Nat) (0 : Nat)), ((7 : Nat), AV.int IntKind.i64 (IntKind.wrap IntKind.i64 ((↑i : Int) + (1 : Int))))]
        [some (Blk.mk false [] (2 : Nat) cap (fun r => [AV.int IntKind.i64 (z r), AV.int IntKind.i64 (y r)]) [] none), some (Blk.mk true [AV.int IntKind.i64 (AL.n t)] (1 : Nat) (96 : Nat) (fun j => [AV.bool (AL.B t j)]) [AV.int IntKind.i64 (AL.c t), AV.int IntKind.i64 (AL.w t), AV.int IntKind.i64 (AL.l t), AV.bool (AL.d t)] none),
          some (Blk.mk true [AV.int IntKind.i64 (RA.n s), AV.nils, AV.bool (RA.w s), AV.bool (RA.d s), AV.int IntKind.i64 (RA.no s), AV.int IntKind.i64 (RA.co s)] (0 : Nat) (0 : Nat) (fun x => []) [] none)]) := by
  kernel_rfl

theorem pe_t1 (N : Nat) (z y : Nat → Int) (len cap : Nat) (t : AL) (s : RA) (f : Nat → Int) (ll lc i : Nat) : keepT [0, 1, 5, 6, 7] (acodeL Try.prog plE ((chainOf plO).drop 3) (plSt ⟨N, z, y, len, cap, t, s, true, f, ll, lc, i, 0⟩)) = 
  T.ret
    (Ex.norm,
      St.mk [((0 : Nat), AV.int IntKind.i64 (↑N : Int)), ((1 : Nat), AV.sl (0 : Nat) (0 : Nat) (2 : Nat) (0 : Nat) len cap), ((5 : Nat), AV.ptr (1 : Nat) (0 : Nat) (0 : Nat) (0 : Nat)), ((6 : Nat), AV.ptr (2 : Nat) (0 : Nat) (0 : Nat) (0 : Nat)), ((7 : Nat), AV.int IntKind.i64 (IntKind.wrap IntKind.i64 ((↑i : Int) + (1 : Int))))]
        [some (Blk.mk false [] (2 : Nat) cap (fun r => [AV.int IntKind.i64 (z r), AV.int IntKind.i64 (y r)]) [] none), some (Blk.mk true [AV.int IntKind.i64 (AL.n t)] (1 : Nat) (96 : Nat) (fun j => [AV.bool (AL.B t j)]) [AV.int IntKind.i64 (AL.c t), AV.int IntKind.i64 (AL.w t), AV.int IntKind.i64 (AL.l t), AV.bool (AL.d t)] none),
          some (Blk.mk true [AV.int IntKind.i64 (RA.n s), AV.sl (3 : Nat) (0 : Nat) (1 : Nat) (0 : Nat) ll lc, AV.bool (RA.w s), AV.bool (RA.d s), AV.int IntKind.i64 (RA.no s), AV.int IntKind.i64 (RA.co s)] (0 : Nat) (0 : Nat) (fun x => []) [] none), some (Blk.mk true [] (1 : Nat) lc (fun j => [AV.int IntKind.i64 (f j)]) [] none)]) := by
  kernel_rfl

theorem pl_fn (N : Int) (z y : Nat → Int) (len cap : Nat) : afn Try.prog plE Try.f3 (codeOf Try.f3) [.int .i64 N, .sl 0 0 2 0 len cap] [some (Blk.rows false 2 cap fun r => [.int .i64 (z r), .int .i64 (y r)])] = 
  T.chk true
    (T.need
      (∃ ρ,
        SubSt (1 : Nat) ρ
          (St.mk [((0 : Nat), AV.int IntKind.i64 (IntKind.wrap IntKind.i64 ((1 : Int) + if (64 : Int) < (1 : Int) then (0 : Int) else N % (64 : Int)))), ((1 : Nat), AV.sl (0 : Nat) (0 : Nat) (2 : Nat) (0 : Nat) len cap), ((5 : Nat), AV.ptr (1 : Nat) (0 : Nat) (0 : Nat) (0 : Nat)), ((6 : Nat), AV.ptr (2 : Nat) (0 : Nat) (0 : Nat) (0 : Nat)), ((7 : Nat), AV.int IntKind.i64 (0 : Int))]
            [some (Blk.mk false [] (2 : Nat) cap (fun r => [AV.int IntKind.i64 (z r), AV.int IntKind.i64 (y r)]) [] none),
              some (Blk.mk true [AV.int IntKind.i64 (clampA (IntKind.wrap IntKind.i64 ((1 : Int) + if (64 : Int) < (1 : Int) then (0 : Int) else N % (64 : Int))))] (1 : Nat) (96 : Nat) (fun j => [AV.bool false]) [AV.int IntKind.i64 (0 : Int), AV.int IntKind.i64 (0 : Int), AV.int IntKind.i64 (0 : Int), AV.bool false] none),
              some (Blk.mk true [AV.int IntKind.i64 (IntKind.wrap IntKind.i64 ((1 : Int) + if (64 : Int) < (1 : Int) then (0 : Int) else N % (64 : Int))), AV.nils, AV.bool false, AV.bool false, AV.int IntKind.i64 (0 : Int), AV.int IntKind.i64 (0 : Int)] (0 : Nat) (0 : Nat) (fun j => []) [] none)])
          (plSt
            (PL.mk (Int.toNat (IntKind.wrap IntKind.i64 ((1 : Int) + if (64 : Int) < (1 : Int) then (0 : Int) else N % (64 : Int)))) (fun r => intA (AV.int IntKind.i64 (z r))) (fun r => intA (AV.int IntKind.i64 (y r))) len cap (stA (renB (out [] (1 : Nat)) (alB (newA (IntKind.wrap IntKind.i64 ((1 : Int) + if (64 : Int) < (1 : Int) then (0 : Int) else N % (64 : Int)))))))
              (raOf (renB (out [] (2 : Nat)) (raB (RA.mk (IntKind.wrap IntKind.i64 ((1 : Int) + if (64 : Int) < (1 : Int) then (0 : Int) else N % (64 : Int))) false false (0 : Int) (0 : Int)) AV.nils))) false (fun x => (0 : Int)) (0 : Nat) (0 : Nat) (0 : Nat) (0 : Nat))))
      (T.need
        (plInv
          (PL.mk (Int.toNat (IntKind.wrap IntKind.i64 ((1 : Int) + if (64 : Int) < (1 : Int) then (0 : Int) else N % (64 : Int)))) (fun r => intA (AV.int IntKind.i64 (z r))) (fun r => intA (AV.int IntKind.i64 (y r))) len cap (stA (renB (out [] (1 : Nat)) (alB (newA (IntKind.wrap IntKind.i64 ((1 : Int) + if (64 : Int) < (1 : Int) then (0 : Int) else N % (64 : Int)))))))
            (raOf (renB (out [] (2 : Nat)) (raB (RA.mk (IntKind.wrap IntKind.i64 ((1 : Int) + if (64 : Int) < (1 : Int) then (0 : Int) else N % (64 : Int))) false false (0 : Int) (0 : Int)) AV.nils))) false (fun x => (0 : Int)) (0 : Nat) (0 : Nat) (0 : Nat) (0 : Nat)))
        (T.ret (AV.bool true, [none])))) := by
  kernel_rfl

end Go.Proofs.Ythbdkhlpojngeaa
