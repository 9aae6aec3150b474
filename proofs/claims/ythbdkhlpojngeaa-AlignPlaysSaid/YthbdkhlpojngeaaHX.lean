/-
  Layer 19: AlignPlays: trees.
-/
import Derived.Test.YthbdkhlpojngeaaHT
namespace Go.Proofs.Ythbdkhlpojngeaa
open Go.Ox
set_option maxRecDepth 100000
set_option linter.unusedVariables false
set_option linter.unusedSimpArgs false

structure PL where
  N : Nat
  z : Nat → Int
  y : Nat → Int
  len : Nat
  cap : Nat
  t : AL
  s : RA
  b : Bool
  f : Nat → Int
  ll : Nat
  lc : Nat
  i : Nat
  k : Nat
def plA (x : PL) : Blk := Blk.rows false 2 x.cap fun r => [.int .i64 (x.z r), .int .i64 (x.y r)]
def plL (ll lc : Nat) : Bool → AV
  | true => .sl 3 0 1 0 ll lc
  | false => .nils
def plT (f : Nat → Int) (lc : Nat) : Bool → AM
  | true => [some (liB f lc)]
  | false => []
def plM (x : PL) : AM := some (plA x) :: some (alB x.t) :: some (raB x.s (plL x.ll x.lc x.b)) :: plT x.f x.lc x.b
def plF (x : PL) : List (Nat × AV) := [(0, .int .i64 x.N), (1, .sl 0 0 2 0 x.len x.cap), (5, .ptr 1 0 0 0), (6, .ptr 2 0 0 0), (7, .int .i64 x.i)]
def plSt (x : PL) : St := ⟨plF x, plM x⟩
def inSt (x : PL) : St := ⟨plF x ++ [(8, .int .i64 ((x.k : Int) - 1))], plM x⟩
def plInv (x : PL) : Prop := x.len ≤ x.cap ∧ Rel x.N x.t x.s x.f x.ll ∧ x.ll ≤ x.lc ∧ (x.b = false → x.ll = 0) ∧ x.i ≤ 300 ∧ x.i ≤ x.len
def inInv (x : PL) : Prop := x.len ≤ x.cap ∧ Rel x.N x.t x.s x.f x.ll ∧ x.ll ≤ x.lc ∧ (x.b = false → x.ll = 0) ∧ x.k ≤ x.N + 2
def plEnd (x : PL) : T (Ex × St) := .ret (.exit 0, ⟨[], [none]⟩)
def inEnd (x : PL) : T (Ex × St) := .ret (.exit 2, plSt x)
def plPick (st : St) : Option PL :=
  match slotAt st.fr 0, slotAt st.fr 1, AM.get st.m 0, AM.get st.m 1, AM.get st.m 2 with
  | some (.int _ n), some (.sl _ _ _ _ len cap), some b0, some b1, some b2 => some ⟨n.toNat, fun r => intA ((b0.f r).getD 0 .ff), fun r => intA ((b0.f r).getD 1 .ff), len, cap, stA b1, raOf b2, false, fun _ => 0, 0, 0, 0, 0⟩
  | _, _, _, _, _ => none
def inL (m : AM) : AV → Option (Bool × (Nat → Int) × Nat × Nat)
  | .nils => some (false, fun _ => 0, 0, 0)
  | .sl id _ _ _ ll lc => (AM.get m id).map fun c => (true, intAt c, ll, lc)
  | _ => none
def natOf : AV → Nat
  | .int _ n => n.toNat
  | _ => 0
def inPick (st : St) : Option PL :=
  match slotAt st.fr 0, slotAt st.fr 1, slotAt st.fr 7, AM.get st.m 0, AM.get st.m 1, AM.get st.m 2 with
  | some n, some (.sl _ _ _ _ len cap), some i, some b0, some b1, some b2 => (inL st.m (raL b2)).map fun l => ⟨natOf n, fun r => intA ((b0.f r).getD 0 .ff), fun r => intA ((b0.f r).getD 1 .ff), len, cap, stA b1, raOf b2, l.1, l.2.1, l.2.2.1, l.2.2.2, natOf i, 0⟩
  | _, _, _, _, _, _ => none

noncomputable def plB (nt : Nat) : Env := { laE nt with n0 := 1, loop := fun _ _ => .fail, fns := (12, .eff fun args m => lift [] m [] (nrS args)) :: (16, .pure rbS) :: (14, .eff bbS) :: (laE nt).fns }
noncomputable def plE : Env := { plB Try.f3.ntmps with loop := fun k => if k = 7 then loopSumm 1 plSt plInv plPick plEnd else if k = 12 then loopSumm 1 inSt inInv inPick inEnd else fun _ => .fail }

noncomputable def plO : Code := loopAt (codeOf Try.f3) 0
noncomputable def plI : Code := loopAt plO 0

theorem in_t0 (N : Nat) (z y : Nat → Int) (len cap : Nat) (t : AL) (s : RA) (i k : Nat) : keepT [0, 1, 5, 6, 7, 8] (acode Try.prog plE plI (inSt ⟨N, z, y, len, cap, t, s, false, fun _ => 0, 0, 0, i, k⟩)) = 
  T.ite (decide ((↑k : Int) - (1 : Int) ≤ (↑N : Int)))
    (T.need (IsAl (Blk.mk true [AV.int IntKind.i64 (AL.n t)] (1 : Nat) (96 : Nat) (fun j => [AV.bool (AL.B t j)]) [AV.int IntKind.i64 (AL.c t), AV.int IntKind.i64 (AL.w t), AV.int IntKind.i64 (AL.l t), AV.bool (AL.d t)] none))
      (T.chk (decide (intA (AV.int IntKind.i64 (AL.n t)) ≤ (96 : Int)))
        (T.need (IsRa (Blk.mk true [AV.int IntKind.i64 (RA.n s), AV.nils, AV.bool (RA.w s), AV.bool (RA.d s), AV.int IntKind.i64 (RA.no s), AV.int IntKind.i64 (RA.co s)] (0 : Nat) (0 : Nat) (fun x => []) [] none))
          (T.ite (!blkA (stA (alB t)) ((↑k : Int) - (1 : Int)) == false)
            (T.ret
              (Ex.ret,
                St.mk [((0 : Nat), AV.int IntKind.i64 (↑N : Int)), ((1 : Nat), AV.sl (0 : Nat) (0 : Nat) (2 : Nat) (0 : Nat) len cap), ((5 : Nat), AV.ptr (1 : Nat) (0 : Nat) (0 : Nat) (0 : Nat)), ((6 : Nat), AV.ptr (2 : Nat) (0 : Nat) (0 : Nat) (0 : Nat)), ((7 : Nat), AV.int IntKind.i64 (↑i : Int)), ((8 : Nat), AV.int IntKind.i64 ((↑k : Int) - (1 : Int)))]
                  [some (Blk.mk false [] (2 : Nat) cap (fun r => [AV.int IntKind.i64 (z r), AV.int IntKind.i64 (y r)]) [] none), some (Blk.mk true [AV.int IntKind.i64 (AL.n t)] (1 : Nat) (96 : Nat) (fun j => [AV.bool (AL.B t j)]) [AV.int IntKind.i64 (AL.c t), AV.int IntKind.i64 (AL.w t), AV.int IntKind.i64 (AL.l t), AV.bool (AL.d t)] none),
                    some (Blk.mk true [AV.int IntKind.i64 (RA.n s), AV.nils, AV.bool (RA.w s), AV.bool (RA.d s), AV.int IntKind.i64 (RA.no s), AV.int IntKind.i64 (RA.co s)] (0 : Nat) (0 : Nat) (fun x => []) [] none)]))
            (T.ret
              (Ex.norm,
                St.mk [((0 : Nat), AV.int IntKind.i64 (↑N : Int)), ((1 : Nat), AV.sl (0 : Nat) (0 : Nat) (2 : Nat) (0 : Nat) len cap), ((5 : Nat), AV.ptr (1 : Nat) (0 : Nat) (0 : Nat) (0 : Nat)), ((6 : Nat), AV.ptr (2 : Nat) (0 : Nat) (0 : Nat) (0 : Nat)), ((7 : Nat), AV.int IntKind.i64 (↑i : Int)), ((8 : Nat), AV.int IntKind.i64 (IntKind.wrap IntKind.i64 ((↑k : Int) - (1 : Int) + (1 : Int))))]
                  [some (Blk.mk false [] (2 : Nat) cap (fun r => [AV.int IntKind.i64 (z r), AV.int IntKind.i64 (y r)]) [] none), some (Blk.mk true [AV.int IntKind.i64 (AL.n t)] (1 : Nat) (96 : Nat) (fun j => [AV.bool (AL.B t j)]) [AV.int IntKind.i64 (AL.c t), AV.int IntKind.i64 (AL.w t), AV.int IntKind.i64 (AL.l t), AV.bool (AL.d t)] none),
                    some (Blk.mk true [AV.int IntKind.i64 (RA.n s), AV.nils, AV.bool (RA.w s), AV.bool (RA.d s), AV.int IntKind.i64 (RA.no s), AV.int IntKind.i64 (RA.co s)] (0 : Nat) (0 : Nat) (fun x => []) [] none)]))))))
    (T.ret
      (Ex.exit (2 : Nat),
        St.mk [((0 : Nat), AV.int IntKind.i64 (↑N : Int)), ((1 : Nat), AV.sl (0 : Nat) (0 : Nat) (2 : Nat) (0 : Nat) len cap), ((5 : Nat), AV.ptr (1 : Nat) (0 : Nat) (0 : Nat) (0 : Nat)), ((6 : Nat), AV.ptr (2 : Nat) (0 : Nat) (0 : Nat) (0 : Nat)), ((7 : Nat), AV.int IntKind.i64 (↑i : Int)), ((8 : Nat), AV.int IntKind.i64 ((↑k : Int) - (1 : Int)))]
          [some (Blk.mk false [] (2 : Nat) cap (fun r => [AV.int IntKind.i64 (z r), AV.int IntKind.i64 (y r)]) [] none), some (Blk.mk true [AV.int IntKind.i64 (AL.n t)] (1 : Nat) (96 : Nat) (fun j => [AV.bool (AL.B t j)]) [AV.int IntKind.i64 (AL.c t), AV.int IntKind.i64 (AL.w t), AV.int IntKind.i64 (AL.l t), AV.bool (AL.d t)] none),
            some (Blk.mk true [AV.int IntKind.i64 (RA.n s), AV.nils, AV.bool (RA.w s), AV.bool (RA.d s), AV.int IntKind.i64 (RA.no s), AV.int IntKind.i64 (RA.co s)] (0 : Nat) (0 : Nat) (fun x => []) [] none)])) := by
  kernel_rfl

theorem in_t1 (N : Nat) (z y : Nat → Int) (len cap : Nat) (t : AL) (s : RA) (f : Nat → Int) (ll lc i k : Nat) : keepT [0, 1, 5, 6, 7, 8] (acode Try.prog plE plI (inSt ⟨N, z, y, len, cap, t, s, true, f, ll, lc, i, k⟩)) = 
  T.ite (decide ((↑k : Int) - (1 : Int) ≤ (↑N : Int)))
    (T.need (IsAl (Blk.mk true [AV.int IntKind.i64 (AL.n t)] (1 : Nat) (96 : Nat) (fun j => [AV.bool (AL.B t j)]) [AV.int IntKind.i64 (AL.c t), AV.int IntKind.i64 (AL.w t), AV.int IntKind.i64 (AL.l t), AV.bool (AL.d t)] none))
      (T.chk (decide (intA (AV.int IntKind.i64 (AL.n t)) ≤ (96 : Int)))
        (T.need (IsRa (Blk.mk true [AV.int IntKind.i64 (RA.n s), AV.sl (3 : Nat) (0 : Nat) (1 : Nat) (0 : Nat) ll lc, AV.bool (RA.w s), AV.bool (RA.d s), AV.int IntKind.i64 (RA.no s), AV.int IntKind.i64 (RA.co s)] (0 : Nat) (0 : Nat) (fun x => []) [] none))
          (T.need (IntRow IntKind.i64 (Blk.mk true [] (1 : Nat) lc (fun j => [AV.int IntKind.i64 (f j)]) [] none))
            (T.chk (decide (lc = lc) && (decide (ll ≤ lc) && decide (ll ≤ (4611686018427387904 : Nat))))
              (T.ite (!blkA (stA (alB t)) ((↑k : Int) - (1 : Int)) == hasN f ((↑k : Int) - (1 : Int)) ll (0 : Nat))
                (T.ret
                  (Ex.ret,
                    St.mk [((0 : Nat), AV.int IntKind.i64 (↑N : Int)), ((1 : Nat), AV.sl (0 : Nat) (0 : Nat) (2 : Nat) (0 : Nat) len cap), ((5 : Nat), AV.ptr (1 : Nat) (0 : Nat) (0 : Nat) (0 : Nat)), ((6 : Nat), AV.ptr (2 : Nat) (0 : Nat) (0 : Nat) (0 : Nat)), ((7 : Nat), AV.int IntKind.i64 (↑i : Int)), ((8 : Nat), AV.int IntKind.i64 ((↑k : Int) - (1 : Int)))]
                      [some (Blk.mk false [] (2 : Nat) cap (fun r => [AV.int IntKind.i64 (z r), AV.int IntKind.i64 (y r)]) [] none), some (Blk.mk true [AV.int IntKind.i64 (AL.n t)] (1 : Nat) (96 : Nat) (fun j => [AV.bool (AL.B t j)]) [AV.int IntKind.i64 (AL.c t), AV.int IntKind.i64 (AL.w t), AV.int IntKind.i64 (AL.l t), AV.bool (AL.d t)] none),
                        some (Blk.mk true [AV.int IntKind.i64 (RA.n s), AV.sl (3 : Nat) (0 : Nat) (1 : Nat) (0 : Nat) ll lc, AV.bool (RA.w s), AV.bool (RA.d s), AV.int IntKind.i64 (RA.no s), AV.int IntKind.i64 (RA.co s)] (0 : Nat) (0 : Nat) (fun x => []) [] none), some (Blk.mk true [] (1 : Nat) lc (fun j => [AV.int IntKind.i64 (f j)]) [] none)]))
                (T.ret
                  (Ex.norm,
                    St.mk [((0 : Nat), AV.int IntKind.i64 (↑N : Int)), ((1 : Nat), AV.sl (0 : Nat) (0 : Nat) (2 : Nat) (0 : Nat) len cap), ((5 : Nat), AV.ptr (1 : Nat) (0 : Nat) (0 : Nat) (0 : Nat)), ((6 : Nat), AV.ptr (2 : Nat) (0 : Nat) (0 : Nat) (0 : Nat)), ((7 : Nat), AV.int IntKind.i64 (↑i : Int)), ((8 : Nat), AV.int IntKind.i64 (IntKind.wrap IntKind.i64 ((↑k : Int) - (1 : Int) + (1 : Int))))]
                      [some (Blk.mk false [] (2 : Nat) cap (fun r => [AV.int IntKind.i64 (z r), AV.int IntKind.i64 (y r)]) [] none), some (Blk.mk true [AV.int IntKind.i64 (AL.n t)] (1 : Nat) (96 : Nat) (fun j => [AV.bool (AL.B t j)]) [AV.int IntKind.i64 (AL.c t), AV.int IntKind.i64 (AL.w t), AV.int IntKind.i64 (AL.l t), AV.bool (AL.d t)] none),
                        some (Blk.mk true [AV.int IntKind.i64 (RA.n s), AV.sl (3 : Nat) (0 : Nat) (1 : Nat) (0 : Nat) ll lc, AV.bool (RA.w s), AV.bool (RA.d s), AV.int IntKind.i64 (RA.no s), AV.int IntKind.i64 (RA.co s)] (0 : Nat) (0 : Nat) (fun x => []) [] none), some (Blk.mk true [] (1 : Nat) lc (fun j => [AV.int IntKind.i64 (f j)]) [] none)]))))))))
    (T.ret
      (Ex.exit (2 : Nat),
        St.mk [((0 : Nat), AV.int IntKind.i64 (↑N : Int)), ((1 : Nat), AV.sl (0 : Nat) (0 : Nat) (2 : Nat) (0 : Nat) len cap), ((5 : Nat), AV.ptr (1 : Nat) (0 : Nat) (0 : Nat) (0 : Nat)), ((6 : Nat), AV.ptr (2 : Nat) (0 : Nat) (0 : Nat) (0 : Nat)), ((7 : Nat), AV.int IntKind.i64 (↑i : Int)), ((8 : Nat), AV.int IntKind.i64 ((↑k : Int) - (1 : Int)))]
          [some (Blk.mk false [] (2 : Nat) cap (fun r => [AV.int IntKind.i64 (z r), AV.int IntKind.i64 (y r)]) [] none), some (Blk.mk true [AV.int IntKind.i64 (AL.n t)] (1 : Nat) (96 : Nat) (fun j => [AV.bool (AL.B t j)]) [AV.int IntKind.i64 (AL.c t), AV.int IntKind.i64 (AL.w t), AV.int IntKind.i64 (AL.l t), AV.bool (AL.d t)] none),
            some (Blk.mk true [AV.int IntKind.i64 (RA.n s), AV.sl (3 : Nat) (0 : Nat) (1 : Nat) (0 : Nat) ll lc, AV.bool (RA.w s), AV.bool (RA.d s), AV.int IntKind.i64 (RA.no s), AV.int IntKind.i64 (RA.co s)] (0 : Nat) (0 : Nat) (fun x => []) [] none), some (Blk.mk true [] (1 : Nat) lc (fun j => [AV.int IntKind.i64 (f j)]) [] none)])) := by
  kernel_rfl

end Go.Proofs.Ythbdkhlpojngeaa
