/-
  Layer 19: Fair.
-/
import Derived.Test.YthbdkhlpojngeaaHD
namespace Go.Proofs.Ythbdkhlpojngeaa
open Go.Ox
set_option maxRecDepth 100000
set_option linter.unusedVariables false
set_option linter.unusedSimpArgs false

def runA (z y : Nat → Int) (s : AL) : Nat → AL
  | 0 => s
  | i + 1 => bar (runA z y s i) (z i) (Int.tmod (y i) 1001)
def good (n : Nat) (s : AL) : Prop := s.n = n ∧ s.w ≤ 1000 ∧ s.l ≤ 1000

structure F1 where
  n : Nat
  first : Int
  z : Nat → Int
  y : Nat → Int
  len : Nat
  cap : Nat
  i : Nat
def f1R (z y : Nat → Int) (cap : Nat) : Blk := Blk.rows false 2 cap fun r => [.int .i64 (z r), .int .i64 (y r)]
def f1St (x : F1) : St := ⟨[(0, .int .i64 x.n), (1, .sl 0 0 2 0 x.len x.cap), (2, .int .i64 x.first), (7, .ptr 1 0 0 0), (8, .int .i64 x.i)], [some (f1R x.z x.y x.cap), some (alB (runA x.z x.y (newA x.n) x.i))]⟩
def f1Inv (x : F1) : Prop := 1 ≤ x.n ∧ x.n ≤ 64 ∧ x.len ≤ x.cap ∧ x.i ≤ x.len ∧ x.i ≤ 300
def f1Pick (st : St) : Option F1 :=
  match slotAt st.fr 0, slotAt st.fr 1, slotAt st.fr 2, AM.get st.m 0 with
  | some (.int _ n), some (.sl _ _ _ _ len cap), some (.int _ first), some b => some ⟨n.toNat, first, fun r => intA ((b.f r).getD 0 .ff), fun r => intA ((b.f r).getD 1 .ff), len, cap, 0⟩
  | _, _, _, _ => none
def f1End (x : F1) : T (Ex × St) := .ret (.exit 0, ⟨[(0, .int .i64 x.n), (2, .int .i64 x.first), (7, .ptr 1 0 0 0)], [none, some (alB (runA x.z x.y (newA x.n) (min x.len 300)))]⟩)

structure F2 where
  ph : Nat
  n : Nat
  first : Nat
  s : AL
  k : Nat
def midA (n first : Nat) (s : AL) (k : Nat) : AL := ⟨n, fun j => decide (j < n) && decide (posW n first false j < k), k, 2000, s.l, s.d⟩
def f2 (pre : AM) (n first k : Nat) (s : AL) : St := ⟨[(0, .int .i64 n), (2, .int .i64 first), (7, .ptr pre.length 0 0 0), (9, .int .i64 k)], pre ++ [some (alB s)]⟩
def f2St (pre : AM) (x : F2) : St := match x.ph with
  | 0 => f2 pre x.n x.first 0 x.s
  | 1 => f2 pre x.n x.first x.k (midA x.n x.first x.s x.k)
  | _ => f2 pre x.n x.first x.n (fuW x.n 2000)
def f2Inv (x : F2) : Prop := 1 ≤ x.n ∧ x.n ≤ 64 ∧ x.first < x.n ∧ good x.n x.s ∧ (match x.ph with
  | 0 => x.k = 0
  | 1 => 1 ≤ x.k ∧ x.k < x.n
  | _ => x.k = x.n)
def f2Pick (pre : AM) (st : St) : Option F2 :=
  match slotAt st.fr 0, slotAt st.fr 2, AM.get st.m pre.length with
  | some (.int _ n), some (.int _ first), some b => some ⟨0, n.toNat, first.toNat, stA b, 0⟩
  | _, _, _ => none
def f2End (pre : AM) (x : F2) : T (Ex × St) := .ret (.exit 2, ⟨[(2, .int .i64 x.first), (7, .ptr pre.length 0 0 0)], pre ++ [some (alB (fuW x.n 2000))]⟩)
noncomputable def faB : Env := laE Try.f5.ntmps
noncomputable def faE : Env := { faB with n0 := 1, loop := fun k => if k = 6 then loopSumm 1 f1St f1Inv f1Pick f1End else if k = 11 then loopSumm 1 (f2St [none]) f2Inv (f2Pick [none]) (f2End [none]) else fun _ => .fail }
noncomputable def faZ : Env := { faB with n0 := 0, loop := fun _ _ => .fail }
noncomputable def faN : Env := { faB with n0 := 0, loop := fun k => if k = 6 then unrollN Try.prog faZ (loopAt (codeOf Try.f5) 0) 1 else if k = 11 then loopSumm 0 (f2St []) f2Inv (f2Pick []) (f2End []) else fun _ => .fail }

theorem f1_tree (x : F1) : keepT [0, 1, 2, 7, 8] (acode Try.prog faE (loopAt (codeOf Try.f5) 0) (f1St x)) = 
  T.ite (decide ((↑(F1.i x) : Int) < (↑(F1.len x) : Int)))
    (T.ite (decide ((↑(F1.i x) : Int) < (300 : Int)))
      (T.chk (decide ((0 : Int) ≤ (↑(F1.i x) : Int)) && decide ((↑(F1.i x) : Int) < (↑(F1.len x) : Int)))
        (T.chk (decide ((0 : Nat) + Int.toNat (↑(F1.i x) : Int) < F1.cap x))
          (T.chk (decide ((0 : Int) ≤ (↑(F1.i x) : Int)) && decide ((↑(F1.i x) : Int) < (↑(F1.len x) : Int)))
            (T.chk (decide ((0 : Nat) + Int.toNat (↑(F1.i x) : Int) < F1.cap x))
              (T.chk true
                (T.need
                  (IsAl
                    (Blk.mk true [AV.int IntKind.i64 (AL.n (runA (F1.z x) (F1.y x) (newA (↑(F1.n x) : Int)) (F1.i x)))] (1 : Nat) (96 : Nat) (fun j => [AV.bool (AL.B (runA (F1.z x) (F1.y x) (newA (↑(F1.n x) : Int)) (F1.i x)) j)])
                      [AV.int IntKind.i64 (AL.c (runA (F1.z x) (F1.y x) (newA (↑(F1.n x) : Int)) (F1.i x))), AV.int IntKind.i64 (AL.w (runA (F1.z x) (F1.y x) (newA (↑(F1.n x) : Int)) (F1.i x))), AV.int IntKind.i64 (AL.l (runA (F1.z x) (F1.y x) (newA (↑(F1.n x) : Int)) (F1.i x))), AV.bool (AL.d (runA (F1.z x) (F1.y x) (newA (↑(F1.n x) : Int)) (F1.i x)))]))
                  (T.chk (decide (intA (List.getD [AV.int IntKind.i64 (AL.n (runA (F1.z x) (F1.y x) (newA (↑(F1.n x) : Int)) (F1.i x)))] (0 : Nat) AV.ff) ≤ (96 : Int)))
                    (T.ret
                      (Ex.norm,
                        St.mk [((0 : Nat), AV.int IntKind.i64 (↑(F1.n x) : Int)), ((1 : Nat), AV.sl (0 : Nat) (0 : Nat) (2 : Nat) (0 : Nat) (F1.len x) (F1.cap x)), ((2 : Nat), AV.int IntKind.i64 (F1.first x)), ((7 : Nat), AV.ptr (1 : Nat) (0 : Nat) (0 : Nat) (0 : Nat)), ((8 : Nat), AV.int IntKind.i64 (IntKind.wrap IntKind.i64 ((↑(F1.i x) : Int) + (1 : Int))))]
                          [some (Blk.mk false [] (2 : Nat) (F1.cap x) (fun r => [AV.int IntKind.i64 (F1.z x r), AV.int IntKind.i64 (F1.y x r)]) []),
                            some
                              (Blk.mk true [AV.int IntKind.i64 (AL.n (bar (stA (alB (runA (F1.z x) (F1.y x) (newA (↑(F1.n x) : Int)) (F1.i x)))) (F1.z x ((0 : Nat) + Int.toNat (↑(F1.i x) : Int))) (Int.tmod (F1.y x ((0 : Nat) + Int.toNat (↑(F1.i x) : Int))) (1001 : Int))))] (1 : Nat) (96 : Nat)
                                (fun j => [AV.bool (AL.B (bar (stA (alB (runA (F1.z x) (F1.y x) (newA (↑(F1.n x) : Int)) (F1.i x)))) (F1.z x ((0 : Nat) + Int.toNat (↑(F1.i x) : Int))) (Int.tmod (F1.y x ((0 : Nat) + Int.toNat (↑(F1.i x) : Int))) (1001 : Int))) j)])
                                [AV.int IntKind.i64 (AL.c (bar (stA (alB (runA (F1.z x) (F1.y x) (newA (↑(F1.n x) : Int)) (F1.i x)))) (F1.z x ((0 : Nat) + Int.toNat (↑(F1.i x) : Int))) (Int.tmod (F1.y x ((0 : Nat) + Int.toNat (↑(F1.i x) : Int))) (1001 : Int)))),
                                  AV.int IntKind.i64 (AL.w (bar (stA (alB (runA (F1.z x) (F1.y x) (newA (↑(F1.n x) : Int)) (F1.i x)))) (F1.z x ((0 : Nat) + Int.toNat (↑(F1.i x) : Int))) (Int.tmod (F1.y x ((0 : Nat) + Int.toNat (↑(F1.i x) : Int))) (1001 : Int)))),
                                  AV.int IntKind.i64 (AL.l (bar (stA (alB (runA (F1.z x) (F1.y x) (newA (↑(F1.n x) : Int)) (F1.i x)))) (F1.z x ((0 : Nat) + Int.toNat (↑(F1.i x) : Int))) (Int.tmod (F1.y x ((0 : Nat) + Int.toNat (↑(F1.i x) : Int))) (1001 : Int)))),
                                  AV.bool (AL.d (bar (stA (alB (runA (F1.z x) (F1.y x) (newA (↑(F1.n x) : Int)) (F1.i x)))) (F1.z x ((0 : Nat) + Int.toNat (↑(F1.i x) : Int))) (Int.tmod (F1.y x ((0 : Nat) + Int.toNat (↑(F1.i x) : Int))) (1001 : Int))))])])))))))))
      (T.ret
        (Ex.exit (0 : Nat),
          St.mk [((0 : Nat), AV.int IntKind.i64 (↑(F1.n x) : Int)), ((1 : Nat), AV.sl (0 : Nat) (0 : Nat) (2 : Nat) (0 : Nat) (F1.len x) (F1.cap x)), ((2 : Nat), AV.int IntKind.i64 (F1.first x)), ((7 : Nat), AV.ptr (1 : Nat) (0 : Nat) (0 : Nat) (0 : Nat)), ((8 : Nat), AV.int IntKind.i64 (↑(F1.i x) : Int))]
            [some (Blk.mk false [] (2 : Nat) (F1.cap x) (fun r => [AV.int IntKind.i64 (F1.z x r), AV.int IntKind.i64 (F1.y x r)]) []),
              some
                (Blk.mk true [AV.int IntKind.i64 (AL.n (runA (F1.z x) (F1.y x) (newA (↑(F1.n x) : Int)) (F1.i x)))] (1 : Nat) (96 : Nat) (fun j => [AV.bool (AL.B (runA (F1.z x) (F1.y x) (newA (↑(F1.n x) : Int)) (F1.i x)) j)])
                  [AV.int IntKind.i64 (AL.c (runA (F1.z x) (F1.y x) (newA (↑(F1.n x) : Int)) (F1.i x))), AV.int IntKind.i64 (AL.w (runA (F1.z x) (F1.y x) (newA (↑(F1.n x) : Int)) (F1.i x))), AV.int IntKind.i64 (AL.l (runA (F1.z x) (F1.y x) (newA (↑(F1.n x) : Int)) (F1.i x))), AV.bool (AL.d (runA (F1.z x) (F1.y x) (newA (↑(F1.n x) : Int)) (F1.i x)))])])))
    (T.ret
      (Ex.exit (0 : Nat),
        St.mk [((0 : Nat), AV.int IntKind.i64 (↑(F1.n x) : Int)), ((1 : Nat), AV.sl (0 : Nat) (0 : Nat) (2 : Nat) (0 : Nat) (F1.len x) (F1.cap x)), ((2 : Nat), AV.int IntKind.i64 (F1.first x)), ((7 : Nat), AV.ptr (1 : Nat) (0 : Nat) (0 : Nat) (0 : Nat)), ((8 : Nat), AV.int IntKind.i64 (↑(F1.i x) : Int))]
          [some (Blk.mk false [] (2 : Nat) (F1.cap x) (fun r => [AV.int IntKind.i64 (F1.z x r), AV.int IntKind.i64 (F1.y x r)]) []),
            some
              (Blk.mk true [AV.int IntKind.i64 (AL.n (runA (F1.z x) (F1.y x) (newA (↑(F1.n x) : Int)) (F1.i x)))] (1 : Nat) (96 : Nat) (fun j => [AV.bool (AL.B (runA (F1.z x) (F1.y x) (newA (↑(F1.n x) : Int)) (F1.i x)) j)])
                [AV.int IntKind.i64 (AL.c (runA (F1.z x) (F1.y x) (newA (↑(F1.n x) : Int)) (F1.i x))), AV.int IntKind.i64 (AL.w (runA (F1.z x) (F1.y x) (newA (↑(F1.n x) : Int)) (F1.i x))), AV.int IntKind.i64 (AL.l (runA (F1.z x) (F1.y x) (newA (↑(F1.n x) : Int)) (F1.i x))), AV.bool (AL.d (runA (F1.z x) (F1.y x) (newA (↑(F1.n x) : Int)) (F1.i x)))])])) := by
  kernel_rfl

theorem f2_treeE (n first k : Nat) (s : AL) : keepT [0, 2, 7, 9] (acode Try.prog faE (loopAt (codeOf Try.f5) 1) (f2 [none] n first k s)) = 
  T.ite (decide ((↑k : Int) < (↑n : Int)))
    (T.chk (!(↑n : Int) == (0 : Int))
      (T.need (IsAl (Blk.mk true [AV.int IntKind.i64 (AL.n s)] (1 : Nat) (96 : Nat) (fun j => [AV.bool (AL.B s j)]) [AV.int IntKind.i64 (AL.c s), AV.int IntKind.i64 (AL.w s), AV.int IntKind.i64 (AL.l s), AV.bool (AL.d s)]))
        (T.chk (decide (intA (List.getD [AV.int IntKind.i64 (AL.n s)] (0 : Nat) AV.ff) ≤ (96 : Int)))
          (T.ite (!barR (stA (alB s)) (Int.tmod (IntKind.wrap IntKind.i64 ((↑first : Int) + (↑k : Int))) (↑n : Int)) (2000 : Int) == ((↑k : Int) == IntKind.wrap IntKind.i64 ((↑n : Int) - (1 : Int))))
            (T.ret
              (Ex.ret,
                St.mk [((0 : Nat), AV.int IntKind.i64 (↑n : Int)), ((2 : Nat), AV.int IntKind.i64 (↑first : Int)), ((7 : Nat), AV.ptr (1 : Nat) (0 : Nat) (0 : Nat) (0 : Nat)), ((9 : Nat), AV.int IntKind.i64 (↑k : Int))]
                  [none,
                    some
                      (Blk.mk true [AV.int IntKind.i64 (AL.n (bar (stA (alB s)) (Int.tmod (IntKind.wrap IntKind.i64 ((↑first : Int) + (↑k : Int))) (↑n : Int)) (2000 : Int)))] (1 : Nat) (96 : Nat) (fun j => [AV.bool (AL.B (bar (stA (alB s)) (Int.tmod (IntKind.wrap IntKind.i64 ((↑first : Int) + (↑k : Int))) (↑n : Int)) (2000 : Int)) j)])
                        [AV.int IntKind.i64 (AL.c (bar (stA (alB s)) (Int.tmod (IntKind.wrap IntKind.i64 ((↑first : Int) + (↑k : Int))) (↑n : Int)) (2000 : Int))), AV.int IntKind.i64 (AL.w (bar (stA (alB s)) (Int.tmod (IntKind.wrap IntKind.i64 ((↑first : Int) + (↑k : Int))) (↑n : Int)) (2000 : Int))),
                          AV.int IntKind.i64 (AL.l (bar (stA (alB s)) (Int.tmod (IntKind.wrap IntKind.i64 ((↑first : Int) + (↑k : Int))) (↑n : Int)) (2000 : Int))), AV.bool (AL.d (bar (stA (alB s)) (Int.tmod (IntKind.wrap IntKind.i64 ((↑first : Int) + (↑k : Int))) (↑n : Int)) (2000 : Int)))])]))
            (T.ite (decide ((↑k : Int) < IntKind.wrap IntKind.i64 ((↑n : Int) - (1 : Int))))
              (T.need
                (IsAl
                  (Blk.mk true [AV.int IntKind.i64 (AL.n (bar (stA (alB s)) (Int.tmod (IntKind.wrap IntKind.i64 ((↑first : Int) + (↑k : Int))) (↑n : Int)) (2000 : Int)))] (1 : Nat) (96 : Nat) (fun j => [AV.bool (AL.B (bar (stA (alB s)) (Int.tmod (IntKind.wrap IntKind.i64 ((↑first : Int) + (↑k : Int))) (↑n : Int)) (2000 : Int)) j)])
                    [AV.int IntKind.i64 (AL.c (bar (stA (alB s)) (Int.tmod (IntKind.wrap IntKind.i64 ((↑first : Int) + (↑k : Int))) (↑n : Int)) (2000 : Int))), AV.int IntKind.i64 (AL.w (bar (stA (alB s)) (Int.tmod (IntKind.wrap IntKind.i64 ((↑first : Int) + (↑k : Int))) (↑n : Int)) (2000 : Int))),
                      AV.int IntKind.i64 (AL.l (bar (stA (alB s)) (Int.tmod (IntKind.wrap IntKind.i64 ((↑first : Int) + (↑k : Int))) (↑n : Int)) (2000 : Int))), AV.bool (AL.d (bar (stA (alB s)) (Int.tmod (IntKind.wrap IntKind.i64 ((↑first : Int) + (↑k : Int))) (↑n : Int)) (2000 : Int)))]))
                (T.chk (decide (intA (List.getD (renL (out [(1 : Nat)] (List.length ([none] ++ [some (alB s)]))) [AV.int IntKind.i64 (AL.n (bar (stA (alB s)) (Int.tmod (IntKind.wrap IntKind.i64 ((↑first : Int) + (↑k : Int))) (↑n : Int)) (2000 : Int)))]) (0 : Nat) AV.ff) ≤ (96 : Int)))
                  (T.ite (!blkA (stA (renB (out [(1 : Nat)] (List.length ([none] ++ [some (alB s)]))) (alB (bar (stA (alB s)) (Int.tmod (IntKind.wrap IntKind.i64 ((↑first : Int) + (↑k : Int))) (↑n : Int)) (2000 : Int))))) (Int.tmod (IntKind.wrap IntKind.i64 ((↑first : Int) + (↑k : Int))) (↑n : Int)))
                    (T.ret
                      (Ex.ret,
                        St.mk [((0 : Nat), AV.int IntKind.i64 (↑n : Int)), ((2 : Nat), AV.int IntKind.i64 (↑first : Int)), ((7 : Nat), AV.ptr (1 : Nat) (0 : Nat) (0 : Nat) (0 : Nat)), ((9 : Nat), AV.int IntKind.i64 (↑k : Int))]
                          [none,
                            some
                              (Blk.mk true [AV.int IntKind.i64 (AL.n (bar (stA (alB s)) (Int.tmod (IntKind.wrap IntKind.i64 ((↑first : Int) + (↑k : Int))) (↑n : Int)) (2000 : Int)))] (1 : Nat) (96 : Nat) (fun j => [AV.bool (AL.B (bar (stA (alB s)) (Int.tmod (IntKind.wrap IntKind.i64 ((↑first : Int) + (↑k : Int))) (↑n : Int)) (2000 : Int)) j)])
                                [AV.int IntKind.i64 (AL.c (bar (stA (alB s)) (Int.tmod (IntKind.wrap IntKind.i64 ((↑first : Int) + (↑k : Int))) (↑n : Int)) (2000 : Int))), AV.int IntKind.i64 (AL.w (bar (stA (alB s)) (Int.tmod (IntKind.wrap IntKind.i64 ((↑first : Int) + (↑k : Int))) (↑n : Int)) (2000 : Int))),
                                  AV.int IntKind.i64 (AL.l (bar (stA (alB s)) (Int.tmod (IntKind.wrap IntKind.i64 ((↑first : Int) + (↑k : Int))) (↑n : Int)) (2000 : Int))), AV.bool (AL.d (bar (stA (alB s)) (Int.tmod (IntKind.wrap IntKind.i64 ((↑first : Int) + (↑k : Int))) (↑n : Int)) (2000 : Int)))])]))
                    (T.chk (!(↑n : Int) == (0 : Int))
                      (T.need
                        (IsAl
                          (Blk.mk true [AV.int IntKind.i64 (AL.n (bar (stA (alB s)) (Int.tmod (IntKind.wrap IntKind.i64 ((↑first : Int) + (↑k : Int))) (↑n : Int)) (2000 : Int)))] (1 : Nat) (96 : Nat) (fun j => [AV.bool (AL.B (bar (stA (alB s)) (Int.tmod (IntKind.wrap IntKind.i64 ((↑first : Int) + (↑k : Int))) (↑n : Int)) (2000 : Int)) j)])
                            [AV.int IntKind.i64 (AL.c (bar (stA (alB s)) (Int.tmod (IntKind.wrap IntKind.i64 ((↑first : Int) + (↑k : Int))) (↑n : Int)) (2000 : Int))), AV.int IntKind.i64 (AL.w (bar (stA (alB s)) (Int.tmod (IntKind.wrap IntKind.i64 ((↑first : Int) + (↑k : Int))) (↑n : Int)) (2000 : Int))),
                              AV.int IntKind.i64 (AL.l (bar (stA (alB s)) (Int.tmod (IntKind.wrap IntKind.i64 ((↑first : Int) + (↑k : Int))) (↑n : Int)) (2000 : Int))), AV.bool (AL.d (bar (stA (alB s)) (Int.tmod (IntKind.wrap IntKind.i64 ((↑first : Int) + (↑k : Int))) (↑n : Int)) (2000 : Int)))]))
                        (T.chk (decide (intA (List.getD (renL (out [(1 : Nat)] (List.length ([none] ++ [some (alB s)]))) [AV.int IntKind.i64 (AL.n (bar (stA (alB s)) (Int.tmod (IntKind.wrap IntKind.i64 ((↑first : Int) + (↑k : Int))) (↑n : Int)) (2000 : Int)))]) (0 : Nat) AV.ff) ≤ (96 : Int)))
                          (T.ite (blkA (stA (renB (out [(1 : Nat)] (List.length ([none] ++ [some (alB s)]))) (alB (bar (stA (alB s)) (Int.tmod (IntKind.wrap IntKind.i64 ((↑first : Int) + (↑k : Int))) (↑n : Int)) (2000 : Int))))) (Int.tmod (IntKind.wrap IntKind.i64 (Int.tmod (IntKind.wrap IntKind.i64 ((↑first : Int) + (↑k : Int))) (↑n : Int) + (1 : Int))) (↑n : Int)))
                            (T.ret
                              (Ex.ret,
                                St.mk [((0 : Nat), AV.int IntKind.i64 (↑n : Int)), ((2 : Nat), AV.int IntKind.i64 (↑first : Int)), ((7 : Nat), AV.ptr (1 : Nat) (0 : Nat) (0 : Nat) (0 : Nat)), ((9 : Nat), AV.int IntKind.i64 (↑k : Int))]
                                  [none,
                                    some
                                      (Blk.mk true [AV.int IntKind.i64 (AL.n (bar (stA (alB s)) (Int.tmod (IntKind.wrap IntKind.i64 ((↑first : Int) + (↑k : Int))) (↑n : Int)) (2000 : Int)))] (1 : Nat) (96 : Nat) (fun j => [AV.bool (AL.B (bar (stA (alB s)) (Int.tmod (IntKind.wrap IntKind.i64 ((↑first : Int) + (↑k : Int))) (↑n : Int)) (2000 : Int)) j)])
                                        [AV.int IntKind.i64 (AL.c (bar (stA (alB s)) (Int.tmod (IntKind.wrap IntKind.i64 ((↑first : Int) + (↑k : Int))) (↑n : Int)) (2000 : Int))), AV.int IntKind.i64 (AL.w (bar (stA (alB s)) (Int.tmod (IntKind.wrap IntKind.i64 ((↑first : Int) + (↑k : Int))) (↑n : Int)) (2000 : Int))),
                                          AV.int IntKind.i64 (AL.l (bar (stA (alB s)) (Int.tmod (IntKind.wrap IntKind.i64 ((↑first : Int) + (↑k : Int))) (↑n : Int)) (2000 : Int))), AV.bool (AL.d (bar (stA (alB s)) (Int.tmod (IntKind.wrap IntKind.i64 ((↑first : Int) + (↑k : Int))) (↑n : Int)) (2000 : Int)))])]))
                            (T.ret
                              (Ex.norm,
                                St.mk [((0 : Nat), AV.int IntKind.i64 (↑n : Int)), ((2 : Nat), AV.int IntKind.i64 (↑first : Int)), ((7 : Nat), AV.ptr (1 : Nat) (0 : Nat) (0 : Nat) (0 : Nat)), ((9 : Nat), AV.int IntKind.i64 (IntKind.wrap IntKind.i64 ((↑k : Int) + (1 : Int))))]
                                  [none,
                                    some
                                      (Blk.mk true [AV.int IntKind.i64 (AL.n (bar (stA (alB s)) (Int.tmod (IntKind.wrap IntKind.i64 ((↑first : Int) + (↑k : Int))) (↑n : Int)) (2000 : Int)))] (1 : Nat) (96 : Nat) (fun j => [AV.bool (AL.B (bar (stA (alB s)) (Int.tmod (IntKind.wrap IntKind.i64 ((↑first : Int) + (↑k : Int))) (↑n : Int)) (2000 : Int)) j)])
                                        [AV.int IntKind.i64 (AL.c (bar (stA (alB s)) (Int.tmod (IntKind.wrap IntKind.i64 ((↑first : Int) + (↑k : Int))) (↑n : Int)) (2000 : Int))), AV.int IntKind.i64 (AL.w (bar (stA (alB s)) (Int.tmod (IntKind.wrap IntKind.i64 ((↑first : Int) + (↑k : Int))) (↑n : Int)) (2000 : Int))),
                                          AV.int IntKind.i64 (AL.l (bar (stA (alB s)) (Int.tmod (IntKind.wrap IntKind.i64 ((↑first : Int) + (↑k : Int))) (↑n : Int)) (2000 : Int))), AV.bool (AL.d (bar (stA (alB s)) (Int.tmod (IntKind.wrap IntKind.i64 ((↑first : Int) + (↑k : Int))) (↑n : Int)) (2000 : Int)))])])))))))))
              (T.ret
                (Ex.norm,
                  St.mk [((0 : Nat), AV.int IntKind.i64 (↑n : Int)), ((2 : Nat), AV.int IntKind.i64 (↑first : Int)), ((7 : Nat), AV.ptr (1 : Nat) (0 : Nat) (0 : Nat) (0 : Nat)), ((9 : Nat), AV.int IntKind.i64 (IntKind.wrap IntKind.i64 ((↑k : Int) + (1 : Int))))]
                    [none,
                      some
                        (Blk.mk true [AV.int IntKind.i64 (AL.n (bar (stA (alB s)) (Int.tmod (IntKind.wrap IntKind.i64 ((↑first : Int) + (↑k : Int))) (↑n : Int)) (2000 : Int)))] (1 : Nat) (96 : Nat) (fun j => [AV.bool (AL.B (bar (stA (alB s)) (Int.tmod (IntKind.wrap IntKind.i64 ((↑first : Int) + (↑k : Int))) (↑n : Int)) (2000 : Int)) j)])
                          [AV.int IntKind.i64 (AL.c (bar (stA (alB s)) (Int.tmod (IntKind.wrap IntKind.i64 ((↑first : Int) + (↑k : Int))) (↑n : Int)) (2000 : Int))), AV.int IntKind.i64 (AL.w (bar (stA (alB s)) (Int.tmod (IntKind.wrap IntKind.i64 ((↑first : Int) + (↑k : Int))) (↑n : Int)) (2000 : Int))),
                            AV.int IntKind.i64 (AL.l (bar (stA (alB s)) (Int.tmod (IntKind.wrap IntKind.i64 ((↑first : Int) + (↑k : Int))) (↑n : Int)) (2000 : Int))), AV.bool (AL.d (bar (stA (alB s)) (Int.tmod (IntKind.wrap IntKind.i64 ((↑first : Int) + (↑k : Int))) (↑n : Int)) (2000 : Int)))])])))))))
    (T.ret
      (Ex.exit (2 : Nat),
        St.mk [((0 : Nat), AV.int IntKind.i64 (↑n : Int)), ((2 : Nat), AV.int IntKind.i64 (↑first : Int)), ((7 : Nat), AV.ptr (1 : Nat) (0 : Nat) (0 : Nat) (0 : Nat)), ((9 : Nat), AV.int IntKind.i64 (↑k : Int))]
          [none, some (Blk.mk true [AV.int IntKind.i64 (AL.n s)] (1 : Nat) (96 : Nat) (fun j => [AV.bool (AL.B s j)]) [AV.int IntKind.i64 (AL.c s), AV.int IntKind.i64 (AL.w s), AV.int IntKind.i64 (AL.l s), AV.bool (AL.d s)])])) := by
  kernel_rfl

theorem f2_treeN (n first k : Nat) (s : AL) : keepT [0, 2, 7, 9] (acode Try.prog faN (loopAt (codeOf Try.f5) 1) (f2 [] n first k s)) = 
  T.ite (decide ((↑k : Int) < (↑n : Int)))
    (T.chk (!(↑n : Int) == (0 : Int))
      (T.need (IsAl (Blk.mk true [AV.int IntKind.i64 (AL.n s)] (1 : Nat) (96 : Nat) (fun j => [AV.bool (AL.B s j)]) [AV.int IntKind.i64 (AL.c s), AV.int IntKind.i64 (AL.w s), AV.int IntKind.i64 (AL.l s), AV.bool (AL.d s)]))
        (T.chk (decide (intA (List.getD [AV.int IntKind.i64 (AL.n s)] (0 : Nat) AV.ff) ≤ (96 : Int)))
          (T.ite (!barR (stA (alB s)) (Int.tmod (IntKind.wrap IntKind.i64 ((↑first : Int) + (↑k : Int))) (↑n : Int)) (2000 : Int) == ((↑k : Int) == IntKind.wrap IntKind.i64 ((↑n : Int) - (1 : Int))))
            (T.ret
              (Ex.ret,
                St.mk [((0 : Nat), AV.int IntKind.i64 (↑n : Int)), ((2 : Nat), AV.int IntKind.i64 (↑first : Int)), ((7 : Nat), AV.ptr (0 : Nat) (0 : Nat) (0 : Nat) (0 : Nat)), ((9 : Nat), AV.int IntKind.i64 (↑k : Int))]
                  [some
                      (Blk.mk true [AV.int IntKind.i64 (AL.n (bar (stA (alB s)) (Int.tmod (IntKind.wrap IntKind.i64 ((↑first : Int) + (↑k : Int))) (↑n : Int)) (2000 : Int)))] (1 : Nat) (96 : Nat) (fun j => [AV.bool (AL.B (bar (stA (alB s)) (Int.tmod (IntKind.wrap IntKind.i64 ((↑first : Int) + (↑k : Int))) (↑n : Int)) (2000 : Int)) j)])
                        [AV.int IntKind.i64 (AL.c (bar (stA (alB s)) (Int.tmod (IntKind.wrap IntKind.i64 ((↑first : Int) + (↑k : Int))) (↑n : Int)) (2000 : Int))), AV.int IntKind.i64 (AL.w (bar (stA (alB s)) (Int.tmod (IntKind.wrap IntKind.i64 ((↑first : Int) + (↑k : Int))) (↑n : Int)) (2000 : Int))),
                          AV.int IntKind.i64 (AL.l (bar (stA (alB s)) (Int.tmod (IntKind.wrap IntKind.i64 ((↑first : Int) + (↑k : Int))) (↑n : Int)) (2000 : Int))), AV.bool (AL.d (bar (stA (alB s)) (Int.tmod (IntKind.wrap IntKind.i64 ((↑first : Int) + (↑k : Int))) (↑n : Int)) (2000 : Int)))])]))
            (T.ite (decide ((↑k : Int) < IntKind.wrap IntKind.i64 ((↑n : Int) - (1 : Int))))
              (T.need
                (IsAl
                  (Blk.mk true [AV.int IntKind.i64 (AL.n (bar (stA (alB s)) (Int.tmod (IntKind.wrap IntKind.i64 ((↑first : Int) + (↑k : Int))) (↑n : Int)) (2000 : Int)))] (1 : Nat) (96 : Nat) (fun j => [AV.bool (AL.B (bar (stA (alB s)) (Int.tmod (IntKind.wrap IntKind.i64 ((↑first : Int) + (↑k : Int))) (↑n : Int)) (2000 : Int)) j)])
                    [AV.int IntKind.i64 (AL.c (bar (stA (alB s)) (Int.tmod (IntKind.wrap IntKind.i64 ((↑first : Int) + (↑k : Int))) (↑n : Int)) (2000 : Int))), AV.int IntKind.i64 (AL.w (bar (stA (alB s)) (Int.tmod (IntKind.wrap IntKind.i64 ((↑first : Int) + (↑k : Int))) (↑n : Int)) (2000 : Int))),
                      AV.int IntKind.i64 (AL.l (bar (stA (alB s)) (Int.tmod (IntKind.wrap IntKind.i64 ((↑first : Int) + (↑k : Int))) (↑n : Int)) (2000 : Int))), AV.bool (AL.d (bar (stA (alB s)) (Int.tmod (IntKind.wrap IntKind.i64 ((↑first : Int) + (↑k : Int))) (↑n : Int)) (2000 : Int)))]))
                (T.chk (decide (intA (List.getD (renL (out [(0 : Nat)] (List.length ([] ++ [some (alB s)]))) [AV.int IntKind.i64 (AL.n (bar (stA (alB s)) (Int.tmod (IntKind.wrap IntKind.i64 ((↑first : Int) + (↑k : Int))) (↑n : Int)) (2000 : Int)))]) (0 : Nat) AV.ff) ≤ (96 : Int)))
                  (T.ite (!blkA (stA (renB (out [(0 : Nat)] (List.length ([] ++ [some (alB s)]))) (alB (bar (stA (alB s)) (Int.tmod (IntKind.wrap IntKind.i64 ((↑first : Int) + (↑k : Int))) (↑n : Int)) (2000 : Int))))) (Int.tmod (IntKind.wrap IntKind.i64 ((↑first : Int) + (↑k : Int))) (↑n : Int)))
                    (T.ret
                      (Ex.ret,
                        St.mk [((0 : Nat), AV.int IntKind.i64 (↑n : Int)), ((2 : Nat), AV.int IntKind.i64 (↑first : Int)), ((7 : Nat), AV.ptr (0 : Nat) (0 : Nat) (0 : Nat) (0 : Nat)), ((9 : Nat), AV.int IntKind.i64 (↑k : Int))]
                          [some
                              (Blk.mk true [AV.int IntKind.i64 (AL.n (bar (stA (alB s)) (Int.tmod (IntKind.wrap IntKind.i64 ((↑first : Int) + (↑k : Int))) (↑n : Int)) (2000 : Int)))] (1 : Nat) (96 : Nat) (fun j => [AV.bool (AL.B (bar (stA (alB s)) (Int.tmod (IntKind.wrap IntKind.i64 ((↑first : Int) + (↑k : Int))) (↑n : Int)) (2000 : Int)) j)])
                                [AV.int IntKind.i64 (AL.c (bar (stA (alB s)) (Int.tmod (IntKind.wrap IntKind.i64 ((↑first : Int) + (↑k : Int))) (↑n : Int)) (2000 : Int))), AV.int IntKind.i64 (AL.w (bar (stA (alB s)) (Int.tmod (IntKind.wrap IntKind.i64 ((↑first : Int) + (↑k : Int))) (↑n : Int)) (2000 : Int))),
                                  AV.int IntKind.i64 (AL.l (bar (stA (alB s)) (Int.tmod (IntKind.wrap IntKind.i64 ((↑first : Int) + (↑k : Int))) (↑n : Int)) (2000 : Int))), AV.bool (AL.d (bar (stA (alB s)) (Int.tmod (IntKind.wrap IntKind.i64 ((↑first : Int) + (↑k : Int))) (↑n : Int)) (2000 : Int)))])]))
                    (T.chk (!(↑n : Int) == (0 : Int))
                      (T.need
                        (IsAl
                          (Blk.mk true [AV.int IntKind.i64 (AL.n (bar (stA (alB s)) (Int.tmod (IntKind.wrap IntKind.i64 ((↑first : Int) + (↑k : Int))) (↑n : Int)) (2000 : Int)))] (1 : Nat) (96 : Nat) (fun j => [AV.bool (AL.B (bar (stA (alB s)) (Int.tmod (IntKind.wrap IntKind.i64 ((↑first : Int) + (↑k : Int))) (↑n : Int)) (2000 : Int)) j)])
                            [AV.int IntKind.i64 (AL.c (bar (stA (alB s)) (Int.tmod (IntKind.wrap IntKind.i64 ((↑first : Int) + (↑k : Int))) (↑n : Int)) (2000 : Int))), AV.int IntKind.i64 (AL.w (bar (stA (alB s)) (Int.tmod (IntKind.wrap IntKind.i64 ((↑first : Int) + (↑k : Int))) (↑n : Int)) (2000 : Int))),
                              AV.int IntKind.i64 (AL.l (bar (stA (alB s)) (Int.tmod (IntKind.wrap IntKind.i64 ((↑first : Int) + (↑k : Int))) (↑n : Int)) (2000 : Int))), AV.bool (AL.d (bar (stA (alB s)) (Int.tmod (IntKind.wrap IntKind.i64 ((↑first : Int) + (↑k : Int))) (↑n : Int)) (2000 : Int)))]))
                        (T.chk (decide (intA (List.getD (renL (out [(0 : Nat)] (List.length ([] ++ [some (alB s)]))) [AV.int IntKind.i64 (AL.n (bar (stA (alB s)) (Int.tmod (IntKind.wrap IntKind.i64 ((↑first : Int) + (↑k : Int))) (↑n : Int)) (2000 : Int)))]) (0 : Nat) AV.ff) ≤ (96 : Int)))
                          (T.ite (blkA (stA (renB (out [(0 : Nat)] (List.length ([] ++ [some (alB s)]))) (alB (bar (stA (alB s)) (Int.tmod (IntKind.wrap IntKind.i64 ((↑first : Int) + (↑k : Int))) (↑n : Int)) (2000 : Int))))) (Int.tmod (IntKind.wrap IntKind.i64 (Int.tmod (IntKind.wrap IntKind.i64 ((↑first : Int) + (↑k : Int))) (↑n : Int) + (1 : Int))) (↑n : Int)))
                            (T.ret
                              (Ex.ret,
                                St.mk [((0 : Nat), AV.int IntKind.i64 (↑n : Int)), ((2 : Nat), AV.int IntKind.i64 (↑first : Int)), ((7 : Nat), AV.ptr (0 : Nat) (0 : Nat) (0 : Nat) (0 : Nat)), ((9 : Nat), AV.int IntKind.i64 (↑k : Int))]
                                  [some
                                      (Blk.mk true [AV.int IntKind.i64 (AL.n (bar (stA (alB s)) (Int.tmod (IntKind.wrap IntKind.i64 ((↑first : Int) + (↑k : Int))) (↑n : Int)) (2000 : Int)))] (1 : Nat) (96 : Nat) (fun j => [AV.bool (AL.B (bar (stA (alB s)) (Int.tmod (IntKind.wrap IntKind.i64 ((↑first : Int) + (↑k : Int))) (↑n : Int)) (2000 : Int)) j)])
                                        [AV.int IntKind.i64 (AL.c (bar (stA (alB s)) (Int.tmod (IntKind.wrap IntKind.i64 ((↑first : Int) + (↑k : Int))) (↑n : Int)) (2000 : Int))), AV.int IntKind.i64 (AL.w (bar (stA (alB s)) (Int.tmod (IntKind.wrap IntKind.i64 ((↑first : Int) + (↑k : Int))) (↑n : Int)) (2000 : Int))),
                                          AV.int IntKind.i64 (AL.l (bar (stA (alB s)) (Int.tmod (IntKind.wrap IntKind.i64 ((↑first : Int) + (↑k : Int))) (↑n : Int)) (2000 : Int))), AV.bool (AL.d (bar (stA (alB s)) (Int.tmod (IntKind.wrap IntKind.i64 ((↑first : Int) + (↑k : Int))) (↑n : Int)) (2000 : Int)))])]))
                            (T.ret
                              (Ex.norm,
                                St.mk [((0 : Nat), AV.int IntKind.i64 (↑n : Int)), ((2 : Nat), AV.int IntKind.i64 (↑first : Int)), ((7 : Nat), AV.ptr (0 : Nat) (0 : Nat) (0 : Nat) (0 : Nat)), ((9 : Nat), AV.int IntKind.i64 (IntKind.wrap IntKind.i64 ((↑k : Int) + (1 : Int))))]
                                  [some
                                      (Blk.mk true [AV.int IntKind.i64 (AL.n (bar (stA (alB s)) (Int.tmod (IntKind.wrap IntKind.i64 ((↑first : Int) + (↑k : Int))) (↑n : Int)) (2000 : Int)))] (1 : Nat) (96 : Nat) (fun j => [AV.bool (AL.B (bar (stA (alB s)) (Int.tmod (IntKind.wrap IntKind.i64 ((↑first : Int) + (↑k : Int))) (↑n : Int)) (2000 : Int)) j)])
                                        [AV.int IntKind.i64 (AL.c (bar (stA (alB s)) (Int.tmod (IntKind.wrap IntKind.i64 ((↑first : Int) + (↑k : Int))) (↑n : Int)) (2000 : Int))), AV.int IntKind.i64 (AL.w (bar (stA (alB s)) (Int.tmod (IntKind.wrap IntKind.i64 ((↑first : Int) + (↑k : Int))) (↑n : Int)) (2000 : Int))),
                                          AV.int IntKind.i64 (AL.l (bar (stA (alB s)) (Int.tmod (IntKind.wrap IntKind.i64 ((↑first : Int) + (↑k : Int))) (↑n : Int)) (2000 : Int))), AV.bool (AL.d (bar (stA (alB s)) (Int.tmod (IntKind.wrap IntKind.i64 ((↑first : Int) + (↑k : Int))) (↑n : Int)) (2000 : Int)))])])))))))))
              (T.ret
                (Ex.norm,
                  St.mk [((0 : Nat), AV.int IntKind.i64 (↑n : Int)), ((2 : Nat), AV.int IntKind.i64 (↑first : Int)), ((7 : Nat), AV.ptr (0 : Nat) (0 : Nat) (0 : Nat) (0 : Nat)), ((9 : Nat), AV.int IntKind.i64 (IntKind.wrap IntKind.i64 ((↑k : Int) + (1 : Int))))]
                    [some
                        (Blk.mk true [AV.int IntKind.i64 (AL.n (bar (stA (alB s)) (Int.tmod (IntKind.wrap IntKind.i64 ((↑first : Int) + (↑k : Int))) (↑n : Int)) (2000 : Int)))] (1 : Nat) (96 : Nat) (fun j => [AV.bool (AL.B (bar (stA (alB s)) (Int.tmod (IntKind.wrap IntKind.i64 ((↑first : Int) + (↑k : Int))) (↑n : Int)) (2000 : Int)) j)])
                          [AV.int IntKind.i64 (AL.c (bar (stA (alB s)) (Int.tmod (IntKind.wrap IntKind.i64 ((↑first : Int) + (↑k : Int))) (↑n : Int)) (2000 : Int))), AV.int IntKind.i64 (AL.w (bar (stA (alB s)) (Int.tmod (IntKind.wrap IntKind.i64 ((↑first : Int) + (↑k : Int))) (↑n : Int)) (2000 : Int))),
                            AV.int IntKind.i64 (AL.l (bar (stA (alB s)) (Int.tmod (IntKind.wrap IntKind.i64 ((↑first : Int) + (↑k : Int))) (↑n : Int)) (2000 : Int))), AV.bool (AL.d (bar (stA (alB s)) (Int.tmod (IntKind.wrap IntKind.i64 ((↑first : Int) + (↑k : Int))) (↑n : Int)) (2000 : Int)))])])))))))
    (T.ret
      (Ex.exit (2 : Nat),
        St.mk [((0 : Nat), AV.int IntKind.i64 (↑n : Int)), ((2 : Nat), AV.int IntKind.i64 (↑first : Int)), ((7 : Nat), AV.ptr (0 : Nat) (0 : Nat) (0 : Nat) (0 : Nat)), ((9 : Nat), AV.int IntKind.i64 (↑k : Int))]
          [some (Blk.mk true [AV.int IntKind.i64 (AL.n s)] (1 : Nat) (96 : Nat) (fun j => [AV.bool (AL.B s j)]) [AV.int IntKind.i64 (AL.c s), AV.int IntKind.i64 (AL.w s), AV.int IntKind.i64 (AL.l s), AV.bool (AL.d s)])])) := by
  kernel_rfl

theorem fa_fnE (n first : Int) (z y : Nat → Int) (len cap : Nat) : afn Try.prog faE Try.f5 (codeOf Try.f5) [.int .i64 n, .sl 0 0 2 0 len cap, .int .i64 first] [some (f1R z y cap)] = 
  T.chk true
    (T.need
      (∃ ρ,
        SubSt (1 : Nat) ρ
          (St.mk [((0 : Nat), AV.int IntKind.i64 (IntKind.wrap IntKind.i64 ((1 : Int) + if (64 : Int) < (1 : Int) then (0 : Int) else n % (64 : Int)))), ((1 : Nat), AV.sl (0 : Nat) (0 : Nat) (2 : Nat) (0 : Nat) len cap), ((2 : Nat), AV.int IntKind.i64 first), ((7 : Nat), AV.ptr (1 : Nat) (0 : Nat) (0 : Nat) (0 : Nat)), ((8 : Nat), AV.int IntKind.i64 (0 : Int))]
            [some (Blk.mk false [] (2 : Nat) cap (fun r => [AV.int IntKind.i64 (z r), AV.int IntKind.i64 (y r)]) []),
              some (Blk.mk true [AV.int IntKind.i64 (clampA (IntKind.wrap IntKind.i64 ((1 : Int) + if (64 : Int) < (1 : Int) then (0 : Int) else n % (64 : Int))))] (1 : Nat) (96 : Nat) (fun j => [AV.bool false]) [AV.int IntKind.i64 (0 : Int), AV.int IntKind.i64 (0 : Int), AV.int IntKind.i64 (0 : Int), AV.bool false])])
          (f1St (F1.mk (Int.toNat (IntKind.wrap IntKind.i64 ((1 : Int) + if (64 : Int) < (1 : Int) then (0 : Int) else n % (64 : Int)))) first (fun r => intA (List.getD [AV.int IntKind.i64 (z r), AV.int IntKind.i64 (y r)] (0 : Nat) AV.ff)) (fun r => intA (List.getD [AV.int IntKind.i64 (z r), AV.int IntKind.i64 (y r)] (1 : Nat) AV.ff)) len cap (0 : Nat))))
      (T.need (f1Inv (F1.mk (Int.toNat (IntKind.wrap IntKind.i64 ((1 : Int) + if (64 : Int) < (1 : Int) then (0 : Int) else n % (64 : Int)))) first (fun r => intA (List.getD [AV.int IntKind.i64 (z r), AV.int IntKind.i64 (y r)] (0 : Nat) AV.ff)) (fun r => intA (List.getD [AV.int IntKind.i64 (z r), AV.int IntKind.i64 (y r)] (1 : Nat) AV.ff)) len cap (0 : Nat)))
        (T.chk (decide ((↑(Int.toNat (IntKind.wrap IntKind.i64 ((1 : Int) + if (64 : Int) < (1 : Int) then (0 : Int) else n % (64 : Int)))) : Int) ≤ (9223372036854775807 : Int)))
          (T.need
            (∃ ρ,
              SubSt (1 : Nat) ρ
                (St.mk
                  [((0 : Nat), AV.int IntKind.i64 (↑(Int.toNat (IntKind.wrap IntKind.i64 ((1 : Int) + if (64 : Int) < (1 : Int) then (0 : Int) else n % (64 : Int)))) : Int)),
                    ((2 : Nat), AV.int IntKind.i64 (if (↑(Int.toNat (IntKind.wrap IntKind.i64 ((1 : Int) + if (64 : Int) < (1 : Int) then (0 : Int) else n % (64 : Int)))) : Int) < (1 : Int) then (0 : Int) else first % (↑(Int.toNat (IntKind.wrap IntKind.i64 ((1 : Int) + if (64 : Int) < (1 : Int) then (0 : Int) else n % (64 : Int)))) : Int))),
                    ((7 : Nat), AV.ptr (1 : Nat) (0 : Nat) (0 : Nat) (0 : Nat)), ((9 : Nat), AV.int IntKind.i64 (0 : Int))]
                  [none,
                    some
                      (Blk.mk true
                        [AV.int IntKind.i64
                            (AL.n (runA (fun r => intA (List.getD [AV.int IntKind.i64 (z r), AV.int IntKind.i64 (y r)] (0 : Nat) AV.ff)) (fun r => intA (List.getD [AV.int IntKind.i64 (z r), AV.int IntKind.i64 (y r)] (1 : Nat) AV.ff)) (newA (↑(Int.toNat (IntKind.wrap IntKind.i64 ((1 : Int) + if (64 : Int) < (1 : Int) then (0 : Int) else n % (64 : Int)))) : Int)) (min len (300 : Nat))))]
                        (1 : Nat) (96 : Nat)
                        (fun j =>
                          [AV.bool (AL.B (runA (fun r => intA (List.getD [AV.int IntKind.i64 (z r), AV.int IntKind.i64 (y r)] (0 : Nat) AV.ff)) (fun r => intA (List.getD [AV.int IntKind.i64 (z r), AV.int IntKind.i64 (y r)] (1 : Nat) AV.ff)) (newA (↑(Int.toNat (IntKind.wrap IntKind.i64 ((1 : Int) + if (64 : Int) < (1 : Int) then (0 : Int) else n % (64 : Int)))) : Int)) (min len (300 : Nat))) j)])
                        [AV.int IntKind.i64
                            (AL.c (runA (fun r => intA (List.getD [AV.int IntKind.i64 (z r), AV.int IntKind.i64 (y r)] (0 : Nat) AV.ff)) (fun r => intA (List.getD [AV.int IntKind.i64 (z r), AV.int IntKind.i64 (y r)] (1 : Nat) AV.ff)) (newA (↑(Int.toNat (IntKind.wrap IntKind.i64 ((1 : Int) + if (64 : Int) < (1 : Int) then (0 : Int) else n % (64 : Int)))) : Int)) (min len (300 : Nat)))),
                          AV.int IntKind.i64
                            (AL.w (runA (fun r => intA (List.getD [AV.int IntKind.i64 (z r), AV.int IntKind.i64 (y r)] (0 : Nat) AV.ff)) (fun r => intA (List.getD [AV.int IntKind.i64 (z r), AV.int IntKind.i64 (y r)] (1 : Nat) AV.ff)) (newA (↑(Int.toNat (IntKind.wrap IntKind.i64 ((1 : Int) + if (64 : Int) < (1 : Int) then (0 : Int) else n % (64 : Int)))) : Int)) (min len (300 : Nat)))),
                          AV.int IntKind.i64
                            (AL.l (runA (fun r => intA (List.getD [AV.int IntKind.i64 (z r), AV.int IntKind.i64 (y r)] (0 : Nat) AV.ff)) (fun r => intA (List.getD [AV.int IntKind.i64 (z r), AV.int IntKind.i64 (y r)] (1 : Nat) AV.ff)) (newA (↑(Int.toNat (IntKind.wrap IntKind.i64 ((1 : Int) + if (64 : Int) < (1 : Int) then (0 : Int) else n % (64 : Int)))) : Int)) (min len (300 : Nat)))),
                          AV.bool (AL.d (runA (fun r => intA (List.getD [AV.int IntKind.i64 (z r), AV.int IntKind.i64 (y r)] (0 : Nat) AV.ff)) (fun r => intA (List.getD [AV.int IntKind.i64 (z r), AV.int IntKind.i64 (y r)] (1 : Nat) AV.ff)) (newA (↑(Int.toNat (IntKind.wrap IntKind.i64 ((1 : Int) + if (64 : Int) < (1 : Int) then (0 : Int) else n % (64 : Int)))) : Int)) (min len (300 : Nat))))])])
                (f2St [none]
                  (F2.mk (0 : Nat) (Int.toNat (↑(Int.toNat (IntKind.wrap IntKind.i64 ((1 : Int) + if (64 : Int) < (1 : Int) then (0 : Int) else n % (64 : Int)))) : Int))
                    (Int.toNat (if (↑(Int.toNat (IntKind.wrap IntKind.i64 ((1 : Int) + if (64 : Int) < (1 : Int) then (0 : Int) else n % (64 : Int)))) : Int) < (1 : Int) then (0 : Int) else first % (↑(Int.toNat (IntKind.wrap IntKind.i64 ((1 : Int) + if (64 : Int) < (1 : Int) then (0 : Int) else n % (64 : Int)))) : Int)))
                    (stA (alB (runA (fun r => intA (List.getD [AV.int IntKind.i64 (z r), AV.int IntKind.i64 (y r)] (0 : Nat) AV.ff)) (fun r => intA (List.getD [AV.int IntKind.i64 (z r), AV.int IntKind.i64 (y r)] (1 : Nat) AV.ff)) (newA (↑(Int.toNat (IntKind.wrap IntKind.i64 ((1 : Int) + if (64 : Int) < (1 : Int) then (0 : Int) else n % (64 : Int)))) : Int)) (min len (300 : Nat))))) (0 : Nat))))
            (T.need
              (f2Inv
                (F2.mk (0 : Nat) (Int.toNat (↑(Int.toNat (IntKind.wrap IntKind.i64 ((1 : Int) + if (64 : Int) < (1 : Int) then (0 : Int) else n % (64 : Int)))) : Int))
                  (Int.toNat (if (↑(Int.toNat (IntKind.wrap IntKind.i64 ((1 : Int) + if (64 : Int) < (1 : Int) then (0 : Int) else n % (64 : Int)))) : Int) < (1 : Int) then (0 : Int) else first % (↑(Int.toNat (IntKind.wrap IntKind.i64 ((1 : Int) + if (64 : Int) < (1 : Int) then (0 : Int) else n % (64 : Int)))) : Int)))
                  (stA (alB (runA (fun r => intA (List.getD [AV.int IntKind.i64 (z r), AV.int IntKind.i64 (y r)] (0 : Nat) AV.ff)) (fun r => intA (List.getD [AV.int IntKind.i64 (z r), AV.int IntKind.i64 (y r)] (1 : Nat) AV.ff)) (newA (↑(Int.toNat (IntKind.wrap IntKind.i64 ((1 : Int) + if (64 : Int) < (1 : Int) then (0 : Int) else n % (64 : Int)))) : Int)) (min len (300 : Nat))))) (0 : Nat)))
              (T.need (IsAl (Blk.mk true [AV.int IntKind.i64 (↑(Int.toNat (↑(Int.toNat (IntKind.wrap IntKind.i64 ((1 : Int) + if (64 : Int) < (1 : Int) then (0 : Int) else n % (64 : Int)))) : Int)) : Int)] (1 : Nat) (96 : Nat) (fun j => [AV.bool false]) [AV.int IntKind.i64 (0 : Int), AV.int IntKind.i64 (2000 : Int), AV.int IntKind.i64 (2000 : Int), AV.bool true]))
                (T.chk (decide (intA (List.getD [AV.int IntKind.i64 (↑(Int.toNat (↑(Int.toNat (IntKind.wrap IntKind.i64 ((1 : Int) + if (64 : Int) < (1 : Int) then (0 : Int) else n % (64 : Int)))) : Int)) : Int)] (0 : Nat) AV.ff) ≤ (96 : Int)))
                  (T.ite
                    (!barR (stA (alB (fuW (Int.toNat (↑(Int.toNat (IntKind.wrap IntKind.i64 ((1 : Int) + if (64 : Int) < (1 : Int) then (0 : Int) else n % (64 : Int)))) : Int)) (2000 : Int))))
                        (↑(Int.toNat (if (↑(Int.toNat (IntKind.wrap IntKind.i64 ((1 : Int) + if (64 : Int) < (1 : Int) then (0 : Int) else n % (64 : Int)))) : Int) < (1 : Int) then (0 : Int) else first % (↑(Int.toNat (IntKind.wrap IntKind.i64 ((1 : Int) + if (64 : Int) < (1 : Int) then (0 : Int) else n % (64 : Int)))) : Int))) : Int) (2000 : Int))
                    (T.need
                      (IsAl
                        (Blk.mk true
                          [AV.int IntKind.i64
                              (AL.n
                                (bar (stA (alB (fuW (Int.toNat (↑(Int.toNat (IntKind.wrap IntKind.i64 ((1 : Int) + if (64 : Int) < (1 : Int) then (0 : Int) else n % (64 : Int)))) : Int)) (2000 : Int))))
                                  (↑(Int.toNat (if (↑(Int.toNat (IntKind.wrap IntKind.i64 ((1 : Int) + if (64 : Int) < (1 : Int) then (0 : Int) else n % (64 : Int)))) : Int) < (1 : Int) then (0 : Int) else first % (↑(Int.toNat (IntKind.wrap IntKind.i64 ((1 : Int) + if (64 : Int) < (1 : Int) then (0 : Int) else n % (64 : Int)))) : Int))) : Int) (2000 : Int)))]
                          (1 : Nat) (96 : Nat)
                          (fun j =>
                            [AV.bool
                                (AL.B
                                  (bar (stA (alB (fuW (Int.toNat (↑(Int.toNat (IntKind.wrap IntKind.i64 ((1 : Int) + if (64 : Int) < (1 : Int) then (0 : Int) else n % (64 : Int)))) : Int)) (2000 : Int))))
                                    (↑(Int.toNat (if (↑(Int.toNat (IntKind.wrap IntKind.i64 ((1 : Int) + if (64 : Int) < (1 : Int) then (0 : Int) else n % (64 : Int)))) : Int) < (1 : Int) then (0 : Int) else first % (↑(Int.toNat (IntKind.wrap IntKind.i64 ((1 : Int) + if (64 : Int) < (1 : Int) then (0 : Int) else n % (64 : Int)))) : Int))) : Int) (2000 : Int))
                                  j)])
                          [AV.int IntKind.i64
                              (AL.c
                                (bar (stA (alB (fuW (Int.toNat (↑(Int.toNat (IntKind.wrap IntKind.i64 ((1 : Int) + if (64 : Int) < (1 : Int) then (0 : Int) else n % (64 : Int)))) : Int)) (2000 : Int))))
                                  (↑(Int.toNat (if (↑(Int.toNat (IntKind.wrap IntKind.i64 ((1 : Int) + if (64 : Int) < (1 : Int) then (0 : Int) else n % (64 : Int)))) : Int) < (1 : Int) then (0 : Int) else first % (↑(Int.toNat (IntKind.wrap IntKind.i64 ((1 : Int) + if (64 : Int) < (1 : Int) then (0 : Int) else n % (64 : Int)))) : Int))) : Int) (2000 : Int))),
                            AV.int IntKind.i64
                              (AL.w
                                (bar (stA (alB (fuW (Int.toNat (↑(Int.toNat (IntKind.wrap IntKind.i64 ((1 : Int) + if (64 : Int) < (1 : Int) then (0 : Int) else n % (64 : Int)))) : Int)) (2000 : Int))))
                                  (↑(Int.toNat (if (↑(Int.toNat (IntKind.wrap IntKind.i64 ((1 : Int) + if (64 : Int) < (1 : Int) then (0 : Int) else n % (64 : Int)))) : Int) < (1 : Int) then (0 : Int) else first % (↑(Int.toNat (IntKind.wrap IntKind.i64 ((1 : Int) + if (64 : Int) < (1 : Int) then (0 : Int) else n % (64 : Int)))) : Int))) : Int) (2000 : Int))),
                            AV.int IntKind.i64
                              (AL.l
                                (bar (stA (alB (fuW (Int.toNat (↑(Int.toNat (IntKind.wrap IntKind.i64 ((1 : Int) + if (64 : Int) < (1 : Int) then (0 : Int) else n % (64 : Int)))) : Int)) (2000 : Int))))
                                  (↑(Int.toNat (if (↑(Int.toNat (IntKind.wrap IntKind.i64 ((1 : Int) + if (64 : Int) < (1 : Int) then (0 : Int) else n % (64 : Int)))) : Int) < (1 : Int) then (0 : Int) else first % (↑(Int.toNat (IntKind.wrap IntKind.i64 ((1 : Int) + if (64 : Int) < (1 : Int) then (0 : Int) else n % (64 : Int)))) : Int))) : Int) (2000 : Int))),
                            AV.bool
                              (AL.d
                                (bar (stA (alB (fuW (Int.toNat (↑(Int.toNat (IntKind.wrap IntKind.i64 ((1 : Int) + if (64 : Int) < (1 : Int) then (0 : Int) else n % (64 : Int)))) : Int)) (2000 : Int))))
                                  (↑(Int.toNat (if (↑(Int.toNat (IntKind.wrap IntKind.i64 ((1 : Int) + if (64 : Int) < (1 : Int) then (0 : Int) else n % (64 : Int)))) : Int) < (1 : Int) then (0 : Int) else first % (↑(Int.toNat (IntKind.wrap IntKind.i64 ((1 : Int) + if (64 : Int) < (1 : Int) then (0 : Int) else n % (64 : Int)))) : Int))) : Int) (2000 : Int)))]))
                      (T.chk
                        (decide
                          (intA
                              (List.getD
                                (renL (out [(1 : Nat)] (List.length ([none] ++ [some (alB (fuW (Int.toNat (↑(Int.toNat (IntKind.wrap IntKind.i64 ((1 : Int) + if (64 : Int) < (1 : Int) then (0 : Int) else n % (64 : Int)))) : Int)) (2000 : Int)))])))
                                  [AV.int IntKind.i64
                                      (AL.n
                                        (bar (stA (alB (fuW (Int.toNat (↑(Int.toNat (IntKind.wrap IntKind.i64 ((1 : Int) + if (64 : Int) < (1 : Int) then (0 : Int) else n % (64 : Int)))) : Int)) (2000 : Int))))
                                          (↑(Int.toNat (if (↑(Int.toNat (IntKind.wrap IntKind.i64 ((1 : Int) + if (64 : Int) < (1 : Int) then (0 : Int) else n % (64 : Int)))) : Int) < (1 : Int) then (0 : Int) else first % (↑(Int.toNat (IntKind.wrap IntKind.i64 ((1 : Int) + if (64 : Int) < (1 : Int) then (0 : Int) else n % (64 : Int)))) : Int))) : Int) (2000 : Int)))])
                                (0 : Nat) AV.ff) ≤
                            (96 : Int)))
                        (T.ite
                          (!barR
                              (stA
                                (renB (out [(1 : Nat)] (List.length ([none] ++ [some (alB (fuW (Int.toNat (↑(Int.toNat (IntKind.wrap IntKind.i64 ((1 : Int) + if (64 : Int) < (1 : Int) then (0 : Int) else n % (64 : Int)))) : Int)) (2000 : Int)))])))
                                  (alB
                                    (bar (stA (alB (fuW (Int.toNat (↑(Int.toNat (IntKind.wrap IntKind.i64 ((1 : Int) + if (64 : Int) < (1 : Int) then (0 : Int) else n % (64 : Int)))) : Int)) (2000 : Int))))
                                      (↑(Int.toNat (if (↑(Int.toNat (IntKind.wrap IntKind.i64 ((1 : Int) + if (64 : Int) < (1 : Int) then (0 : Int) else n % (64 : Int)))) : Int) < (1 : Int) then (0 : Int) else first % (↑(Int.toNat (IntKind.wrap IntKind.i64 ((1 : Int) + if (64 : Int) < (1 : Int) then (0 : Int) else n % (64 : Int)))) : Int))) : Int) (2000 : Int)))))
                              (↑(Int.toNat (if (↑(Int.toNat (IntKind.wrap IntKind.i64 ((1 : Int) + if (64 : Int) < (1 : Int) then (0 : Int) else n % (64 : Int)))) : Int) < (1 : Int) then (0 : Int) else first % (↑(Int.toNat (IntKind.wrap IntKind.i64 ((1 : Int) + if (64 : Int) < (1 : Int) then (0 : Int) else n % (64 : Int)))) : Int))) : Int) (1999 : Int))
                          (T.need
                            (IsAl
                              (Blk.mk true
                                [AV.int IntKind.i64
                                    (AL.n
                                      (bar
                                        (stA
                                          (renB (out [(1 : Nat)] (List.length ([none] ++ [some (alB (fuW (Int.toNat (↑(Int.toNat (IntKind.wrap IntKind.i64 ((1 : Int) + if (64 : Int) < (1 : Int) then (0 : Int) else n % (64 : Int)))) : Int)) (2000 : Int)))])))
                                            (alB
                                              (bar (stA (alB (fuW (Int.toNat (↑(Int.toNat (IntKind.wrap IntKind.i64 ((1 : Int) + if (64 : Int) < (1 : Int) then (0 : Int) else n % (64 : Int)))) : Int)) (2000 : Int))))
                                                (↑(Int.toNat (if (↑(Int.toNat (IntKind.wrap IntKind.i64 ((1 : Int) + if (64 : Int) < (1 : Int) then (0 : Int) else n % (64 : Int)))) : Int) < (1 : Int) then (0 : Int) else first % (↑(Int.toNat (IntKind.wrap IntKind.i64 ((1 : Int) + if (64 : Int) < (1 : Int) then (0 : Int) else n % (64 : Int)))) : Int))) : Int) (2000 : Int)))))
                                        (↑(Int.toNat (if (↑(Int.toNat (IntKind.wrap IntKind.i64 ((1 : Int) + if (64 : Int) < (1 : Int) then (0 : Int) else n % (64 : Int)))) : Int) < (1 : Int) then (0 : Int) else first % (↑(Int.toNat (IntKind.wrap IntKind.i64 ((1 : Int) + if (64 : Int) < (1 : Int) then (0 : Int) else n % (64 : Int)))) : Int))) : Int) (1999 : Int)))]
                                (1 : Nat) (96 : Nat)
                                (fun j =>
                                  [AV.bool
                                      (AL.B
                                        (bar
                                          (stA
                                            (renB (out [(1 : Nat)] (List.length ([none] ++ [some (alB (fuW (Int.toNat (↑(Int.toNat (IntKind.wrap IntKind.i64 ((1 : Int) + if (64 : Int) < (1 : Int) then (0 : Int) else n % (64 : Int)))) : Int)) (2000 : Int)))])))
                                              (alB
                                                (bar (stA (alB (fuW (Int.toNat (↑(Int.toNat (IntKind.wrap IntKind.i64 ((1 : Int) + if (64 : Int) < (1 : Int) then (0 : Int) else n % (64 : Int)))) : Int)) (2000 : Int))))
                                                  (↑(Int.toNat (if (↑(Int.toNat (IntKind.wrap IntKind.i64 ((1 : Int) + if (64 : Int) < (1 : Int) then (0 : Int) else n % (64 : Int)))) : Int) < (1 : Int) then (0 : Int) else first % (↑(Int.toNat (IntKind.wrap IntKind.i64 ((1 : Int) + if (64 : Int) < (1 : Int) then (0 : Int) else n % (64 : Int)))) : Int))) : Int) (2000 : Int)))))
                                          (↑(Int.toNat (if (↑(Int.toNat (IntKind.wrap IntKind.i64 ((1 : Int) + if (64 : Int) < (1 : Int) then (0 : Int) else n % (64 : Int)))) : Int) < (1 : Int) then (0 : Int) else first % (↑(Int.toNat (IntKind.wrap IntKind.i64 ((1 : Int) + if (64 : Int) < (1 : Int) then (0 : Int) else n % (64 : Int)))) : Int))) : Int) (1999 : Int))
                                        j)])
                                [AV.int IntKind.i64
                                    (AL.c
                                      (bar
                                        (stA
                                          (renB (out [(1 : Nat)] (List.length ([none] ++ [some (alB (fuW (Int.toNat (↑(Int.toNat (IntKind.wrap IntKind.i64 ((1 : Int) + if (64 : Int) < (1 : Int) then (0 : Int) else n % (64 : Int)))) : Int)) (2000 : Int)))])))
                                            (alB
                                              (bar (stA (alB (fuW (Int.toNat (↑(Int.toNat (IntKind.wrap IntKind.i64 ((1 : Int) + if (64 : Int) < (1 : Int) then (0 : Int) else n % (64 : Int)))) : Int)) (2000 : Int))))
                                                (↑(Int.toNat (if (↑(Int.toNat (IntKind.wrap IntKind.i64 ((1 : Int) + if (64 : Int) < (1 : Int) then (0 : Int) else n % (64 : Int)))) : Int) < (1 : Int) then (0 : Int) else first % (↑(Int.toNat (IntKind.wrap IntKind.i64 ((1 : Int) + if (64 : Int) < (1 : Int) then (0 : Int) else n % (64 : Int)))) : Int))) : Int) (2000 : Int)))))
                                        (↑(Int.toNat (if (↑(Int.toNat (IntKind.wrap IntKind.i64 ((1 : Int) + if (64 : Int) < (1 : Int) then (0 : Int) else n % (64 : Int)))) : Int) < (1 : Int) then (0 : Int) else first % (↑(Int.toNat (IntKind.wrap IntKind.i64 ((1 : Int) + if (64 : Int) < (1 : Int) then (0 : Int) else n % (64 : Int)))) : Int))) : Int) (1999 : Int))),
                                  AV.int IntKind.i64
                                    (AL.w
                                      (bar
                                        (stA
                                          (renB (out [(1 : Nat)] (List.length ([none] ++ [some (alB (fuW (Int.toNat (↑(Int.toNat (IntKind.wrap IntKind.i64 ((1 : Int) + if (64 : Int) < (1 : Int) then (0 : Int) else n % (64 : Int)))) : Int)) (2000 : Int)))])))
                                            (alB
                                              (bar (stA (alB (fuW (Int.toNat (↑(Int.toNat (IntKind.wrap IntKind.i64 ((1 : Int) + if (64 : Int) < (1 : Int) then (0 : Int) else n % (64 : Int)))) : Int)) (2000 : Int))))
                                                (↑(Int.toNat (if (↑(Int.toNat (IntKind.wrap IntKind.i64 ((1 : Int) + if (64 : Int) < (1 : Int) then (0 : Int) else n % (64 : Int)))) : Int) < (1 : Int) then (0 : Int) else first % (↑(Int.toNat (IntKind.wrap IntKind.i64 ((1 : Int) + if (64 : Int) < (1 : Int) then (0 : Int) else n % (64 : Int)))) : Int))) : Int) (2000 : Int)))))
                                        (↑(Int.toNat (if (↑(Int.toNat (IntKind.wrap IntKind.i64 ((1 : Int) + if (64 : Int) < (1 : Int) then (0 : Int) else n % (64 : Int)))) : Int) < (1 : Int) then (0 : Int) else first % (↑(Int.toNat (IntKind.wrap IntKind.i64 ((1 : Int) + if (64 : Int) < (1 : Int) then (0 : Int) else n % (64 : Int)))) : Int))) : Int) (1999 : Int))),
                                  AV.int IntKind.i64
                                    (AL.l
                                      (bar
                                        (stA
                                          (renB (out [(1 : Nat)] (List.length ([none] ++ [some (alB (fuW (Int.toNat (↑(Int.toNat (IntKind.wrap IntKind.i64 ((1 : Int) + if (64 : Int) < (1 : Int) then (0 : Int) else n % (64 : Int)))) : Int)) (2000 : Int)))])))
                                            (alB
                                              (bar (stA (alB (fuW (Int.toNat (↑(Int.toNat (IntKind.wrap IntKind.i64 ((1 : Int) + if (64 : Int) < (1 : Int) then (0 : Int) else n % (64 : Int)))) : Int)) (2000 : Int))))
                                                (↑(Int.toNat (if (↑(Int.toNat (IntKind.wrap IntKind.i64 ((1 : Int) + if (64 : Int) < (1 : Int) then (0 : Int) else n % (64 : Int)))) : Int) < (1 : Int) then (0 : Int) else first % (↑(Int.toNat (IntKind.wrap IntKind.i64 ((1 : Int) + if (64 : Int) < (1 : Int) then (0 : Int) else n % (64 : Int)))) : Int))) : Int) (2000 : Int)))))
                                        (↑(Int.toNat (if (↑(Int.toNat (IntKind.wrap IntKind.i64 ((1 : Int) + if (64 : Int) < (1 : Int) then (0 : Int) else n % (64 : Int)))) : Int) < (1 : Int) then (0 : Int) else first % (↑(Int.toNat (IntKind.wrap IntKind.i64 ((1 : Int) + if (64 : Int) < (1 : Int) then (0 : Int) else n % (64 : Int)))) : Int))) : Int) (1999 : Int))),
                                  AV.bool
                                    (AL.d
                                      (bar
                                        (stA
                                          (renB (out [(1 : Nat)] (List.length ([none] ++ [some (alB (fuW (Int.toNat (↑(Int.toNat (IntKind.wrap IntKind.i64 ((1 : Int) + if (64 : Int) < (1 : Int) then (0 : Int) else n % (64 : Int)))) : Int)) (2000 : Int)))])))
                                            (alB
                                              (bar (stA (alB (fuW (Int.toNat (↑(Int.toNat (IntKind.wrap IntKind.i64 ((1 : Int) + if (64 : Int) < (1 : Int) then (0 : Int) else n % (64 : Int)))) : Int)) (2000 : Int))))
                                                (↑(Int.toNat (if (↑(Int.toNat (IntKind.wrap IntKind.i64 ((1 : Int) + if (64 : Int) < (1 : Int) then (0 : Int) else n % (64 : Int)))) : Int) < (1 : Int) then (0 : Int) else first % (↑(Int.toNat (IntKind.wrap IntKind.i64 ((1 : Int) + if (64 : Int) < (1 : Int) then (0 : Int) else n % (64 : Int)))) : Int))) : Int) (2000 : Int)))))
                                        (↑(Int.toNat (if (↑(Int.toNat (IntKind.wrap IntKind.i64 ((1 : Int) + if (64 : Int) < (1 : Int) then (0 : Int) else n % (64 : Int)))) : Int) < (1 : Int) then (0 : Int) else first % (↑(Int.toNat (IntKind.wrap IntKind.i64 ((1 : Int) + if (64 : Int) < (1 : Int) then (0 : Int) else n % (64 : Int)))) : Int))) : Int) (1999 : Int)))]))
                            (T.chk
                              (decide
                                (intA
                                    (List.getD
                                      (renL
                                        (out [(1 : Nat)]
                                          (List.length
                                            (putAll [(1 : Nat)] (List.length ([none] ++ [some (alB (fuW (Int.toNat (↑(Int.toNat (IntKind.wrap IntKind.i64 ((1 : Int) + if (64 : Int) < (1 : Int) then (0 : Int) else n % (64 : Int)))) : Int)) (2000 : Int)))]))
                                                [some (alB (stA (alB (fuW (Int.toNat (↑(Int.toNat (IntKind.wrap IntKind.i64 ((1 : Int) + if (64 : Int) < (1 : Int) then (0 : Int) else n % (64 : Int)))) : Int)) (2000 : Int)))))]
                                                [some
                                                    (alB
                                                      (bar (stA (alB (fuW (Int.toNat (↑(Int.toNat (IntKind.wrap IntKind.i64 ((1 : Int) + if (64 : Int) < (1 : Int) then (0 : Int) else n % (64 : Int)))) : Int)) (2000 : Int))))
                                                        (↑(Int.toNat (if (↑(Int.toNat (IntKind.wrap IntKind.i64 ((1 : Int) + if (64 : Int) < (1 : Int) then (0 : Int) else n % (64 : Int)))) : Int) < (1 : Int) then (0 : Int) else first % (↑(Int.toNat (IntKind.wrap IntKind.i64 ((1 : Int) + if (64 : Int) < (1 : Int) then (0 : Int) else n % (64 : Int)))) : Int))) : Int) (2000 : Int)))]
                                                [(1 : Nat)] (0 : Nat) ([none] ++ [some (alB (fuW (Int.toNat (↑(Int.toNat (IntKind.wrap IntKind.i64 ((1 : Int) + if (64 : Int) < (1 : Int) then (0 : Int) else n % (64 : Int)))) : Int)) (2000 : Int)))]) ++
                                              news [(1 : Nat)] (List.length ([none] ++ [some (alB (fuW (Int.toNat (↑(Int.toNat (IntKind.wrap IntKind.i64 ((1 : Int) + if (64 : Int) < (1 : Int) then (0 : Int) else n % (64 : Int)))) : Int)) (2000 : Int)))]))
                                                (List.drop (1 : Nat)
                                                  [some
                                                      (alB
                                                        (bar (stA (alB (fuW (Int.toNat (↑(Int.toNat (IntKind.wrap IntKind.i64 ((1 : Int) + if (64 : Int) < (1 : Int) then (0 : Int) else n % (64 : Int)))) : Int)) (2000 : Int))))
                                                          (↑(Int.toNat (if (↑(Int.toNat (IntKind.wrap IntKind.i64 ((1 : Int) + if (64 : Int) < (1 : Int) then (0 : Int) else n % (64 : Int)))) : Int) < (1 : Int) then (0 : Int) else first % (↑(Int.toNat (IntKind.wrap IntKind.i64 ((1 : Int) + if (64 : Int) < (1 : Int) then (0 : Int) else n % (64 : Int)))) : Int))) : Int) (2000 : Int)))]))))
                                        [AV.int IntKind.i64
                                            (AL.n
                                              (bar
                                                (stA
                                                  (renB (out [(1 : Nat)] (List.length ([none] ++ [some (alB (fuW (Int.toNat (↑(Int.toNat (IntKind.wrap IntKind.i64 ((1 : Int) + if (64 : Int) < (1 : Int) then (0 : Int) else n % (64 : Int)))) : Int)) (2000 : Int)))])))
                                                    (alB
                                                      (bar (stA (alB (fuW (Int.toNat (↑(Int.toNat (IntKind.wrap IntKind.i64 ((1 : Int) + if (64 : Int) < (1 : Int) then (0 : Int) else n % (64 : Int)))) : Int)) (2000 : Int))))
                                                        (↑(Int.toNat (if (↑(Int.toNat (IntKind.wrap IntKind.i64 ((1 : Int) + if (64 : Int) < (1 : Int) then (0 : Int) else n % (64 : Int)))) : Int) < (1 : Int) then (0 : Int) else first % (↑(Int.toNat (IntKind.wrap IntKind.i64 ((1 : Int) + if (64 : Int) < (1 : Int) then (0 : Int) else n % (64 : Int)))) : Int))) : Int) (2000 : Int)))))
                                                (↑(Int.toNat (if (↑(Int.toNat (IntKind.wrap IntKind.i64 ((1 : Int) + if (64 : Int) < (1 : Int) then (0 : Int) else n % (64 : Int)))) : Int) < (1 : Int) then (0 : Int) else first % (↑(Int.toNat (IntKind.wrap IntKind.i64 ((1 : Int) + if (64 : Int) < (1 : Int) then (0 : Int) else n % (64 : Int)))) : Int))) : Int) (1999 : Int)))])
                                      (0 : Nat) AV.ff) ≤
                                  (96 : Int)))
                              (T.ite
                                (!blkA
                                    (stA
                                      (renB
                                        (out [(1 : Nat)]
                                          (List.length
                                            (putAll [(1 : Nat)] (List.length ([none] ++ [some (alB (fuW (Int.toNat (↑(Int.toNat (IntKind.wrap IntKind.i64 ((1 : Int) + if (64 : Int) < (1 : Int) then (0 : Int) else n % (64 : Int)))) : Int)) (2000 : Int)))]))
                                                [some (alB (stA (alB (fuW (Int.toNat (↑(Int.toNat (IntKind.wrap IntKind.i64 ((1 : Int) + if (64 : Int) < (1 : Int) then (0 : Int) else n % (64 : Int)))) : Int)) (2000 : Int)))))]
                                                [some
                                                    (alB
                                                      (bar (stA (alB (fuW (Int.toNat (↑(Int.toNat (IntKind.wrap IntKind.i64 ((1 : Int) + if (64 : Int) < (1 : Int) then (0 : Int) else n % (64 : Int)))) : Int)) (2000 : Int))))
                                                        (↑(Int.toNat (if (↑(Int.toNat (IntKind.wrap IntKind.i64 ((1 : Int) + if (64 : Int) < (1 : Int) then (0 : Int) else n % (64 : Int)))) : Int) < (1 : Int) then (0 : Int) else first % (↑(Int.toNat (IntKind.wrap IntKind.i64 ((1 : Int) + if (64 : Int) < (1 : Int) then (0 : Int) else n % (64 : Int)))) : Int))) : Int) (2000 : Int)))]
                                                [(1 : Nat)] (0 : Nat) ([none] ++ [some (alB (fuW (Int.toNat (↑(Int.toNat (IntKind.wrap IntKind.i64 ((1 : Int) + if (64 : Int) < (1 : Int) then (0 : Int) else n % (64 : Int)))) : Int)) (2000 : Int)))]) ++
                                              news [(1 : Nat)] (List.length ([none] ++ [some (alB (fuW (Int.toNat (↑(Int.toNat (IntKind.wrap IntKind.i64 ((1 : Int) + if (64 : Int) < (1 : Int) then (0 : Int) else n % (64 : Int)))) : Int)) (2000 : Int)))]))
                                                (List.drop (1 : Nat)
                                                  [some
                                                      (alB
                                                        (bar (stA (alB (fuW (Int.toNat (↑(Int.toNat (IntKind.wrap IntKind.i64 ((1 : Int) + if (64 : Int) < (1 : Int) then (0 : Int) else n % (64 : Int)))) : Int)) (2000 : Int))))
                                                          (↑(Int.toNat (if (↑(Int.toNat (IntKind.wrap IntKind.i64 ((1 : Int) + if (64 : Int) < (1 : Int) then (0 : Int) else n % (64 : Int)))) : Int) < (1 : Int) then (0 : Int) else first % (↑(Int.toNat (IntKind.wrap IntKind.i64 ((1 : Int) + if (64 : Int) < (1 : Int) then (0 : Int) else n % (64 : Int)))) : Int))) : Int) (2000 : Int)))]))))
                                        (alB
                                          (bar
                                            (stA
                                              (renB (out [(1 : Nat)] (List.length ([none] ++ [some (alB (fuW (Int.toNat (↑(Int.toNat (IntKind.wrap IntKind.i64 ((1 : Int) + if (64 : Int) < (1 : Int) then (0 : Int) else n % (64 : Int)))) : Int)) (2000 : Int)))])))
                                                (alB
                                                  (bar (stA (alB (fuW (Int.toNat (↑(Int.toNat (IntKind.wrap IntKind.i64 ((1 : Int) + if (64 : Int) < (1 : Int) then (0 : Int) else n % (64 : Int)))) : Int)) (2000 : Int))))
                                                    (↑(Int.toNat (if (↑(Int.toNat (IntKind.wrap IntKind.i64 ((1 : Int) + if (64 : Int) < (1 : Int) then (0 : Int) else n % (64 : Int)))) : Int) < (1 : Int) then (0 : Int) else first % (↑(Int.toNat (IntKind.wrap IntKind.i64 ((1 : Int) + if (64 : Int) < (1 : Int) then (0 : Int) else n % (64 : Int)))) : Int))) : Int) (2000 : Int)))))
                                            (↑(Int.toNat (if (↑(Int.toNat (IntKind.wrap IntKind.i64 ((1 : Int) + if (64 : Int) < (1 : Int) then (0 : Int) else n % (64 : Int)))) : Int) < (1 : Int) then (0 : Int) else first % (↑(Int.toNat (IntKind.wrap IntKind.i64 ((1 : Int) + if (64 : Int) < (1 : Int) then (0 : Int) else n % (64 : Int)))) : Int))) : Int) (1999 : Int)))))
                                    (↑(Int.toNat (if (↑(Int.toNat (IntKind.wrap IntKind.i64 ((1 : Int) + if (64 : Int) < (1 : Int) then (0 : Int) else n % (64 : Int)))) : Int) < (1 : Int) then (0 : Int) else first % (↑(Int.toNat (IntKind.wrap IntKind.i64 ((1 : Int) + if (64 : Int) < (1 : Int) then (0 : Int) else n % (64 : Int)))) : Int))) : Int))
                                (T.ret
                                  (AV.bool true,
                                    [none,
                                      some
                                        (Blk.mk true
                                          [AV.int IntKind.i64
                                              (AL.n
                                                (bar
                                                  (stA
                                                    (renB (out [(1 : Nat)] (List.length ([none] ++ [some (alB (fuW (Int.toNat (↑(Int.toNat (IntKind.wrap IntKind.i64 ((1 : Int) + if (64 : Int) < (1 : Int) then (0 : Int) else n % (64 : Int)))) : Int)) (2000 : Int)))])))
                                                      (alB
                                                        (bar (stA (alB (fuW (Int.toNat (↑(Int.toNat (IntKind.wrap IntKind.i64 ((1 : Int) + if (64 : Int) < (1 : Int) then (0 : Int) else n % (64 : Int)))) : Int)) (2000 : Int))))
                                                          (↑(Int.toNat (if (↑(Int.toNat (IntKind.wrap IntKind.i64 ((1 : Int) + if (64 : Int) < (1 : Int) then (0 : Int) else n % (64 : Int)))) : Int) < (1 : Int) then (0 : Int) else first % (↑(Int.toNat (IntKind.wrap IntKind.i64 ((1 : Int) + if (64 : Int) < (1 : Int) then (0 : Int) else n % (64 : Int)))) : Int))) : Int) (2000 : Int)))))
                                                  (↑(Int.toNat (if (↑(Int.toNat (IntKind.wrap IntKind.i64 ((1 : Int) + if (64 : Int) < (1 : Int) then (0 : Int) else n % (64 : Int)))) : Int) < (1 : Int) then (0 : Int) else first % (↑(Int.toNat (IntKind.wrap IntKind.i64 ((1 : Int) + if (64 : Int) < (1 : Int) then (0 : Int) else n % (64 : Int)))) : Int))) : Int) (1999 : Int)))]
                                          (1 : Nat) (96 : Nat)
                                          (fun j =>
                                            [AV.bool
                                                (AL.B
                                                  (bar
                                                    (stA
                                                      (renB (out [(1 : Nat)] (List.length ([none] ++ [some (alB (fuW (Int.toNat (↑(Int.toNat (IntKind.wrap IntKind.i64 ((1 : Int) + if (64 : Int) < (1 : Int) then (0 : Int) else n % (64 : Int)))) : Int)) (2000 : Int)))])))
                                                        (alB
                                                          (bar (stA (alB (fuW (Int.toNat (↑(Int.toNat (IntKind.wrap IntKind.i64 ((1 : Int) + if (64 : Int) < (1 : Int) then (0 : Int) else n % (64 : Int)))) : Int)) (2000 : Int))))
                                                            (↑(Int.toNat (if (↑(Int.toNat (IntKind.wrap IntKind.i64 ((1 : Int) + if (64 : Int) < (1 : Int) then (0 : Int) else n % (64 : Int)))) : Int) < (1 : Int) then (0 : Int) else first % (↑(Int.toNat (IntKind.wrap IntKind.i64 ((1 : Int) + if (64 : Int) < (1 : Int) then (0 : Int) else n % (64 : Int)))) : Int))) : Int) (2000 : Int)))))
                                                    (↑(Int.toNat (if (↑(Int.toNat (IntKind.wrap IntKind.i64 ((1 : Int) + if (64 : Int) < (1 : Int) then (0 : Int) else n % (64 : Int)))) : Int) < (1 : Int) then (0 : Int) else first % (↑(Int.toNat (IntKind.wrap IntKind.i64 ((1 : Int) + if (64 : Int) < (1 : Int) then (0 : Int) else n % (64 : Int)))) : Int))) : Int) (1999 : Int))
                                                  j)])
                                          [AV.int IntKind.i64
                                              (AL.c
                                                (bar
                                                  (stA
                                                    (renB (out [(1 : Nat)] (List.length ([none] ++ [some (alB (fuW (Int.toNat (↑(Int.toNat (IntKind.wrap IntKind.i64 ((1 : Int) + if (64 : Int) < (1 : Int) then (0 : Int) else n % (64 : Int)))) : Int)) (2000 : Int)))])))
                                                      (alB
                                                        (bar (stA (alB (fuW (Int.toNat (↑(Int.toNat (IntKind.wrap IntKind.i64 ((1 : Int) + if (64 : Int) < (1 : Int) then (0 : Int) else n % (64 : Int)))) : Int)) (2000 : Int))))
                                                          (↑(Int.toNat (if (↑(Int.toNat (IntKind.wrap IntKind.i64 ((1 : Int) + if (64 : Int) < (1 : Int) then (0 : Int) else n % (64 : Int)))) : Int) < (1 : Int) then (0 : Int) else first % (↑(Int.toNat (IntKind.wrap IntKind.i64 ((1 : Int) + if (64 : Int) < (1 : Int) then (0 : Int) else n % (64 : Int)))) : Int))) : Int) (2000 : Int)))))
                                                  (↑(Int.toNat (if (↑(Int.toNat (IntKind.wrap IntKind.i64 ((1 : Int) + if (64 : Int) < (1 : Int) then (0 : Int) else n % (64 : Int)))) : Int) < (1 : Int) then (0 : Int) else first % (↑(Int.toNat (IntKind.wrap IntKind.i64 ((1 : Int) + if (64 : Int) < (1 : Int) then (0 : Int) else n % (64 : Int)))) : Int))) : Int) (1999 : Int))),
                                            AV.int IntKind.i64
                                              (AL.w
                                                (bar
                                                  (stA
                                                    (renB (out [(1 : Nat)] (List.length ([none] ++ [some (alB (fuW (Int.toNat (↑(Int.toNat (IntKind.wrap IntKind.i64 ((1 : Int) + if (64 : Int) < (1 : Int) then (0 : Int) else n % (64 : Int)))) : Int)) (2000 : Int)))])))
                                                      (alB
                                                        (bar (stA (alB (fuW (Int.toNat (↑(Int.toNat (IntKind.wrap IntKind.i64 ((1 : Int) + if (64 : Int) < (1 : Int) then (0 : Int) else n % (64 : Int)))) : Int)) (2000 : Int))))
                                                          (↑(Int.toNat (if (↑(Int.toNat (IntKind.wrap IntKind.i64 ((1 : Int) + if (64 : Int) < (1 : Int) then (0 : Int) else n % (64 : Int)))) : Int) < (1 : Int) then (0 : Int) else first % (↑(Int.toNat (IntKind.wrap IntKind.i64 ((1 : Int) + if (64 : Int) < (1 : Int) then (0 : Int) else n % (64 : Int)))) : Int))) : Int) (2000 : Int)))))
                                                  (↑(Int.toNat (if (↑(Int.toNat (IntKind.wrap IntKind.i64 ((1 : Int) + if (64 : Int) < (1 : Int) then (0 : Int) else n % (64 : Int)))) : Int) < (1 : Int) then (0 : Int) else first % (↑(Int.toNat (IntKind.wrap IntKind.i64 ((1 : Int) + if (64 : Int) < (1 : Int) then (0 : Int) else n % (64 : Int)))) : Int))) : Int) (1999 : Int))),
                                            AV.int IntKind.i64
                                              (AL.l
                                                (bar
                                                  (stA
                                                    (renB (out [(1 : Nat)] (List.length ([none] ++ [some (alB (fuW (Int.toNat (↑(Int.toNat (IntKind.wrap IntKind.i64 ((1 : Int) + if (64 : Int) < (1 : Int) then (0 : Int) else n % (64 : Int)))) : Int)) (2000 : Int)))])))
                                                      (alB
                                                        (bar (stA (alB (fuW (Int.toNat (↑(Int.toNat (IntKind.wrap IntKind.i64 ((1 : Int) + if (64 : Int) < (1 : Int) then (0 : Int) else n % (64 : Int)))) : Int)) (2000 : Int))))
                                                          (↑(Int.toNat (if (↑(Int.toNat (IntKind.wrap IntKind.i64 ((1 : Int) + if (64 : Int) < (1 : Int) then (0 : Int) else n % (64 : Int)))) : Int) < (1 : Int) then (0 : Int) else first % (↑(Int.toNat (IntKind.wrap IntKind.i64 ((1 : Int) + if (64 : Int) < (1 : Int) then (0 : Int) else n % (64 : Int)))) : Int))) : Int) (2000 : Int)))))
                                                  (↑(Int.toNat (if (↑(Int.toNat (IntKind.wrap IntKind.i64 ((1 : Int) + if (64 : Int) < (1 : Int) then (0 : Int) else n % (64 : Int)))) : Int) < (1 : Int) then (0 : Int) else first % (↑(Int.toNat (IntKind.wrap IntKind.i64 ((1 : Int) + if (64 : Int) < (1 : Int) then (0 : Int) else n % (64 : Int)))) : Int))) : Int) (1999 : Int))),
                                            AV.bool
                                              (AL.d
                                                (bar
                                                  (stA
                                                    (renB (out [(1 : Nat)] (List.length ([none] ++ [some (alB (fuW (Int.toNat (↑(Int.toNat (IntKind.wrap IntKind.i64 ((1 : Int) + if (64 : Int) < (1 : Int) then (0 : Int) else n % (64 : Int)))) : Int)) (2000 : Int)))])))
                                                      (alB
                                                        (bar (stA (alB (fuW (Int.toNat (↑(Int.toNat (IntKind.wrap IntKind.i64 ((1 : Int) + if (64 : Int) < (1 : Int) then (0 : Int) else n % (64 : Int)))) : Int)) (2000 : Int))))
                                                          (↑(Int.toNat (if (↑(Int.toNat (IntKind.wrap IntKind.i64 ((1 : Int) + if (64 : Int) < (1 : Int) then (0 : Int) else n % (64 : Int)))) : Int) < (1 : Int) then (0 : Int) else first % (↑(Int.toNat (IntKind.wrap IntKind.i64 ((1 : Int) + if (64 : Int) < (1 : Int) then (0 : Int) else n % (64 : Int)))) : Int))) : Int) (2000 : Int)))))
                                                  (↑(Int.toNat (if (↑(Int.toNat (IntKind.wrap IntKind.i64 ((1 : Int) + if (64 : Int) < (1 : Int) then (0 : Int) else n % (64 : Int)))) : Int) < (1 : Int) then (0 : Int) else first % (↑(Int.toNat (IntKind.wrap IntKind.i64 ((1 : Int) + if (64 : Int) < (1 : Int) then (0 : Int) else n % (64 : Int)))) : Int))) : Int) (1999 : Int)))])]))
                                (T.ret
                                  (AV.ff,
                                    [none,
                                      some
                                        (Blk.mk true
                                          [AV.int IntKind.i64
                                              (AL.n
                                                (bar
                                                  (stA
                                                    (renB (out [(1 : Nat)] (List.length ([none] ++ [some (alB (fuW (Int.toNat (↑(Int.toNat (IntKind.wrap IntKind.i64 ((1 : Int) + if (64 : Int) < (1 : Int) then (0 : Int) else n % (64 : Int)))) : Int)) (2000 : Int)))])))
                                                      (alB
                                                        (bar (stA (alB (fuW (Int.toNat (↑(Int.toNat (IntKind.wrap IntKind.i64 ((1 : Int) + if (64 : Int) < (1 : Int) then (0 : Int) else n % (64 : Int)))) : Int)) (2000 : Int))))
                                                          (↑(Int.toNat (if (↑(Int.toNat (IntKind.wrap IntKind.i64 ((1 : Int) + if (64 : Int) < (1 : Int) then (0 : Int) else n % (64 : Int)))) : Int) < (1 : Int) then (0 : Int) else first % (↑(Int.toNat (IntKind.wrap IntKind.i64 ((1 : Int) + if (64 : Int) < (1 : Int) then (0 : Int) else n % (64 : Int)))) : Int))) : Int) (2000 : Int)))))
                                                  (↑(Int.toNat (if (↑(Int.toNat (IntKind.wrap IntKind.i64 ((1 : Int) + if (64 : Int) < (1 : Int) then (0 : Int) else n % (64 : Int)))) : Int) < (1 : Int) then (0 : Int) else first % (↑(Int.toNat (IntKind.wrap IntKind.i64 ((1 : Int) + if (64 : Int) < (1 : Int) then (0 : Int) else n % (64 : Int)))) : Int))) : Int) (1999 : Int)))]
                                          (1 : Nat) (96 : Nat)
                                          (fun j =>
                                            [AV.bool
                                                (AL.B
                                                  (bar
                                                    (stA
                                                      (renB (out [(1 : Nat)] (List.length ([none] ++ [some (alB (fuW (Int.toNat (↑(Int.toNat (IntKind.wrap IntKind.i64 ((1 : Int) + if (64 : Int) < (1 : Int) then (0 : Int) else n % (64 : Int)))) : Int)) (2000 : Int)))])))
                                                        (alB
                                                          (bar (stA (alB (fuW (Int.toNat (↑(Int.toNat (IntKind.wrap IntKind.i64 ((1 : Int) + if (64 : Int) < (1 : Int) then (0 : Int) else n % (64 : Int)))) : Int)) (2000 : Int))))
                                                            (↑(Int.toNat (if (↑(Int.toNat (IntKind.wrap IntKind.i64 ((1 : Int) + if (64 : Int) < (1 : Int) then (0 : Int) else n % (64 : Int)))) : Int) < (1 : Int) then (0 : Int) else first % (↑(Int.toNat (IntKind.wrap IntKind.i64 ((1 : Int) + if (64 : Int) < (1 : Int) then (0 : Int) else n % (64 : Int)))) : Int))) : Int) (2000 : Int)))))
                                                    (↑(Int.toNat (if (↑(Int.toNat (IntKind.wrap IntKind.i64 ((1 : Int) + if (64 : Int) < (1 : Int) then (0 : Int) else n % (64 : Int)))) : Int) < (1 : Int) then (0 : Int) else first % (↑(Int.toNat (IntKind.wrap IntKind.i64 ((1 : Int) + if (64 : Int) < (1 : Int) then (0 : Int) else n % (64 : Int)))) : Int))) : Int) (1999 : Int))
                                                  j)])
                                          [AV.int IntKind.i64
                                              (AL.c
                                                (bar
                                                  (stA
                                                    (renB (out [(1 : Nat)] (List.length ([none] ++ [some (alB (fuW (Int.toNat (↑(Int.toNat (IntKind.wrap IntKind.i64 ((1 : Int) + if (64 : Int) < (1 : Int) then (0 : Int) else n % (64 : Int)))) : Int)) (2000 : Int)))])))
                                                      (alB
                                                        (bar (stA (alB (fuW (Int.toNat (↑(Int.toNat (IntKind.wrap IntKind.i64 ((1 : Int) + if (64 : Int) < (1 : Int) then (0 : Int) else n % (64 : Int)))) : Int)) (2000 : Int))))
                                                          (↑(Int.toNat (if (↑(Int.toNat (IntKind.wrap IntKind.i64 ((1 : Int) + if (64 : Int) < (1 : Int) then (0 : Int) else n % (64 : Int)))) : Int) < (1 : Int) then (0 : Int) else first % (↑(Int.toNat (IntKind.wrap IntKind.i64 ((1 : Int) + if (64 : Int) < (1 : Int) then (0 : Int) else n % (64 : Int)))) : Int))) : Int) (2000 : Int)))))
                                                  (↑(Int.toNat (if (↑(Int.toNat (IntKind.wrap IntKind.i64 ((1 : Int) + if (64 : Int) < (1 : Int) then (0 : Int) else n % (64 : Int)))) : Int) < (1 : Int) then (0 : Int) else first % (↑(Int.toNat (IntKind.wrap IntKind.i64 ((1 : Int) + if (64 : Int) < (1 : Int) then (0 : Int) else n % (64 : Int)))) : Int))) : Int) (1999 : Int))),
                                            AV.int IntKind.i64
                                              (AL.w
                                                (bar
                                                  (stA
                                                    (renB (out [(1 : Nat)] (List.length ([none] ++ [some (alB (fuW (Int.toNat (↑(Int.toNat (IntKind.wrap IntKind.i64 ((1 : Int) + if (64 : Int) < (1 : Int) then (0 : Int) else n % (64 : Int)))) : Int)) (2000 : Int)))])))
                                                      (alB
                                                        (bar (stA (alB (fuW (Int.toNat (↑(Int.toNat (IntKind.wrap IntKind.i64 ((1 : Int) + if (64 : Int) < (1 : Int) then (0 : Int) else n % (64 : Int)))) : Int)) (2000 : Int))))
                                                          (↑(Int.toNat (if (↑(Int.toNat (IntKind.wrap IntKind.i64 ((1 : Int) + if (64 : Int) < (1 : Int) then (0 : Int) else n % (64 : Int)))) : Int) < (1 : Int) then (0 : Int) else first % (↑(Int.toNat (IntKind.wrap IntKind.i64 ((1 : Int) + if (64 : Int) < (1 : Int) then (0 : Int) else n % (64 : Int)))) : Int))) : Int) (2000 : Int)))))
                                                  (↑(Int.toNat (if (↑(Int.toNat (IntKind.wrap IntKind.i64 ((1 : Int) + if (64 : Int) < (1 : Int) then (0 : Int) else n % (64 : Int)))) : Int) < (1 : Int) then (0 : Int) else first % (↑(Int.toNat (IntKind.wrap IntKind.i64 ((1 : Int) + if (64 : Int) < (1 : Int) then (0 : Int) else n % (64 : Int)))) : Int))) : Int) (1999 : Int))),
                                            AV.int IntKind.i64
                                              (AL.l
                                                (bar
                                                  (stA
                                                    (renB (out [(1 : Nat)] (List.length ([none] ++ [some (alB (fuW (Int.toNat (↑(Int.toNat (IntKind.wrap IntKind.i64 ((1 : Int) + if (64 : Int) < (1 : Int) then (0 : Int) else n % (64 : Int)))) : Int)) (2000 : Int)))])))
                                                      (alB
                                                        (bar (stA (alB (fuW (Int.toNat (↑(Int.toNat (IntKind.wrap IntKind.i64 ((1 : Int) + if (64 : Int) < (1 : Int) then (0 : Int) else n % (64 : Int)))) : Int)) (2000 : Int))))
                                                          (↑(Int.toNat (if (↑(Int.toNat (IntKind.wrap IntKind.i64 ((1 : Int) + if (64 : Int) < (1 : Int) then (0 : Int) else n % (64 : Int)))) : Int) < (1 : Int) then (0 : Int) else first % (↑(Int.toNat (IntKind.wrap IntKind.i64 ((1 : Int) + if (64 : Int) < (1 : Int) then (0 : Int) else n % (64 : Int)))) : Int))) : Int) (2000 : Int)))))
                                                  (↑(Int.toNat (if (↑(Int.toNat (IntKind.wrap IntKind.i64 ((1 : Int) + if (64 : Int) < (1 : Int) then (0 : Int) else n % (64 : Int)))) : Int) < (1 : Int) then (0 : Int) else first % (↑(Int.toNat (IntKind.wrap IntKind.i64 ((1 : Int) + if (64 : Int) < (1 : Int) then (0 : Int) else n % (64 : Int)))) : Int))) : Int) (1999 : Int))),
                                            AV.bool
                                              (AL.d
                                                (bar
                                                  (stA
                                                    (renB (out [(1 : Nat)] (List.length ([none] ++ [some (alB (fuW (Int.toNat (↑(Int.toNat (IntKind.wrap IntKind.i64 ((1 : Int) + if (64 : Int) < (1 : Int) then (0 : Int) else n % (64 : Int)))) : Int)) (2000 : Int)))])))
                                                      (alB
                                                        (bar (stA (alB (fuW (Int.toNat (↑(Int.toNat (IntKind.wrap IntKind.i64 ((1 : Int) + if (64 : Int) < (1 : Int) then (0 : Int) else n % (64 : Int)))) : Int)) (2000 : Int))))
                                                          (↑(Int.toNat (if (↑(Int.toNat (IntKind.wrap IntKind.i64 ((1 : Int) + if (64 : Int) < (1 : Int) then (0 : Int) else n % (64 : Int)))) : Int) < (1 : Int) then (0 : Int) else first % (↑(Int.toNat (IntKind.wrap IntKind.i64 ((1 : Int) + if (64 : Int) < (1 : Int) then (0 : Int) else n % (64 : Int)))) : Int))) : Int) (2000 : Int)))))
                                                  (↑(Int.toNat (if (↑(Int.toNat (IntKind.wrap IntKind.i64 ((1 : Int) + if (64 : Int) < (1 : Int) then (0 : Int) else n % (64 : Int)))) : Int) < (1 : Int) then (0 : Int) else first % (↑(Int.toNat (IntKind.wrap IntKind.i64 ((1 : Int) + if (64 : Int) < (1 : Int) then (0 : Int) else n % (64 : Int)))) : Int))) : Int) (1999 : Int)))])])))))
                          (T.ret
                            (AV.ff,
                              [none,
                                some
                                  (Blk.mk true
                                    [AV.int IntKind.i64
                                        (AL.n
                                          (bar
                                            (stA
                                              (renB (out [(1 : Nat)] (List.length ([none] ++ [some (alB (fuW (Int.toNat (↑(Int.toNat (IntKind.wrap IntKind.i64 ((1 : Int) + if (64 : Int) < (1 : Int) then (0 : Int) else n % (64 : Int)))) : Int)) (2000 : Int)))])))
                                                (alB
                                                  (bar (stA (alB (fuW (Int.toNat (↑(Int.toNat (IntKind.wrap IntKind.i64 ((1 : Int) + if (64 : Int) < (1 : Int) then (0 : Int) else n % (64 : Int)))) : Int)) (2000 : Int))))
                                                    (↑(Int.toNat (if (↑(Int.toNat (IntKind.wrap IntKind.i64 ((1 : Int) + if (64 : Int) < (1 : Int) then (0 : Int) else n % (64 : Int)))) : Int) < (1 : Int) then (0 : Int) else first % (↑(Int.toNat (IntKind.wrap IntKind.i64 ((1 : Int) + if (64 : Int) < (1 : Int) then (0 : Int) else n % (64 : Int)))) : Int))) : Int) (2000 : Int)))))
                                            (↑(Int.toNat (if (↑(Int.toNat (IntKind.wrap IntKind.i64 ((1 : Int) + if (64 : Int) < (1 : Int) then (0 : Int) else n % (64 : Int)))) : Int) < (1 : Int) then (0 : Int) else first % (↑(Int.toNat (IntKind.wrap IntKind.i64 ((1 : Int) + if (64 : Int) < (1 : Int) then (0 : Int) else n % (64 : Int)))) : Int))) : Int) (1999 : Int)))]
                                    (1 : Nat) (96 : Nat)
                                    (fun j =>
                                      [AV.bool
                                          (AL.B
                                            (bar
                                              (stA
                                                (renB (out [(1 : Nat)] (List.length ([none] ++ [some (alB (fuW (Int.toNat (↑(Int.toNat (IntKind.wrap IntKind.i64 ((1 : Int) + if (64 : Int) < (1 : Int) then (0 : Int) else n % (64 : Int)))) : Int)) (2000 : Int)))])))
                                                  (alB
                                                    (bar (stA (alB (fuW (Int.toNat (↑(Int.toNat (IntKind.wrap IntKind.i64 ((1 : Int) + if (64 : Int) < (1 : Int) then (0 : Int) else n % (64 : Int)))) : Int)) (2000 : Int))))
                                                      (↑(Int.toNat (if (↑(Int.toNat (IntKind.wrap IntKind.i64 ((1 : Int) + if (64 : Int) < (1 : Int) then (0 : Int) else n % (64 : Int)))) : Int) < (1 : Int) then (0 : Int) else first % (↑(Int.toNat (IntKind.wrap IntKind.i64 ((1 : Int) + if (64 : Int) < (1 : Int) then (0 : Int) else n % (64 : Int)))) : Int))) : Int) (2000 : Int)))))
                                              (↑(Int.toNat (if (↑(Int.toNat (IntKind.wrap IntKind.i64 ((1 : Int) + if (64 : Int) < (1 : Int) then (0 : Int) else n % (64 : Int)))) : Int) < (1 : Int) then (0 : Int) else first % (↑(Int.toNat (IntKind.wrap IntKind.i64 ((1 : Int) + if (64 : Int) < (1 : Int) then (0 : Int) else n % (64 : Int)))) : Int))) : Int) (1999 : Int))
                                            j)])
                                    [AV.int IntKind.i64
                                        (AL.c
                                          (bar
                                            (stA
                                              (renB (out [(1 : Nat)] (List.length ([none] ++ [some (alB (fuW (Int.toNat (↑(Int.toNat (IntKind.wrap IntKind.i64 ((1 : Int) + if (64 : Int) < (1 : Int) then (0 : Int) else n % (64 : Int)))) : Int)) (2000 : Int)))])))
                                                (alB
                                                  (bar (stA (alB (fuW (Int.toNat (↑(Int.toNat (IntKind.wrap IntKind.i64 ((1 : Int) + if (64 : Int) < (1 : Int) then (0 : Int) else n % (64 : Int)))) : Int)) (2000 : Int))))
                                                    (↑(Int.toNat (if (↑(Int.toNat (IntKind.wrap IntKind.i64 ((1 : Int) + if (64 : Int) < (1 : Int) then (0 : Int) else n % (64 : Int)))) : Int) < (1 : Int) then (0 : Int) else first % (↑(Int.toNat (IntKind.wrap IntKind.i64 ((1 : Int) + if (64 : Int) < (1 : Int) then (0 : Int) else n % (64 : Int)))) : Int))) : Int) (2000 : Int)))))
                                            (↑(Int.toNat (if (↑(Int.toNat (IntKind.wrap IntKind.i64 ((1 : Int) + if (64 : Int) < (1 : Int) then (0 : Int) else n % (64 : Int)))) : Int) < (1 : Int) then (0 : Int) else first % (↑(Int.toNat (IntKind.wrap IntKind.i64 ((1 : Int) + if (64 : Int) < (1 : Int) then (0 : Int) else n % (64 : Int)))) : Int))) : Int) (1999 : Int))),
                                      AV.int IntKind.i64
                                        (AL.w
                                          (bar
                                            (stA
                                              (renB (out [(1 : Nat)] (List.length ([none] ++ [some (alB (fuW (Int.toNat (↑(Int.toNat (IntKind.wrap IntKind.i64 ((1 : Int) + if (64 : Int) < (1 : Int) then (0 : Int) else n % (64 : Int)))) : Int)) (2000 : Int)))])))
                                                (alB
                                                  (bar (stA (alB (fuW (Int.toNat (↑(Int.toNat (IntKind.wrap IntKind.i64 ((1 : Int) + if (64 : Int) < (1 : Int) then (0 : Int) else n % (64 : Int)))) : Int)) (2000 : Int))))
                                                    (↑(Int.toNat (if (↑(Int.toNat (IntKind.wrap IntKind.i64 ((1 : Int) + if (64 : Int) < (1 : Int) then (0 : Int) else n % (64 : Int)))) : Int) < (1 : Int) then (0 : Int) else first % (↑(Int.toNat (IntKind.wrap IntKind.i64 ((1 : Int) + if (64 : Int) < (1 : Int) then (0 : Int) else n % (64 : Int)))) : Int))) : Int) (2000 : Int)))))
                                            (↑(Int.toNat (if (↑(Int.toNat (IntKind.wrap IntKind.i64 ((1 : Int) + if (64 : Int) < (1 : Int) then (0 : Int) else n % (64 : Int)))) : Int) < (1 : Int) then (0 : Int) else first % (↑(Int.toNat (IntKind.wrap IntKind.i64 ((1 : Int) + if (64 : Int) < (1 : Int) then (0 : Int) else n % (64 : Int)))) : Int))) : Int) (1999 : Int))),
                                      AV.int IntKind.i64
                                        (AL.l
                                          (bar
                                            (stA
                                              (renB (out [(1 : Nat)] (List.length ([none] ++ [some (alB (fuW (Int.toNat (↑(Int.toNat (IntKind.wrap IntKind.i64 ((1 : Int) + if (64 : Int) < (1 : Int) then (0 : Int) else n % (64 : Int)))) : Int)) (2000 : Int)))])))
                                                (alB
                                                  (bar (stA (alB (fuW (Int.toNat (↑(Int.toNat (IntKind.wrap IntKind.i64 ((1 : Int) + if (64 : Int) < (1 : Int) then (0 : Int) else n % (64 : Int)))) : Int)) (2000 : Int))))
                                                    (↑(Int.toNat (if (↑(Int.toNat (IntKind.wrap IntKind.i64 ((1 : Int) + if (64 : Int) < (1 : Int) then (0 : Int) else n % (64 : Int)))) : Int) < (1 : Int) then (0 : Int) else first % (↑(Int.toNat (IntKind.wrap IntKind.i64 ((1 : Int) + if (64 : Int) < (1 : Int) then (0 : Int) else n % (64 : Int)))) : Int))) : Int) (2000 : Int)))))
                                            (↑(Int.toNat (if (↑(Int.toNat (IntKind.wrap IntKind.i64 ((1 : Int) + if (64 : Int) < (1 : Int) then (0 : Int) else n % (64 : Int)))) : Int) < (1 : Int) then (0 : Int) else first % (↑(Int.toNat (IntKind.wrap IntKind.i64 ((1 : Int) + if (64 : Int) < (1 : Int) then (0 : Int) else n % (64 : Int)))) : Int))) : Int) (1999 : Int))),
                                      AV.bool
                                        (AL.d
                                          (bar
                                            (stA
                                              (renB (out [(1 : Nat)] (List.length ([none] ++ [some (alB (fuW (Int.toNat (↑(Int.toNat (IntKind.wrap IntKind.i64 ((1 : Int) + if (64 : Int) < (1 : Int) then (0 : Int) else n % (64 : Int)))) : Int)) (2000 : Int)))])))
                                                (alB
                                                  (bar (stA (alB (fuW (Int.toNat (↑(Int.toNat (IntKind.wrap IntKind.i64 ((1 : Int) + if (64 : Int) < (1 : Int) then (0 : Int) else n % (64 : Int)))) : Int)) (2000 : Int))))
                                                    (↑(Int.toNat (if (↑(Int.toNat (IntKind.wrap IntKind.i64 ((1 : Int) + if (64 : Int) < (1 : Int) then (0 : Int) else n % (64 : Int)))) : Int) < (1 : Int) then (0 : Int) else first % (↑(Int.toNat (IntKind.wrap IntKind.i64 ((1 : Int) + if (64 : Int) < (1 : Int) then (0 : Int) else n % (64 : Int)))) : Int))) : Int) (2000 : Int)))))
                                            (↑(Int.toNat (if (↑(Int.toNat (IntKind.wrap IntKind.i64 ((1 : Int) + if (64 : Int) < (1 : Int) then (0 : Int) else n % (64 : Int)))) : Int) < (1 : Int) then (0 : Int) else first % (↑(Int.toNat (IntKind.wrap IntKind.i64 ((1 : Int) + if (64 : Int) < (1 : Int) then (0 : Int) else n % (64 : Int)))) : Int))) : Int) (1999 : Int)))])])))))
                    (T.ret
                      (AV.ff,
                        [none,
                          some
                            (Blk.mk true
                              [AV.int IntKind.i64
                                  (AL.n
                                    (bar (stA (alB (fuW (Int.toNat (↑(Int.toNat (IntKind.wrap IntKind.i64 ((1 : Int) + if (64 : Int) < (1 : Int) then (0 : Int) else n % (64 : Int)))) : Int)) (2000 : Int))))
                                      (↑(Int.toNat (if (↑(Int.toNat (IntKind.wrap IntKind.i64 ((1 : Int) + if (64 : Int) < (1 : Int) then (0 : Int) else n % (64 : Int)))) : Int) < (1 : Int) then (0 : Int) else first % (↑(Int.toNat (IntKind.wrap IntKind.i64 ((1 : Int) + if (64 : Int) < (1 : Int) then (0 : Int) else n % (64 : Int)))) : Int))) : Int) (2000 : Int)))]
                              (1 : Nat) (96 : Nat)
                              (fun j =>
                                [AV.bool
                                    (AL.B
                                      (bar (stA (alB (fuW (Int.toNat (↑(Int.toNat (IntKind.wrap IntKind.i64 ((1 : Int) + if (64 : Int) < (1 : Int) then (0 : Int) else n % (64 : Int)))) : Int)) (2000 : Int))))
                                        (↑(Int.toNat (if (↑(Int.toNat (IntKind.wrap IntKind.i64 ((1 : Int) + if (64 : Int) < (1 : Int) then (0 : Int) else n % (64 : Int)))) : Int) < (1 : Int) then (0 : Int) else first % (↑(Int.toNat (IntKind.wrap IntKind.i64 ((1 : Int) + if (64 : Int) < (1 : Int) then (0 : Int) else n % (64 : Int)))) : Int))) : Int) (2000 : Int))
                                      j)])
                              [AV.int IntKind.i64
                                  (AL.c
                                    (bar (stA (alB (fuW (Int.toNat (↑(Int.toNat (IntKind.wrap IntKind.i64 ((1 : Int) + if (64 : Int) < (1 : Int) then (0 : Int) else n % (64 : Int)))) : Int)) (2000 : Int))))
                                      (↑(Int.toNat (if (↑(Int.toNat (IntKind.wrap IntKind.i64 ((1 : Int) + if (64 : Int) < (1 : Int) then (0 : Int) else n % (64 : Int)))) : Int) < (1 : Int) then (0 : Int) else first % (↑(Int.toNat (IntKind.wrap IntKind.i64 ((1 : Int) + if (64 : Int) < (1 : Int) then (0 : Int) else n % (64 : Int)))) : Int))) : Int) (2000 : Int))),
                                AV.int IntKind.i64
                                  (AL.w
                                    (bar (stA (alB (fuW (Int.toNat (↑(Int.toNat (IntKind.wrap IntKind.i64 ((1 : Int) + if (64 : Int) < (1 : Int) then (0 : Int) else n % (64 : Int)))) : Int)) (2000 : Int))))
                                      (↑(Int.toNat (if (↑(Int.toNat (IntKind.wrap IntKind.i64 ((1 : Int) + if (64 : Int) < (1 : Int) then (0 : Int) else n % (64 : Int)))) : Int) < (1 : Int) then (0 : Int) else first % (↑(Int.toNat (IntKind.wrap IntKind.i64 ((1 : Int) + if (64 : Int) < (1 : Int) then (0 : Int) else n % (64 : Int)))) : Int))) : Int) (2000 : Int))),
                                AV.int IntKind.i64
                                  (AL.l
                                    (bar (stA (alB (fuW (Int.toNat (↑(Int.toNat (IntKind.wrap IntKind.i64 ((1 : Int) + if (64 : Int) < (1 : Int) then (0 : Int) else n % (64 : Int)))) : Int)) (2000 : Int))))
                                      (↑(Int.toNat (if (↑(Int.toNat (IntKind.wrap IntKind.i64 ((1 : Int) + if (64 : Int) < (1 : Int) then (0 : Int) else n % (64 : Int)))) : Int) < (1 : Int) then (0 : Int) else first % (↑(Int.toNat (IntKind.wrap IntKind.i64 ((1 : Int) + if (64 : Int) < (1 : Int) then (0 : Int) else n % (64 : Int)))) : Int))) : Int) (2000 : Int))),
                                AV.bool
                                  (AL.d
                                    (bar (stA (alB (fuW (Int.toNat (↑(Int.toNat (IntKind.wrap IntKind.i64 ((1 : Int) + if (64 : Int) < (1 : Int) then (0 : Int) else n % (64 : Int)))) : Int)) (2000 : Int))))
                                      (↑(Int.toNat (if (↑(Int.toNat (IntKind.wrap IntKind.i64 ((1 : Int) + if (64 : Int) < (1 : Int) then (0 : Int) else n % (64 : Int)))) : Int) < (1 : Int) then (0 : Int) else first % (↑(Int.toNat (IntKind.wrap IntKind.i64 ((1 : Int) + if (64 : Int) < (1 : Int) then (0 : Int) else n % (64 : Int)))) : Int))) : Int) (2000 : Int)))])])))))))))) := by
  kernel_rfl

theorem fa_fnN (n first : Int) : afn Try.prog faN Try.f5 (codeOf Try.f5) [.int .i64 n, .nils, .int .i64 first] [] = 
  T.chk true
    (T.ite false
      (T.ite true T.fail
        (T.chk (decide (IntKind.wrap IntKind.i64 ((1 : Int) + if (64 : Int) < (1 : Int) then (0 : Int) else n % (64 : Int)) ≤ (9223372036854775807 : Int)))
          (T.need
            (∃ ρ,
              SubSt (0 : Nat) ρ
                (St.mk
                  [((0 : Nat), AV.int IntKind.i64 (IntKind.wrap IntKind.i64 ((1 : Int) + if (64 : Int) < (1 : Int) then (0 : Int) else n % (64 : Int)))),
                    ((2 : Nat), AV.int IntKind.i64 (if IntKind.wrap IntKind.i64 ((1 : Int) + if (64 : Int) < (1 : Int) then (0 : Int) else n % (64 : Int)) < (1 : Int) then (0 : Int) else first % IntKind.wrap IntKind.i64 ((1 : Int) + if (64 : Int) < (1 : Int) then (0 : Int) else n % (64 : Int)))), ((7 : Nat), AV.ptr (0 : Nat) (0 : Nat) (0 : Nat) (0 : Nat)), ((9 : Nat), AV.int IntKind.i64 (0 : Int))]
                  [some (Blk.mk true [AV.int IntKind.i64 (clampA (IntKind.wrap IntKind.i64 ((1 : Int) + if (64 : Int) < (1 : Int) then (0 : Int) else n % (64 : Int))))] (1 : Nat) (96 : Nat) (fun j => [AV.bool false]) [AV.int IntKind.i64 (0 : Int), AV.int IntKind.i64 (0 : Int), AV.int IntKind.i64 (0 : Int), AV.bool false])])
                (f2St []
                  (F2.mk (0 : Nat) (Int.toNat (IntKind.wrap IntKind.i64 ((1 : Int) + if (64 : Int) < (1 : Int) then (0 : Int) else n % (64 : Int))))
                    (Int.toNat (if IntKind.wrap IntKind.i64 ((1 : Int) + if (64 : Int) < (1 : Int) then (0 : Int) else n % (64 : Int)) < (1 : Int) then (0 : Int) else first % IntKind.wrap IntKind.i64 ((1 : Int) + if (64 : Int) < (1 : Int) then (0 : Int) else n % (64 : Int))))
                    (stA (renB (out [] (0 : Nat)) (alB (newA (IntKind.wrap IntKind.i64 ((1 : Int) + if (64 : Int) < (1 : Int) then (0 : Int) else n % (64 : Int))))))) (0 : Nat))))
            (T.need
              (f2Inv
                (F2.mk (0 : Nat) (Int.toNat (IntKind.wrap IntKind.i64 ((1 : Int) + if (64 : Int) < (1 : Int) then (0 : Int) else n % (64 : Int))))
                  (Int.toNat (if IntKind.wrap IntKind.i64 ((1 : Int) + if (64 : Int) < (1 : Int) then (0 : Int) else n % (64 : Int)) < (1 : Int) then (0 : Int) else first % IntKind.wrap IntKind.i64 ((1 : Int) + if (64 : Int) < (1 : Int) then (0 : Int) else n % (64 : Int))))
                  (stA (renB (out [] (0 : Nat)) (alB (newA (IntKind.wrap IntKind.i64 ((1 : Int) + if (64 : Int) < (1 : Int) then (0 : Int) else n % (64 : Int))))))) (0 : Nat)))
              (T.need (IsAl (Blk.mk true [AV.int IntKind.i64 (↑(Int.toNat (IntKind.wrap IntKind.i64 ((1 : Int) + if (64 : Int) < (1 : Int) then (0 : Int) else n % (64 : Int)))) : Int)] (1 : Nat) (96 : Nat) (fun j => [AV.bool false]) [AV.int IntKind.i64 (0 : Int), AV.int IntKind.i64 (2000 : Int), AV.int IntKind.i64 (2000 : Int), AV.bool true]))
                (T.chk (decide (intA (List.getD [AV.int IntKind.i64 (↑(Int.toNat (IntKind.wrap IntKind.i64 ((1 : Int) + if (64 : Int) < (1 : Int) then (0 : Int) else n % (64 : Int)))) : Int)] (0 : Nat) AV.ff) ≤ (96 : Int)))
                  (T.ite
                    (!barR (stA (alB (fuW (Int.toNat (IntKind.wrap IntKind.i64 ((1 : Int) + if (64 : Int) < (1 : Int) then (0 : Int) else n % (64 : Int)))) (2000 : Int))))
                        (↑(Int.toNat (if IntKind.wrap IntKind.i64 ((1 : Int) + if (64 : Int) < (1 : Int) then (0 : Int) else n % (64 : Int)) < (1 : Int) then (0 : Int) else first % IntKind.wrap IntKind.i64 ((1 : Int) + if (64 : Int) < (1 : Int) then (0 : Int) else n % (64 : Int)))) : Int) (2000 : Int))
                    (T.need
                      (IsAl
                        (Blk.mk true
                          [AV.int IntKind.i64
                              (AL.n
                                (bar (stA (alB (fuW (Int.toNat (IntKind.wrap IntKind.i64 ((1 : Int) + if (64 : Int) < (1 : Int) then (0 : Int) else n % (64 : Int)))) (2000 : Int))))
                                  (↑(Int.toNat (if IntKind.wrap IntKind.i64 ((1 : Int) + if (64 : Int) < (1 : Int) then (0 : Int) else n % (64 : Int)) < (1 : Int) then (0 : Int) else first % IntKind.wrap IntKind.i64 ((1 : Int) + if (64 : Int) < (1 : Int) then (0 : Int) else n % (64 : Int)))) : Int) (2000 : Int)))]
                          (1 : Nat) (96 : Nat)
                          (fun j =>
                            [AV.bool
                                (AL.B
                                  (bar (stA (alB (fuW (Int.toNat (IntKind.wrap IntKind.i64 ((1 : Int) + if (64 : Int) < (1 : Int) then (0 : Int) else n % (64 : Int)))) (2000 : Int))))
                                    (↑(Int.toNat (if IntKind.wrap IntKind.i64 ((1 : Int) + if (64 : Int) < (1 : Int) then (0 : Int) else n % (64 : Int)) < (1 : Int) then (0 : Int) else first % IntKind.wrap IntKind.i64 ((1 : Int) + if (64 : Int) < (1 : Int) then (0 : Int) else n % (64 : Int)))) : Int) (2000 : Int))
                                  j)])
                          [AV.int IntKind.i64
                              (AL.c
                                (bar (stA (alB (fuW (Int.toNat (IntKind.wrap IntKind.i64 ((1 : Int) + if (64 : Int) < (1 : Int) then (0 : Int) else n % (64 : Int)))) (2000 : Int))))
                                  (↑(Int.toNat (if IntKind.wrap IntKind.i64 ((1 : Int) + if (64 : Int) < (1 : Int) then (0 : Int) else n % (64 : Int)) < (1 : Int) then (0 : Int) else first % IntKind.wrap IntKind.i64 ((1 : Int) + if (64 : Int) < (1 : Int) then (0 : Int) else n % (64 : Int)))) : Int) (2000 : Int))),
                            AV.int IntKind.i64
                              (AL.w
                                (bar (stA (alB (fuW (Int.toNat (IntKind.wrap IntKind.i64 ((1 : Int) + if (64 : Int) < (1 : Int) then (0 : Int) else n % (64 : Int)))) (2000 : Int))))
                                  (↑(Int.toNat (if IntKind.wrap IntKind.i64 ((1 : Int) + if (64 : Int) < (1 : Int) then (0 : Int) else n % (64 : Int)) < (1 : Int) then (0 : Int) else first % IntKind.wrap IntKind.i64 ((1 : Int) + if (64 : Int) < (1 : Int) then (0 : Int) else n % (64 : Int)))) : Int) (2000 : Int))),
                            AV.int IntKind.i64
                              (AL.l
                                (bar (stA (alB (fuW (Int.toNat (IntKind.wrap IntKind.i64 ((1 : Int) + if (64 : Int) < (1 : Int) then (0 : Int) else n % (64 : Int)))) (2000 : Int))))
                                  (↑(Int.toNat (if IntKind.wrap IntKind.i64 ((1 : Int) + if (64 : Int) < (1 : Int) then (0 : Int) else n % (64 : Int)) < (1 : Int) then (0 : Int) else first % IntKind.wrap IntKind.i64 ((1 : Int) + if (64 : Int) < (1 : Int) then (0 : Int) else n % (64 : Int)))) : Int) (2000 : Int))),
                            AV.bool
                              (AL.d
                                (bar (stA (alB (fuW (Int.toNat (IntKind.wrap IntKind.i64 ((1 : Int) + if (64 : Int) < (1 : Int) then (0 : Int) else n % (64 : Int)))) (2000 : Int))))
                                  (↑(Int.toNat (if IntKind.wrap IntKind.i64 ((1 : Int) + if (64 : Int) < (1 : Int) then (0 : Int) else n % (64 : Int)) < (1 : Int) then (0 : Int) else first % IntKind.wrap IntKind.i64 ((1 : Int) + if (64 : Int) < (1 : Int) then (0 : Int) else n % (64 : Int)))) : Int) (2000 : Int)))]))
                      (T.chk
                        (decide
                          (intA
                              (List.getD
                                (renL (out [(0 : Nat)] (List.length ([] ++ [some (alB (fuW (Int.toNat (IntKind.wrap IntKind.i64 ((1 : Int) + if (64 : Int) < (1 : Int) then (0 : Int) else n % (64 : Int)))) (2000 : Int)))])))
                                  [AV.int IntKind.i64
                                      (AL.n
                                        (bar (stA (alB (fuW (Int.toNat (IntKind.wrap IntKind.i64 ((1 : Int) + if (64 : Int) < (1 : Int) then (0 : Int) else n % (64 : Int)))) (2000 : Int))))
                                          (↑(Int.toNat (if IntKind.wrap IntKind.i64 ((1 : Int) + if (64 : Int) < (1 : Int) then (0 : Int) else n % (64 : Int)) < (1 : Int) then (0 : Int) else first % IntKind.wrap IntKind.i64 ((1 : Int) + if (64 : Int) < (1 : Int) then (0 : Int) else n % (64 : Int)))) : Int) (2000 : Int)))])
                                (0 : Nat) AV.ff) ≤
                            (96 : Int)))
                        (T.ite
                          (!barR
                              (stA
                                (renB (out [(0 : Nat)] (List.length ([] ++ [some (alB (fuW (Int.toNat (IntKind.wrap IntKind.i64 ((1 : Int) + if (64 : Int) < (1 : Int) then (0 : Int) else n % (64 : Int)))) (2000 : Int)))])))
                                  (alB
                                    (bar (stA (alB (fuW (Int.toNat (IntKind.wrap IntKind.i64 ((1 : Int) + if (64 : Int) < (1 : Int) then (0 : Int) else n % (64 : Int)))) (2000 : Int))))
                                      (↑(Int.toNat (if IntKind.wrap IntKind.i64 ((1 : Int) + if (64 : Int) < (1 : Int) then (0 : Int) else n % (64 : Int)) < (1 : Int) then (0 : Int) else first % IntKind.wrap IntKind.i64 ((1 : Int) + if (64 : Int) < (1 : Int) then (0 : Int) else n % (64 : Int)))) : Int) (2000 : Int)))))
                              (↑(Int.toNat (if IntKind.wrap IntKind.i64 ((1 : Int) + if (64 : Int) < (1 : Int) then (0 : Int) else n % (64 : Int)) < (1 : Int) then (0 : Int) else first % IntKind.wrap IntKind.i64 ((1 : Int) + if (64 : Int) < (1 : Int) then (0 : Int) else n % (64 : Int)))) : Int) (1999 : Int))
                          (T.need
                            (IsAl
                              (Blk.mk true
                                [AV.int IntKind.i64
                                    (AL.n
                                      (bar
                                        (stA
                                          (renB (out [(0 : Nat)] (List.length ([] ++ [some (alB (fuW (Int.toNat (IntKind.wrap IntKind.i64 ((1 : Int) + if (64 : Int) < (1 : Int) then (0 : Int) else n % (64 : Int)))) (2000 : Int)))])))
                                            (alB
                                              (bar (stA (alB (fuW (Int.toNat (IntKind.wrap IntKind.i64 ((1 : Int) + if (64 : Int) < (1 : Int) then (0 : Int) else n % (64 : Int)))) (2000 : Int))))
                                                (↑(Int.toNat (if IntKind.wrap IntKind.i64 ((1 : Int) + if (64 : Int) < (1 : Int) then (0 : Int) else n % (64 : Int)) < (1 : Int) then (0 : Int) else first % IntKind.wrap IntKind.i64 ((1 : Int) + if (64 : Int) < (1 : Int) then (0 : Int) else n % (64 : Int)))) : Int) (2000 : Int)))))
                                        (↑(Int.toNat (if IntKind.wrap IntKind.i64 ((1 : Int) + if (64 : Int) < (1 : Int) then (0 : Int) else n % (64 : Int)) < (1 : Int) then (0 : Int) else first % IntKind.wrap IntKind.i64 ((1 : Int) + if (64 : Int) < (1 : Int) then (0 : Int) else n % (64 : Int)))) : Int) (1999 : Int)))]
                                (1 : Nat) (96 : Nat)
                                (fun j =>
                                  [AV.bool
                                      (AL.B
                                        (bar
                                          (stA
                                            (renB (out [(0 : Nat)] (List.length ([] ++ [some (alB (fuW (Int.toNat (IntKind.wrap IntKind.i64 ((1 : Int) + if (64 : Int) < (1 : Int) then (0 : Int) else n % (64 : Int)))) (2000 : Int)))])))
                                              (alB
                                                (bar (stA (alB (fuW (Int.toNat (IntKind.wrap IntKind.i64 ((1 : Int) + if (64 : Int) < (1 : Int) then (0 : Int) else n % (64 : Int)))) (2000 : Int))))
                                                  (↑(Int.toNat (if IntKind.wrap IntKind.i64 ((1 : Int) + if (64 : Int) < (1 : Int) then (0 : Int) else n % (64 : Int)) < (1 : Int) then (0 : Int) else first % IntKind.wrap IntKind.i64 ((1 : Int) + if (64 : Int) < (1 : Int) then (0 : Int) else n % (64 : Int)))) : Int) (2000 : Int)))))
                                          (↑(Int.toNat (if IntKind.wrap IntKind.i64 ((1 : Int) + if (64 : Int) < (1 : Int) then (0 : Int) else n % (64 : Int)) < (1 : Int) then (0 : Int) else first % IntKind.wrap IntKind.i64 ((1 : Int) + if (64 : Int) < (1 : Int) then (0 : Int) else n % (64 : Int)))) : Int) (1999 : Int))
                                        j)])
                                [AV.int IntKind.i64
                                    (AL.c
                                      (bar
                                        (stA
                                          (renB (out [(0 : Nat)] (List.length ([] ++ [some (alB (fuW (Int.toNat (IntKind.wrap IntKind.i64 ((1 : Int) + if (64 : Int) < (1 : Int) then (0 : Int) else n % (64 : Int)))) (2000 : Int)))])))
                                            (alB
                                              (bar (stA (alB (fuW (Int.toNat (IntKind.wrap IntKind.i64 ((1 : Int) + if (64 : Int) < (1 : Int) then (0 : Int) else n % (64 : Int)))) (2000 : Int))))
                                                (↑(Int.toNat (if IntKind.wrap IntKind.i64 ((1 : Int) + if (64 : Int) < (1 : Int) then (0 : Int) else n % (64 : Int)) < (1 : Int) then (0 : Int) else first % IntKind.wrap IntKind.i64 ((1 : Int) + if (64 : Int) < (1 : Int) then (0 : Int) else n % (64 : Int)))) : Int) (2000 : Int)))))
                                        (↑(Int.toNat (if IntKind.wrap IntKind.i64 ((1 : Int) + if (64 : Int) < (1 : Int) then (0 : Int) else n % (64 : Int)) < (1 : Int) then (0 : Int) else first % IntKind.wrap IntKind.i64 ((1 : Int) + if (64 : Int) < (1 : Int) then (0 : Int) else n % (64 : Int)))) : Int) (1999 : Int))),
                                  AV.int IntKind.i64
                                    (AL.w
                                      (bar
                                        (stA
                                          (renB (out [(0 : Nat)] (List.length ([] ++ [some (alB (fuW (Int.toNat (IntKind.wrap IntKind.i64 ((1 : Int) + if (64 : Int) < (1 : Int) then (0 : Int) else n % (64 : Int)))) (2000 : Int)))])))
                                            (alB
                                              (bar (stA (alB (fuW (Int.toNat (IntKind.wrap IntKind.i64 ((1 : Int) + if (64 : Int) < (1 : Int) then (0 : Int) else n % (64 : Int)))) (2000 : Int))))
                                                (↑(Int.toNat (if IntKind.wrap IntKind.i64 ((1 : Int) + if (64 : Int) < (1 : Int) then (0 : Int) else n % (64 : Int)) < (1 : Int) then (0 : Int) else first % IntKind.wrap IntKind.i64 ((1 : Int) + if (64 : Int) < (1 : Int) then (0 : Int) else n % (64 : Int)))) : Int) (2000 : Int)))))
                                        (↑(Int.toNat (if IntKind.wrap IntKind.i64 ((1 : Int) + if (64 : Int) < (1 : Int) then (0 : Int) else n % (64 : Int)) < (1 : Int) then (0 : Int) else first % IntKind.wrap IntKind.i64 ((1 : Int) + if (64 : Int) < (1 : Int) then (0 : Int) else n % (64 : Int)))) : Int) (1999 : Int))),
                                  AV.int IntKind.i64
                                    (AL.l
                                      (bar
                                        (stA
                                          (renB (out [(0 : Nat)] (List.length ([] ++ [some (alB (fuW (Int.toNat (IntKind.wrap IntKind.i64 ((1 : Int) + if (64 : Int) < (1 : Int) then (0 : Int) else n % (64 : Int)))) (2000 : Int)))])))
                                            (alB
                                              (bar (stA (alB (fuW (Int.toNat (IntKind.wrap IntKind.i64 ((1 : Int) + if (64 : Int) < (1 : Int) then (0 : Int) else n % (64 : Int)))) (2000 : Int))))
                                                (↑(Int.toNat (if IntKind.wrap IntKind.i64 ((1 : Int) + if (64 : Int) < (1 : Int) then (0 : Int) else n % (64 : Int)) < (1 : Int) then (0 : Int) else first % IntKind.wrap IntKind.i64 ((1 : Int) + if (64 : Int) < (1 : Int) then (0 : Int) else n % (64 : Int)))) : Int) (2000 : Int)))))
                                        (↑(Int.toNat (if IntKind.wrap IntKind.i64 ((1 : Int) + if (64 : Int) < (1 : Int) then (0 : Int) else n % (64 : Int)) < (1 : Int) then (0 : Int) else first % IntKind.wrap IntKind.i64 ((1 : Int) + if (64 : Int) < (1 : Int) then (0 : Int) else n % (64 : Int)))) : Int) (1999 : Int))),
                                  AV.bool
                                    (AL.d
                                      (bar
                                        (stA
                                          (renB (out [(0 : Nat)] (List.length ([] ++ [some (alB (fuW (Int.toNat (IntKind.wrap IntKind.i64 ((1 : Int) + if (64 : Int) < (1 : Int) then (0 : Int) else n % (64 : Int)))) (2000 : Int)))])))
                                            (alB
                                              (bar (stA (alB (fuW (Int.toNat (IntKind.wrap IntKind.i64 ((1 : Int) + if (64 : Int) < (1 : Int) then (0 : Int) else n % (64 : Int)))) (2000 : Int))))
                                                (↑(Int.toNat (if IntKind.wrap IntKind.i64 ((1 : Int) + if (64 : Int) < (1 : Int) then (0 : Int) else n % (64 : Int)) < (1 : Int) then (0 : Int) else first % IntKind.wrap IntKind.i64 ((1 : Int) + if (64 : Int) < (1 : Int) then (0 : Int) else n % (64 : Int)))) : Int) (2000 : Int)))))
                                        (↑(Int.toNat (if IntKind.wrap IntKind.i64 ((1 : Int) + if (64 : Int) < (1 : Int) then (0 : Int) else n % (64 : Int)) < (1 : Int) then (0 : Int) else first % IntKind.wrap IntKind.i64 ((1 : Int) + if (64 : Int) < (1 : Int) then (0 : Int) else n % (64 : Int)))) : Int) (1999 : Int)))]))
                            (T.chk
                              (decide
                                (intA
                                    (List.getD
                                      (renL
                                        (out [(0 : Nat)]
                                          (List.length
                                            (putAll [(0 : Nat)] (List.length ([] ++ [some (alB (fuW (Int.toNat (IntKind.wrap IntKind.i64 ((1 : Int) + if (64 : Int) < (1 : Int) then (0 : Int) else n % (64 : Int)))) (2000 : Int)))])) [some (alB (stA (alB (fuW (Int.toNat (IntKind.wrap IntKind.i64 ((1 : Int) + if (64 : Int) < (1 : Int) then (0 : Int) else n % (64 : Int)))) (2000 : Int)))))]
                                                [some
                                                    (alB
                                                      (bar (stA (alB (fuW (Int.toNat (IntKind.wrap IntKind.i64 ((1 : Int) + if (64 : Int) < (1 : Int) then (0 : Int) else n % (64 : Int)))) (2000 : Int))))
                                                        (↑(Int.toNat (if IntKind.wrap IntKind.i64 ((1 : Int) + if (64 : Int) < (1 : Int) then (0 : Int) else n % (64 : Int)) < (1 : Int) then (0 : Int) else first % IntKind.wrap IntKind.i64 ((1 : Int) + if (64 : Int) < (1 : Int) then (0 : Int) else n % (64 : Int)))) : Int) (2000 : Int)))]
                                                [(0 : Nat)] (0 : Nat) ([] ++ [some (alB (fuW (Int.toNat (IntKind.wrap IntKind.i64 ((1 : Int) + if (64 : Int) < (1 : Int) then (0 : Int) else n % (64 : Int)))) (2000 : Int)))]) ++
                                              news [(0 : Nat)] (List.length ([] ++ [some (alB (fuW (Int.toNat (IntKind.wrap IntKind.i64 ((1 : Int) + if (64 : Int) < (1 : Int) then (0 : Int) else n % (64 : Int)))) (2000 : Int)))]))
                                                (List.drop (1 : Nat)
                                                  [some
                                                      (alB
                                                        (bar (stA (alB (fuW (Int.toNat (IntKind.wrap IntKind.i64 ((1 : Int) + if (64 : Int) < (1 : Int) then (0 : Int) else n % (64 : Int)))) (2000 : Int))))
                                                          (↑(Int.toNat (if IntKind.wrap IntKind.i64 ((1 : Int) + if (64 : Int) < (1 : Int) then (0 : Int) else n % (64 : Int)) < (1 : Int) then (0 : Int) else first % IntKind.wrap IntKind.i64 ((1 : Int) + if (64 : Int) < (1 : Int) then (0 : Int) else n % (64 : Int)))) : Int) (2000 : Int)))]))))
                                        [AV.int IntKind.i64
                                            (AL.n
                                              (bar
                                                (stA
                                                  (renB (out [(0 : Nat)] (List.length ([] ++ [some (alB (fuW (Int.toNat (IntKind.wrap IntKind.i64 ((1 : Int) + if (64 : Int) < (1 : Int) then (0 : Int) else n % (64 : Int)))) (2000 : Int)))])))
                                                    (alB
                                                      (bar (stA (alB (fuW (Int.toNat (IntKind.wrap IntKind.i64 ((1 : Int) + if (64 : Int) < (1 : Int) then (0 : Int) else n % (64 : Int)))) (2000 : Int))))
                                                        (↑(Int.toNat (if IntKind.wrap IntKind.i64 ((1 : Int) + if (64 : Int) < (1 : Int) then (0 : Int) else n % (64 : Int)) < (1 : Int) then (0 : Int) else first % IntKind.wrap IntKind.i64 ((1 : Int) + if (64 : Int) < (1 : Int) then (0 : Int) else n % (64 : Int)))) : Int) (2000 : Int)))))
                                                (↑(Int.toNat (if IntKind.wrap IntKind.i64 ((1 : Int) + if (64 : Int) < (1 : Int) then (0 : Int) else n % (64 : Int)) < (1 : Int) then (0 : Int) else first % IntKind.wrap IntKind.i64 ((1 : Int) + if (64 : Int) < (1 : Int) then (0 : Int) else n % (64 : Int)))) : Int) (1999 : Int)))])
                                      (0 : Nat) AV.ff) ≤
                                  (96 : Int)))
                              (T.ite
                                (!blkA
                                    (stA
                                      (renB
                                        (out [(0 : Nat)]
                                          (List.length
                                            (putAll [(0 : Nat)] (List.length ([] ++ [some (alB (fuW (Int.toNat (IntKind.wrap IntKind.i64 ((1 : Int) + if (64 : Int) < (1 : Int) then (0 : Int) else n % (64 : Int)))) (2000 : Int)))])) [some (alB (stA (alB (fuW (Int.toNat (IntKind.wrap IntKind.i64 ((1 : Int) + if (64 : Int) < (1 : Int) then (0 : Int) else n % (64 : Int)))) (2000 : Int)))))]
                                                [some
                                                    (alB
                                                      (bar (stA (alB (fuW (Int.toNat (IntKind.wrap IntKind.i64 ((1 : Int) + if (64 : Int) < (1 : Int) then (0 : Int) else n % (64 : Int)))) (2000 : Int))))
                                                        (↑(Int.toNat (if IntKind.wrap IntKind.i64 ((1 : Int) + if (64 : Int) < (1 : Int) then (0 : Int) else n % (64 : Int)) < (1 : Int) then (0 : Int) else first % IntKind.wrap IntKind.i64 ((1 : Int) + if (64 : Int) < (1 : Int) then (0 : Int) else n % (64 : Int)))) : Int) (2000 : Int)))]
                                                [(0 : Nat)] (0 : Nat) ([] ++ [some (alB (fuW (Int.toNat (IntKind.wrap IntKind.i64 ((1 : Int) + if (64 : Int) < (1 : Int) then (0 : Int) else n % (64 : Int)))) (2000 : Int)))]) ++
                                              news [(0 : Nat)] (List.length ([] ++ [some (alB (fuW (Int.toNat (IntKind.wrap IntKind.i64 ((1 : Int) + if (64 : Int) < (1 : Int) then (0 : Int) else n % (64 : Int)))) (2000 : Int)))]))
                                                (List.drop (1 : Nat)
                                                  [some
                                                      (alB
                                                        (bar (stA (alB (fuW (Int.toNat (IntKind.wrap IntKind.i64 ((1 : Int) + if (64 : Int) < (1 : Int) then (0 : Int) else n % (64 : Int)))) (2000 : Int))))
                                                          (↑(Int.toNat (if IntKind.wrap IntKind.i64 ((1 : Int) + if (64 : Int) < (1 : Int) then (0 : Int) else n % (64 : Int)) < (1 : Int) then (0 : Int) else first % IntKind.wrap IntKind.i64 ((1 : Int) + if (64 : Int) < (1 : Int) then (0 : Int) else n % (64 : Int)))) : Int) (2000 : Int)))]))))
                                        (alB
                                          (bar
                                            (stA
                                              (renB (out [(0 : Nat)] (List.length ([] ++ [some (alB (fuW (Int.toNat (IntKind.wrap IntKind.i64 ((1 : Int) + if (64 : Int) < (1 : Int) then (0 : Int) else n % (64 : Int)))) (2000 : Int)))])))
                                                (alB
                                                  (bar (stA (alB (fuW (Int.toNat (IntKind.wrap IntKind.i64 ((1 : Int) + if (64 : Int) < (1 : Int) then (0 : Int) else n % (64 : Int)))) (2000 : Int))))
                                                    (↑(Int.toNat (if IntKind.wrap IntKind.i64 ((1 : Int) + if (64 : Int) < (1 : Int) then (0 : Int) else n % (64 : Int)) < (1 : Int) then (0 : Int) else first % IntKind.wrap IntKind.i64 ((1 : Int) + if (64 : Int) < (1 : Int) then (0 : Int) else n % (64 : Int)))) : Int) (2000 : Int)))))
                                            (↑(Int.toNat (if IntKind.wrap IntKind.i64 ((1 : Int) + if (64 : Int) < (1 : Int) then (0 : Int) else n % (64 : Int)) < (1 : Int) then (0 : Int) else first % IntKind.wrap IntKind.i64 ((1 : Int) + if (64 : Int) < (1 : Int) then (0 : Int) else n % (64 : Int)))) : Int) (1999 : Int)))))
                                    (↑(Int.toNat (if IntKind.wrap IntKind.i64 ((1 : Int) + if (64 : Int) < (1 : Int) then (0 : Int) else n % (64 : Int)) < (1 : Int) then (0 : Int) else first % IntKind.wrap IntKind.i64 ((1 : Int) + if (64 : Int) < (1 : Int) then (0 : Int) else n % (64 : Int)))) : Int))
                                (T.ret
                                  (AV.bool true,
                                    [some
                                        (Blk.mk true
                                          [AV.int IntKind.i64
                                              (AL.n
                                                (bar
                                                  (stA
                                                    (renB (out [(0 : Nat)] (List.length ([] ++ [some (alB (fuW (Int.toNat (IntKind.wrap IntKind.i64 ((1 : Int) + if (64 : Int) < (1 : Int) then (0 : Int) else n % (64 : Int)))) (2000 : Int)))])))
                                                      (alB
                                                        (bar (stA (alB (fuW (Int.toNat (IntKind.wrap IntKind.i64 ((1 : Int) + if (64 : Int) < (1 : Int) then (0 : Int) else n % (64 : Int)))) (2000 : Int))))
                                                          (↑(Int.toNat (if IntKind.wrap IntKind.i64 ((1 : Int) + if (64 : Int) < (1 : Int) then (0 : Int) else n % (64 : Int)) < (1 : Int) then (0 : Int) else first % IntKind.wrap IntKind.i64 ((1 : Int) + if (64 : Int) < (1 : Int) then (0 : Int) else n % (64 : Int)))) : Int) (2000 : Int)))))
                                                  (↑(Int.toNat (if IntKind.wrap IntKind.i64 ((1 : Int) + if (64 : Int) < (1 : Int) then (0 : Int) else n % (64 : Int)) < (1 : Int) then (0 : Int) else first % IntKind.wrap IntKind.i64 ((1 : Int) + if (64 : Int) < (1 : Int) then (0 : Int) else n % (64 : Int)))) : Int) (1999 : Int)))]
                                          (1 : Nat) (96 : Nat)
                                          (fun j =>
                                            [AV.bool
                                                (AL.B
                                                  (bar
                                                    (stA
                                                      (renB (out [(0 : Nat)] (List.length ([] ++ [some (alB (fuW (Int.toNat (IntKind.wrap IntKind.i64 ((1 : Int) + if (64 : Int) < (1 : Int) then (0 : Int) else n % (64 : Int)))) (2000 : Int)))])))
                                                        (alB
                                                          (bar (stA (alB (fuW (Int.toNat (IntKind.wrap IntKind.i64 ((1 : Int) + if (64 : Int) < (1 : Int) then (0 : Int) else n % (64 : Int)))) (2000 : Int))))
                                                            (↑(Int.toNat (if IntKind.wrap IntKind.i64 ((1 : Int) + if (64 : Int) < (1 : Int) then (0 : Int) else n % (64 : Int)) < (1 : Int) then (0 : Int) else first % IntKind.wrap IntKind.i64 ((1 : Int) + if (64 : Int) < (1 : Int) then (0 : Int) else n % (64 : Int)))) : Int) (2000 : Int)))))
                                                    (↑(Int.toNat (if IntKind.wrap IntKind.i64 ((1 : Int) + if (64 : Int) < (1 : Int) then (0 : Int) else n % (64 : Int)) < (1 : Int) then (0 : Int) else first % IntKind.wrap IntKind.i64 ((1 : Int) + if (64 : Int) < (1 : Int) then (0 : Int) else n % (64 : Int)))) : Int) (1999 : Int))
                                                  j)])
                                          [AV.int IntKind.i64
                                              (AL.c
                                                (bar
                                                  (stA
                                                    (renB (out [(0 : Nat)] (List.length ([] ++ [some (alB (fuW (Int.toNat (IntKind.wrap IntKind.i64 ((1 : Int) + if (64 : Int) < (1 : Int) then (0 : Int) else n % (64 : Int)))) (2000 : Int)))])))
                                                      (alB
                                                        (bar (stA (alB (fuW (Int.toNat (IntKind.wrap IntKind.i64 ((1 : Int) + if (64 : Int) < (1 : Int) then (0 : Int) else n % (64 : Int)))) (2000 : Int))))
                                                          (↑(Int.toNat (if IntKind.wrap IntKind.i64 ((1 : Int) + if (64 : Int) < (1 : Int) then (0 : Int) else n % (64 : Int)) < (1 : Int) then (0 : Int) else first % IntKind.wrap IntKind.i64 ((1 : Int) + if (64 : Int) < (1 : Int) then (0 : Int) else n % (64 : Int)))) : Int) (2000 : Int)))))
                                                  (↑(Int.toNat (if IntKind.wrap IntKind.i64 ((1 : Int) + if (64 : Int) < (1 : Int) then (0 : Int) else n % (64 : Int)) < (1 : Int) then (0 : Int) else first % IntKind.wrap IntKind.i64 ((1 : Int) + if (64 : Int) < (1 : Int) then (0 : Int) else n % (64 : Int)))) : Int) (1999 : Int))),
                                            AV.int IntKind.i64
                                              (AL.w
                                                (bar
                                                  (stA
                                                    (renB (out [(0 : Nat)] (List.length ([] ++ [some (alB (fuW (Int.toNat (IntKind.wrap IntKind.i64 ((1 : Int) + if (64 : Int) < (1 : Int) then (0 : Int) else n % (64 : Int)))) (2000 : Int)))])))
                                                      (alB
                                                        (bar (stA (alB (fuW (Int.toNat (IntKind.wrap IntKind.i64 ((1 : Int) + if (64 : Int) < (1 : Int) then (0 : Int) else n % (64 : Int)))) (2000 : Int))))
                                                          (↑(Int.toNat (if IntKind.wrap IntKind.i64 ((1 : Int) + if (64 : Int) < (1 : Int) then (0 : Int) else n % (64 : Int)) < (1 : Int) then (0 : Int) else first % IntKind.wrap IntKind.i64 ((1 : Int) + if (64 : Int) < (1 : Int) then (0 : Int) else n % (64 : Int)))) : Int) (2000 : Int)))))
                                                  (↑(Int.toNat (if IntKind.wrap IntKind.i64 ((1 : Int) + if (64 : Int) < (1 : Int) then (0 : Int) else n % (64 : Int)) < (1 : Int) then (0 : Int) else first % IntKind.wrap IntKind.i64 ((1 : Int) + if (64 : Int) < (1 : Int) then (0 : Int) else n % (64 : Int)))) : Int) (1999 : Int))),
                                            AV.int IntKind.i64
                                              (AL.l
                                                (bar
                                                  (stA
                                                    (renB (out [(0 : Nat)] (List.length ([] ++ [some (alB (fuW (Int.toNat (IntKind.wrap IntKind.i64 ((1 : Int) + if (64 : Int) < (1 : Int) then (0 : Int) else n % (64 : Int)))) (2000 : Int)))])))
                                                      (alB
                                                        (bar (stA (alB (fuW (Int.toNat (IntKind.wrap IntKind.i64 ((1 : Int) + if (64 : Int) < (1 : Int) then (0 : Int) else n % (64 : Int)))) (2000 : Int))))
                                                          (↑(Int.toNat (if IntKind.wrap IntKind.i64 ((1 : Int) + if (64 : Int) < (1 : Int) then (0 : Int) else n % (64 : Int)) < (1 : Int) then (0 : Int) else first % IntKind.wrap IntKind.i64 ((1 : Int) + if (64 : Int) < (1 : Int) then (0 : Int) else n % (64 : Int)))) : Int) (2000 : Int)))))
                                                  (↑(Int.toNat (if IntKind.wrap IntKind.i64 ((1 : Int) + if (64 : Int) < (1 : Int) then (0 : Int) else n % (64 : Int)) < (1 : Int) then (0 : Int) else first % IntKind.wrap IntKind.i64 ((1 : Int) + if (64 : Int) < (1 : Int) then (0 : Int) else n % (64 : Int)))) : Int) (1999 : Int))),
                                            AV.bool
                                              (AL.d
                                                (bar
                                                  (stA
                                                    (renB (out [(0 : Nat)] (List.length ([] ++ [some (alB (fuW (Int.toNat (IntKind.wrap IntKind.i64 ((1 : Int) + if (64 : Int) < (1 : Int) then (0 : Int) else n % (64 : Int)))) (2000 : Int)))])))
                                                      (alB
                                                        (bar (stA (alB (fuW (Int.toNat (IntKind.wrap IntKind.i64 ((1 : Int) + if (64 : Int) < (1 : Int) then (0 : Int) else n % (64 : Int)))) (2000 : Int))))
                                                          (↑(Int.toNat (if IntKind.wrap IntKind.i64 ((1 : Int) + if (64 : Int) < (1 : Int) then (0 : Int) else n % (64 : Int)) < (1 : Int) then (0 : Int) else first % IntKind.wrap IntKind.i64 ((1 : Int) + if (64 : Int) < (1 : Int) then (0 : Int) else n % (64 : Int)))) : Int) (2000 : Int)))))
                                                  (↑(Int.toNat (if IntKind.wrap IntKind.i64 ((1 : Int) + if (64 : Int) < (1 : Int) then (0 : Int) else n % (64 : Int)) < (1 : Int) then (0 : Int) else first % IntKind.wrap IntKind.i64 ((1 : Int) + if (64 : Int) < (1 : Int) then (0 : Int) else n % (64 : Int)))) : Int) (1999 : Int)))])]))
                                (T.ret
                                  (AV.ff,
                                    [some
                                        (Blk.mk true
                                          [AV.int IntKind.i64
                                              (AL.n
                                                (bar
                                                  (stA
                                                    (renB (out [(0 : Nat)] (List.length ([] ++ [some (alB (fuW (Int.toNat (IntKind.wrap IntKind.i64 ((1 : Int) + if (64 : Int) < (1 : Int) then (0 : Int) else n % (64 : Int)))) (2000 : Int)))])))
                                                      (alB
                                                        (bar (stA (alB (fuW (Int.toNat (IntKind.wrap IntKind.i64 ((1 : Int) + if (64 : Int) < (1 : Int) then (0 : Int) else n % (64 : Int)))) (2000 : Int))))
                                                          (↑(Int.toNat (if IntKind.wrap IntKind.i64 ((1 : Int) + if (64 : Int) < (1 : Int) then (0 : Int) else n % (64 : Int)) < (1 : Int) then (0 : Int) else first % IntKind.wrap IntKind.i64 ((1 : Int) + if (64 : Int) < (1 : Int) then (0 : Int) else n % (64 : Int)))) : Int) (2000 : Int)))))
                                                  (↑(Int.toNat (if IntKind.wrap IntKind.i64 ((1 : Int) + if (64 : Int) < (1 : Int) then (0 : Int) else n % (64 : Int)) < (1 : Int) then (0 : Int) else first % IntKind.wrap IntKind.i64 ((1 : Int) + if (64 : Int) < (1 : Int) then (0 : Int) else n % (64 : Int)))) : Int) (1999 : Int)))]
                                          (1 : Nat) (96 : Nat)
                                          (fun j =>
                                            [AV.bool
                                                (AL.B
                                                  (bar
                                                    (stA
                                                      (renB (out [(0 : Nat)] (List.length ([] ++ [some (alB (fuW (Int.toNat (IntKind.wrap IntKind.i64 ((1 : Int) + if (64 : Int) < (1 : Int) then (0 : Int) else n % (64 : Int)))) (2000 : Int)))])))
                                                        (alB
                                                          (bar (stA (alB (fuW (Int.toNat (IntKind.wrap IntKind.i64 ((1 : Int) + if (64 : Int) < (1 : Int) then (0 : Int) else n % (64 : Int)))) (2000 : Int))))
                                                            (↑(Int.toNat (if IntKind.wrap IntKind.i64 ((1 : Int) + if (64 : Int) < (1 : Int) then (0 : Int) else n % (64 : Int)) < (1 : Int) then (0 : Int) else first % IntKind.wrap IntKind.i64 ((1 : Int) + if (64 : Int) < (1 : Int) then (0 : Int) else n % (64 : Int)))) : Int) (2000 : Int)))))
                                                    (↑(Int.toNat (if IntKind.wrap IntKind.i64 ((1 : Int) + if (64 : Int) < (1 : Int) then (0 : Int) else n % (64 : Int)) < (1 : Int) then (0 : Int) else first % IntKind.wrap IntKind.i64 ((1 : Int) + if (64 : Int) < (1 : Int) then (0 : Int) else n % (64 : Int)))) : Int) (1999 : Int))
                                                  j)])
                                          [AV.int IntKind.i64
                                              (AL.c
                                                (bar
                                                  (stA
                                                    (renB (out [(0 : Nat)] (List.length ([] ++ [some (alB (fuW (Int.toNat (IntKind.wrap IntKind.i64 ((1 : Int) + if (64 : Int) < (1 : Int) then (0 : Int) else n % (64 : Int)))) (2000 : Int)))])))
                                                      (alB
                                                        (bar (stA (alB (fuW (Int.toNat (IntKind.wrap IntKind.i64 ((1 : Int) + if (64 : Int) < (1 : Int) then (0 : Int) else n % (64 : Int)))) (2000 : Int))))
                                                          (↑(Int.toNat (if IntKind.wrap IntKind.i64 ((1 : Int) + if (64 : Int) < (1 : Int) then (0 : Int) else n % (64 : Int)) < (1 : Int) then (0 : Int) else first % IntKind.wrap IntKind.i64 ((1 : Int) + if (64 : Int) < (1 : Int) then (0 : Int) else n % (64 : Int)))) : Int) (2000 : Int)))))
                                                  (↑(Int.toNat (if IntKind.wrap IntKind.i64 ((1 : Int) + if (64 : Int) < (1 : Int) then (0 : Int) else n % (64 : Int)) < (1 : Int) then (0 : Int) else first % IntKind.wrap IntKind.i64 ((1 : Int) + if (64 : Int) < (1 : Int) then (0 : Int) else n % (64 : Int)))) : Int) (1999 : Int))),
                                            AV.int IntKind.i64
                                              (AL.w
                                                (bar
                                                  (stA
                                                    (renB (out [(0 : Nat)] (List.length ([] ++ [some (alB (fuW (Int.toNat (IntKind.wrap IntKind.i64 ((1 : Int) + if (64 : Int) < (1 : Int) then (0 : Int) else n % (64 : Int)))) (2000 : Int)))])))
                                                      (alB
                                                        (bar (stA (alB (fuW (Int.toNat (IntKind.wrap IntKind.i64 ((1 : Int) + if (64 : Int) < (1 : Int) then (0 : Int) else n % (64 : Int)))) (2000 : Int))))
                                                          (↑(Int.toNat (if IntKind.wrap IntKind.i64 ((1 : Int) + if (64 : Int) < (1 : Int) then (0 : Int) else n % (64 : Int)) < (1 : Int) then (0 : Int) else first % IntKind.wrap IntKind.i64 ((1 : Int) + if (64 : Int) < (1 : Int) then (0 : Int) else n % (64 : Int)))) : Int) (2000 : Int)))))
                                                  (↑(Int.toNat (if IntKind.wrap IntKind.i64 ((1 : Int) + if (64 : Int) < (1 : Int) then (0 : Int) else n % (64 : Int)) < (1 : Int) then (0 : Int) else first % IntKind.wrap IntKind.i64 ((1 : Int) + if (64 : Int) < (1 : Int) then (0 : Int) else n % (64 : Int)))) : Int) (1999 : Int))),
                                            AV.int IntKind.i64
                                              (AL.l
                                                (bar
                                                  (stA
                                                    (renB (out [(0 : Nat)] (List.length ([] ++ [some (alB (fuW (Int.toNat (IntKind.wrap IntKind.i64 ((1 : Int) + if (64 : Int) < (1 : Int) then (0 : Int) else n % (64 : Int)))) (2000 : Int)))])))
                                                      (alB
                                                        (bar (stA (alB (fuW (Int.toNat (IntKind.wrap IntKind.i64 ((1 : Int) + if (64 : Int) < (1 : Int) then (0 : Int) else n % (64 : Int)))) (2000 : Int))))
                                                          (↑(Int.toNat (if IntKind.wrap IntKind.i64 ((1 : Int) + if (64 : Int) < (1 : Int) then (0 : Int) else n % (64 : Int)) < (1 : Int) then (0 : Int) else first % IntKind.wrap IntKind.i64 ((1 : Int) + if (64 : Int) < (1 : Int) then (0 : Int) else n % (64 : Int)))) : Int) (2000 : Int)))))
                                                  (↑(Int.toNat (if IntKind.wrap IntKind.i64 ((1 : Int) + if (64 : Int) < (1 : Int) then (0 : Int) else n % (64 : Int)) < (1 : Int) then (0 : Int) else first % IntKind.wrap IntKind.i64 ((1 : Int) + if (64 : Int) < (1 : Int) then (0 : Int) else n % (64 : Int)))) : Int) (1999 : Int))),
                                            AV.bool
                                              (AL.d
                                                (bar
                                                  (stA
                                                    (renB (out [(0 : Nat)] (List.length ([] ++ [some (alB (fuW (Int.toNat (IntKind.wrap IntKind.i64 ((1 : Int) + if (64 : Int) < (1 : Int) then (0 : Int) else n % (64 : Int)))) (2000 : Int)))])))
                                                      (alB
                                                        (bar (stA (alB (fuW (Int.toNat (IntKind.wrap IntKind.i64 ((1 : Int) + if (64 : Int) < (1 : Int) then (0 : Int) else n % (64 : Int)))) (2000 : Int))))
                                                          (↑(Int.toNat (if IntKind.wrap IntKind.i64 ((1 : Int) + if (64 : Int) < (1 : Int) then (0 : Int) else n % (64 : Int)) < (1 : Int) then (0 : Int) else first % IntKind.wrap IntKind.i64 ((1 : Int) + if (64 : Int) < (1 : Int) then (0 : Int) else n % (64 : Int)))) : Int) (2000 : Int)))))
                                                  (↑(Int.toNat (if IntKind.wrap IntKind.i64 ((1 : Int) + if (64 : Int) < (1 : Int) then (0 : Int) else n % (64 : Int)) < (1 : Int) then (0 : Int) else first % IntKind.wrap IntKind.i64 ((1 : Int) + if (64 : Int) < (1 : Int) then (0 : Int) else n % (64 : Int)))) : Int) (1999 : Int)))])])))))
                          (T.ret
                            (AV.ff,
                              [some
                                  (Blk.mk true
                                    [AV.int IntKind.i64
                                        (AL.n
                                          (bar
                                            (stA
                                              (renB (out [(0 : Nat)] (List.length ([] ++ [some (alB (fuW (Int.toNat (IntKind.wrap IntKind.i64 ((1 : Int) + if (64 : Int) < (1 : Int) then (0 : Int) else n % (64 : Int)))) (2000 : Int)))])))
                                                (alB
                                                  (bar (stA (alB (fuW (Int.toNat (IntKind.wrap IntKind.i64 ((1 : Int) + if (64 : Int) < (1 : Int) then (0 : Int) else n % (64 : Int)))) (2000 : Int))))
                                                    (↑(Int.toNat (if IntKind.wrap IntKind.i64 ((1 : Int) + if (64 : Int) < (1 : Int) then (0 : Int) else n % (64 : Int)) < (1 : Int) then (0 : Int) else first % IntKind.wrap IntKind.i64 ((1 : Int) + if (64 : Int) < (1 : Int) then (0 : Int) else n % (64 : Int)))) : Int) (2000 : Int)))))
                                            (↑(Int.toNat (if IntKind.wrap IntKind.i64 ((1 : Int) + if (64 : Int) < (1 : Int) then (0 : Int) else n % (64 : Int)) < (1 : Int) then (0 : Int) else first % IntKind.wrap IntKind.i64 ((1 : Int) + if (64 : Int) < (1 : Int) then (0 : Int) else n % (64 : Int)))) : Int) (1999 : Int)))]
                                    (1 : Nat) (96 : Nat)
                                    (fun j =>
                                      [AV.bool
                                          (AL.B
                                            (bar
                                              (stA
                                                (renB (out [(0 : Nat)] (List.length ([] ++ [some (alB (fuW (Int.toNat (IntKind.wrap IntKind.i64 ((1 : Int) + if (64 : Int) < (1 : Int) then (0 : Int) else n % (64 : Int)))) (2000 : Int)))])))
                                                  (alB
                                                    (bar (stA (alB (fuW (Int.toNat (IntKind.wrap IntKind.i64 ((1 : Int) + if (64 : Int) < (1 : Int) then (0 : Int) else n % (64 : Int)))) (2000 : Int))))
                                                      (↑(Int.toNat (if IntKind.wrap IntKind.i64 ((1 : Int) + if (64 : Int) < (1 : Int) then (0 : Int) else n % (64 : Int)) < (1 : Int) then (0 : Int) else first % IntKind.wrap IntKind.i64 ((1 : Int) + if (64 : Int) < (1 : Int) then (0 : Int) else n % (64 : Int)))) : Int) (2000 : Int)))))
                                              (↑(Int.toNat (if IntKind.wrap IntKind.i64 ((1 : Int) + if (64 : Int) < (1 : Int) then (0 : Int) else n % (64 : Int)) < (1 : Int) then (0 : Int) else first % IntKind.wrap IntKind.i64 ((1 : Int) + if (64 : Int) < (1 : Int) then (0 : Int) else n % (64 : Int)))) : Int) (1999 : Int))
                                            j)])
                                    [AV.int IntKind.i64
                                        (AL.c
                                          (bar
                                            (stA
                                              (renB (out [(0 : Nat)] (List.length ([] ++ [some (alB (fuW (Int.toNat (IntKind.wrap IntKind.i64 ((1 : Int) + if (64 : Int) < (1 : Int) then (0 : Int) else n % (64 : Int)))) (2000 : Int)))])))
                                                (alB
                                                  (bar (stA (alB (fuW (Int.toNat (IntKind.wrap IntKind.i64 ((1 : Int) + if (64 : Int) < (1 : Int) then (0 : Int) else n % (64 : Int)))) (2000 : Int))))
                                                    (↑(Int.toNat (if IntKind.wrap IntKind.i64 ((1 : Int) + if (64 : Int) < (1 : Int) then (0 : Int) else n % (64 : Int)) < (1 : Int) then (0 : Int) else first % IntKind.wrap IntKind.i64 ((1 : Int) + if (64 : Int) < (1 : Int) then (0 : Int) else n % (64 : Int)))) : Int) (2000 : Int)))))
                                            (↑(Int.toNat (if IntKind.wrap IntKind.i64 ((1 : Int) + if (64 : Int) < (1 : Int) then (0 : Int) else n % (64 : Int)) < (1 : Int) then (0 : Int) else first % IntKind.wrap IntKind.i64 ((1 : Int) + if (64 : Int) < (1 : Int) then (0 : Int) else n % (64 : Int)))) : Int) (1999 : Int))),
                                      AV.int IntKind.i64
                                        (AL.w
                                          (bar
                                            (stA
                                              (renB (out [(0 : Nat)] (List.length ([] ++ [some (alB (fuW (Int.toNat (IntKind.wrap IntKind.i64 ((1 : Int) + if (64 : Int) < (1 : Int) then (0 : Int) else n % (64 : Int)))) (2000 : Int)))])))
                                                (alB
                                                  (bar (stA (alB (fuW (Int.toNat (IntKind.wrap IntKind.i64 ((1 : Int) + if (64 : Int) < (1 : Int) then (0 : Int) else n % (64 : Int)))) (2000 : Int))))
                                                    (↑(Int.toNat (if IntKind.wrap IntKind.i64 ((1 : Int) + if (64 : Int) < (1 : Int) then (0 : Int) else n % (64 : Int)) < (1 : Int) then (0 : Int) else first % IntKind.wrap IntKind.i64 ((1 : Int) + if (64 : Int) < (1 : Int) then (0 : Int) else n % (64 : Int)))) : Int) (2000 : Int)))))
                                            (↑(Int.toNat (if IntKind.wrap IntKind.i64 ((1 : Int) + if (64 : Int) < (1 : Int) then (0 : Int) else n % (64 : Int)) < (1 : Int) then (0 : Int) else first % IntKind.wrap IntKind.i64 ((1 : Int) + if (64 : Int) < (1 : Int) then (0 : Int) else n % (64 : Int)))) : Int) (1999 : Int))),
                                      AV.int IntKind.i64
                                        (AL.l
                                          (bar
                                            (stA
                                              (renB (out [(0 : Nat)] (List.length ([] ++ [some (alB (fuW (Int.toNat (IntKind.wrap IntKind.i64 ((1 : Int) + if (64 : Int) < (1 : Int) then (0 : Int) else n % (64 : Int)))) (2000 : Int)))])))
                                                (alB
                                                  (bar (stA (alB (fuW (Int.toNat (IntKind.wrap IntKind.i64 ((1 : Int) + if (64 : Int) < (1 : Int) then (0 : Int) else n % (64 : Int)))) (2000 : Int))))
                                                    (↑(Int.toNat (if IntKind.wrap IntKind.i64 ((1 : Int) + if (64 : Int) < (1 : Int) then (0 : Int) else n % (64 : Int)) < (1 : Int) then (0 : Int) else first % IntKind.wrap IntKind.i64 ((1 : Int) + if (64 : Int) < (1 : Int) then (0 : Int) else n % (64 : Int)))) : Int) (2000 : Int)))))
                                            (↑(Int.toNat (if IntKind.wrap IntKind.i64 ((1 : Int) + if (64 : Int) < (1 : Int) then (0 : Int) else n % (64 : Int)) < (1 : Int) then (0 : Int) else first % IntKind.wrap IntKind.i64 ((1 : Int) + if (64 : Int) < (1 : Int) then (0 : Int) else n % (64 : Int)))) : Int) (1999 : Int))),
                                      AV.bool
                                        (AL.d
                                          (bar
                                            (stA
                                              (renB (out [(0 : Nat)] (List.length ([] ++ [some (alB (fuW (Int.toNat (IntKind.wrap IntKind.i64 ((1 : Int) + if (64 : Int) < (1 : Int) then (0 : Int) else n % (64 : Int)))) (2000 : Int)))])))
                                                (alB
                                                  (bar (stA (alB (fuW (Int.toNat (IntKind.wrap IntKind.i64 ((1 : Int) + if (64 : Int) < (1 : Int) then (0 : Int) else n % (64 : Int)))) (2000 : Int))))
                                                    (↑(Int.toNat (if IntKind.wrap IntKind.i64 ((1 : Int) + if (64 : Int) < (1 : Int) then (0 : Int) else n % (64 : Int)) < (1 : Int) then (0 : Int) else first % IntKind.wrap IntKind.i64 ((1 : Int) + if (64 : Int) < (1 : Int) then (0 : Int) else n % (64 : Int)))) : Int) (2000 : Int)))))
                                            (↑(Int.toNat (if IntKind.wrap IntKind.i64 ((1 : Int) + if (64 : Int) < (1 : Int) then (0 : Int) else n % (64 : Int)) < (1 : Int) then (0 : Int) else first % IntKind.wrap IntKind.i64 ((1 : Int) + if (64 : Int) < (1 : Int) then (0 : Int) else n % (64 : Int)))) : Int) (1999 : Int)))])])))))
                    (T.ret
                      (AV.ff,
                        [some
                            (Blk.mk true
                              [AV.int IntKind.i64
                                  (AL.n
                                    (bar (stA (alB (fuW (Int.toNat (IntKind.wrap IntKind.i64 ((1 : Int) + if (64 : Int) < (1 : Int) then (0 : Int) else n % (64 : Int)))) (2000 : Int))))
                                      (↑(Int.toNat (if IntKind.wrap IntKind.i64 ((1 : Int) + if (64 : Int) < (1 : Int) then (0 : Int) else n % (64 : Int)) < (1 : Int) then (0 : Int) else first % IntKind.wrap IntKind.i64 ((1 : Int) + if (64 : Int) < (1 : Int) then (0 : Int) else n % (64 : Int)))) : Int) (2000 : Int)))]
                              (1 : Nat) (96 : Nat)
                              (fun j =>
                                [AV.bool
                                    (AL.B
                                      (bar (stA (alB (fuW (Int.toNat (IntKind.wrap IntKind.i64 ((1 : Int) + if (64 : Int) < (1 : Int) then (0 : Int) else n % (64 : Int)))) (2000 : Int))))
                                        (↑(Int.toNat (if IntKind.wrap IntKind.i64 ((1 : Int) + if (64 : Int) < (1 : Int) then (0 : Int) else n % (64 : Int)) < (1 : Int) then (0 : Int) else first % IntKind.wrap IntKind.i64 ((1 : Int) + if (64 : Int) < (1 : Int) then (0 : Int) else n % (64 : Int)))) : Int) (2000 : Int))
                                      j)])
                              [AV.int IntKind.i64
                                  (AL.c
                                    (bar (stA (alB (fuW (Int.toNat (IntKind.wrap IntKind.i64 ((1 : Int) + if (64 : Int) < (1 : Int) then (0 : Int) else n % (64 : Int)))) (2000 : Int))))
                                      (↑(Int.toNat (if IntKind.wrap IntKind.i64 ((1 : Int) + if (64 : Int) < (1 : Int) then (0 : Int) else n % (64 : Int)) < (1 : Int) then (0 : Int) else first % IntKind.wrap IntKind.i64 ((1 : Int) + if (64 : Int) < (1 : Int) then (0 : Int) else n % (64 : Int)))) : Int) (2000 : Int))),
                                AV.int IntKind.i64
                                  (AL.w
                                    (bar (stA (alB (fuW (Int.toNat (IntKind.wrap IntKind.i64 ((1 : Int) + if (64 : Int) < (1 : Int) then (0 : Int) else n % (64 : Int)))) (2000 : Int))))
                                      (↑(Int.toNat (if IntKind.wrap IntKind.i64 ((1 : Int) + if (64 : Int) < (1 : Int) then (0 : Int) else n % (64 : Int)) < (1 : Int) then (0 : Int) else first % IntKind.wrap IntKind.i64 ((1 : Int) + if (64 : Int) < (1 : Int) then (0 : Int) else n % (64 : Int)))) : Int) (2000 : Int))),
                                AV.int IntKind.i64
                                  (AL.l
                                    (bar (stA (alB (fuW (Int.toNat (IntKind.wrap IntKind.i64 ((1 : Int) + if (64 : Int) < (1 : Int) then (0 : Int) else n % (64 : Int)))) (2000 : Int))))
                                      (↑(Int.toNat (if IntKind.wrap IntKind.i64 ((1 : Int) + if (64 : Int) < (1 : Int) then (0 : Int) else n % (64 : Int)) < (1 : Int) then (0 : Int) else first % IntKind.wrap IntKind.i64 ((1 : Int) + if (64 : Int) < (1 : Int) then (0 : Int) else n % (64 : Int)))) : Int) (2000 : Int))),
                                AV.bool
                                  (AL.d
                                    (bar (stA (alB (fuW (Int.toNat (IntKind.wrap IntKind.i64 ((1 : Int) + if (64 : Int) < (1 : Int) then (0 : Int) else n % (64 : Int)))) (2000 : Int))))
                                      (↑(Int.toNat (if IntKind.wrap IntKind.i64 ((1 : Int) + if (64 : Int) < (1 : Int) then (0 : Int) else n % (64 : Int)) < (1 : Int) then (0 : Int) else first % IntKind.wrap IntKind.i64 ((1 : Int) + if (64 : Int) < (1 : Int) then (0 : Int) else n % (64 : Int)))) : Int) (2000 : Int)))])])))))))))
      (T.chk (decide (IntKind.wrap IntKind.i64 ((1 : Int) + if (64 : Int) < (1 : Int) then (0 : Int) else n % (64 : Int)) ≤ (9223372036854775807 : Int)))
        (T.need
          (∃ ρ,
            SubSt (0 : Nat) ρ
              (St.mk
                [((0 : Nat), AV.int IntKind.i64 (IntKind.wrap IntKind.i64 ((1 : Int) + if (64 : Int) < (1 : Int) then (0 : Int) else n % (64 : Int)))),
                  ((2 : Nat), AV.int IntKind.i64 (if IntKind.wrap IntKind.i64 ((1 : Int) + if (64 : Int) < (1 : Int) then (0 : Int) else n % (64 : Int)) < (1 : Int) then (0 : Int) else first % IntKind.wrap IntKind.i64 ((1 : Int) + if (64 : Int) < (1 : Int) then (0 : Int) else n % (64 : Int)))), ((7 : Nat), AV.ptr (0 : Nat) (0 : Nat) (0 : Nat) (0 : Nat)), ((9 : Nat), AV.int IntKind.i64 (0 : Int))]
                [some (Blk.mk true [AV.int IntKind.i64 (clampA (IntKind.wrap IntKind.i64 ((1 : Int) + if (64 : Int) < (1 : Int) then (0 : Int) else n % (64 : Int))))] (1 : Nat) (96 : Nat) (fun j => [AV.bool false]) [AV.int IntKind.i64 (0 : Int), AV.int IntKind.i64 (0 : Int), AV.int IntKind.i64 (0 : Int), AV.bool false])])
              (f2St []
                (F2.mk (0 : Nat) (Int.toNat (IntKind.wrap IntKind.i64 ((1 : Int) + if (64 : Int) < (1 : Int) then (0 : Int) else n % (64 : Int))))
                  (Int.toNat (if IntKind.wrap IntKind.i64 ((1 : Int) + if (64 : Int) < (1 : Int) then (0 : Int) else n % (64 : Int)) < (1 : Int) then (0 : Int) else first % IntKind.wrap IntKind.i64 ((1 : Int) + if (64 : Int) < (1 : Int) then (0 : Int) else n % (64 : Int))))
                  (stA (renB (out [] (0 : Nat)) (alB (newA (IntKind.wrap IntKind.i64 ((1 : Int) + if (64 : Int) < (1 : Int) then (0 : Int) else n % (64 : Int))))))) (0 : Nat))))
          (T.need
            (f2Inv
              (F2.mk (0 : Nat) (Int.toNat (IntKind.wrap IntKind.i64 ((1 : Int) + if (64 : Int) < (1 : Int) then (0 : Int) else n % (64 : Int)))) (Int.toNat (if IntKind.wrap IntKind.i64 ((1 : Int) + if (64 : Int) < (1 : Int) then (0 : Int) else n % (64 : Int)) < (1 : Int) then (0 : Int) else first % IntKind.wrap IntKind.i64 ((1 : Int) + if (64 : Int) < (1 : Int) then (0 : Int) else n % (64 : Int))))
                (stA (renB (out [] (0 : Nat)) (alB (newA (IntKind.wrap IntKind.i64 ((1 : Int) + if (64 : Int) < (1 : Int) then (0 : Int) else n % (64 : Int))))))) (0 : Nat)))
            (T.need (IsAl (Blk.mk true [AV.int IntKind.i64 (↑(Int.toNat (IntKind.wrap IntKind.i64 ((1 : Int) + if (64 : Int) < (1 : Int) then (0 : Int) else n % (64 : Int)))) : Int)] (1 : Nat) (96 : Nat) (fun j => [AV.bool false]) [AV.int IntKind.i64 (0 : Int), AV.int IntKind.i64 (2000 : Int), AV.int IntKind.i64 (2000 : Int), AV.bool true]))
              (T.chk (decide (intA (List.getD [AV.int IntKind.i64 (↑(Int.toNat (IntKind.wrap IntKind.i64 ((1 : Int) + if (64 : Int) < (1 : Int) then (0 : Int) else n % (64 : Int)))) : Int)] (0 : Nat) AV.ff) ≤ (96 : Int)))
                (T.ite
                  (!barR (stA (alB (fuW (Int.toNat (IntKind.wrap IntKind.i64 ((1 : Int) + if (64 : Int) < (1 : Int) then (0 : Int) else n % (64 : Int)))) (2000 : Int))))
                      (↑(Int.toNat (if IntKind.wrap IntKind.i64 ((1 : Int) + if (64 : Int) < (1 : Int) then (0 : Int) else n % (64 : Int)) < (1 : Int) then (0 : Int) else first % IntKind.wrap IntKind.i64 ((1 : Int) + if (64 : Int) < (1 : Int) then (0 : Int) else n % (64 : Int)))) : Int) (2000 : Int))
                  (T.need
                    (IsAl
                      (Blk.mk true
                        [AV.int IntKind.i64
                            (AL.n
                              (bar (stA (alB (fuW (Int.toNat (IntKind.wrap IntKind.i64 ((1 : Int) + if (64 : Int) < (1 : Int) then (0 : Int) else n % (64 : Int)))) (2000 : Int))))
                                (↑(Int.toNat (if IntKind.wrap IntKind.i64 ((1 : Int) + if (64 : Int) < (1 : Int) then (0 : Int) else n % (64 : Int)) < (1 : Int) then (0 : Int) else first % IntKind.wrap IntKind.i64 ((1 : Int) + if (64 : Int) < (1 : Int) then (0 : Int) else n % (64 : Int)))) : Int) (2000 : Int)))]
                        (1 : Nat) (96 : Nat)
                        (fun j =>
                          [AV.bool
                              (AL.B
                                (bar (stA (alB (fuW (Int.toNat (IntKind.wrap IntKind.i64 ((1 : Int) + if (64 : Int) < (1 : Int) then (0 : Int) else n % (64 : Int)))) (2000 : Int))))
                                  (↑(Int.toNat (if IntKind.wrap IntKind.i64 ((1 : Int) + if (64 : Int) < (1 : Int) then (0 : Int) else n % (64 : Int)) < (1 : Int) then (0 : Int) else first % IntKind.wrap IntKind.i64 ((1 : Int) + if (64 : Int) < (1 : Int) then (0 : Int) else n % (64 : Int)))) : Int) (2000 : Int))
                                j)])
                        [AV.int IntKind.i64
                            (AL.c
                              (bar (stA (alB (fuW (Int.toNat (IntKind.wrap IntKind.i64 ((1 : Int) + if (64 : Int) < (1 : Int) then (0 : Int) else n % (64 : Int)))) (2000 : Int))))
                                (↑(Int.toNat (if IntKind.wrap IntKind.i64 ((1 : Int) + if (64 : Int) < (1 : Int) then (0 : Int) else n % (64 : Int)) < (1 : Int) then (0 : Int) else first % IntKind.wrap IntKind.i64 ((1 : Int) + if (64 : Int) < (1 : Int) then (0 : Int) else n % (64 : Int)))) : Int) (2000 : Int))),
                          AV.int IntKind.i64
                            (AL.w
                              (bar (stA (alB (fuW (Int.toNat (IntKind.wrap IntKind.i64 ((1 : Int) + if (64 : Int) < (1 : Int) then (0 : Int) else n % (64 : Int)))) (2000 : Int))))
                                (↑(Int.toNat (if IntKind.wrap IntKind.i64 ((1 : Int) + if (64 : Int) < (1 : Int) then (0 : Int) else n % (64 : Int)) < (1 : Int) then (0 : Int) else first % IntKind.wrap IntKind.i64 ((1 : Int) + if (64 : Int) < (1 : Int) then (0 : Int) else n % (64 : Int)))) : Int) (2000 : Int))),
                          AV.int IntKind.i64
                            (AL.l
                              (bar (stA (alB (fuW (Int.toNat (IntKind.wrap IntKind.i64 ((1 : Int) + if (64 : Int) < (1 : Int) then (0 : Int) else n % (64 : Int)))) (2000 : Int))))
                                (↑(Int.toNat (if IntKind.wrap IntKind.i64 ((1 : Int) + if (64 : Int) < (1 : Int) then (0 : Int) else n % (64 : Int)) < (1 : Int) then (0 : Int) else first % IntKind.wrap IntKind.i64 ((1 : Int) + if (64 : Int) < (1 : Int) then (0 : Int) else n % (64 : Int)))) : Int) (2000 : Int))),
                          AV.bool
                            (AL.d
                              (bar (stA (alB (fuW (Int.toNat (IntKind.wrap IntKind.i64 ((1 : Int) + if (64 : Int) < (1 : Int) then (0 : Int) else n % (64 : Int)))) (2000 : Int))))
                                (↑(Int.toNat (if IntKind.wrap IntKind.i64 ((1 : Int) + if (64 : Int) < (1 : Int) then (0 : Int) else n % (64 : Int)) < (1 : Int) then (0 : Int) else first % IntKind.wrap IntKind.i64 ((1 : Int) + if (64 : Int) < (1 : Int) then (0 : Int) else n % (64 : Int)))) : Int) (2000 : Int)))]))
                    (T.chk
                      (decide
                        (intA
                            (List.getD
                              (renL (out [(0 : Nat)] (List.length ([] ++ [some (alB (fuW (Int.toNat (IntKind.wrap IntKind.i64 ((1 : Int) + if (64 : Int) < (1 : Int) then (0 : Int) else n % (64 : Int)))) (2000 : Int)))])))
                                [AV.int IntKind.i64
                                    (AL.n
                                      (bar (stA (alB (fuW (Int.toNat (IntKind.wrap IntKind.i64 ((1 : Int) + if (64 : Int) < (1 : Int) then (0 : Int) else n % (64 : Int)))) (2000 : Int))))
                                        (↑(Int.toNat (if IntKind.wrap IntKind.i64 ((1 : Int) + if (64 : Int) < (1 : Int) then (0 : Int) else n % (64 : Int)) < (1 : Int) then (0 : Int) else first % IntKind.wrap IntKind.i64 ((1 : Int) + if (64 : Int) < (1 : Int) then (0 : Int) else n % (64 : Int)))) : Int) (2000 : Int)))])
                              (0 : Nat) AV.ff) ≤
                          (96 : Int)))
                      (T.ite
                        (!barR
                            (stA
                              (renB (out [(0 : Nat)] (List.length ([] ++ [some (alB (fuW (Int.toNat (IntKind.wrap IntKind.i64 ((1 : Int) + if (64 : Int) < (1 : Int) then (0 : Int) else n % (64 : Int)))) (2000 : Int)))])))
                                (alB
                                  (bar (stA (alB (fuW (Int.toNat (IntKind.wrap IntKind.i64 ((1 : Int) + if (64 : Int) < (1 : Int) then (0 : Int) else n % (64 : Int)))) (2000 : Int))))
                                    (↑(Int.toNat (if IntKind.wrap IntKind.i64 ((1 : Int) + if (64 : Int) < (1 : Int) then (0 : Int) else n % (64 : Int)) < (1 : Int) then (0 : Int) else first % IntKind.wrap IntKind.i64 ((1 : Int) + if (64 : Int) < (1 : Int) then (0 : Int) else n % (64 : Int)))) : Int) (2000 : Int)))))
                            (↑(Int.toNat (if IntKind.wrap IntKind.i64 ((1 : Int) + if (64 : Int) < (1 : Int) then (0 : Int) else n % (64 : Int)) < (1 : Int) then (0 : Int) else first % IntKind.wrap IntKind.i64 ((1 : Int) + if (64 : Int) < (1 : Int) then (0 : Int) else n % (64 : Int)))) : Int) (1999 : Int))
                        (T.need
                          (IsAl
                            (Blk.mk true
                              [AV.int IntKind.i64
                                  (AL.n
                                    (bar
                                      (stA
                                        (renB (out [(0 : Nat)] (List.length ([] ++ [some (alB (fuW (Int.toNat (IntKind.wrap IntKind.i64 ((1 : Int) + if (64 : Int) < (1 : Int) then (0 : Int) else n % (64 : Int)))) (2000 : Int)))])))
                                          (alB
                                            (bar (stA (alB (fuW (Int.toNat (IntKind.wrap IntKind.i64 ((1 : Int) + if (64 : Int) < (1 : Int) then (0 : Int) else n % (64 : Int)))) (2000 : Int))))
                                              (↑(Int.toNat (if IntKind.wrap IntKind.i64 ((1 : Int) + if (64 : Int) < (1 : Int) then (0 : Int) else n % (64 : Int)) < (1 : Int) then (0 : Int) else first % IntKind.wrap IntKind.i64 ((1 : Int) + if (64 : Int) < (1 : Int) then (0 : Int) else n % (64 : Int)))) : Int) (2000 : Int)))))
                                      (↑(Int.toNat (if IntKind.wrap IntKind.i64 ((1 : Int) + if (64 : Int) < (1 : Int) then (0 : Int) else n % (64 : Int)) < (1 : Int) then (0 : Int) else first % IntKind.wrap IntKind.i64 ((1 : Int) + if (64 : Int) < (1 : Int) then (0 : Int) else n % (64 : Int)))) : Int) (1999 : Int)))]
                              (1 : Nat) (96 : Nat)
                              (fun j =>
                                [AV.bool
                                    (AL.B
                                      (bar
                                        (stA
                                          (renB (out [(0 : Nat)] (List.length ([] ++ [some (alB (fuW (Int.toNat (IntKind.wrap IntKind.i64 ((1 : Int) + if (64 : Int) < (1 : Int) then (0 : Int) else n % (64 : Int)))) (2000 : Int)))])))
                                            (alB
                                              (bar (stA (alB (fuW (Int.toNat (IntKind.wrap IntKind.i64 ((1 : Int) + if (64 : Int) < (1 : Int) then (0 : Int) else n % (64 : Int)))) (2000 : Int))))
                                                (↑(Int.toNat (if IntKind.wrap IntKind.i64 ((1 : Int) + if (64 : Int) < (1 : Int) then (0 : Int) else n % (64 : Int)) < (1 : Int) then (0 : Int) else first % IntKind.wrap IntKind.i64 ((1 : Int) + if (64 : Int) < (1 : Int) then (0 : Int) else n % (64 : Int)))) : Int) (2000 : Int)))))
                                        (↑(Int.toNat (if IntKind.wrap IntKind.i64 ((1 : Int) + if (64 : Int) < (1 : Int) then (0 : Int) else n % (64 : Int)) < (1 : Int) then (0 : Int) else first % IntKind.wrap IntKind.i64 ((1 : Int) + if (64 : Int) < (1 : Int) then (0 : Int) else n % (64 : Int)))) : Int) (1999 : Int))
                                      j)])
                              [AV.int IntKind.i64
                                  (AL.c
                                    (bar
                                      (stA
                                        (renB (out [(0 : Nat)] (List.length ([] ++ [some (alB (fuW (Int.toNat (IntKind.wrap IntKind.i64 ((1 : Int) + if (64 : Int) < (1 : Int) then (0 : Int) else n % (64 : Int)))) (2000 : Int)))])))
                                          (alB
                                            (bar (stA (alB (fuW (Int.toNat (IntKind.wrap IntKind.i64 ((1 : Int) + if (64 : Int) < (1 : Int) then (0 : Int) else n % (64 : Int)))) (2000 : Int))))
                                              (↑(Int.toNat (if IntKind.wrap IntKind.i64 ((1 : Int) + if (64 : Int) < (1 : Int) then (0 : Int) else n % (64 : Int)) < (1 : Int) then (0 : Int) else first % IntKind.wrap IntKind.i64 ((1 : Int) + if (64 : Int) < (1 : Int) then (0 : Int) else n % (64 : Int)))) : Int) (2000 : Int)))))
                                      (↑(Int.toNat (if IntKind.wrap IntKind.i64 ((1 : Int) + if (64 : Int) < (1 : Int) then (0 : Int) else n % (64 : Int)) < (1 : Int) then (0 : Int) else first % IntKind.wrap IntKind.i64 ((1 : Int) + if (64 : Int) < (1 : Int) then (0 : Int) else n % (64 : Int)))) : Int) (1999 : Int))),
                                AV.int IntKind.i64
                                  (AL.w
                                    (bar
                                      (stA
                                        (renB (out [(0 : Nat)] (List.length ([] ++ [some (alB (fuW (Int.toNat (IntKind.wrap IntKind.i64 ((1 : Int) + if (64 : Int) < (1 : Int) then (0 : Int) else n % (64 : Int)))) (2000 : Int)))])))
                                          (alB
                                            (bar (stA (alB (fuW (Int.toNat (IntKind.wrap IntKind.i64 ((1 : Int) + if (64 : Int) < (1 : Int) then (0 : Int) else n % (64 : Int)))) (2000 : Int))))
                                              (↑(Int.toNat (if IntKind.wrap IntKind.i64 ((1 : Int) + if (64 : Int) < (1 : Int) then (0 : Int) else n % (64 : Int)) < (1 : Int) then (0 : Int) else first % IntKind.wrap IntKind.i64 ((1 : Int) + if (64 : Int) < (1 : Int) then (0 : Int) else n % (64 : Int)))) : Int) (2000 : Int)))))
                                      (↑(Int.toNat (if IntKind.wrap IntKind.i64 ((1 : Int) + if (64 : Int) < (1 : Int) then (0 : Int) else n % (64 : Int)) < (1 : Int) then (0 : Int) else first % IntKind.wrap IntKind.i64 ((1 : Int) + if (64 : Int) < (1 : Int) then (0 : Int) else n % (64 : Int)))) : Int) (1999 : Int))),
                                AV.int IntKind.i64
                                  (AL.l
                                    (bar
                                      (stA
                                        (renB (out [(0 : Nat)] (List.length ([] ++ [some (alB (fuW (Int.toNat (IntKind.wrap IntKind.i64 ((1 : Int) + if (64 : Int) < (1 : Int) then (0 : Int) else n % (64 : Int)))) (2000 : Int)))])))
                                          (alB
                                            (bar (stA (alB (fuW (Int.toNat (IntKind.wrap IntKind.i64 ((1 : Int) + if (64 : Int) < (1 : Int) then (0 : Int) else n % (64 : Int)))) (2000 : Int))))
                                              (↑(Int.toNat (if IntKind.wrap IntKind.i64 ((1 : Int) + if (64 : Int) < (1 : Int) then (0 : Int) else n % (64 : Int)) < (1 : Int) then (0 : Int) else first % IntKind.wrap IntKind.i64 ((1 : Int) + if (64 : Int) < (1 : Int) then (0 : Int) else n % (64 : Int)))) : Int) (2000 : Int)))))
                                      (↑(Int.toNat (if IntKind.wrap IntKind.i64 ((1 : Int) + if (64 : Int) < (1 : Int) then (0 : Int) else n % (64 : Int)) < (1 : Int) then (0 : Int) else first % IntKind.wrap IntKind.i64 ((1 : Int) + if (64 : Int) < (1 : Int) then (0 : Int) else n % (64 : Int)))) : Int) (1999 : Int))),
                                AV.bool
                                  (AL.d
                                    (bar
                                      (stA
                                        (renB (out [(0 : Nat)] (List.length ([] ++ [some (alB (fuW (Int.toNat (IntKind.wrap IntKind.i64 ((1 : Int) + if (64 : Int) < (1 : Int) then (0 : Int) else n % (64 : Int)))) (2000 : Int)))])))
                                          (alB
                                            (bar (stA (alB (fuW (Int.toNat (IntKind.wrap IntKind.i64 ((1 : Int) + if (64 : Int) < (1 : Int) then (0 : Int) else n % (64 : Int)))) (2000 : Int))))
                                              (↑(Int.toNat (if IntKind.wrap IntKind.i64 ((1 : Int) + if (64 : Int) < (1 : Int) then (0 : Int) else n % (64 : Int)) < (1 : Int) then (0 : Int) else first % IntKind.wrap IntKind.i64 ((1 : Int) + if (64 : Int) < (1 : Int) then (0 : Int) else n % (64 : Int)))) : Int) (2000 : Int)))))
                                      (↑(Int.toNat (if IntKind.wrap IntKind.i64 ((1 : Int) + if (64 : Int) < (1 : Int) then (0 : Int) else n % (64 : Int)) < (1 : Int) then (0 : Int) else first % IntKind.wrap IntKind.i64 ((1 : Int) + if (64 : Int) < (1 : Int) then (0 : Int) else n % (64 : Int)))) : Int) (1999 : Int)))]))
                          (T.chk
                            (decide
                              (intA
                                  (List.getD
                                    (renL
                                      (out [(0 : Nat)]
                                        (List.length
                                          (putAll [(0 : Nat)] (List.length ([] ++ [some (alB (fuW (Int.toNat (IntKind.wrap IntKind.i64 ((1 : Int) + if (64 : Int) < (1 : Int) then (0 : Int) else n % (64 : Int)))) (2000 : Int)))])) [some (alB (stA (alB (fuW (Int.toNat (IntKind.wrap IntKind.i64 ((1 : Int) + if (64 : Int) < (1 : Int) then (0 : Int) else n % (64 : Int)))) (2000 : Int)))))]
                                              [some
                                                  (alB
                                                    (bar (stA (alB (fuW (Int.toNat (IntKind.wrap IntKind.i64 ((1 : Int) + if (64 : Int) < (1 : Int) then (0 : Int) else n % (64 : Int)))) (2000 : Int))))
                                                      (↑(Int.toNat (if IntKind.wrap IntKind.i64 ((1 : Int) + if (64 : Int) < (1 : Int) then (0 : Int) else n % (64 : Int)) < (1 : Int) then (0 : Int) else first % IntKind.wrap IntKind.i64 ((1 : Int) + if (64 : Int) < (1 : Int) then (0 : Int) else n % (64 : Int)))) : Int) (2000 : Int)))]
                                              [(0 : Nat)] (0 : Nat) ([] ++ [some (alB (fuW (Int.toNat (IntKind.wrap IntKind.i64 ((1 : Int) + if (64 : Int) < (1 : Int) then (0 : Int) else n % (64 : Int)))) (2000 : Int)))]) ++
                                            news [(0 : Nat)] (List.length ([] ++ [some (alB (fuW (Int.toNat (IntKind.wrap IntKind.i64 ((1 : Int) + if (64 : Int) < (1 : Int) then (0 : Int) else n % (64 : Int)))) (2000 : Int)))]))
                                              (List.drop (1 : Nat)
                                                [some
                                                    (alB
                                                      (bar (stA (alB (fuW (Int.toNat (IntKind.wrap IntKind.i64 ((1 : Int) + if (64 : Int) < (1 : Int) then (0 : Int) else n % (64 : Int)))) (2000 : Int))))
                                                        (↑(Int.toNat (if IntKind.wrap IntKind.i64 ((1 : Int) + if (64 : Int) < (1 : Int) then (0 : Int) else n % (64 : Int)) < (1 : Int) then (0 : Int) else first % IntKind.wrap IntKind.i64 ((1 : Int) + if (64 : Int) < (1 : Int) then (0 : Int) else n % (64 : Int)))) : Int) (2000 : Int)))]))))
                                      [AV.int IntKind.i64
                                          (AL.n
                                            (bar
                                              (stA
                                                (renB (out [(0 : Nat)] (List.length ([] ++ [some (alB (fuW (Int.toNat (IntKind.wrap IntKind.i64 ((1 : Int) + if (64 : Int) < (1 : Int) then (0 : Int) else n % (64 : Int)))) (2000 : Int)))])))
                                                  (alB
                                                    (bar (stA (alB (fuW (Int.toNat (IntKind.wrap IntKind.i64 ((1 : Int) + if (64 : Int) < (1 : Int) then (0 : Int) else n % (64 : Int)))) (2000 : Int))))
                                                      (↑(Int.toNat (if IntKind.wrap IntKind.i64 ((1 : Int) + if (64 : Int) < (1 : Int) then (0 : Int) else n % (64 : Int)) < (1 : Int) then (0 : Int) else first % IntKind.wrap IntKind.i64 ((1 : Int) + if (64 : Int) < (1 : Int) then (0 : Int) else n % (64 : Int)))) : Int) (2000 : Int)))))
                                              (↑(Int.toNat (if IntKind.wrap IntKind.i64 ((1 : Int) + if (64 : Int) < (1 : Int) then (0 : Int) else n % (64 : Int)) < (1 : Int) then (0 : Int) else first % IntKind.wrap IntKind.i64 ((1 : Int) + if (64 : Int) < (1 : Int) then (0 : Int) else n % (64 : Int)))) : Int) (1999 : Int)))])
                                    (0 : Nat) AV.ff) ≤
                                (96 : Int)))
                            (T.ite
                              (!blkA
                                  (stA
                                    (renB
                                      (out [(0 : Nat)]
                                        (List.length
                                          (putAll [(0 : Nat)] (List.length ([] ++ [some (alB (fuW (Int.toNat (IntKind.wrap IntKind.i64 ((1 : Int) + if (64 : Int) < (1 : Int) then (0 : Int) else n % (64 : Int)))) (2000 : Int)))])) [some (alB (stA (alB (fuW (Int.toNat (IntKind.wrap IntKind.i64 ((1 : Int) + if (64 : Int) < (1 : Int) then (0 : Int) else n % (64 : Int)))) (2000 : Int)))))]
                                              [some
                                                  (alB
                                                    (bar (stA (alB (fuW (Int.toNat (IntKind.wrap IntKind.i64 ((1 : Int) + if (64 : Int) < (1 : Int) then (0 : Int) else n % (64 : Int)))) (2000 : Int))))
                                                      (↑(Int.toNat (if IntKind.wrap IntKind.i64 ((1 : Int) + if (64 : Int) < (1 : Int) then (0 : Int) else n % (64 : Int)) < (1 : Int) then (0 : Int) else first % IntKind.wrap IntKind.i64 ((1 : Int) + if (64 : Int) < (1 : Int) then (0 : Int) else n % (64 : Int)))) : Int) (2000 : Int)))]
                                              [(0 : Nat)] (0 : Nat) ([] ++ [some (alB (fuW (Int.toNat (IntKind.wrap IntKind.i64 ((1 : Int) + if (64 : Int) < (1 : Int) then (0 : Int) else n % (64 : Int)))) (2000 : Int)))]) ++
                                            news [(0 : Nat)] (List.length ([] ++ [some (alB (fuW (Int.toNat (IntKind.wrap IntKind.i64 ((1 : Int) + if (64 : Int) < (1 : Int) then (0 : Int) else n % (64 : Int)))) (2000 : Int)))]))
                                              (List.drop (1 : Nat)
                                                [some
                                                    (alB
                                                      (bar (stA (alB (fuW (Int.toNat (IntKind.wrap IntKind.i64 ((1 : Int) + if (64 : Int) < (1 : Int) then (0 : Int) else n % (64 : Int)))) (2000 : Int))))
                                                        (↑(Int.toNat (if IntKind.wrap IntKind.i64 ((1 : Int) + if (64 : Int) < (1 : Int) then (0 : Int) else n % (64 : Int)) < (1 : Int) then (0 : Int) else first % IntKind.wrap IntKind.i64 ((1 : Int) + if (64 : Int) < (1 : Int) then (0 : Int) else n % (64 : Int)))) : Int) (2000 : Int)))]))))
                                      (alB
                                        (bar
                                          (stA
                                            (renB (out [(0 : Nat)] (List.length ([] ++ [some (alB (fuW (Int.toNat (IntKind.wrap IntKind.i64 ((1 : Int) + if (64 : Int) < (1 : Int) then (0 : Int) else n % (64 : Int)))) (2000 : Int)))])))
                                              (alB
                                                (bar (stA (alB (fuW (Int.toNat (IntKind.wrap IntKind.i64 ((1 : Int) + if (64 : Int) < (1 : Int) then (0 : Int) else n % (64 : Int)))) (2000 : Int))))
                                                  (↑(Int.toNat (if IntKind.wrap IntKind.i64 ((1 : Int) + if (64 : Int) < (1 : Int) then (0 : Int) else n % (64 : Int)) < (1 : Int) then (0 : Int) else first % IntKind.wrap IntKind.i64 ((1 : Int) + if (64 : Int) < (1 : Int) then (0 : Int) else n % (64 : Int)))) : Int) (2000 : Int)))))
                                          (↑(Int.toNat (if IntKind.wrap IntKind.i64 ((1 : Int) + if (64 : Int) < (1 : Int) then (0 : Int) else n % (64 : Int)) < (1 : Int) then (0 : Int) else first % IntKind.wrap IntKind.i64 ((1 : Int) + if (64 : Int) < (1 : Int) then (0 : Int) else n % (64 : Int)))) : Int) (1999 : Int)))))
                                  (↑(Int.toNat (if IntKind.wrap IntKind.i64 ((1 : Int) + if (64 : Int) < (1 : Int) then (0 : Int) else n % (64 : Int)) < (1 : Int) then (0 : Int) else first % IntKind.wrap IntKind.i64 ((1 : Int) + if (64 : Int) < (1 : Int) then (0 : Int) else n % (64 : Int)))) : Int))
                              (T.ret
                                (AV.bool true,
                                  [some
                                      (Blk.mk true
                                        [AV.int IntKind.i64
                                            (AL.n
                                              (bar
                                                (stA
                                                  (renB (out [(0 : Nat)] (List.length ([] ++ [some (alB (fuW (Int.toNat (IntKind.wrap IntKind.i64 ((1 : Int) + if (64 : Int) < (1 : Int) then (0 : Int) else n % (64 : Int)))) (2000 : Int)))])))
                                                    (alB
                                                      (bar (stA (alB (fuW (Int.toNat (IntKind.wrap IntKind.i64 ((1 : Int) + if (64 : Int) < (1 : Int) then (0 : Int) else n % (64 : Int)))) (2000 : Int))))
                                                        (↑(Int.toNat (if IntKind.wrap IntKind.i64 ((1 : Int) + if (64 : Int) < (1 : Int) then (0 : Int) else n % (64 : Int)) < (1 : Int) then (0 : Int) else first % IntKind.wrap IntKind.i64 ((1 : Int) + if (64 : Int) < (1 : Int) then (0 : Int) else n % (64 : Int)))) : Int) (2000 : Int)))))
                                                (↑(Int.toNat (if IntKind.wrap IntKind.i64 ((1 : Int) + if (64 : Int) < (1 : Int) then (0 : Int) else n % (64 : Int)) < (1 : Int) then (0 : Int) else first % IntKind.wrap IntKind.i64 ((1 : Int) + if (64 : Int) < (1 : Int) then (0 : Int) else n % (64 : Int)))) : Int) (1999 : Int)))]
                                        (1 : Nat) (96 : Nat)
                                        (fun j =>
                                          [AV.bool
                                              (AL.B
                                                (bar
                                                  (stA
                                                    (renB (out [(0 : Nat)] (List.length ([] ++ [some (alB (fuW (Int.toNat (IntKind.wrap IntKind.i64 ((1 : Int) + if (64 : Int) < (1 : Int) then (0 : Int) else n % (64 : Int)))) (2000 : Int)))])))
                                                      (alB
                                                        (bar (stA (alB (fuW (Int.toNat (IntKind.wrap IntKind.i64 ((1 : Int) + if (64 : Int) < (1 : Int) then (0 : Int) else n % (64 : Int)))) (2000 : Int))))
                                                          (↑(Int.toNat (if IntKind.wrap IntKind.i64 ((1 : Int) + if (64 : Int) < (1 : Int) then (0 : Int) else n % (64 : Int)) < (1 : Int) then (0 : Int) else first % IntKind.wrap IntKind.i64 ((1 : Int) + if (64 : Int) < (1 : Int) then (0 : Int) else n % (64 : Int)))) : Int) (2000 : Int)))))
                                                  (↑(Int.toNat (if IntKind.wrap IntKind.i64 ((1 : Int) + if (64 : Int) < (1 : Int) then (0 : Int) else n % (64 : Int)) < (1 : Int) then (0 : Int) else first % IntKind.wrap IntKind.i64 ((1 : Int) + if (64 : Int) < (1 : Int) then (0 : Int) else n % (64 : Int)))) : Int) (1999 : Int))
                                                j)])
                                        [AV.int IntKind.i64
                                            (AL.c
                                              (bar
                                                (stA
                                                  (renB (out [(0 : Nat)] (List.length ([] ++ [some (alB (fuW (Int.toNat (IntKind.wrap IntKind.i64 ((1 : Int) + if (64 : Int) < (1 : Int) then (0 : Int) else n % (64 : Int)))) (2000 : Int)))])))
                                                    (alB
                                                      (bar (stA (alB (fuW (Int.toNat (IntKind.wrap IntKind.i64 ((1 : Int) + if (64 : Int) < (1 : Int) then (0 : Int) else n % (64 : Int)))) (2000 : Int))))
                                                        (↑(Int.toNat (if IntKind.wrap IntKind.i64 ((1 : Int) + if (64 : Int) < (1 : Int) then (0 : Int) else n % (64 : Int)) < (1 : Int) then (0 : Int) else first % IntKind.wrap IntKind.i64 ((1 : Int) + if (64 : Int) < (1 : Int) then (0 : Int) else n % (64 : Int)))) : Int) (2000 : Int)))))
                                                (↑(Int.toNat (if IntKind.wrap IntKind.i64 ((1 : Int) + if (64 : Int) < (1 : Int) then (0 : Int) else n % (64 : Int)) < (1 : Int) then (0 : Int) else first % IntKind.wrap IntKind.i64 ((1 : Int) + if (64 : Int) < (1 : Int) then (0 : Int) else n % (64 : Int)))) : Int) (1999 : Int))),
                                          AV.int IntKind.i64
                                            (AL.w
                                              (bar
                                                (stA
                                                  (renB (out [(0 : Nat)] (List.length ([] ++ [some (alB (fuW (Int.toNat (IntKind.wrap IntKind.i64 ((1 : Int) + if (64 : Int) < (1 : Int) then (0 : Int) else n % (64 : Int)))) (2000 : Int)))])))
                                                    (alB
                                                      (bar (stA (alB (fuW (Int.toNat (IntKind.wrap IntKind.i64 ((1 : Int) + if (64 : Int) < (1 : Int) then (0 : Int) else n % (64 : Int)))) (2000 : Int))))
                                                        (↑(Int.toNat (if IntKind.wrap IntKind.i64 ((1 : Int) + if (64 : Int) < (1 : Int) then (0 : Int) else n % (64 : Int)) < (1 : Int) then (0 : Int) else first % IntKind.wrap IntKind.i64 ((1 : Int) + if (64 : Int) < (1 : Int) then (0 : Int) else n % (64 : Int)))) : Int) (2000 : Int)))))
                                                (↑(Int.toNat (if IntKind.wrap IntKind.i64 ((1 : Int) + if (64 : Int) < (1 : Int) then (0 : Int) else n % (64 : Int)) < (1 : Int) then (0 : Int) else first % IntKind.wrap IntKind.i64 ((1 : Int) + if (64 : Int) < (1 : Int) then (0 : Int) else n % (64 : Int)))) : Int) (1999 : Int))),
                                          AV.int IntKind.i64
                                            (AL.l
                                              (bar
                                                (stA
                                                  (renB (out [(0 : Nat)] (List.length ([] ++ [some (alB (fuW (Int.toNat (IntKind.wrap IntKind.i64 ((1 : Int) + if (64 : Int) < (1 : Int) then (0 : Int) else n % (64 : Int)))) (2000 : Int)))])))
                                                    (alB
                                                      (bar (stA (alB (fuW (Int.toNat (IntKind.wrap IntKind.i64 ((1 : Int) + if (64 : Int) < (1 : Int) then (0 : Int) else n % (64 : Int)))) (2000 : Int))))
                                                        (↑(Int.toNat (if IntKind.wrap IntKind.i64 ((1 : Int) + if (64 : Int) < (1 : Int) then (0 : Int) else n % (64 : Int)) < (1 : Int) then (0 : Int) else first % IntKind.wrap IntKind.i64 ((1 : Int) + if (64 : Int) < (1 : Int) then (0 : Int) else n % (64 : Int)))) : Int) (2000 : Int)))))
                                                (↑(Int.toNat (if IntKind.wrap IntKind.i64 ((1 : Int) + if (64 : Int) < (1 : Int) then (0 : Int) else n % (64 : Int)) < (1 : Int) then (0 : Int) else first % IntKind.wrap IntKind.i64 ((1 : Int) + if (64 : Int) < (1 : Int) then (0 : Int) else n % (64 : Int)))) : Int) (1999 : Int))),
                                          AV.bool
                                            (AL.d
                                              (bar
                                                (stA
                                                  (renB (out [(0 : Nat)] (List.length ([] ++ [some (alB (fuW (Int.toNat (IntKind.wrap IntKind.i64 ((1 : Int) + if (64 : Int) < (1 : Int) then (0 : Int) else n % (64 : Int)))) (2000 : Int)))])))
                                                    (alB
                                                      (bar (stA (alB (fuW (Int.toNat (IntKind.wrap IntKind.i64 ((1 : Int) + if (64 : Int) < (1 : Int) then (0 : Int) else n % (64 : Int)))) (2000 : Int))))
                                                        (↑(Int.toNat (if IntKind.wrap IntKind.i64 ((1 : Int) + if (64 : Int) < (1 : Int) then (0 : Int) else n % (64 : Int)) < (1 : Int) then (0 : Int) else first % IntKind.wrap IntKind.i64 ((1 : Int) + if (64 : Int) < (1 : Int) then (0 : Int) else n % (64 : Int)))) : Int) (2000 : Int)))))
                                                (↑(Int.toNat (if IntKind.wrap IntKind.i64 ((1 : Int) + if (64 : Int) < (1 : Int) then (0 : Int) else n % (64 : Int)) < (1 : Int) then (0 : Int) else first % IntKind.wrap IntKind.i64 ((1 : Int) + if (64 : Int) < (1 : Int) then (0 : Int) else n % (64 : Int)))) : Int) (1999 : Int)))])]))
                              (T.ret
                                (AV.ff,
                                  [some
                                      (Blk.mk true
                                        [AV.int IntKind.i64
                                            (AL.n
                                              (bar
                                                (stA
                                                  (renB (out [(0 : Nat)] (List.length ([] ++ [some (alB (fuW (Int.toNat (IntKind.wrap IntKind.i64 ((1 : Int) + if (64 : Int) < (1 : Int) then (0 : Int) else n % (64 : Int)))) (2000 : Int)))])))
                                                    (alB
                                                      (bar (stA (alB (fuW (Int.toNat (IntKind.wrap IntKind.i64 ((1 : Int) + if (64 : Int) < (1 : Int) then (0 : Int) else n % (64 : Int)))) (2000 : Int))))
                                                        (↑(Int.toNat (if IntKind.wrap IntKind.i64 ((1 : Int) + if (64 : Int) < (1 : Int) then (0 : Int) else n % (64 : Int)) < (1 : Int) then (0 : Int) else first % IntKind.wrap IntKind.i64 ((1 : Int) + if (64 : Int) < (1 : Int) then (0 : Int) else n % (64 : Int)))) : Int) (2000 : Int)))))
                                                (↑(Int.toNat (if IntKind.wrap IntKind.i64 ((1 : Int) + if (64 : Int) < (1 : Int) then (0 : Int) else n % (64 : Int)) < (1 : Int) then (0 : Int) else first % IntKind.wrap IntKind.i64 ((1 : Int) + if (64 : Int) < (1 : Int) then (0 : Int) else n % (64 : Int)))) : Int) (1999 : Int)))]
                                        (1 : Nat) (96 : Nat)
                                        (fun j =>
                                          [AV.bool
                                              (AL.B
                                                (bar
                                                  (stA
                                                    (renB (out [(0 : Nat)] (List.length ([] ++ [some (alB (fuW (Int.toNat (IntKind.wrap IntKind.i64 ((1 : Int) + if (64 : Int) < (1 : Int) then (0 : Int) else n % (64 : Int)))) (2000 : Int)))])))
                                                      (alB
                                                        (bar (stA (alB (fuW (Int.toNat (IntKind.wrap IntKind.i64 ((1 : Int) + if (64 : Int) < (1 : Int) then (0 : Int) else n % (64 : Int)))) (2000 : Int))))
                                                          (↑(Int.toNat (if IntKind.wrap IntKind.i64 ((1 : Int) + if (64 : Int) < (1 : Int) then (0 : Int) else n % (64 : Int)) < (1 : Int) then (0 : Int) else first % IntKind.wrap IntKind.i64 ((1 : Int) + if (64 : Int) < (1 : Int) then (0 : Int) else n % (64 : Int)))) : Int) (2000 : Int)))))
                                                  (↑(Int.toNat (if IntKind.wrap IntKind.i64 ((1 : Int) + if (64 : Int) < (1 : Int) then (0 : Int) else n % (64 : Int)) < (1 : Int) then (0 : Int) else first % IntKind.wrap IntKind.i64 ((1 : Int) + if (64 : Int) < (1 : Int) then (0 : Int) else n % (64 : Int)))) : Int) (1999 : Int))
                                                j)])
                                        [AV.int IntKind.i64
                                            (AL.c
                                              (bar
                                                (stA
                                                  (renB (out [(0 : Nat)] (List.length ([] ++ [some (alB (fuW (Int.toNat (IntKind.wrap IntKind.i64 ((1 : Int) + if (64 : Int) < (1 : Int) then (0 : Int) else n % (64 : Int)))) (2000 : Int)))])))
                                                    (alB
                                                      (bar (stA (alB (fuW (Int.toNat (IntKind.wrap IntKind.i64 ((1 : Int) + if (64 : Int) < (1 : Int) then (0 : Int) else n % (64 : Int)))) (2000 : Int))))
                                                        (↑(Int.toNat (if IntKind.wrap IntKind.i64 ((1 : Int) + if (64 : Int) < (1 : Int) then (0 : Int) else n % (64 : Int)) < (1 : Int) then (0 : Int) else first % IntKind.wrap IntKind.i64 ((1 : Int) + if (64 : Int) < (1 : Int) then (0 : Int) else n % (64 : Int)))) : Int) (2000 : Int)))))
                                                (↑(Int.toNat (if IntKind.wrap IntKind.i64 ((1 : Int) + if (64 : Int) < (1 : Int) then (0 : Int) else n % (64 : Int)) < (1 : Int) then (0 : Int) else first % IntKind.wrap IntKind.i64 ((1 : Int) + if (64 : Int) < (1 : Int) then (0 : Int) else n % (64 : Int)))) : Int) (1999 : Int))),
                                          AV.int IntKind.i64
                                            (AL.w
                                              (bar
                                                (stA
                                                  (renB (out [(0 : Nat)] (List.length ([] ++ [some (alB (fuW (Int.toNat (IntKind.wrap IntKind.i64 ((1 : Int) + if (64 : Int) < (1 : Int) then (0 : Int) else n % (64 : Int)))) (2000 : Int)))])))
                                                    (alB
                                                      (bar (stA (alB (fuW (Int.toNat (IntKind.wrap IntKind.i64 ((1 : Int) + if (64 : Int) < (1 : Int) then (0 : Int) else n % (64 : Int)))) (2000 : Int))))
                                                        (↑(Int.toNat (if IntKind.wrap IntKind.i64 ((1 : Int) + if (64 : Int) < (1 : Int) then (0 : Int) else n % (64 : Int)) < (1 : Int) then (0 : Int) else first % IntKind.wrap IntKind.i64 ((1 : Int) + if (64 : Int) < (1 : Int) then (0 : Int) else n % (64 : Int)))) : Int) (2000 : Int)))))
                                                (↑(Int.toNat (if IntKind.wrap IntKind.i64 ((1 : Int) + if (64 : Int) < (1 : Int) then (0 : Int) else n % (64 : Int)) < (1 : Int) then (0 : Int) else first % IntKind.wrap IntKind.i64 ((1 : Int) + if (64 : Int) < (1 : Int) then (0 : Int) else n % (64 : Int)))) : Int) (1999 : Int))),
                                          AV.int IntKind.i64
                                            (AL.l
                                              (bar
                                                (stA
                                                  (renB (out [(0 : Nat)] (List.length ([] ++ [some (alB (fuW (Int.toNat (IntKind.wrap IntKind.i64 ((1 : Int) + if (64 : Int) < (1 : Int) then (0 : Int) else n % (64 : Int)))) (2000 : Int)))])))
                                                    (alB
                                                      (bar (stA (alB (fuW (Int.toNat (IntKind.wrap IntKind.i64 ((1 : Int) + if (64 : Int) < (1 : Int) then (0 : Int) else n % (64 : Int)))) (2000 : Int))))
                                                        (↑(Int.toNat (if IntKind.wrap IntKind.i64 ((1 : Int) + if (64 : Int) < (1 : Int) then (0 : Int) else n % (64 : Int)) < (1 : Int) then (0 : Int) else first % IntKind.wrap IntKind.i64 ((1 : Int) + if (64 : Int) < (1 : Int) then (0 : Int) else n % (64 : Int)))) : Int) (2000 : Int)))))
                                                (↑(Int.toNat (if IntKind.wrap IntKind.i64 ((1 : Int) + if (64 : Int) < (1 : Int) then (0 : Int) else n % (64 : Int)) < (1 : Int) then (0 : Int) else first % IntKind.wrap IntKind.i64 ((1 : Int) + if (64 : Int) < (1 : Int) then (0 : Int) else n % (64 : Int)))) : Int) (1999 : Int))),
                                          AV.bool
                                            (AL.d
                                              (bar
                                                (stA
                                                  (renB (out [(0 : Nat)] (List.length ([] ++ [some (alB (fuW (Int.toNat (IntKind.wrap IntKind.i64 ((1 : Int) + if (64 : Int) < (1 : Int) then (0 : Int) else n % (64 : Int)))) (2000 : Int)))])))
                                                    (alB
                                                      (bar (stA (alB (fuW (Int.toNat (IntKind.wrap IntKind.i64 ((1 : Int) + if (64 : Int) < (1 : Int) then (0 : Int) else n % (64 : Int)))) (2000 : Int))))
                                                        (↑(Int.toNat (if IntKind.wrap IntKind.i64 ((1 : Int) + if (64 : Int) < (1 : Int) then (0 : Int) else n % (64 : Int)) < (1 : Int) then (0 : Int) else first % IntKind.wrap IntKind.i64 ((1 : Int) + if (64 : Int) < (1 : Int) then (0 : Int) else n % (64 : Int)))) : Int) (2000 : Int)))))
                                                (↑(Int.toNat (if IntKind.wrap IntKind.i64 ((1 : Int) + if (64 : Int) < (1 : Int) then (0 : Int) else n % (64 : Int)) < (1 : Int) then (0 : Int) else first % IntKind.wrap IntKind.i64 ((1 : Int) + if (64 : Int) < (1 : Int) then (0 : Int) else n % (64 : Int)))) : Int) (1999 : Int)))])])))))
                        (T.ret
                          (AV.ff,
                            [some
                                (Blk.mk true
                                  [AV.int IntKind.i64
                                      (AL.n
                                        (bar
                                          (stA
                                            (renB (out [(0 : Nat)] (List.length ([] ++ [some (alB (fuW (Int.toNat (IntKind.wrap IntKind.i64 ((1 : Int) + if (64 : Int) < (1 : Int) then (0 : Int) else n % (64 : Int)))) (2000 : Int)))])))
                                              (alB
                                                (bar (stA (alB (fuW (Int.toNat (IntKind.wrap IntKind.i64 ((1 : Int) + if (64 : Int) < (1 : Int) then (0 : Int) else n % (64 : Int)))) (2000 : Int))))
                                                  (↑(Int.toNat (if IntKind.wrap IntKind.i64 ((1 : Int) + if (64 : Int) < (1 : Int) then (0 : Int) else n % (64 : Int)) < (1 : Int) then (0 : Int) else first % IntKind.wrap IntKind.i64 ((1 : Int) + if (64 : Int) < (1 : Int) then (0 : Int) else n % (64 : Int)))) : Int) (2000 : Int)))))
                                          (↑(Int.toNat (if IntKind.wrap IntKind.i64 ((1 : Int) + if (64 : Int) < (1 : Int) then (0 : Int) else n % (64 : Int)) < (1 : Int) then (0 : Int) else first % IntKind.wrap IntKind.i64 ((1 : Int) + if (64 : Int) < (1 : Int) then (0 : Int) else n % (64 : Int)))) : Int) (1999 : Int)))]
                                  (1 : Nat) (96 : Nat)
                                  (fun j =>
                                    [AV.bool
                                        (AL.B
                                          (bar
                                            (stA
                                              (renB (out [(0 : Nat)] (List.length ([] ++ [some (alB (fuW (Int.toNat (IntKind.wrap IntKind.i64 ((1 : Int) + if (64 : Int) < (1 : Int) then (0 : Int) else n % (64 : Int)))) (2000 : Int)))])))
                                                (alB
                                                  (bar (stA (alB (fuW (Int.toNat (IntKind.wrap IntKind.i64 ((1 : Int) + if (64 : Int) < (1 : Int) then (0 : Int) else n % (64 : Int)))) (2000 : Int))))
                                                    (↑(Int.toNat (if IntKind.wrap IntKind.i64 ((1 : Int) + if (64 : Int) < (1 : Int) then (0 : Int) else n % (64 : Int)) < (1 : Int) then (0 : Int) else first % IntKind.wrap IntKind.i64 ((1 : Int) + if (64 : Int) < (1 : Int) then (0 : Int) else n % (64 : Int)))) : Int) (2000 : Int)))))
                                            (↑(Int.toNat (if IntKind.wrap IntKind.i64 ((1 : Int) + if (64 : Int) < (1 : Int) then (0 : Int) else n % (64 : Int)) < (1 : Int) then (0 : Int) else first % IntKind.wrap IntKind.i64 ((1 : Int) + if (64 : Int) < (1 : Int) then (0 : Int) else n % (64 : Int)))) : Int) (1999 : Int))
                                          j)])
                                  [AV.int IntKind.i64
                                      (AL.c
                                        (bar
                                          (stA
                                            (renB (out [(0 : Nat)] (List.length ([] ++ [some (alB (fuW (Int.toNat (IntKind.wrap IntKind.i64 ((1 : Int) + if (64 : Int) < (1 : Int) then (0 : Int) else n % (64 : Int)))) (2000 : Int)))])))
                                              (alB
                                                (bar (stA (alB (fuW (Int.toNat (IntKind.wrap IntKind.i64 ((1 : Int) + if (64 : Int) < (1 : Int) then (0 : Int) else n % (64 : Int)))) (2000 : Int))))
                                                  (↑(Int.toNat (if IntKind.wrap IntKind.i64 ((1 : Int) + if (64 : Int) < (1 : Int) then (0 : Int) else n % (64 : Int)) < (1 : Int) then (0 : Int) else first % IntKind.wrap IntKind.i64 ((1 : Int) + if (64 : Int) < (1 : Int) then (0 : Int) else n % (64 : Int)))) : Int) (2000 : Int)))))
                                          (↑(Int.toNat (if IntKind.wrap IntKind.i64 ((1 : Int) + if (64 : Int) < (1 : Int) then (0 : Int) else n % (64 : Int)) < (1 : Int) then (0 : Int) else first % IntKind.wrap IntKind.i64 ((1 : Int) + if (64 : Int) < (1 : Int) then (0 : Int) else n % (64 : Int)))) : Int) (1999 : Int))),
                                    AV.int IntKind.i64
                                      (AL.w
                                        (bar
                                          (stA
                                            (renB (out [(0 : Nat)] (List.length ([] ++ [some (alB (fuW (Int.toNat (IntKind.wrap IntKind.i64 ((1 : Int) + if (64 : Int) < (1 : Int) then (0 : Int) else n % (64 : Int)))) (2000 : Int)))])))
                                              (alB
                                                (bar (stA (alB (fuW (Int.toNat (IntKind.wrap IntKind.i64 ((1 : Int) + if (64 : Int) < (1 : Int) then (0 : Int) else n % (64 : Int)))) (2000 : Int))))
                                                  (↑(Int.toNat (if IntKind.wrap IntKind.i64 ((1 : Int) + if (64 : Int) < (1 : Int) then (0 : Int) else n % (64 : Int)) < (1 : Int) then (0 : Int) else first % IntKind.wrap IntKind.i64 ((1 : Int) + if (64 : Int) < (1 : Int) then (0 : Int) else n % (64 : Int)))) : Int) (2000 : Int)))))
                                          (↑(Int.toNat (if IntKind.wrap IntKind.i64 ((1 : Int) + if (64 : Int) < (1 : Int) then (0 : Int) else n % (64 : Int)) < (1 : Int) then (0 : Int) else first % IntKind.wrap IntKind.i64 ((1 : Int) + if (64 : Int) < (1 : Int) then (0 : Int) else n % (64 : Int)))) : Int) (1999 : Int))),
                                    AV.int IntKind.i64
                                      (AL.l
                                        (bar
                                          (stA
                                            (renB (out [(0 : Nat)] (List.length ([] ++ [some (alB (fuW (Int.toNat (IntKind.wrap IntKind.i64 ((1 : Int) + if (64 : Int) < (1 : Int) then (0 : Int) else n % (64 : Int)))) (2000 : Int)))])))
                                              (alB
                                                (bar (stA (alB (fuW (Int.toNat (IntKind.wrap IntKind.i64 ((1 : Int) + if (64 : Int) < (1 : Int) then (0 : Int) else n % (64 : Int)))) (2000 : Int))))
                                                  (↑(Int.toNat (if IntKind.wrap IntKind.i64 ((1 : Int) + if (64 : Int) < (1 : Int) then (0 : Int) else n % (64 : Int)) < (1 : Int) then (0 : Int) else first % IntKind.wrap IntKind.i64 ((1 : Int) + if (64 : Int) < (1 : Int) then (0 : Int) else n % (64 : Int)))) : Int) (2000 : Int)))))
                                          (↑(Int.toNat (if IntKind.wrap IntKind.i64 ((1 : Int) + if (64 : Int) < (1 : Int) then (0 : Int) else n % (64 : Int)) < (1 : Int) then (0 : Int) else first % IntKind.wrap IntKind.i64 ((1 : Int) + if (64 : Int) < (1 : Int) then (0 : Int) else n % (64 : Int)))) : Int) (1999 : Int))),
                                    AV.bool
                                      (AL.d
                                        (bar
                                          (stA
                                            (renB (out [(0 : Nat)] (List.length ([] ++ [some (alB (fuW (Int.toNat (IntKind.wrap IntKind.i64 ((1 : Int) + if (64 : Int) < (1 : Int) then (0 : Int) else n % (64 : Int)))) (2000 : Int)))])))
                                              (alB
                                                (bar (stA (alB (fuW (Int.toNat (IntKind.wrap IntKind.i64 ((1 : Int) + if (64 : Int) < (1 : Int) then (0 : Int) else n % (64 : Int)))) (2000 : Int))))
                                                  (↑(Int.toNat (if IntKind.wrap IntKind.i64 ((1 : Int) + if (64 : Int) < (1 : Int) then (0 : Int) else n % (64 : Int)) < (1 : Int) then (0 : Int) else first % IntKind.wrap IntKind.i64 ((1 : Int) + if (64 : Int) < (1 : Int) then (0 : Int) else n % (64 : Int)))) : Int) (2000 : Int)))))
                                          (↑(Int.toNat (if IntKind.wrap IntKind.i64 ((1 : Int) + if (64 : Int) < (1 : Int) then (0 : Int) else n % (64 : Int)) < (1 : Int) then (0 : Int) else first % IntKind.wrap IntKind.i64 ((1 : Int) + if (64 : Int) < (1 : Int) then (0 : Int) else n % (64 : Int)))) : Int) (1999 : Int)))])])))))
                  (T.ret
                    (AV.ff,
                      [some
                          (Blk.mk true
                            [AV.int IntKind.i64
                                (AL.n
                                  (bar (stA (alB (fuW (Int.toNat (IntKind.wrap IntKind.i64 ((1 : Int) + if (64 : Int) < (1 : Int) then (0 : Int) else n % (64 : Int)))) (2000 : Int))))
                                    (↑(Int.toNat (if IntKind.wrap IntKind.i64 ((1 : Int) + if (64 : Int) < (1 : Int) then (0 : Int) else n % (64 : Int)) < (1 : Int) then (0 : Int) else first % IntKind.wrap IntKind.i64 ((1 : Int) + if (64 : Int) < (1 : Int) then (0 : Int) else n % (64 : Int)))) : Int) (2000 : Int)))]
                            (1 : Nat) (96 : Nat)
                            (fun j =>
                              [AV.bool
                                  (AL.B
                                    (bar (stA (alB (fuW (Int.toNat (IntKind.wrap IntKind.i64 ((1 : Int) + if (64 : Int) < (1 : Int) then (0 : Int) else n % (64 : Int)))) (2000 : Int))))
                                      (↑(Int.toNat (if IntKind.wrap IntKind.i64 ((1 : Int) + if (64 : Int) < (1 : Int) then (0 : Int) else n % (64 : Int)) < (1 : Int) then (0 : Int) else first % IntKind.wrap IntKind.i64 ((1 : Int) + if (64 : Int) < (1 : Int) then (0 : Int) else n % (64 : Int)))) : Int) (2000 : Int))
                                    j)])
                            [AV.int IntKind.i64
                                (AL.c
                                  (bar (stA (alB (fuW (Int.toNat (IntKind.wrap IntKind.i64 ((1 : Int) + if (64 : Int) < (1 : Int) then (0 : Int) else n % (64 : Int)))) (2000 : Int))))
                                    (↑(Int.toNat (if IntKind.wrap IntKind.i64 ((1 : Int) + if (64 : Int) < (1 : Int) then (0 : Int) else n % (64 : Int)) < (1 : Int) then (0 : Int) else first % IntKind.wrap IntKind.i64 ((1 : Int) + if (64 : Int) < (1 : Int) then (0 : Int) else n % (64 : Int)))) : Int) (2000 : Int))),
                              AV.int IntKind.i64
                                (AL.w
                                  (bar (stA (alB (fuW (Int.toNat (IntKind.wrap IntKind.i64 ((1 : Int) + if (64 : Int) < (1 : Int) then (0 : Int) else n % (64 : Int)))) (2000 : Int))))
                                    (↑(Int.toNat (if IntKind.wrap IntKind.i64 ((1 : Int) + if (64 : Int) < (1 : Int) then (0 : Int) else n % (64 : Int)) < (1 : Int) then (0 : Int) else first % IntKind.wrap IntKind.i64 ((1 : Int) + if (64 : Int) < (1 : Int) then (0 : Int) else n % (64 : Int)))) : Int) (2000 : Int))),
                              AV.int IntKind.i64
                                (AL.l
                                  (bar (stA (alB (fuW (Int.toNat (IntKind.wrap IntKind.i64 ((1 : Int) + if (64 : Int) < (1 : Int) then (0 : Int) else n % (64 : Int)))) (2000 : Int))))
                                    (↑(Int.toNat (if IntKind.wrap IntKind.i64 ((1 : Int) + if (64 : Int) < (1 : Int) then (0 : Int) else n % (64 : Int)) < (1 : Int) then (0 : Int) else first % IntKind.wrap IntKind.i64 ((1 : Int) + if (64 : Int) < (1 : Int) then (0 : Int) else n % (64 : Int)))) : Int) (2000 : Int))),
                              AV.bool
                                (AL.d
                                  (bar (stA (alB (fuW (Int.toNat (IntKind.wrap IntKind.i64 ((1 : Int) + if (64 : Int) < (1 : Int) then (0 : Int) else n % (64 : Int)))) (2000 : Int))))
                                    (↑(Int.toNat (if IntKind.wrap IntKind.i64 ((1 : Int) + if (64 : Int) < (1 : Int) then (0 : Int) else n % (64 : Int)) < (1 : Int) then (0 : Int) else first % IntKind.wrap IntKind.i64 ((1 : Int) + if (64 : Int) < (1 : Int) then (0 : Int) else n % (64 : Int)))) : Int) (2000 : Int)))])]))))))))) := by
  kernel_rfl

/-- Of a state: with the next barriers of number 2000 inputs are blocked one by one. -/
structure Fair (n first k : Nat) (S : AL) : Prop where
  hn : S.n = n
  hl : S.d = true → S.l < 2000
  hw : S.w ≤ 2000
  hB : ∀ j, B1A S 2000 j = (decide (j < n) && decide (posW n first false j < k))
  hc : c1A S 2000 = k

theorem fair0 {n first : Nat} {s : AL} (h : good n s) : Fair n first 0 s := by
  obtain ⟨h1, h2, h3⟩ := h
  exact ⟨h1, fun _ => by omega, by omega, fun j => by rw [B1A, if_neg (by omega)]; simp, if_neg (by omega)⟩
theorem fair1 {n first k : Nat} {s : AL} (h : good n s) (hk : 1 ≤ k) : Fair n first k (midA n first s k) := by
  obtain ⟨h1, h2, h3⟩ := h
  exact ⟨rfl, fun _ => by show s.l < 2000; omega, Int.le_refl _, fun j => if_pos rfl, if_pos rfl⟩

theorem Fair.nrf {n first k : Nat} {S : AL} (h : Fair n first k S) (hf : first < n) (hk : k < n) : ¬ rfA S (keyW n first false k) 2000 := by
  have := key_lt (back := false) hf hk
  have hn := h.hn
  rintro (h' | h' | ⟨h', h''⟩ | ⟨h', h''⟩)
  · omega
  · omega
  · have := h.hl h'; omega
  · have := h.hw; omega
theorem Fair.c2 {n first k : Nat} {S : AL} (h : Fair n first k S) (h64 : n ≤ 64) (hf : first < n) (hk : k < n) : c2A S (keyW n first false k) 2000 = k + 1 := by
  have h1 := key_lt (back := false) hf hk
  have h2 := (pos_key (back := false) hf hk h1).2 rfl
  unfold c2A
  rw [Int.toNat_natCast, h.hB, h.hc, h2]
  simp only [Nat.lt_irrefl, decide_false, Bool.and_false, Bool.false_eq_true, if_false]
  exact IntWalk.i64_in _ (by omega)
theorem Fair.full {n first k : Nat} {S : AL} (h : Fair n first k S) (_hn : 1 ≤ n) (h64 : n ≤ 64) (hf : first < n) (hk : k < n) (he : k + 1 = n) : barR S (keyW n first false k) 2000 = true ∧ bar S (keyW n first false k) 2000 = fuW n 2000 := by
  have h1 := h.nrf hf hk
  have h2 : fuA S (keyW n first false k) 2000 := by unfold fuA; rw [h.c2 h64 hf hk, h.hn]; omega
  refine ⟨by simp [barR, h1, h2], ?_⟩
  rw [bar, if_neg h1, if_pos h2]
  unfold fullA fuW
  rw [h.hn]
theorem Fair.more {n first k : Nat} {S : AL} (h : Fair n first k S) (_hn : 1 ≤ n) (h64 : n ≤ 64) (hf : first < n) (hk : k < n) (he : k + 1 < n) : barR S (keyW n first false k) 2000 = false ∧ bar S (keyW n first false k) 2000 = moreA S (keyW n first false k) 2000 := by
  have h1 := h.nrf hf hk
  have h2 : ¬ fuA S (keyW n first false k) 2000 := by unfold fuA; rw [h.c2 h64 hf hk, h.hn]; omega
  exact ⟨by simp [barR, h2], by rw [bar, if_neg h1, if_neg h2]⟩
theorem Fair.after {n first k : Nat} {S : AL} (h : Fair n first k S) (_hn : 1 ≤ n) (_h64 : n ≤ 64) (hf : first < n) (hk : k < n) : blkA (moreA S (keyW n first false k) 2000) (keyW n first false k) = true := by
  have h1 := key_lt (back := false) hf hk
  have hn := h.hn
  simp [blkA, moreA, hn]; omega
theorem Fair.next {n first k : Nat} {S : AL} (h : Fair n first k S) (_hn : 1 ≤ n) (_h64 : n ≤ 64) (hf : first < n) (hk : k + 1 < n) : blkA (moreA S (keyW n first false k) 2000) (keyW n first false (k + 1)) = false := by
  have h1 := key_lt (back := false) hf hk
  have h2 := (pos_key (back := false) hf hk h1).2 rfl
  have h0 := key_lt (back := false) hf (show k < n by omega)
  have h3 := (pos_key (back := false) hf (show k < n by omega) h0).2 rfl
  have hne : keyW n first false (k + 1) ≠ keyW n first false k := fun e => by rw [e] at h2; omega
  have : B1A S 2000 (keyW n first false (k + 1)) = false := by rw [h.hB, h2]; simp
  simp [blkA, moreA, hne, this]
theorem Fair.blk {n first k : Nat} {s S : AL} (h : Fair n first k S) (_hn : 1 ≤ n) (h64 : n ≤ 64) (hf : first < n) (hk : k < n) {N : Nat} {ρ : Nat → Nat} (hl : S.l = s.l := by rfl) (hd : S.d = s.d := by rfl) : BlkOK N ρ (alB (moreA S (keyW n first false k) 2000)) (alB (midA n first s (k + 1))) := by
  refine al_blk h.hn (fun j _ => ?_) ?_ rfl hl hd
  · show (if j = (keyW n first false k : Int).toNat then true else B1A S 2000 j) = (decide (j < n) && decide (posW n first false j < k + 1))
    have hk1 := key_lt (back := false) hf hk
    rw [h.hB, Int.toNat_natCast]
    by_cases hj : j = keyW n first false k
    · rw [if_pos hj]
      subst hj
      have := (pos_key (back := false) hf hk hk1).2 rfl
      simp [hk1, this]
    · rw [if_neg hj]
      by_cases hjn : j < n
      · have := mt (pos_key (back := false) hf hk hjn).1 hj
        have e : (posW n first false j < k + 1) = (posW n first false j < k) := by simp; omega
        simp [e]
      · simp [hjn]
  · show c2A S (keyW n first false k) 2000 = ((k + 1 : Nat) : Int)
    rw [h.c2 h64 hf hk]; rfl

theorem sub1 {b' b : Blk} {m : AM} (hb : BlkOK 2 id b' b) (h : m.get 1 = some b') : Sub 1 id m [none, some b] := Sub.ofId ⟨⟨_, h, hb⟩, trivial⟩ (by simp)
theorem sub0 {b' b : Blk} {m : AM} (hb : BlkOK 1 id b' b) (h : m.get 0 = some b') : Sub 0 id m [some b] := Sub.ofId ⟨⟨_, h, hb⟩, trivial⟩ (by simp)

theorem f2_loopE : LoopOK Try.prog faE (loopAt (codeOf Try.f5) 1) := by
  refine loopSumm_ok (E := faE) (laE_ok _) (noLoops (by kernel_rfl)) (f2St [none]) f2Inv (fun x => x.n - x.k) (f2Pick [none]) (f2End [none]) ?_ (by kernel_rfl)
  rintro ⟨ph, n, first, s, k⟩ ⟨hn, h64, hf, hg, hk⟩ Q hq
  dsimp only at hn h64 hf hg hk
  refine round_keep [0, 2, 7, 9] ?_
  have walk : ∀ S : AL, Fair n first k S → (∀ st, (k + 1 < n → ∀ m, m.get 1 = some (alB (moreA S (keyW n first false k) 2000)) → st = (⟨[(0, .int .i64 n), (2, .int .i64 first), (7, .ptr 1 0 0 0), (9, .int .i64 ((k + 1 : Nat) : Int))], m⟩ : St) → Round faE (f2St [none]) f2Inv (fun x => x.n - x.k) (f2End [none]) Q ⟨ph, n, first, s, k⟩ (.norm, st)) ∧
      (k + 1 = n → ∀ m, m.get 1 = some (alB (fuW n 2000)) → st = (⟨[(0, .int .i64 n), (2, .int .i64 first), (7, .ptr 1 0 0 0), (9, .int .i64 ((k + 1 : Nat) : Int))], m⟩ : St) → Round faE (f2St [none]) f2Inv (fun x => x.n - x.k) (f2End [none]) Q ⟨ph, n, first, s, k⟩ (.norm, st))) → k < n →
      (keepT [0, 2, 7, 9] (acode Try.prog faE (loopAt (codeOf Try.f5) 1) (f2 [none] n first k S))).holds (Round faE (f2St [none]) f2Inv (fun x => x.n - x.k) (f2End [none]) Q ⟨ph, n, first, s, k⟩) := by
    intro S hS go hkn
    rw [f2_treeE]
    have w1 : IntKind.wrap .i64 ((first : Int) + (k : Int)) = ((first + k : Nat) : Int) := by rw [IntWalk.i64_in _ (by omega)]; omega
    have w2 : Int.tmod ((first + k : Nat) : Int) (n : Int) = (((first + k) % n : Nat) : Int) := by rw [Int.tmod_eq_emod_of_nonneg (by omega)]; rfl
    have w3 : IntKind.wrap .i64 ((n : Int) - 1) = ((n - 1 : Nat) : Int) := by rw [IntWalk.i64_in _ (by omega)]; omega
    have hm := Nat.mod_lt (first + k) (show 0 < n by omega)
    have w4 : IntKind.wrap .i64 ((((first + k) % n : Nat) : Int) + 1) = (((first + k) % n + 1 : Nat) : Int) := by rw [IntWalk.i64_in _ (by omega)]; omega
    have w6 : Int.tmod (((first + k) % n + 1 : Nat) : Int) (n : Int) = ((keyW n first false (k + 1) : Nat) : Int) := by
      rw [Int.tmod_eq_emod_of_nonneg (by omega)]
      show (((((first + k) % n + 1) % n : Nat)) : Int) = _
      rw [Nat.mod_add_mod]; simp [keyW, Nat.add_assoc]
    have w5 : IntKind.wrap IntKind.i64 ((k : Int) + 1) = ((k + 1 : Nat) : Int) := by rw [IntWalk.i64_in _ (by omega)]; omega
    have k2 : (first + k) % n = keyW n first false k := by simp [keyW]
    have hSn := hS.hn
    simp only [st1, st2, w1, w2, w3, w4, w6, w5]
    simp only [k2]
    refine T.hiteP (fun _ => T.hchk (by simp; omega) ?_) (fun h => absurd (by omega) h)
    have d1 : k + 1 < n → ((k : Int) == ((n - 1 : Nat) : Int)) = false ∧ decide ((k : Int) < ((n - 1 : Nat) : Int)) = true := fun h => ⟨by simp; omega, by simp; omega⟩
    have d2 : k + 1 = n → ((k : Int) == ((n - 1 : Nat) : Int)) = true ∧ decide ((k : Int) < ((n - 1 : Nat) : Int)) = false := fun h => ⟨by simp; omega, by simp; omega⟩
    by_cases hm : k + 1 < n
    · obtain ⟨e1, e2⟩ := hS.more hn h64 hf hkn hm
      have e3 := hS.after hn h64 hf hkn
      have e4 := hS.next hn h64 hf hm
      obtain ⟨g1, g2⟩ := d1 hm
      simp only [e1, e2, e3, e4, g1, g2]
      repeat' first | refine T.hneed isAl ?_ | refine T.hiteP (fun _ => ?_) (fun _ => ?_) | refine T.hiteE (fun _ => ?_) (fun _ => ?_) | refine T.hiteN (fun _ => ?_) (fun _ => ?_) | refine T.hiteFP (fun _ => ?_) (fun _ => ?_) | refine T.hiteFE (fun _ => ?_) (fun _ => ?_) | refine T.hiteF (fun _ => ?_) (fun _ => ?_) | refine T.hite (fun _ => ?_) (fun _ => ?_) | refine T.hneed rfl ?_ | refine T.hneed IntRow.rows ?_ | refine T.hneed trivial ?_ | refine T.hchk ?_ ?_ | refine T.hall (fun _ => ?_) | refine T.hasm (fun _ => ?_)
      all_goals (try refine T.hret ?_)
      all_goals first
        | contradiction
        | exact decide_eq_true (show S.n ≤ 96 by omega)
        | exact (go _).1 hm _ rfl rfl
        | (simp; omega)
        | rfl
    · obtain ⟨e1, e2⟩ := hS.full hn h64 hf hkn (by omega)
      obtain ⟨g1, g2⟩ := d2 (by omega)
      simp only [e1, e2, g1, g2]
      repeat' first | refine T.hneed isAl ?_ | refine T.hiteP (fun _ => ?_) (fun _ => ?_) | refine T.hiteE (fun _ => ?_) (fun _ => ?_) | refine T.hiteN (fun _ => ?_) (fun _ => ?_) | refine T.hiteFP (fun _ => ?_) (fun _ => ?_) | refine T.hiteFE (fun _ => ?_) (fun _ => ?_) | refine T.hiteF (fun _ => ?_) (fun _ => ?_) | refine T.hite (fun _ => ?_) (fun _ => ?_) | refine T.hneed rfl ?_ | refine T.hneed IntRow.rows ?_ | refine T.hneed trivial ?_ | refine T.hchk ?_ ?_ | refine T.hall (fun _ => ?_) | refine T.hasm (fun _ => ?_)
      all_goals (try refine T.hret ?_)
      all_goals first
        | contradiction
        | exact decide_eq_true (show S.n ≤ 96 by omega)
        | exact (go _).2 (by omega) _ rfl rfl
        | (simp; omega)
        | rfl
  have fin : ∀ st, (k + 1 = n → ∀ m, m.get 1 = some (alB (fuW n 2000)) → st = (⟨[(0, .int .i64 n), (2, .int .i64 first), (7, .ptr 1 0 0 0), (9, .int .i64 ((k + 1 : Nat) : Int))], m⟩ : St) → Round faE (f2St [none]) f2Inv (fun x => x.n - x.k) (f2End [none]) Q ⟨ph, n, first, s, k⟩ (.norm, st)) := by
    rintro st h m hm rfl
    exact Round.go ⟨2, n, first, s, k + 1⟩ id ⟨hn, h64, hf, hg, h⟩ (by dsimp only; omega) (SubSt.mk (by simp [f2St, f2, SubFr, slotAt, ren, below, ← h]) (sub1 (al_blk rfl (fun _ _ => rfl) rfl rfl rfl rfl) hm)) hq
  match ph, hk with
  | 0, hk =>
    have hk : k = 0 := hk
    subst hk
    refine walk s (fair0 hg) (fun st => ⟨?_, fin st⟩) (by omega)
    rintro h m hm rfl
    exact Round.go ⟨1, n, first, s, 1⟩ id ⟨hn, h64, hf, hg, Nat.le_refl _, by dsimp only; omega⟩ (by dsimp only; omega) (SubSt.mk (by simp [f2St, f2, SubFr, slotAt, ren, below]) (sub1 ((fair0 hg).blk hn h64 hf (by omega)) hm)) hq
  | 1, hk =>
    have hk : 1 ≤ k ∧ k < n := hk
    refine walk (midA n first s k) (fair1 hg hk.1) (fun st => ⟨?_, fin st⟩) hk.2
    rintro h m hm rfl
    have hh := sub1 ((fair1 (first := first) hg hk.1).blk (s := s) hn h64 hf hk.2) hm
    exact Round.go ⟨1, n, first, s, k + 1⟩ id ⟨hn, h64, hf, hg, show 1 ≤ k + 1 ∧ k + 1 < n from ⟨by omega, h⟩⟩ (by dsimp only; omega) (SubSt.mk (by simp [f2St, f2, SubFr, slotAt, ren, below]) (by exact hh)) hq
  | ph + 2, hk =>
    have hk : k = n := hk
    subst hk
    show (keepT [0, 2, 7, 9] (acode Try.prog faE (loopAt (codeOf Try.f5) 1) (f2 [none] k first k (fuW k 2000)))).holds _
    rw [f2_treeE]
    refine T.hiteP (fun h => absurd h (by omega)) (fun _ => ?_)
    have hh : Sub 1 id [none, some (alB (fuW k 2000))] [none, some (alB (fuW k 2000))] := sub1 (al_blk rfl (fun _ _ => rfl) rfl rfl rfl rfl) rfl
    exact Round.out id ⟨[(2, .int .i64 first), (7, .ptr 1 0 0 0)], [none] ++ [some (alB (fuW k 2000))]⟩ (SubSt.mk (by simp [SubFr, slotAt, ren, below]) (by exact hh)) hq

theorem f2_loopN : LoopOK Try.prog faN (loopAt (codeOf Try.f5) 1) := by
  refine loopSumm_ok (E := faN) (laE_ok _) (noLoops (by kernel_rfl)) (f2St []) f2Inv (fun x => x.n - x.k) (f2Pick []) (f2End []) ?_ (by kernel_rfl)
  rintro ⟨ph, n, first, s, k⟩ ⟨hn, h64, hf, hg, hk⟩ Q hq
  dsimp only at hn h64 hf hg hk
  refine round_keep [0, 2, 7, 9] ?_
  have walk : ∀ S : AL, Fair n first k S → (∀ st, (k + 1 < n → ∀ m, m.get 0 = some (alB (moreA S (keyW n first false k) 2000)) → st = (⟨[(0, .int .i64 n), (2, .int .i64 first), (7, .ptr 0 0 0 0), (9, .int .i64 ((k + 1 : Nat) : Int))], m⟩ : St) → Round faN (f2St []) f2Inv (fun x => x.n - x.k) (f2End []) Q ⟨ph, n, first, s, k⟩ (.norm, st)) ∧
      (k + 1 = n → ∀ m, m.get 0 = some (alB (fuW n 2000)) → st = (⟨[(0, .int .i64 n), (2, .int .i64 first), (7, .ptr 0 0 0 0), (9, .int .i64 ((k + 1 : Nat) : Int))], m⟩ : St) → Round faN (f2St []) f2Inv (fun x => x.n - x.k) (f2End []) Q ⟨ph, n, first, s, k⟩ (.norm, st))) → k < n →
      (keepT [0, 2, 7, 9] (acode Try.prog faN (loopAt (codeOf Try.f5) 1) (f2 [] n first k S))).holds (Round faN (f2St []) f2Inv (fun x => x.n - x.k) (f2End []) Q ⟨ph, n, first, s, k⟩) := by
    intro S hS go hkn
    rw [f2_treeN]
    have w1 : IntKind.wrap .i64 ((first : Int) + (k : Int)) = ((first + k : Nat) : Int) := by rw [IntWalk.i64_in _ (by omega)]; omega
    have w2 : Int.tmod ((first + k : Nat) : Int) (n : Int) = (((first + k) % n : Nat) : Int) := by rw [Int.tmod_eq_emod_of_nonneg (by omega)]; rfl
    have w3 : IntKind.wrap .i64 ((n : Int) - 1) = ((n - 1 : Nat) : Int) := by rw [IntWalk.i64_in _ (by omega)]; omega
    have hm := Nat.mod_lt (first + k) (show 0 < n by omega)
    have w4 : IntKind.wrap .i64 ((((first + k) % n : Nat) : Int) + 1) = (((first + k) % n + 1 : Nat) : Int) := by rw [IntWalk.i64_in _ (by omega)]; omega
    have w6 : Int.tmod (((first + k) % n + 1 : Nat) : Int) (n : Int) = ((keyW n first false (k + 1) : Nat) : Int) := by
      rw [Int.tmod_eq_emod_of_nonneg (by omega)]
      show (((((first + k) % n + 1) % n : Nat)) : Int) = _
      rw [Nat.mod_add_mod]; simp [keyW, Nat.add_assoc]
    have w5 : IntKind.wrap IntKind.i64 ((k : Int) + 1) = ((k + 1 : Nat) : Int) := by rw [IntWalk.i64_in _ (by omega)]; omega
    have k2 : (first + k) % n = keyW n first false k := by simp [keyW]
    have hSn := hS.hn
    simp only [st1, st2, w1, w2, w3, w4, w6, w5]
    simp only [k2]
    refine T.hiteP (fun _ => T.hchk (by simp; omega) ?_) (fun h => absurd (by omega) h)
    have d1 : k + 1 < n → ((k : Int) == ((n - 1 : Nat) : Int)) = false ∧ decide ((k : Int) < ((n - 1 : Nat) : Int)) = true := fun h => ⟨by simp; omega, by simp; omega⟩
    have d2 : k + 1 = n → ((k : Int) == ((n - 1 : Nat) : Int)) = true ∧ decide ((k : Int) < ((n - 1 : Nat) : Int)) = false := fun h => ⟨by simp; omega, by simp; omega⟩
    by_cases hm : k + 1 < n
    · obtain ⟨e1, e2⟩ := hS.more hn h64 hf hkn hm
      have e3 := hS.after hn h64 hf hkn
      have e4 := hS.next hn h64 hf hm
      obtain ⟨g1, g2⟩ := d1 hm
      simp only [e1, e2, e3, e4, g1, g2]
      repeat' first | refine T.hneed isAl ?_ | refine T.hiteP (fun _ => ?_) (fun _ => ?_) | refine T.hiteE (fun _ => ?_) (fun _ => ?_) | refine T.hiteN (fun _ => ?_) (fun _ => ?_) | refine T.hiteFP (fun _ => ?_) (fun _ => ?_) | refine T.hiteFE (fun _ => ?_) (fun _ => ?_) | refine T.hiteF (fun _ => ?_) (fun _ => ?_) | refine T.hite (fun _ => ?_) (fun _ => ?_) | refine T.hneed rfl ?_ | refine T.hneed IntRow.rows ?_ | refine T.hneed trivial ?_ | refine T.hchk ?_ ?_ | refine T.hall (fun _ => ?_) | refine T.hasm (fun _ => ?_)
      all_goals (try refine T.hret ?_)
      all_goals first
        | contradiction
        | exact decide_eq_true (show S.n ≤ 96 by omega)
        | exact (go _).1 hm _ rfl rfl
        | (simp; omega)
        | rfl
    · obtain ⟨e1, e2⟩ := hS.full hn h64 hf hkn (by omega)
      obtain ⟨g1, g2⟩ := d2 (by omega)
      simp only [e1, e2, g1, g2]
      repeat' first | refine T.hneed isAl ?_ | refine T.hiteP (fun _ => ?_) (fun _ => ?_) | refine T.hiteE (fun _ => ?_) (fun _ => ?_) | refine T.hiteN (fun _ => ?_) (fun _ => ?_) | refine T.hiteFP (fun _ => ?_) (fun _ => ?_) | refine T.hiteFE (fun _ => ?_) (fun _ => ?_) | refine T.hiteF (fun _ => ?_) (fun _ => ?_) | refine T.hite (fun _ => ?_) (fun _ => ?_) | refine T.hneed rfl ?_ | refine T.hneed IntRow.rows ?_ | refine T.hneed trivial ?_ | refine T.hchk ?_ ?_ | refine T.hall (fun _ => ?_) | refine T.hasm (fun _ => ?_)
      all_goals (try refine T.hret ?_)
      all_goals first
        | contradiction
        | exact decide_eq_true (show S.n ≤ 96 by omega)
        | exact (go _).2 (by omega) _ rfl rfl
        | (simp; omega)
        | rfl
  have fin : ∀ st, (k + 1 = n → ∀ m, m.get 0 = some (alB (fuW n 2000)) → st = (⟨[(0, .int .i64 n), (2, .int .i64 first), (7, .ptr 0 0 0 0), (9, .int .i64 ((k + 1 : Nat) : Int))], m⟩ : St) → Round faN (f2St []) f2Inv (fun x => x.n - x.k) (f2End []) Q ⟨ph, n, first, s, k⟩ (.norm, st)) := by
    rintro st h m hm rfl
    exact Round.go ⟨2, n, first, s, k + 1⟩ id ⟨hn, h64, hf, hg, h⟩ (by dsimp only; omega) (SubSt.mk (by simp [f2St, f2, SubFr, slotAt, ren, below, ← h]) (sub0 (al_blk rfl (fun _ _ => rfl) rfl rfl rfl rfl) hm)) hq
  match ph, hk with
  | 0, hk =>
    have hk : k = 0 := hk
    subst hk
    refine walk s (fair0 hg) (fun st => ⟨?_, fin st⟩) (by omega)
    rintro h m hm rfl
    exact Round.go ⟨1, n, first, s, 1⟩ id ⟨hn, h64, hf, hg, Nat.le_refl _, by dsimp only; omega⟩ (by dsimp only; omega) (SubSt.mk (by simp [f2St, f2, SubFr, slotAt, ren, below]) (sub0 ((fair0 hg).blk hn h64 hf (by omega)) hm)) hq
  | 1, hk =>
    have hk : 1 ≤ k ∧ k < n := hk
    refine walk (midA n first s k) (fair1 hg hk.1) (fun st => ⟨?_, fin st⟩) hk.2
    rintro h m hm rfl
    have hh := sub0 ((fair1 (first := first) hg hk.1).blk (s := s) hn h64 hf hk.2) hm
    exact Round.go ⟨1, n, first, s, k + 1⟩ id ⟨hn, h64, hf, hg, show 1 ≤ k + 1 ∧ k + 1 < n from ⟨by omega, h⟩⟩ (by dsimp only; omega) (SubSt.mk (by simp [f2St, f2, SubFr, slotAt, ren, below]) (by exact hh)) hq
  | ph + 2, hk =>
    have hk : k = n := hk
    subst hk
    show (keepT [0, 2, 7, 9] (acode Try.prog faN (loopAt (codeOf Try.f5) 1) (f2 [] k first k (fuW k 2000)))).holds _
    rw [f2_treeN]
    refine T.hiteP (fun h => absurd h (by omega)) (fun _ => ?_)
    have hh : Sub 0 id [some (alB (fuW k 2000))] [some (alB (fuW k 2000))] := sub0 (al_blk rfl (fun _ _ => rfl) rfl rfl rfl rfl) rfl
    exact Round.out id ⟨[(2, .int .i64 first), (7, .ptr 0 0 0 0)], [] ++ [some (alB (fuW k 2000))]⟩ (SubSt.mk (by simp [SubFr, slotAt, ren, below]) (by exact hh)) hq

end Go.Proofs.Ythbdkhlpojngeaa
