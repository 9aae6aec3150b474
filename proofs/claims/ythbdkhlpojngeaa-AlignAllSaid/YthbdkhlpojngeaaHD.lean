/-
  Layer 19: Wide.
-/
import Derived.Test.YthbdkhlpojngeaaHC
namespace Go.Proofs.Ythbdkhlpojngeaa
open Go.Ox
set_option maxRecDepth 100000
set_option linter.unusedVariables false
set_option linter.unusedSimpArgs false

/-- When an input has its turn. -/
def posW (n first : Nat) (back : Bool) (j : Nat) : Nat := ((if back = true then n - 1 - j else j) + n - first) % n
def keyW (n first : Nat) (back : Bool) (t : Nat) : Nat := if back = true then n - 1 - (first + t) % n else (first + t) % n
def wiA (n first : Nat) (back : Bool) (no : Int) (i : Nat) : AL := ⟨n, fun j => decide (j < n) && decide (posW n first back j < i), i, if i = 0 then 0 else no, 0, false⟩
def fuW (n : Nat) (no : Int) : AL := ⟨n, fun _ => false, 0, no, no, true⟩
structure WI where
  z : Bool
  n : Nat
  first : Nat
  back : Bool
  no : Int
  i : Nat
def wi1 (n first : Nat) (back : Bool) (no : Int) (i : Nat) (s : AL) : St := ⟨[(0, .int .i64 n), (1, .int .i64 first), (2, .bool back), (3, .int .i64 no), (9, .ptr 0 0 0 0), (10, .int .i64 i)], [some (alB s)]⟩
def wiSt (x : WI) : St := match x.z with
  | true => wi1 x.n x.first x.back x.no x.i (fuW x.n x.no)
  | false => wi1 x.n x.first x.back x.no x.i (wiA x.n x.first x.back x.no x.i)
def wiInv (x : WI) : Prop := 1 ≤ x.n ∧ x.n ≤ 96 ∧ x.first < x.n ∧ (match x.z with
  | true => x.i = x.n
  | false => x.i < x.n)
def wiPick (st : St) : Option WI :=
  match slotAt st.fr 0, slotAt st.fr 1, slotAt st.fr 2, slotAt st.fr 3 with
  | some (.int _ n), some (.int _ first), some b, some (.int _ no) => some ⟨false, n.toNat, first.toNat, boolA b, no, 0⟩
  | _, _, _, _ => none
def wiEnd (x : WI) : T (Ex × St) := .ret (.exit 0, ⟨[(1, .int .i64 x.first), (3, .int .i64 x.no), (9, .ptr 0 0 0 0)], [some (alB (fuW x.n x.no))]⟩)
noncomputable def wiE : Env := { laE Try.f8.ntmps with loop := fun k => if k = 7 then loopSumm 0 wiSt wiInv wiPick wiEnd else fun _ => .fail }

theorem wi_tree (n first : Nat) (back : Bool) (no : Int) (i : Nat) (s : AL) : keepT [0, 1, 2, 3, 9, 10] (acode Try.prog wiE (loopAt (codeOf Try.f8) 0) (wi1 n first back no i s)) = 
  T.ite (decide ((↑i : Int) < (↑n : Int)))
    (T.chk (!(↑n : Int) == (0 : Int))
      (T.ite back
        (T.need (IsAl (Blk.mk true [AV.int IntKind.i64 (AL.n s)] (1 : Nat) (96 : Nat) (fun j => [AV.bool (AL.B s j)]) [AV.int IntKind.i64 (AL.c s), AV.int IntKind.i64 (AL.w s), AV.int IntKind.i64 (AL.l s), AV.bool (AL.d s)]))
          (T.chk (decide (intA (List.getD [AV.int IntKind.i64 (AL.n s)] (0 : Nat) AV.ff) ≤ (96 : Int)))
            (T.ite (blkA (stA (alB s)) (IntKind.wrap IntKind.i64 (IntKind.wrap IntKind.i64 ((↑n : Int) - (1 : Int)) - Int.tmod (IntKind.wrap IntKind.i64 ((↑first : Int) + (↑i : Int))) (↑n : Int))))
              (T.ret
                (Ex.ret,
                  St.mk [((0 : Nat), AV.int IntKind.i64 (↑n : Int)), ((1 : Nat), AV.int IntKind.i64 (↑first : Int)), ((2 : Nat), AV.bool back), ((3 : Nat), AV.int IntKind.i64 no), ((9 : Nat), AV.ptr (0 : Nat) (0 : Nat) (0 : Nat) (0 : Nat)), ((10 : Nat), AV.int IntKind.i64 (↑i : Int))]
                    [some (Blk.mk true [AV.int IntKind.i64 (AL.n s)] (1 : Nat) (96 : Nat) (fun j => [AV.bool (AL.B s j)]) [AV.int IntKind.i64 (AL.c s), AV.int IntKind.i64 (AL.w s), AV.int IntKind.i64 (AL.l s), AV.bool (AL.d s)])]))
              (T.need (IsAl (Blk.mk true [AV.int IntKind.i64 (AL.n s)] (1 : Nat) (96 : Nat) (fun j => [AV.bool (AL.B s j)]) [AV.int IntKind.i64 (AL.c s), AV.int IntKind.i64 (AL.w s), AV.int IntKind.i64 (AL.l s), AV.bool (AL.d s)]))
                (T.chk (decide (intA (List.getD [AV.int IntKind.i64 (AL.n s)] (0 : Nat) AV.ff) ≤ (96 : Int)))
                  (T.ite (!barR (stA (alB s)) (IntKind.wrap IntKind.i64 (IntKind.wrap IntKind.i64 ((↑n : Int) - (1 : Int)) - Int.tmod (IntKind.wrap IntKind.i64 ((↑first : Int) + (↑i : Int))) (↑n : Int))) no == ((↑i : Int) == IntKind.wrap IntKind.i64 ((↑n : Int) - (1 : Int))))
                    (T.ret
                      (Ex.ret,
                        St.mk [((0 : Nat), AV.int IntKind.i64 (↑n : Int)), ((1 : Nat), AV.int IntKind.i64 (↑first : Int)), ((2 : Nat), AV.bool back), ((3 : Nat), AV.int IntKind.i64 no), ((9 : Nat), AV.ptr (0 : Nat) (0 : Nat) (0 : Nat) (0 : Nat)), ((10 : Nat), AV.int IntKind.i64 (↑i : Int))]
                          [some
                              (Blk.mk true [AV.int IntKind.i64 (AL.n (bar (stA (alB s)) (IntKind.wrap IntKind.i64 (IntKind.wrap IntKind.i64 ((↑n : Int) - (1 : Int)) - Int.tmod (IntKind.wrap IntKind.i64 ((↑first : Int) + (↑i : Int))) (↑n : Int))) no))] (1 : Nat) (96 : Nat)
                                (fun j => [AV.bool (AL.B (bar (stA (alB s)) (IntKind.wrap IntKind.i64 (IntKind.wrap IntKind.i64 ((↑n : Int) - (1 : Int)) - Int.tmod (IntKind.wrap IntKind.i64 ((↑first : Int) + (↑i : Int))) (↑n : Int))) no) j)])
                                [AV.int IntKind.i64 (AL.c (bar (stA (alB s)) (IntKind.wrap IntKind.i64 (IntKind.wrap IntKind.i64 ((↑n : Int) - (1 : Int)) - Int.tmod (IntKind.wrap IntKind.i64 ((↑first : Int) + (↑i : Int))) (↑n : Int))) no)),
                                  AV.int IntKind.i64 (AL.w (bar (stA (alB s)) (IntKind.wrap IntKind.i64 (IntKind.wrap IntKind.i64 ((↑n : Int) - (1 : Int)) - Int.tmod (IntKind.wrap IntKind.i64 ((↑first : Int) + (↑i : Int))) (↑n : Int))) no)),
                                  AV.int IntKind.i64 (AL.l (bar (stA (alB s)) (IntKind.wrap IntKind.i64 (IntKind.wrap IntKind.i64 ((↑n : Int) - (1 : Int)) - Int.tmod (IntKind.wrap IntKind.i64 ((↑first : Int) + (↑i : Int))) (↑n : Int))) no)),
                                  AV.bool (AL.d (bar (stA (alB s)) (IntKind.wrap IntKind.i64 (IntKind.wrap IntKind.i64 ((↑n : Int) - (1 : Int)) - Int.tmod (IntKind.wrap IntKind.i64 ((↑first : Int) + (↑i : Int))) (↑n : Int))) no))])]))
                    (T.need
                      (IsAl
                        (Blk.mk true [AV.int IntKind.i64 (AL.n (bar (stA (alB s)) (IntKind.wrap IntKind.i64 (IntKind.wrap IntKind.i64 ((↑n : Int) - (1 : Int)) - Int.tmod (IntKind.wrap IntKind.i64 ((↑first : Int) + (↑i : Int))) (↑n : Int))) no))] (1 : Nat) (96 : Nat)
                          (fun j => [AV.bool (AL.B (bar (stA (alB s)) (IntKind.wrap IntKind.i64 (IntKind.wrap IntKind.i64 ((↑n : Int) - (1 : Int)) - Int.tmod (IntKind.wrap IntKind.i64 ((↑first : Int) + (↑i : Int))) (↑n : Int))) no) j)])
                          [AV.int IntKind.i64 (AL.c (bar (stA (alB s)) (IntKind.wrap IntKind.i64 (IntKind.wrap IntKind.i64 ((↑n : Int) - (1 : Int)) - Int.tmod (IntKind.wrap IntKind.i64 ((↑first : Int) + (↑i : Int))) (↑n : Int))) no)),
                            AV.int IntKind.i64 (AL.w (bar (stA (alB s)) (IntKind.wrap IntKind.i64 (IntKind.wrap IntKind.i64 ((↑n : Int) - (1 : Int)) - Int.tmod (IntKind.wrap IntKind.i64 ((↑first : Int) + (↑i : Int))) (↑n : Int))) no)),
                            AV.int IntKind.i64 (AL.l (bar (stA (alB s)) (IntKind.wrap IntKind.i64 (IntKind.wrap IntKind.i64 ((↑n : Int) - (1 : Int)) - Int.tmod (IntKind.wrap IntKind.i64 ((↑first : Int) + (↑i : Int))) (↑n : Int))) no)),
                            AV.bool (AL.d (bar (stA (alB s)) (IntKind.wrap IntKind.i64 (IntKind.wrap IntKind.i64 ((↑n : Int) - (1 : Int)) - Int.tmod (IntKind.wrap IntKind.i64 ((↑first : Int) + (↑i : Int))) (↑n : Int))) no))]))
                      (T.chk (decide (intA (List.getD (renL (out [(0 : Nat)] (List.length [some (alB s)])) [AV.int IntKind.i64 (AL.n (bar (stA (alB s)) (IntKind.wrap IntKind.i64 (IntKind.wrap IntKind.i64 ((↑n : Int) - (1 : Int)) - Int.tmod (IntKind.wrap IntKind.i64 ((↑first : Int) + (↑i : Int))) (↑n : Int))) no))]) (0 : Nat) AV.ff) ≤ (96 : Int)))
                        (T.ite
                          (!blkA (stA (renB (out [(0 : Nat)] (List.length [some (alB s)])) (alB (bar (stA (alB s)) (IntKind.wrap IntKind.i64 (IntKind.wrap IntKind.i64 ((↑n : Int) - (1 : Int)) - Int.tmod (IntKind.wrap IntKind.i64 ((↑first : Int) + (↑i : Int))) (↑n : Int))) no))))
                                (IntKind.wrap IntKind.i64 (IntKind.wrap IntKind.i64 ((↑n : Int) - (1 : Int)) - Int.tmod (IntKind.wrap IntKind.i64 ((↑first : Int) + (↑i : Int))) (↑n : Int))) ==
                              decide ((↑i : Int) < IntKind.wrap IntKind.i64 ((↑n : Int) - (1 : Int))))
                          (T.ret
                            (Ex.ret,
                              St.mk [((0 : Nat), AV.int IntKind.i64 (↑n : Int)), ((1 : Nat), AV.int IntKind.i64 (↑first : Int)), ((2 : Nat), AV.bool back), ((3 : Nat), AV.int IntKind.i64 no), ((9 : Nat), AV.ptr (0 : Nat) (0 : Nat) (0 : Nat) (0 : Nat)), ((10 : Nat), AV.int IntKind.i64 (↑i : Int))]
                                [some
                                    (Blk.mk true [AV.int IntKind.i64 (AL.n (bar (stA (alB s)) (IntKind.wrap IntKind.i64 (IntKind.wrap IntKind.i64 ((↑n : Int) - (1 : Int)) - Int.tmod (IntKind.wrap IntKind.i64 ((↑first : Int) + (↑i : Int))) (↑n : Int))) no))] (1 : Nat) (96 : Nat)
                                      (fun j => [AV.bool (AL.B (bar (stA (alB s)) (IntKind.wrap IntKind.i64 (IntKind.wrap IntKind.i64 ((↑n : Int) - (1 : Int)) - Int.tmod (IntKind.wrap IntKind.i64 ((↑first : Int) + (↑i : Int))) (↑n : Int))) no) j)])
                                      [AV.int IntKind.i64 (AL.c (bar (stA (alB s)) (IntKind.wrap IntKind.i64 (IntKind.wrap IntKind.i64 ((↑n : Int) - (1 : Int)) - Int.tmod (IntKind.wrap IntKind.i64 ((↑first : Int) + (↑i : Int))) (↑n : Int))) no)),
                                        AV.int IntKind.i64 (AL.w (bar (stA (alB s)) (IntKind.wrap IntKind.i64 (IntKind.wrap IntKind.i64 ((↑n : Int) - (1 : Int)) - Int.tmod (IntKind.wrap IntKind.i64 ((↑first : Int) + (↑i : Int))) (↑n : Int))) no)),
                                        AV.int IntKind.i64 (AL.l (bar (stA (alB s)) (IntKind.wrap IntKind.i64 (IntKind.wrap IntKind.i64 ((↑n : Int) - (1 : Int)) - Int.tmod (IntKind.wrap IntKind.i64 ((↑first : Int) + (↑i : Int))) (↑n : Int))) no)),
                                        AV.bool (AL.d (bar (stA (alB s)) (IntKind.wrap IntKind.i64 (IntKind.wrap IntKind.i64 ((↑n : Int) - (1 : Int)) - Int.tmod (IntKind.wrap IntKind.i64 ((↑first : Int) + (↑i : Int))) (↑n : Int))) no))])]))
                          (T.ret
                            (Ex.norm,
                              St.mk [((0 : Nat), AV.int IntKind.i64 (↑n : Int)), ((1 : Nat), AV.int IntKind.i64 (↑first : Int)), ((2 : Nat), AV.bool back), ((3 : Nat), AV.int IntKind.i64 no), ((9 : Nat), AV.ptr (0 : Nat) (0 : Nat) (0 : Nat) (0 : Nat)), ((10 : Nat), AV.int IntKind.i64 (IntKind.wrap IntKind.i64 ((↑i : Int) + (1 : Int))))]
                                [some
                                    (Blk.mk true [AV.int IntKind.i64 (AL.n (bar (stA (alB s)) (IntKind.wrap IntKind.i64 (IntKind.wrap IntKind.i64 ((↑n : Int) - (1 : Int)) - Int.tmod (IntKind.wrap IntKind.i64 ((↑first : Int) + (↑i : Int))) (↑n : Int))) no))] (1 : Nat) (96 : Nat)
                                      (fun j => [AV.bool (AL.B (bar (stA (alB s)) (IntKind.wrap IntKind.i64 (IntKind.wrap IntKind.i64 ((↑n : Int) - (1 : Int)) - Int.tmod (IntKind.wrap IntKind.i64 ((↑first : Int) + (↑i : Int))) (↑n : Int))) no) j)])
                                      [AV.int IntKind.i64 (AL.c (bar (stA (alB s)) (IntKind.wrap IntKind.i64 (IntKind.wrap IntKind.i64 ((↑n : Int) - (1 : Int)) - Int.tmod (IntKind.wrap IntKind.i64 ((↑first : Int) + (↑i : Int))) (↑n : Int))) no)),
                                        AV.int IntKind.i64 (AL.w (bar (stA (alB s)) (IntKind.wrap IntKind.i64 (IntKind.wrap IntKind.i64 ((↑n : Int) - (1 : Int)) - Int.tmod (IntKind.wrap IntKind.i64 ((↑first : Int) + (↑i : Int))) (↑n : Int))) no)),
                                        AV.int IntKind.i64 (AL.l (bar (stA (alB s)) (IntKind.wrap IntKind.i64 (IntKind.wrap IntKind.i64 ((↑n : Int) - (1 : Int)) - Int.tmod (IntKind.wrap IntKind.i64 ((↑first : Int) + (↑i : Int))) (↑n : Int))) no)),
                                        AV.bool (AL.d (bar (stA (alB s)) (IntKind.wrap IntKind.i64 (IntKind.wrap IntKind.i64 ((↑n : Int) - (1 : Int)) - Int.tmod (IntKind.wrap IntKind.i64 ((↑first : Int) + (↑i : Int))) (↑n : Int))) no))])])))))))))))
        (T.need (IsAl (Blk.mk true [AV.int IntKind.i64 (AL.n s)] (1 : Nat) (96 : Nat) (fun j => [AV.bool (AL.B s j)]) [AV.int IntKind.i64 (AL.c s), AV.int IntKind.i64 (AL.w s), AV.int IntKind.i64 (AL.l s), AV.bool (AL.d s)]))
          (T.chk (decide (intA (List.getD [AV.int IntKind.i64 (AL.n s)] (0 : Nat) AV.ff) ≤ (96 : Int)))
            (T.ite (blkA (stA (alB s)) (Int.tmod (IntKind.wrap IntKind.i64 ((↑first : Int) + (↑i : Int))) (↑n : Int)))
              (T.ret
                (Ex.ret,
                  St.mk [((0 : Nat), AV.int IntKind.i64 (↑n : Int)), ((1 : Nat), AV.int IntKind.i64 (↑first : Int)), ((2 : Nat), AV.bool back), ((3 : Nat), AV.int IntKind.i64 no), ((9 : Nat), AV.ptr (0 : Nat) (0 : Nat) (0 : Nat) (0 : Nat)), ((10 : Nat), AV.int IntKind.i64 (↑i : Int))]
                    [some (Blk.mk true [AV.int IntKind.i64 (AL.n s)] (1 : Nat) (96 : Nat) (fun j => [AV.bool (AL.B s j)]) [AV.int IntKind.i64 (AL.c s), AV.int IntKind.i64 (AL.w s), AV.int IntKind.i64 (AL.l s), AV.bool (AL.d s)])]))
              (T.need (IsAl (Blk.mk true [AV.int IntKind.i64 (AL.n s)] (1 : Nat) (96 : Nat) (fun j => [AV.bool (AL.B s j)]) [AV.int IntKind.i64 (AL.c s), AV.int IntKind.i64 (AL.w s), AV.int IntKind.i64 (AL.l s), AV.bool (AL.d s)]))
                (T.chk (decide (intA (List.getD [AV.int IntKind.i64 (AL.n s)] (0 : Nat) AV.ff) ≤ (96 : Int)))
                  (T.ite (!barR (stA (alB s)) (Int.tmod (IntKind.wrap IntKind.i64 ((↑first : Int) + (↑i : Int))) (↑n : Int)) no == ((↑i : Int) == IntKind.wrap IntKind.i64 ((↑n : Int) - (1 : Int))))
                    (T.ret
                      (Ex.ret,
                        St.mk [((0 : Nat), AV.int IntKind.i64 (↑n : Int)), ((1 : Nat), AV.int IntKind.i64 (↑first : Int)), ((2 : Nat), AV.bool back), ((3 : Nat), AV.int IntKind.i64 no), ((9 : Nat), AV.ptr (0 : Nat) (0 : Nat) (0 : Nat) (0 : Nat)), ((10 : Nat), AV.int IntKind.i64 (↑i : Int))]
                          [some
                              (Blk.mk true [AV.int IntKind.i64 (AL.n (bar (stA (alB s)) (Int.tmod (IntKind.wrap IntKind.i64 ((↑first : Int) + (↑i : Int))) (↑n : Int)) no))] (1 : Nat) (96 : Nat) (fun j => [AV.bool (AL.B (bar (stA (alB s)) (Int.tmod (IntKind.wrap IntKind.i64 ((↑first : Int) + (↑i : Int))) (↑n : Int)) no) j)])
                                [AV.int IntKind.i64 (AL.c (bar (stA (alB s)) (Int.tmod (IntKind.wrap IntKind.i64 ((↑first : Int) + (↑i : Int))) (↑n : Int)) no)), AV.int IntKind.i64 (AL.w (bar (stA (alB s)) (Int.tmod (IntKind.wrap IntKind.i64 ((↑first : Int) + (↑i : Int))) (↑n : Int)) no)),
                                  AV.int IntKind.i64 (AL.l (bar (stA (alB s)) (Int.tmod (IntKind.wrap IntKind.i64 ((↑first : Int) + (↑i : Int))) (↑n : Int)) no)), AV.bool (AL.d (bar (stA (alB s)) (Int.tmod (IntKind.wrap IntKind.i64 ((↑first : Int) + (↑i : Int))) (↑n : Int)) no))])]))
                    (T.need
                      (IsAl
                        (Blk.mk true [AV.int IntKind.i64 (AL.n (bar (stA (alB s)) (Int.tmod (IntKind.wrap IntKind.i64 ((↑first : Int) + (↑i : Int))) (↑n : Int)) no))] (1 : Nat) (96 : Nat) (fun j => [AV.bool (AL.B (bar (stA (alB s)) (Int.tmod (IntKind.wrap IntKind.i64 ((↑first : Int) + (↑i : Int))) (↑n : Int)) no) j)])
                          [AV.int IntKind.i64 (AL.c (bar (stA (alB s)) (Int.tmod (IntKind.wrap IntKind.i64 ((↑first : Int) + (↑i : Int))) (↑n : Int)) no)), AV.int IntKind.i64 (AL.w (bar (stA (alB s)) (Int.tmod (IntKind.wrap IntKind.i64 ((↑first : Int) + (↑i : Int))) (↑n : Int)) no)),
                            AV.int IntKind.i64 (AL.l (bar (stA (alB s)) (Int.tmod (IntKind.wrap IntKind.i64 ((↑first : Int) + (↑i : Int))) (↑n : Int)) no)), AV.bool (AL.d (bar (stA (alB s)) (Int.tmod (IntKind.wrap IntKind.i64 ((↑first : Int) + (↑i : Int))) (↑n : Int)) no))]))
                      (T.chk (decide (intA (List.getD (renL (out [(0 : Nat)] (List.length [some (alB s)])) [AV.int IntKind.i64 (AL.n (bar (stA (alB s)) (Int.tmod (IntKind.wrap IntKind.i64 ((↑first : Int) + (↑i : Int))) (↑n : Int)) no))]) (0 : Nat) AV.ff) ≤ (96 : Int)))
                        (T.ite (!blkA (stA (renB (out [(0 : Nat)] (List.length [some (alB s)])) (alB (bar (stA (alB s)) (Int.tmod (IntKind.wrap IntKind.i64 ((↑first : Int) + (↑i : Int))) (↑n : Int)) no)))) (Int.tmod (IntKind.wrap IntKind.i64 ((↑first : Int) + (↑i : Int))) (↑n : Int)) == decide ((↑i : Int) < IntKind.wrap IntKind.i64 ((↑n : Int) - (1 : Int))))
                          (T.ret
                            (Ex.ret,
                              St.mk [((0 : Nat), AV.int IntKind.i64 (↑n : Int)), ((1 : Nat), AV.int IntKind.i64 (↑first : Int)), ((2 : Nat), AV.bool back), ((3 : Nat), AV.int IntKind.i64 no), ((9 : Nat), AV.ptr (0 : Nat) (0 : Nat) (0 : Nat) (0 : Nat)), ((10 : Nat), AV.int IntKind.i64 (↑i : Int))]
                                [some
                                    (Blk.mk true [AV.int IntKind.i64 (AL.n (bar (stA (alB s)) (Int.tmod (IntKind.wrap IntKind.i64 ((↑first : Int) + (↑i : Int))) (↑n : Int)) no))] (1 : Nat) (96 : Nat) (fun j => [AV.bool (AL.B (bar (stA (alB s)) (Int.tmod (IntKind.wrap IntKind.i64 ((↑first : Int) + (↑i : Int))) (↑n : Int)) no) j)])
                                      [AV.int IntKind.i64 (AL.c (bar (stA (alB s)) (Int.tmod (IntKind.wrap IntKind.i64 ((↑first : Int) + (↑i : Int))) (↑n : Int)) no)), AV.int IntKind.i64 (AL.w (bar (stA (alB s)) (Int.tmod (IntKind.wrap IntKind.i64 ((↑first : Int) + (↑i : Int))) (↑n : Int)) no)),
                                        AV.int IntKind.i64 (AL.l (bar (stA (alB s)) (Int.tmod (IntKind.wrap IntKind.i64 ((↑first : Int) + (↑i : Int))) (↑n : Int)) no)), AV.bool (AL.d (bar (stA (alB s)) (Int.tmod (IntKind.wrap IntKind.i64 ((↑first : Int) + (↑i : Int))) (↑n : Int)) no))])]))
                          (T.ret
                            (Ex.norm,
                              St.mk [((0 : Nat), AV.int IntKind.i64 (↑n : Int)), ((1 : Nat), AV.int IntKind.i64 (↑first : Int)), ((2 : Nat), AV.bool back), ((3 : Nat), AV.int IntKind.i64 no), ((9 : Nat), AV.ptr (0 : Nat) (0 : Nat) (0 : Nat) (0 : Nat)), ((10 : Nat), AV.int IntKind.i64 (IntKind.wrap IntKind.i64 ((↑i : Int) + (1 : Int))))]
                                [some
                                    (Blk.mk true [AV.int IntKind.i64 (AL.n (bar (stA (alB s)) (Int.tmod (IntKind.wrap IntKind.i64 ((↑first : Int) + (↑i : Int))) (↑n : Int)) no))] (1 : Nat) (96 : Nat) (fun j => [AV.bool (AL.B (bar (stA (alB s)) (Int.tmod (IntKind.wrap IntKind.i64 ((↑first : Int) + (↑i : Int))) (↑n : Int)) no) j)])
                                      [AV.int IntKind.i64 (AL.c (bar (stA (alB s)) (Int.tmod (IntKind.wrap IntKind.i64 ((↑first : Int) + (↑i : Int))) (↑n : Int)) no)), AV.int IntKind.i64 (AL.w (bar (stA (alB s)) (Int.tmod (IntKind.wrap IntKind.i64 ((↑first : Int) + (↑i : Int))) (↑n : Int)) no)),
                                        AV.int IntKind.i64 (AL.l (bar (stA (alB s)) (Int.tmod (IntKind.wrap IntKind.i64 ((↑first : Int) + (↑i : Int))) (↑n : Int)) no)), AV.bool (AL.d (bar (stA (alB s)) (Int.tmod (IntKind.wrap IntKind.i64 ((↑first : Int) + (↑i : Int))) (↑n : Int)) no))])])))))))))))))
    (T.ret
      (Ex.exit (0 : Nat),
        St.mk [((0 : Nat), AV.int IntKind.i64 (↑n : Int)), ((1 : Nat), AV.int IntKind.i64 (↑first : Int)), ((2 : Nat), AV.bool back), ((3 : Nat), AV.int IntKind.i64 no), ((9 : Nat), AV.ptr (0 : Nat) (0 : Nat) (0 : Nat) (0 : Nat)), ((10 : Nat), AV.int IntKind.i64 (↑i : Int))]
          [some (Blk.mk true [AV.int IntKind.i64 (AL.n s)] (1 : Nat) (96 : Nat) (fun j => [AV.bool (AL.B s j)]) [AV.int IntKind.i64 (AL.c s), AV.int IntKind.i64 (AL.w s), AV.int IntKind.i64 (AL.l s), AV.bool (AL.d s)])])) := by
  kernel_rfl

theorem wi_fn (n first : Int) (back : Bool) (no : Int) : afn Try.prog wiE Try.f8 (codeOf Try.f8) [.int .i64 n, .int .i64 first, .bool back, .int .i64 no] [] = 
  T.chk true
    (T.chk (decide (IntKind.wrap IntKind.i64 ((1 : Int) + if (96 : Int) < (1 : Int) then (0 : Int) else n % (96 : Int)) ≤ (9223372036854775807 : Int)))
      (T.need
        (∃ ρ,
          SubSt (0 : Nat) ρ
            (St.mk
              [((0 : Nat), AV.int IntKind.i64 (IntKind.wrap IntKind.i64 ((1 : Int) + if (96 : Int) < (1 : Int) then (0 : Int) else n % (96 : Int)))),
                ((1 : Nat), AV.int IntKind.i64 (if IntKind.wrap IntKind.i64 ((1 : Int) + if (96 : Int) < (1 : Int) then (0 : Int) else n % (96 : Int)) < (1 : Int) then (0 : Int) else first % IntKind.wrap IntKind.i64 ((1 : Int) + if (96 : Int) < (1 : Int) then (0 : Int) else n % (96 : Int)))), ((2 : Nat), AV.bool back), ((3 : Nat), AV.int IntKind.i64 no),
                ((9 : Nat), AV.ptr (0 : Nat) (0 : Nat) (0 : Nat) (0 : Nat)), ((10 : Nat), AV.int IntKind.i64 (0 : Int))]
              [some (Blk.mk true [AV.int IntKind.i64 (clampA (IntKind.wrap IntKind.i64 ((1 : Int) + if (96 : Int) < (1 : Int) then (0 : Int) else n % (96 : Int))))] (1 : Nat) (96 : Nat) (fun j => [AV.bool false]) [AV.int IntKind.i64 (0 : Int), AV.int IntKind.i64 (0 : Int), AV.int IntKind.i64 (0 : Int), AV.bool false])])
            (wiSt
              (WI.mk false (Int.toNat (IntKind.wrap IntKind.i64 ((1 : Int) + if (96 : Int) < (1 : Int) then (0 : Int) else n % (96 : Int)))) (Int.toNat (if IntKind.wrap IntKind.i64 ((1 : Int) + if (96 : Int) < (1 : Int) then (0 : Int) else n % (96 : Int)) < (1 : Int) then (0 : Int) else first % IntKind.wrap IntKind.i64 ((1 : Int) + if (96 : Int) < (1 : Int) then (0 : Int) else n % (96 : Int))))
                (boolA (AV.bool back)) no (0 : Nat))))
        (T.need
          (wiInv
            (WI.mk false (Int.toNat (IntKind.wrap IntKind.i64 ((1 : Int) + if (96 : Int) < (1 : Int) then (0 : Int) else n % (96 : Int)))) (Int.toNat (if IntKind.wrap IntKind.i64 ((1 : Int) + if (96 : Int) < (1 : Int) then (0 : Int) else n % (96 : Int)) < (1 : Int) then (0 : Int) else first % IntKind.wrap IntKind.i64 ((1 : Int) + if (96 : Int) < (1 : Int) then (0 : Int) else n % (96 : Int))))
              (boolA (AV.bool back)) no (0 : Nat)))
          (T.need (IsAl (Blk.mk true [AV.int IntKind.i64 (↑(Int.toNat (IntKind.wrap IntKind.i64 ((1 : Int) + if (96 : Int) < (1 : Int) then (0 : Int) else n % (96 : Int)))) : Int)] (1 : Nat) (96 : Nat) (fun j => [AV.bool false]) [AV.int IntKind.i64 (0 : Int), AV.int IntKind.i64 no, AV.int IntKind.i64 no, AV.bool true]))
            (T.chk (decide (intA (List.getD [AV.int IntKind.i64 (↑(Int.toNat (IntKind.wrap IntKind.i64 ((1 : Int) + if (96 : Int) < (1 : Int) then (0 : Int) else n % (96 : Int)))) : Int)] (0 : Nat) AV.ff) ≤ (96 : Int)))
              (T.ite
                (!barR (stA (alB (fuW (Int.toNat (IntKind.wrap IntKind.i64 ((1 : Int) + if (96 : Int) < (1 : Int) then (0 : Int) else n % (96 : Int)))) no)))
                    (↑(Int.toNat (if IntKind.wrap IntKind.i64 ((1 : Int) + if (96 : Int) < (1 : Int) then (0 : Int) else n % (96 : Int)) < (1 : Int) then (0 : Int) else first % IntKind.wrap IntKind.i64 ((1 : Int) + if (96 : Int) < (1 : Int) then (0 : Int) else n % (96 : Int)))) : Int) no)
                (T.need
                  (IsAl
                    (Blk.mk true
                      [AV.int IntKind.i64
                          (AL.n
                            (bar (stA (alB (fuW (Int.toNat (IntKind.wrap IntKind.i64 ((1 : Int) + if (96 : Int) < (1 : Int) then (0 : Int) else n % (96 : Int)))) no)))
                              (↑(Int.toNat (if IntKind.wrap IntKind.i64 ((1 : Int) + if (96 : Int) < (1 : Int) then (0 : Int) else n % (96 : Int)) < (1 : Int) then (0 : Int) else first % IntKind.wrap IntKind.i64 ((1 : Int) + if (96 : Int) < (1 : Int) then (0 : Int) else n % (96 : Int)))) : Int) no))]
                      (1 : Nat) (96 : Nat)
                      (fun j =>
                        [AV.bool
                            (AL.B
                              (bar (stA (alB (fuW (Int.toNat (IntKind.wrap IntKind.i64 ((1 : Int) + if (96 : Int) < (1 : Int) then (0 : Int) else n % (96 : Int)))) no)))
                                (↑(Int.toNat (if IntKind.wrap IntKind.i64 ((1 : Int) + if (96 : Int) < (1 : Int) then (0 : Int) else n % (96 : Int)) < (1 : Int) then (0 : Int) else first % IntKind.wrap IntKind.i64 ((1 : Int) + if (96 : Int) < (1 : Int) then (0 : Int) else n % (96 : Int)))) : Int) no)
                              j)])
                      [AV.int IntKind.i64
                          (AL.c
                            (bar (stA (alB (fuW (Int.toNat (IntKind.wrap IntKind.i64 ((1 : Int) + if (96 : Int) < (1 : Int) then (0 : Int) else n % (96 : Int)))) no)))
                              (↑(Int.toNat (if IntKind.wrap IntKind.i64 ((1 : Int) + if (96 : Int) < (1 : Int) then (0 : Int) else n % (96 : Int)) < (1 : Int) then (0 : Int) else first % IntKind.wrap IntKind.i64 ((1 : Int) + if (96 : Int) < (1 : Int) then (0 : Int) else n % (96 : Int)))) : Int) no)),
                        AV.int IntKind.i64
                          (AL.w
                            (bar (stA (alB (fuW (Int.toNat (IntKind.wrap IntKind.i64 ((1 : Int) + if (96 : Int) < (1 : Int) then (0 : Int) else n % (96 : Int)))) no)))
                              (↑(Int.toNat (if IntKind.wrap IntKind.i64 ((1 : Int) + if (96 : Int) < (1 : Int) then (0 : Int) else n % (96 : Int)) < (1 : Int) then (0 : Int) else first % IntKind.wrap IntKind.i64 ((1 : Int) + if (96 : Int) < (1 : Int) then (0 : Int) else n % (96 : Int)))) : Int) no)),
                        AV.int IntKind.i64
                          (AL.l
                            (bar (stA (alB (fuW (Int.toNat (IntKind.wrap IntKind.i64 ((1 : Int) + if (96 : Int) < (1 : Int) then (0 : Int) else n % (96 : Int)))) no)))
                              (↑(Int.toNat (if IntKind.wrap IntKind.i64 ((1 : Int) + if (96 : Int) < (1 : Int) then (0 : Int) else n % (96 : Int)) < (1 : Int) then (0 : Int) else first % IntKind.wrap IntKind.i64 ((1 : Int) + if (96 : Int) < (1 : Int) then (0 : Int) else n % (96 : Int)))) : Int) no)),
                        AV.bool
                          (AL.d
                            (bar (stA (alB (fuW (Int.toNat (IntKind.wrap IntKind.i64 ((1 : Int) + if (96 : Int) < (1 : Int) then (0 : Int) else n % (96 : Int)))) no)))
                              (↑(Int.toNat (if IntKind.wrap IntKind.i64 ((1 : Int) + if (96 : Int) < (1 : Int) then (0 : Int) else n % (96 : Int)) < (1 : Int) then (0 : Int) else first % IntKind.wrap IntKind.i64 ((1 : Int) + if (96 : Int) < (1 : Int) then (0 : Int) else n % (96 : Int)))) : Int) no))]))
                  (T.chk
                    (decide
                      (intA
                          (List.getD
                            (renL (out [(0 : Nat)] (List.length [some (alB (fuW (Int.toNat (IntKind.wrap IntKind.i64 ((1 : Int) + if (96 : Int) < (1 : Int) then (0 : Int) else n % (96 : Int)))) no))]))
                              [AV.int IntKind.i64
                                  (AL.n
                                    (bar (stA (alB (fuW (Int.toNat (IntKind.wrap IntKind.i64 ((1 : Int) + if (96 : Int) < (1 : Int) then (0 : Int) else n % (96 : Int)))) no)))
                                      (↑(Int.toNat (if IntKind.wrap IntKind.i64 ((1 : Int) + if (96 : Int) < (1 : Int) then (0 : Int) else n % (96 : Int)) < (1 : Int) then (0 : Int) else first % IntKind.wrap IntKind.i64 ((1 : Int) + if (96 : Int) < (1 : Int) then (0 : Int) else n % (96 : Int)))) : Int) no))])
                            (0 : Nat) AV.ff) ≤
                        (96 : Int)))
                    (T.ite
                      (!blkA
                          (stA
                            (renB (out [(0 : Nat)] (List.length [some (alB (fuW (Int.toNat (IntKind.wrap IntKind.i64 ((1 : Int) + if (96 : Int) < (1 : Int) then (0 : Int) else n % (96 : Int)))) no))]))
                              (alB
                                (bar (stA (alB (fuW (Int.toNat (IntKind.wrap IntKind.i64 ((1 : Int) + if (96 : Int) < (1 : Int) then (0 : Int) else n % (96 : Int)))) no)))
                                  (↑(Int.toNat (if IntKind.wrap IntKind.i64 ((1 : Int) + if (96 : Int) < (1 : Int) then (0 : Int) else n % (96 : Int)) < (1 : Int) then (0 : Int) else first % IntKind.wrap IntKind.i64 ((1 : Int) + if (96 : Int) < (1 : Int) then (0 : Int) else n % (96 : Int)))) : Int) no))))
                          (↑(Int.toNat (if IntKind.wrap IntKind.i64 ((1 : Int) + if (96 : Int) < (1 : Int) then (0 : Int) else n % (96 : Int)) < (1 : Int) then (0 : Int) else first % IntKind.wrap IntKind.i64 ((1 : Int) + if (96 : Int) < (1 : Int) then (0 : Int) else n % (96 : Int)))) : Int))
                      (T.ret
                        (AV.bool true,
                          [some
                              (Blk.mk true
                                [AV.int IntKind.i64
                                    (AL.n
                                      (bar (stA (alB (fuW (Int.toNat (IntKind.wrap IntKind.i64 ((1 : Int) + if (96 : Int) < (1 : Int) then (0 : Int) else n % (96 : Int)))) no)))
                                        (↑(Int.toNat (if IntKind.wrap IntKind.i64 ((1 : Int) + if (96 : Int) < (1 : Int) then (0 : Int) else n % (96 : Int)) < (1 : Int) then (0 : Int) else first % IntKind.wrap IntKind.i64 ((1 : Int) + if (96 : Int) < (1 : Int) then (0 : Int) else n % (96 : Int)))) : Int) no))]
                                (1 : Nat) (96 : Nat)
                                (fun j =>
                                  [AV.bool
                                      (AL.B
                                        (bar (stA (alB (fuW (Int.toNat (IntKind.wrap IntKind.i64 ((1 : Int) + if (96 : Int) < (1 : Int) then (0 : Int) else n % (96 : Int)))) no)))
                                          (↑(Int.toNat (if IntKind.wrap IntKind.i64 ((1 : Int) + if (96 : Int) < (1 : Int) then (0 : Int) else n % (96 : Int)) < (1 : Int) then (0 : Int) else first % IntKind.wrap IntKind.i64 ((1 : Int) + if (96 : Int) < (1 : Int) then (0 : Int) else n % (96 : Int)))) : Int) no)
                                        j)])
                                [AV.int IntKind.i64
                                    (AL.c
                                      (bar (stA (alB (fuW (Int.toNat (IntKind.wrap IntKind.i64 ((1 : Int) + if (96 : Int) < (1 : Int) then (0 : Int) else n % (96 : Int)))) no)))
                                        (↑(Int.toNat (if IntKind.wrap IntKind.i64 ((1 : Int) + if (96 : Int) < (1 : Int) then (0 : Int) else n % (96 : Int)) < (1 : Int) then (0 : Int) else first % IntKind.wrap IntKind.i64 ((1 : Int) + if (96 : Int) < (1 : Int) then (0 : Int) else n % (96 : Int)))) : Int) no)),
                                  AV.int IntKind.i64
                                    (AL.w
                                      (bar (stA (alB (fuW (Int.toNat (IntKind.wrap IntKind.i64 ((1 : Int) + if (96 : Int) < (1 : Int) then (0 : Int) else n % (96 : Int)))) no)))
                                        (↑(Int.toNat (if IntKind.wrap IntKind.i64 ((1 : Int) + if (96 : Int) < (1 : Int) then (0 : Int) else n % (96 : Int)) < (1 : Int) then (0 : Int) else first % IntKind.wrap IntKind.i64 ((1 : Int) + if (96 : Int) < (1 : Int) then (0 : Int) else n % (96 : Int)))) : Int) no)),
                                  AV.int IntKind.i64
                                    (AL.l
                                      (bar (stA (alB (fuW (Int.toNat (IntKind.wrap IntKind.i64 ((1 : Int) + if (96 : Int) < (1 : Int) then (0 : Int) else n % (96 : Int)))) no)))
                                        (↑(Int.toNat (if IntKind.wrap IntKind.i64 ((1 : Int) + if (96 : Int) < (1 : Int) then (0 : Int) else n % (96 : Int)) < (1 : Int) then (0 : Int) else first % IntKind.wrap IntKind.i64 ((1 : Int) + if (96 : Int) < (1 : Int) then (0 : Int) else n % (96 : Int)))) : Int) no)),
                                  AV.bool
                                    (AL.d
                                      (bar (stA (alB (fuW (Int.toNat (IntKind.wrap IntKind.i64 ((1 : Int) + if (96 : Int) < (1 : Int) then (0 : Int) else n % (96 : Int)))) no)))
                                        (↑(Int.toNat (if IntKind.wrap IntKind.i64 ((1 : Int) + if (96 : Int) < (1 : Int) then (0 : Int) else n % (96 : Int)) < (1 : Int) then (0 : Int) else first % IntKind.wrap IntKind.i64 ((1 : Int) + if (96 : Int) < (1 : Int) then (0 : Int) else n % (96 : Int)))) : Int) no))])]))
                      (T.ret
                        (AV.ff,
                          [some
                              (Blk.mk true
                                [AV.int IntKind.i64
                                    (AL.n
                                      (bar (stA (alB (fuW (Int.toNat (IntKind.wrap IntKind.i64 ((1 : Int) + if (96 : Int) < (1 : Int) then (0 : Int) else n % (96 : Int)))) no)))
                                        (↑(Int.toNat (if IntKind.wrap IntKind.i64 ((1 : Int) + if (96 : Int) < (1 : Int) then (0 : Int) else n % (96 : Int)) < (1 : Int) then (0 : Int) else first % IntKind.wrap IntKind.i64 ((1 : Int) + if (96 : Int) < (1 : Int) then (0 : Int) else n % (96 : Int)))) : Int) no))]
                                (1 : Nat) (96 : Nat)
                                (fun j =>
                                  [AV.bool
                                      (AL.B
                                        (bar (stA (alB (fuW (Int.toNat (IntKind.wrap IntKind.i64 ((1 : Int) + if (96 : Int) < (1 : Int) then (0 : Int) else n % (96 : Int)))) no)))
                                          (↑(Int.toNat (if IntKind.wrap IntKind.i64 ((1 : Int) + if (96 : Int) < (1 : Int) then (0 : Int) else n % (96 : Int)) < (1 : Int) then (0 : Int) else first % IntKind.wrap IntKind.i64 ((1 : Int) + if (96 : Int) < (1 : Int) then (0 : Int) else n % (96 : Int)))) : Int) no)
                                        j)])
                                [AV.int IntKind.i64
                                    (AL.c
                                      (bar (stA (alB (fuW (Int.toNat (IntKind.wrap IntKind.i64 ((1 : Int) + if (96 : Int) < (1 : Int) then (0 : Int) else n % (96 : Int)))) no)))
                                        (↑(Int.toNat (if IntKind.wrap IntKind.i64 ((1 : Int) + if (96 : Int) < (1 : Int) then (0 : Int) else n % (96 : Int)) < (1 : Int) then (0 : Int) else first % IntKind.wrap IntKind.i64 ((1 : Int) + if (96 : Int) < (1 : Int) then (0 : Int) else n % (96 : Int)))) : Int) no)),
                                  AV.int IntKind.i64
                                    (AL.w
                                      (bar (stA (alB (fuW (Int.toNat (IntKind.wrap IntKind.i64 ((1 : Int) + if (96 : Int) < (1 : Int) then (0 : Int) else n % (96 : Int)))) no)))
                                        (↑(Int.toNat (if IntKind.wrap IntKind.i64 ((1 : Int) + if (96 : Int) < (1 : Int) then (0 : Int) else n % (96 : Int)) < (1 : Int) then (0 : Int) else first % IntKind.wrap IntKind.i64 ((1 : Int) + if (96 : Int) < (1 : Int) then (0 : Int) else n % (96 : Int)))) : Int) no)),
                                  AV.int IntKind.i64
                                    (AL.l
                                      (bar (stA (alB (fuW (Int.toNat (IntKind.wrap IntKind.i64 ((1 : Int) + if (96 : Int) < (1 : Int) then (0 : Int) else n % (96 : Int)))) no)))
                                        (↑(Int.toNat (if IntKind.wrap IntKind.i64 ((1 : Int) + if (96 : Int) < (1 : Int) then (0 : Int) else n % (96 : Int)) < (1 : Int) then (0 : Int) else first % IntKind.wrap IntKind.i64 ((1 : Int) + if (96 : Int) < (1 : Int) then (0 : Int) else n % (96 : Int)))) : Int) no)),
                                  AV.bool
                                    (AL.d
                                      (bar (stA (alB (fuW (Int.toNat (IntKind.wrap IntKind.i64 ((1 : Int) + if (96 : Int) < (1 : Int) then (0 : Int) else n % (96 : Int)))) no)))
                                        (↑(Int.toNat (if IntKind.wrap IntKind.i64 ((1 : Int) + if (96 : Int) < (1 : Int) then (0 : Int) else n % (96 : Int)) < (1 : Int) then (0 : Int) else first % IntKind.wrap IntKind.i64 ((1 : Int) + if (96 : Int) < (1 : Int) then (0 : Int) else n % (96 : Int)))) : Int) no))])])))))
                (T.ret
                  (AV.ff,
                    [some
                        (Blk.mk true
                          [AV.int IntKind.i64
                              (AL.n
                                (bar (stA (alB (fuW (Int.toNat (IntKind.wrap IntKind.i64 ((1 : Int) + if (96 : Int) < (1 : Int) then (0 : Int) else n % (96 : Int)))) no)))
                                  (↑(Int.toNat (if IntKind.wrap IntKind.i64 ((1 : Int) + if (96 : Int) < (1 : Int) then (0 : Int) else n % (96 : Int)) < (1 : Int) then (0 : Int) else first % IntKind.wrap IntKind.i64 ((1 : Int) + if (96 : Int) < (1 : Int) then (0 : Int) else n % (96 : Int)))) : Int) no))]
                          (1 : Nat) (96 : Nat)
                          (fun j =>
                            [AV.bool
                                (AL.B
                                  (bar (stA (alB (fuW (Int.toNat (IntKind.wrap IntKind.i64 ((1 : Int) + if (96 : Int) < (1 : Int) then (0 : Int) else n % (96 : Int)))) no)))
                                    (↑(Int.toNat (if IntKind.wrap IntKind.i64 ((1 : Int) + if (96 : Int) < (1 : Int) then (0 : Int) else n % (96 : Int)) < (1 : Int) then (0 : Int) else first % IntKind.wrap IntKind.i64 ((1 : Int) + if (96 : Int) < (1 : Int) then (0 : Int) else n % (96 : Int)))) : Int) no)
                                  j)])
                          [AV.int IntKind.i64
                              (AL.c
                                (bar (stA (alB (fuW (Int.toNat (IntKind.wrap IntKind.i64 ((1 : Int) + if (96 : Int) < (1 : Int) then (0 : Int) else n % (96 : Int)))) no)))
                                  (↑(Int.toNat (if IntKind.wrap IntKind.i64 ((1 : Int) + if (96 : Int) < (1 : Int) then (0 : Int) else n % (96 : Int)) < (1 : Int) then (0 : Int) else first % IntKind.wrap IntKind.i64 ((1 : Int) + if (96 : Int) < (1 : Int) then (0 : Int) else n % (96 : Int)))) : Int) no)),
                            AV.int IntKind.i64
                              (AL.w
                                (bar (stA (alB (fuW (Int.toNat (IntKind.wrap IntKind.i64 ((1 : Int) + if (96 : Int) < (1 : Int) then (0 : Int) else n % (96 : Int)))) no)))
                                  (↑(Int.toNat (if IntKind.wrap IntKind.i64 ((1 : Int) + if (96 : Int) < (1 : Int) then (0 : Int) else n % (96 : Int)) < (1 : Int) then (0 : Int) else first % IntKind.wrap IntKind.i64 ((1 : Int) + if (96 : Int) < (1 : Int) then (0 : Int) else n % (96 : Int)))) : Int) no)),
                            AV.int IntKind.i64
                              (AL.l
                                (bar (stA (alB (fuW (Int.toNat (IntKind.wrap IntKind.i64 ((1 : Int) + if (96 : Int) < (1 : Int) then (0 : Int) else n % (96 : Int)))) no)))
                                  (↑(Int.toNat (if IntKind.wrap IntKind.i64 ((1 : Int) + if (96 : Int) < (1 : Int) then (0 : Int) else n % (96 : Int)) < (1 : Int) then (0 : Int) else first % IntKind.wrap IntKind.i64 ((1 : Int) + if (96 : Int) < (1 : Int) then (0 : Int) else n % (96 : Int)))) : Int) no)),
                            AV.bool
                              (AL.d
                                (bar (stA (alB (fuW (Int.toNat (IntKind.wrap IntKind.i64 ((1 : Int) + if (96 : Int) < (1 : Int) then (0 : Int) else n % (96 : Int)))) no)))
                                  (↑(Int.toNat (if IntKind.wrap IntKind.i64 ((1 : Int) + if (96 : Int) < (1 : Int) then (0 : Int) else n % (96 : Int)) < (1 : Int) then (0 : Int) else first % IntKind.wrap IntKind.i64 ((1 : Int) + if (96 : Int) < (1 : Int) then (0 : Int) else n % (96 : Int)))) : Int) no))])])))))))) := by
  kernel_rfl

theorem mod2 {a n : Nat} (h : a < 2 * n) : a % n = if a < n then a else a - n := by
  split
  · exact Nat.mod_eq_of_lt (by omega)
  · rw [Nat.mod_eq_sub_mod (by omega)]; exact Nat.mod_eq_of_lt (by omega)

theorem key_lt {n first t : Nat} {back : Bool} (hf : first < n) (ht : t < n) : keyW n first back t < n := by
  unfold keyW
  rw [mod2 (by omega)]
  split <;> split <;> omega

theorem pos_key {n first t j : Nat} {back : Bool} (hf : first < n) (ht : t < n) (hj : j < n) : posW n first back j = t ↔ j = keyW n first back t := by
  unfold posW keyW
  cases back with
  | true =>
    simp only [if_true]
    rw [mod2 (by omega), mod2 (by omega)]
    split <;> split <;> omega
  | false =>
    simp only [Bool.false_eq_true, if_false]
    rw [mod2 (by omega), mod2 (by omega)]
    split <;> split <;> omega

theorem wi_nrf {n first i : Nat} {back : Bool} {no : Int} (hn : 1 ≤ n) (h96 : n ≤ 96) (hf : first < n) (hi : i < n) : ¬ rfA (wiA n first back no i) (keyW n first back i) no := by
  have := key_lt (back := back) hf hi
  unfold rfA wiA
  dsimp only
  rintro (h | h | ⟨h, h'⟩ | ⟨h, h'⟩)
  · omega
  · omega
  · cases h
  · rw [if_neg (by omega)] at h'; omega

theorem wi_B1 {n first i : Nat} {back : Bool} {no : Int} (hn : 1 ≤ n) (h96 : n ≤ 96) (hf : first < n) (hi : i < n) (j : Nat) : B1A (wiA n first back no i) no j = (wiA n first back no i).B j := by
  unfold B1A
  split
  · rfl
  · rename_i h
    by_cases h0 : i = 0
    · subst h0; simp [wiA]
    · simp [wiA, h0] at h

theorem wi_hit {n first i : Nat} {back : Bool} {no : Int} (hn : 1 ≤ n) (h96 : n ≤ 96) (hf : first < n) (hi : i < n) : B1A (wiA n first back no i) no (keyW n first back i) = false := by
  rw [wi_B1 hn h96 hf hi]
  have h1 := key_lt (back := back) hf hi
  have h2 := (pos_key (back := back) hf hi h1).2 rfl
  simp [wiA, h2]

theorem wi_c2 {n first i : Nat} {back : Bool} {no : Int} (hn : 1 ≤ n) (h96 : n ≤ 96) (hf : first < n) (hi : i < n) : c2A (wiA n first back no i) (keyW n first back i) no = i + 1 := by
  unfold c2A
  rw [Int.toNat_natCast, wi_hit hn h96 hf hi]
  have : c1A (wiA n first back no i) no = i := by
    by_cases h0 : i = 0
    · subst h0; simp [c1A, wiA]
    · simp [c1A, wiA, h0]
  rw [this]
  simp only [Bool.false_eq_true, if_false]
  exact IntWalk.i64_in _ (by omega)

theorem wi_full {n first i : Nat} {back : Bool} {no : Int} (hn : 1 ≤ n) (h96 : n ≤ 96) (hf : first < n) (hi : i < n) (h : i + 1 = n) : barR (wiA n first back no i) (keyW n first back i) no = true ∧ bar (wiA n first back no i) (keyW n first back i) no = fuW n no := by
  have h1 := wi_nrf (no := no) (back := back) hn h96 hf hi
  have h2 : fuA (wiA n first back no i) (keyW n first back i) no := by
    unfold fuA; rw [wi_c2 hn h96 hf hi]; show ¬ (i : Int) + 1 < (n : Int); omega
  exact ⟨by simp [barR, h1, h2], by rw [bar, if_neg h1, if_pos h2]; rfl⟩

theorem wi_more {n first i : Nat} {back : Bool} {no : Int} (hn : 1 ≤ n) (h96 : n ≤ 96) (hf : first < n) (hi : i < n) (h : i + 1 < n) : barR (wiA n first back no i) (keyW n first back i) no = false ∧ bar (wiA n first back no i) (keyW n first back i) no = moreA (wiA n first back no i) (keyW n first back i) no := by
  have h1 := wi_nrf (no := no) (back := back) hn h96 hf hi
  have h2 : ¬ fuA (wiA n first back no i) (keyW n first back i) no := by
    unfold fuA; rw [wi_c2 hn h96 hf hi]; show ¬ ¬ (i : Int) + 1 < (n : Int); omega
  exact ⟨by simp [barR, h2], by rw [bar, if_neg h1, if_neg h2]⟩

theorem wi_before {n first i : Nat} {back : Bool} {no : Int} (hn : 1 ≤ n) (h96 : n ≤ 96) (hf : first < n) (hi : i < n) : blkA (wiA n first back no i) (keyW n first back i) = false := by
  have := wi_hit (no := no) (back := back) hn h96 hf hi
  rw [wi_B1 hn h96 hf hi] at this
  simp [blkA, this]

theorem wi_after {n first i : Nat} {back : Bool} {no : Int} (hn : 1 ≤ n) (h96 : n ≤ 96) (hf : first < n) (hi : i < n) : blkA (moreA (wiA n first back no i) (keyW n first back i) no) (keyW n first back i) = true := by
  have := key_lt (back := back) hf hi
  simp [blkA, moreA, wiA]; omega

theorem wi_next {n first i : Nat} {back : Bool} {no : Int} (hn : 1 ≤ n) (h96 : n ≤ 96) (hf : first < n) (hi : i < n) (m : AM) (h : m.get 0 = some (alB (moreA (wiA n first back no i) (keyW n first back i) no))) (hm : i + 1 < n) : Sub 0 id m [some (alB (wiA n first back no (i + 1)))] := by
  refine Sub.ofId ⟨⟨_, h, al_blk rfl (fun j _ => ?_) ?_ ?_ rfl rfl⟩, trivial⟩ (Nat.zero_le _)
  · show (if j = (keyW n first back i : Int).toNat then true else B1A (wiA n first back no i) no j) = (decide (j < n) && decide (posW n first back j < i + 1))
    have hk := key_lt (back := back) hf hi
    rw [wi_B1 hn h96 hf hi, Int.toNat_natCast]
    by_cases hj : j = keyW n first back i
    · rw [if_pos hj]
      subst hj
      have := (pos_key (back := back) hf hi hk).2 rfl
      simp [hk, this]
    · rw [if_neg hj]
      show (decide (j < n) && decide (posW n first back j < i)) = _
      by_cases hjn : j < n
      · have := mt (pos_key (back := back) hf hi hjn).1 hj
        have e : (posW n first back j < i + 1) = (posW n first back j < i) := by simp; omega
        simp [e]
      · simp [hjn]
  · show c2A (wiA n first back no i) (keyW n first back i) no = ((i + 1 : Nat) : Int)
    rw [wi_c2 hn h96 hf hi]; rfl
  · show no = if i + 1 = 0 then 0 else no
    rw [if_neg (by omega)]
theorem fu_sub {m : AM} {n : Nat} {no : Int} (h : m.get 0 = some (alB (fuW n no))) : Sub 0 id m [some (alB (fuW n no))] :=
  Sub.ofId ⟨⟨_, h, al_blk rfl (fun _ _ => rfl) rfl rfl rfl rfl⟩, trivial⟩ (Nat.zero_le _)
theorem fu_blk {n : Nat} {no : Int} (k : Int) : blkA (fuW n no) k = false := by simp [blkA, fuW]

theorem wi_loop : LoopOK Try.prog wiE (loopAt (codeOf Try.f8) 0) := by
  refine loopSumm_ok (E := wiE) (laE_ok _) (noLoops (by kernel_rfl)) wiSt wiInv (fun x => x.n - x.i) wiPick wiEnd ?_ (by kernel_rfl)
  rintro ⟨z, n, first, back, no, i⟩ ⟨hn, h96, hf, hz⟩ Q hq
  dsimp only at hn h96 hf hz
  refine round_keep [0, 1, 2, 3, 9, 10] ?_
  cases z with
  | true =>
    have hz : i = n := hz
    subst hz
    rw [show wiSt ⟨true, i, first, back, no, i⟩ = wi1 i first back no i (fuW i no) from rfl, wi_tree]
    refine T.hiteP (fun h => absurd h (by omega)) (fun _ => ?_)
    exact Round.out id ⟨[(1, .int .i64 first), (3, .int .i64 no), (9, .ptr 0 0 0 0)], [some (alB (fuW i no))]⟩ (SubSt.mk (by simp [SubFr, slotAt, ren, below]) (fu_sub rfl)) hq
  | false =>
    have hi : i < n := hz
    rw [show wiSt ⟨false, n, first, back, no, i⟩ = wi1 n first back no i (wiA n first back no i) from rfl, wi_tree]
    have w1 : IntKind.wrap .i64 ((first : Int) + (i : Int)) = ((first + i : Nat) : Int) := by rw [IntWalk.i64_in _ (by omega)]; omega
    have w2 : Int.tmod ((first + i : Nat) : Int) (n : Int) = (((first + i) % n : Nat) : Int) := by rw [Int.tmod_eq_emod_of_nonneg (by omega)]; rfl
    have w3 : IntKind.wrap .i64 ((n : Int) - 1) = ((n - 1 : Nat) : Int) := by rw [IntWalk.i64_in _ (by omega)]; omega
    have hm := Nat.mod_lt (first + i) (show 0 < n by omega)
    have w4 : IntKind.wrap .i64 (((n - 1 : Nat) : Int) - (((first + i) % n : Nat) : Int)) = ((n - 1 - (first + i) % n : Nat) : Int) := by rw [IntWalk.i64_in _ (by omega)]; omega
    have w5 : IntKind.wrap IntKind.i64 ((i : Int) + 1) = ((i + 1 : Nat) : Int) := by rw [IntWalk.i64_in _ (by omega)]; omega
    have k1 : n - 1 - (first + i) % n = keyW n first true i := by simp [keyW]
    have k2 : (first + i) % n = keyW n first false i := by simp [keyW]
    have hgo1 : i + 1 < n → ∀ b m, m.get 0 = some (alB (moreA (wiA n first back no i) (keyW n first back i) no)) → Ox.Alike b (.bool back) → Round wiE wiSt wiInv (fun x => x.n - x.i) wiEnd Q ⟨false, n, first, back, no, i⟩ (.norm, ⟨[(0, .int .i64 n), (1, .int .i64 first), (2, b), (3, .int .i64 no), (9, .ptr 0 0 0 0), (10, .int .i64 ((i + 1 : Nat) : Int))], m⟩) := fun h b m hm hb =>
      Round.go ⟨false, n, first, back, no, i + 1⟩ id ⟨hn, h96, hf, h⟩ (by dsimp only; omega) (SubSt.mk (by simp [wiSt, wi1, SubFr, slotAt, ren, below, hb]) (wi_next hn h96 hf hi m hm h)) hq
    have hgo2 : i + 1 = n → ∀ b m, m.get 0 = some (alB (fuW n no)) → Ox.Alike b (.bool back) → Round wiE wiSt wiInv (fun x => x.n - x.i) wiEnd Q ⟨false, n, first, back, no, i⟩ (.norm, ⟨[(0, .int .i64 n), (1, .int .i64 first), (2, b), (3, .int .i64 no), (9, .ptr 0 0 0 0), (10, .int .i64 ((i + 1 : Nat) : Int))], m⟩) := fun h b m hm hb =>
      Round.go ⟨true, n, first, back, no, i + 1⟩ id ⟨hn, h96, hf, h⟩ (by dsimp only; omega) (SubSt.mk (by simp [wiSt, wi1, SubFr, slotAt, ren, below, hb]) (fu_sub hm)) hq
    simp only [st1, st2, w1, w2, w3, w4, w5]
    refine T.hiteP (fun _ => T.hchk (by simp; omega) ?_) (fun h => absurd (by omega) h)
    have d1 : i + 1 < n → ((i : Int) == ((n - 1 : Nat) : Int)) = false ∧ decide ((i : Int) < ((n - 1 : Nat) : Int)) = true := fun h => ⟨by simp; omega, by simp; omega⟩
    have d2 : i + 1 = n → ((i : Int) == ((n - 1 : Nat) : Int)) = true ∧ decide ((i : Int) < ((n - 1 : Nat) : Int)) = false := fun h => ⟨by simp; omega, by simp; omega⟩
    cases back with
    | true =>
      refine T.hite (fun _ => ?_) (fun h => by cases h)
      simp only [k1]
      have e0 := wi_before (no := no) (back := true) hn h96 hf hi
      by_cases hm : i + 1 < n
      · obtain ⟨e1, e2⟩ := wi_more (no := no) (back := true) hn h96 hf hi hm
        have e3 := wi_after (no := no) (back := true) hn h96 hf hi
        obtain ⟨g1, g2⟩ := d1 hm
        simp only [e0, e1, e2, e3, g1, g2]
        repeat' first | refine T.hneed isAl ?_ | refine T.hiteP (fun _ => ?_) (fun _ => ?_) | refine T.hiteE (fun _ => ?_) (fun _ => ?_) | refine T.hiteN (fun _ => ?_) (fun _ => ?_) | refine T.hiteFP (fun _ => ?_) (fun _ => ?_) | refine T.hiteFE (fun _ => ?_) (fun _ => ?_) | refine T.hiteF (fun _ => ?_) (fun _ => ?_) | refine T.hite (fun _ => ?_) (fun _ => ?_) | refine T.hneed rfl ?_ | refine T.hneed IntRow.rows ?_ | refine T.hneed trivial ?_ | refine T.hchk ?_ ?_ | refine T.hall (fun _ => ?_) | refine T.hasm (fun _ => ?_)
        all_goals (try refine T.hret ?_)
        all_goals first
          | contradiction
          | exact decide_eq_true (show (n : Int) ≤ 96 by omega)
          | exact hgo1 hm _ _ rfl (by simp)
          | (simp; done)
          | rfl
      · obtain ⟨e1, e2⟩ := wi_full (no := no) (back := true) hn h96 hf hi (by omega)
        obtain ⟨g1, g2⟩ := d2 (by omega)
        simp only [e0, e1, e2, fu_blk, g1, g2]
        repeat' first | refine T.hneed isAl ?_ | refine T.hiteP (fun _ => ?_) (fun _ => ?_) | refine T.hiteE (fun _ => ?_) (fun _ => ?_) | refine T.hiteN (fun _ => ?_) (fun _ => ?_) | refine T.hiteFP (fun _ => ?_) (fun _ => ?_) | refine T.hiteFE (fun _ => ?_) (fun _ => ?_) | refine T.hiteF (fun _ => ?_) (fun _ => ?_) | refine T.hite (fun _ => ?_) (fun _ => ?_) | refine T.hneed rfl ?_ | refine T.hneed IntRow.rows ?_ | refine T.hneed trivial ?_ | refine T.hchk ?_ ?_ | refine T.hall (fun _ => ?_) | refine T.hasm (fun _ => ?_)
        all_goals (try refine T.hret ?_)
        all_goals first
          | contradiction
          | exact decide_eq_true (show (n : Int) ≤ 96 by omega)
          | exact hgo2 (by omega) _ _ rfl (by simp)
          | (simp; done)
          | rfl
    | false =>
      refine T.hite (fun h => by cases h) (fun _ => ?_)
      simp only [k2]
      have e0 := wi_before (no := no) (back := false) hn h96 hf hi
      by_cases hm : i + 1 < n
      · obtain ⟨e1, e2⟩ := wi_more (no := no) (back := false) hn h96 hf hi hm
        have e3 := wi_after (no := no) (back := false) hn h96 hf hi
        obtain ⟨g1, g2⟩ := d1 hm
        simp only [e0, e1, e2, e3, g1, g2]
        repeat' first | refine T.hneed isAl ?_ | refine T.hiteP (fun _ => ?_) (fun _ => ?_) | refine T.hiteE (fun _ => ?_) (fun _ => ?_) | refine T.hiteN (fun _ => ?_) (fun _ => ?_) | refine T.hiteFP (fun _ => ?_) (fun _ => ?_) | refine T.hiteFE (fun _ => ?_) (fun _ => ?_) | refine T.hiteF (fun _ => ?_) (fun _ => ?_) | refine T.hite (fun _ => ?_) (fun _ => ?_) | refine T.hneed rfl ?_ | refine T.hneed IntRow.rows ?_ | refine T.hneed trivial ?_ | refine T.hchk ?_ ?_ | refine T.hall (fun _ => ?_) | refine T.hasm (fun _ => ?_)
        all_goals (try refine T.hret ?_)
        all_goals first
          | contradiction
          | exact decide_eq_true (show (n : Int) ≤ 96 by omega)
          | exact hgo1 hm _ _ rfl (by simp)
          | (simp; done)
          | rfl
      · obtain ⟨e1, e2⟩ := wi_full (no := no) (back := false) hn h96 hf hi (by omega)
        obtain ⟨g1, g2⟩ := d2 (by omega)
        simp only [e0, e1, e2, fu_blk, g1, g2]
        repeat' first | refine T.hneed isAl ?_ | refine T.hiteP (fun _ => ?_) (fun _ => ?_) | refine T.hiteE (fun _ => ?_) (fun _ => ?_) | refine T.hiteN (fun _ => ?_) (fun _ => ?_) | refine T.hiteFP (fun _ => ?_) (fun _ => ?_) | refine T.hiteFE (fun _ => ?_) (fun _ => ?_) | refine T.hiteF (fun _ => ?_) (fun _ => ?_) | refine T.hite (fun _ => ?_) (fun _ => ?_) | refine T.hneed rfl ?_ | refine T.hneed IntRow.rows ?_ | refine T.hneed trivial ?_ | refine T.hchk ?_ ?_ | refine T.hall (fun _ => ?_) | refine T.hasm (fun _ => ?_)
        all_goals (try refine T.hret ?_)
        all_goals first
          | contradiction
          | exact decide_eq_true (show (n : Int) ≤ 96 by omega)
          | exact hgo2 (by omega) _ _ rfl (by simp)
          | (simp; done)
          | rfl

def newA' (N : Nat) : AL := ⟨N, fun _ => false, 0, 0, 0, false⟩

theorem wi_holds (n first : Int) (back : Bool) (no : Int) : (afn Try.prog wiE Try.f8 (codeOf Try.f8) [.int .i64 n, .int .i64 first, .bool back, .int .i64 no] []).holds fun r => r.1.yes = true := by
  rw [wi_fn]
  have p1 := Int.emod_nonneg n (show (96 : Int) ≠ 0 by omega)
  have p2 := Int.emod_lt_of_pos n (show (0 : Int) < 96 by omega)
  rw [if_neg (show ¬ (96 : Int) < 1 by omega), show IntKind.wrap .i64 (1 + n % 96) = 1 + n % 96 from IntWalk.i64_in _ (by omega)]
  obtain ⟨N, hN⟩ : ∃ N : Nat, 1 + n % 96 = (N : Int) := ⟨(1 + n % 96).toNat, by omega⟩
  rw [hN, if_neg (show ¬ (N : Int) < 1 by omega)]
  have q1 := Int.emod_nonneg first (show (N : Int) ≠ 0 by omega)
  have q2 := Int.emod_lt_of_pos first (show (0 : Int) < N by omega)
  obtain ⟨F, hF⟩ : ∃ F : Nat, first % (N : Int) = (F : Int) := ⟨(first % (N : Int)).toNat, by omega⟩
  rw [hF]
  simp only [Int.toNat_natCast, st1, st2]
  have hc : clampA (N : Int) = N := by unfold clampA; rw [if_neg (by rw [if_neg (by omega)]; omega), if_neg (by omega)]
  have rf : rfA (fuW N no) (F : Int) no := .inr (.inr (.inl ⟨rfl, Int.le_refl no⟩))
  have e1 : barR (fuW N no) (F : Int) no = false := by simp [barR, rf]
  have e2 : bar (fuW N no) (F : Int) no = fuW N no := if_pos rf
  rw [hc]
  simp only [e1, e2, fu_blk]
  refine T.hchk rfl (T.hchk (by simp; omega) (T.hneed ⟨id, SubSt.mk ?_ ?_⟩ (T.hneed ⟨by dsimp only; omega, by dsimp only; omega, by dsimp only; omega, by dsimp only; omega⟩ ?_)))
  · cases back <;> simp [wiSt, wi1, SubFr, slotAt, ren, below, boolA]
  · exact Sub.ofId ⟨⟨_, rfl, al_blk (s := newA' N) (t := wiA N F (boolA (.bool back)) no 0) rfl (fun _ _ => by simp [newA', wiA]) rfl rfl rfl rfl⟩, trivial⟩ (Nat.zero_le _)
  · skip
    repeat' first | refine T.hneed isAl ?_ | refine T.hiteP (fun _ => ?_) (fun _ => ?_) | refine T.hiteE (fun _ => ?_) (fun _ => ?_) | refine T.hiteN (fun _ => ?_) (fun _ => ?_) | refine T.hiteFP (fun _ => ?_) (fun _ => ?_) | refine T.hiteFE (fun _ => ?_) (fun _ => ?_) | refine T.hiteF (fun _ => ?_) (fun _ => ?_) | refine T.hite (fun _ => ?_) (fun _ => ?_) | refine T.hneed rfl ?_ | refine T.hneed IntRow.rows ?_ | refine T.hneed trivial ?_ | refine T.hchk ?_ ?_ | refine T.hall (fun _ => ?_) | refine T.hasm (fun _ => ?_)
    all_goals (try refine T.hret ?_)
    all_goals first
      | contradiction
      | exact decide_eq_true (show (N : Int) ≤ 96 by omega)
      | rfl

theorem wi_law : ∀ args m, ArgsAV [PK.one (CK.int IntKind.i64), PK.one (CK.int IntKind.i64), PK.one CK.bool, PK.one (CK.int IntKind.i64)] [] args m → Walks Try.prog Try.f8 (codeOf Try.f8) args m := by
  intro args m h
  obtain ⟨n, _, rfl, hn, h⟩ := args_int h
  obtain ⟨first, _, rfl, hf, h⟩ := args_int h
  obtain ⟨back, _, rfl, h'⟩ := args_bool h
  obtain ⟨no, _, rfl, hno, h''⟩ := args_int h'
  obtain ⟨rfl, rfl⟩ := args_nil h''
  refine ⟨wiE, laE_ok _, oneLoop (by kernel_rfl) wi_loop, rfl, rfl, wi_holds n first back no⟩

end Go.Proofs.Ythbdkhlpojngeaa
