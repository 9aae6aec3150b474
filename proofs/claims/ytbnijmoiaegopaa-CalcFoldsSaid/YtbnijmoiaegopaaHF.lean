/-
  Layer 10: Folds.
-/
import Derived.Test.YtbnijmoiaegopaaHE
namespace Go.Proofs.Ytbnijmoiaegopaa
open Go.Ox
set_option maxRecDepth 100000
set_option linter.unusedVariables false
set_option linter.unusedSimpArgs false

def accV (op : Int) (z : Nat → Int) (i : Nat) : Int := if i = 0 then 0 else totG op z i
structure FO where
  op : Int
  s : Nat
  z : Nat → Int
  len : Nat
  cap : Nat
  i : Nat
def twoB (x y : Int) : Blk := ⟨true, [.int .i64 x, .int .i64 y], 0, 0, fun _ => [], []⟩
def foM (x : FO) : AM := [some (toB x.cap x.z), some (twoB (accV x.op x.z x.i) x.i), some (twoB (accV x.op (fun d => x.z (x.i - x.i % x.s + d)) (x.i % x.s)) (x.i % x.s : Nat))]
def foSt (x : FO) : St := ⟨[(0, .int .i64 x.op), (1, .int .i64 x.s), (2, .sl 0 0 1 0 x.len x.cap), (7, .ptr 1 0 0 0), (8, .ptr 2 0 0 0), (9, .int .i64 x.i)], foM x⟩
def foInv (x : FO) : Prop := 1 ≤ x.op ∧ x.op ≤ 4 ∧ 1 ≤ x.s ∧ x.s ≤ 16 ∧ x.len ≤ 300 ∧ x.len ≤ x.cap ∧ x.i ≤ x.len
def foPick (st : St) : Option FO :=
  match slotAt st.fr 0, slotAt st.fr 1, slotAt st.fr 2, AM.get st.m 0 with
  | some (.int _ op), some (.int _ s), some (.sl _ _ _ _ len cap), some b => some ⟨op, s.toNat, intAt b, len, cap, 0⟩
  | _, _, _, _ => none
def foEnd (x : FO) : T (Ex × St) := .ret (.exit 0, ⟨[], [some (toB x.cap x.z)]⟩)
noncomputable def cfE : Env := { laE Try.f5.ntmps with n0 := 1, fns := (25, .pure totS) :: (24, .pure fun args _ => pickS args) :: (laE 0).fns, loop := fun k => if k = 8 then loopSumm 1 foSt foInv foPick foEnd else fun _ => .fail }
noncomputable def cfE0 : Env := { cfE with n0 := 0, loop := fun _ _ => .fail }
noncomputable def cfE1 : Env := { cfE with n0 := 0, loop := fun k => if k = 8 then unrollN Try.prog cfE0 (loopAt (codeOf Try.f5) 0) 1 else fun _ => .fail }

theorem cf_tree (op : Int) (s : Nat) (z : Nat → Int) (len cap i : Nat) : keepT [0, 1, 2, 7, 8, 9] (acode Try.prog cfE (loopAt (codeOf Try.f5) 0) (foSt ⟨op, s, z, len, cap, i⟩)) = 
  T.ite (decide ((↑i : Int) < (↑len : Int)))
    (T.chk (decide ((0 : Int) ≤ (↑i : Int)) && decide ((↑i : Int) < (↑len : Int)))
      (T.chk (decide ((0 : Nat) + Int.toNat (↑i : Int) < cap))
        (T.ite (IntKind.wrap IntKind.i64 ((↑i : Int) + (1 : Int)) != IntKind.wrap IntKind.i64 ((↑i : Int) + (1 : Int)))
          (T.ret
            (Ex.ret,
              St.mk [((0 : Nat), AV.int IntKind.i64 op), ((1 : Nat), AV.int IntKind.i64 (↑s : Int)), ((2 : Nat), AV.sl (0 : Nat) (0 : Nat) (1 : Nat) (0 : Nat) len cap), ((7 : Nat), AV.ptr (1 : Nat) (0 : Nat) (0 : Nat) (0 : Nat)), ((8 : Nat), AV.ptr (2 : Nat) (0 : Nat) (0 : Nat) (0 : Nat)), ((9 : Nat), AV.int IntKind.i64 (↑i : Int))]
                [some (Blk.mk false [] (1 : Nat) cap (fun j => [AV.int IntKind.i64 (z j)]) []), some (Blk.mk true [AV.int IntKind.i64 (foV op (accV op z i) (↑i : Int) (z ((0 : Nat) + Int.toNat (↑i : Int)))), AV.int IntKind.i64 (IntKind.wrap IntKind.i64 ((↑i : Int) + (1 : Int)))] (0 : Nat) (0 : Nat) (fun a => []) []),
                  some (Blk.mk true [AV.int IntKind.i64 (accV op (fun d => z (i - i % s + d)) (i % s)), AV.int IntKind.i64 (↑(i % s) : Int)] (0 : Nat) (0 : Nat) (fun x => []) [])]))
          (T.chk (decide ((0 : Int) ≤ IntKind.wrap IntKind.i64 ((↑i : Int) + (1 : Int))) && decide (IntKind.wrap IntKind.i64 ((↑i : Int) + (1 : Int)) ≤ (↑cap : Int)))
            (T.need (IntRow IntKind.i64 (Blk.mk false [] (1 : Nat) cap (fun j => [AV.int IntKind.i64 (z j)]) []))
              (T.chk (decide ((0 : Nat) + Int.toNat (IntKind.wrap IntKind.i64 ((↑i : Int) + (1 : Int))) ≤ cap))
                (T.chk (decide (Int.toNat (IntKind.wrap IntKind.i64 ((↑i : Int) + (1 : Int))) ≤ (4611686018427387904 : Nat)))
                  (T.chk (decide ((1 : Nat) ≤ Int.toNat (IntKind.wrap IntKind.i64 ((↑i : Int) + (1 : Int)))))
                    (T.ite (foV op (accV op z i) (↑i : Int) (z ((0 : Nat) + Int.toNat (↑i : Int))) != totG op (fun d => z ((0 : Nat) + d)) (Int.toNat (IntKind.wrap IntKind.i64 ((↑i : Int) + (1 : Int)))))
                      (T.ret
                        (Ex.ret,
                          St.mk [((0 : Nat), AV.int IntKind.i64 op), ((1 : Nat), AV.int IntKind.i64 (↑s : Int)), ((2 : Nat), AV.sl (0 : Nat) (0 : Nat) (1 : Nat) (0 : Nat) len cap), ((7 : Nat), AV.ptr (1 : Nat) (0 : Nat) (0 : Nat) (0 : Nat)), ((8 : Nat), AV.ptr (2 : Nat) (0 : Nat) (0 : Nat) (0 : Nat)), ((9 : Nat), AV.int IntKind.i64 (↑i : Int))]
                            [some (Blk.mk false [] (1 : Nat) cap (fun j => [AV.int IntKind.i64 (z j)]) []), some (Blk.mk true [AV.int IntKind.i64 (foV op (accV op z i) (↑i : Int) (z ((0 : Nat) + Int.toNat (↑i : Int)))), AV.int IntKind.i64 (IntKind.wrap IntKind.i64 ((↑i : Int) + (1 : Int)))] (0 : Nat) (0 : Nat) (fun a => []) []),
                              some (Blk.mk true [AV.int IntKind.i64 (accV op (fun d => z (i - i % s + d)) (i % s)), AV.int IntKind.i64 (↑(i % s) : Int)] (0 : Nat) (0 : Nat) (fun x => []) [])]))
                      (T.chk (decide ((0 : Int) ≤ (↑i : Int)) && decide ((↑i : Int) < (↑len : Int)))
                        (T.chk (decide ((0 : Nat) + Int.toNat (↑i : Int) < cap))
                          (T.need
                            (AV.tup
                                [AV.agg [AV.int IntKind.i64 (if wiP (↑s : Int) (↑(i % s) : Int) then (0 : Int) else foV op (accV op (fun d => z (i - i % s + d)) (i % s)) (↑(i % s) : Int) (z ((0 : Nat) + Int.toNat (↑i : Int)))), AV.int IntKind.i64 (if wiP (↑s : Int) (↑(i % s) : Int) then (0 : Int) else IntKind.wrap IntKind.i64 ((↑(i % s) : Int) + (1 : Int)))],
                                  AV.int IntKind.i64 (if wiP (↑s : Int) (↑(i % s) : Int) then foV op (accV op (fun d => z (i - i % s + d)) (i % s)) (↑(i % s) : Int) (z ((0 : Nat) + Int.toNat (↑i : Int))) else (0 : Int)), AV.bool (decide (wiP (↑s : Int) (↑(i % s) : Int)))] =
                              AV.tup
                                [AV.agg [AV.int IntKind.i64 (if wiP (↑s : Int) (↑(i % s) : Int) then (0 : Int) else foV op (accV op (fun d => z (i - i % s + d)) (i % s)) (↑(i % s) : Int) (z ((0 : Nat) + Int.toNat (↑i : Int)))), AV.int IntKind.i64 (if wiP (↑s : Int) (↑(i % s) : Int) then (0 : Int) else IntKind.wrap IntKind.i64 ((↑(i % s) : Int) + (1 : Int)))],
                                  AV.int IntKind.i64 (if wiP (↑s : Int) (↑(i % s) : Int) then foV op (accV op (fun d => z (i - i % s + d)) (i % s)) (↑(i % s) : Int) (z ((0 : Nat) + Int.toNat (↑i : Int))) else (0 : Int)), AV.bool (decide (wiP (↑s : Int) (↑(i % s) : Int)))])
                            (T.chk (decide ((0 : Nat) + Int.toNat (↑i : Int) < cap))
                              (T.need (AV.int IntKind.i64 (z ((0 : Nat) + Int.toNat (↑i : Int))) = AV.int IntKind.i64 (z ((0 : Nat) + Int.toNat (↑i : Int))))
                                (T.need (AV.agg [AV.int IntKind.i64 (accV op (fun d => z (i - i % s + d)) (i % s)), AV.int IntKind.i64 (↑(i % s) : Int)] = AV.agg [AV.int IntKind.i64 (accV op (fun d => z (i - i % s + d)) (i % s)), AV.int IntKind.i64 (↑(i % s) : Int)])
                                  (T.chk (!(↑s : Int) == (0 : Int))
                                    (T.ite (!decide (wiP (↑s : Int) (↑(i % s) : Int)) == (Int.tmod (IntKind.wrap IntKind.i64 ((↑i : Int) + (1 : Int))) (↑s : Int) == (0 : Int)))
                                      (T.ret
                                        (Ex.ret,
                                          St.mk [((0 : Nat), AV.int IntKind.i64 op), ((1 : Nat), AV.int IntKind.i64 (↑s : Int)), ((2 : Nat), AV.sl (0 : Nat) (0 : Nat) (1 : Nat) (0 : Nat) len cap), ((7 : Nat), AV.ptr (1 : Nat) (0 : Nat) (0 : Nat) (0 : Nat)), ((8 : Nat), AV.ptr (2 : Nat) (0 : Nat) (0 : Nat) (0 : Nat)), ((9 : Nat), AV.int IntKind.i64 (↑i : Int))]
                                            [some (Blk.mk false [] (1 : Nat) cap (fun j => [AV.int IntKind.i64 (z j)]) []), some (Blk.mk true [AV.int IntKind.i64 (foV op (accV op z i) (↑i : Int) (z ((0 : Nat) + Int.toNat (↑i : Int)))), AV.int IntKind.i64 (IntKind.wrap IntKind.i64 ((↑i : Int) + (1 : Int)))] (0 : Nat) (0 : Nat) (fun a => []) []),
                                              some (Blk.mk true [AV.int IntKind.i64 (accV op (fun d => z (i - i % s + d)) (i % s)), AV.int IntKind.i64 (↑(i % s) : Int)] (0 : Nat) (0 : Nat) (fun x => []) []),
                                              some
                                                (Blk.mk true [AV.int IntKind.i64 (if wiP (↑s : Int) (↑(i % s) : Int) then (0 : Int) else foV op (accV op (fun d => z (i - i % s + d)) (i % s)) (↑(i % s) : Int) (z ((0 : Nat) + Int.toNat (↑i : Int)))), AV.int IntKind.i64 (if wiP (↑s : Int) (↑(i % s) : Int) then (0 : Int) else IntKind.wrap IntKind.i64 ((↑(i % s) : Int) + (1 : Int)))] (0 : Nat) (0 : Nat)
                                                  (fun a => []) [])]))
                                      (T.ite (decide (wiP (↑s : Int) (↑(i % s) : Int)))
                                        (T.chk (decide ((0 : Int) ≤ IntKind.wrap IntKind.i64 ((↑i : Int) + (1 : Int))) && decide (IntKind.wrap IntKind.i64 ((↑i : Int) + (1 : Int)) ≤ (↑cap : Int)))
                                          (T.chk (decide ((0 : Int) ≤ IntKind.wrap IntKind.i64 (IntKind.wrap IntKind.i64 ((↑i : Int) + (1 : Int)) - (↑s : Int))) && decide (IntKind.wrap IntKind.i64 (IntKind.wrap IntKind.i64 ((↑i : Int) + (1 : Int)) - (↑s : Int)) ≤ (↑(Int.toNat (IntKind.wrap IntKind.i64 ((↑i : Int) + (1 : Int)))) : Int)))
                                            (T.need (IntRow IntKind.i64 (Blk.mk false [] (1 : Nat) cap (fun j => [AV.int IntKind.i64 (z j)]) []))
                                              (T.chk
                                                (decide
                                                  ((if cap = Int.toNat (IntKind.wrap IntKind.i64 (IntKind.wrap IntKind.i64 ((↑i : Int) + (1 : Int)) - (↑s : Int))) then (0 : Nat) else (0 : Nat) + Int.toNat (IntKind.wrap IntKind.i64 (IntKind.wrap IntKind.i64 ((↑i : Int) + (1 : Int)) - (↑s : Int)))) +
                                                      (Int.toNat (IntKind.wrap IntKind.i64 ((↑i : Int) + (1 : Int))) - Int.toNat (IntKind.wrap IntKind.i64 (IntKind.wrap IntKind.i64 ((↑i : Int) + (1 : Int)) - (↑s : Int)))) ≤
                                                    cap))
                                                (T.chk (decide (Int.toNat (IntKind.wrap IntKind.i64 ((↑i : Int) + (1 : Int))) - Int.toNat (IntKind.wrap IntKind.i64 (IntKind.wrap IntKind.i64 ((↑i : Int) + (1 : Int)) - (↑s : Int))) ≤ (4611686018427387904 : Nat)))
                                                  (T.chk (decide ((1 : Nat) ≤ Int.toNat (IntKind.wrap IntKind.i64 ((↑i : Int) + (1 : Int))) - Int.toNat (IntKind.wrap IntKind.i64 (IntKind.wrap IntKind.i64 ((↑i : Int) + (1 : Int)) - (↑s : Int)))))
                                                    (T.ite
                                                      ((if wiP (↑s : Int) (↑(i % s) : Int) then foV op (accV op (fun d => z (i - i % s + d)) (i % s)) (↑(i % s) : Int) (z ((0 : Nat) + Int.toNat (↑i : Int))) else (0 : Int)) !=
                                                        totG op (fun d => z ((if cap = Int.toNat (IntKind.wrap IntKind.i64 (IntKind.wrap IntKind.i64 ((↑i : Int) + (1 : Int)) - (↑s : Int))) then (0 : Nat) else (0 : Nat) + Int.toNat (IntKind.wrap IntKind.i64 (IntKind.wrap IntKind.i64 ((↑i : Int) + (1 : Int)) - (↑s : Int)))) + d))
                                                          (Int.toNat (IntKind.wrap IntKind.i64 ((↑i : Int) + (1 : Int))) - Int.toNat (IntKind.wrap IntKind.i64 (IntKind.wrap IntKind.i64 ((↑i : Int) + (1 : Int)) - (↑s : Int)))))
                                                      (T.ret
                                                        (Ex.ret,
                                                          St.mk [((0 : Nat), AV.int IntKind.i64 op), ((1 : Nat), AV.int IntKind.i64 (↑s : Int)), ((2 : Nat), AV.sl (0 : Nat) (0 : Nat) (1 : Nat) (0 : Nat) len cap), ((7 : Nat), AV.ptr (1 : Nat) (0 : Nat) (0 : Nat) (0 : Nat)), ((8 : Nat), AV.ptr (2 : Nat) (0 : Nat) (0 : Nat) (0 : Nat)), ((9 : Nat), AV.int IntKind.i64 (↑i : Int))]
                                                            [some (Blk.mk false [] (1 : Nat) cap (fun j => [AV.int IntKind.i64 (z j)]) []), some (Blk.mk true [AV.int IntKind.i64 (foV op (accV op z i) (↑i : Int) (z ((0 : Nat) + Int.toNat (↑i : Int)))), AV.int IntKind.i64 (IntKind.wrap IntKind.i64 ((↑i : Int) + (1 : Int)))] (0 : Nat) (0 : Nat) (fun a => []) []),
                                                              some (Blk.mk true [AV.int IntKind.i64 (accV op (fun d => z (i - i % s + d)) (i % s)), AV.int IntKind.i64 (↑(i % s) : Int)] (0 : Nat) (0 : Nat) (fun x => []) []),
                                                              some
                                                                (Blk.mk true [AV.int IntKind.i64 (if wiP (↑s : Int) (↑(i % s) : Int) then (0 : Int) else foV op (accV op (fun d => z (i - i % s + d)) (i % s)) (↑(i % s) : Int) (z ((0 : Nat) + Int.toNat (↑i : Int)))), AV.int IntKind.i64 (if wiP (↑s : Int) (↑(i % s) : Int) then (0 : Int) else IntKind.wrap IntKind.i64 ((↑(i % s) : Int) + (1 : Int)))]
                                                                  (0 : Nat) (0 : Nat) (fun a => []) [])]))
                                                      (T.ite (!((if wiP (↑s : Int) (↑(i % s) : Int) then (0 : Int) else foV op (accV op (fun d => z (i - i % s + d)) (i % s)) (↑(i % s) : Int) (z ((0 : Nat) + Int.toNat (↑i : Int)))) == (0 : Int) && ((if wiP (↑s : Int) (↑(i % s) : Int) then (0 : Int) else IntKind.wrap IntKind.i64 ((↑(i % s) : Int) + (1 : Int))) == (0 : Int) && true)))
                                                        (T.ret
                                                          (Ex.ret,
                                                            St.mk [((0 : Nat), AV.int IntKind.i64 op), ((1 : Nat), AV.int IntKind.i64 (↑s : Int)), ((2 : Nat), AV.sl (0 : Nat) (0 : Nat) (1 : Nat) (0 : Nat) len cap), ((7 : Nat), AV.ptr (1 : Nat) (0 : Nat) (0 : Nat) (0 : Nat)), ((8 : Nat), AV.ptr (2 : Nat) (0 : Nat) (0 : Nat) (0 : Nat)), ((9 : Nat), AV.int IntKind.i64 (↑i : Int))]
                                                              [some (Blk.mk false [] (1 : Nat) cap (fun j => [AV.int IntKind.i64 (z j)]) []), some (Blk.mk true [AV.int IntKind.i64 (foV op (accV op z i) (↑i : Int) (z ((0 : Nat) + Int.toNat (↑i : Int)))), AV.int IntKind.i64 (IntKind.wrap IntKind.i64 ((↑i : Int) + (1 : Int)))] (0 : Nat) (0 : Nat) (fun a => []) []),
                                                                some (Blk.mk true [AV.int IntKind.i64 (accV op (fun d => z (i - i % s + d)) (i % s)), AV.int IntKind.i64 (↑(i % s) : Int)] (0 : Nat) (0 : Nat) (fun x => []) []),
                                                                some
                                                                  (Blk.mk true [AV.int IntKind.i64 (if wiP (↑s : Int) (↑(i % s) : Int) then (0 : Int) else foV op (accV op (fun d => z (i - i % s + d)) (i % s)) (↑(i % s) : Int) (z ((0 : Nat) + Int.toNat (↑i : Int)))), AV.int IntKind.i64 (if wiP (↑s : Int) (↑(i % s) : Int) then (0 : Int) else IntKind.wrap IntKind.i64 ((↑(i % s) : Int) + (1 : Int)))]
                                                                    (0 : Nat) (0 : Nat) (fun a => []) [])]))
                                                        (T.ite (!decide (wiP (↑s : Int) (↑(i % s) : Int)))
                                                          (T.ite ((if wiP (↑s : Int) (↑(i % s) : Int) then foV op (accV op (fun d => z (i - i % s + d)) (i % s)) (↑(i % s) : Int) (z ((0 : Nat) + Int.toNat (↑i : Int))) else (0 : Int)) != (0 : Int))
                                                            (T.ret
                                                              (Ex.ret,
                                                                St.mk [((0 : Nat), AV.int IntKind.i64 op), ((1 : Nat), AV.int IntKind.i64 (↑s : Int)), ((2 : Nat), AV.sl (0 : Nat) (0 : Nat) (1 : Nat) (0 : Nat) len cap), ((7 : Nat), AV.ptr (1 : Nat) (0 : Nat) (0 : Nat) (0 : Nat)), ((8 : Nat), AV.ptr (2 : Nat) (0 : Nat) (0 : Nat) (0 : Nat)), ((9 : Nat), AV.int IntKind.i64 (↑i : Int))]
                                                                  [some (Blk.mk false [] (1 : Nat) cap (fun j => [AV.int IntKind.i64 (z j)]) []), some (Blk.mk true [AV.int IntKind.i64 (foV op (accV op z i) (↑i : Int) (z ((0 : Nat) + Int.toNat (↑i : Int)))), AV.int IntKind.i64 (IntKind.wrap IntKind.i64 ((↑i : Int) + (1 : Int)))] (0 : Nat) (0 : Nat) (fun a => []) []),
                                                                    some (Blk.mk true [AV.int IntKind.i64 (accV op (fun d => z (i - i % s + d)) (i % s)), AV.int IntKind.i64 (↑(i % s) : Int)] (0 : Nat) (0 : Nat) (fun x => []) []),
                                                                    some
                                                                      (Blk.mk true
                                                                        [AV.int IntKind.i64 (if wiP (↑s : Int) (↑(i % s) : Int) then (0 : Int) else foV op (accV op (fun d => z (i - i % s + d)) (i % s)) (↑(i % s) : Int) (z ((0 : Nat) + Int.toNat (↑i : Int)))), AV.int IntKind.i64 (if wiP (↑s : Int) (↑(i % s) : Int) then (0 : Int) else IntKind.wrap IntKind.i64 ((↑(i % s) : Int) + (1 : Int)))] (0 : Nat)
                                                                        (0 : Nat) (fun a => []) [])]))
                                                            (T.chk (!(↑s : Int) == (0 : Int))
                                                              (T.ite ((if wiP (↑s : Int) (↑(i % s) : Int) then (0 : Int) else IntKind.wrap IntKind.i64 ((↑(i % s) : Int) + (1 : Int))) != Int.tmod (IntKind.wrap IntKind.i64 ((↑i : Int) + (1 : Int))) (↑s : Int))
                                                                (T.ret
                                                                  (Ex.ret,
                                                                    St.mk [((0 : Nat), AV.int IntKind.i64 op), ((1 : Nat), AV.int IntKind.i64 (↑s : Int)), ((2 : Nat), AV.sl (0 : Nat) (0 : Nat) (1 : Nat) (0 : Nat) len cap), ((7 : Nat), AV.ptr (1 : Nat) (0 : Nat) (0 : Nat) (0 : Nat)), ((8 : Nat), AV.ptr (2 : Nat) (0 : Nat) (0 : Nat) (0 : Nat)), ((9 : Nat), AV.int IntKind.i64 (↑i : Int))]
                                                                      [some (Blk.mk false [] (1 : Nat) cap (fun j => [AV.int IntKind.i64 (z j)]) []), some (Blk.mk true [AV.int IntKind.i64 (foV op (accV op z i) (↑i : Int) (z ((0 : Nat) + Int.toNat (↑i : Int)))), AV.int IntKind.i64 (IntKind.wrap IntKind.i64 ((↑i : Int) + (1 : Int)))] (0 : Nat) (0 : Nat) (fun a => []) []),
                                                                        some (Blk.mk true [AV.int IntKind.i64 (accV op (fun d => z (i - i % s + d)) (i % s)), AV.int IntKind.i64 (↑(i % s) : Int)] (0 : Nat) (0 : Nat) (fun x => []) []),
                                                                        some
                                                                          (Blk.mk true
                                                                            [AV.int IntKind.i64 (if wiP (↑s : Int) (↑(i % s) : Int) then (0 : Int) else foV op (accV op (fun d => z (i - i % s + d)) (i % s)) (↑(i % s) : Int) (z ((0 : Nat) + Int.toNat (↑i : Int)))), AV.int IntKind.i64 (if wiP (↑s : Int) (↑(i % s) : Int) then (0 : Int) else IntKind.wrap IntKind.i64 ((↑(i % s) : Int) + (1 : Int)))]
                                                                            (0 : Nat) (0 : Nat) (fun a => []) [])]))
                                                                (T.ret
                                                                  (Ex.norm,
                                                                    St.mk
                                                                      [((0 : Nat), AV.int IntKind.i64 op), ((1 : Nat), AV.int IntKind.i64 (↑s : Int)), ((2 : Nat), AV.sl (0 : Nat) (0 : Nat) (1 : Nat) (0 : Nat) len cap), ((7 : Nat), AV.ptr (1 : Nat) (0 : Nat) (0 : Nat) (0 : Nat)), ((8 : Nat), AV.ptr (2 : Nat) (0 : Nat) (0 : Nat) (0 : Nat)),
                                                                        ((9 : Nat), AV.int IntKind.i64 (IntKind.wrap IntKind.i64 ((↑i : Int) + (1 : Int))))]
                                                                      [some (Blk.mk false [] (1 : Nat) cap (fun j => [AV.int IntKind.i64 (z j)]) []), some (Blk.mk true [AV.int IntKind.i64 (foV op (accV op z i) (↑i : Int) (z ((0 : Nat) + Int.toNat (↑i : Int)))), AV.int IntKind.i64 (IntKind.wrap IntKind.i64 ((↑i : Int) + (1 : Int)))] (0 : Nat) (0 : Nat) (fun a => []) []),
                                                                        some
                                                                          (Blk.mk true
                                                                            [AV.int IntKind.i64 (if wiP (↑s : Int) (↑(i % s) : Int) then (0 : Int) else foV op (accV op (fun d => z (i - i % s + d)) (i % s)) (↑(i % s) : Int) (z ((0 : Nat) + Int.toNat (↑i : Int)))), AV.int IntKind.i64 (if wiP (↑s : Int) (↑(i % s) : Int) then (0 : Int) else IntKind.wrap IntKind.i64 ((↑(i % s) : Int) + (1 : Int)))]
                                                                            (0 : Nat) (0 : Nat) (fun a => []) []),
                                                                        some
                                                                          (Blk.mk true
                                                                            [AV.int IntKind.i64 (if wiP (↑s : Int) (↑(i % s) : Int) then (0 : Int) else foV op (accV op (fun d => z (i - i % s + d)) (i % s)) (↑(i % s) : Int) (z ((0 : Nat) + Int.toNat (↑i : Int)))), AV.int IntKind.i64 (if wiP (↑s : Int) (↑(i % s) : Int) then (0 : Int) else IntKind.wrap IntKind.i64 ((↑(i % s) : Int) + (1 : Int)))]
                                                                            (0 : Nat) (0 : Nat) (fun a => []) [])])))))
                                                          (T.ret
                                                            (Ex.norm,
                                                              St.mk
                                                                [((0 : Nat), AV.int IntKind.i64 op), ((1 : Nat), AV.int IntKind.i64 (↑s : Int)), ((2 : Nat), AV.sl (0 : Nat) (0 : Nat) (1 : Nat) (0 : Nat) len cap), ((7 : Nat), AV.ptr (1 : Nat) (0 : Nat) (0 : Nat) (0 : Nat)), ((8 : Nat), AV.ptr (2 : Nat) (0 : Nat) (0 : Nat) (0 : Nat)),
                                                                  ((9 : Nat), AV.int IntKind.i64 (IntKind.wrap IntKind.i64 ((↑i : Int) + (1 : Int))))]
                                                                [some (Blk.mk false [] (1 : Nat) cap (fun j => [AV.int IntKind.i64 (z j)]) []), some (Blk.mk true [AV.int IntKind.i64 (foV op (accV op z i) (↑i : Int) (z ((0 : Nat) + Int.toNat (↑i : Int)))), AV.int IntKind.i64 (IntKind.wrap IntKind.i64 ((↑i : Int) + (1 : Int)))] (0 : Nat) (0 : Nat) (fun a => []) []),
                                                                  some
                                                                    (Blk.mk true [AV.int IntKind.i64 (if wiP (↑s : Int) (↑(i % s) : Int) then (0 : Int) else foV op (accV op (fun d => z (i - i % s + d)) (i % s)) (↑(i % s) : Int) (z ((0 : Nat) + Int.toNat (↑i : Int)))), AV.int IntKind.i64 (if wiP (↑s : Int) (↑(i % s) : Int) then (0 : Int) else IntKind.wrap IntKind.i64 ((↑(i % s) : Int) + (1 : Int)))]
                                                                      (0 : Nat) (0 : Nat) (fun a => []) []),
                                                                  some
                                                                    (Blk.mk true [AV.int IntKind.i64 (if wiP (↑s : Int) (↑(i % s) : Int) then (0 : Int) else foV op (accV op (fun d => z (i - i % s + d)) (i % s)) (↑(i % s) : Int) (z ((0 : Nat) + Int.toNat (↑i : Int)))), AV.int IntKind.i64 (if wiP (↑s : Int) (↑(i % s) : Int) then (0 : Int) else IntKind.wrap IntKind.i64 ((↑(i % s) : Int) + (1 : Int)))]
                                                                      (0 : Nat) (0 : Nat) (fun a => []) [])])))))))))))
                                        (T.ite (!decide (wiP (↑s : Int) (↑(i % s) : Int)))
                                          (T.ite ((if wiP (↑s : Int) (↑(i % s) : Int) then foV op (accV op (fun d => z (i - i % s + d)) (i % s)) (↑(i % s) : Int) (z ((0 : Nat) + Int.toNat (↑i : Int))) else (0 : Int)) != (0 : Int))
                                            (T.ret
                                              (Ex.ret,
                                                St.mk [((0 : Nat), AV.int IntKind.i64 op), ((1 : Nat), AV.int IntKind.i64 (↑s : Int)), ((2 : Nat), AV.sl (0 : Nat) (0 : Nat) (1 : Nat) (0 : Nat) len cap), ((7 : Nat), AV.ptr (1 : Nat) (0 : Nat) (0 : Nat) (0 : Nat)), ((8 : Nat), AV.ptr (2 : Nat) (0 : Nat) (0 : Nat) (0 : Nat)), ((9 : Nat), AV.int IntKind.i64 (↑i : Int))]
                                                  [some (Blk.mk false [] (1 : Nat) cap (fun j => [AV.int IntKind.i64 (z j)]) []), some (Blk.mk true [AV.int IntKind.i64 (foV op (accV op z i) (↑i : Int) (z ((0 : Nat) + Int.toNat (↑i : Int)))), AV.int IntKind.i64 (IntKind.wrap IntKind.i64 ((↑i : Int) + (1 : Int)))] (0 : Nat) (0 : Nat) (fun a => []) []),
                                                    some (Blk.mk true [AV.int IntKind.i64 (accV op (fun d => z (i - i % s + d)) (i % s)), AV.int IntKind.i64 (↑(i % s) : Int)] (0 : Nat) (0 : Nat) (fun x => []) []),
                                                    some
                                                      (Blk.mk true [AV.int IntKind.i64 (if wiP (↑s : Int) (↑(i % s) : Int) then (0 : Int) else foV op (accV op (fun d => z (i - i % s + d)) (i % s)) (↑(i % s) : Int) (z ((0 : Nat) + Int.toNat (↑i : Int)))), AV.int IntKind.i64 (if wiP (↑s : Int) (↑(i % s) : Int) then (0 : Int) else IntKind.wrap IntKind.i64 ((↑(i % s) : Int) + (1 : Int)))] (0 : Nat)
                                                        (0 : Nat) (fun a => []) [])]))
                                            (T.chk (!(↑s : Int) == (0 : Int))
                                              (T.ite ((if wiP (↑s : Int) (↑(i % s) : Int) then (0 : Int) else IntKind.wrap IntKind.i64 ((↑(i % s) : Int) + (1 : Int))) != Int.tmod (IntKind.wrap IntKind.i64 ((↑i : Int) + (1 : Int))) (↑s : Int))
                                                (T.ret
                                                  (Ex.ret,
                                                    St.mk [((0 : Nat), AV.int IntKind.i64 op), ((1 : Nat), AV.int IntKind.i64 (↑s : Int)), ((2 : Nat), AV.sl (0 : Nat) (0 : Nat) (1 : Nat) (0 : Nat) len cap), ((7 : Nat), AV.ptr (1 : Nat) (0 : Nat) (0 : Nat) (0 : Nat)), ((8 : Nat), AV.ptr (2 : Nat) (0 : Nat) (0 : Nat) (0 : Nat)), ((9 : Nat), AV.int IntKind.i64 (↑i : Int))]
                                                      [some (Blk.mk false [] (1 : Nat) cap (fun j => [AV.int IntKind.i64 (z j)]) []), some (Blk.mk true [AV.int IntKind.i64 (foV op (accV op z i) (↑i : Int) (z ((0 : Nat) + Int.toNat (↑i : Int)))), AV.int IntKind.i64 (IntKind.wrap IntKind.i64 ((↑i : Int) + (1 : Int)))] (0 : Nat) (0 : Nat) (fun a => []) []),
                                                        some (Blk.mk true [AV.int IntKind.i64 (accV op (fun d => z (i - i % s + d)) (i % s)), AV.int IntKind.i64 (↑(i % s) : Int)] (0 : Nat) (0 : Nat) (fun x => []) []),
                                                        some
                                                          (Blk.mk true [AV.int IntKind.i64 (if wiP (↑s : Int) (↑(i % s) : Int) then (0 : Int) else foV op (accV op (fun d => z (i - i % s + d)) (i % s)) (↑(i % s) : Int) (z ((0 : Nat) + Int.toNat (↑i : Int)))), AV.int IntKind.i64 (if wiP (↑s : Int) (↑(i % s) : Int) then (0 : Int) else IntKind.wrap IntKind.i64 ((↑(i % s) : Int) + (1 : Int)))] (0 : Nat)
                                                            (0 : Nat) (fun a => []) [])]))
                                                (T.ret
                                                  (Ex.norm,
                                                    St.mk
                                                      [((0 : Nat), AV.int IntKind.i64 op), ((1 : Nat), AV.int IntKind.i64 (↑s : Int)), ((2 : Nat), AV.sl (0 : Nat) (0 : Nat) (1 : Nat) (0 : Nat) len cap), ((7 : Nat), AV.ptr (1 : Nat) (0 : Nat) (0 : Nat) (0 : Nat)), ((8 : Nat), AV.ptr (2 : Nat) (0 : Nat) (0 : Nat) (0 : Nat)),
                                                        ((9 : Nat), AV.int IntKind.i64 (IntKind.wrap IntKind.i64 ((↑i : Int) + (1 : Int))))]
                                                      [some (Blk.mk false [] (1 : Nat) cap (fun j => [AV.int IntKind.i64 (z j)]) []), some (Blk.mk true [AV.int IntKind.i64 (foV op (accV op z i) (↑i : Int) (z ((0 : Nat) + Int.toNat (↑i : Int)))), AV.int IntKind.i64 (IntKind.wrap IntKind.i64 ((↑i : Int) + (1 : Int)))] (0 : Nat) (0 : Nat) (fun a => []) []),
                                                        some
                                                          (Blk.mk true [AV.int IntKind.i64 (if wiP (↑s : Int) (↑(i % s) : Int) then (0 : Int) else foV op (accV op (fun d => z (i - i % s + d)) (i % s)) (↑(i % s) : Int) (z ((0 : Nat) + Int.toNat (↑i : Int)))), AV.int IntKind.i64 (if wiP (↑s : Int) (↑(i % s) : Int) then (0 : Int) else IntKind.wrap IntKind.i64 ((↑(i % s) : Int) + (1 : Int)))] (0 : Nat)
                                                            (0 : Nat) (fun a => []) []),
                                                        some
                                                          (Blk.mk true [AV.int IntKind.i64 (if wiP (↑s : Int) (↑(i % s) : Int) then (0 : Int) else foV op (accV op (fun d => z (i - i % s + d)) (i % s)) (↑(i % s) : Int) (z ((0 : Nat) + Int.toNat (↑i : Int)))), AV.int IntKind.i64 (if wiP (↑s : Int) (↑(i % s) : Int) then (0 : Int) else IntKind.wrap IntKind.i64 ((↑(i % s) : Int) + (1 : Int)))] (0 : Nat)
                                                            (0 : Nat) (fun a => []) [])])))))
                                          (T.ret
                                            (Ex.norm,
                                              St.mk
                                                [((0 : Nat), AV.int IntKind.i64 op), ((1 : Nat), AV.int IntKind.i64 (↑s : Int)), ((2 : Nat), AV.sl (0 : Nat) (0 : Nat) (1 : Nat) (0 : Nat) len cap), ((7 : Nat), AV.ptr (1 : Nat) (0 : Nat) (0 : Nat) (0 : Nat)), ((8 : Nat), AV.ptr (2 : Nat) (0 : Nat) (0 : Nat) (0 : Nat)),
                                                  ((9 : Nat), AV.int IntKind.i64 (IntKind.wrap IntKind.i64 ((↑i : Int) + (1 : Int))))]
                                                [some (Blk.mk false [] (1 : Nat) cap (fun j => [AV.int IntKind.i64 (z j)]) []), some (Blk.mk true [AV.int IntKind.i64 (foV op (accV op z i) (↑i : Int) (z ((0 : Nat) + Int.toNat (↑i : Int)))), AV.int IntKind.i64 (IntKind.wrap IntKind.i64 ((↑i : Int) + (1 : Int)))] (0 : Nat) (0 : Nat) (fun a => []) []),
                                                  some
                                                    (Blk.mk true [AV.int IntKind.i64 (if wiP (↑s : Int) (↑(i % s) : Int) then (0 : Int) else foV op (accV op (fun d => z (i - i % s + d)) (i % s)) (↑(i % s) : Int) (z ((0 : Nat) + Int.toNat (↑i : Int)))), AV.int IntKind.i64 (if wiP (↑s : Int) (↑(i % s) : Int) then (0 : Int) else IntKind.wrap IntKind.i64 ((↑(i % s) : Int) + (1 : Int)))] (0 : Nat)
                                                      (0 : Nat) (fun a => []) []),
                                                  some
                                                    (Blk.mk true [AV.int IntKind.i64 (if wiP (↑s : Int) (↑(i % s) : Int) then (0 : Int) else foV op (accV op (fun d => z (i - i % s + d)) (i % s)) (↑(i % s) : Int) (z ((0 : Nat) + Int.toNat (↑i : Int)))), AV.int IntKind.i64 (if wiP (↑s : Int) (↑(i % s) : Int) then (0 : Int) else IntKind.wrap IntKind.i64 ((↑(i % s) : Int) + (1 : Int)))] (0 : Nat)
                                                      (0 : Nat) (fun a => []) [])])))))))))))))))))))))
    (T.ret
      (Ex.exit (0 : Nat),
        St.mk [((0 : Nat), AV.int IntKind.i64 op), ((1 : Nat), AV.int IntKind.i64 (↑s : Int)), ((2 : Nat), AV.sl (0 : Nat) (0 : Nat) (1 : Nat) (0 : Nat) len cap), ((7 : Nat), AV.ptr (1 : Nat) (0 : Nat) (0 : Nat) (0 : Nat)), ((8 : Nat), AV.ptr (2 : Nat) (0 : Nat) (0 : Nat) (0 : Nat)), ((9 : Nat), AV.int IntKind.i64 (↑i : Int))]
          [some (Blk.mk false [] (1 : Nat) cap (fun j => [AV.int IntKind.i64 (z j)]) []), some (Blk.mk true [AV.int IntKind.i64 (accV op z i), AV.int IntKind.i64 (↑i : Int)] (0 : Nat) (0 : Nat) (fun x => []) []), some (Blk.mk true [AV.int IntKind.i64 (accV op (fun d => z (i - i % s + d)) (i % s)), AV.int IntKind.i64 (↑(i % s) : Int)] (0 : Nat) (0 : Nat) (fun x => []) [])])) := by
  kernel_rfl

theorem cf_fn0 (op s : Int) : afn Try.prog cfE1 Try.f5 (codeOf Try.f5) [.int .i64 op, .int .i64 s, .nils] [] = 
  T.chk true (T.chk true (T.ite false (T.ret (AV.bool true, [])) (T.ite false T.fail (T.ret (AV.bool true, [some (Blk.mk true [AV.int IntKind.i64 (0 : Int), AV.int IntKind.i64 (0 : Int)] (0 : Nat) (0 : Nat) (fun a => []) []), some (Blk.mk true [AV.int IntKind.i64 (0 : Int), AV.int IntKind.i64 (0 : Int)] (0 : Nat) (0 : Nat) (fun a => []) [])]))))) := by
  kernel_rfl

theorem cf_fn (op s : Int) (z : Nat → Int) (len cap : Nat) : afn Try.prog cfE Try.f5 (codeOf Try.f5) [.int .i64 op, .int .i64 s, .sl 0 0 1 0 len cap] [some (toB cap z)] = 
  T.chk true
    (T.chk true
      (T.ite (decide ((↑len : Int) > (300 : Int))) (T.ret (AV.bool true, [some (Blk.mk false [] (1 : Nat) cap (fun j => [AV.int IntKind.i64 (z j)]) [])]))
        (T.need
          (∃ ρ,
            SubSt (1 : Nat) ρ
              (St.mk
                [((0 : Nat), AV.int IntKind.i64 (IntKind.wrap IntKind.i64 ((1 : Int) + if (4 : Int) < (1 : Int) then (0 : Int) else IntKind.wrap IntKind.i64 (op - (1 : Int)) % (4 : Int)))), ((1 : Nat), AV.int IntKind.i64 (IntKind.wrap IntKind.i64 ((1 : Int) + if (16 : Int) < (1 : Int) then (0 : Int) else IntKind.wrap IntKind.i64 (s - (1 : Int)) % (16 : Int)))),
                  ((2 : Nat), AV.sl (0 : Nat) (0 : Nat) (1 : Nat) (0 : Nat) len cap), ((7 : Nat), AV.ptr (1 : Nat) (0 : Nat) (0 : Nat) (0 : Nat)), ((8 : Nat), AV.ptr (2 : Nat) (0 : Nat) (0 : Nat) (0 : Nat)), ((9 : Nat), AV.int IntKind.i64 (0 : Int))]
                [some (Blk.mk false [] (1 : Nat) cap (fun j => [AV.int IntKind.i64 (z j)]) []), some (Blk.mk true [AV.int IntKind.i64 (0 : Int), AV.int IntKind.i64 (0 : Int)] (0 : Nat) (0 : Nat) (fun a => []) []), some (Blk.mk true [AV.int IntKind.i64 (0 : Int), AV.int IntKind.i64 (0 : Int)] (0 : Nat) (0 : Nat) (fun a => []) [])])
              (foSt (FO.mk (IntKind.wrap IntKind.i64 ((1 : Int) + if (4 : Int) < (1 : Int) then (0 : Int) else IntKind.wrap IntKind.i64 (op - (1 : Int)) % (4 : Int))) (Int.toNat (IntKind.wrap IntKind.i64 ((1 : Int) + if (16 : Int) < (1 : Int) then (0 : Int) else IntKind.wrap IntKind.i64 (s - (1 : Int)) % (16 : Int)))) z len cap (0 : Nat))))
          (T.need (foInv (FO.mk (IntKind.wrap IntKind.i64 ((1 : Int) + if (4 : Int) < (1 : Int) then (0 : Int) else IntKind.wrap IntKind.i64 (op - (1 : Int)) % (4 : Int))) (Int.toNat (IntKind.wrap IntKind.i64 ((1 : Int) + if (16 : Int) < (1 : Int) then (0 : Int) else IntKind.wrap IntKind.i64 (s - (1 : Int)) % (16 : Int)))) z len cap (0 : Nat)))
            (T.ret (AV.bool true, [some (Blk.mk false [] (1 : Nat) cap (fun j => [AV.int IntKind.i64 (z j)]) [])])))))) := by
  kernel_rfl

theorem fold_tot {op : Int} {g : Nat → Int} {m : Nat} {v : Int} (h1 : 1 ≤ op) (h4 : op ≤ 4) (hm : m ≤ 4294967296) (hv : v = g m) : foV op (accV op g m) m v = totG op g (m + 1) := by
  subst hv
  have hw : IntKind.wrap IntKind.i64 ((m : Int) + 1) = ((m + 1 : Nat) : Int) := by rw [IntWalk.i64_in _ (by omega)]; omega
  unfold foV totG
  by_cases e4 : op = 4
  · rw [if_pos e4, if_pos e4, hw]
  · rw [if_neg e4, if_neg e4, Nat.add_sub_cancel]
    cases m with
    | zero => rw [if_pos (by rfl)]; rfl
    | succ k =>
      rw [if_neg (by omega)]
      have ea : accV op g (k + 1) = tot op g k := by simp [accV, totG, e4]
      rw [ea]
      simp only [tot, stp]
      by_cases e1 : op = 1
      · simp [e1]
      · by_cases e2 : op = 2
        · simp [e2]
        · have e3 : op = 3 := by omega
          simp [e3]

theorem two_blk {n : Nat} {ρ : Nat → Nat} {x y x' y' : Int} (h1 : x = x') (h2 : y = y') : BlkOK n ρ (twoB x y) (twoB x' y') := by
  subst h1; subst h2
  exact ⟨fun h => h, by simp [twoB, LAlike, ren, below, AV.scalar], rfl, rfl, fun j hj => by simp [twoB] at hj, by simp [twoB, LAlike]⟩

theorem to_blk {n c : Nat} {ρ : Nat → Nat} {z : Nat → Int} : BlkOK n ρ (toB c z) (toB c z) := BlkOK.rows' (fun h => h) fun j _ => LAlike.ints rfl

theorem cf_sub {m : AM} {x : FO} {p q r s : Int} (h0 : m.get 0 = some (toB x.cap x.z)) (h1 : m.get 1 = some (twoB p q)) (h2 : m.get 2 = some (twoB r s)) (e1 : p = accV x.op x.z x.i) (e2 : q = x.i) (e3 : r = accV x.op (fun d => x.z (x.i - x.i % x.s + d)) (x.i % x.s)) (e4 : s = (x.i % x.s : Nat)) :
    Sub 1 id m (foM x) :=
  Sub.ofId ⟨⟨_, h0, to_blk⟩, ⟨_, h1, two_blk e1 e2⟩, ⟨_, h2, two_blk e3 e4⟩, trivial⟩ (by simp [foM])

theorem cf_loop : LoopOK Try.prog cfE (loopAt (codeOf Try.f5) 0) := by
  refine loopSumm_ok (E := cfE) (EnvOK.cons to_ok (EnvOK.cons pick_ok (laE_ok 0))) (noLoops (by kernel_rfl)) foSt foInv (fun x => x.len - x.i) foPick foEnd ?_ (by kernel_rfl)
  rintro ⟨op, s, z, len, cap, i⟩ ⟨h1, h2, h3, h4, h5, h6, h7⟩ Q hq
  dsimp only at h1 h2 h3 h4 h5 h6 h7
  refine round_keep [0, 1, 2, 7, 8, 9] ?_
  rw [cf_tree]
  have hw : IntKind.wrap IntKind.i64 ((i : Int) + 1) = ((i + 1 : Nat) : Int) := by rw [IntWalk.i64_in _ (by omega)]; omega
  have t1 : Int.toNat (i : Int) = i := by omega
  have t2 : Int.toNat ((i + 1 : Nat) : Int) = i + 1 := by omega
  have ms := Nat.mod_lt i (show 0 < s by omega)
  have md := Nat.div_add_mod i s
  have ml := Nat.mod_le i s
  have hwm : IntKind.wrap IntKind.i64 (((i % s : Nat) : Int) + 1) = ((i % s + 1 : Nat) : Int) := by rw [IntWalk.i64_in _ (by omega)]; omega
  have wiff : wiP s ((i % s : Nat) : Int) ↔ i % s + 1 = s := by unfold wiP; rw [hwm]; omega
  have eA := fold_tot (g := z) (m := i) (v := z i) h1 h2 (by omega) rfl
  have eB := fold_tot (g := fun d => z (i - i % s + d)) (m := i % s) (v := z i) h1 h2 (by omega) (by show z i = z (i - i % s + i % s); rw [Nat.sub_add_cancel ml])
  have hacc : accV op z (i + 1) = totG op z (i + 1) := if_neg (by omega)
  have z0 : (fun d => z (0 + d)) = z := by funext d; rw [Nat.zero_add]
  have tm : Int.tmod ((i + 1 : Nat) : Int) (s : Int) = (((i + 1) % s : Nat) : Int) := by rw [Int.tmod_eq_emod_of_nonneg (by omega)]; rfl
  simp only [hw, t1, t2, Nat.zero_add, hwm, eA, eB, z0, tm]
  refine T.hiteP (fun h => ?_) (fun h => Round.out id ⟨[], [some (toB cap z)]⟩ (SubSt.mk trivial (Sub.ofId ⟨⟨_, rfl, to_blk⟩, trivial⟩ (Nat.le_refl 1))) hq)
  have h : i < len := by omega
  by_cases hs : i % s + 1 = s
  · have hwi : wiP s ((i % s : Nat) : Int) := wiff.2 hs
    have m1 : (i + 1) % s = 0 := by
      rw [show i + 1 = s * (i / s + 1) by rw [Nat.mul_add, Nat.mul_one]; omega]
      exact Nat.mul_mod_right _ _
    have hge : s ≤ i + 1 := by omega
    have hws : IntKind.wrap IntKind.i64 (((i + 1 : Nat) : Int) - (s : Int)) = ((i + 1 - s : Nat) : Int) := by rw [IntWalk.i64_in _ (by omega)]; omega
    have t3 : Int.toNat ((i + 1 - s : Nat) : Int) = i + 1 - s := by omega
    have t4 : i + 1 - (i + 1 - s) = s := by omega
    have t5 : i - i % s = i + 1 - s := by omega
    simp only [hwi, if_true, hws, t3, t4, t5, m1, hs, if_neg (show ¬ cap = i + 1 - s by omega), decide_true]
    repeat' first | refine T.hiteP (fun _ => ?_) (fun _ => ?_) | refine T.hiteE (fun _ => ?_) (fun _ => ?_) | refine T.hiteN (fun _ => ?_) (fun _ => ?_) | refine T.hiteFP (fun _ => ?_) (fun _ => ?_) | refine T.hiteFE (fun _ => ?_) (fun _ => ?_) | refine T.hiteF (fun _ => ?_) (fun _ => ?_) | refine T.hite (fun _ => ?_) (fun _ => ?_) | refine T.hneed rfl ?_ | refine T.hneed IntRow.rows ?_ | refine T.hneed trivial ?_ | refine T.hchk ?_ ?_ | refine T.hall (fun _ => ?_) | refine T.hasm (fun _ => ?_)
    all_goals (try refine T.hret ?_)
    all_goals first
      | exact Round.go ⟨op, s, z, len, cap, i + 1⟩ id ⟨h1, h2, h3, h4, h5, h6, by dsimp only; omega⟩ (by dsimp only; omega) (SubSt.mk (by simp [foSt, foM, SubFr, slotAt, ren, below]) (cf_sub rfl rfl rfl hacc.symm rfl (by show (0 : Int) = accV op _ ((i + 1) % s); rw [m1]; rfl) (by show (0 : Int) = (((i + 1) % s : Nat) : Int); rw [m1]; rfl))) hq
      | (simp; done)
      | (simp; omega)
      | (exfalso; simp_all; done)
      | (exfalso; simp_all; omega)
  · have hwi : ¬ wiP s ((i % s : Nat) : Int) := fun hh => hs (wiff.1 hh)
    have m1 : (i + 1) % s = i % s + 1 := by
      rw [show i + 1 = i % s + 1 + s * (i / s) by omega, Nat.add_mul_mod_self_left]
      exact Nat.mod_eq_of_lt (by omega)
    have hB : totG op (fun d => z (i - i % s + d)) (i % s + 1) = accV op (fun d => z (i + 1 - (i + 1) % s + d)) ((i + 1) % s) := by
      rw [m1, show i + 1 - (i % s + 1) = i - i % s by omega]; exact (if_neg (by omega)).symm
    have hB2 : ((i % s + 1 : Nat) : Int) = (((i + 1) % s : Nat) : Int) := by rw [m1]
    simp only [hwi, if_false, m1, decide_false]
    repeat' first | refine T.hiteP (fun _ => ?_) (fun _ => ?_) | refine T.hiteE (fun _ => ?_) (fun _ => ?_) | refine T.hiteN (fun _ => ?_) (fun _ => ?_) | refine T.hiteFP (fun _ => ?_) (fun _ => ?_) | refine T.hiteFE (fun _ => ?_) (fun _ => ?_) | refine T.hiteF (fun _ => ?_) (fun _ => ?_) | refine T.hite (fun _ => ?_) (fun _ => ?_) | refine T.hneed rfl ?_ | refine T.hneed IntRow.rows ?_ | refine T.hneed trivial ?_ | refine T.hchk ?_ ?_ | refine T.hall (fun _ => ?_) | refine T.hasm (fun _ => ?_)
    all_goals (try refine T.hret ?_)
    all_goals first
      | exact Round.go ⟨op, s, z, len, cap, i + 1⟩ id ⟨h1, h2, h3, h4, h5, h6, by dsimp only; omega⟩ (by dsimp only; omega) (SubSt.mk (by simp [foSt, foM, SubFr, slotAt, ren, below]) (cf_sub rfl rfl rfl hacc.symm rfl hB hB2)) hq
      | (simp; done)
      | (simp; omega)
      | (exfalso; simp_all; done)
      | (exfalso; simp_all; omega)

theorem cf_law : ∀ args m, ArgsAV [PK.one (CK.int IntKind.i64), PK.one (CK.int IntKind.i64), PK.one (CK.sl [CK.int IntKind.i64])] [] args m → Walks Try.prog Try.f5 (codeOf Try.f5) args m := by
  intro args m h
  obtain ⟨op, _, rfl, hop, h⟩ := args_int h
  obtain ⟨s, _, rfl, hs, h⟩ := args_int h
  rcases args_ints h with ⟨_, rfl, hh⟩ | ⟨len, cap, z, _, rfl, hl, hc, hz, hh⟩
  · obtain ⟨rfl, rfl⟩ := args_nil hh
    refine ⟨cfE1, EnvOK.cons to_ok (EnvOK.cons pick_ok (laE_ok 0)), oneLoop (by kernel_rfl) (unroll_ok (E := cfE1) (EnvOK.cons to_ok (EnvOK.cons pick_ok (laE_ok 0))) cfE0 rfl rfl rfl 1 (noLoops (by kernel_rfl)) (by kernel_rfl)), rfl, rfl, ?_⟩
    rw [cf_fn0]
    exact T.hchk rfl (T.hchk rfl (T.hite (fun h => by cases h) (fun _ => T.hite (fun h => by cases h) (fun _ => rfl))))
  · obtain ⟨rfl, rfl⟩ := args_nil hh
    refine ⟨cfE, EnvOK.cons to_ok (EnvOK.cons pick_ok (laE_ok 0)), oneLoop (by kernel_rfl) cf_loop, rfl, rfl, ?_⟩
    rw [show [AV.int IntKind.i64 op, AV.int IntKind.i64 s, AV.sl (List.length ([] : AM)) 0 1 0 len cap] = [.int .i64 op, .int .i64 s, .sl 0 0 1 0 len cap] from rfl, show ([] ++ [some (Blk.rows false 1 cap fun r => [AV.int IntKind.i64 (z r)])] : AM) = [some (toB cap z)] from rfl, cf_fn]
    have p1 := Int.emod_nonneg (IntKind.wrap .i64 (op - 1)) (show (4 : Int) ≠ 0 by omega)
    have p2 := Int.emod_lt_of_pos (IntKind.wrap .i64 (op - 1)) (show (0 : Int) < 4 by omega)
    have p3 := Int.emod_nonneg (IntKind.wrap .i64 (s - 1)) (show (16 : Int) ≠ 0 by omega)
    have p4 := Int.emod_lt_of_pos (IntKind.wrap .i64 (s - 1)) (show (0 : Int) < 16 by omega)
    rw [if_neg (show ¬ (4 : Int) < 1 by omega), if_neg (show ¬ (16 : Int) < 1 by omega)]
    have w1 : IntKind.wrap .i64 (1 + IntKind.wrap .i64 (op - 1) % 4) = 1 + IntKind.wrap .i64 (op - 1) % 4 := IntWalk.i64_in _ (by omega)
    have w2 : IntKind.wrap .i64 (1 + IntKind.wrap .i64 (s - 1) % 16) = 1 + IntKind.wrap .i64 (s - 1) % 16 := IntWalk.i64_in _ (by omega)
    rw [w1, w2]
    refine T.hchk rfl (T.hchk rfl (T.hiteP (fun _ => rfl) (fun h3 => T.hneed ⟨id, SubSt.mk ?_ ?_⟩ (T.hneed ⟨by dsimp only; omega, by dsimp only; omega, by dsimp only; omega, by dsimp only; omega, by dsimp only; omega, hl, Nat.zero_le _⟩ rfl))))
    · simp [foSt, foM, SubFr, slotAt, ren, below]; omega
    · exact cf_sub rfl rfl rfl rfl rfl (by simp [accV]) (by simp)

end Go.Proofs.Ytbnijmoiaegopaa
