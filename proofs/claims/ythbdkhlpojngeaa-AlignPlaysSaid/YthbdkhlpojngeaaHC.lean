/-
  Layer 19: known, Opens.
-/
import Derived.Test.YthbdkhlpojngeaaHB
import Derived.Test.YthbdkhlpojngeaaHPick
namespace Go.Proofs.Ythbdkhlpojngeaa
open Go.Ox
set_option maxRecDepth 100000
set_option linter.unusedVariables false
set_option linter.unusedSimpArgs false

noncomputable def alE (nt : Nat) : Env := { nt := nt, n0 := 0, loop := fun _ _ => .fail, fns := [(11, .eff fun args m => lift [] m [] (nwS args)), (13, .eff baS), (15, .pure bkS), (10, .pure fun args _ => pickS args)] }

theorem alE_ok (nt : Nat) : EnvOK Try.prog (alE nt).fns := EnvOK.cons nw_ok (EnvOK.cons ba_ok (EnvOK.cons bk_ok (EnvOK.cons pick_ok EnvOK.nil)))

theorem kn_fn : vfn Try.prog (alE Try.f17.ntmps) Try.f17 (codeOf Try.f17) [] = 
  T.need (IsAl (Blk.mk true [AV.int IntKind.i64 (2 : Int)] (1 : Nat) (96 : Nat) (fun j => [AV.bool false]) [AV.int IntKind.i64 (0 : Int), AV.int IntKind.i64 (0 : Int), AV.int IntKind.i64 (0 : Int), AV.bool false] none))
    (T.chk true
      (T.ite true
        (T.need (IsAl (Blk.mk true [AV.int IntKind.i64 (2 : Int)] (1 : Nat) (96 : Nat) (fun j => [AV.bool (if j = (0 : Nat) then true else B1A (stA (renB (out [] (0 : Nat)) (alB (newA (2 : Int))))) (1 : Int) j)]) [AV.int IntKind.i64 (1 : Int), AV.int IntKind.i64 (1 : Int), AV.int IntKind.i64 (0 : Int), AV.bool false] none))
          (T.chk true
            (T.ite true
              (T.need (IsAl (Blk.mk true [AV.int IntKind.i64 (2 : Int)] (1 : Nat) (96 : Nat) (fun j => [AV.bool (if j = (0 : Nat) then true else B1A (stA (renB (out [] (0 : Nat)) (alB (newA (2 : Int))))) (1 : Int) j)]) [AV.int IntKind.i64 (1 : Int), AV.int IntKind.i64 (1 : Int), AV.int IntKind.i64 (0 : Int), AV.bool false] none))
                (T.chk true
                  (T.ite true
                    (T.need (IsAl (Blk.mk true [AV.int IntKind.i64 (2 : Int)] (1 : Nat) (96 : Nat) (fun j => [AV.bool (if j = (0 : Nat) then true else B1A (stA (renB (out [] (0 : Nat)) (alB (newA (2 : Int))))) (1 : Int) j)]) [AV.int IntKind.i64 (1 : Int), AV.int IntKind.i64 (1 : Int), AV.int IntKind.i64 (0 : Int), AV.bool false] none))
                      (T.chk true (T.ite true (T.need (IsAl (Blk.mk true [AV.int IntKind.i64 (2 : Int)] (1 : Nat) (96 : Nat) (fun j => [AV.bool false]) [AV.int IntKind.i64 (0 : Int), AV.int IntKind.i64 (1 : Int), AV.int IntKind.i64 (1 : Int), AV.bool true] none)) (T.chk true (T.ret (AV.bool true)))) (T.ret AV.ff))))
                    (T.ret AV.ff))))
              (T.ret AV.ff))))
        (T.ret AV.ff))) := by
  kernel_rfl

def knS : List AV → T AV
  | [] => .ret (.bool true)
  | _ => .fail

theorem kn_ok : SummOK Try.prog 17 (.pure fun args _ => knS args) := by
  refine val_fn (E := alE Try.f17.ntmps) (c := codeOf Try.f17) (fun args w => Try.call17 args w) Try.func17 rfl (alE_ok _) (noLoops (by kernel_rfl)) rfl rfl ?_
  intro args Q hq
  unfold knS at hq ⊢
  split at hq
  · refine ⟨rfl, _, rfl, fun Q h => h, rfl, ?_⟩
    rw [kn_fn]
    refine T.hneed isAl (T.hchk rfl (T.hite (fun _ => T.hneed isAl (T.hchk rfl (T.hite (fun _ => T.hneed isAl (T.hchk rfl (T.hite (fun _ => T.hneed isAl (T.hchk rfl (T.hite (fun _ => T.hneed isAl (T.hchk rfl (T.hret (Ox.Alike_refl _)))) (fun h => by cases h)))) (fun h => by cases h)))) (fun h => by cases h)))) (fun h => by cases h)))
  · exact hq.elim

noncomputable def laE (nt : Nat) : Env := { alE nt with fns := (17, .pure fun args _ => knS args) :: (alE nt).fns }

theorem laE_ok (nt : Nat) : EnvOK Try.prog (laE nt).fns := EnvOK.cons kn_ok (alE_ok nt)

structure ON where
  z : Bool
  f : Nat → Int
  cap : Nat
  len : Nat
  w : Int
  l : Int
  any : Bool
  i : Nat
def onA (w l : Int) (any : Bool) : AL := ⟨1, fun _ => false, 0, w, l, any⟩
def on1 (f : Nat → Int) (cap len : Nat) (w l : Int) (any : Bool) (i : Nat) : St := ⟨[(0, .sl 0 0 1 0 len cap), (3, .ptr 1 0 0 0), (4, .int .i64 l), (5, .bool any), (6, .int .i64 i)], [some (Blk.rows false 1 cap fun j => [.int .i64 (f j)]), some (alB (onA w l any))]⟩
def onSt (x : ON) : St := on1 x.f x.cap x.len x.w x.l x.any x.i
def onInv (x : ON) : Prop := x.len ≤ x.cap ∧ x.i ≤ x.len ∧ x.i ≤ 300
def onPick (st : St) : Option ON :=
  match slotAt st.fr 0, AM.get st.m 0 with
  | some (.sl _ _ _ _ len cap), some b => some ⟨true, intAt b, cap, len, 0, 0, false, 0⟩
  | _, _ => none
def onEnd (x : ON) : T (Ex × St) := .ret (.exit 0, ⟨[], [none]⟩)
noncomputable def onE : Env := { laE Try.f9.ntmps with n0 := 1, loop := fun k => if k = 7 then loopSumm 1 onSt onInv onPick onEnd else fun _ => .fail }
noncomputable def onE0 : Env := { onE with n0 := 0, loop := fun _ _ => .fail }
noncomputable def onE1 : Env := { onE with n0 := 0, loop := fun k => if k = 7 then unrollN Try.prog onE0 (loopAt (codeOf Try.f9) 0) 1 else fun _ => .fail }

theorem on_tree (f : Nat → Int) (cap len : Nat) (w l : Int) (any : Bool) (i : Nat) : keepT [0, 3, 4, 5, 6] (acode Try.prog onE (loopAt (codeOf Try.f9) 0) (on1 f cap len w l any i)) = 
  T.ite (decide ((↑i : Int) < (↑len : Int)))
    (T.ite (decide ((↑i : Int) < (300 : Int)))
      (T.ite (!any)
        (T.chk (decide ((0 : Int) ≤ (↑i : Int)) && decide ((↑i : Int) < (↑len : Int)))
          (T.chk (decide ((0 : Nat) + Int.toNat (↑i : Int) < cap))
            (T.need (IsAl (Blk.mk true [AV.int IntKind.i64 (1 : Int)] (1 : Nat) (96 : Nat) (fun j => [AV.bool false]) [AV.int IntKind.i64 (0 : Int), AV.int IntKind.i64 w, AV.int IntKind.i64 l, AV.bool any] none))
              (T.chk (decide (intA (AV.int IntKind.i64 (1 : Int)) ≤ (96 : Int)))
                (T.ite (!barR (stA (alB (onA w l any))) (0 : Int) (f ((0 : Nat) + Int.toNat (↑i : Int))) == true)
                  (T.ret
                    (Ex.ret,
                      St.mk [((0 : Nat), AV.sl (0 : Nat) (0 : Nat) (1 : Nat) (0 : Nat) len cap), ((3 : Nat), AV.ptr (1 : Nat) (0 : Nat) (0 : Nat) (0 : Nat)), ((4 : Nat), AV.int IntKind.i64 l), ((5 : Nat), AV.bool any), ((6 : Nat), AV.int IntKind.i64 (↑i : Int))]
                        [some (Blk.mk false [] (1 : Nat) cap (fun j => [AV.int IntKind.i64 (f j)]) [] none),
                          some
                            (Blk.mk true [AV.int IntKind.i64 (AL.n (bar (stA (alB (onA w l any))) (0 : Int) (f ((0 : Nat) + Int.toNat (↑i : Int)))))] (1 : Nat) (96 : Nat) (fun j => [AV.bool (AL.B (bar (stA (alB (onA w l any))) (0 : Int) (f ((0 : Nat) + Int.toNat (↑i : Int)))) j)])
                              [AV.int IntKind.i64 (AL.c (bar (stA (alB (onA w l any))) (0 : Int) (f ((0 : Nat) + Int.toNat (↑i : Int))))), AV.int IntKind.i64 (AL.w (bar (stA (alB (onA w l any))) (0 : Int) (f ((0 : Nat) + Int.toNat (↑i : Int))))), AV.int IntKind.i64 (AL.l (bar (stA (alB (onA w l any))) (0 : Int) (f ((0 : Nat) + Int.toNat (↑i : Int))))),
                                AV.bool (AL.d (bar (stA (alB (onA w l any))) (0 : Int) (f ((0 : Nat) + Int.toNat (↑i : Int)))))]
                              none)]))
                  (T.need
                    (IsAl
                      (Blk.mk true [AV.int IntKind.i64 (AL.n (bar (stA (alB (onA w l any))) (0 : Int) (f ((0 : Nat) + Int.toNat (↑i : Int)))))] (1 : Nat) (96 : Nat) (fun j => [AV.bool (AL.B (bar (stA (alB (onA w l any))) (0 : Int) (f ((0 : Nat) + Int.toNat (↑i : Int)))) j)])
                        [AV.int IntKind.i64 (AL.c (bar (stA (alB (onA w l any))) (0 : Int) (f ((0 : Nat) + Int.toNat (↑i : Int))))), AV.int IntKind.i64 (AL.w (bar (stA (alB (onA w l any))) (0 : Int) (f ((0 : Nat) + Int.toNat (↑i : Int))))), AV.int IntKind.i64 (AL.l (bar (stA (alB (onA w l any))) (0 : Int) (f ((0 : Nat) + Int.toNat (↑i : Int))))),
                          AV.bool (AL.d (bar (stA (alB (onA w l any))) (0 : Int) (f ((0 : Nat) + Int.toNat (↑i : Int)))))]
                        none))
                    (T.chk (decide (intA (AV.int IntKind.i64 (AL.n (bar (stA (alB (onA w l any))) (0 : Int) (f ((0 : Nat) + Int.toNat (↑i : Int)))))) ≤ (96 : Int)))
                      (T.ite (blkA (stA (renB (out [(1 : Nat)] (2 : Nat)) (alB (bar (stA (alB (onA w l any))) (0 : Int) (f ((0 : Nat) + Int.toNat (↑i : Int))))))) (0 : Int))
                        (T.ret
                          (Ex.ret,
                            St.mk [((0 : Nat), AV.sl (0 : Nat) (0 : Nat) (1 : Nat) (0 : Nat) len cap), ((3 : Nat), AV.ptr (1 : Nat) (0 : Nat) (0 : Nat) (0 : Nat)), ((4 : Nat), AV.int IntKind.i64 l), ((5 : Nat), AV.bool any), ((6 : Nat), AV.int IntKind.i64 (↑i : Int))]
                              [some (Blk.mk false [] (1 : Nat) cap (fun j => [AV.int IntKind.i64 (f j)]) [] none),
                                some
                                  (Blk.mk true [AV.int IntKind.i64 (AL.n (bar (stA (alB (onA w l any))) (0 : Int) (f ((0 : Nat) + Int.toNat (↑i : Int)))))] (1 : Nat) (96 : Nat) (fun j => [AV.bool (AL.B (bar (stA (alB (onA w l any))) (0 : Int) (f ((0 : Nat) + Int.toNat (↑i : Int)))) j)])
                                    [AV.int IntKind.i64 (AL.c (bar (stA (alB (onA w l any))) (0 : Int) (f ((0 : Nat) + Int.toNat (↑i : Int))))), AV.int IntKind.i64 (AL.w (bar (stA (alB (onA w l any))) (0 : Int) (f ((0 : Nat) + Int.toNat (↑i : Int))))), AV.int IntKind.i64 (AL.l (bar (stA (alB (onA w l any))) (0 : Int) (f ((0 : Nat) + Int.toNat (↑i : Int))))),
                                      AV.bool (AL.d (bar (stA (alB (onA w l any))) (0 : Int) (f ((0 : Nat) + Int.toNat (↑i : Int)))))]
                                    none)]))
                        (T.chk (decide ((0 : Int) ≤ (↑i : Int)) && decide ((↑i : Int) < (↑len : Int)))
                          (T.chk (decide ((0 : Nat) + Int.toNat (↑i : Int) < cap))
                            (T.ret
                              (Ex.norm,
                                St.mk [((0 : Nat), AV.sl (0 : Nat) (0 : Nat) (1 : Nat) (0 : Nat) len cap), ((3 : Nat), AV.ptr (1 : Nat) (0 : Nat) (0 : Nat) (0 : Nat)), ((4 : Nat), AV.int IntKind.i64 (f ((0 : Nat) + Int.toNat (↑i : Int)))), ((5 : Nat), AV.tt), ((6 : Nat), AV.int IntKind.i64 (IntKind.wrap IntKind.i64 ((↑i : Int) + (1 : Int))))]
                                  [some (Blk.mk false [] (1 : Nat) cap (fun j => [AV.int IntKind.i64 (f j)]) [] none),
                                    some
                                      (Blk.mk true [AV.int IntKind.i64 (AL.n (bar (stA (alB (onA w l any))) (0 : Int) (f ((0 : Nat) + Int.toNat (↑i : Int)))))] (1 : Nat) (96 : Nat) (fun j => [AV.bool (AL.B (bar (stA (alB (onA w l any))) (0 : Int) (f ((0 : Nat) + Int.toNat (↑i : Int)))) j)])
                                        [AV.int IntKind.i64 (AL.c (bar (stA (alB (onA w l any))) (0 : Int) (f ((0 : Nat) + Int.toNat (↑i : Int))))), AV.int IntKind.i64 (AL.w (bar (stA (alB (onA w l any))) (0 : Int) (f ((0 : Nat) + Int.toNat (↑i : Int))))), AV.int IntKind.i64 (AL.l (bar (stA (alB (onA w l any))) (0 : Int) (f ((0 : Nat) + Int.toNat (↑i : Int))))),
                                          AV.bool (AL.d (bar (stA (alB (onA w l any))) (0 : Int) (f ((0 : Nat) + Int.toNat (↑i : Int)))))]
                                        none)]))))))))))))
        (T.chk (decide ((0 : Int) ≤ (↑i : Int)) && decide ((↑i : Int) < (↑len : Int)))
          (T.chk (decide ((0 : Nat) + Int.toNat (↑i : Int) < cap))
            (T.chk (decide ((0 : Int) ≤ (↑i : Int)) && decide ((↑i : Int) < (↑len : Int)))
              (T.chk (decide ((0 : Nat) + Int.toNat (↑i : Int) < cap))
                (T.need (IsAl (Blk.mk true [AV.int IntKind.i64 (1 : Int)] (1 : Nat) (96 : Nat) (fun j => [AV.bool false]) [AV.int IntKind.i64 (0 : Int), AV.int IntKind.i64 w, AV.int IntKind.i64 l, AV.bool any] none))
                  (T.chk (decide (intA (AV.int IntKind.i64 (1 : Int)) ≤ (96 : Int)))
                    (T.ite (!barR (stA (alB (onA w l any))) (0 : Int) (f ((0 : Nat) + Int.toNat (↑i : Int))) == decide (f ((0 : Nat) + Int.toNat (↑i : Int)) > l))
                      (T.ret
                        (Ex.ret,
                          St.mk [((0 : Nat), AV.sl (0 : Nat) (0 : Nat) (1 : Nat) (0 : Nat) len cap), ((3 : Nat), AV.ptr (1 : Nat) (0 : Nat) (0 : Nat) (0 : Nat)), ((4 : Nat), AV.int IntKind.i64 l), ((5 : Nat), AV.bool any), ((6 : Nat), AV.int IntKind.i64 (↑i : Int))]
                            [some (Blk.mk false [] (1 : Nat) cap (fun j => [AV.int IntKind.i64 (f j)]) [] none),
                              some
                                (Blk.mk true [AV.int IntKind.i64 (AL.n (bar (stA (alB (onA w l any))) (0 : Int) (f ((0 : Nat) + Int.toNat (↑i : Int)))))] (1 : Nat) (96 : Nat) (fun j => [AV.bool (AL.B (bar (stA (alB (onA w l any))) (0 : Int) (f ((0 : Nat) + Int.toNat (↑i : Int)))) j)])
                                  [AV.int IntKind.i64 (AL.c (bar (stA (alB (onA w l any))) (0 : Int) (f ((0 : Nat) + Int.toNat (↑i : Int))))), AV.int IntKind.i64 (AL.w (bar (stA (alB (onA w l any))) (0 : Int) (f ((0 : Nat) + Int.toNat (↑i : Int))))), AV.int IntKind.i64 (AL.l (bar (stA (alB (onA w l any))) (0 : Int) (f ((0 : Nat) + Int.toNat (↑i : Int))))),
                                    AV.bool (AL.d (bar (stA (alB (onA w l any))) (0 : Int) (f ((0 : Nat) + Int.toNat (↑i : Int)))))]
                                  none)]))
                      (T.need
                        (IsAl
                          (Blk.mk true [AV.int IntKind.i64 (AL.n (bar (stA (alB (onA w l any))) (0 : Int) (f ((0 : Nat) + Int.toNat (↑i : Int)))))] (1 : Nat) (96 : Nat) (fun j => [AV.bool (AL.B (bar (stA (alB (onA w l any))) (0 : Int) (f ((0 : Nat) + Int.toNat (↑i : Int)))) j)])
                            [AV.int IntKind.i64 (AL.c (bar (stA (alB (onA w l any))) (0 : Int) (f ((0 : Nat) + Int.toNat (↑i : Int))))), AV.int IntKind.i64 (AL.w (bar (stA (alB (onA w l any))) (0 : Int) (f ((0 : Nat) + Int.toNat (↑i : Int))))), AV.int IntKind.i64 (AL.l (bar (stA (alB (onA w l any))) (0 : Int) (f ((0 : Nat) + Int.toNat (↑i : Int))))),
                              AV.bool (AL.d (bar (stA (alB (onA w l any))) (0 : Int) (f ((0 : Nat) + Int.toNat (↑i : Int)))))]
                            none))
                        (T.chk (decide (intA (AV.int IntKind.i64 (AL.n (bar (stA (alB (onA w l any))) (0 : Int) (f ((0 : Nat) + Int.toNat (↑i : Int)))))) ≤ (96 : Int)))
                          (T.ite (blkA (stA (renB (out [(1 : Nat)] (2 : Nat)) (alB (bar (stA (alB (onA w l any))) (0 : Int) (f ((0 : Nat) + Int.toNat (↑i : Int))))))) (0 : Int))
                            (T.ret
                              (Ex.ret,
                                St.mk [((0 : Nat), AV.sl (0 : Nat) (0 : Nat) (1 : Nat) (0 : Nat) len cap), ((3 : Nat), AV.ptr (1 : Nat) (0 : Nat) (0 : Nat) (0 : Nat)), ((4 : Nat), AV.int IntKind.i64 l), ((5 : Nat), AV.bool any), ((6 : Nat), AV.int IntKind.i64 (↑i : Int))]
                                  [some (Blk.mk false [] (1 : Nat) cap (fun j => [AV.int IntKind.i64 (f j)]) [] none),
                                    some
                                      (Blk.mk true [AV.int IntKind.i64 (AL.n (bar (stA (alB (onA w l any))) (0 : Int) (f ((0 : Nat) + Int.toNat (↑i : Int)))))] (1 : Nat) (96 : Nat) (fun j => [AV.bool (AL.B (bar (stA (alB (onA w l any))) (0 : Int) (f ((0 : Nat) + Int.toNat (↑i : Int)))) j)])
                                        [AV.int IntKind.i64 (AL.c (bar (stA (alB (onA w l any))) (0 : Int) (f ((0 : Nat) + Int.toNat (↑i : Int))))), AV.int IntKind.i64 (AL.w (bar (stA (alB (onA w l any))) (0 : Int) (f ((0 : Nat) + Int.toNat (↑i : Int))))), AV.int IntKind.i64 (AL.l (bar (stA (alB (onA w l any))) (0 : Int) (f ((0 : Nat) + Int.toNat (↑i : Int))))),
                                          AV.bool (AL.d (bar (stA (alB (onA w l any))) (0 : Int) (f ((0 : Nat) + Int.toNat (↑i : Int)))))]
                                        none)]))
                            (T.ite (decide (f ((0 : Nat) + Int.toNat (↑i : Int)) > l))
                              (T.chk (decide ((0 : Int) ≤ (↑i : Int)) && decide ((↑i : Int) < (↑len : Int)))
                                (T.chk (decide ((0 : Nat) + Int.toNat (↑i : Int) < cap))
                                  (T.ret
                                    (Ex.norm,
                                      St.mk [((0 : Nat), AV.sl (0 : Nat) (0 : Nat) (1 : Nat) (0 : Nat) len cap), ((3 : Nat), AV.ptr (1 : Nat) (0 : Nat) (0 : Nat) (0 : Nat)), ((4 : Nat), AV.int IntKind.i64 (f ((0 : Nat) + Int.toNat (↑i : Int)))), ((5 : Nat), AV.tt), ((6 : Nat), AV.int IntKind.i64 (IntKind.wrap IntKind.i64 ((↑i : Int) + (1 : Int))))]
                                        [some (Blk.mk false [] (1 : Nat) cap (fun j => [AV.int IntKind.i64 (f j)]) [] none),
                                          some
                                            (Blk.mk true [AV.int IntKind.i64 (AL.n (bar (stA (alB (onA w l any))) (0 : Int) (f ((0 : Nat) + Int.toNat (↑i : Int)))))] (1 : Nat) (96 : Nat) (fun j => [AV.bool (AL.B (bar (stA (alB (onA w l any))) (0 : Int) (f ((0 : Nat) + Int.toNat (↑i : Int)))) j)])
                                              [AV.int IntKind.i64 (AL.c (bar (stA (alB (onA w l any))) (0 : Int) (f ((0 : Nat) + Int.toNat (↑i : Int))))), AV.int IntKind.i64 (AL.w (bar (stA (alB (onA w l any))) (0 : Int) (f ((0 : Nat) + Int.toNat (↑i : Int))))), AV.int IntKind.i64 (AL.l (bar (stA (alB (onA w l any))) (0 : Int) (f ((0 : Nat) + Int.toNat (↑i : Int))))),
                                                AV.bool (AL.d (bar (stA (alB (onA w l any))) (0 : Int) (f ((0 : Nat) + Int.toNat (↑i : Int)))))]
                                              none)]))))
                              (T.ret
                                (Ex.norm,
                                  St.mk [((0 : Nat), AV.sl (0 : Nat) (0 : Nat) (1 : Nat) (0 : Nat) len cap), ((3 : Nat), AV.ptr (1 : Nat) (0 : Nat) (0 : Nat) (0 : Nat)), ((4 : Nat), AV.int IntKind.i64 l), ((5 : Nat), AV.bool any), ((6 : Nat), AV.int IntKind.i64 (IntKind.wrap IntKind.i64 ((↑i : Int) + (1 : Int))))]
                                    [some (Blk.mk false [] (1 : Nat) cap (fun j => [AV.int IntKind.i64 (f j)]) [] none),
                                      some
                                        (Blk.mk true [AV.int IntKind.i64 (AL.n (bar (stA (alB (onA w l any))) (0 : Int) (f ((0 : Nat) + Int.toNat (↑i : Int)))))] (1 : Nat) (96 : Nat) (fun j => [AV.bool (AL.B (bar (stA (alB (onA w l any))) (0 : Int) (f ((0 : Nat) + Int.toNat (↑i : Int)))) j)])
                                          [AV.int IntKind.i64 (AL.c (bar (stA (alB (onA w l any))) (0 : Int) (f ((0 : Nat) + Int.toNat (↑i : Int))))), AV.int IntKind.i64 (AL.w (bar (stA (alB (onA w l any))) (0 : Int) (f ((0 : Nat) + Int.toNat (↑i : Int))))), AV.int IntKind.i64 (AL.l (bar (stA (alB (onA w l any))) (0 : Int) (f ((0 : Nat) + Int.toNat (↑i : Int))))),
                                            AV.bool (AL.d (bar (stA (alB (onA w l any))) (0 : Int) (f ((0 : Nat) + Int.toNat (↑i : Int)))))]
                                          none)]))))))))))))))
      (T.ret
        (Ex.exit (0 : Nat),
          St.mk [((0 : Nat), AV.sl (0 : Nat) (0 : Nat) (1 : Nat) (0 : Nat) len cap), ((3 : Nat), AV.ptr (1 : Nat) (0 : Nat) (0 : Nat) (0 : Nat)), ((4 : Nat), AV.int IntKind.i64 l), ((5 : Nat), AV.bool any), ((6 : Nat), AV.int IntKind.i64 (↑i : Int))]
            [some (Blk.mk false [] (1 : Nat) cap (fun j => [AV.int IntKind.i64 (f j)]) [] none), some (Blk.mk true [AV.int IntKind.i64 (1 : Int)] (1 : Nat) (96 : Nat) (fun j => [AV.bool false]) [AV.int IntKind.i64 (0 : Int), AV.int IntKind.i64 w, AV.int IntKind.i64 l, AV.bool any] none)])))
    (T.ret
      (Ex.exit (0 : Nat),
        St.mk [((0 : Nat), AV.sl (0 : Nat) (0 : Nat) (1 : Nat) (0 : Nat) len cap), ((3 : Nat), AV.ptr (1 : Nat) (0 : Nat) (0 : Nat) (0 : Nat)), ((4 : Nat), AV.int IntKind.i64 l), ((5 : Nat), AV.bool any), ((6 : Nat), AV.int IntKind.i64 (↑i : Int))]
          [some (Blk.mk false [] (1 : Nat) cap (fun j => [AV.int IntKind.i64 (f j)]) [] none), some (Blk.mk true [AV.int IntKind.i64 (1 : Int)] (1 : Nat) (96 : Nat) (fun j => [AV.bool false]) [AV.int IntKind.i64 (0 : Int), AV.int IntKind.i64 w, AV.int IntKind.i64 l, AV.bool any] none)])) := by
  kernel_rfl

theorem on_fn0 : afn Try.prog onE1 Try.f9 (codeOf Try.f9) [.nils] [] = 
  T.ite false (T.ite true T.fail (T.ret (AV.bool true, [some (Blk.mk true [AV.int IntKind.i64 (1 : Int)] (1 : Nat) (96 : Nat) (fun j => [AV.bool false]) [AV.int IntKind.i64 (0 : Int), AV.int IntKind.i64 (0 : Int), AV.int IntKind.i64 (0 : Int), AV.bool false] none)])))
    (T.ret (AV.bool true, [some (Blk.mk true [AV.int IntKind.i64 (1 : Int)] (1 : Nat) (96 : Nat) (fun j => [AV.bool false]) [AV.int IntKind.i64 (0 : Int), AV.int IntKind.i64 (0 : Int), AV.int IntKind.i64 (0 : Int), AV.bool false] none)])) := by
  kernel_rfl

theorem on_fn (f : Nat → Int) (len cap : Nat) : afn Try.prog onE Try.f9 (codeOf Try.f9) [.sl 0 0 1 0 len cap] [some (Blk.rows false 1 cap fun j => [.int .i64 (f j)])] = 
  T.need
    (∃ ρ,
      SubSt (1 : Nat) ρ
        (St.mk [((0 : Nat), AV.sl (0 : Nat) (0 : Nat) (1 : Nat) (0 : Nat) len cap), ((3 : Nat), AV.ptr (1 : Nat) (0 : Nat) (0 : Nat) (0 : Nat)), ((4 : Nat), AV.int IntKind.i64 (0 : Int)), ((5 : Nat), AV.ff), ((6 : Nat), AV.int IntKind.i64 (0 : Int))]
          [some (Blk.mk false [] (1 : Nat) cap (fun j => [AV.int IntKind.i64 (f j)]) [] none), some (Blk.mk true [AV.int IntKind.i64 (1 : Int)] (1 : Nat) (96 : Nat) (fun j => [AV.bool false]) [AV.int IntKind.i64 (0 : Int), AV.int IntKind.i64 (0 : Int), AV.int IntKind.i64 (0 : Int), AV.bool false] none)])
        (onSt (ON.mk true f cap len (0 : Int) (0 : Int) false (0 : Nat))))
    (T.need (onInv (ON.mk true f cap len (0 : Int) (0 : Int) false (0 : Nat))) (T.ret (AV.bool true, [none]))) := by
  kernel_rfl

theorem st1 (s : AL) : stA (alB s) = s := rfl
theorem st2 (ρ : Nat → Nat) (s : AL) : stA (renB ρ (alB s)) = s := rfl

theorem on_full {w l no : Int} {any : Bool} : fuA (onA w l any) 0 no := by
  have e1 : B1A (onA w l any) no (Int.toNat 0) = false := by unfold B1A onA; split <;> rfl
  have e2 : c1A (onA w l any) no = 0 := by unfold c1A onA; split <;> rfl
  unfold fuA c2A
  rw [e1, e2]
  show ¬ (if false = true then (0 : Int) else IntKind.wrap .i64 (0 + 1)) < 1
  decide
theorem on_rf {w l no : Int} {any : Bool} : rfA (onA w l any) 0 no ↔ any = true ∧ no ≤ l := by simp [rfA, onA]
theorem on_new {w l no : Int} {any : Bool} (h : ¬ (any = true ∧ no ≤ l)) : barR (onA w l any) 0 no = true ∧ bar (onA w l any) 0 no = onA no no true := by
  have h := mt (on_rf (w := w)).1 h
  exact ⟨by simp [barR, h, on_full], by rw [bar, if_neg h, if_pos on_full]; rfl⟩
theorem on_old {w l no : Int} {any : Bool} (h : any = true ∧ no ≤ l) : barR (onA w l any) 0 no = false ∧ bar (onA w l any) 0 no = onA w l any := by
  have h := (on_rf (w := w)).2 h
  exact ⟨by simp [barR, h], if_pos h⟩
theorem on_blk {w l : Int} {any : Bool} : blkA (onA w l any) 0 = false := rfl

theorem on_sub {f : Nat → Int} {cap : Nat} {w l : Int} {any : Bool} {m : AM} (h0 : m.get 0 = some (Blk.rows false 1 cap fun j => [.int .i64 (f j)])) (h1 : m.get 1 = some (alB (onA w l any))) :
    Sub 1 id m [some (Blk.rows false 1 cap fun j => [.int .i64 (f j)]), some (alB (onA w l any))] :=
  Sub.ofId ⟨⟨_, h0, BlkOK.rows' (fun h => h) fun j _ => LAlike.ints rfl⟩, ⟨_, h1, al_blk rfl (fun _ _ => rfl) rfl rfl rfl rfl⟩, trivial⟩ (by simp)

theorem on_loop : LoopOK Try.prog onE (loopAt (codeOf Try.f9) 0) := by
  refine loopSumm_ok (E := onE) (laE_ok _) (noLoops (by kernel_rfl)) onSt onInv (fun x => x.len - x.i) onPick onEnd ?_ (by kernel_rfl)
  rintro ⟨z, f, cap, len, w, l, any, i⟩ ⟨h1, h2, h3⟩ Q hq
  dsimp only at h1 h2 h3
  refine round_keep [0, 3, 4, 5, 6] ?_
  rw [show onSt ⟨z, f, cap, len, w, l, any, i⟩ = on1 f cap len w l any i from rfl, on_tree]
  have t1 : Int.toNat (i : Int) = i := by omega
  have hw : IntKind.wrap IntKind.i64 ((i : Int) + 1) = ((i + 1 : Nat) : Int) := by rw [IntWalk.i64_in _ (by omega)]; omega
  have out : ∀ st, Round onE onSt onInv (fun x => x.len - x.i) onEnd Q ⟨z, f, cap, len, w, l, any, i⟩ (.exit 0, st) := fun st => Round.out id ⟨[], [none]⟩ (SubSt.mk trivial (Sub.nothing (n := 1) _)) hq
  simp only [st1, st2, t1, Nat.zero_add, hw]
  refine T.hiteP (fun hi => T.hiteP (fun h300 => ?_) (fun _ => out _)) (fun _ => out _)
  have hi : i < len := by omega
  have h300 : i < 300 := by omega
  cases any with
  | false =>
    obtain ⟨e1, e2⟩ := on_new (w := w) (l := l) (no := f i) (any := false) (by simp)
    simp only [e1, e2, on_blk]
    repeat' first | refine T.hneed isAl ?_ | refine T.hiteP (fun _ => ?_) (fun _ => ?_) | refine T.hiteE (fun _ => ?_) (fun _ => ?_) | refine T.hiteN (fun _ => ?_) (fun _ => ?_) | refine T.hiteFP (fun _ => ?_) (fun _ => ?_) | refine T.hiteFE (fun _ => ?_) (fun _ => ?_) | refine T.hiteF (fun _ => ?_) (fun _ => ?_) | refine T.hite (fun _ => ?_) (fun _ => ?_) | refine T.hneed rfl ?_ | refine T.hneed IntRow.rows ?_ | refine T.hneed trivial ?_ | refine T.hchk ?_ ?_ | refine T.hall (fun _ => ?_) | refine T.hasm (fun _ => ?_)
    all_goals (try refine T.hret ?_)
    all_goals first
      | contradiction
      | (exfalso; omega)
      | exact Round.go ⟨z, f, cap, len, f i, f i, true, i + 1⟩ id ⟨h1, by dsimp only; omega, by dsimp only; omega⟩ (by dsimp only; omega) (SubSt.mk (by simp [onSt, on1, SubFr, slotAt, ren, below]) (on_sub rfl rfl)) hq
      | (simp; done)
      | (simp; omega)
      | rfl
  | true =>
    by_cases hl : f i ≤ l
    · obtain ⟨e1, e2⟩ := on_old (w := w) (any := true) ⟨rfl, hl⟩
      have hd : decide (f i > l) = false := decide_eq_false (by omega)
      simp only [e1, e2, on_blk, hd]
      repeat' first | refine T.hneed isAl ?_ | refine T.hiteP (fun _ => ?_) (fun _ => ?_) | refine T.hiteE (fun _ => ?_) (fun _ => ?_) | refine T.hiteN (fun _ => ?_) (fun _ => ?_) | refine T.hiteFP (fun _ => ?_) (fun _ => ?_) | refine T.hiteFE (fun _ => ?_) (fun _ => ?_) | refine T.hiteF (fun _ => ?_) (fun _ => ?_) | refine T.hite (fun _ => ?_) (fun _ => ?_) | refine T.hneed rfl ?_ | refine T.hneed IntRow.rows ?_ | refine T.hneed trivial ?_ | refine T.hchk ?_ ?_ | refine T.hall (fun _ => ?_) | refine T.hasm (fun _ => ?_)
      all_goals (try refine T.hret ?_)
      all_goals first
        | contradiction
        | (exfalso; omega)
        | exact Round.go ⟨z, f, cap, len, w, l, true, i + 1⟩ id ⟨h1, by dsimp only; omega, by dsimp only; omega⟩ (by dsimp only; omega) (SubSt.mk (by simp [onSt, on1, SubFr, slotAt, ren, below]) (on_sub rfl rfl)) hq
        | (simp; done)
        | (simp; omega)
        | rfl
    · obtain ⟨e1, e2⟩ := on_new (w := w) (l := l) (no := f i) (any := true) (by simp; omega)
      have hd : decide (f i > l) = true := decide_eq_true (by omega)
      simp only [e1, e2, on_blk, hd]
      repeat' first | refine T.hneed isAl ?_ | refine T.hiteP (fun _ => ?_) (fun _ => ?_) | refine T.hiteE (fun _ => ?_) (fun _ => ?_) | refine T.hiteN (fun _ => ?_) (fun _ => ?_) | refine T.hiteFP (fun _ => ?_) (fun _ => ?_) | refine T.hiteFE (fun _ => ?_) (fun _ => ?_) | refine T.hiteF (fun _ => ?_) (fun _ => ?_) | refine T.hite (fun _ => ?_) (fun _ => ?_) | refine T.hneed rfl ?_ | refine T.hneed IntRow.rows ?_ | refine T.hneed trivial ?_ | refine T.hchk ?_ ?_ | refine T.hall (fun _ => ?_) | refine T.hasm (fun _ => ?_)
      all_goals (try refine T.hret ?_)
      all_goals first
        | contradiction
        | (exfalso; omega)
        | exact Round.go ⟨z, f, cap, len, f i, f i, true, i + 1⟩ id ⟨h1, by dsimp only; omega, by dsimp only; omega⟩ (by dsimp only; omega) (SubSt.mk (by simp [onSt, on1, SubFr, slotAt, ren, below]) (on_sub rfl rfl)) hq
        | (simp; done)
        | (simp; omega)
        | rfl

theorem on_law : ∀ args m, ArgsAV [PK.one (CK.sl [CK.int IntKind.i64])] [] args m → Walks Try.prog Try.f9 (codeOf Try.f9) args m := by
  intro args m h
  rcases args_ints h with ⟨_, rfl, hh⟩ | ⟨len, cap, z, _, rfl, hl, hc, hz, hh⟩
  · obtain ⟨rfl, rfl⟩ := args_nil hh
    refine ⟨onE1, laE_ok _, oneLoop (by kernel_rfl) (unroll_ok (E := onE1) (laE_ok _) onE0 rfl rfl rfl 1 (noLoops (by kernel_rfl)) (by kernel_rfl)), rfl, rfl, ?_⟩
    rw [on_fn0]
    repeat' first | refine T.hneed isAl ?_ | refine T.hiteP (fun _ => ?_) (fun _ => ?_) | refine T.hiteE (fun _ => ?_) (fun _ => ?_) | refine T.hiteN (fun _ => ?_) (fun _ => ?_) | refine T.hiteFP (fun _ => ?_) (fun _ => ?_) | refine T.hiteFE (fun _ => ?_) (fun _ => ?_) | refine T.hiteF (fun _ => ?_) (fun _ => ?_) | refine T.hite (fun _ => ?_) (fun _ => ?_) | refine T.hneed rfl ?_ | refine T.hneed IntRow.rows ?_ | refine T.hneed trivial ?_ | refine T.hchk ?_ ?_ | refine T.hall (fun _ => ?_) | refine T.hasm (fun _ => ?_)
    all_goals (try refine T.hret ?_)
    all_goals first | rfl | contradiction
  · obtain ⟨rfl, rfl⟩ := args_nil hh
    refine ⟨onE, laE_ok _, oneLoop (by kernel_rfl) on_loop, rfl, rfl, ?_⟩
    rw [show [AV.sl (List.length ([] : AM)) 0 1 0 len cap] = [.sl 0 0 1 0 len cap] from rfl, show ([] ++ [some (Blk.rows false 1 cap fun r => [AV.int IntKind.i64 (z r)])] : AM) = [some (Blk.rows false 1 cap fun j => [.int .i64 (z j)])] from rfl, on_fn]
    refine T.hneed ⟨id, SubSt.mk (by simp [onSt, on1, SubFr, slotAt, ren, below]) (on_sub rfl rfl)⟩ (T.hneed ⟨hl, Nat.zero_le _, Nat.zero_le _⟩ ?_)
    repeat' first | refine T.hneed isAl ?_ | refine T.hiteP (fun _ => ?_) (fun _ => ?_) | refine T.hiteE (fun _ => ?_) (fun _ => ?_) | refine T.hiteN (fun _ => ?_) (fun _ => ?_) | refine T.hiteFP (fun _ => ?_) (fun _ => ?_) | refine T.hiteFE (fun _ => ?_) (fun _ => ?_) | refine T.hiteF (fun _ => ?_) (fun _ => ?_) | refine T.hite (fun _ => ?_) (fun _ => ?_) | refine T.hneed rfl ?_ | refine T.hneed IntRow.rows ?_ | refine T.hneed trivial ?_ | refine T.hchk ?_ ?_ | refine T.hall (fun _ => ?_) | refine T.hasm (fun _ => ?_)
    all_goals (try refine T.hret ?_)
    all_goals first | rfl | contradiction

end Go.Proofs.Ythbdkhlpojngeaa
