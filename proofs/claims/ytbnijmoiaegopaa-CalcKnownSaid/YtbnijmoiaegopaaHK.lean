/-
  Layer 10: CalcKnown.
-/
import Derived.Test.YtbnijmoiaegopaaHF
namespace Go.Proofs.Ytbnijmoiaegopaa
open Go.Ox
set_option maxRecDepth 100000
set_option linter.unusedVariables false
set_option linter.unusedSimpArgs false

theorem law_eff {P : Program} {E : Env} {f : FuncId} {fn : Func} {c : Code} (hf : P.funcs[f]? = some fn) (hb : fn.body = some c) (hE : EnvOK P E.fns) (hL : ∀ c' ∈ loopsIn c, LoopOK P E c') (hnt : E.nt = fn.ntmps) (hn0 : E.n0 = 0)
    (args : List AV) (ht : (afn P E fn c args []).holds fun r => r.1.yes = true) : EffAt P f args [] (.ret (.bool true, [])) :=
  fn_ok hf hb hE hL hnt (by simpa using hn0) fun Q hq => T.holds_mono (fun r hr => ⟨id, .bool true, [], hq, fun loc => by rw [AV.yes_conc hr]; simp [ren, conc], by simp [below], Sub.nil _ _⟩) _ ht

def inR (x : Int) : Bool := decide (-9223372036854775808 ≤ x) && decide (x ≤ 9223372036854775807)
theorem inR_iff {x : Int} : inR x = true ↔ -9223372036854775808 ≤ x ∧ x ≤ 9223372036854775807 := by simp [inR]

def yChk : List AV → T AV
  | [.int .i64 _, .agg [.int .i64 _, .int .i64 _, .int .i64 _]] => .ret (.bool true)
  | _ => .fail
def yDoes : List AV → T AV
  | [.int .i64 _, .agg [.int .i64 _, .int .i64 _, .int .i64 _], .agg [.int .i64 _, .int .i64 _], .agg [.int .i64 _, .int .i64 _]] => .ret (.bool true)
  | _ => .fail
def yMaps : List AV → T AV
  | [.int .i64 a, .int .i64 v] => .chk (inR a) (.chk (inR v) (.ret (.bool true)))
  | _ => .fail
def yKeeps : List AV → T AV
  | [.int .i64 _, .agg [.int .i64 x, .int .i64 v]] => .chk (inR x) (.chk (inR v) (.ret (.bool true)))
  | _ => .fail

theorem yChk_ok : SummOK Try.prog 3 (.pure fun args _ => yChk args) := by
  refine pure_ok (fun args w => Try.call3 args w) fun args Q hq => ?_
  unfold yChk at hq ⊢
  split at hq
  · rename_i k op a b
    refine ⟨rfl, rfl, law_eff (E := laE Try.f3.ntmps) (c := codeOf Try.f3) Try.func3 rfl (laE_ok _) (noLoops (by kernel_rfl)) rfl rfl _ ?_⟩
    rw [show AV.agg [.int .i64 op, .int .i64 a, .int .i64 b] = fnV op a b from rfl, cc_fn]
    exact T.hite (fun _ => rfl) (fun h => by simp at h)
  · exact hq.elim

theorem yDoes_ok : SummOK Try.prog 4 (.pure fun args _ => yDoes args) := by
  refine pure_ok (fun args w => Try.call4 args w) fun args Q hq => ?_
  unfold yDoes at hq ⊢
  split at hq
  · exact ⟨rfl, rfl, law_eff (E := laE Try.f4.ntmps) (c := codeOf Try.f4) Try.func4 rfl (laE_ok _) (noLoops (by kernel_rfl)) rfl rfl _ (cd_holds _ _ _ _ _ _ _ _)⟩
  · exact hq.elim

theorem yMaps_ok : SummOK Try.prog 6 (.pure fun args _ => yMaps args) := by
  refine pure_ok (fun args w => Try.call6 args w) fun args Q hq => ?_
  unfold yMaps at hq ⊢
  split at hq
  · obtain ⟨h1, h2, _⟩ := hq
    exact ⟨rfl, ⟨h1, h2, rfl⟩, (law_eff (E := laE Try.f6.ntmps) (c := codeOf Try.f6) Try.func6 rfl (laE_ok _) (noLoops (by kernel_rfl)) rfl rfl _ (cm_holds _ _ (inR_iff.1 h1) (inR_iff.1 h2))).mono fun Q h => h.2.2⟩
  · exact hq.elim

theorem yKeeps_ok : SummOK Try.prog 7 (.pure fun args _ => yKeeps args) := by
  refine pure_ok (fun args w => Try.call7 args w) fun args Q hq => ?_
  unfold yKeeps at hq ⊢
  split at hq
  · obtain ⟨h1, h2, _⟩ := hq
    exact ⟨rfl, ⟨h1, h2, rfl⟩, (law_eff (E := kpE) (c := codeOf Try.f7) Try.func7 rfl (laE_ok _) (oneLoop (by kernel_rfl) kp_loop) rfl rfl _ (ke_holds _ _ _ (inR_iff.1 h1) (inR_iff.1 h2))).mono fun Q h => h.2.2⟩
  · exact hq.elim

def kM (f : Nat → Int) : AM := [some (Blk.rows true 1 13 fun j => [.int .i64 (f j)])]
structure KA where
  f : Nat → Int
  kind : Int
  op : Int
  i : Nat
  k : Nat
def kN (f : Nat → Int) : St := ⟨[(1, .sl 0 0 1 0 13 13)], kM f⟩
def kA1 (x : KA) : St := ⟨[(1, .sl 0 0 1 0 13 13), (2, .int .i64 x.kind)], kM x.f⟩
def kA2 (x : KA) : St := ⟨[(1, .sl 0 0 1 0 13 13), (2, .int .i64 x.kind), (3, .int .i64 x.op)], kM x.f⟩
def kA3 (x : KA) : St := ⟨[(1, .sl 0 0 1 0 13 13), (2, .int .i64 x.kind), (3, .int .i64 x.op), (4, .int .i64 x.i)], kM x.f⟩
def kA4 (x : KA) : St := ⟨[(1, .sl 0 0 1 0 13 13), (2, .int .i64 x.kind), (3, .int .i64 x.op), (4, .int .i64 x.i), (5, .int .i64 x.k)], kM x.f⟩
def kB (x : KA) : St := ⟨[(1, .sl 0 0 1 0 13 13), (10, .int .i64 x.i)], kM x.f⟩
def okF (f : Nat → Int) : Prop := ∀ j, inR (f j) = true
def kI1 (x : KA) : Prop := okF x.f ∧ -1 ≤ x.kind ∧ x.kind ≤ 10
def kI2 (x : KA) : Prop := okF x.f ∧ -1 ≤ x.kind ∧ x.kind ≤ 9 ∧ -1 ≤ x.op ∧ x.op ≤ 9
def kI3 (x : KA) : Prop := okF x.f ∧ -1 ≤ x.kind ∧ x.kind ≤ 9 ∧ -1 ≤ x.op ∧ x.op ≤ 8 ∧ x.i ≤ 13
def kI4 (x : KA) : Prop := okF x.f ∧ -1 ≤ x.kind ∧ x.kind ≤ 9 ∧ -1 ≤ x.op ∧ x.op ≤ 8 ∧ x.i < 13 ∧ x.k ≤ 6
def kIB (x : KA) : Prop := okF x.f ∧ x.i ≤ 13
def kP1 (st : St) : Option KA :=
  match AM.get st.m 0 with
  | some b => some ⟨intAt b, -1, 0, 0, 0⟩
  | _ => none
def kP2 (st : St) : Option KA :=
  match AM.get st.m 0, slotAt st.fr 2 with
  | some b, some (.int _ kind) => some ⟨intAt b, kind, -1, 0, 0⟩
  | _, _ => none
def kP3 (st : St) : Option KA :=
  match AM.get st.m 0, slotAt st.fr 2, slotAt st.fr 3 with
  | some b, some (.int _ kind), some (.int _ op) => some ⟨intAt b, kind, op, 0, 0⟩
  | _, _, _ => none
def kP4 (st : St) : Option KA :=
  match AM.get st.m 0, slotAt st.fr 2, slotAt st.fr 3, slotAt st.fr 4 with
  | some b, some (.int _ kind), some (.int _ op), some (.int _ i) => some ⟨intAt b, kind, op, i.toNat, 0⟩
  | _, _, _, _ => none
def kX1 (x : KA) : T (Ex × St) := .ret (.exit 0, kN x.f)
def kX2 (x : KA) : T (Ex × St) := .ret (.exit 2, kA1 x)
def kX3 (x : KA) : T (Ex × St) := .ret (.exit 4, kA2 x)
def kX4 (x : KA) : T (Ex × St) := .ret (.exit 6, kA3 x)
def kXB (x : KA) : T (Ex × St) := .ret (.exit 8, kN x.f)
noncomputable def knE : Env := { nt := Try.f9.ntmps, n0 := 0, fns := [(3, .pure fun args _ => yChk args), (4, .pure fun args _ => yDoes args), (6, .pure fun args _ => yMaps args), (7, .pure fun args _ => yKeeps args), (5, .pure foldsS), (12, .pure fun args _ => woS args)], loop := fun k => if k = 3 then loopSumm 0 kA1 kI1 kP1 kX1 else if k = 6 then loopSumm 0 kA2 kI2 kP2 kX2 else if k = 9 then loopSumm 0 kA3 kI3 kP3 kX3 else if k = 12 then loopSumm 0 kA4 kI4 kP4 kX4 else if k = 21 then loopSumm 0 kB kIB kP1 kXB else fun _ => .fail }

theorem knE_ok : EnvOK Try.prog knE.fns := EnvOK.cons yChk_ok (EnvOK.cons yDoes_ok (EnvOK.cons yMaps_ok (EnvOK.cons yKeeps_ok (EnvOK.cons folds_ok (EnvOK.cons wo_ok EnvOK.nil)))))

theorem kA4_tree (f : Nat → Int) (kind op : Int) (i k : Nat) : keepT [1, 2, 3, 4, 5] (acode Try.prog knE (loopAt (loopAt (loopAt (loopAt (codeOf Try.f9) 0) 0) 0) 0) (kA4 ⟨f, kind, op, i, k⟩)) = 
  T.ite (decide ((↑k : Int) < (6 : Int)))
    (T.chk (decide ((0 : Int) ≤ (↑i : Int)) && decide ((↑i : Int) < (↑(13 : Nat) : Int)))
      (T.chk (decide ((0 : Nat) + Int.toNat (↑i : Int) < (13 : Nat)))
        (T.chk true
          (T.chk (decide ((0 : Int) ≤ Int.tmod (IntKind.wrap IntKind.i64 ((↑i : Int) + IntKind.wrap IntKind.i64 ((3 : Int) * (↑k : Int)))) (↑(13 : Nat) : Int)) && decide (Int.tmod (IntKind.wrap IntKind.i64 ((↑i : Int) + IntKind.wrap IntKind.i64 ((3 : Int) * (↑k : Int)))) (↑(13 : Nat) : Int) < (↑(13 : Nat) : Int)))
            (T.chk (decide ((0 : Nat) + Int.toNat (Int.tmod (IntKind.wrap IntKind.i64 ((↑i : Int) + IntKind.wrap IntKind.i64 ((3 : Int) * (↑k : Int)))) (↑(13 : Nat) : Int)) < (13 : Nat)))
              (T.chk (decide ((0 : Nat) + Int.toNat (Int.tmod (IntKind.wrap IntKind.i64 ((↑i : Int) + IntKind.wrap IntKind.i64 ((3 : Int) * (↑k : Int)))) (↑(13 : Nat) : Int)) < (13 : Nat)))
                (T.need (AV.int IntKind.i64 (f ((0 : Nat) + Int.toNat (Int.tmod (IntKind.wrap IntKind.i64 ((↑i : Int) + IntKind.wrap IntKind.i64 ((3 : Int) * (↑k : Int)))) (↑(13 : Nat) : Int)))) = AV.int IntKind.i64 (f ((0 : Nat) + Int.toNat (Int.tmod (IntKind.wrap IntKind.i64 ((↑i : Int) + IntKind.wrap IntKind.i64 ((3 : Int) * (↑k : Int)))) (↑(13 : Nat) : Int)))))
                  (T.need (AV.int IntKind.i64 (13 : Int) = AV.int IntKind.i64 (13 : Int))
                    (T.chk (decide ((0 : Nat) + Int.toNat (↑i : Int) < (13 : Nat)))
                      (T.need (AV.int IntKind.i64 (f ((0 : Nat) + Int.toNat (↑i : Int))) = AV.int IntKind.i64 (f ((0 : Nat) + Int.toNat (↑i : Int))))
                        (T.chk (decide ((0 : Int) ≤ (↑i : Int)) && decide ((↑i : Int) < (↑(13 : Nat) : Int)))
                          (T.chk (decide ((0 : Nat) + Int.toNat (↑i : Int) < (13 : Nat)))
                            (T.chk true
                              (T.chk (decide ((0 : Int) ≤ Int.tmod (IntKind.wrap IntKind.i64 ((↑i : Int) + (↑k : Int))) (↑(13 : Nat) : Int)) && decide (Int.tmod (IntKind.wrap IntKind.i64 ((↑i : Int) + (↑k : Int))) (↑(13 : Nat) : Int) < (↑(13 : Nat) : Int)))
                                (T.chk (decide ((0 : Nat) + Int.toNat (Int.tmod (IntKind.wrap IntKind.i64 ((↑i : Int) + (↑k : Int))) (↑(13 : Nat) : Int)) < (13 : Nat)))
                                  (T.chk true
                                    (T.chk (decide ((0 : Int) ≤ Int.tmod (IntKind.wrap IntKind.i64 ((↑i : Int) + IntKind.wrap IntKind.i64 ((5 : Int) * (↑k : Int)))) (↑(13 : Nat) : Int)) && decide (Int.tmod (IntKind.wrap IntKind.i64 ((↑i : Int) + IntKind.wrap IntKind.i64 ((5 : Int) * (↑k : Int)))) (↑(13 : Nat) : Int) < (↑(13 : Nat) : Int)))
                                      (T.chk (decide ((0 : Nat) + Int.toNat (Int.tmod (IntKind.wrap IntKind.i64 ((↑i : Int) + IntKind.wrap IntKind.i64 ((5 : Int) * (↑k : Int)))) (↑(13 : Nat) : Int)) < (13 : Nat)))
                                        (T.chk (decide ((0 : Nat) + Int.toNat (Int.tmod (IntKind.wrap IntKind.i64 ((↑i : Int) + IntKind.wrap IntKind.i64 ((5 : Int) * (↑k : Int)))) (↑(13 : Nat) : Int)) < (13 : Nat)))
                                          (T.need (AV.int IntKind.i64 (f ((0 : Nat) + Int.toNat (Int.tmod (IntKind.wrap IntKind.i64 ((↑i : Int) + IntKind.wrap IntKind.i64 ((5 : Int) * (↑k : Int)))) (↑(13 : Nat) : Int)))) = AV.int IntKind.i64 (f ((0 : Nat) + Int.toNat (Int.tmod (IntKind.wrap IntKind.i64 ((↑i : Int) + IntKind.wrap IntKind.i64 ((5 : Int) * (↑k : Int)))) (↑(13 : Nat) : Int)))))
                                            (T.need (AV.int IntKind.i64 (13 : Int) = AV.int IntKind.i64 (13 : Int))
                                              (T.chk (decide ((0 : Nat) + Int.toNat (Int.tmod (IntKind.wrap IntKind.i64 ((↑i : Int) + (↑k : Int))) (↑(13 : Nat) : Int)) < (13 : Nat)))
                                                (T.need (AV.int IntKind.i64 (f ((0 : Nat) + Int.toNat (Int.tmod (IntKind.wrap IntKind.i64 ((↑i : Int) + (↑k : Int))) (↑(13 : Nat) : Int)))) = AV.int IntKind.i64 (f ((0 : Nat) + Int.toNat (Int.tmod (IntKind.wrap IntKind.i64 ((↑i : Int) + (↑k : Int))) (↑(13 : Nat) : Int)))))
                                                  (T.need (AV.int IntKind.i64 (13 : Int) = AV.int IntKind.i64 (13 : Int))
                                                    (T.chk true
                                                      (T.chk (decide ((0 : Int) ≤ Int.tmod (IntKind.wrap IntKind.i64 (IntKind.wrap IntKind.i64 ((7 : Int) * (↑i : Int)) + (↑k : Int))) (↑(13 : Nat) : Int)) && decide (Int.tmod (IntKind.wrap IntKind.i64 (IntKind.wrap IntKind.i64 ((7 : Int) * (↑i : Int)) + (↑k : Int))) (↑(13 : Nat) : Int) < (↑(13 : Nat) : Int)))
                                                        (T.chk (decide ((0 : Nat) + Int.toNat (Int.tmod (IntKind.wrap IntKind.i64 (IntKind.wrap IntKind.i64 ((7 : Int) * (↑i : Int)) + (↑k : Int))) (↑(13 : Nat) : Int)) < (13 : Nat)))
                                                          (T.chk (decide ((0 : Int) ≤ (↑k : Int)) && decide ((↑k : Int) < (↑(13 : Nat) : Int)))
                                                            (T.chk (decide ((0 : Nat) + Int.toNat (↑k : Int) < (13 : Nat)))
                                                              (T.need (AV.int IntKind.i64 (if f ((0 : Nat) + Int.toNat (↑k : Int)) > (0 : Int) then f ((0 : Nat) + Int.toNat (↑k : Int)) else (0 : Int)) = AV.int IntKind.i64 (if f ((0 : Nat) + Int.toNat (↑k : Int)) > (0 : Int) then f ((0 : Nat) + Int.toNat (↑k : Int)) else (0 : Int)))
                                                                (T.chk (decide ((0 : Nat) + Int.toNat (↑k : Int) < (13 : Nat)))
                                                                  (T.need (AV.int IntKind.i64 (f ((0 : Nat) + Int.toNat (↑k : Int))) = AV.int IntKind.i64 (f ((0 : Nat) + Int.toNat (↑k : Int))))
                                                                    (T.chk (decide ((0 : Nat) + Int.toNat (Int.tmod (IntKind.wrap IntKind.i64 (IntKind.wrap IntKind.i64 ((7 : Int) * (↑i : Int)) + (↑k : Int))) (↑(13 : Nat) : Int)) < (13 : Nat)))
                                                                      (T.need
                                                                        (AV.int IntKind.i64 (f ((0 : Nat) + Int.toNat (Int.tmod (IntKind.wrap IntKind.i64 (IntKind.wrap IntKind.i64 ((7 : Int) * (↑i : Int)) + (↑k : Int))) (↑(13 : Nat) : Int)))) =
                                                                          AV.int IntKind.i64 (f ((0 : Nat) + Int.toNat (Int.tmod (IntKind.wrap IntKind.i64 (IntKind.wrap IntKind.i64 ((7 : Int) * (↑i : Int)) + (↑k : Int))) (↑(13 : Nat) : Int)))))
                                                                        (T.need (AV.int IntKind.i64 (13 : Int) = AV.int IntKind.i64 (13 : Int))
                                                                          (T.ite false
                                                                            (T.ret
                                                                              (Ex.ret,
                                                                                St.mk [((1 : Nat), AV.sl (0 : Nat) (0 : Nat) (1 : Nat) (0 : Nat) (13 : Nat) (13 : Nat)), ((2 : Nat), AV.int IntKind.i64 kind), ((3 : Nat), AV.int IntKind.i64 op), ((4 : Nat), AV.int IntKind.i64 (↑i : Int)), ((5 : Nat), AV.int IntKind.i64 (↑k : Int))]
                                                                                  [some (Blk.mk true [] (1 : Nat) (13 : Nat) (fun j => [AV.int IntKind.i64 (f j)]) []),
                                                                                    some (Blk.mk true [AV.int IntKind.i64 op, AV.int IntKind.i64 (f ((0 : Nat) + Int.toNat (↑i : Int))), AV.int IntKind.i64 (f ((0 : Nat) + Int.toNat (Int.tmod (IntKind.wrap IntKind.i64 ((↑i : Int) + IntKind.wrap IntKind.i64 ((3 : Int) * (↑k : Int)))) (↑(13 : Nat) : Int))))] (0 : Nat) (0 : Nat) (fun a => []) []),
                                                                                    some (Blk.mk true [AV.int IntKind.i64 op, AV.int IntKind.i64 (f ((0 : Nat) + Int.toNat (↑i : Int))), AV.int IntKind.i64 (0 : Int)] (0 : Nat) (0 : Nat) (fun a => []) []),
                                                                                    some
                                                                                      (Blk.mk true [AV.int IntKind.i64 (f ((0 : Nat) + Int.toNat (Int.tmod (IntKind.wrap IntKind.i64 ((↑i : Int) + (↑k : Int))) (↑(13 : Nat) : Int)))), AV.int IntKind.i64 (f ((0 : Nat) + Int.toNat (Int.tmod (IntKind.wrap IntKind.i64 ((↑i : Int) + IntKind.wrap IntKind.i64 ((5 : Int) * (↑k : Int)))) (↑(13 : Nat) : Int))))]
                                                                                        (0 : Nat) (0 : Nat) (fun a => []) []),
                                                                                    some
                                                                                      (Blk.mk true [AV.int IntKind.i64 (f ((0 : Nat) + Int.toNat (Int.tmod (IntKind.wrap IntKind.i64 (IntKind.wrap IntKind.i64 ((7 : Int) * (↑i : Int)) + (↑k : Int))) (↑(13 : Nat) : Int)))), AV.int IntKind.i64 (if f ((0 : Nat) + Int.toNat (↑k : Int)) > (0 : Int) then f ((0 : Nat) + Int.toNat (↑k : Int)) else (0 : Int))]
                                                                                        (0 : Nat) (0 : Nat) (fun a => []) [])]))
                                                                            (T.ite false
                                                                              (T.ret
                                                                                (Ex.ret,
                                                                                  St.mk [((1 : Nat), AV.sl (0 : Nat) (0 : Nat) (1 : Nat) (0 : Nat) (13 : Nat) (13 : Nat)), ((2 : Nat), AV.int IntKind.i64 kind), ((3 : Nat), AV.int IntKind.i64 op), ((4 : Nat), AV.int IntKind.i64 (↑i : Int)), ((5 : Nat), AV.int IntKind.i64 (↑k : Int))]
                                                                                    [some (Blk.mk true [] (1 : Nat) (13 : Nat) (fun j => [AV.int IntKind.i64 (f j)]) []),
                                                                                      some (Blk.mk true [AV.int IntKind.i64 op, AV.int IntKind.i64 (f ((0 : Nat) + Int.toNat (↑i : Int))), AV.int IntKind.i64 (f ((0 : Nat) + Int.toNat (Int.tmod (IntKind.wrap IntKind.i64 ((↑i : Int) + IntKind.wrap IntKind.i64 ((3 : Int) * (↑k : Int)))) (↑(13 : Nat) : Int))))] (0 : Nat) (0 : Nat) (fun a => []) []),
                                                                                      some (Blk.mk true [AV.int IntKind.i64 op, AV.int IntKind.i64 (f ((0 : Nat) + Int.toNat (↑i : Int))), AV.int IntKind.i64 (0 : Int)] (0 : Nat) (0 : Nat) (fun a => []) []),
                                                                                      some
                                                                                        (Blk.mk true
                                                                                          [AV.int IntKind.i64 (f ((0 : Nat) + Int.toNat (Int.tmod (IntKind.wrap IntKind.i64 ((↑i : Int) + (↑k : Int))) (↑(13 : Nat) : Int)))), AV.int IntKind.i64 (f ((0 : Nat) + Int.toNat (Int.tmod (IntKind.wrap IntKind.i64 ((↑i : Int) + IntKind.wrap IntKind.i64 ((5 : Int) * (↑k : Int)))) (↑(13 : Nat) : Int))))]
                                                                                          (0 : Nat) (0 : Nat) (fun a => []) []),
                                                                                      some
                                                                                        (Blk.mk true
                                                                                          [AV.int IntKind.i64 (f ((0 : Nat) + Int.toNat (Int.tmod (IntKind.wrap IntKind.i64 (IntKind.wrap IntKind.i64 ((7 : Int) * (↑i : Int)) + (↑k : Int))) (↑(13 : Nat) : Int)))), AV.int IntKind.i64 (if f ((0 : Nat) + Int.toNat (↑k : Int)) > (0 : Int) then f ((0 : Nat) + Int.toNat (↑k : Int)) else (0 : Int))] (0 : Nat)
                                                                                          (0 : Nat) (fun a => []) [])]))
                                                                              (T.ite false
                                                                                (T.ret
                                                                                  (Ex.ret,
                                                                                    St.mk [((1 : Nat), AV.sl (0 : Nat) (0 : Nat) (1 : Nat) (0 : Nat) (13 : Nat) (13 : Nat)), ((2 : Nat), AV.int IntKind.i64 kind), ((3 : Nat), AV.int IntKind.i64 op), ((4 : Nat), AV.int IntKind.i64 (↑i : Int)), ((5 : Nat), AV.int IntKind.i64 (↑k : Int))]
                                                                                      [some (Blk.mk true [] (1 : Nat) (13 : Nat) (fun j => [AV.int IntKind.i64 (f j)]) []),
                                                                                        some (Blk.mk true [AV.int IntKind.i64 op, AV.int IntKind.i64 (f ((0 : Nat) + Int.toNat (↑i : Int))), AV.int IntKind.i64 (f ((0 : Nat) + Int.toNat (Int.tmod (IntKind.wrap IntKind.i64 ((↑i : Int) + IntKind.wrap IntKind.i64 ((3 : Int) * (↑k : Int)))) (↑(13 : Nat) : Int))))] (0 : Nat) (0 : Nat) (fun a => []) []),
                                                                                        some (Blk.mk true [AV.int IntKind.i64 op, AV.int IntKind.i64 (f ((0 : Nat) + Int.toNat (↑i : Int))), AV.int IntKind.i64 (0 : Int)] (0 : Nat) (0 : Nat) (fun a => []) []),
                                                                                        some
                                                                                          (Blk.mk true
                                                                                            [AV.int IntKind.i64 (f ((0 : Nat) + Int.toNat (Int.tmod (IntKind.wrap IntKind.i64 ((↑i : Int) + (↑k : Int))) (↑(13 : Nat) : Int)))), AV.int IntKind.i64 (f ((0 : Nat) + Int.toNat (Int.tmod (IntKind.wrap IntKind.i64 ((↑i : Int) + IntKind.wrap IntKind.i64 ((5 : Int) * (↑k : Int)))) (↑(13 : Nat) : Int))))]
                                                                                            (0 : Nat) (0 : Nat) (fun a => []) []),
                                                                                        some
                                                                                          (Blk.mk true
                                                                                            [AV.int IntKind.i64 (f ((0 : Nat) + Int.toNat (Int.tmod (IntKind.wrap IntKind.i64 (IntKind.wrap IntKind.i64 ((7 : Int) * (↑i : Int)) + (↑k : Int))) (↑(13 : Nat) : Int)))), AV.int IntKind.i64 (if f ((0 : Nat) + Int.toNat (↑k : Int)) > (0 : Int) then f ((0 : Nat) + Int.toNat (↑k : Int)) else (0 : Int))]
                                                                                            (0 : Nat) (0 : Nat) (fun a => []) [])]))
                                                                                (T.ite false
                                                                                  (T.ret
                                                                                    (Ex.ret,
                                                                                      St.mk [((1 : Nat), AV.sl (0 : Nat) (0 : Nat) (1 : Nat) (0 : Nat) (13 : Nat) (13 : Nat)), ((2 : Nat), AV.int IntKind.i64 kind), ((3 : Nat), AV.int IntKind.i64 op), ((4 : Nat), AV.int IntKind.i64 (↑i : Int)), ((5 : Nat), AV.int IntKind.i64 (↑k : Int))]
                                                                                        [some (Blk.mk true [] (1 : Nat) (13 : Nat) (fun j => [AV.int IntKind.i64 (f j)]) []),
                                                                                          some (Blk.mk true [AV.int IntKind.i64 op, AV.int IntKind.i64 (f ((0 : Nat) + Int.toNat (↑i : Int))), AV.int IntKind.i64 (f ((0 : Nat) + Int.toNat (Int.tmod (IntKind.wrap IntKind.i64 ((↑i : Int) + IntKind.wrap IntKind.i64 ((3 : Int) * (↑k : Int)))) (↑(13 : Nat) : Int))))] (0 : Nat) (0 : Nat) (fun a => []) []),
                                                                                          some (Blk.mk true [AV.int IntKind.i64 op, AV.int IntKind.i64 (f ((0 : Nat) + Int.toNat (↑i : Int))), AV.int IntKind.i64 (0 : Int)] (0 : Nat) (0 : Nat) (fun a => []) []),
                                                                                          some
                                                                                            (Blk.mk true
                                                                                              [AV.int IntKind.i64 (f ((0 : Nat) + Int.toNat (Int.tmod (IntKind.wrap IntKind.i64 ((↑i : Int) + (↑k : Int))) (↑(13 : Nat) : Int)))), AV.int IntKind.i64 (f ((0 : Nat) + Int.toNat (Int.tmod (IntKind.wrap IntKind.i64 ((↑i : Int) + IntKind.wrap IntKind.i64 ((5 : Int) * (↑k : Int)))) (↑(13 : Nat) : Int))))]
                                                                                              (0 : Nat) (0 : Nat) (fun a => []) []),
                                                                                          some
                                                                                            (Blk.mk true
                                                                                              [AV.int IntKind.i64 (f ((0 : Nat) + Int.toNat (Int.tmod (IntKind.wrap IntKind.i64 (IntKind.wrap IntKind.i64 ((7 : Int) * (↑i : Int)) + (↑k : Int))) (↑(13 : Nat) : Int)))), AV.int IntKind.i64 (if f ((0 : Nat) + Int.toNat (↑k : Int)) > (0 : Int) then f ((0 : Nat) + Int.toNat (↑k : Int)) else (0 : Int))]
                                                                                              (0 : Nat) (0 : Nat) (fun a => []) [])]))
                                                                                  (T.ite false
                                                                                    (T.ret
                                                                                      (Ex.ret,
                                                                                        St.mk [((1 : Nat), AV.sl (0 : Nat) (0 : Nat) (1 : Nat) (0 : Nat) (13 : Nat) (13 : Nat)), ((2 : Nat), AV.int IntKind.i64 kind), ((3 : Nat), AV.int IntKind.i64 op), ((4 : Nat), AV.int IntKind.i64 (↑i : Int)), ((5 : Nat), AV.int IntKind.i64 (↑k : Int))]
                                                                                          [some (Blk.mk true [] (1 : Nat) (13 : Nat) (fun j => [AV.int IntKind.i64 (f j)]) []),
                                                                                            some (Blk.mk true [AV.int IntKind.i64 op, AV.int IntKind.i64 (f ((0 : Nat) + Int.toNat (↑i : Int))), AV.int IntKind.i64 (f ((0 : Nat) + Int.toNat (Int.tmod (IntKind.wrap IntKind.i64 ((↑i : Int) + IntKind.wrap IntKind.i64 ((3 : Int) * (↑k : Int)))) (↑(13 : Nat) : Int))))] (0 : Nat) (0 : Nat) (fun a => []) []),
                                                                                            some (Blk.mk true [AV.int IntKind.i64 op, AV.int IntKind.i64 (f ((0 : Nat) + Int.toNat (↑i : Int))), AV.int IntKind.i64 (0 : Int)] (0 : Nat) (0 : Nat) (fun a => []) []),
                                                                                            some
                                                                                              (Blk.mk true
                                                                                                [AV.int IntKind.i64 (f ((0 : Nat) + Int.toNat (Int.tmod (IntKind.wrap IntKind.i64 ((↑i : Int) + (↑k : Int))) (↑(13 : Nat) : Int)))), AV.int IntKind.i64 (f ((0 : Nat) + Int.toNat (Int.tmod (IntKind.wrap IntKind.i64 ((↑i : Int) + IntKind.wrap IntKind.i64 ((5 : Int) * (↑k : Int)))) (↑(13 : Nat) : Int))))]
                                                                                                (0 : Nat) (0 : Nat) (fun a => []) []),
                                                                                            some
                                                                                              (Blk.mk true
                                                                                                [AV.int IntKind.i64 (f ((0 : Nat) + Int.toNat (Int.tmod (IntKind.wrap IntKind.i64 (IntKind.wrap IntKind.i64 ((7 : Int) * (↑i : Int)) + (↑k : Int))) (↑(13 : Nat) : Int)))), AV.int IntKind.i64 (if f ((0 : Nat) + Int.toNat (↑k : Int)) > (0 : Int) then f ((0 : Nat) + Int.toNat (↑k : Int)) else (0 : Int))]
                                                                                                (0 : Nat) (0 : Nat) (fun a => []) [])]))
                                                                                    (T.ret
                                                                                      (Ex.norm,
                                                                                        St.mk [((1 : Nat), AV.sl (0 : Nat) (0 : Nat) (1 : Nat) (0 : Nat) (13 : Nat) (13 : Nat)), ((2 : Nat), AV.int IntKind.i64 kind), ((3 : Nat), AV.int IntKind.i64 op), ((4 : Nat), AV.int IntKind.i64 (↑i : Int)), ((5 : Nat), AV.int IntKind.i64 (IntKind.wrap IntKind.i64 ((↑k : Int) + (1 : Int))))]
                                                                                          [some (Blk.mk true [] (1 : Nat) (13 : Nat) (fun j => [AV.int IntKind.i64 (f j)]) []),
                                                                                            some (Blk.mk true [AV.int IntKind.i64 op, AV.int IntKind.i64 (f ((0 : Nat) + Int.toNat (↑i : Int))), AV.int IntKind.i64 (f ((0 : Nat) + Int.toNat (Int.tmod (IntKind.wrap IntKind.i64 ((↑i : Int) + IntKind.wrap IntKind.i64 ((3 : Int) * (↑k : Int)))) (↑(13 : Nat) : Int))))] (0 : Nat) (0 : Nat) (fun a => []) []),
                                                                                            some (Blk.mk true [AV.int IntKind.i64 op, AV.int IntKind.i64 (f ((0 : Nat) + Int.toNat (↑i : Int))), AV.int IntKind.i64 (0 : Int)] (0 : Nat) (0 : Nat) (fun a => []) []),
                                                                                            some
                                                                                              (Blk.mk true
                                                                                                [AV.int IntKind.i64 (f ((0 : Nat) + Int.toNat (Int.tmod (IntKind.wrap IntKind.i64 ((↑i : Int) + (↑k : Int))) (↑(13 : Nat) : Int)))), AV.int IntKind.i64 (f ((0 : Nat) + Int.toNat (Int.tmod (IntKind.wrap IntKind.i64 ((↑i : Int) + IntKind.wrap IntKind.i64 ((5 : Int) * (↑k : Int)))) (↑(13 : Nat) : Int))))]
                                                                                                (0 : Nat) (0 : Nat) (fun a => []) []),
                                                                                            some
                                                                                              (Blk.mk true
                                                                                                [AV.int IntKind.i64 (f ((0 : Nat) + Int.toNat (Int.tmod (IntKind.wrap IntKind.i64 (IntKind.wrap IntKind.i64 ((7 : Int) * (↑i : Int)) + (↑k : Int))) (↑(13 : Nat) : Int)))), AV.int IntKind.i64 (if f ((0 : Nat) + Int.toNat (↑k : Int)) > (0 : Int) then f ((0 : Nat) + Int.toNat (↑k : Int)) else (0 : Int))]
                                                                                                (0 : Nat) (0 : Nat) (fun a => []) [])]))))))))))))))))))))))))))))))))))))))))))
    (T.ret (Ex.exit (6 : Nat), St.mk [((1 : Nat), AV.sl (0 : Nat) (0 : Nat) (1 : Nat) (0 : Nat) (13 : Nat) (13 : Nat)), ((2 : Nat), AV.int IntKind.i64 kind), ((3 : Nat), AV.int IntKind.i64 op), ((4 : Nat), AV.int IntKind.i64 (↑i : Int)), ((5 : Nat), AV.int IntKind.i64 (↑k : Int))] [some (Blk.mk true [] (1 : Nat) (13 : Nat) (fun j => [AV.int IntKind.i64 (f j)]) [])])) := by
  kernel_rfl

theorem kA3_tree (f : Nat → Int) (kind op : Int) (i : Nat) : keepT [1, 2, 3, 4] (acode Try.prog knE (loopAt (loopAt (loopAt (codeOf Try.f9) 0) 0) 0) (kA3 ⟨f, kind, op, i, 0⟩)) = 
  T.ite (decide ((↑i : Int) < (↑(13 : Nat) : Int)))
    (T.need
      (∃ ρ,
        SubSt (0 : Nat) ρ (St.mk [((1 : Nat), AV.sl (0 : Nat) (0 : Nat) (1 : Nat) (0 : Nat) (13 : Nat) (13 : Nat)), ((2 : Nat), AV.int IntKind.i64 kind), ((3 : Nat), AV.int IntKind.i64 op), ((4 : Nat), AV.int IntKind.i64 (↑i : Int)), ((5 : Nat), AV.int IntKind.i64 (0 : Int))] [some (Blk.mk true [] (1 : Nat) (13 : Nat) (fun j => [AV.int IntKind.i64 (f j)]) [])])
          (kA4 (KA.mk f kind op (Int.toNat (↑i : Int)) (0 : Nat))))
      (T.need (kI4 (KA.mk f kind op (Int.toNat (↑i : Int)) (0 : Nat)))
        (T.ret (Ex.norm, St.mk [((1 : Nat), AV.sl (0 : Nat) (0 : Nat) (1 : Nat) (0 : Nat) (13 : Nat) (13 : Nat)), ((2 : Nat), AV.int IntKind.i64 kind), ((3 : Nat), AV.int IntKind.i64 op), ((4 : Nat), AV.int IntKind.i64 (IntKind.wrap IntKind.i64 ((↑(Int.toNat (↑i : Int)) : Int) + (1 : Int))))] [some (Blk.mk true [] (1 : Nat) (13 : Nat) (fun j => [AV.int IntKind.i64 (f j)]) [])]))))
    (T.ret (Ex.exit (4 : Nat), St.mk [((1 : Nat), AV.sl (0 : Nat) (0 : Nat) (1 : Nat) (0 : Nat) (13 : Nat) (13 : Nat)), ((2 : Nat), AV.int IntKind.i64 kind), ((3 : Nat), AV.int IntKind.i64 op), ((4 : Nat), AV.int IntKind.i64 (↑i : Int))] [some (Blk.mk true [] (1 : Nat) (13 : Nat) (fun j => [AV.int IntKind.i64 (f j)]) [])])) := by
  kernel_rfl

theorem kA2_tree (f : Nat → Int) (kind op : Int) : keepT [1, 2, 3] (acode Try.prog knE (loopAt (loopAt (codeOf Try.f9) 0) 0) (kA2 ⟨f, kind, op, 0, 0⟩)) = 
  T.ite (decide (op ≤ (8 : Int)))
    (T.need (∃ ρ, SubSt (0 : Nat) ρ (St.mk [((1 : Nat), AV.sl (0 : Nat) (0 : Nat) (1 : Nat) (0 : Nat) (13 : Nat) (13 : Nat)), ((2 : Nat), AV.int IntKind.i64 kind), ((3 : Nat), AV.int IntKind.i64 op), ((4 : Nat), AV.int IntKind.i64 (0 : Int))] [some (Blk.mk true [] (1 : Nat) (13 : Nat) (fun j => [AV.int IntKind.i64 (f j)]) [])]) (kA3 (KA.mk f kind op (0 : Nat) (0 : Nat))))
      (T.need (kI3 (KA.mk f kind op (0 : Nat) (0 : Nat))) (T.ret (Ex.norm, St.mk [((1 : Nat), AV.sl (0 : Nat) (0 : Nat) (1 : Nat) (0 : Nat) (13 : Nat) (13 : Nat)), ((2 : Nat), AV.int IntKind.i64 kind), ((3 : Nat), AV.int IntKind.i64 (IntKind.wrap IntKind.i64 (op + (1 : Int))))] [some (Blk.mk true [] (1 : Nat) (13 : Nat) (fun j => [AV.int IntKind.i64 (f j)]) [])]))))
    (T.ret (Ex.exit (2 : Nat), St.mk [((1 : Nat), AV.sl (0 : Nat) (0 : Nat) (1 : Nat) (0 : Nat) (13 : Nat) (13 : Nat)), ((2 : Nat), AV.int IntKind.i64 kind), ((3 : Nat), AV.int IntKind.i64 op)] [some (Blk.mk true [] (1 : Nat) (13 : Nat) (fun j => [AV.int IntKind.i64 (f j)]) [])])) := by
  kernel_rfl

theorem kA1_tree (f : Nat → Int) (kind : Int) : keepT [1, 2] (acode Try.prog knE (loopAt (codeOf Try.f9) 0) (kA1 ⟨f, kind, 0, 0, 0⟩)) = 
  T.ite (decide (kind ≤ (9 : Int)))
    (T.need (∃ ρ, SubSt (0 : Nat) ρ (St.mk [((1 : Nat), AV.sl (0 : Nat) (0 : Nat) (1 : Nat) (0 : Nat) (13 : Nat) (13 : Nat)), ((2 : Nat), AV.int IntKind.i64 kind), ((3 : Nat), AV.int IntKind.i64 (-1 : Int))] [some (Blk.mk true [] (1 : Nat) (13 : Nat) (fun j => [AV.int IntKind.i64 (f j)]) [])]) (kA2 (KA.mk f kind (-1 : Int) (0 : Nat) (0 : Nat))))
      (T.need (kI2 (KA.mk f kind (-1 : Int) (0 : Nat) (0 : Nat))) (T.ret (Ex.norm, St.mk [((1 : Nat), AV.sl (0 : Nat) (0 : Nat) (1 : Nat) (0 : Nat) (13 : Nat) (13 : Nat)), ((2 : Nat), AV.int IntKind.i64 (IntKind.wrap IntKind.i64 (kind + (1 : Int))))] [some (Blk.mk true [] (1 : Nat) (13 : Nat) (fun j => [AV.int IntKind.i64 (f j)]) [])]))))
    (T.ret (Ex.exit (0 : Nat), St.mk [((1 : Nat), AV.sl (0 : Nat) (0 : Nat) (1 : Nat) (0 : Nat) (13 : Nat) (13 : Nat)), ((2 : Nat), AV.int IntKind.i64 kind)] [some (Blk.mk true [] (1 : Nat) (13 : Nat) (fun j => [AV.int IntKind.i64 (f j)]) [])])) := by
  kernel_rfl

theorem kB_tree (f : Nat → Int) (i : Nat) : keepT [1, 10] (acode Try.prog knE (loopAt (codeOf Try.f9) 1) (kB ⟨f, 0, 0, i, 0⟩)) = 
  T.ite (decide ((↑i : Int) < (↑(13 : Nat) : Int)))
    (T.chk (decide ((0 : Int) ≤ (↑i : Int)) && decide ((↑i : Int) < (↑(13 : Nat) : Int)))
      (T.chk (decide ((0 : Nat) + Int.toNat (↑i : Int) < (13 : Nat)))
        (T.chk (decide ((0 : Int) ≤ IntKind.wrap IntKind.i64 (IntKind.wrap IntKind.i64 ((↑(13 : Nat) : Int) - (1 : Int)) - (↑i : Int))) && decide (IntKind.wrap IntKind.i64 (IntKind.wrap IntKind.i64 ((↑(13 : Nat) : Int) - (1 : Int)) - (↑i : Int)) < (↑(13 : Nat) : Int)))
          (T.chk (decide ((0 : Nat) + Int.toNat (IntKind.wrap IntKind.i64 (IntKind.wrap IntKind.i64 ((↑(13 : Nat) : Int) - (1 : Int)) - (↑i : Int))) < (13 : Nat)))
            (T.chk (inR (f ((0 : Nat) + Int.toNat (↑i : Int))))
              (T.chk (inR (f ((0 : Nat) + Int.toNat (IntKind.wrap IntKind.i64 (IntKind.wrap IntKind.i64 ((↑(13 : Nat) : Int) - (1 : Int)) - (↑i : Int))))))
                (T.ite false (T.ret (Ex.ret, St.mk [((1 : Nat), AV.sl (0 : Nat) (0 : Nat) (1 : Nat) (0 : Nat) (13 : Nat) (13 : Nat)), ((10 : Nat), AV.int IntKind.i64 (↑i : Int))] [some (Blk.mk true [] (1 : Nat) (13 : Nat) (fun j => [AV.int IntKind.i64 (f j)]) [])]))
                  (T.chk (decide ((0 : Int) ≤ (↑i : Int)) && decide ((↑i : Int) < (↑(13 : Nat) : Int)))
                    (T.chk (decide ((0 : Nat) + Int.toNat (↑i : Int) < (13 : Nat)))
                      (T.chk true
                        (T.chk (inR (f ((0 : Nat) + Int.toNat (↑i : Int))))
                          (T.ite false (T.ret (Ex.ret, St.mk [((1 : Nat), AV.sl (0 : Nat) (0 : Nat) (1 : Nat) (0 : Nat) (13 : Nat) (13 : Nat)), ((10 : Nat), AV.int IntKind.i64 (↑i : Int))] [some (Blk.mk true [] (1 : Nat) (13 : Nat) (fun j => [AV.int IntKind.i64 (f j)]) [])]))
                            (T.need (IntRow IntKind.i64 (Blk.mk true [] (1 : Nat) (13 : Nat) (fun j => [AV.int IntKind.i64 (f j)]) []))
                              (T.chk (decide ((13 : Nat) = (13 : Nat)))
                                (T.chk true
                                  (T.ite false (T.ret (Ex.ret, St.mk [((1 : Nat), AV.sl (0 : Nat) (0 : Nat) (1 : Nat) (0 : Nat) (13 : Nat) (13 : Nat)), ((10 : Nat), AV.int IntKind.i64 (↑i : Int))] [some (Blk.mk true [] (1 : Nat) (13 : Nat) (fun j => [AV.int IntKind.i64 (f j)]) [])]))
                                    (T.chk (decide ((0 : Int) ≤ (↑i : Int)) && decide ((↑i : Int) < (↑(13 : Nat) : Int)))
                                      (T.chk (decide ((0 : Nat) + Int.toNat (↑i : Int) < (13 : Nat)))
                                        (T.chk (decide ((0 : Int) ≤ (↑i : Int)) && decide ((↑i : Int) < (↑(13 : Nat) : Int)))
                                          (T.chk (decide ((0 : Nat) + Int.toNat (↑i : Int) < (13 : Nat)))
                                            (T.chk (inR (↑i : Int))
                                              (T.chk (inR (f ((0 : Nat) + Int.toNat (↑i : Int))))
                                                (T.ite false (T.ret (Ex.ret, St.mk [((1 : Nat), AV.sl (0 : Nat) (0 : Nat) (1 : Nat) (0 : Nat) (13 : Nat) (13 : Nat)), ((10 : Nat), AV.int IntKind.i64 (↑i : Int))] [some (Blk.mk true [] (1 : Nat) (13 : Nat) (fun j => [AV.int IntKind.i64 (f j)]) [])]))
                                                  (T.ret (Ex.norm, St.mk [((1 : Nat), AV.sl (0 : Nat) (0 : Nat) (1 : Nat) (0 : Nat) (13 : Nat) (13 : Nat)), ((10 : Nat), AV.int IntKind.i64 (IntKind.wrap IntKind.i64 ((↑i : Int) + (1 : Int))))] [some (Blk.mk true [] (1 : Nat) (13 : Nat) (fun j => [AV.int IntKind.i64 (f j)]) [])])))))))))))))))))))))))))
    (T.ret (Ex.exit (8 : Nat), St.mk [((1 : Nat), AV.sl (0 : Nat) (0 : Nat) (1 : Nat) (0 : Nat) (13 : Nat) (13 : Nat)), ((10 : Nat), AV.int IntKind.i64 (↑i : Int))] [some (Blk.mk true [] (1 : Nat) (13 : Nat) (fun j => [AV.int IntKind.i64 (f j)]) [])])) := by
  kernel_rfl

theorem kn_fn : afn Try.prog knE Try.f9 (codeOf Try.f9) [] [] = 
  T.need
    (∃ ρ,
      SubSt (0 : Nat) ρ
        (St.mk [((1 : Nat), AV.sl (0 : Nat) (0 : Nat) (1 : Nat) (0 : Nat) (13 : Nat) (13 : Nat)), ((2 : Nat), AV.int IntKind.i64 (-1 : Int))]
          [some (Blk.mk true [] (1 : Nat) (13 : Nat) (fun i => [AV.int IntKind.i64 (List.getD [(-9223372036854775808 : Int), (-7 : Int), (-1 : Int), (0 : Int), (1 : Int), (2 : Int), (3 : Int), (4 : Int), (5 : Int), (7 : Int), (16 : Int), (17 : Int), (9223372036854775807 : Int)] i (0 : Int))]) [])])
        (kA1 (KA.mk (fun j => List.getD [(-9223372036854775808 : Int), (-7 : Int), (-1 : Int), (0 : Int), (1 : Int), (2 : Int), (3 : Int), (4 : Int), (5 : Int), (7 : Int), (16 : Int), (17 : Int), (9223372036854775807 : Int)] j (0 : Int)) (-1 : Int) (0 : Int) (0 : Nat) (0 : Nat))))
    (T.need (kI1 (KA.mk (fun j => List.getD [(-9223372036854775808 : Int), (-7 : Int), (-1 : Int), (0 : Int), (1 : Int), (2 : Int), (3 : Int), (4 : Int), (5 : Int), (7 : Int), (16 : Int), (17 : Int), (9223372036854775807 : Int)] j (0 : Int)) (-1 : Int) (0 : Int) (0 : Nat) (0 : Nat)))
      (T.need
        (∃ ρ,
          SubSt (0 : Nat) ρ
            (St.mk [((1 : Nat), AV.sl (0 : Nat) (0 : Nat) (1 : Nat) (0 : Nat) (13 : Nat) (13 : Nat)), ((10 : Nat), AV.int IntKind.i64 (0 : Int))]
              [some (Blk.mk true [] (1 : Nat) (13 : Nat) (fun j => [AV.int IntKind.i64 (List.getD [(-9223372036854775808 : Int), (-7 : Int), (-1 : Int), (0 : Int), (1 : Int), (2 : Int), (3 : Int), (4 : Int), (5 : Int), (7 : Int), (16 : Int), (17 : Int), (9223372036854775807 : Int)] j (0 : Int))]) [])])
            (kB (KA.mk (fun j => List.getD [(-9223372036854775808 : Int), (-7 : Int), (-1 : Int), (0 : Int), (1 : Int), (2 : Int), (3 : Int), (4 : Int), (5 : Int), (7 : Int), (16 : Int), (17 : Int), (9223372036854775807 : Int)] j (0 : Int)) (-1 : Int) (0 : Int) (0 : Nat) (0 : Nat))))
        (T.need (kIB (KA.mk (fun j => List.getD [(-9223372036854775808 : Int), (-7 : Int), (-1 : Int), (0 : Int), (1 : Int), (2 : Int), (3 : Int), (4 : Int), (5 : Int), (7 : Int), (16 : Int), (17 : Int), (9223372036854775807 : Int)] j (0 : Int)) (-1 : Int) (0 : Int) (0 : Nat) (0 : Nat)))
          (T.ret (AV.bool true, [some (Blk.mk true [] (1 : Nat) (13 : Nat) (fun j => [AV.int IntKind.i64 (List.getD [(-9223372036854775808 : Int), (-7 : Int), (-1 : Int), (0 : Int), (1 : Int), (2 : Int), (3 : Int), (4 : Int), (5 : Int), (7 : Int), (16 : Int), (17 : Int), (9223372036854775807 : Int)] j (0 : Int))]) [])]))))) := by
  kernel_rfl

theorem k_sub {ρ : Nat → Nat} {f : Nat → Int} {m : AM} (h : m.get (ρ 0) = some (Blk.rows true 1 13 fun j => [.int .i64 (f j)])) : Sub 0 ρ m (kM f) :=
  Sub.of ⟨⟨_, h, BlkOK.rows' (fun h => h) fun j _ => LAlike.ints rfl⟩, trivial⟩ (fun i j hi hj h => by simp [kM] at hi hj; omega) (fun i hi => by omega) (Nat.zero_le _)

theorem t13 {a : Nat} (h : a < 1000) : Int.tmod (IntKind.wrap .i64 (a : Int)) 13 = ((a % 13 : Nat) : Int) := by
  rw [IntWalk.i64_in _ (by omega), Int.tmod_eq_emod_of_nonneg (by omega)]; omega

theorem kA4_loop : LoopOK Try.prog knE (loopAt (loopAt (loopAt (loopAt (codeOf Try.f9) 0) 0) 0) 0) := by
  refine loopSumm_ok (E := knE) knE_ok (noLoops (by kernel_rfl)) kA4 kI4 (fun x => 6 - x.k) kP4 kX4 ?_ (by kernel_rfl)
  rintro ⟨f, kind, op, i, k⟩ ⟨hf, h1, h2, h3, h4, h5, h6⟩ Q hq
  dsimp only at hf h1 h2 h3 h4 h5 h6
  refine round_keep [1, 2, 3, 4, 5] ?_
  rw [kA4_tree]
  have w3 : IntKind.wrap .i64 (3 * (k : Int)) = ((3 * k : Nat) : Int) := by rw [IntWalk.i64_in _ (by omega)]; omega
  have w5 : IntKind.wrap .i64 (5 * (k : Int)) = ((5 * k : Nat) : Int) := by rw [IntWalk.i64_in _ (by omega)]; omega
  have w7 : IntKind.wrap .i64 (7 * (i : Int)) = ((7 * i : Nat) : Int) := by rw [IntWalk.i64_in _ (by omega)]; omega
  have a1 : (i : Int) + (k : Int) = ((i + k : Nat) : Int) := by omega
  have a3 : (i : Int) + ((3 * k : Nat) : Int) = ((i + 3 * k : Nat) : Int) := by omega
  have a5 : (i : Int) + ((5 * k : Nat) : Int) = ((i + 5 * k : Nat) : Int) := by omega
  have a7 : ((7 * i : Nat) : Int) + (k : Int) = ((7 * i + k : Nat) : Int) := by omega
  have c13 : ((13 : Nat) : Int) = 13 := rfl
  have e1 := t13 (a := i + k) (by omega)
  have e3 := t13 (a := i + 3 * k) (by omega)
  have e5 := t13 (a := i + 5 * k) (by omega)
  have e7 := t13 (a := 7 * i + k) (by omega)
  have hw : IntKind.wrap IntKind.i64 ((k : Int) + 1) = ((k + 1 : Nat) : Int) := by rw [IntWalk.i64_in _ (by omega)]; omega
  simp only [w3, w5, w7, a1, a3, a5, a7, c13, e1, e3, e5, e7, Int.toNat_natCast, Nat.zero_add, hw]
  refine T.hiteP (fun h => ?_) (fun h => Round.out id (kA3 ⟨f, kind, op, i, k⟩) (SubSt.mk (by simp [kA3, SubFr, slotAt, ren, below, kM]) (k_sub rfl)) hq)
  have h : k < 6 := by omega
  repeat' first | refine T.hiteP (fun _ => ?_) (fun _ => ?_) | refine T.hiteE (fun _ => ?_) (fun _ => ?_) | refine T.hiteN (fun _ => ?_) (fun _ => ?_) | refine T.hiteFP (fun _ => ?_) (fun _ => ?_) | refine T.hiteFE (fun _ => ?_) (fun _ => ?_) | refine T.hiteF (fun _ => ?_) (fun _ => ?_) | refine T.hite (fun _ => ?_) (fun _ => ?_) | refine T.hneed rfl ?_ | refine T.hneed IntRow.rows ?_ | refine T.hneed trivial ?_ | refine T.hchk ?_ ?_ | refine T.hall (fun _ => ?_) | refine T.hasm (fun _ => ?_)
  all_goals (try refine T.hret ?_)
  all_goals first
    | exact Round.go ⟨f, kind, op, i, k + 1⟩ id ⟨hf, h1, h2, h3, h4, h5, by dsimp only; omega⟩ (by dsimp only; omega) (SubSt.mk (by simp [kA4, SubFr, slotAt, ren, below, kM]) (k_sub rfl)) hq
    | contradiction
    | rfl
    | (simp; done)
    | (simp; omega)

theorem kA3_loop : LoopOK Try.prog knE (loopAt (loopAt (loopAt (codeOf Try.f9) 0) 0) 0) := by
  refine loopSumm_ok (E := knE) knE_ok (oneLoop (by kernel_rfl) kA4_loop) kA3 kI3 (fun x => 13 - x.i) kP3 kX3 ?_ (by kernel_rfl)
  rintro ⟨f, kind, op, i, k⟩ ⟨hf, h1, h2, h3, h4, h5⟩ Q hq
  dsimp only at hf h1 h2 h3 h4 h5
  refine round_keep [1, 2, 3, 4] ?_
  rw [show kA3 ⟨f, kind, op, i, k⟩ = kA3 ⟨f, kind, op, i, 0⟩ from rfl, kA3_tree]
  simp only [Int.toNat_natCast]
  refine T.hiteP (fun h => ?_) (fun h => Round.out id (kA2 ⟨f, kind, op, i, k⟩) (SubSt.mk (by simp [kA2, SubFr, slotAt, ren, below, kM]) (k_sub rfl)) hq)
  have h : i < 13 := by omega
  have hw : IntKind.wrap IntKind.i64 ((i : Int) + 1) = ((i + 1 : Nat) : Int) := by rw [IntWalk.i64_in _ (by omega)]; omega
  refine T.hneed ⟨id, SubSt.mk (by simp [kA4, SubFr, slotAt, ren, below, kM]) (k_sub rfl)⟩ (T.hneed ⟨hf, h1, h2, h3, h4, h, Nat.zero_le _⟩ ?_)
  exact Round.go ⟨f, kind, op, i + 1, k⟩ id ⟨hf, h1, h2, h3, h4, by dsimp only; omega⟩ (by dsimp only; omega) (SubSt.mk (by simp [kA3, SubFr, slotAt, ren, below, kM, hw]) (k_sub rfl)) hq

theorem kA2_loop : LoopOK Try.prog knE (loopAt (loopAt (codeOf Try.f9) 0) 0) := by
  refine loopSumm_ok (E := knE) knE_ok (oneLoop (by kernel_rfl) kA3_loop) kA2 kI2 (fun x => (9 - x.op).toNat) kP2 kX2 ?_ (by kernel_rfl)
  rintro ⟨f, kind, op, i, k⟩ ⟨hf, h1, h2, h3, h4⟩ Q hq
  dsimp only at hf h1 h2 h3 h4
  refine round_keep [1, 2, 3] ?_
  rw [show kA2 ⟨f, kind, op, i, k⟩ = kA2 ⟨f, kind, op, 0, 0⟩ from rfl, kA2_tree]
  refine T.hiteP (fun h => ?_) (fun h => Round.out id (kA1 ⟨f, kind, op, i, k⟩) (SubSt.mk (by simp [kA1, SubFr, slotAt, ren, below, kM]) (k_sub rfl)) hq)
  have hw : IntKind.wrap IntKind.i64 (op + 1) = op + 1 := IntWalk.i64_in _ (by omega)
  refine T.hneed ⟨id, SubSt.mk (by simp [kA3, SubFr, slotAt, ren, below, kM]) (k_sub rfl)⟩ (T.hneed ⟨hf, h1, h2, h3, h, Nat.zero_le _⟩ ?_)
  exact Round.go ⟨f, kind, op + 1, i, k⟩ id ⟨hf, h1, h2, by dsimp only; omega, by dsimp only; omega⟩ (by dsimp only; omega) (SubSt.mk (by simp [kA2, SubFr, slotAt, ren, below, kM, hw]) (k_sub rfl)) hq

theorem kA1_loop : LoopOK Try.prog knE (loopAt (codeOf Try.f9) 0) := by
  refine loopSumm_ok (E := knE) knE_ok (oneLoop (by kernel_rfl) kA2_loop) kA1 kI1 (fun x => (10 - x.kind).toNat) kP1 kX1 ?_ (by kernel_rfl)
  rintro ⟨f, kind, op, i, k⟩ ⟨hf, h1, h2⟩ Q hq
  dsimp only at hf h1 h2
  refine round_keep [1, 2] ?_
  rw [show kA1 ⟨f, kind, op, i, k⟩ = kA1 ⟨f, kind, 0, 0, 0⟩ from rfl, kA1_tree]
  refine T.hiteP (fun h => ?_) (fun h => Round.out id (kN f) (SubSt.mk (by simp [kN, SubFr, slotAt, ren, below, kM]) (k_sub rfl)) hq)
  have hw : IntKind.wrap IntKind.i64 (kind + 1) = kind + 1 := IntWalk.i64_in _ (by omega)
  refine T.hneed ⟨id, SubSt.mk (by simp [kA2, SubFr, slotAt, ren, below, kM]) (k_sub rfl)⟩ (T.hneed ⟨hf, h1, h, by dsimp only; omega, by dsimp only; omega⟩ ?_)
  exact Round.go ⟨f, kind + 1, op, i, k⟩ id ⟨hf, by dsimp only; omega, by dsimp only; omega⟩ (by dsimp only; omega) (SubSt.mk (by simp [kA1, SubFr, slotAt, ren, below, kM, hw]) (k_sub rfl)) hq

theorem kB_loop : LoopOK Try.prog knE (loopAt (codeOf Try.f9) 1) := by
  refine loopSumm_ok (E := knE) knE_ok (noLoops (by kernel_rfl)) kB kIB (fun x => 13 - x.i) kP1 kXB ?_ (by kernel_rfl)
  rintro ⟨f, kind, op, i, k⟩ ⟨hf, h1⟩ Q hq
  dsimp only at hf h1
  refine round_keep [1, 10] ?_
  rw [show kB ⟨f, kind, op, i, k⟩ = kB ⟨f, 0, 0, i, 0⟩ from rfl, kB_tree]
  have hw : IntKind.wrap IntKind.i64 ((i : Int) + 1) = ((i + 1 : Nat) : Int) := by rw [IntWalk.i64_in _ (by omega)]; omega
  have w1 : IntKind.wrap .i64 ((13 : Int) - 1) = 12 := by decide
  have c13 : ((13 : Nat) : Int) = 13 := rfl
  simp only [c13, w1, hw, Int.toNat_natCast, Nat.zero_add]
  refine T.hiteP (fun h => ?_) (fun h => Round.out id (kN f) (SubSt.mk (by simp [kN, SubFr, slotAt, ren, below, kM]) (k_sub rfl)) hq)
  have h : i < 13 := by omega
  have w2 : IntKind.wrap .i64 (12 - (i : Int)) = ((12 - i : Nat) : Int) := by rw [IntWalk.i64_in _ (by omega)]; omega
  simp only [w2, Int.toNat_natCast]
  repeat' first | refine T.hiteP (fun _ => ?_) (fun _ => ?_) | refine T.hiteE (fun _ => ?_) (fun _ => ?_) | refine T.hiteN (fun _ => ?_) (fun _ => ?_) | refine T.hiteFP (fun _ => ?_) (fun _ => ?_) | refine T.hiteFE (fun _ => ?_) (fun _ => ?_) | refine T.hiteF (fun _ => ?_) (fun _ => ?_) | refine T.hite (fun _ => ?_) (fun _ => ?_) | refine T.hneed rfl ?_ | refine T.hneed IntRow.rows ?_ | refine T.hneed trivial ?_ | refine T.hchk ?_ ?_ | refine T.hall (fun _ => ?_) | refine T.hasm (fun _ => ?_)
  all_goals (try refine T.hret ?_)
  all_goals first
    | exact Round.go ⟨f, kind, op, i + 1, k⟩ id ⟨hf, by dsimp only; omega⟩ (by dsimp only; omega) (SubSt.mk (by simp [kB, SubFr, slotAt, ren, below, kM]) (k_sub rfl)) hq
    | contradiction
    | exact hf _
    | rfl
    | (simp; done)
    | (simp; omega)
    | (rw [inR_iff]; omega)

theorem kn_loops : ∀ c' ∈ loopsIn (codeOf Try.f9), LoopOK Try.prog knE c' := by
  have h : loopsIn (codeOf Try.f9) = [loopAt (codeOf Try.f9) 0, loopAt (codeOf Try.f9) 1] := by kernel_rfl
  intro c' hc
  rw [h] at hc
  simp only [List.mem_cons, List.not_mem_nil, or_false] at hc
  rcases hc with rfl | rfl
  · exact kA1_loop
  · exact kB_loop

theorem nums_ok : okF (fun j => List.getD [-9223372036854775808, -7, -1, 0, 1, 2, 3, 4, 5, 7, 16, 17, 9223372036854775807] j 0) := by
  intro j
  have h : ∀ l : List Int, (∀ x ∈ l, inR x = true) → ∀ j, inR (l.getD j 0) = true := by
    intro l hl j
    rw [List.getD_eq_getElem?_getD]
    cases hj : l[j]? with
    | none => rfl
    | some x => exact hl x (List.mem_of_getElem? hj)
  exact h _ (by decide) j

theorem kn_law : ∀ args m, ArgsAV [] [] args m → Walks Try.prog Try.f9 (codeOf Try.f9) args m := by
  intro args m h
  obtain ⟨rfl, rfl⟩ := args_nil h
  refine ⟨knE, knE_ok, kn_loops, rfl, rfl, ?_⟩
  rw [kn_fn]
  refine T.hneed ⟨id, SubSt.mk (by simp [kA1, SubFr, slotAt, ren, below, kM]) (k_sub rfl)⟩ (T.hneed ⟨nums_ok, by dsimp only; omega, by dsimp only; omega⟩ (T.hneed ⟨id, SubSt.mk (by simp [kB, SubFr, slotAt, ren, below, kM]) (k_sub rfl)⟩ (T.hneed ⟨nums_ok, Nat.zero_le _⟩ rfl)))

end Go.Proofs.Ytbnijmoiaegopaa
