/-
  Layer 1: Known.
-/
import Derived.Test.YtlebekeplkkciaaHY
import Derived.Test.YtlebekeplkkciaaHV
import Derived.Test.YtlebekeplkkciaaHI
import Derived.Test.YtlebekeplkkciaaHOxY
namespace Go.Proofs.Ytlebekeplkkciaa
open Go.Ox Go.Proofs
set_option maxRecDepth 100000
set_option maxHeartbeats 8000000
set_option linter.unusedVariables false
set_option linter.unusedSimpArgs false

theorem cell_i64 {n : Int} (h : i64B n = true) (m : AM) : CellAV (.int .i64) m (.int .i64 n) m := by
  refine ⟨⟨n, rfl, ?_⟩, rfl⟩
  have := i64_iff.1 h
  simp [Lit.wf, IntKind.min, IntKind.max, IntKind.signed, IntKind.bits]
  omega

theorem pair_i64 {a b : Int} (ha : i64B a = true) (hb : i64B b = true) (m : AM) : CellsAV [.int .i64, .int .i64] m [.int .i64 a, .int .i64 b] m :=
  ⟨_, _, _, rfl, cell_i64 ha m, _, _, _, rfl, cell_i64 hb m, rfl, rfl⟩

theorem walks_eff {P : Program} {f : FuncId} {fn : Func} {c : Code} (hf : P.funcs[f]? = some fn) (hb : fn.body = some c) {args : List AV} (h : Walks P fn c args []) : EffAt P f args [] (.ret (.bool true, [])) := by
  obtain ⟨E, hE, hL, hnt, hn0, h⟩ := h.walk
  exact fn_ok hf hb hE hL hnt hn0 fun Q hq => T.holds_mono (fun r hr => ⟨id, .bool true, [], hq, fun loc => by rw [AV.yes_conc hr]; simp [ren, conc], by simp [below], Sub.nil _ _⟩) _ h

def yes2 : List AV → T AV
  | [.int .i64 a, .int .i64 b] => .chk (i64B a && i64B b) (.ret (.bool true))
  | _ => .fail
def yes3 : List AV → T AV
  | [.int .i64 a, .int .i64 b, .int .i64 c] => .chk (i64B a && i64B b && i64B c) (.ret (.bool true))
  | _ => .fail
def yes22 : List AV → T AV
  | [.int .i64 a, .int .i64 b, .agg [.int .i64 c, .int .i64 d], .agg [.int .i64 e, .int .i64 f]] => .chk (i64B a && i64B b && (i64B c && i64B d) && (i64B e && i64B f)) (.ret (.bool true))
  | _ => .fail
def yes222 : List AV → T AV
  | [.agg [.int .i64 a, .int .i64 b], .agg [.int .i64 c, .int .i64 d], .agg [.int .i64 e, .int .i64 f]] => .chk (i64B a && i64B b && (i64B c && i64B d) && (i64B e && i64B f)) (.ret (.bool true))
  | _ => .fail

theorem yfi_ok : SummOK Try.prog 3 (.pure fun args _ => yes2 args) := by
  refine pure_ok (fun args w => Try.call3 args w) fun args Q hq => ?_
  unfold yes2 at hq ⊢
  split at hq
  · rename_i a b
    obtain ⟨hc, hq⟩ := hq
    have hc' := hc
    simp only [Bool.and_eq_true] at hc'
    refine ⟨rfl, ⟨hc, rfl⟩, fun Q hq hb w0 X loc w hm => ?_⟩
    exact walks_eff Try.func3 rfl (fi_law [.int .i64 a, .int .i64 b] [] ⟨_, _, _, rfl, cell_i64 hc'.1 _, _, _, _, rfl, cell_i64 hc'.2 _, rfl, rfl⟩) Q hq.2 hb w0 X loc w hm
  · exact hq.elim

theorem yfl_ok : SummOK Try.prog 7 (.pure fun args _ => yes3 args) := by
  refine pure_ok (fun args w => Try.call7 args w) fun args Q hq => ?_
  unfold yes3 at hq ⊢
  split at hq
  · rename_i a b c
    obtain ⟨hc, hq⟩ := hq
    have hc' := hc
    simp only [Bool.and_eq_true] at hc'
    refine ⟨rfl, ⟨hc, rfl⟩, fun Q hq hb w0 X loc w hm => ?_⟩
    exact walks_eff Try.func7 rfl (fl_law [.int .i64 a, .int .i64 b, .int .i64 c] [] ⟨_, _, _, rfl, cell_i64 hc'.1.1 _, _, _, _, rfl, cell_i64 hc'.1.2 _, _, _, _, rfl, cell_i64 hc'.2 _, rfl, rfl⟩) Q hq.2 hb w0 X loc w hm
  · exact hq.elim

theorem yfr_ok : SummOK Try.prog 4 (.pure fun args _ => yes22 args) := by
  refine pure_ok (fun args w => Try.call4 args w) fun args Q hq => ?_
  unfold yes22 at hq ⊢
  split at hq
  · rename_i a b c d e f
    obtain ⟨hc, hq⟩ := hq
    have hc' := hc
    simp only [Bool.and_eq_true] at hc'
    refine ⟨rfl, ⟨hc, rfl⟩, fun Q hq hb w0 X loc w hm => ?_⟩
    exact walks_eff Try.func4 rfl (fr_law [.int .i64 a, .int .i64 b, .agg [.int .i64 c, .int .i64 d], .agg [.int .i64 e, .int .i64 f]] [] ⟨_, _, _, rfl, cell_i64 hc'.1.1.1 _, _, _, _, rfl, cell_i64 hc'.1.1.2 _, _, _, _, rfl, pair_i64 hc'.1.2.1 hc'.1.2.2 _, _, _, _, rfl, pair_i64 hc'.2.1 hc'.2.2 _, rfl, rfl⟩) Q hq.2 hb w0 X loc w hm
  · exact hq.elim

theorem yfo_ok : SummOK Try.prog 5 (.pure fun args _ => yes222 args) := by
  refine pure_ok (fun args w => Try.call5 args w) fun args Q hq => ?_
  unfold yes222 at hq ⊢
  split at hq
  · rename_i a b c d e f
    obtain ⟨hc, hq⟩ := hq
    have hc' := hc
    simp only [Bool.and_eq_true] at hc'
    refine ⟨rfl, ⟨hc, rfl⟩, fun Q hq hb w0 X loc w hm => ?_⟩
    exact walks_eff Try.func5 rfl (fo_law [.agg [.int .i64 a, .int .i64 b], .agg [.int .i64 c, .int .i64 d], .agg [.int .i64 e, .int .i64 f]] [] ⟨_, _, _, rfl, pair_i64 hc'.1.1.1 hc'.1.1.2 _, _, _, _, rfl, pair_i64 hc'.1.2.1 hc'.1.2.2 _, _, _, _, rfl, pair_i64 hc'.2.1 hc'.2.2 _, rfl, rfl⟩) Q hq.2 hb w0 X loc w hm
  · exact hq.elim

theorem ysu_ok : SummOK Try.prog 6 (.pure fun args _ => yes222 args) := by
  refine pure_ok (fun args w => Try.call6 args w) fun args Q hq => ?_
  unfold yes222 at hq ⊢
  split at hq
  · rename_i a b c d e f
    obtain ⟨hc, hq⟩ := hq
    have hc' := hc
    simp only [Bool.and_eq_true] at hc'
    refine ⟨rfl, ⟨hc, rfl⟩, fun Q hq hb w0 X loc w hm => ?_⟩
    exact walks_eff Try.func6 rfl (su_law [.agg [.int .i64 a, .int .i64 b], .agg [.int .i64 c, .int .i64 d], .agg [.int .i64 e, .int .i64 f]] [] ⟨_, _, _, rfl, pair_i64 hc'.1.1.1 hc'.1.1.2 _, _, _, _, rfl, pair_i64 hc'.1.2.1 hc'.1.2.2 _, _, _, _, rfl, pair_i64 hc'.2.1 hc'.2.2 _, rfl, rfl⟩) Q hq.2 hb w0 X loc w hm
  · exact hq.elim

noncomputable def fkB : List (Nat × Summ) := (3, .pure fun args _ => yes2 args) :: (7, .pure fun args _ => yes3 args) :: (4, .pure fun args _ => yes22 args) :: (5, .pure fun args _ => yes222 args) :: (6, .pure fun args _ => yes222 args) :: (laE 0).fns

theorem fkB_ok : EnvOK Try.prog fkB := EnvOK.cons yfi_ok (EnvOK.cons yfl_ok (EnvOK.cons yfr_ok (EnvOK.cons yfo_ok (EnvOK.cons ysu_ok (laE_ok 0)))))

def fkM (g : Nat → Int) : AM := [some (Blk.rows true 1 17 fun j => [.int .i64 (g j)])]

def fk6 (x : (Nat → Int) × Nat × Nat) : St := ⟨[(1, .sl 0 0 1 0 17 17), (2, .int .i64 x.2.1), (3, .int .i64 x.2.2)], fkM x.1⟩

def fk3 (x : (Nat → Int) × Nat) : St := ⟨[(1, .sl 0 0 1 0 17 17), (2, .int .i64 x.2)], fkM x.1⟩

def fkI6 (x : (Nat → Int) × Nat × Nat) : Prop := (∀ j, j < 17 → i64B (x.1 j) = true) ∧ x.2.1 < 17 ∧ x.2.2 ≤ 17

def fkI3 (x : (Nat → Int) × Nat) : Prop := (∀ j, j < 17 → i64B (x.1 j) = true) ∧ x.2 ≤ 17

def fkP6 (st : St) : Option ((Nat → Int) × Nat × Nat) :=
  match AM.get st.m 0, slotAt st.fr 2 with
  | some b, some (.int _ i) => some (intAt b, i.toNat, 0)
  | _, _ => none

def fkP3 (st : St) : Option ((Nat → Int) × Nat) :=
  match AM.get st.m 0 with
  | some b => some (intAt b, 0)
  | _ => none

def fkX6 (x : (Nat → Int) × Nat × Nat) : T (Ex × St) := .ret (.exit 2, fk3 (x.1, x.2.1))

def fkX3 (x : (Nat → Int) × Nat) : T (Ex × St) := .ret (.exit 0, ⟨[], []⟩)

noncomputable def fkE : Env := { nt := Try.f8.ntmps, n0 := 0, fns := fkB, loop := fun k => if k = 6 then loopSumm 0 fk6 fkI6 fkP6 fkX6 else if k = 3 then loopSumm 0 fk3 fkI3 fkP3 fkX3 else fun _ => .fail }

theorem fk6_tree (g : Nat → Int) (i k : Nat) : keepT [1, 2, 3] (acode Try.prog fkE (loopAt (loopAt (codeOf Try.f8) 0) 0) (fk6 (g, i, k))) = 
  T.ite (decide ((↑k : Int) < (↑(17 : Nat) : Int)))
    (T.chk (decide ((0 : Int) ≤ (↑i : Int)) && decide ((↑i : Int) < (↑(17 : Nat) : Int)))
      (T.chk (decide ((0 : Nat) + Int.toNat (↑i : Int) < (17 : Nat)))
        (T.chk (decide ((0 : Int) ≤ (↑k : Int)) && decide ((↑k : Int) < (↑(17 : Nat) : Int)))
          (T.chk (decide ((0 : Nat) + Int.toNat (↑k : Int) < (17 : Nat)))
            (T.chk (decide ((0 : Nat) + Int.toNat (↑k : Int) < (17 : Nat)))
              (T.need (AV.int IntKind.i64 (g ((0 : Nat) + Int.toNat (↑k : Int))) = AV.int IntKind.i64 (g ((0 : Nat) + Int.toNat (↑k : Int))))
                (T.chk (decide ((0 : Nat) + Int.toNat (↑i : Int) < (17 : Nat)))
                  (T.need (AV.int IntKind.i64 (g ((0 : Nat) + Int.toNat (↑i : Int))) = AV.int IntKind.i64 (g ((0 : Nat) + Int.toNat (↑i : Int))))
                    (T.chk (decide ((0 : Int) ≤ (↑k : Int)) && decide ((↑k : Int) < (↑(17 : Nat) : Int)))
                      (T.chk (decide ((0 : Nat) + Int.toNat (↑k : Int) < (17 : Nat)))
                        (T.chk true
                          (T.chk (decide ((0 : Int) ≤ Int.tmod (IntKind.wrap IntKind.i64 ((↑i : Int) + (5 : Int))) (↑(17 : Nat) : Int)) && decide (Int.tmod (IntKind.wrap IntKind.i64 ((↑i : Int) + (5 : Int))) (↑(17 : Nat) : Int) < (↑(17 : Nat) : Int)))
                            (T.chk (decide ((0 : Nat) + Int.toNat (Int.tmod (IntKind.wrap IntKind.i64 ((↑i : Int) + (5 : Int))) (↑(17 : Nat) : Int)) < (17 : Nat)))
                              (T.chk (decide ((0 : Nat) + Int.toNat (Int.tmod (IntKind.wrap IntKind.i64 ((↑i : Int) + (5 : Int))) (↑(17 : Nat) : Int)) < (17 : Nat)))
                                (T.need (AV.int IntKind.i64 (g ((0 : Nat) + Int.toNat (Int.tmod (IntKind.wrap IntKind.i64 ((↑i : Int) + (5 : Int))) (↑(17 : Nat) : Int)))) = AV.int IntKind.i64 (g ((0 : Nat) + Int.toNat (Int.tmod (IntKind.wrap IntKind.i64 ((↑i : Int) + (5 : Int))) (↑(17 : Nat) : Int)))))
                                  (T.need (AV.int IntKind.i64 (17 : Int) = AV.int IntKind.i64 (17 : Int))
                                    (T.chk (decide ((0 : Nat) + Int.toNat (↑k : Int) < (17 : Nat)))
                                      (T.need (AV.int IntKind.i64 (g ((0 : Nat) + Int.toNat (↑k : Int))) = AV.int IntKind.i64 (g ((0 : Nat) + Int.toNat (↑k : Int))))
                                        (T.chk (decide ((0 : Int) ≤ (↑i : Int)) && decide ((↑i : Int) < (↑(17 : Nat) : Int)))
                                          (T.chk (decide ((0 : Nat) + Int.toNat (↑i : Int) < (17 : Nat)))
                                            (T.chk (decide ((0 : Int) ≤ (↑k : Int)) && decide ((↑k : Int) < (↑(17 : Nat) : Int)))
                                              (T.chk (decide ((0 : Nat) + Int.toNat (↑k : Int) < (17 : Nat)))
                                                (T.chk (i64B (g ((0 : Nat) + Int.toNat (↑i : Int))) && i64B (g ((0 : Nat) + Int.toNat (↑k : Int))))
                                                  (T.ite false
                                                    (T.ret
                                                      (Ex.ret,
                                                        St.mk [((1 : Nat), AV.sl (0 : Nat) (0 : Nat) (1 : Nat) (0 : Nat) (17 : Nat) (17 : Nat)), ((2 : Nat), AV.int IntKind.i64 (↑i : Int)), ((3 : Nat), AV.int IntKind.i64 (↑k : Int))]
                                                          [some (Blk.mk true [] (1 : Nat) (17 : Nat) (fun j => [AV.int IntKind.i64 (g j)]) []), some (Blk.mk true [AV.int IntKind.i64 (g ((0 : Nat) + Int.toNat (↑i : Int))), AV.int IntKind.i64 (g ((0 : Nat) + Int.toNat (↑k : Int)))] (0 : Nat) (0 : Nat) (fun a => []) []),
                                                            some (Blk.mk true [AV.int IntKind.i64 (g ((0 : Nat) + Int.toNat (↑k : Int))), AV.int IntKind.i64 (g ((0 : Nat) + Int.toNat (Int.tmod (IntKind.wrap IntKind.i64 ((↑i : Int) + (5 : Int))) (↑(17 : Nat) : Int))))] (0 : Nat) (0 : Nat) (fun a => []) [])]))
                                                    (T.chk (decide ((0 : Int) ≤ (↑i : Int)) && decide ((↑i : Int) < (↑(17 : Nat) : Int)))
                                                      (T.chk (decide ((0 : Nat) + Int.toNat (↑i : Int) < (17 : Nat)))
                                                        (T.chk (decide ((0 : Int) ≤ (↑k : Int)) && decide ((↑k : Int) < (↑(17 : Nat) : Int)))
                                                          (T.chk (decide ((0 : Nat) + Int.toNat (↑k : Int) < (17 : Nat)))
                                                            (T.chk
                                                              (i64B (g ((0 : Nat) + Int.toNat (↑i : Int))) && i64B (g ((0 : Nat) + Int.toNat (↑k : Int))) && (i64B (g ((0 : Nat) + Int.toNat (↑i : Int))) && i64B (g ((0 : Nat) + Int.toNat (↑k : Int)))) &&
                                                                (i64B (g ((0 : Nat) + Int.toNat (↑k : Int))) && i64B (g ((0 : Nat) + Int.toNat (Int.tmod (IntKind.wrap IntKind.i64 ((↑i : Int) + (5 : Int))) (↑(17 : Nat) : Int))))))
                                                              (T.ite false
                                                                (T.ret
                                                                  (Ex.ret,
                                                                    St.mk [((1 : Nat), AV.sl (0 : Nat) (0 : Nat) (1 : Nat) (0 : Nat) (17 : Nat) (17 : Nat)), ((2 : Nat), AV.int IntKind.i64 (↑i : Int)), ((3 : Nat), AV.int IntKind.i64 (↑k : Int))]
                                                                      [some (Blk.mk true [] (1 : Nat) (17 : Nat) (fun j => [AV.int IntKind.i64 (g j)]) []), some (Blk.mk true [AV.int IntKind.i64 (g ((0 : Nat) + Int.toNat (↑i : Int))), AV.int IntKind.i64 (g ((0 : Nat) + Int.toNat (↑k : Int)))] (0 : Nat) (0 : Nat) (fun a => []) []),
                                                                        some (Blk.mk true [AV.int IntKind.i64 (g ((0 : Nat) + Int.toNat (↑k : Int))), AV.int IntKind.i64 (g ((0 : Nat) + Int.toNat (Int.tmod (IntKind.wrap IntKind.i64 ((↑i : Int) + (5 : Int))) (↑(17 : Nat) : Int))))] (0 : Nat) (0 : Nat) (fun a => []) [])]))
                                                                (T.chk
                                                                  (i64B (g ((0 : Nat) + Int.toNat (↑i : Int))) && i64B (g ((0 : Nat) + Int.toNat (↑k : Int))) && (i64B (g ((0 : Nat) + Int.toNat (↑k : Int))) && i64B (g ((0 : Nat) + Int.toNat (Int.tmod (IntKind.wrap IntKind.i64 ((↑i : Int) + (5 : Int))) (↑(17 : Nat) : Int))))) &&
                                                                    (i64B (g ((0 : Nat) + Int.toNat (↑i : Int))) && i64B (g ((0 : Nat) + Int.toNat (↑k : Int)))))
                                                                  (T.ite false
                                                                    (T.ret
                                                                      (Ex.ret,
                                                                        St.mk [((1 : Nat), AV.sl (0 : Nat) (0 : Nat) (1 : Nat) (0 : Nat) (17 : Nat) (17 : Nat)), ((2 : Nat), AV.int IntKind.i64 (↑i : Int)), ((3 : Nat), AV.int IntKind.i64 (↑k : Int))]
                                                                          [some (Blk.mk true [] (1 : Nat) (17 : Nat) (fun j => [AV.int IntKind.i64 (g j)]) []), some (Blk.mk true [AV.int IntKind.i64 (g ((0 : Nat) + Int.toNat (↑i : Int))), AV.int IntKind.i64 (g ((0 : Nat) + Int.toNat (↑k : Int)))] (0 : Nat) (0 : Nat) (fun a => []) []),
                                                                            some (Blk.mk true [AV.int IntKind.i64 (g ((0 : Nat) + Int.toNat (↑k : Int))), AV.int IntKind.i64 (g ((0 : Nat) + Int.toNat (Int.tmod (IntKind.wrap IntKind.i64 ((↑i : Int) + (5 : Int))) (↑(17 : Nat) : Int))))] (0 : Nat) (0 : Nat) (fun a => []) [])]))
                                                                    (T.chk
                                                                      (i64B (g ((0 : Nat) + Int.toNat (↑i : Int))) && i64B (g ((0 : Nat) + Int.toNat (↑k : Int))) && (i64B (g ((0 : Nat) + Int.toNat (↑k : Int))) && i64B (g ((0 : Nat) + Int.toNat (Int.tmod (IntKind.wrap IntKind.i64 ((↑i : Int) + (5 : Int))) (↑(17 : Nat) : Int))))) &&
                                                                        (i64B (g ((0 : Nat) + Int.toNat (↑k : Int))) && i64B (g ((0 : Nat) + Int.toNat (Int.tmod (IntKind.wrap IntKind.i64 ((↑i : Int) + (5 : Int))) (↑(17 : Nat) : Int))))))
                                                                      (T.ite false
                                                                        (T.ret
                                                                          (Ex.ret,
                                                                            St.mk [((1 : Nat), AV.sl (0 : Nat) (0 : Nat) (1 : Nat) (0 : Nat) (17 : Nat) (17 : Nat)), ((2 : Nat), AV.int IntKind.i64 (↑i : Int)), ((3 : Nat), AV.int IntKind.i64 (↑k : Int))]
                                                                              [some (Blk.mk true [] (1 : Nat) (17 : Nat) (fun j => [AV.int IntKind.i64 (g j)]) []), some (Blk.mk true [AV.int IntKind.i64 (g ((0 : Nat) + Int.toNat (↑i : Int))), AV.int IntKind.i64 (g ((0 : Nat) + Int.toNat (↑k : Int)))] (0 : Nat) (0 : Nat) (fun a => []) []),
                                                                                some (Blk.mk true [AV.int IntKind.i64 (g ((0 : Nat) + Int.toNat (↑k : Int))), AV.int IntKind.i64 (g ((0 : Nat) + Int.toNat (Int.tmod (IntKind.wrap IntKind.i64 ((↑i : Int) + (5 : Int))) (↑(17 : Nat) : Int))))] (0 : Nat) (0 : Nat) (fun a => []) [])]))
                                                                        (T.chk (decide ((0 : Int) ≤ (↑i : Int)) && decide ((↑i : Int) < (↑(17 : Nat) : Int)))
                                                                          (T.chk (decide ((0 : Nat) + Int.toNat (↑i : Int) < (17 : Nat)))
                                                                            (T.chk (decide ((0 : Int) ≤ (↑k : Int)) && decide ((↑k : Int) < (↑(17 : Nat) : Int)))
                                                                              (T.chk (decide ((0 : Nat) + Int.toNat (↑k : Int) < (17 : Nat)))
                                                                                (T.chk (i64B (g ((0 : Nat) + Int.toNat (↑i : Int))) && i64B (g ((0 : Nat) + Int.toNat (↑k : Int))) && i64B (3 : Int))
                                                                                  (T.ite false
                                                                                    (T.ret
                                                                                      (Ex.ret,
                                                                                        St.mk [((1 : Nat), AV.sl (0 : Nat) (0 : Nat) (1 : Nat) (0 : Nat) (17 : Nat) (17 : Nat)), ((2 : Nat), AV.int IntKind.i64 (↑i : Int)), ((3 : Nat), AV.int IntKind.i64 (↑k : Int))]
                                                                                          [some (Blk.mk true [] (1 : Nat) (17 : Nat) (fun j => [AV.int IntKind.i64 (g j)]) []), some (Blk.mk true [AV.int IntKind.i64 (g ((0 : Nat) + Int.toNat (↑i : Int))), AV.int IntKind.i64 (g ((0 : Nat) + Int.toNat (↑k : Int)))] (0 : Nat) (0 : Nat) (fun a => []) []),
                                                                                            some (Blk.mk true [AV.int IntKind.i64 (g ((0 : Nat) + Int.toNat (↑k : Int))), AV.int IntKind.i64 (g ((0 : Nat) + Int.toNat (Int.tmod (IntKind.wrap IntKind.i64 ((↑i : Int) + (5 : Int))) (↑(17 : Nat) : Int))))] (0 : Nat) (0 : Nat) (fun a => []) [])]))
                                                                                    (T.ret
                                                                                      (Ex.norm,
                                                                                        St.mk [((1 : Nat), AV.sl (0 : Nat) (0 : Nat) (1 : Nat) (0 : Nat) (17 : Nat) (17 : Nat)), ((2 : Nat), AV.int IntKind.i64 (↑i : Int)), ((3 : Nat), AV.int IntKind.i64 (IntKind.wrap IntKind.i64 ((↑k : Int) + (1 : Int))))]
                                                                                          [some (Blk.mk true [] (1 : Nat) (17 : Nat) (fun j => [AV.int IntKind.i64 (g j)]) []), some (Blk.mk true [AV.int IntKind.i64 (g ((0 : Nat) + Int.toNat (↑i : Int))), AV.int IntKind.i64 (g ((0 : Nat) + Int.toNat (↑k : Int)))] (0 : Nat) (0 : Nat) (fun a => []) []),
                                                                                            some (Blk.mk true [AV.int IntKind.i64 (g ((0 : Nat) + Int.toNat (↑k : Int))), AV.int IntKind.i64 (g ((0 : Nat) + Int.toNat (Int.tmod (IntKind.wrap IntKind.i64 ((↑i : Int) + (5 : Int))) (↑(17 : Nat) : Int))))] (0 : Nat) (0 : Nat) (fun a => []) [])]))))))))))))))))))))))))))))))))))))))))))
    (T.ret (Ex.exit (2 : Nat), St.mk [((1 : Nat), AV.sl (0 : Nat) (0 : Nat) (1 : Nat) (0 : Nat) (17 : Nat) (17 : Nat)), ((2 : Nat), AV.int IntKind.i64 (↑i : Int)), ((3 : Nat), AV.int IntKind.i64 (↑k : Int))] [some (Blk.mk true [] (1 : Nat) (17 : Nat) (fun j => [AV.int IntKind.i64 (g j)]) [])])) := by
  kernel_rfl

theorem fk3_tree (g : Nat → Int) (i : Nat) : keepT [1, 2] (acode Try.prog fkE (loopAt (codeOf Try.f8) 0) (fk3 (g, i))) = 
  T.ite (decide ((↑i : Int) < (↑(17 : Nat) : Int)))
    (T.need (∃ ρ, SubSt (0 : Nat) ρ (St.mk [((1 : Nat), AV.sl (0 : Nat) (0 : Nat) (1 : Nat) (0 : Nat) (17 : Nat) (17 : Nat)), ((2 : Nat), AV.int IntKind.i64 (↑i : Int)), ((3 : Nat), AV.int IntKind.i64 (0 : Int))] [some (Blk.mk true [] (1 : Nat) (17 : Nat) (fun j => [AV.int IntKind.i64 (g j)]) [])]) (fk6 (g, Int.toNat (↑i : Int), (0 : Nat))))
      (T.need (fkI6 (g, Int.toNat (↑i : Int), (0 : Nat))) (T.ret (Ex.norm, St.mk [((1 : Nat), AV.sl (0 : Nat) (0 : Nat) (1 : Nat) (0 : Nat) (17 : Nat) (17 : Nat)), ((2 : Nat), AV.int IntKind.i64 (IntKind.wrap IntKind.i64 ((↑(Int.toNat (↑i : Int)) : Int) + (1 : Int))))] [some (Blk.mk true [] (1 : Nat) (17 : Nat) (fun j => [AV.int IntKind.i64 (g j)]) [])]))))
    (T.ret (Ex.exit (0 : Nat), St.mk [((1 : Nat), AV.sl (0 : Nat) (0 : Nat) (1 : Nat) (0 : Nat) (17 : Nat) (17 : Nat)), ((2 : Nat), AV.int IntKind.i64 (↑i : Int))] [some (Blk.mk true [] (1 : Nat) (17 : Nat) (fun j => [AV.int IntKind.i64 (g j)]) [])])) := by
  kernel_rfl

theorem fk_fn : T.cut (vfn Try.prog fkE Try.f8 (codeOf Try.f8) []) [1, 1, 1, 1, 1, 1, 1] = 
  T.need
    (∃ ρ,
      SubSt (0 : Nat) ρ
        (St.mk [((1 : Nat), AV.sl (0 : Nat) (0 : Nat) (1 : Nat) (0 : Nat) (17 : Nat) (17 : Nat)), ((2 : Nat), AV.int IntKind.i64 (0 : Int))]
          [some
              (Blk.mk true [] (1 : Nat) (17 : Nat)
                (fun i =>
                  [AV.int IntKind.i64 (List.getD [(-9223372036854775808 : Int), (-9223372036854775807 : Int), (-4294967296 : Int), (-2 : Int), (-1 : Int), (0 : Int), (1 : Int), (2 : Int), (3 : Int), (2147483648 : Int), (4294967295 : Int), (4294967296 : Int), (3037000499 : Int), (3037000500 : Int), (4611686018427387904 : Int), (9223372036854775806 : Int), (9223372036854775807 : Int)] i (0 : Int))])
                [])])
        (fk3 (fun j => List.getD [(-9223372036854775808 : Int), (-9223372036854775807 : Int), (-4294967296 : Int), (-2 : Int), (-1 : Int), (0 : Int), (1 : Int), (2 : Int), (3 : Int), (2147483648 : Int), (4294967295 : Int), (4294967296 : Int), (3037000499 : Int), (3037000500 : Int), (4611686018427387904 : Int), (9223372036854775806 : Int), (9223372036854775807 : Int)] j (0 : Int), (0 : Nat))))
    (T.need (fkI3 (fun j => List.getD [(-9223372036854775808 : Int), (-9223372036854775807 : Int), (-4294967296 : Int), (-2 : Int), (-1 : Int), (0 : Int), (1 : Int), (2 : Int), (3 : Int), (2147483648 : Int), (4294967295 : Int), (4294967296 : Int), (3037000499 : Int), (3037000500 : Int), (4611686018427387904 : Int), (9223372036854775806 : Int), (9223372036854775807 : Int)] j (0 : Int), (0 : Nat)))
      (T.chk true (T.chk true (T.chk true (@T.chk AV true (@T.chk AV true (@T.chk AV true (@T.chk AV true (@T.chk AV true (T.chk true (@T.chk AV true (T.chk true (@T.chk AV true (T.ret (AV.bool true))))))))))))))) := by
  kernel_rfl

theorem fk_sub {g : Nat → Int} {m : AM} (h : m.get 0 = some (Blk.rows true 1 17 fun j => [.int .i64 (g j)])) : Sub 0 id m (fkM g) :=
  Sub.of ⟨⟨_, h, BlkOK.rows' (fun h => h) fun j _ => LAlike.ints rfl⟩, trivial⟩ (fun i j hi hj h => by simp [fkM] at hi hj; omega) (fun i hi => by omega) (Nat.zero_le _)

theorem fk6_loop : LoopOK Try.prog fkE (loopAt (loopAt (codeOf Try.f8) 0) 0) := by
  refine loopSumm_ok (E := fkE) fkB_ok (noLoops (by kernel_rfl)) fk6 fkI6 (fun x => 17 - x.2.2) fkP6 fkX6 ?_ (by kernel_rfl)
  rintro ⟨g, i, k⟩ ⟨hg, h1, h2⟩ Q hq
  dsimp only at hg h1 h2
  refine round_keep [1, 2, 3] ?_
  rw [fk6_tree]
  have e5 : Int.tmod (IntKind.wrap .i64 ((i : Int) + 5)) ((17 : Nat) : Int) = (((i + 5) % 17 : Nat) : Int) := by
    rw [IntWalk.i64_in _ (by omega), Int.tmod_eq_emod_of_nonneg (by omega)]
    omega
  have hj : (i + 5) % 17 < 17 := Nat.mod_lt _ (by omega)
  rw [e5]
  generalize (i + 5) % 17 = j at *
  simp only [Int.toNat_natCast, Nat.zero_add]
  refine T.hite (fun hk => ?_) (fun _ => Round.out id (fk3 (g, i)) (SubSt.mk (by simp [fk3, SubFr, slotAt, ren, below, fkM]) (fk_sub rfl)) hq)
  have hk : k < 17 := by have := of_decide_eq_true hk; omega
  have g1 := hg i h1
  have g2 := hg k hk
  have g3 := hg j hj
  have g4 : i64B 3 = true := by decide
  have c1 : decide (i < 17) = true := decide_eq_true h1
  have c2 : decide (k < 17) = true := decide_eq_true hk
  have c3 : decide (j < 17) = true := decide_eq_true hj
  have d1 : (decide ((0 : Int) ≤ (i : Int)) && decide ((i : Int) < ((17 : Nat) : Int))) = true := by simp; omega
  have d2 : (decide ((0 : Int) ≤ (k : Int)) && decide ((k : Int) < ((17 : Nat) : Int))) = true := by simp; omega
  have d3 : (decide ((0 : Int) ≤ (j : Int)) && decide ((j : Int) < ((17 : Nat) : Int))) = true := by simp; omega
  have hw : IntKind.wrap IntKind.i64 ((k : Int) + 1) = ((k + 1 : Nat) : Int) := by rw [IntWalk.i64_in _ (by omega)]; omega
  simp only [g1, g2, g3, g4, c1, c2, c3, d1, d2, d3, Bool.and_self, Bool.not_true]
  repeat' first | with_reducible refine T.hneed trivial ?_ | with_reducible refine T.hneed rfl ?_ | with_reducible refine T.hchk rfl ?_ | with_reducible refine T.h_ff ?_ | with_reducible refine T.h_tt ?_
  refine T.hret ?_
  exact Round.go (g, i, k + 1) id ⟨hg, h1, by dsimp only; omega⟩ (by dsimp only; omega) (SubSt.mk (by simp [fk6, SubFr, slotAt, ren, below, fkM, hw]) (fk_sub rfl)) hq

theorem fk3_loop : LoopOK Try.prog fkE (loopAt (codeOf Try.f8) 0) := by
  refine loopSumm_ok (E := fkE) fkB_ok (oneLoop (by kernel_rfl) fk6_loop) fk3 fkI3 (fun x => 17 - x.2) fkP3 fkX3 ?_ (by kernel_rfl)
  rintro ⟨g, i⟩ ⟨hg, h1⟩ Q hq
  dsimp only at hg h1
  refine round_keep [1, 2] ?_
  rw [fk3_tree]
  simp only [Int.toNat_natCast]
  refine T.hite (fun h => ?_) (fun h => ?_)
  · have h : i < 17 := by have := of_decide_eq_true h; omega
    have hw : IntKind.wrap IntKind.i64 ((i : Int) + 1) = ((i + 1 : Nat) : Int) := by rw [IntWalk.i64_in _ (by omega)]; omega
    refine T.hneed ⟨id, SubSt.mk (by simp [fk6, SubFr, slotAt, ren, below, fkM]) (fk_sub rfl)⟩ (T.hneed ⟨hg, h, Nat.zero_le _⟩ ?_)
    exact Round.go (g, i + 1) id ⟨hg, by dsimp only; omega⟩ (by dsimp only; omega) (SubSt.mk (by simp [fk3, SubFr, slotAt, ren, below, fkM, hw]) (fk_sub rfl)) hq
  · exact Round.out id ⟨[], []⟩ (SubSt.mk (by simp [SubFr]) (Sub.nil _ _)) hq

theorem fk_in (g : Nat → Int) : ∃ ρ, SubSt 0 ρ ⟨[(1, .sl 0 0 1 0 17 17), (2, .int .i64 0)], [some (Blk.mk true [] 1 17 (fun i => [.int .i64 (g i)]) [])]⟩ (fk3 (g, 0)) :=
  ⟨id, SubSt.mk (by simp [fk3, SubFr, slotAt, ren, below, fkM]) (fk_sub rfl)⟩

theorem fk_ini {g : Nat → Int} (h : ∀ j, j < 17 → i64B (g j) = true) : fkI3 (g, 0) := ⟨h, Nat.zero_le _⟩

def fkEnds : List Int := [-9223372036854775808, -9223372036854775807, -4294967296, -2, -1, 0, 1, 2, 3, 2147483648, 4294967295, 4294967296, 3037000499, 3037000500, 4611686018427387904, 9223372036854775806, 9223372036854775807]

theorem fk_ends : ∀ j, j < 17 → i64B (List.getD fkEnds j 0) = true := by decide +kernel

theorem fk_holds : (vfn Try.prog fkE Try.f8 (codeOf Try.f8) []).holds fun v => v.yes = true := by
  refine T.cut_eq fk_fn ?_
  refine T.hneed (fk_in (fun j => List.getD fkEnds j 0)) (T.hneed (fk_ini fk_ends) ?_)
  repeat' first | with_reducible refine T.hneed rfl ?_ | with_reducible refine T.hchk rfl ?_
  rfl

theorem fk_loops : ∀ c' ∈ loopsIn (codeOf Try.f8), LoopOK Try.prog fkE c' := oneLoop (by kernel_rfl) fk3_loop

theorem fk_yes : (afn Try.prog fkE Try.f8 (codeOf Try.f8) [] []).holds fun r => r.1.yes = true := by
  have h := @vfn_yes Try.prog fkE Try.f8 (codeOf Try.f8) [] fk_holds
  exact h

theorem fk_law : ∀ args m, ArgsAV [] [] args m → Walks Try.prog Try.f8 (codeOf Try.f8) args m := by
  intro args m h
  obtain ⟨rfl, rfl⟩ := args_nil h
  exact Walks.mk ⟨fkE, fkB_ok, fk_loops, rfl, rfl, fk_yes⟩

end Go.Proofs.Ytlebekeplkkciaa
