/-
  Layer 19: Known.
-/
import Derived.Test.YthbdkhlpojngeaaHD
namespace Go.Proofs.Ythbdkhlpojngeaa
open Go.Ox
set_option maxRecDepth 100000
set_option linter.unusedVariables false
set_option linter.unusedSimpArgs false

theorem law_eff {P : Program} {E : Env} {f : FuncId} {fn : Func} {c : Code} (hf : P.funcs[f]? = some fn) (hb : fn.body = some c) (hE : EnvOK P E.fns) (hL : ∀ c' ∈ loopsIn c, LoopOK P E c') (hnt : E.nt = fn.ntmps) (hn0 : E.n0 = 0)
    (args : List AV) (ht : (afn P E fn c args []).holds fun r => r.1.yes = true) : EffAt P f args [] (.ret (.bool true, [])) :=
  fn_ok hf hb hE hL hnt (by simpa using hn0) fun Q hq => T.holds_mono (fun r hr => ⟨id, .bool true, [], hq, fun loc => by rw [AV.yes_conc hr]; simp [ren, conc], by simp [below], Sub.nil _ _⟩) _ ht

def yWide : List AV → T AV
  | [.int .i64 _, .int .i64 _, .tt, .int .i64 _] => .ret (.bool true)
  | [.int .i64 _, .int .i64 _, .ff, .int .i64 _] => .ret (.bool true)
  | _ => .fail

theorem wide_eff (n first : Int) (back : Bool) (no : Int) : EffAt Try.prog 8 [.int .i64 n, .int .i64 first, .bool back, .int .i64 no] [] (.ret (.bool true, [])) :=
  law_eff (E := wiE) (c := codeOf Try.f8) Try.func8 rfl (laE_ok _) (oneLoop (by kernel_rfl) wi_loop) rfl rfl _ (wi_holds n first back no)

theorem yWide_ok : SummOK Try.prog 8 (.pure fun args _ => yWide args) := by
  refine pure_ok (fun args w => Try.call8 args w) fun args Q hq => ?_
  unfold yWide at hq ⊢
  split at hq
  · rename_i n first no
    refine ⟨rfl, rfl, fun Q hq hb w0 X loc w hm => ?_⟩
    have := wide_eff n first true no Q hq (by simp [belowL, below]) w0 X loc w hm
    simpa [concL, conc] using this
  · rename_i n first no
    refine ⟨rfl, rfl, fun Q hq hb w0 X loc w hm => ?_⟩
    have := wide_eff n first false no Q hq (by simp [belowL, below]) w0 X loc w hm
    simpa [concL, conc] using this
  · exact hq.elim

noncomputable def akE : Env := { laE Try.f7.ntmps with fns := (8, .pure fun args _ => yWide args) :: (laE 0).fns }

theorem ak_fn : (vfn Try.prog akE Try.f7 (codeOf Try.f7) []) = 
  T.need (IsAl (Blk.mk true [AV.int IntKind.i64 (2 : Int)] (1 : Nat) (96 : Nat) (fun j => [AV.bool false]) [AV.int IntKind.i64 (0 : Int), AV.int IntKind.i64 (0 : Int), AV.int IntKind.i64 (0 : Int), AV.bool false]))
    (T.chk true
      (T.ite false (T.ret AV.ff)
        (T.need (IsAl (Blk.mk true [AV.int IntKind.i64 (2 : Int)] (1 : Nat) (96 : Nat) (fun j => [AV.bool (if j = (0 : Nat) then true else B1A (stA (renB (out [] (0 : Nat)) (alB (newA (2 : Int))))) (2 : Int) j)]) [AV.int IntKind.i64 (1 : Int), AV.int IntKind.i64 (2 : Int), AV.int IntKind.i64 (0 : Int), AV.bool false]))
          (T.chk true
            (T.ite false (T.ret AV.ff)
              (T.need (IsAl (Blk.mk true [AV.int IntKind.i64 (2 : Int)] (1 : Nat) (96 : Nat) (fun j => [AV.bool (if j = (1 : Nat) then true else B1A (stA (renB (out [(0 : Nat)] (1 : Nat)) (alB (bar (stA (renB (out [] (0 : Nat)) (alB (newA (2 : Int))))) (0 : Int) (2 : Int))))) (3 : Int) j)]) [AV.int IntKind.i64 (1 : Int), AV.int IntKind.i64 (3 : Int), AV.int IntKind.i64 (0 : Int), AV.bool false]))
                (T.chk true
                  (T.ite false (T.ret AV.ff)
                    (T.need
                      (IsAl (Blk.mk true [AV.int IntKind.i64 (2 : Int)] (1 : Nat) (96 : Nat) (fun j => [AV.bool (if j = (1 : Nat) then true else B1A (stA (renB (out [(0 : Nat)] (1 : Nat)) (alB (bar (stA (renB (out [] (0 : Nat)) (alB (newA (2 : Int))))) (0 : Int) (2 : Int))))) (3 : Int) j)]) [AV.int IntKind.i64 (1 : Int), AV.int IntKind.i64 (3 : Int), AV.int IntKind.i64 (0 : Int), AV.bool false]))
                      (T.chk true
                        (T.ite false (T.ret AV.ff)
                          (T.need
                            (IsAl
                              (Blk.mk true [AV.int IntKind.i64 (2 : Int)] (1 : Nat) (96 : Nat) (fun j => [AV.bool (boolA (List.getD (renL (out [(0 : Nat)] (1 : Nat)) [AV.bool (if j = (1 : Nat) then true else B1A (stA (renB (out [(0 : Nat)] (1 : Nat)) (alB (bar (stA (renB (out [] (0 : Nat)) (alB (newA (2 : Int))))) (0 : Int) (2 : Int))))) (3 : Int) j)]) (0 : Nat) AV.ff))])
                                [AV.int IntKind.i64 (1 : Int), AV.int IntKind.i64 (3 : Int), AV.int IntKind.i64 (0 : Int), AV.bool false]))
                            (T.chk true
                              (T.ite false (T.ret AV.ff)
                                (T.need (IsAl (Blk.mk true [AV.int IntKind.i64 (2 : Int)] (1 : Nat) (96 : Nat) (fun j => [AV.bool false]) [AV.int IntKind.i64 (0 : Int), AV.int IntKind.i64 (3 : Int), AV.int IntKind.i64 (3 : Int), AV.bool true]))
                                  (T.chk true
                                    (T.ite false (T.ret AV.ff)
                                      (T.need (IsAl (Blk.mk true [AV.int IntKind.i64 (1 : Int)] (1 : Nat) (96 : Nat) (fun j => [AV.bool false]) [AV.int IntKind.i64 (0 : Int), AV.int IntKind.i64 (0 : Int), AV.int IntKind.i64 (0 : Int), AV.bool false]))
                                        (T.chk true
                                          (T.ite false (T.ret AV.ff)
                                            (T.need (IsAl (Blk.mk true [AV.int IntKind.i64 (1 : Int)] (1 : Nat) (96 : Nat) (fun j => [AV.bool false]) [AV.int IntKind.i64 (0 : Int), AV.int IntKind.i64 (-9223372036854775808 : Int), AV.int IntKind.i64 (-9223372036854775808 : Int), AV.bool true]))
                                              (T.chk true
                                                (T.ite false (T.ret AV.ff)
                                                  (T.need (IsAl (Blk.mk true [AV.int IntKind.i64 (1 : Int)] (1 : Nat) (96 : Nat) (fun j => [AV.bool (boolA (List.getD (renL (out [(1 : Nat)] (2 : Nat)) [AV.bool false]) (0 : Nat) AV.ff))]) [AV.int IntKind.i64 (0 : Int), AV.int IntKind.i64 (-9223372036854775808 : Int), AV.int IntKind.i64 (-9223372036854775808 : Int), AV.bool true]))
                                                    (T.chk true
                                                      (T.ite false (T.ret AV.ff)
                                                        (T.need (IsAl (Blk.mk true [AV.int IntKind.i64 (1 : Int)] (1 : Nat) (96 : Nat) (fun j => [AV.bool false]) [AV.int IntKind.i64 (0 : Int), AV.int IntKind.i64 (9223372036854775807 : Int), AV.int IntKind.i64 (9223372036854775807 : Int), AV.bool true]))
                                                          (T.chk true
                                                            (T.ite false (T.ret AV.ff)
                                                              (T.need (IsAl (Blk.mk true [AV.int IntKind.i64 (1 : Int)] (1 : Nat) (96 : Nat) (fun j => [AV.bool (boolA (List.getD (renL (out [(1 : Nat)] (2 : Nat)) [AV.bool false]) (0 : Nat) AV.ff))]) [AV.int IntKind.i64 (0 : Int), AV.int IntKind.i64 (9223372036854775807 : Int), AV.int IntKind.i64 (9223372036854775807 : Int), AV.bool true]))
                                                                (T.chk true
                                                                  (T.ite false (T.ret AV.ff)
                                                                    (T.need
                                                                      (IsAl
                                                                        (Blk.mk true [AV.int IntKind.i64 (1 : Int)] (1 : Nat) (96 : Nat) (fun j => [AV.bool (boolA (List.getD (renL (out [(1 : Nat)] (2 : Nat)) [AV.bool (boolA (List.getD (renL (out [(1 : Nat)] (2 : Nat)) [AV.bool false]) (0 : Nat) AV.ff))]) (0 : Nat) AV.ff))])
                                                                          [AV.int IntKind.i64 (0 : Int), AV.int IntKind.i64 (9223372036854775807 : Int), AV.int IntKind.i64 (9223372036854775807 : Int), AV.bool true]))
                                                                      (T.chk true
                                                                        (T.ite false (T.ret AV.ff)
                                                                          (T.need
                                                                            (IsAl
                                                                              (Blk.mk true [AV.int IntKind.i64 (1 : Int)] (1 : Nat) (96 : Nat)
                                                                                (fun j => [AV.bool (boolA (List.getD (renL (out [(1 : Nat)] (2 : Nat)) [AV.bool (boolA (List.getD (renL (out [(1 : Nat)] (2 : Nat)) [AV.bool (boolA (List.getD (renL (out [(1 : Nat)] (2 : Nat)) [AV.bool false]) (0 : Nat) AV.ff))]) (0 : Nat) AV.ff))]) (0 : Nat) AV.ff))])
                                                                                [AV.int IntKind.i64 (0 : Int), AV.int IntKind.i64 (9223372036854775807 : Int), AV.int IntKind.i64 (9223372036854775807 : Int), AV.bool true]))
                                                                            (T.chk true
                                                                              (T.ite true
                                                                                (T.need
                                                                                  (IsAl
                                                                                    (Blk.mk true [AV.int IntKind.i64 (1 : Int)] (1 : Nat) (96 : Nat)
                                                                                      (fun j => [AV.bool (boolA (List.getD (renL (out [(1 : Nat)] (2 : Nat)) [AV.bool (boolA (List.getD (renL (out [(1 : Nat)] (2 : Nat)) [AV.bool (boolA (List.getD (renL (out [(1 : Nat)] (2 : Nat)) [AV.bool false]) (0 : Nat) AV.ff))]) (0 : Nat) AV.ff))]) (0 : Nat) AV.ff))])
                                                                                      [AV.int IntKind.i64 (0 : Int), AV.int IntKind.i64 (9223372036854775807 : Int), AV.int IntKind.i64 (9223372036854775807 : Int), AV.bool true]))
                                                                                  (T.chk true
                                                                                    (T.ite true
                                                                                      (T.need
                                                                                        (IsAl
                                                                                          (Blk.mk true [AV.int IntKind.i64 (1 : Int)] (1 : Nat) (96 : Nat)
                                                                                            (fun j => [AV.bool (boolA (List.getD (renL (out [(1 : Nat)] (2 : Nat)) [AV.bool (boolA (List.getD (renL (out [(1 : Nat)] (2 : Nat)) [AV.bool (boolA (List.getD (renL (out [(1 : Nat)] (2 : Nat)) [AV.bool false]) (0 : Nat) AV.ff))]) (0 : Nat) AV.ff))]) (0 : Nat) AV.ff))])
                                                                                            [AV.int IntKind.i64 (0 : Int), AV.int IntKind.i64 (9223372036854775807 : Int), AV.int IntKind.i64 (9223372036854775807 : Int), AV.bool true]))
                                                                                        (T.chk true (T.ite true (T.ite true (T.ite true (T.ite true (T.ite true (T.ret (AV.bool true)) (T.ret AV.ff)) (T.ret AV.ff)) (T.ret AV.ff)) (T.ret AV.ff)) (T.ret AV.ff))))
                                                                                      (T.ret AV.ff))))
                                                                                (T.ret AV.ff))))))))))))))))))))))))))))))))))))))) := by
  kernel_rfl

theorem vfn_yes {P : Program} {E : Env} {fn : Func} {c : Code} {args : List AV} (h : (vfn P E fn c args).holds fun v => v.yes = true) : (afn P E fn c args []).holds fun r => r.1.yes = true := by
  unfold vfn at h
  rw [T.holds_bind] at h
  exact h

theorem ak_law : ∀ args m, ArgsAV [] [] args m → Walks Try.prog Try.f7 (codeOf Try.f7) args m := by
  intro args m h
  obtain ⟨rfl, rfl⟩ := args_nil h
  refine ⟨akE, EnvOK.cons yWide_ok (laE_ok 0), noLoops (by kernel_rfl), rfl, rfl, vfn_yes ?_⟩
  rw [ak_fn]
  repeat' first | refine T.hneed isAl ?_ | refine T.hiteP (fun _ => ?_) (fun _ => ?_) | refine T.hiteE (fun _ => ?_) (fun _ => ?_) | refine T.hiteN (fun _ => ?_) (fun _ => ?_) | refine T.hiteFP (fun _ => ?_) (fun _ => ?_) | refine T.hiteFE (fun _ => ?_) (fun _ => ?_) | refine T.hiteF (fun _ => ?_) (fun _ => ?_) | refine T.hite (fun _ => ?_) (fun _ => ?_) | refine T.hneed rfl ?_ | refine T.hneed IntRow.rows ?_ | refine T.hneed trivial ?_ | refine T.hchk ?_ ?_ | refine T.hall (fun _ => ?_) | refine T.hasm (fun _ => ?_)
  all_goals (try refine T.hret ?_)
  all_goals first
    | contradiction
    | rfl

end Go.Proofs.Ythbdkhlpojngeaa
