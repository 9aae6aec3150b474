/-
  Layer 2: works.
-/
import Derived.Test.YtglokmbhpmamcaaDoorProg
import Derived.Test.YtglokmbhpmamcaaDoorHOxY
namespace Go.Proofs.YtglokmbhpmamcaaDoor
open Go.Ox
set_option maxRecDepth 100000
set_option maxHeartbeats 4000000
set_option linter.unusedVariables false
set_option linter.unusedSimpArgs false

noncomputable def wkL : List (Nat × Func) := [(10, Tryd.f10), (12, Tryd.f12)]

theorem wkL_ok : InlOK Tryd.prog wkL := ⟨⟨fun args w => Tryd.call10 args w, Tryd.func10, rfl, by kernel_rfl⟩, ⟨fun args w => Tryd.call12 args w, Tryd.func12, rfl, by kernel_rfl⟩, trivial⟩

theorem wk_fn : T.cut (vfn Tryd.prog (inlE Tryd.prog [] wkL Tryd.f8 0) Tryd.f8 (codeOf Tryd.f8) []) [1, 1, 1, 1, 1, 1, 1, 1, 1, 0, 1, 0] = 
  @T.chk AV true
    (T.chk true
      (T.chk true
        (T.chk true
          (T.chk true
            (T.chk true
              (T.chk true
                (T.chk true
                  (T.chk true
                    (@T.chk AV true
                      (T.chk true
                        (T.chk true
                          (T.chk true
                            (T.chk true
                              (T.chk true
                                (T.chk true
                                  (T.chk true
                                    (T.chk true
                                      (@T.chk AV true
                                        (T.chk true
                                          (T.chk true
                                            (T.chk true
                                              (T.chk true
                                                (T.chk true
                                                  (T.chk true
                                                    (T.chk true
                                                      (T.chk true
                                                        (@T.chk AV true
                                                          (T.chk true
                                                            (T.chk true
                                                              (T.chk true
                                                                (T.chk true
                                                                  (T.chk true
                                                                    (T.chk true
                                                                      (T.chk true
                                                                        (T.chk true
                                                                          (@T.chk AV true
                                                                            (T.chk true
                                                                              (T.chk true
                                                                                (T.chk true
                                                                                  (T.chk true
                                                                                    (T.chk true
                                                                                      (T.chk true
                                                                                        (T.chk true
                                                                                          (T.chk true
                                                                                            (@T.chk AV true
                                                                                              (T.chk true
                                                                                                (T.chk true
                                                                                                  (T.chk true
                                                                                                    (T.chk true
                                                                                                      (T.chk true
                                                                                                        (T.chk true
                                                                                                          (T.chk true
                                                                                                            (T.chk true
                                                                                                              (@T.chk AV true
                                                                                                                (T.chk true
                                                                                                                  (T.chk true
                                                                                                                    (T.chk true
                                                                                                                      (T.chk true
                                                                                                                        (T.chk true
                                                                                                                          (T.chk true
                                                                                                                            (T.chk true
                                                                                                                              (T.chk true
                                                                                                                                (@T.chk AV true
                                                                                                                                  (T.chk true
                                                                                                                                    (T.chk true
                                                                                                                                      (T.chk true
                                                                                                                                        (T.chk true
                                                                                                                                          (T.chk true
                                                                                                                                            (T.chk true
                                                                                                                                              (T.chk true
                                                                                                                                                (T.chk true
                                                                                                                                                  (@T.chk AV true
                                                                                                                                                    (T.chk true (T.chk true (T.chk true (T.chk true (T.chk true (T.chk true (T.chk true (T.chk true (@T.chk AV true (@T.chk AV true (@T.chk AV true (T.ret (AV.bool true))))))))))))))))))))))))))))))))))))))))))))))))))))))))))))))))))))))))))))))))))))) := by
  kernel_rfl

theorem wk_ok : SummOK Tryd.prog 8 (.pure yesS) := by
  refine yes_ok EnvOK.nil wkL_ok (fun args w => Tryd.call8 args w) Tryd.func8 rfl (by kernel_rfl) (T.cut_eq wk_fn ?_)
  repeat' first | with_reducible refine T.hneed rfl ?_ | with_reducible refine T.hchk rfl ?_ | with_reducible refine T.hall (fun _ => ?_) | with_reducible refine T.hasm (fun _ => ?_) | with_reducible refine T.hite (fun _ => ?_) (fun _ => ?_) | with_reducible refine T.hchk ?_ ?_
  all_goals first | rfl | (simp; done) | (simp at *; omega) | (simp at *; (repeat' split) <;> omega)

end Go.Proofs.YtglokmbhpmamcaaDoor
