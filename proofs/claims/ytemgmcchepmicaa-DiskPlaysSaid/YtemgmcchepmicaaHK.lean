/-
  Layer 15: known, Known: run out.
-/
import Derived.Test.YtemgmcchepmicaaProg
import Derived.Test.YtemgmcchepmicaaHOxY
namespace Go.Proofs.Ytemgmcchepmicaa
open Go.Ox
set_option maxRecDepth 100000
set_option maxHeartbeats 4000000
set_option linter.unusedVariables false
set_option linter.unusedSimpArgs false

noncomputable def knL : List (Nat × Func) := [(25, Try.f25), (23, Try.f23), (19, Try.f19), (26, Try.f26), (16, Try.f16), (30, Try.f30), (12, Try.f12), (28, Try.f28), (8, Try.f8)]

theorem knL_ok : InlOK Try.prog knL := ⟨⟨fun args w => Try.call25 args w, Try.func25, rfl, by kernel_rfl⟩, ⟨fun args w => Try.call23 args w, Try.func23, rfl, by kernel_rfl⟩, ⟨fun args w => Try.call19 args w, Try.func19, rfl, by kernel_rfl⟩, ⟨fun args w => Try.call26 args w, Try.func26, rfl, by kernel_rfl⟩, ⟨fun args w => Try.call16 args w, Try.func16, rfl, by kernel_rfl⟩, ⟨fun args w => Try.call30 args w, Try.func30, rfl, by kernel_rfl⟩, ⟨fun args w => Try.call12 args w, Try.func12, rfl, by kernel_rfl⟩, ⟨fun args w => Try.call28 args w, Try.func28, rfl, by kernel_rfl⟩, ⟨fun args w => Try.call8 args w, Try.func8, rfl, by kernel_rfl⟩, trivial⟩

theorem kn_fn : T.cut (vfn Try.prog (inlE Try.prog [] knL Try.f10 0) Try.f10 (codeOf Try.f10) []) [0, 0, 0, 1, 0, 1, 0, 0, 0, 0, 1, 1, 1, 0, 1, 0, 0, 1, 1, 0, 1, 0, 0, 0, 1, 0, 1, 0, 1, 0, 1, 0, 0, 1, 0, 1, 1, 1] = 
  @T.chk AV true
    (@T.chk AV true
      (@T.chk AV true
        (@T.chk AV true
          (@T.chk AV true
            (@T.chk AV true
              (@T.chk AV true
                (T.chk true
                  (@T.chk AV true
                    (T.chk true
                      (T.chk true
                        (@T.chk AV true
                          (T.chk true
                            (T.all fun c =>
                              T.asm (decide ((3 : Nat) ≤ c))
                                (T.need (AV.ptr (0 : Nat) (0 : Nat) (0 : Nat) (0 : Nat) = AV.ptr (0 : Nat) (0 : Nat) (0 : Nat) (0 : Nat))
                                  (T.need (AV.ptr (0 : Nat) (0 : Nat) (0 : Nat) (0 : Nat) = AV.ptr (0 : Nat) (0 : Nat) (0 : Nat) (0 : Nat))
                                    (T.chk true
                                      (T.need (AV.ptr (0 : Nat) (0 : Nat) (0 : Nat) (0 : Nat) = AV.ptr (0 : Nat) (0 : Nat) (0 : Nat) (0 : Nat))
                                        (@T.chk AV true
                                          (@T.chk AV true
                                            (@T.chk AV true
                                              (T.chk true
                                                (T.chk true
                                                  (@T.chk AV true
                                                    (@T.chk AV true
                                                      (@T.chk AV true
                                                        (@T.chk AV true
                                                          (T.chk true
                                                            (@T.chk AV true
                                                              (T.chk true
                                                                (T.chk true
                                                                  (T.chk (decide ((0 : Nat) + c ≤ c))
                                                                    (T.chk (decide ((3 : Nat) ≤ c))
                                                                      (T.chk true
                                                                        (T.all fun c_1 =>
                                                                          T.all fun c_2 =>
                                                                            T.asm (decide ((5 : Nat) ≤ c_1 ∧ (c_2 = (0 : Nat) ∨ c_1 = c)))
                                                                              (T.need (AV.ptr (0 : Nat) (0 : Nat) (0 : Nat) (0 : Nat) = AV.ptr (0 : Nat) (0 : Nat) (0 : Nat) (0 : Nat))
                                                                                (T.need (AV.ptr (0 : Nat) (0 : Nat) (0 : Nat) (0 : Nat) = AV.ptr (0 : Nat) (0 : Nat) (0 : Nat) (0 : Nat))
                                                                                  (T.chk true
                                                                                    (T.need (AV.ptr (0 : Nat) (0 : Nat) (0 : Nat) (0 : Nat) = AV.ptr (0 : Nat) (0 : Nat) (0 : Nat) (0 : Nat))
                                                                                      (@T.chk AV true
                                                                                        (T.chk true
                                                                                          (T.chk
                                                                                            (decide
                                                                                                ((0 : Int) ≤
                                                                                                  if
                                                                                                      (↑(5 : Nat) : Int) <
                                                                                                        IntKind.wrap IntKind.i64
                                                                                                          ((↑(3 : Nat) : Int) + if IntKind.wrap IntKind.i64 ((↑(5 : Nat) : Int) - (↑(3 : Nat) : Int)) < if (0 : Int) > (1 : Int) then (0 : Int) else (1 : Int) then IntKind.wrap IntKind.i64 ((↑(5 : Nat) : Int) - (↑(3 : Nat) : Int)) else if (0 : Int) > (1 : Int) then (0 : Int) else (1 : Int)) then
                                                                                                    (↑(5 : Nat) : Int)
                                                                                                  else
                                                                                                    IntKind.wrap IntKind.i64
                                                                                                      ((↑(3 : Nat) : Int) + if IntKind.wrap IntKind.i64 ((↑(5 : Nat) : Int) - (↑(3 : Nat) : Int)) < if (0 : Int) > (1 : Int) then (0 : Int) else (1 : Int) then IntKind.wrap IntKind.i64 ((↑(5 : Nat) : Int) - (↑(3 : Nat) : Int)) else if (0 : Int) > (1 : Int) then (0 : Int) else (1 : Int))) &&
                                                                                              decide
                                                                                                ((if
                                                                                                      (↑(5 : Nat) : Int) <
                                                                                                        IntKind.wrap IntKind.i64
                                                                                                          ((↑(3 : Nat) : Int) + if IntKind.wrap IntKind.i64 ((↑(5 : Nat) : Int) - (↑(3 : Nat) : Int)) < if (0 : Int) > (1 : Int) then (0 : Int) else (1 : Int) then IntKind.wrap IntKind.i64 ((↑(5 : Nat) : Int) - (↑(3 : Nat) : Int)) else if (0 : Int) > (1 : Int) then (0 : Int) else (1 : Int)) then
                                                                                                    (↑(5 : Nat) : Int)
                                                                                                  else
                                                                                                    IntKind.wrap IntKind.i64
                                                                                                      ((↑(3 : Nat) : Int) + if IntKind.wrap IntKind.i64 ((↑(5 : Nat) : Int) - (↑(3 : Nat) : Int)) < if (0 : Int) > (1 : Int) then (0 : Int) else (1 : Int) then IntKind.wrap IntKind.i64 ((↑(5 : Nat) : Int) - (↑(3 : Nat) : Int)) else if (0 : Int) > (1 : Int) then (0 : Int) else (1 : Int))) ≤
                                                                                                  (↑c_1 : Int)))
                                                                                            (@T.chk AV true
                                                                                              (T.chk true
                                                                                                (T.chk true
                                                                                                  (@T.chk AV true
                                                                                                    (@T.chk AV true
                                                                                                      (@T.chk AV true
                                                                                                        (T.chk true
                                                                                                          (T.chk (decide ((4 : Nat) ≤ c_1))
                                                                                                            (@T.chk AV true
                                                                                                              (T.chk true
                                                                                                                (T.all fun c =>
                                                                                                                  T.asm (decide ((4 : Nat) ≤ c))
                                                                                                                    (@T.chk AV true
                                                                                                                      (@T.chk AV true
                                                                                                                        (T.chk true
                                                                                                                          (T.chk (decide ((0 : Nat) < c))
                                                                                                                            (T.chk true
                                                                                                                              (T.chk true
                                                                                                                                (@T.chk AV true
                                                                                                                                  (@T.chk AV true
                                                                                                                                    (T.chk true
                                                                                                                                      (T.chk (decide ((1 : Nat) < c))
                                                                                                                                        (T.chk true
                                                                                                                                          (T.chk true
                                                                                                                                            (@T.chk AV true
                                                                                                                                              (@T.chk AV true
                                                                                                                                                (T.chk true
                                                                                                                                                  (T.chk (decide ((2 : Nat) < c))
                                                                                                                                                    (T.chk true
                                                                                                                                                      (T.chk true
                                                                                                                                                        (@T.chk AV true
                                                                                                                                                          (@T.chk AV true
                                                                                                                                                            (T.chk true
                                                                                                                                                              (T.chk (decide ((3 : Nat) < c))
                                                                                                                                                                (T.chk true
                                                                                                                                                                  (T.chk true
                                                                                                                                                                    (@T.chk AV true (@T.chk AV true (@T.chk AV true (@T.chk AV true (T.chk true (@T.chk AV true (@T.chk AV true (@T.chk AV true (T.ret (AV.bool true)))))))))))))))))))))))))))))))))))))))))))))))))))))))))))))))))))))))))))))))))))))) := by
  kernel_rfl

theorem kn_ok : SummOK Try.prog 10 (.pure yesS) := by
  refine yes_ok EnvOK.nil knL_ok (fun args w => Try.call10 args w) Try.func10 rfl (by kernel_rfl) (T.cut_eq kn_fn ?_)
  repeat' first | with_reducible refine T.hneed rfl ?_ | with_reducible refine T.hchk rfl ?_ | with_reducible refine T.hall (fun _ => ?_) | with_reducible refine T.half (fun _ => ?_) | with_reducible refine T.hasm (fun _ => ?_) | with_reducible refine T.hite (fun _ => ?_) (fun _ => ?_) | with_reducible refine T.hchk ?_ ?_
  all_goals first | rfl | (simp; done) | (simp at *; omega) | (simp at *; (repeat' split) <;> omega) | (simp at *; simp only [IntKind.wrap_i64] at *; omega) | (simp only [IntKind.wrap_i64] at *; (repeat' split at *) <;> omega)

noncomputable def knB : List (Nat × Summ) := [(10, .pure yesS)]

theorem knB_ok : EnvOK Try.prog knB := EnvOK.cons kn_ok EnvOK.nil

noncomputable def dkL : List (Nat × Func) := [(14, Try.f14), (25, Try.f25), (23, Try.f23), (19, Try.f19), (26, Try.f26), (16, Try.f16), (30, Try.f30), (12, Try.f12), (28, Try.f28), (8, Try.f8)]

theorem dkL_ok : InlOK Try.prog dkL := ⟨⟨fun args w => Try.call14 args w, Try.func14, rfl, by kernel_rfl⟩, ⟨fun args w => Try.call25 args w, Try.func25, rfl, by kernel_rfl⟩, ⟨fun args w => Try.call23 args w, Try.func23, rfl, by kernel_rfl⟩, ⟨fun args w => Try.call19 args w, Try.func19, rfl, by kernel_rfl⟩, ⟨fun args w => Try.call26 args w, Try.func26, rfl, by kernel_rfl⟩, ⟨fun args w => Try.call16 args w, Try.func16, rfl, by kernel_rfl⟩, ⟨fun args w => Try.call30 args w, Try.func30, rfl, by kernel_rfl⟩, ⟨fun args w => Try.call12 args w, Try.func12, rfl, by kernel_rfl⟩, ⟨fun args w => Try.call28 args w, Try.func28, rfl, by kernel_rfl⟩, ⟨fun args w => Try.call8 args w, Try.func8, rfl, by kernel_rfl⟩, trivial⟩

theorem dk_fn : T.cut (vfn Try.prog (inlE Try.prog knB dkL Try.f6 0) Try.f6 (codeOf Try.f6) []) [1, 1, 0, 0, 0, 1, 0, 1, 1, 0, 0, 0, 1, 0, 1, 1, 0, 0, 0, 1, 0, 1, 0, 0, 1, 0, 0, 1, 0, 0, 0, 0, 0, 0, 1, 0, 1, 0, 0, 0, 1, 0, 1, 0, 1, 0, 0, 0, 1, 0, 0, 0, 0, 0, 1, 0, 1, 0, 1, 0, 1, 0, 1, 0, 0, 0, 0, 1, 0, 1, 0, 1, 0, 1, 0, 0, 0, 0, 1, 0, 1, 0, 1, 1, 0, 1, 0, 1, 0, 1, 1, 0, 1, 1, 0, 1, 0, 1, 0, 0, 0, 1, 1, 1, 1, 0, 1, 0, 1, 0, 0, 1, 1, 0, 1, 0, 0, 0, 1, 0, 1, 0, 1, 0, 0] = 
  @T.chk AV true (T.chk true (T.chk true (@T.chk AV true (T.chk true (T.chk true (@T.chk AV true (T.chk true (T.chk true (@T.chk AV true (@T.chk AV true (@T.chk AV true (@T.chk AV true (@T.chk AV true (T.chk true (T.chk true (@T.chk AV true (T.chk true (T.chk true (@T.chk AV true (T.chk true (T.chk true (@T.chk AV true (@T.chk AV true (@T.chk AV true (@T.chk AV true (@T.chk AV true (T.chk true (T.chk true (@T.chk AV true (T.chk true (T.chk true (@T.chk AV true (T.chk true (T.chk true (@T.chk AV true (@T.chk AV true (@T.chk AV true (@T.chk AV true (@T.chk AV true (T.chk true (T.chk true (@T.chk AV true (@T.chk AV true (T.chk true (T.chk true (@T.chk AV true (@T.chk AV true (@T.chk AV true (@T.chk AV true (T.chk true (T.chk true (@T.chk AV true (@T.chk AV true (T.chk true (T.chk true (@T.chk AV true (T.chk true (T.chk true (@T.chk AV true (@T.chk AV true (@T.chk AV true (@T.chk AV true (T.chk true (T.chk true (@T.chk AV true (@T.chk AV true (T.chk true (T.chk true (@T.chk AV true (T.chk true (T.chk true (@T.chk AV true (@T.chk AV true (@T.chk AV true (@T.chk AV true (@T.chk AV true (T.chk true (T.chk true (@T.chk AV true (@T.chk AV true (T.chk true (T.chk true (@T.chk AV true (T.chk true (T.chk true (@T.chk AV true (@T.chk AV true (@T.chk AV true (@T.chk AV true (@T.chk AV true (@T.chk AV true (@T.chk AV true (@T.chk AV true (T.chk true (@T.chk AV true (@T.chk AV true (@T.chk AV true (@T.chk AV true (T.chk true (@T.chk AV true (@T.chk AV true (T.chk true (@T.chk AV true (@T.chk AV true (@T.chk AV true (@T.chk AV true (T.chk true (@T.chk AV true (T.chk true (T.chk true (@T.chk AV true (T.chk true (T.all fun c => T.asm (decide ((64 : Nat) ≤ c)) (T.need (AV.ptr (3 : Nat) (0 : Nat) (0 : Nat) (0 : Nat) = AV.ptr (3 : Nat) (0 : Nat) (0 : Nat) (0 : Nat)) (T.need (AV.ptr (3 : Nat) (0 : Nat) (0 : Nat) (0 : Nat) = AV.ptr (3 : Nat) (0 : Nat) (0 : Nat) (0 : Nat)) (T.chk true (T.need (AV.ptr (3 : Nat) (0 : Nat) (0 : Nat) (0 : Nat) = AV.ptr (3 : Nat) (0 : Nat) (0 : Nat) (0 : Nat)) (@T.chk AV true (@T.chk AV true (@T.chk AV true (@T.chk AV true (@T.chk AV true (T.chk true (@T.chk AV true (@T.chk AV true (@T.chk AV true (@T.chk AV true (T.chk true (@T.chk AV true (@T.chk AV true (@T.chk AV true (@T.chk AV true (@T.chk AV true (@T.chk AV true (@T.chk AV true (@T.chk AV true (T.chk true (T.chk true (@T.chk AV true (T.chk true (T.chk true (@T.chk AV true (@T.chk AV true (@T.chk AV true (T.chk true (T.chk true (@T.chk AV true (@T.chk AV true (@T.chk AV true (@T.chk AV true (@T.chk AV true (@T.chk AV true (@T.chk AV true (@T.chk AV true (@T.chk AV true (@T.chk AV true (@T.chk AV true (@T.chk AV true (T.chk true (@T.chk AV true (T.chk true (T.chk true (@T.chk AV true (T.chk true (T.all fun c => T.asm (decide ((3 : Nat) ≤ c)) (T.need (AV.ptr (3 : Nat) (0 : Nat) (0 : Nat) (0 : Nat) = AV.ptr (3 : Nat) (0 : Nat) (0 : Nat) (0 : Nat)) (T.need (AV.ptr (3 : Nat) (0 : Nat) (0 : Nat) (0 : Nat) = AV.ptr (3 : Nat) (0 : Nat) (0 : Nat) (0 : Nat)) (T.chk true (T.need (AV.ptr (3 : Nat) (0 : Nat) (0 : Nat) (0 : Nat) = AV.ptr (3 : Nat) (0 : Nat) (0 : Nat) (0 : Nat)) (@T.chk AV true (@T.chk AV true (T.chk true (T.chk (decide ((0 : Int) ≤ if (↑(3 : Nat) : Int) < if (0 : Int) > (2 : Int) then (0 : Int) else (2 : Int) then (↑(3 : Nat) : Int) else if (0 : Int) > (2 : Int) then (0 : Int) else (2 : Int)) && decide ((if (↑(3 : Nat) : Int) < if (0 : Int) > (2 : Int) then (0 : Int) else (2 : Int) then (↑(3 : Nat) : Int) else if (0 : Int) > (2 : Int) then (0 : Int) else (2 : Int)) ≤ (↑c : Int))) (@T.chk AV true (T.chk true (T.chk (decide ((0 : Int) ≤ if (↑(2 : Nat) : Int) < IntKind.wrap IntKind.i64 ((↑(2 : Nat) : Int) + if IntKind.wrap IntKind.i64 ((↑(2 : Nat) : Int) - (↑(2 : Nat) : Int)) < if (0 : Int) > (9223372036854775807 : Int) then (0 : Int) else (9223372036854775807 : Int) then IntKind.wrap IntKind.i64 ((↑(2 : Nat) : Int) - (↑(2 : Nat) : Int)) else if (0 : Int) > (9223372036854775807 : Int) then (0 : Int) else (9223372036854775807 : Int)) then (↑(2 : Nat) : Int) else IntKind.wrap IntKind.i64 ((↑(2 : Nat) : Int) + if IntKind.wrap IntKind.i64 ((↑(2 : Nat) : Int) - (↑(2 : Nat) : Int)) < if (0 : Int) > (9223372036854775807 : Int) then (0 : Int) else (9223372036854775807 : Int) then IntKind.wrap IntKind.i64 ((↑(2 : Nat) : Int) - (↑(2 : Nat) : Int)) else if (0 : Int) > (9223372036854775807 : Int) then (0 : Int) else (9223372036854775807 : Int))) && decide ((if (↑(2 : Nat) : Int) < IntKind.wrap IntKind.i64 ((↑(2 : Nat) : Int) + if IntKind.wrap IntKind.i64 ((↑(2 : Nat) : Int) - (↑(2 : Nat) : Int)) < if (0 : Int) > (9223372036854775807 : Int) then (0 : Int) else (9223372036854775807 : Int) then IntKind.wrap IntKind.i64 ((↑(2 : Nat) : Int) - (↑(2 : Nat) : Int)) else if (0 : Int) > (9223372036854775807 : Int) then (0 : Int) else (9223372036854775807 : Int)) then (↑(2 : Nat) : Int) else IntKind.wrap IntKind.i64 ((↑(2 : Nat) : Int) + if IntKind.wrap IntKind.i64 ((↑(2 : Nat) : Int) - (↑(2 : Nat) : Int)) < if (0 : Int) > (9223372036854775807 : Int) then (0 : Int) else (9223372036854775807 : Int) then IntKind.wrap IntKind.i64 ((↑(2 : Nat) : Int) - (↑(2 : Nat) : Int)) else if (0 : Int) > (9223372036854775807 : Int) then (0 : Int) else (9223372036854775807 : Int))) ≤ (↑c : Int))) (@T.chk AV true (T.chk true (T.chk true (@T.chk AV true (@T.chk AV true (@T.chk AV true (@T.chk AV true (@T.chk AV true (T.chk true (@T.chk AV true (T.chk true (T.chk true (T.chk (decide ((0 : Nat) + c ≤ c)) (T.chk (decide ((2 : Nat) ≤ c)) (T.chk true (T.all fun c_1 => T.all fun c_2 => T.asm (decide ((3 : Nat) ≤ c_1 ∧ (c_2 = (0 : Nat) ∨ c_1 = c))) (T.need (AV.ptr (3 : Nat) (0 : Nat) (0 : Nat) (0 : Nat) = AV.ptr (3 : Nat) (0 : Nat) (0 : Nat) (0 : Nat)) (T.need (AV.ptr (3 : Nat) (0 : Nat) (0 : Nat) (0 : Nat) = AV.ptr (3 : Nat) (0 : Nat) (0 : Nat) (0 : Nat)) (T.chk true (T.need (AV.ptr (3 : Nat) (0 : Nat) (0 : Nat) (0 : Nat) = AV.ptr (3 : Nat) (0 : Nat) (0 : Nat) (0 : Nat)) (@T.chk AV true (T.chk true (T.chk (decide ((0 : Int) ≤ if (↑(3 : Nat) : Int) < IntKind.wrap IntKind.i64 ((↑(2 : Nat) : Int) + if IntKind.wrap IntKind.i64 ((↑(3 : Nat) : Int) - (↑(2 : Nat) : Int)) < if (0 : Int) > (9223372036854775807 : Int) then (0 : Int) else (9223372036854775807 : Int) then IntKind.wrap IntKind.i64 ((↑(3 : Nat) : Int) - (↑(2 : Nat) : Int)) else if (0 : Int) > (9223372036854775807 : Int) then (0 : Int) else (9223372036854775807 : Int)) then (↑(3 : Nat) : Int) else IntKind.wrap IntKind.i64 ((↑(2 : Nat) : Int) + if IntKind.wrap IntKind.i64 ((↑(3 : Nat) : Int) - (↑(2 : Nat) : Int)) < if (0 : Int) > (9223372036854775807 : Int) then (0 : Int) else (9223372036854775807 : Int) then IntKind.wrap IntKind.i64 ((↑(3 : Nat) : Int) - (↑(2 : Nat) : Int)) else if (0 : Int) > (9223372036854775807 : Int) then (0 : Int) else (9223372036854775807 : Int))) && decide ((if (↑(3 : Nat) : Int) < IntKind.wrap IntKind.i64 ((↑(2 : Nat) : Int) + if IntKind.wrap IntKind.i64 ((↑(3 : Nat) : Int) - (↑(2 : Nat) : Int)) < if (0 : Int) > (9223372036854775807 : Int) then (0 : Int) else (9223372036854775807 : Int) then IntKind.wrap IntKind.i64 ((↑(3 : Nat) : Int) - (↑(2 : Nat) : Int)) else if (0 : Int) > (9223372036854775807 : Int) then (0 : Int) else (9223372036854775807 : Int)) then (↑(3 : Nat) : Int) else IntKind.wrap IntKind.i64 ((↑(2 : Nat) : Int) + if IntKind.wrap IntKind.i64 ((↑(3 : Nat) : Int) - (↑(2 : Nat) : Int)) < if (0 : Int) > (9223372036854775807 : Int) then (0 : Int) else (9223372036854775807 : Int) then IntKind.wrap IntKind.i64 ((↑(3 : Nat) : Int) - (↑(2 : Nat) : Int)) else if (0 : Int) > (9223372036854775807 : Int) then (0 : Int) else (9223372036854775807 : Int))) ≤ (↑c_1 : Int))) (@T.chk AV true (T.chk true (T.chk true (@T.chk AV true (@T.chk AV true (@T.chk AV true (T.chk true (T.chk (decide ((3 : Nat) ≤ c_1)) (@T.chk AV true (T.chk true (T.all fun c => T.asm (decide ((3 : Nat) ≤ c)) (@T.chk AV true (@T.chk AV true (T.chk true (T.chk (decide ((0 : Nat) < c)) (T.chk true (T.chk true (@T.chk AV true (@T.chk AV true (T.chk true (T.chk (decide ((1 : Nat) < c)) (T.chk true (T.chk true (@T.chk AV true (@T.chk AV true (T.chk true (T.chk (decide ((2 : Nat) < c)) (T.chk true (T.chk true (@T.chk AV true (@T.chk AV true (T.ret (AV.bool true)))))))))))))))))))))))))))))))))))))))))))))))))))))))))))))))))))))))))))))))))))))))))))))))))))))))))))))))))))))))))))))))))))))))))))))))))))))))))))))))))))))))))))))))))))))))))))))))))))))))))))))))))))))))))))))))))))))))) := by
  kernel_rfl

theorem dk_law : ∀ args m, ArgsAV [] [] args m → Walks Try.prog Try.f6 (codeOf Try.f6) args m := by
  intro args m h
  obtain ⟨rfl, rfl⟩ := args_nil h
  refine closed_walks knB_ok dkL_ok (by kernel_rfl) (T.cut_eq dk_fn ?_)
  repeat' first | with_reducible refine T.hneed rfl ?_ | with_reducible refine T.hchk rfl ?_ | with_reducible refine T.hall (fun _ => ?_) | with_reducible refine T.half (fun _ => ?_) | with_reducible refine T.hasm (fun _ => ?_) | with_reducible refine T.hite (fun _ => ?_) (fun _ => ?_) | with_reducible refine T.hchk ?_ ?_
  all_goals first | rfl | (simp; done) | (simp at *; omega) | (simp at *; (repeat' split) <;> omega) | (simp at *; simp only [IntKind.wrap_i64] at *; omega) | (simp only [IntKind.wrap_i64] at *; (repeat' split at *) <;> omega)

end Go.Proofs.Ytemgmcchepmicaa
