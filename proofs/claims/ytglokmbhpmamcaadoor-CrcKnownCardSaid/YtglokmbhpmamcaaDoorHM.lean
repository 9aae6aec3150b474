/-
  Layer 2: Sums.
-/
import Derived.Test.YtglokmbhpmamcaaDoorHL
namespace Go.Proofs.YtglokmbhpmamcaaDoor
open Go.Ox
set_option maxRecDepth 100000
set_option maxHeartbeats 4000000
set_option linter.unusedVariables false
set_option linter.unusedSimpArgs false

noncomputable def lwB : List (Nat × Summ) := [(22, .pure sameBS), (12, .pure moreS), (13, .pure refS), (9, .eff lentS), (18, .eff copyBS), (8, .pure yesS), (15, .pure fun args _ => pickOS args)]

theorem lwB_ok : EnvOK Tryd.prog lwB := EnvOK.cons sameB_ok (EnvOK.cons more_ok (EnvOK.cons ref_ok (EnvOK.cons lent_ok (EnvOK.cons copyB_ok (EnvOK.cons wk_ok (EnvOK.cons pickO_ok EnvOK.nil))))))

noncomputable def lwL : List (Nat × Func) := [(14, Tryd.f14), (19, Tryd.f19), (10, Tryd.f10), (11, Tryd.f11)]

theorem lwL_ok : InlOK Tryd.prog lwL := ⟨⟨fun args w => Tryd.call14 args w, Tryd.func14, rfl, by kernel_rfl⟩, ⟨fun args w => Tryd.call19 args w, Tryd.func19, rfl, by kernel_rfl⟩, ⟨fun args w => Tryd.call10 args w, Tryd.func10, rfl, by kernel_rfl⟩, ⟨fun args w => Tryd.call11 args w, Tryd.func11, rfl, by kernel_rfl⟩, trivial⟩

theorem su_fn (s : Int) (n : Nat) (f : Nat → Int) (len cap : Nat) : T.cut ((afn Tryd.prog (inlE Tryd.prog lwB lwL Tryd.f3 1) Tryd.f3 (codeOf Tryd.f3) [.int .u32 s, .sl 0 0 1 0 len cap] [some (cbV n f)]).bind fun r => .ret r.1) [2, 0, 2, 22, 2, 20, 2, 0, 2, 0, 1, 2, 0, 1, 2, 0, 1, 2, 0, 1, 2, 0, 1, 2, 0, 0] = 
  T.ite (decide ((↑len : Int) > (4096 : Int))) (T.ret (AV.bool true))
    (T.need (IntRow IntKind.u8 (Blk.mk false [] (1 : Nat) n (fun j => [AV.int IntKind.u8 (f j)]) []))
      (T.chk (decide ((0 : Nat) + len ≤ n))
        (T.chk (decide (len ≤ (4294960000 : Nat)))
          (T.all fun c =>
            T.asm (decide (len + (5 : Nat) ≤ c))
              (T.chk (decide ((0 : Int) ≤ (↑len : Int)) && decide ((↑len : Int) ≤ (↑c : Int)))
                (T.need (IntRow IntKind.u8 (Blk.mk true [] (1 : Nat) c (fun j => [AV.int IntKind.u8 (ltF (fun d => f ((0 : Nat) + d)) len j)]) []))
                  (T.chk (decide ((0 : Nat) + Int.toNat (↑len : Int) ≤ c))
                    (T.chk (decide (Int.toNat (↑len : Int) ≤ (4611686018427387904 : Nat)))
                      (T.chk true
                        (T.need (IntRow IntKind.u8 (Blk.mk false [] (1 : Nat) n (fun j => [AV.int IntKind.u8 (f j)]) []))
                          (T.chk (decide ((0 : Nat) + len ≤ n))
                            (T.chk (decide (len ≤ (4611686018427387904 : Nat)))
                              (T.chk true
                                (T.need
                                  (∀ (d : Nat),
                                    d < IntsArg.len (IntsArg.mk (IntRow IntKind.u8 (cbV n f)) (decide ((0 : Nat) + len ≤ Blk.n (cbV n f))) len fun i => intAt (cbV n f) ((0 : Nat) + i)) →
                                      (0 : Int) ≤ IntsArg.at_ (IntsArg.mk (IntRow IntKind.u8 (cbV n f)) (decide ((0 : Nat) + len ≤ Blk.n (cbV n f))) len fun i => intAt (cbV n f) ((0 : Nat) + i)) d ∧ IntsArg.at_ (IntsArg.mk (IntRow IntKind.u8 (cbV n f)) (decide ((0 : Nat) + len ≤ Blk.n (cbV n f))) len fun i => intAt (cbV n f) ((0 : Nat) + i)) d < (256 : Int))
                                  (T.ite (moreI (0 : Int) (fun i => ltF (fun d => f ((0 : Nat) + d)) len ((0 : Nat) + i)) (Int.toNat (↑len : Int)) == moreI (0 : Int) (fun i => f ((0 : Nat) + i)) len)
                                    (T.chk (decide ((0 : Int) ≤ (↑len : Int)) && decide ((↑len : Int) ≤ (↑c : Int)))
                                      (T.need (IntRow IntKind.u8 (Blk.mk true [] (1 : Nat) c (fun j => [AV.int IntKind.u8 (ltF (fun d => f ((0 : Nat) + d)) len j)]) []))
                                        (T.chk (decide ((0 : Nat) + Int.toNat (↑len : Int) ≤ c))
                                          (T.chk (decide (Int.toNat (↑len : Int) ≤ (4611686018427387904 : Nat)))
                                            (T.chk (decide ((0 : Int) ≤ s) && decide (s < (4294967296 : Int)))
                                              (T.need (IntRow IntKind.u8 (Blk.mk false [] (1 : Nat) n (fun j => [AV.int IntKind.u8 (f j)]) []))
                                                (T.chk (decide ((0 : Nat) + len ≤ n))
                                                  (T.chk (decide (len ≤ (4611686018427387904 : Nat)))
                                                    (T.chk (decide ((0 : Int) ≤ s) && decide (s < (4294967296 : Int)))
                                                      (T.need
                                                        (∀ (d : Nat),
                                                          d < IntsArg.len (IntsArg.mk (IntRow IntKind.u8 (cbV n f)) (decide ((0 : Nat) + len ≤ Blk.n (cbV n f))) len fun i => intAt (cbV n f) ((0 : Nat) + i)) →
                                                            (0 : Int) ≤ IntsArg.at_ (IntsArg.mk (IntRow IntKind.u8 (cbV n f)) (decide ((0 : Nat) + len ≤ Blk.n (cbV n f))) len fun i => intAt (cbV n f) ((0 : Nat) + i)) d ∧ IntsArg.at_ (IntsArg.mk (IntRow IntKind.u8 (cbV n f)) (decide ((0 : Nat) + len ≤ Blk.n (cbV n f))) len fun i => intAt (cbV n f) ((0 : Nat) + i)) d < (256 : Int))
                                                        (T.ite (moreI s (fun i => ltF (fun d => f ((0 : Nat) + d)) len ((0 : Nat) + i)) (Int.toNat (↑len : Int)) == moreI s (fun i => f ((0 : Nat) + i)) len)
                                                          (T.ite ((↑(len + (5 : Nat)) : Int) != IntKind.wrap IntKind.i64 ((↑len : Int) + (5 : Int))) (T.ret AV.ff)
                                                            (T.chk (decide ((0 : Int) ≤ (↑len : Int)) && decide ((↑len : Int) ≤ (↑c : Int)))
                                                              (T.need (IntRow IntKind.u8 (Blk.mk true [] (1 : Nat) c (fun j => [AV.int IntKind.u8 (ltF (fun d => f ((0 : Nat) + d)) len j)]) []))
                                                                (T.need (IntRow IntKind.u8 (Blk.mk false [] (1 : Nat) n (fun j => [AV.int IntKind.u8 (f j)]) []))
                                                                  (T.chk (decide ((0 : Nat) + Int.toNat (↑len : Int) ≤ c))
                                                                    (T.chk (decide ((0 : Nat) + len ≤ n))
                                                                      (T.chk (decide (Int.toNat (↑len : Int) ≤ (4611686018427387904 : Nat)))
                                                                        (T.ite (!(decide (Int.toNat (↑len : Int) = len) && eqN (fun i => ltF (fun d => f ((0 : Nat) + d)) len ((0 : Nat) + i)) (fun i => f ((0 : Nat) + i)) (0 : Nat) (Int.toNat (↑len : Int)))) (T.ret AV.ff)
                                                                          (@T.chk AV true
                                                                            (T.chk (decide ((0 : Int) ≤ IntKind.wrap IntKind.i64 ((↑len : Int) + (0 : Int))) && decide (IntKind.wrap IntKind.i64 ((↑len : Int) + (0 : Int)) < (↑(len + (5 : Nat)) : Int)))
                                                                              (T.chk (decide ((0 : Nat) + Int.toNat (IntKind.wrap IntKind.i64 ((↑len : Int) + (0 : Int))) < c))
                                                                                (T.chk (decide ((0 : Nat) + Int.toNat (IntKind.wrap IntKind.i64 ((↑len : Int) + (0 : Int))) < c))
                                                                                  (T.need (AV.int IntKind.u8 (ltF (fun d => f ((0 : Nat) + d)) len ((0 : Nat) + Int.toNat (IntKind.wrap IntKind.i64 ((↑len : Int) + (0 : Int))))) = AV.int IntKind.u8 (ltF (fun d => f ((0 : Nat) + d)) len ((0 : Nat) + Int.toNat (IntKind.wrap IntKind.i64 ((↑len : Int) + (0 : Int))))))
                                                                                    (T.need (AV.int IntKind.i64 (↑len : Int) = AV.int IntKind.i64 (↑len : Int))
                                                                                      (T.ite (ltF (fun d => f ((0 : Nat) + d)) len ((0 : Nat) + Int.toNat (IntKind.wrap IntKind.i64 ((↑len : Int) + (0 : Int)))) != IntKind.wrap IntKind.u8 (IntKind.wrap IntKind.i64 ((201 : Int) + IntKind.wrap IntKind.i64 ((7 : Int) * (0 : Int))))) (T.ret AV.ff)
                                                                                        (@T.chk AV true
                                                                                          (T.chk (decide ((0 : Int) ≤ IntKind.wrap IntKind.i64 ((↑len : Int) + IntKind.wrap IntKind.i64 ((0 : Int) + (1 : Int)))) && decide (IntKind.wrap IntKind.i64 ((↑len : Int) + IntKind.wrap IntKind.i64 ((0 : Int) + (1 : Int))) < (↑(len + (5 : Nat)) : Int)))
                                                                                            (T.chk (decide ((0 : Nat) + Int.toNat (IntKind.wrap IntKind.i64 ((↑len : Int) + IntKind.wrap IntKind.i64 ((0 : Int) + (1 : Int)))) < c))
                                                                                              (T.chk (decide ((0 : Nat) + Int.toNat (IntKind.wrap IntKind.i64 ((↑len : Int) + IntKind.wrap IntKind.i64 ((0 : Int) + (1 : Int)))) < c))
                                                                                                (T.need
                                                                                                  (AV.int IntKind.u8 (ltF (fun d => f ((0 : Nat) + d)) len ((0 : Nat) + Int.toNat (IntKind.wrap IntKind.i64 ((↑len : Int) + IntKind.wrap IntKind.i64 ((0 : Int) + (1 : Int)))))) =
                                                                                                    AV.int IntKind.u8 (ltF (fun d => f ((0 : Nat) + d)) len ((0 : Nat) + Int.toNat (IntKind.wrap IntKind.i64 ((↑len : Int) + IntKind.wrap IntKind.i64 ((0 : Int) + (1 : Int)))))))
                                                                                                  (T.need (AV.int IntKind.i64 (↑len : Int) = AV.int IntKind.i64 (↑len : Int))
                                                                                                    (T.ite
                                                                                                      (ltF (fun d => f ((0 : Nat) + d)) len ((0 : Nat) + Int.toNat (IntKind.wrap IntKind.i64 ((↑len : Int) + IntKind.wrap IntKind.i64 ((0 : Int) + (1 : Int))))) !=
                                                                                                        IntKind.wrap IntKind.u8 (IntKind.wrap IntKind.i64 ((201 : Int) + IntKind.wrap IntKind.i64 ((7 : Int) * IntKind.wrap IntKind.i64 ((0 : Int) + (1 : Int))))))
                                                                                                      (T.ret AV.ff)
                                                                                                      (@T.chk AV true
                                                                                                        (T.chk
                                                                                                          (decide ((0 : Int) ≤ IntKind.wrap IntKind.i64 ((↑len : Int) + IntKind.wrap IntKind.i64 (IntKind.wrap IntKind.i64 ((0 : Int) + (1 : Int)) + (1 : Int)))) &&
                                                                                                            decide (IntKind.wrap IntKind.i64 ((↑len : Int) + IntKind.wrap IntKind.i64 (IntKind.wrap IntKind.i64 ((0 : Int) + (1 : Int)) + (1 : Int))) < (↑(len + (5 : Nat)) : Int)))
                                                                                                          (T.chk (decide ((0 : Nat) + Int.toNat (IntKind.wrap IntKind.i64 ((↑len : Int) + IntKind.wrap IntKind.i64 (IntKind.wrap IntKind.i64 ((0 : Int) + (1 : Int)) + (1 : Int)))) < c))
                                                                                                            (T.chk (decide ((0 : Nat) + Int.toNat (IntKind.wrap IntKind.i64 ((↑len : Int) + IntKind.wrap IntKind.i64 (IntKind.wrap IntKind.i64 ((0 : Int) + (1 : Int)) + (1 : Int)))) < c))
                                                                                                              (T.need
                                                                                                                (AV.int IntKind.u8 (ltF (fun d => f ((0 : Nat) + d)) len ((0 : Nat) + Int.toNat (IntKind.wrap IntKind.i64 ((↑len : Int) + IntKind.wrap IntKind.i64 (IntKind.wrap IntKind.i64 ((0 : Int) + (1 : Int)) + (1 : Int)))))) =
                                                                                                                  AV.int IntKind.u8 (ltF (fun d => f ((0 : Nat) + d)) len ((0 : Nat) + Int.toNat (IntKind.wrap IntKind.i64 ((↑len : Int) + IntKind.wrap IntKind.i64 (IntKind.wrap IntKind.i64 ((0 : Int) + (1 : Int)) + (1 : Int)))))))
                                                                                                                (T.need (AV.int IntKind.i64 (↑len : Int) = AV.int IntKind.i64 (↑len : Int))
                                                                                                                  (T.ite
                                                                                                                    (ltF (fun d => f ((0 : Nat) + d)) len ((0 : Nat) + Int.toNat (IntKind.wrap IntKind.i64 ((↑len : Int) + IntKind.wrap IntKind.i64 (IntKind.wrap IntKind.i64 ((0 : Int) + (1 : Int)) + (1 : Int))))) !=
                                                                                                                      IntKind.wrap IntKind.u8 (IntKind.wrap IntKind.i64 ((201 : Int) + IntKind.wrap IntKind.i64 ((7 : Int) * IntKind.wrap IntKind.i64 (IntKind.wrap IntKind.i64 ((0 : Int) + (1 : Int)) + (1 : Int))))))
                                                                                                                    (T.ret AV.ff)
                                                                                                                    (@T.chk AV true
                                                                                                                      (T.chk
                                                                                                                        (decide ((0 : Int) ≤ IntKind.wrap IntKind.i64 ((↑len : Int) + IntKind.wrap IntKind.i64 (IntKind.wrap IntKind.i64 (IntKind.wrap IntKind.i64 ((0 : Int) + (1 : Int)) + (1 : Int)) + (1 : Int)))) &&
                                                                                                                          decide (IntKind.wrap IntKind.i64 ((↑len : Int) + IntKind.wrap IntKind.i64 (IntKind.wrap IntKind.i64 (IntKind.wrap IntKind.i64 ((0 : Int) + (1 : Int)) + (1 : Int)) + (1 : Int))) < (↑(len + (5 : Nat)) : Int)))
                                                                                                                        (T.chk (decide ((0 : Nat) + Int.toNat (IntKind.wrap IntKind.i64 ((↑len : Int) + IntKind.wrap IntKind.i64 (IntKind.wrap IntKind.i64 (IntKind.wrap IntKind.i64 ((0 : Int) + (1 : Int)) + (1 : Int)) + (1 : Int)))) < c))
                                                                                                                          (T.chk (decide ((0 : Nat) + Int.toNat (IntKind.wrap IntKind.i64 ((↑len : Int) + IntKind.wrap IntKind.i64 (IntKind.wrap IntKind.i64 (IntKind.wrap IntKind.i64 ((0 : Int) + (1 : Int)) + (1 : Int)) + (1 : Int)))) < c))
                                                                                                                            (T.need
                                                                                                                              (AV.int IntKind.u8 (ltF (fun d => f ((0 : Nat) + d)) len ((0 : Nat) + Int.toNat (IntKind.wrap IntKind.i64 ((↑len : Int) + IntKind.wrap IntKind.i64 (IntKind.wrap IntKind.i64 (IntKind.wrap IntKind.i64 ((0 : Int) + (1 : Int)) + (1 : Int)) + (1 : Int)))))) =
                                                                                                                                AV.int IntKind.u8 (ltF (fun d => f ((0 : Nat) + d)) len ((0 : Nat) + Int.toNat (IntKind.wrap IntKind.i64 ((↑len : Int) + IntKind.wrap IntKind.i64 (IntKind.wrap IntKind.i64 (IntKind.wrap IntKind.i64 ((0 : Int) + (1 : Int)) + (1 : Int)) + (1 : Int)))))))
                                                                                                                              (T.need (AV.int IntKind.i64 (↑len : Int) = AV.int IntKind.i64 (↑len : Int))
                                                                                                                                (T.ite
                                                                                                                                  (ltF (fun d => f ((0 : Nat) + d)) len ((0 : Nat) + Int.toNat (IntKind.wrap IntKind.i64 ((↑len : Int) + IntKind.wrap IntKind.i64 (IntKind.wrap IntKind.i64 (IntKind.wrap IntKind.i64 ((0 : Int) + (1 : Int)) + (1 : Int)) + (1 : Int))))) !=
                                                                                                                                    IntKind.wrap IntKind.u8 (IntKind.wrap IntKind.i64 ((201 : Int) + IntKind.wrap IntKind.i64 ((7 : Int) * IntKind.wrap IntKind.i64 (IntKind.wrap IntKind.i64 (IntKind.wrap IntKind.i64 ((0 : Int) + (1 : Int)) + (1 : Int)) + (1 : Int))))))
                                                                                                                                  (T.ret AV.ff)
                                                                                                                                  (@T.chk AV true
                                                                                                                                    (T.chk
                                                                                                                                      (decide ((0 : Int) ≤ IntKind.wrap IntKind.i64 ((↑len : Int) + IntKind.wrap IntKind.i64 (IntKind.wrap IntKind.i64 (IntKind.wrap IntKind.i64 (IntKind.wrap IntKind.i64 ((0 : Int) + (1 : Int)) + (1 : Int)) + (1 : Int)) + (1 : Int)))) &&
                                                                                                                                        decide (IntKind.wrap IntKind.i64 ((↑len : Int) + IntKind.wrap IntKind.i64 (IntKind.wrap IntKind.i64 (IntKind.wrap IntKind.i64 (IntKind.wrap IntKind.i64 ((0 : Int) + (1 : Int)) + (1 : Int)) + (1 : Int)) + (1 : Int))) < (↑(len + (5 : Nat)) : Int)))
                                                                                                                                      (T.chk (decide ((0 : Nat) + Int.toNat (IntKind.wrap IntKind.i64 ((↑len : Int) + IntKind.wrap IntKind.i64 (IntKind.wrap IntKind.i64 (IntKind.wrap IntKind.i64 (IntKind.wrap IntKind.i64 ((0 : Int) + (1 : Int)) + (1 : Int)) + (1 : Int)) + (1 : Int)))) < c))
                                                                                                                                        (T.chk (decide ((0 : Nat) + Int.toNat (IntKind.wrap IntKind.i64 ((↑len : Int) + IntKind.wrap IntKind.i64 (IntKind.wrap IntKind.i64 (IntKind.wrap IntKind.i64 (IntKind.wrap IntKind.i64 ((0 : Int) + (1 : Int)) + (1 : Int)) + (1 : Int)) + (1 : Int)))) < c))
                                                                                                                                          (T.need
                                                                                                                                            (AV.int IntKind.u8
                                                                                                                                                (ltF (fun d => f ((0 : Nat) + d)) len
                                                                                                                                                  ((0 : Nat) + Int.toNat (IntKind.wrap IntKind.i64 ((↑len : Int) + IntKind.wrap IntKind.i64 (IntKind.wrap IntKind.i64 (IntKind.wrap IntKind.i64 (IntKind.wrap IntKind.i64 ((0 : Int) + (1 : Int)) + (1 : Int)) + (1 : Int)) + (1 : Int)))))) =
                                                                                                                                              AV.int IntKind.u8
                                                                                                                                                (ltF (fun d => f ((0 : Nat) + d)) len
                                                                                                                                                  ((0 : Nat) + Int.toNat (IntKind.wrap IntKind.i64 ((↑len : Int) + IntKind.wrap IntKind.i64 (IntKind.wrap IntKind.i64 (IntKind.wrap IntKind.i64 (IntKind.wrap IntKind.i64 ((0 : Int) + (1 : Int)) + (1 : Int)) + (1 : Int)) + (1 : Int)))))))
                                                                                                                                            (T.need (AV.int IntKind.i64 (↑len : Int) = AV.int IntKind.i64 (↑len : Int))
                                                                                                                                              (T.ite
                                                                                                                                                (ltF (fun d => f ((0 : Nat) + d)) len
                                                                                                                                                    ((0 : Nat) + Int.toNat (IntKind.wrap IntKind.i64 ((↑len : Int) + IntKind.wrap IntKind.i64 (IntKind.wrap IntKind.i64 (IntKind.wrap IntKind.i64 (IntKind.wrap IntKind.i64 ((0 : Int) + (1 : Int)) + (1 : Int)) + (1 : Int)) + (1 : Int))))) !=
                                                                                                                                                  IntKind.wrap IntKind.u8
                                                                                                                                                    (IntKind.wrap IntKind.i64 ((201 : Int) + IntKind.wrap IntKind.i64 ((7 : Int) * IntKind.wrap IntKind.i64 (IntKind.wrap IntKind.i64 (IntKind.wrap IntKind.i64 (IntKind.wrap IntKind.i64 ((0 : Int) + (1 : Int)) + (1 : Int)) + (1 : Int)) + (1 : Int))))))
                                                                                                                                                (T.ret AV.ff) (@T.chk AV true (T.ret (AV.bool true))))))))))))))))))))))))))))))))))))))))))))))
                                                          (T.ret AV.ff))))))))))))
                                    (T.ret AV.ff)))))))))))))))) := by
  kernel_rfl

theorem su_fn0 (s : Int) : T.cut ((afn Tryd.prog (inlE Tryd.prog lwB lwL Tryd.f3 0) Tryd.f3 (codeOf Tryd.f3) [.int .u32 s, .nils] []).bind fun r => .ret r.1) [0, 1, 2, 13, 0, 0, 1, 0, 1, 0, 1, 0, 1, 0, 1, 0, 0] = 
  @T.chk AV true
    (T.all fun c =>
      T.asm (decide ((5 : Nat) ≤ c))
        (T.chk true
          (T.need (IntRow IntKind.u8 (Blk.mk true [] (1 : Nat) c (fun j => [AV.int IntKind.u8 (ltF (fun x => (0 : Int)) (0 : Nat) j)]) []))
            (T.chk true
              (T.chk true
                (T.chk true
                  (T.need True
                    (T.chk true
                      (T.chk true
                        (T.chk true
                          (T.need (∀ (d : Nat), d < IntsArg.len (IntsArg.mk True true (0 : Nat) fun x => (0 : Int)) → (0 : Int) ≤ IntsArg.at_ (IntsArg.mk True true (0 : Nat) fun x => (0 : Int)) d ∧ IntsArg.at_ (IntsArg.mk True true (0 : Nat) fun x => (0 : Int)) d < (256 : Int))
                            (@T.chk AV true
                              (T.chk true
                                (T.need (IntRow IntKind.u8 (Blk.mk true [] (1 : Nat) c (fun j => [AV.int IntKind.u8 (ltF (fun x => (0 : Int)) (0 : Nat) j)]) []))
                                  (T.chk true
                                    (T.chk true
                                      (T.chk (decide ((0 : Int) ≤ s) && decide (s < (4294967296 : Int)))
                                        (T.need True
                                          (T.chk true
                                            (T.chk true
                                              (T.chk (decide ((0 : Int) ≤ s) && decide (s < (4294967296 : Int)))
                                                (T.need (∀ (d : Nat), d < IntsArg.len (IntsArg.mk True true (0 : Nat) fun x => (0 : Int)) → (0 : Int) ≤ IntsArg.at_ (IntsArg.mk True true (0 : Nat) fun x => (0 : Int)) d ∧ IntsArg.at_ (IntsArg.mk True true (0 : Nat) fun x => (0 : Int)) d < (256 : Int))
                                                  (T.ite (moreI s (fun i => ltF (fun x => (0 : Int)) (0 : Nat) ((0 : Nat) + i)) (0 : Nat) == moreI s (fun x => (0 : Int)) (0 : Nat))
                                                    (@T.chk AV true
                                                      (T.chk true
                                                        (T.need (IntRow IntKind.u8 (Blk.mk true [] (1 : Nat) c (fun j => [AV.int IntKind.u8 (ltF (fun x => (0 : Int)) (0 : Nat) j)]) []))
                                                          (T.need True
                                                            (T.chk true
                                                              (T.chk true
                                                                (T.chk true
                                                                  (@T.chk AV true
                                                                    (@T.chk AV true
                                                                      (T.chk true
                                                                        (T.chk (decide ((0 : Nat) < c))
                                                                          (T.chk (decide ((0 : Nat) < c))
                                                                            (T.need (AV.int IntKind.u8 (201 : Int) = AV.int IntKind.u8 (201 : Int))
                                                                              (T.need (AV.int IntKind.i64 (0 : Int) = AV.int IntKind.i64 (0 : Int))
                                                                                (@T.chk AV true
                                                                                  (@T.chk AV true
                                                                                    (T.chk true
                                                                                      (T.chk (decide ((1 : Nat) < c))
                                                                                        (T.chk (decide ((1 : Nat) < c))
                                                                                          (T.need (AV.int IntKind.u8 (208 : Int) = AV.int IntKind.u8 (208 : Int))
                                                                                            (T.need (AV.int IntKind.i64 (0 : Int) = AV.int IntKind.i64 (0 : Int))
                                                                                              (@T.chk AV true
                                                                                                (@T.chk AV true
                                                                                                  (T.chk true
                                                                                                    (T.chk (decide ((2 : Nat) < c))
                                                                                                      (T.chk (decide ((2 : Nat) < c))
                                                                                                        (T.need (AV.int IntKind.u8 (215 : Int) = AV.int IntKind.u8 (215 : Int))
                                                                                                          (T.need (AV.int IntKind.i64 (0 : Int) = AV.int IntKind.i64 (0 : Int))
                                                                                                            (@T.chk AV true
                                                                                                              (@T.chk AV true
                                                                                                                (T.chk true
                                                                                                                  (T.chk (decide ((3 : Nat) < c))
                                                                                                                    (T.chk (decide ((3 : Nat) < c))
                                                                                                                      (T.need (AV.int IntKind.u8 (222 : Int) = AV.int IntKind.u8 (222 : Int))
                                                                                                                        (T.need (AV.int IntKind.i64 (0 : Int) = AV.int IntKind.i64 (0 : Int))
                                                                                                                          (@T.chk AV true
                                                                                                                            (@T.chk AV true
                                                                                                                              (T.chk true
                                                                                                                                (T.chk (decide ((4 : Nat) < c))
                                                                                                                                  (T.chk (decide ((4 : Nat) < c)) (T.need (AV.int IntKind.u8 (229 : Int) = AV.int IntKind.u8 (229 : Int)) (T.need (AV.int IntKind.i64 (0 : Int) = AV.int IntKind.i64 (0 : Int)) (@T.chk AV true (@T.chk AV true (T.ret (AV.bool true))))))))))))))))))))))))))))))))))))))))))))))
                                                    (T.ret AV.ff)))))))))))))))))))))))) := by
  kernel_rfl

end Go.Proofs.YtglokmbhpmamcaaDoor
