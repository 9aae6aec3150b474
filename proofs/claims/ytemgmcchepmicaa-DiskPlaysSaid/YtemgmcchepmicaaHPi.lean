/-
  Layer 15: Plays: the law's trees.
-/
import Derived.Test.YtemgmcchepmicaaHPd
namespace Go.Proofs.Ytemgmcchepmicaa
open Go.Ox
set_option maxRecDepth 100000
set_option maxHeartbeats 16000000
set_option linter.unusedVariables false
set_option linter.unusedSimpArgs false

theorem pl_0 (x : FD) (kd ar nn : Nat → Int) (len cap : Nat) (n : Int) : T.cut (keepT [1, 4, 5, 7, 9] (acodeL Try.prog plE ((chainOf (codeOf Try.f3)).take 8) ⟨[(0, .int .i64 n), (1, .sl 1 0 4 0 len cap)], actM x kd ar nn cap⟩)) [2, 5, 1, 0, 0, 1, 1, 2, 6, 0, 1, 0, 0, 1, 1, 0, 0, 0, 0, 0] = 
  T.ite (decide (n < (64 : Int)))
    (@T.chk (Ex × St) (decide (n < (64 : Int)))
      (@T.chk (Ex × St) true
        (@T.chk (Ex × St) true
          (@T.chk (Ex × St) true
            (@T.chk (Ex × St) true
              (T.ret
                (Ex.ret,
                  St.mk [((1 : Nat), AV.sl (1 : Nat) (0 : Nat) (4 : Nat) (0 : Nat) len cap), ((4 : Nat), AV.bool true), ((5 : Nat), AV.nilp), ((7 : Nat), AV.nilp)]
                    [some (Blk.mk false [] (0 : Nat) (0 : Nat) (fun x => []) [] (some fun js => Mem.mk (FD.nl x js) (FD.ad x js) (FD.ln x js) (FD.cp x js) (1 : Nat) fun q => [AV.int IntKind.u8 (FD.z x (q :: js))])), some (Blk.mk false [] (4 : Nat) cap (fun r => [AV.int IntKind.i64 (kd r), AV.int IntKind.i64 (ar r), AV.int IntKind.i64 (nn r), AV.part (0 : Nat) [r]]) [] none)])))))))
    (T.ite (decide (n > (262144 : Int)))
      (@T.chk (Ex × St) (!decide (n < (64 : Int)))
        (@T.chk (Ex × St) (decide (n > (262144 : Int)))
          (@T.chk (Ex × St) true
            (@T.chk (Ex × St) true
              (@T.chk (Ex × St) true
                (@T.chk (Ex × St) true
                  (T.ret
                    (Ex.ret,
                      St.mk [((1 : Nat), AV.sl (1 : Nat) (0 : Nat) (4 : Nat) (0 : Nat) len cap), ((4 : Nat), AV.bool true), ((5 : Nat), AV.nilp), ((7 : Nat), AV.nilp)]
                        [some (Blk.mk false [] (0 : Nat) (0 : Nat) (fun x => []) [] (some fun js => Mem.mk (FD.nl x js) (FD.ad x js) (FD.ln x js) (FD.cp x js) (1 : Nat) fun q => [AV.int IntKind.u8 (FD.z x (q :: js))])), some (Blk.mk false [] (4 : Nat) cap (fun r => [AV.int IntKind.i64 (kd r), AV.int IntKind.i64 (ar r), AV.int IntKind.i64 (nn r), AV.part (0 : Nat) [r]]) [] none)]))))))))
      (@T.chk (Ex × St) (!decide (n < (64 : Int)))
        (@T.chk (Ex × St) (!decide (n > (262144 : Int)))
          (@T.chk (Ex × St) true
            (@T.chk (Ex × St) true
              (@T.chk (Ex × St) true
                (T.ret
                  (Ex.norm,
                    St.mk [((1 : Nat), AV.sl (1 : Nat) (0 : Nat) (4 : Nat) (0 : Nat) len cap), ((4 : Nat), AV.ff), ((5 : Nat), AV.ptr (2 : Nat) (0 : Nat) (0 : Nat) (0 : Nat)), ((7 : Nat), AV.ptr (3 : Nat) (0 : Nat) (0 : Nat) (0 : Nat)), ((9 : Nat), AV.int IntKind.i64 (0 : Int))]
                      [some (Blk.mk false [] (0 : Nat) (0 : Nat) (fun x => []) [] (some fun js => Mem.mk (FD.nl x js) (FD.ad x js) (FD.ln x js) (FD.cp x js) (1 : Nat) fun q => [AV.int IntKind.u8 (FD.z x (q :: js))])), some (Blk.mk false [] (4 : Nat) cap (fun r => [AV.int IntKind.i64 (kd r), AV.int IntKind.i64 (ar r), AV.int IntKind.i64 (nn r), AV.part (0 : Nat) [r]]) [] none),
                        some (Blk.mk true [AV.nils, AV.int IntKind.i64 (0 : Int), AV.nils, AV.int IntKind.i64 (0 : Int), AV.int IntKind.i64 n] (0 : Nat) (0 : Nat) (fun x => []) [] none), some (Blk.mk true [AV.int IntKind.i64 n, AV.nils, AV.nils, AV.int IntKind.i64 (0 : Int), AV.int IntKind.i64 (0 : Int)] (0 : Nat) (0 : Nat) (fun x => []) [] none)])))))))) := by
  kernel_rfl

theorem pl_9 : T.cut (keepT [4] (acodeL Try.prog plE ((chainOf (codeOf Try.f3)).drop 9) ⟨[], [none, none]⟩)) [] = 
  T.ret (Ex.ret, St.mk [((4 : Nat), AV.bool true)] [none, none]) := by
  kernel_rfl

theorem pl_lblk : (chainOf (codeOf Try.f3)).drop 8 = .block 0 (.loop plC) :: (chainOf (codeOf Try.f3)).drop 9 := by
  kernel_rfl

theorem pl_res : Try.f3.results.toList = [.tmp 4] := by
  kernel_rfl

noncomputable def plY : Env := { nt := Try.f3.ntmps, n0 := 0, vec := true, fns := openAll (inl Try.prog plB plL), loop := fun _ _ => .fail }

noncomputable def plZ : Env := { plY with loop := fun k => if k = 8 then unrollN Try.prog plY plC 1 else fun _ => .fail }

theorem pl_z (n : Int) : T.cut ((afn Try.prog plZ Try.f3 (codeOf Try.f3) [.int .i64 n, .nils] []).bind fun r => .ret r.1) [2, 5, 1, 0, 0, 1, 1, 2, 6, 0, 1, 0, 0, 1, 1, 0, 0, 0, 0, 0, 0] = 
  T.ite (decide (n < (64 : Int))) (@T.chk AV (decide (n < (64 : Int))) (@T.chk AV true (@T.chk AV true (@T.chk AV true (@T.chk AV true (T.ret (AV.bool true)))))))
    (T.ite (decide (n > (262144 : Int))) (@T.chk AV (!decide (n < (64 : Int))) (@T.chk AV (decide (n > (262144 : Int))) (@T.chk AV true (@T.chk AV true (@T.chk AV true (@T.chk AV true (T.ret (AV.bool true)))))))) (@T.chk AV (!decide (n < (64 : Int))) (@T.chk AV (!decide (n > (262144 : Int))) (@T.chk AV true (@T.chk AV true (@T.chk AV true (@T.chk AV true (T.ret (AV.bool true))))))))) := by
  kernel_rfl

end Go.Proofs.Ytemgmcchepmicaa
