/-
  Layer 15: Writes: a tree (gen.py).
-/
import Derived.Test.YtemgmcchepmicaaHW
namespace Go.Proofs.Ytemgmcchepmicaa
open Go.Ox
set_option maxRecDepth 100000
set_option maxHeartbeats 64000000
set_option linter.unusedVariables false
set_option linter.unusedSimpArgs false


theorem wr_fn000 (a n : Int) : T.cut ((afn Try.prog (inlE Try.prog (wrB 0) wrL Try.f5 0) Try.f5 (codeOf Try.f5) [.nils, .nils, .int .i64 a, .int .i64 n] []).bind fun r => .ret r.1) [0, 0, 0, 0, 0, 1, 0, 1, 0, 0, 0, 1, 0, 1, 0, 0, 1, 0, 0, 1, 0, 1, 0, 0, 0, 0, 1, 1, 0, 0, 1, 0, 0, 1, 0, 1, 1, 1, 1, 0, 1, 0, 1] = 
 T.chk true
 (T.chk true
 (T.chk true
 (T.chk true
 (T.chk true
 (T.need (a % (2 : Int) = (0 : Int))
 (T.chk true
 (T.chk true
 (T.chk true
 (T.chk true
 (T.chk true
 (T.chk true
 (T.chk true
 (T.need (AV.ptr 0 0 0 0 = AV.ptr 0 0 0 0)
 (T.need (AV.ptr 0 0 0 0 = AV.ptr 0 0 0 0)
 (T.chk true
 (T.need (AV.ptr 0 0 0 0 = AV.ptr 0 0 0 0)
 (T.chk true
 (T.chk true
 (T.chk true
 (T.chk true
 (T.chk true
 (T.need True
 (T.need True
 (T.chk true
 (T.chk true
 (T.chk true
 (T.chk true
 (T.chk true
 (T.chk true
 (T.chk true
 (T.chk true
 (T.chk true
 (T.chk true
 (T.chk true
 (T.chk true
 (T.chk true
 (T.chk true
 (T.chk true
 (T.chk true
 (T.need (AV.ptr 0 0 0 0 = AV.ptr 0 0 0 0)
 (T.need (AV.ptr 0 0 0 0 = AV.ptr 0 0 0 0)
 (T.chk true
 (T.need (AV.ptr 0 0 0 0 = AV.ptr 0 0 0 0)
 (T.chk true
 (T.chk true
 (T.chk true
 (T.chk true
 (T.chk true
 (T.chk true
 (T.chk true
 (T.chk true
 (T.need True
 (T.need (IntRow IntKind.u8 (Blk.mk true [] 1 0 (fun i => [AV.bool (List.getD [] i false)]) []))
 (T.chk true
 (T.chk true
 (T.chk true
 (T.chk true
 (T.chk true
 (T.chk true
 (T.chk true
 (T.chk true
 (T.chk true
 (T.chk true
 (T.chk true
 (T.chk true
 (T.chk true
 (T.chk true
 (T.chk
 (decide ((0 : Int) ≤ if (0 : Int) < muI n then (0 : Int) else muI n) &&
 decide ((if (0 : Int) < muI n then (0 : Int) else muI n) ≤ (↑0 : Int)))
 (T.chk true
 (T.chk true
 (T.chk true
 (T.chk true
 (T.chk true
 (T.chk true
 (T.chk true
 (T.chk
 (decide ((0 : Int) ≤ if (if (0 : Int) < n then (0 : Int) else n) > (0 : Int) then if (0 : Int) < n then (0 : Int) else n else (0 : Int)) &&
 decide ((if (if (0 : Int) < n then (0 : Int) else n) > (0 : Int) then if (0 : Int) < n then (0 : Int) else n else (0 : Int)) ≤ (↑0 : Int)))
 (T.chk true
 (T.chk true
 (T.chk true
 (T.chk
 (decide ((0 : Int) ≤ if (if (0 : Int) < n then (0 : Int) else n) > (0 : Int) then if (0 : Int) < n then (0 : Int) else n else (0 : Int)) &&
 decide ((if (if (0 : Int) < n then (0 : Int) else n) > (0 : Int) then if (0 : Int) < n then (0 : Int) else n else (0 : Int)) ≤ (↑0 : Int)))
 (T.need (AV.nils = AV.nils)
 (T.need True
 (T.need True
 (T.chk true
 (T.chk true
 (T.chk true
 (T.chk true
 (T.need True
 (T.need True
 (T.chk true
 (T.chk true
 (T.chk true
 (T.need (AV.bool true = AV.bool true)
 (T.chk
 (decide ((0 : Int) ≤ if (if (0 : Int) < n then (0 : Int) else n) > (0 : Int) then if (0 : Int) < n then (0 : Int) else n else (0 : Int)) &&
 decide ((if (if (0 : Int) < n then (0 : Int) else n) > (0 : Int) then if (0 : Int) < n then (0 : Int) else n else (0 : Int)) ≤ (↑0 : Int)))
 (T.need (AV.nils = AV.nils)
 (T.need
 (AV.int .i64 (if (if (0 : Int) < n then (0 : Int) else n) > (0 : Int) then if (0 : Int) < n then (0 : Int) else n else (0 : Int)) =
 AV.int .i64 (if (if (0 : Int) < n then (0 : Int) else n) > (0 : Int) then if (0 : Int) < n then (0 : Int) else n else (0 : Int)))
 (T.need (AV.nils = AV.nils)
 (T.need (AV.int .i64 (0 : Int) = AV.int .i64 (0 : Int))
 (T.need (AV.ptr 0 0 0 0 = AV.ptr 0 0 0 0)
 (T.ret (AV.bool true))))))))))))))))))))))))))))))))))))))))))))))))))))))))))))))))))))))))))))))))))))))))))))))))))))) := by
 kernel_rfl

end Go.Proofs.Ytemgmcchepmicaa
