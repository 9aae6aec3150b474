/-
  Layer 2: CrcTurns.
-/
import Derived.Test.YtglokmbhpmamcaaDoorHU
namespace Go.Proofs.YtglokmbhpmamcaaDoor
open Go.Ox
set_option maxRecDepth 100000
set_option maxHeartbeats 4000000
set_option linter.unusedVariables false
set_option linter.unusedSimpArgs false

theorem tu_sss (n1 : Nat) (f1 : Nat → Int) (l1 c1 : Nat) (n2 : Nat) (f2 : Nat → Int) (l2 c2 : Nat) (n3 : Nat) (f3 : Nat → Int) (l3 c3 : Nat) : T.cut (((afn Tryd.prog (inlE Tryd.prog ltB2 lwL Tryd.f5 3) Tryd.f5 (codeOf Tryd.f5) [.sl 0 0 1 0 l1 c1, .sl 1 0 1 0 l2 c2, .sl 2 0 1 0 l3 c3] [some (cbV n1 f1), some (cbV n2 f2), some (cbV n3 f3)]).bind fun r => .ret r.1)) [2, 6, 2, 2, 2, 0, 2, 0, 2, 2, 2, 0, 2, 0] = 
  T.chk (decide ((0 : Int) ≤ if (4096 : Int) < if (↑l3 : Int) < if (↑l2 : Int) < (↑l1 : Int) then (↑l2 : Int) else (↑l1 : Int) then (↑l3 : Int) else if (↑l2 : Int) < (↑l1 : Int) then (↑l2 : Int) else (↑l1 : Int) then (4096 : Int) else if (↑l3 : Int) < if (↑l2 : Int) < (↑l1 : Int) then (↑l2 : Int) else (↑l1 : Int) then (↑l3 : Int) else if (↑l2 : Int) < (↑l1 : Int) then (↑l2 : Int) else (↑l1 : Int)) && decide ((if (4096 : Int) < if (↑l3 : Int) < if (↑l2 : Int) < (↑l1 : Int) then (↑l2 : Int) else (↑l1 : Int) then (↑l3 : Int) else if (↑l2 : Int) < (↑l1 : Int) then (↑l2 : Int) else (↑l1 : Int) then (4096 : Int) else if (↑l3 : Int) < if (↑l2 : Int) < (↑l1 : Int) then (↑l2 : Int) else (↑l1 : Int) then (↑l3 : Int) else if (↑l2 : Int) < (↑l1 : Int) then (↑l2 : Int) else (↑l1 : Int)) ≤ (↑c1 : Int))) (T.chk (decide ((0 : Int) ≤ if (4096 : Int) < if (↑l3 : Int) < if (↑l2 : Int) < (↑l1 : Int) then (↑l2 : Int) else (↑l1 : Int) then (↑l3 : Int) else if (↑l2 : Int) < (↑l1 : Int) then (↑l2 : Int) else (↑l1 : Int) then (4096 : Int) else if (↑l3 : Int) < if (↑l2 : Int) < (↑l1 : Int) then (↑l2 : Int) else (↑l1 : Int) then (↑l3 : Int) else if (↑l2 : Int) < (↑l1 : Int) then (↑l2 : Int) else (↑l1 : Int)) && decide ((if (4096 : Int) < if (↑l3 : Int) < if (↑l2 : Int) < (↑l1 : Int) then (↑l2 : Int) else (↑l1 : Int) then (↑l3 : Int) else if (↑l2 : Int) < (↑l1 : Int) then (↑l2 : Int) else (↑l1 : Int) then (4096 : Int) else if (↑l3 : Int) < if (↑l2 : Int) < (↑l1 : Int) then (↑l2 : Int) else (↑l1 : Int) then (↑l3 : Int) else if (↑l2 : Int) < (↑l1 : Int) then (↑l2 : Int) else (↑l1 : Int)) ≤ (↑c2 : Int))) (T.chk (decide ((0 : Int) ≤ if (4096 : Int) < if (↑l3 : Int) < if (↑l2 : Int) < (↑l1 : Int) then (↑l2 : Int) else (↑l1 : Int) then (↑l3 : Int) else if (↑l2 : Int) < (↑l1 : Int) then (↑l2 : Int) else (↑l1 : Int) then (4096 : Int) else if (↑l3 : Int) < if (↑l2 : Int) < (↑l1 : Int) then (↑l2 : Int) else (↑l1 : Int) then (↑l3 : Int) else if (↑l2 : Int) < (↑l1 : Int) then (↑l2 : Int) else (↑l1 : Int)) && decide ((if (4096 : Int) < if (↑l3 : Int) < if (↑l2 : Int) < (↑l1 : Int) then (↑l2 : Int) else (↑l1 : Int) then (↑l3 : Int) else if (↑l2 : Int) < (↑l1 : Int) then (↑l2 : Int) else (↑l1 : Int) then (4096 : Int) else if (↑l3 : Int) < if (↑l2 : Int) < (↑l1 : Int) then (↑l2 : Int) else (↑l1 : Int) then (↑l3 : Int) else if (↑l2 : Int) < (↑l1 : Int) then (↑l2 : Int) else (↑l1 : Int)) ≤ (↑c3 : Int))) (T.need (IntRow IntKind.u8 (Blk.mk false [] (1 : Nat) n1 (fun j => [AV.int IntKind.u8 (f1 j)]) [])) (T.chk (decide ((0 : Nat) + Int.toNat (if (4096 : Int) < if (↑l3 : Int) < if (↑l2 : Int) < (↑l1 : Int) then (↑l2 : Int) else (↑l1 : Int) then (↑l3 : Int) else if (↑l2 : Int) < (↑l1 : Int) then (↑l2 : Int) else (↑l1 : Int) then (4096 : Int) else if (↑l3 : Int) < if (↑l2 : Int) < (↑l1 : Int) then (↑l2 : Int) else (↑l1 : Int) then (↑l3 : Int) else if (↑l2 : Int) < (↑l1 : Int) then (↑l2 : Int) else (↑l1 : Int)) ≤ n1)) (T.chk (decide (Int.toNat (if (4096 : Int) < if (↑l3 : Int) < if (↑l2 : Int) < (↑l1 : Int) then (↑l2 : Int) else (↑l1 : Int) then (↑l3 : Int) else if (↑l2 : Int) < (↑l1 : Int) then (↑l2 : Int) else (↑l1 : Int) then (4096 : Int) else if (↑l3 : Int) < if (↑l2 : Int) < (↑l1 : Int) then (↑l2 : Int) else (↑l1 : Int) then (↑l3 : Int) else if (↑l2 : Int) < (↑l1 : Int) then (↑l2 : Int) else (↑l1 : Int)) ≤ (4611686018427387904 : Nat))) (T.chk true (T.need (IntRow IntKind.u8 (Blk.mk false [] (1 : Nat) n1 (fun j => [AV.int IntKind.u8 (f1 j)]) [])) (T.need (IntRow IntKind.u8 (Blk.mk false [] (1 : Nat) n3 (fun j => [AV.int IntKind.u8 (f3 j)]) [])) (T.chk (decide ((0 : Nat) + Int.toNat (if (4096 : Int) < if (↑l3 : Int) < if (↑l2 : Int) < (↑l1 : Int) then (↑l2 : Int) else (↑l1 : Int) then (↑l3 : Int) else if (↑l2 : Int) < (↑l1 : Int) then (↑l2 : Int) else (↑l1 : Int) then (4096 : Int) else if (↑l3 : Int) < if (↑l2 : Int) < (↑l1 : Int) then (↑l2 : Int) else (↑l1 : Int) then (↑l3 : Int) else if (↑l2 : Int) < (↑l1 : Int) then (↑l2 : Int) else (↑l1 : Int)) ≤ n1)) (T.chk (decide (Int.toNat (if (4096 : Int) < if (↑l3 : Int) < if (↑l2 : Int) < (↑l1 : Int) then (↑l2 : Int) else (↑l1 : Int) then (↑l3 : Int) else if (↑l2 : Int) < (↑l1 : Int) then (↑l2 : Int) else (↑l1 : Int) then (4096 : Int) else if (↑l3 : Int) < if (↑l2 : Int) < (↑l1 : Int) then (↑l2 : Int) else (↑l1 : Int) then (↑l3 : Int) else if (↑l2 : Int) < (↑l1 : Int) then (↑l2 : Int) else (↑l1 : Int)) ≤ (4294967296 : Nat))) (T.chk (decide ((0 : Nat) + Int.toNat (if (4096 : Int) < if (↑l3 : Int) < if (↑l2 : Int) < (↑l1 : Int) then (↑l2 : Int) else (↑l1 : Int) then (↑l3 : Int) else if (↑l2 : Int) < (↑l1 : Int) then (↑l2 : Int) else (↑l1 : Int) then (4096 : Int) else if (↑l3 : Int) < if (↑l2 : Int) < (↑l1 : Int) then (↑l2 : Int) else (↑l1 : Int) then (↑l3 : Int) else if (↑l2 : Int) < (↑l1 : Int) then (↑l2 : Int) else (↑l1 : Int)) ≤ n3)) (T.chk (decide (Int.toNat (if (4096 : Int) < if (↑l3 : Int) < if (↑l2 : Int) < (↑l1 : Int) then (↑l2 : Int) else (↑l1 : Int) then (↑l3 : Int) else if (↑l2 : Int) < (↑l1 : Int) then (↑l2 : Int) else (↑l1 : Int) then (4096 : Int) else if (↑l3 : Int) < if (↑l2 : Int) < (↑l1 : Int) then (↑l2 : Int) else (↑l1 : Int) then (↑l3 : Int) else if (↑l2 : Int) < (↑l1 : Int) then (↑l2 : Int) else (↑l1 : Int)) ≤ (4611686018427387904 : Nat))) (T.ite (decide ((0 : Nat) < Int.toNat (if (4096 : Int) < if (↑l3 : Int) < if (↑l2 : Int) < (↑l1 : Int) then (↑l2 : Int) else (↑l1 : Int) then (↑l3 : Int) else if (↑l2 : Int) < (↑l1 : Int) then (↑l2 : Int) else (↑l1 : Int) then (4096 : Int) else if (↑l3 : Int) < if (↑l2 : Int) < (↑l1 : Int) then (↑l2 : Int) else (↑l1 : Int) then (↑l3 : Int) else if (↑l2 : Int) < (↑l1 : Int) then (↑l2 : Int) else (↑l1 : Int)))) (T.all fun c => T.asm (decide (Int.toNat (if (4096 : Int) < if (↑l3 : Int) < if (↑l2 : Int) < (↑l1 : Int) then (↑l2 : Int) else (↑l1 : Int) then (↑l3 : Int) else if (↑l2 : Int) < (↑l1 : Int) then (↑l2 : Int) else (↑l1 : Int) then (4096 : Int) else if (↑l3 : Int) < if (↑l2 : Int) < (↑l1 : Int) then (↑l2 : Int) else (↑l1 : Int) then (↑l3 : Int) else if (↑l2 : Int) < (↑l1 : Int) then (↑l2 : Int) else (↑l1 : Int)) ≤ c)) (T.need (IntRow IntKind.u8 (Blk.mk true [] (1 : Nat) c (fun j => [AV.int IntKind.u8 (xrF (fun d => f1 ((0 : Nat) + d)) (fun d => f3 ((0 : Nat) + d)) (Int.toNat (if (4096 : Int) < if (↑l3 : Int) < if (↑l2 : Int) < (↑l1 : Int) then (↑l2 : Int) else (↑l1 : Int) then (↑l3 : Int) else if (↑l2 : Int) < (↑l1 : Int) then (↑l2 : Int) else (↑l1 : Int) then (4096 : Int) else if (↑l3 : Int) < if (↑l2 : Int) < (↑l1 : Int) then (↑l2 : Int) else (↑l1 : Int) then (↑l3 : Int) else if (↑l2 : Int) < (↑l1 : Int) then (↑l2 : Int) else (↑l1 : Int))) (Int.toNat (if (4096 : Int) < if (↑l3 : Int) < if (↑l2 : Int) < (↑l1 : Int) then (↑l2 : Int) else (↑l1 : Int) then (↑l3 : Int) else if (↑l2 : Int) < (↑l1 : Int) then (↑l2 : Int) else (↑l1 : Int) then (4096 : Int) else if (↑l3 : Int) < if (↑l2 : Int) < (↑l1 : Int) then (↑l2 : Int) else (↑l1 : Int) then (↑l3 : Int) else if (↑l2 : Int) < (↑l1 : Int) then (↑l2 : Int) else (↑l1 : Int))) j)]) [])) (T.chk (decide ((0 : Nat) + Int.toNat (if (4096 : Int) < if (↑l3 : Int) < if (↑l2 : Int) < (↑l1 : Int) then (↑l2 : Int) else (↑l1 : Int) then (↑l3 : Int) else if (↑l2 : Int) < (↑l1 : Int) then (↑l2 : Int) else (↑l1 : Int) then (4096 : Int) else if (↑l3 : Int) < if (↑l2 : Int) < (↑l1 : Int) then (↑l2 : Int) else (↑l1 : Int) then (↑l3 : Int) else if (↑l2 : Int) < (↑l1 : Int) then (↑l2 : Int) else (↑l1 : Int)) ≤ c)) (T.chk (decide (Int.toNat (if (4096 : Int) < if (↑l3 : Int) < if (↑l2 : Int) < (↑l1 : Int) then (↑l2 : Int) else (↑l1 : Int) then (↑l3 : Int) else if (↑l2 : Int) < (↑l1 : Int) then (↑l2 : Int) else (↑l1 : Int) then (4096 : Int) else if (↑l3 : Int) < if (↑l2 : Int) < (↑l1 : Int) then (↑l2 : Int) else (↑l1 : Int) then (↑l3 : Int) else if (↑l2 : Int) < (↑l1 : Int) then (↑l2 : Int) else (↑l1 : Int)) ≤ (4611686018427387904 : Nat))) (T.chk true (T.need (IntRow IntKind.u8 (Blk.mk false [] (1 : Nat) n2 (fun j => [AV.int IntKind.u8 (f2 j)]) [])) (T.chk (decide ((0 : Nat) + Int.toNat (if (4096 : Int) < if (↑l3 : Int) < if (↑l2 : Int) < (↑l1 : Int) then (↑l2 : Int) else (↑l1 : Int) then (↑l3 : Int) else if (↑l2 : Int) < (↑l1 : Int) then (↑l2 : Int) else (↑l1 : Int) then (4096 : Int) else if (↑l3 : Int) < if (↑l2 : Int) < (↑l1 : Int) then (↑l2 : Int) else (↑l1 : Int) then (↑l3 : Int) else if (↑l2 : Int) < (↑l1 : Int) then (↑l2 : Int) else (↑l1 : Int)) ≤ n2)) (T.chk (decide (Int.toNat (if (4096 : Int) < if (↑l3 : Int) < if (↑l2 : Int) < (↑l1 : Int) then (↑l2 : Int) else (↑l1 : Int) then (↑l3 : Int) else if (↑l2 : Int) < (↑l1 : Int) then (↑l2 : Int) else (↑l1 : Int) then (4096 : Int) else if (↑l3 : Int) < if (↑l2 : Int) < (↑l1 : Int) then (↑l2 : Int) else (↑l1 : Int) then (↑l3 : Int) else if (↑l2 : Int) < (↑l1 : Int) then (↑l2 : Int) else (↑l1 : Int)) ≤ (4611686018427387904 : Nat))) (T.chk true (T.need (IntRow IntKind.u8 (Blk.mk false [] (1 : Nat) n2 (fun j => [AV.int IntKind.u8 (f2 j)]) [])) (T.need (IntRow IntKind.u8 (Blk.mk false [] (1 : Nat) n3 (fun j => [AV.int IntKind.u8 (f3 j)]) [])) (T.chk (decide ((0 : Nat) + Int.toNat (if (4096 : Int) < if (↑l3 : Int) < if (↑l2 : Int) < (↑l1 : Int) then (↑l2 : Int) else (↑l1 : Int) then (↑l3 : Int) else if (↑l2 : Int) < (↑l1 : Int) then (↑l2 : Int) else (↑l1 : Int) then (4096 : Int) else if (↑l3 : Int) < if (↑l2 : Int) < (↑l1 : Int) then (↑l2 : Int) else (↑l1 : Int) then (↑l3 : Int) else if (↑l2 : Int) < (↑l1 : Int) then (↑l2 : Int) else (↑l1 : Int)) ≤ n2)) (T.chk (decide (Int.toNat (if (4096 : Int) < if (↑l3 : Int) < if (↑l2 : Int) < (↑l1 : Int) then (↑l2 : Int) else (↑l1 : Int) then (↑l3 : Int) else if (↑l2 : Int) < (↑l1 : Int) then (↑l2 : Int) else (↑l1 : Int) then (4096 : Int) else if (↑l3 : Int) < if (↑l2 : Int) < (↑l1 : Int) then (↑l2 : Int) else (↑l1 : Int) then (↑l3 : Int) else if (↑l2 : Int) < (↑l1 : Int) then (↑l2 : Int) else (↑l1 : Int)) ≤ (4294967296 : Nat))) (T.chk (decide ((0 : Nat) + Int.toNat (if (4096 : Int) < if (↑l3 : Int) < if (↑l2 : Int) < (↑l1 : Int) then (↑l2 : Int) else (↑l1 : Int) then (↑l3 : Int) else if (↑l2 : Int) < (↑l1 : Int) then (↑l2 : Int) else (↑l1 : Int) then (4096 : Int) else if (↑l3 : Int) < if (↑l2 : Int) < (↑l1 : Int) then (↑l2 : Int) else (↑l1 : Int) then (↑l3 : Int) else if (↑l2 : Int) < (↑l1 : Int) then (↑l2 : Int) else (↑l1 : Int)) ≤ n3)) (T.chk (decide (Int.toNat (if (4096 : Int) < if (↑l3 : Int) < if (↑l2 : Int) < (↑l1 : Int) then (↑l2 : Int) else (↑l1 : Int) then (↑l3 : Int) else if (↑l2 : Int) < (↑l1 : Int) then (↑l2 : Int) else (↑l1 : Int) then (4096 : Int) else if (↑l3 : Int) < if (↑l2 : Int) < (↑l1 : Int) then (↑l2 : Int) else (↑l1 : Int) then (↑l3 : Int) else if (↑l2 : Int) < (↑l1 : Int) then (↑l2 : Int) else (↑l1 : Int)) ≤ (4611686018427387904 : Nat))) (T.ite (decide ((0 : Nat) < Int.toNat (if (4096 : Int) < if (↑l3 : Int) < if (↑l2 : Int) < (↑l1 : Int) then (↑l2 : Int) else (↑l1 : Int) then (↑l3 : Int) else if (↑l2 : Int) < (↑l1 : Int) then (↑l2 : Int) else (↑l1 : Int) then (4096 : Int) else if (↑l3 : Int) < if (↑l2 : Int) < (↑l1 : Int) then (↑l2 : Int) else (↑l1 : Int) then (↑l3 : Int) else if (↑l2 : Int) < (↑l1 : Int) then (↑l2 : Int) else (↑l1 : Int)))) (T.all fun c => T.asm (decide (Int.toNat (if (4096 : Int) < if (↑l3 : Int) < if (↑l2 : Int) < (↑l1 : Int) then (↑l2 : Int) else (↑l1 : Int) then (↑l3 : Int) else if (↑l2 : Int) < (↑l1 : Int) then (↑l2 : Int) else (↑l1 : Int) then (4096 : Int) else if (↑l3 : Int) < if (↑l2 : Int) < (↑l1 : Int) then (↑l2 : Int) else (↑l1 : Int) then (↑l3 : Int) else if (↑l2 : Int) < (↑l1 : Int) then (↑l2 : Int) else (↑l1 : Int)) ≤ c)) (T.need (IntRow IntKind.u8 (Blk.mk true [] (1 : Nat) c (fun j => [AV.int IntKind.u8 (xrF (fun d => f2 ((0 : Nat) + d)) (fun d => f3 ((0 : Nat) + d)) (Int.toNat (if (4096 : Int) < if (↑l3 : Int) < if (↑l2 : Int) < (↑l1 : Int) then (↑l2 : Int) else (↑l1 : Int) then (↑l3 : Int) else if (↑l2 : Int) < (↑l1 : Int) then (↑l2 : Int) else (↑l1 : Int) then (4096 : Int) else if (↑l3 : Int) < if (↑l2 : Int) < (↑l1 : Int) then (↑l2 : Int) else (↑l1 : Int) then (↑l3 : Int) else if (↑l2 : Int) < (↑l1 : Int) then (↑l2 : Int) else (↑l1 : Int))) (Int.toNat (if (4096 : Int) < if (↑l3 : Int) < if (↑l2 : Int) < (↑l1 : Int) then (↑l2 : Int) else (↑l1 : Int) then (↑l3 : Int) else if (↑l2 : Int) < (↑l1 : Int) then (↑l2 : Int) else (↑l1 : Int) then (4096 : Int) else if (↑l3 : Int) < if (↑l2 : Int) < (↑l1 : Int) then (↑l2 : Int) else (↑l1 : Int) then (↑l3 : Int) else if (↑l2 : Int) < (↑l1 : Int) then (↑l2 : Int) else (↑l1 : Int))) j)]) [])) (T.chk (decide ((0 : Nat) + Int.toNat (if (4096 : Int) < if (↑l3 : Int) < if (↑l2 : Int) < (↑l1 : Int) then (↑l2 : Int) else (↑l1 : Int) then (↑l3 : Int) else if (↑l2 : Int) < (↑l1 : Int) then (↑l2 : Int) else (↑l1 : Int) then (4096 : Int) else if (↑l3 : Int) < if (↑l2 : Int) < (↑l1 : Int) then (↑l2 : Int) else (↑l1 : Int) then (↑l3 : Int) else if (↑l2 : Int) < (↑l1 : Int) then (↑l2 : Int) else (↑l1 : Int)) ≤ c)) (T.chk (decide (Int.toNat (if (4096 : Int) < if (↑l3 : Int) < if (↑l2 : Int) < (↑l1 : Int) then (↑l2 : Int) else (↑l1 : Int) then (↑l3 : Int) else if (↑l2 : Int) < (↑l1 : Int) then (↑l2 : Int) else (↑l1 : Int) then (4096 : Int) else if (↑l3 : Int) < if (↑l2 : Int) < (↑l1 : Int) then (↑l2 : Int) else (↑l1 : Int) then (↑l3 : Int) else if (↑l2 : Int) < (↑l1 : Int) then (↑l2 : Int) else (↑l1 : Int)) ≤ (4611686018427387904 : Nat))) (T.chk true (T.ite (bits BinOp.xor IntKind.u32 (moreI (0 : Int) (fun i => f1 ((0 : Nat) + i)) (Int.toNat (if (4096 : Int) < if (↑l3 : Int) < if (↑l2 : Int) < (↑l1 : Int) then (↑l2 : Int) else (↑l1 : Int) then (↑l3 : Int) else if (↑l2 : Int) < (↑l1 : Int) then (↑l2 : Int) else (↑l1 : Int) then (4096 : Int) else if (↑l3 : Int) < if (↑l2 : Int) < (↑l1 : Int) then (↑l2 : Int) else (↑l1 : Int) then (↑l3 : Int) else if (↑l2 : Int) < (↑l1 : Int) then (↑l2 : Int) else (↑l1 : Int)))) (moreI (0 : Int) (fun i => xrF (fun d => f1 ((0 : Nat) + d)) (fun d => f3 ((0 : Nat) + d)) (Int.toNat (if (4096 : Int) < if (↑l3 : Int) < if (↑l2 : Int) < (↑l1 : Int) then (↑l2 : Int) else (↑l1 : Int) then (↑l3 : Int) else if (↑l2 : Int) < (↑l1 : Int) then (↑l2 : Int) else (↑l1 : Int) then (4096 : Int) else if (↑l3 : Int) < if (↑l2 : Int) < (↑l1 : Int) then (↑l2 : Int) else (↑l1 : Int) then (↑l3 : Int) else if (↑l2 : Int) < (↑l1 : Int) then (↑l2 : Int) else (↑l1 : Int))) (Int.toNat (if (4096 : Int) < if (↑l3 : Int) < if (↑l2 : Int) < (↑l1 : Int) then (↑l2 : Int) else (↑l1 : Int) then (↑l3 : Int) else if (↑l2 : Int) < (↑l1 : Int) then (↑l2 : Int) else (↑l1 : Int) then (4096 : Int) else if (↑l3 : Int) < if (↑l2 : Int) < (↑l1 : Int) then (↑l2 : Int) else (↑l1 : Int) then (↑l3 : Int) else if (↑l2 : Int) < (↑l1 : Int) then (↑l2 : Int) else (↑l1 : Int))) ((0 : Nat) + i)) (Int.toNat (if (4096 : Int) < if (↑l3 : Int) < if (↑l2 : Int) < (↑l1 : Int) then (↑l2 : Int) else (↑l1 : Int) then (↑l3 : Int) else if (↑l2 : Int) < (↑l1 : Int) then (↑l2 : Int) else (↑l1 : Int) then (4096 : Int) else if (↑l3 : Int) < if (↑l2 : Int) < (↑l1 : Int) then (↑l2 : Int) else (↑l1 : Int) then (↑l3 : Int) else if (↑l2 : Int) < (↑l1 : Int) then (↑l2 : Int) else (↑l1 : Int)))) == bits BinOp.xor IntKind.u32 (moreI (0 : Int) (fun i => f2 ((0 : Nat) + i)) (Int.toNat (if (4096 : Int) < if (↑l3 : Int) < if (↑l2 : Int) < (↑l1 : Int) then (↑l2 : Int) else (↑l1 : Int) then (↑l3 : Int) else if (↑l2 : Int) < (↑l1 : Int) then (↑l2 : Int) else (↑l1 : Int) then (4096 : Int) else if (↑l3 : Int) < if (↑l2 : Int) < (↑l1 : Int) then (↑l2 : Int) else (↑l1 : Int) then (↑l3 : Int) else if (↑l2 : Int) < (↑l1 : Int) then (↑l2 : Int) else (↑l1 : Int)))) (moreI (0 : Int) (fun i => xrF (fun d => f2 ((0 : Nat) + d)) (fun d => f3 ((0 : Nat) + d)) (Int.toNat (if (4096 : Int) < if (↑l3 : Int) < if (↑l2 : Int) < (↑l1 : Int) then (↑l2 : Int) else (↑l1 : Int) then (↑l3 : Int) else if (↑l2 : Int) < (↑l1 : Int) then (↑l2 : Int) else (↑l1 : Int) then (4096 : Int) else if (↑l3 : Int) < if (↑l2 : Int) < (↑l1 : Int) then (↑l2 : Int) else (↑l1 : Int) then (↑l3 : Int) else if (↑l2 : Int) < (↑l1 : Int) then (↑l2 : Int) else (↑l1 : Int))) (Int.toNat (if (4096 : Int) < if (↑l3 : Int) < if (↑l2 : Int) < (↑l1 : Int) then (↑l2 : Int) else (↑l1 : Int) then (↑l3 : Int) else if (↑l2 : Int) < (↑l1 : Int) then (↑l2 : Int) else (↑l1 : Int) then (4096 : Int) else if (↑l3 : Int) < if (↑l2 : Int) < (↑l1 : Int) then (↑l2 : Int) else (↑l1 : Int) then (↑l3 : Int) else if (↑l2 : Int) < (↑l1 : Int) then (↑l2 : Int) else (↑l1 : Int))) ((0 : Nat) + i)) (Int.toNat (if (4096 : Int) < if (↑l3 : Int) < if (↑l2 : Int) < (↑l1 : Int) then (↑l2 : Int) else (↑l1 : Int) then (↑l3 : Int) else if (↑l2 : Int) < (↑l1 : Int) then (↑l2 : Int) else (↑l1 : Int) then (4096 : Int) else if (↑l3 : Int) < if (↑l2 : Int) < (↑l1 : Int) then (↑l2 : Int) else (↑l1 : Int) then (↑l3 : Int) else if (↑l2 : Int) < (↑l1 : Int) then (↑l2 : Int) else (↑l1 : Int))))) (T.ret (AV.bool true)) (T.ret AV.ff))))))) (T.need True (T.chk true (T.chk true (T.chk true (T.ite (bits BinOp.xor IntKind.u32 (moreI (0 : Int) (fun i => f1 ((0 : Nat) + i)) (Int.toNat (if (4096 : Int) < if (↑l3 : Int) < if (↑l2 : Int) < (↑l1 : Int) then (↑l2 : Int) else (↑l1 : Int) then (↑l3 : Int) else if (↑l2 : Int) < (↑l1 : Int) then (↑l2 : Int) else (↑l1 : Int) then (4096 : Int) else if (↑l3 : Int) < if (↑l2 : Int) < (↑l1 : Int) then (↑l2 : Int) else (↑l1 : Int) then (↑l3 : Int) else if (↑l2 : Int) < (↑l1 : Int) then (↑l2 : Int) else (↑l1 : Int)))) (moreI (0 : Int) (fun i => xrF (fun d => f1 ((0 : Nat) + d)) (fun d => f3 ((0 : Nat) + d)) (Int.toNat (if (4096 : Int) < if (↑l3 : Int) < if (↑l2 : Int) < (↑l1 : Int) then (↑l2 : Int) else (↑l1 : Int) then (↑l3 : Int) else if (↑l2 : Int) < (↑l1 : Int) then (↑l2 : Int) else (↑l1 : Int) then (4096 : Int) else if (↑l3 : Int) < if (↑l2 : Int) < (↑l1 : Int) then (↑l2 : Int) else (↑l1 : Int) then (↑l3 : Int) else if (↑l2 : Int) < (↑l1 : Int) then (↑l2 : Int) else (↑l1 : Int))) (Int.toNat (if (4096 : Int) < if (↑l3 : Int) < if (↑l2 : Int) < (↑l1 : Int) then (↑l2 : Int) else (↑l1 : Int) then (↑l3 : Int) else if (↑l2 : Int) < (↑l1 : Int) then (↑l2 : Int) else (↑l1 : Int) then (4096 : Int) else if (↑l3 : Int) < if (↑l2 : Int) < (↑l1 : Int) then (↑l2 : Int) else (↑l1 : Int) then (↑l3 : Int) else if (↑l2 : Int) < (↑l1 : Int) then (↑l2 : Int) else (↑l1 : Int))) ((0 : Nat) + i)) (Int.toNat (if (4096 : Int) < if (↑l3 : Int) < if (↑l2 : Int) < (↑l1 : Int) then (↑l2 : Int) else (↑l1 : Int) then (↑l3 : Int) else if (↑l2 : Int) < (↑l1 : Int) then (↑l2 : Int) else (↑l1 : Int) then (4096 : Int) else if (↑l3 : Int) < if (↑l2 : Int) < (↑l1 : Int) then (↑l2 : Int) else (↑l1 : Int) then (↑l3 : Int) else if (↑l2 : Int) < (↑l1 : Int) then (↑l2 : Int) else (↑l1 : Int)))) == bits BinOp.xor IntKind.u32 (moreI (0 : Int) (fun i => f2 ((0 : Nat) + i)) (Int.toNat (if (4096 : Int) < if (↑l3 : Int) < if (↑l2 : Int) < (↑l1 : Int) then (↑l2 : Int) else (↑l1 : Int) then (↑l3 : Int) else if (↑l2 : Int) < (↑l1 : Int) then (↑l2 : Int) else (↑l1 : Int) then (4096 : Int) else if (↑l3 : Int) < if (↑l2 : Int) < (↑l1 : Int) then (↑l2 : Int) else (↑l1 : Int) then (↑l3 : Int) else if (↑l2 : Int) < (↑l1 : Int) then (↑l2 : Int) else (↑l1 : Int)))) (moreI (0 : Int) (fun x => (0 : Int)) (0 : Nat))) (T.ret (AV.bool true)) (T.ret AV.ff)))))))))))))))))))))) (T.need True (T.chk true (T.chk true (T.chk true (T.need (IntRow IntKind.u8 (Blk.mk false [] (1 : Nat) n2 (fun j => [AV.int IntKind.u8 (f2 j)]) [])) (T.chk (decide ((0 : Nat) + Int.toNat (if (4096 : Int) < if (↑l3 : Int) < if (↑l2 : Int) < (↑l1 : Int) then (↑l2 : Int) else (↑l1 : Int) then (↑l3 : Int) else if (↑l2 : Int) < (↑l1 : Int) then (↑l2 : Int) else (↑l1 : Int) then (4096 : Int) else if (↑l3 : Int) < if (↑l2 : Int) < (↑l1 : Int) then (↑l2 : Int) else (↑l1 : Int) then (↑l3 : Int) else if (↑l2 : Int) < (↑l1 : Int) then (↑l2 : Int) else (↑l1 : Int)) ≤ n2)) (T.chk (decide (Int.toNat (if (4096 : Int) < if (↑l3 : Int) < if (↑l2 : Int) < (↑l1 : Int) then (↑l2 : Int) else (↑l1 : Int) then (↑l3 : Int) else if (↑l2 : Int) < (↑l1 : Int) then (↑l2 : Int) else (↑l1 : Int) then (4096 : Int) else if (↑l3 : Int) < if (↑l2 : Int) < (↑l1 : Int) then (↑l2 : Int) else (↑l1 : Int) then (↑l3 : Int) else if (↑l2 : Int) < (↑l1 : Int) then (↑l2 : Int) else (↑l1 : Int)) ≤ (4611686018427387904 : Nat))) (T.chk true (T.need (IntRow IntKind.u8 (Blk.mk false [] (1 : Nat) n2 (fun j => [AV.int IntKind.u8 (f2 j)]) [])) (T.need (IntRow IntKind.u8 (Blk.mk false [] (1 : Nat) n3 (fun j => [AV.int IntKind.u8 (f3 j)]) [])) (T.chk (decide ((0 : Nat) + Int.toNat (if (4096 : Int) < if (↑l3 : Int) < if (↑l2 : Int) < (↑l1 : Int) then (↑l2 : Int) else (↑l1 : Int) then (↑l3 : Int) else if (↑l2 : Int) < (↑l1 : Int) then (↑l2 : Int) else (↑l1 : Int) then (4096 : Int) else if (↑l3 : Int) < if (↑l2 : Int) < (↑l1 : Int) then (↑l2 : Int) else (↑l1 : Int) then (↑l3 : Int) else if (↑l2 : Int) < (↑l1 : Int) then (↑l2 : Int) else (↑l1 : Int)) ≤ n2)) (T.chk (decide (Int.toNat (if (4096 : Int) < if (↑l3 : Int) < if (↑l2 : Int) < (↑l1 : Int) then (↑l2 : Int) else (↑l1 : Int) then (↑l3 : Int) else if (↑l2 : Int) < (↑l1 : Int) then (↑l2 : Int) else (↑l1 : Int) then (4096 : Int) else if (↑l3 : Int) < if (↑l2 : Int) < (↑l1 : Int) then (↑l2 : Int) else (↑l1 : Int) then (↑l3 : Int) else if (↑l2 : Int) < (↑l1 : Int) then (↑l2 : Int) else (↑l1 : Int)) ≤ (4294967296 : Nat))) (T.chk (decide ((0 : Nat) + Int.toNat (if (4096 : Int) < if (↑l3 : Int) < if (↑l2 : Int) < (↑l1 : Int) then (↑l2 : Int) else (↑l1 : Int) then (↑l3 : Int) else if (↑l2 : Int) < (↑l1 : Int) then (↑l2 : Int) else (↑l1 : Int) then (4096 : Int) else if (↑l3 : Int) < if (↑l2 : Int) < (↑l1 : Int) then (↑l2 : Int) else (↑l1 : Int) then (↑l3 : Int) else if (↑l2 : Int) < (↑l1 : Int) then (↑l2 : Int) else (↑l1 : Int)) ≤ n3)) (T.chk (decide (Int.toNat (if (4096 : Int) < if (↑l3 : Int) < if (↑l2 : Int) < (↑l1 : Int) then (↑l2 : Int) else (↑l1 : Int) then (↑l3 : Int) else if (↑l2 : Int) < (↑l1 : Int) then (↑l2 : Int) else (↑l1 : Int) then (4096 : Int) else if (↑l3 : Int) < if (↑l2 : Int) < (↑l1 : Int) then (↑l2 : Int) else (↑l1 : Int) then (↑l3 : Int) else if (↑l2 : Int) < (↑l1 : Int) then (↑l2 : Int) else (↑l1 : Int)) ≤ (4611686018427387904 : Nat))) (T.ite (decide ((0 : Nat) < Int.toNat (if (4096 : Int) < if (↑l3 : Int) < if (↑l2 : Int) < (↑l1 : Int) then (↑l2 : Int) else (↑l1 : Int) then (↑l3 : Int) else if (↑l2 : Int) < (↑l1 : Int) then (↑l2 : Int) else (↑l1 : Int) then (4096 : Int) else if (↑l3 : Int) < if (↑l2 : Int) < (↑l1 : Int) then (↑l2 : Int) else (↑l1 : Int) then (↑l3 : Int) else if (↑l2 : Int) < (↑l1 : Int) then (↑l2 : Int) else (↑l1 : Int)))) (T.all fun c => T.asm (decide (Int.toNat (if (4096 : Int) < if (↑l3 : Int) < if (↑l2 : Int) < (↑l1 : Int) then (↑l2 : Int) else (↑l1 : Int) then (↑l3 : Int) else if (↑l2 : Int) < (↑l1 : Int) then (↑l2 : Int) else (↑l1 : Int) then (4096 : Int) else if (↑l3 : Int) < if (↑l2 : Int) < (↑l1 : Int) then (↑l2 : Int) else (↑l1 : Int) then (↑l3 : Int) else if (↑l2 : Int) < (↑l1 : Int) then (↑l2 : Int) else (↑l1 : Int)) ≤ c)) (T.need (IntRow IntKind.u8 (Blk.mk true [] (1 : Nat) c (fun j => [AV.int IntKind.u8 (xrF (fun d => f2 ((0 : Nat) + d)) (fun d => f3 ((0 : Nat) + d)) (Int.toNat (if (4096 : Int) < if (↑l3 : Int) < if (↑l2 : Int) < (↑l1 : Int) then (↑l2 : Int) else (↑l1 : Int) then (↑l3 : Int) else if (↑l2 : Int) < (↑l1 : Int) then (↑l2 : Int) else (↑l1 : Int) then (4096 : Int) else if (↑l3 : Int) < if (↑l2 : Int) < (↑l1 : Int) then (↑l2 : Int) else (↑l1 : Int) then (↑l3 : Int) else if (↑l2 : Int) < (↑l1 : Int) then (↑l2 : Int) else (↑l1 : Int))) (Int.toNat (if (4096 : Int) < if (↑l3 : Int) < if (↑l2 : Int) < (↑l1 : Int) then (↑l2 : Int) else (↑l1 : Int) then (↑l3 : Int) else if (↑l2 : Int) < (↑l1 : Int) then (↑l2 : Int) else (↑l1 : Int) then (4096 : Int) else if (↑l3 : Int) < if (↑l2 : Int) < (↑l1 : Int) then (↑l2 : Int) else (↑l1 : Int) then (↑l3 : Int) else if (↑l2 : Int) < (↑l1 : Int) then (↑l2 : Int) else (↑l1 : Int))) j)]) [])) (T.chk (decide ((0 : Nat) + Int.toNat (if (4096 : Int) < if (↑l3 : Int) < if (↑l2 : Int) < (↑l1 : Int) then (↑l2 : Int) else (↑l1 : Int) then (↑l3 : Int) else if (↑l2 : Int) < (↑l1 : Int) then (↑l2 : Int) else (↑l1 : Int) then (4096 : Int) else if (↑l3 : Int) < if (↑l2 : Int) < (↑l1 : Int) then (↑l2 : Int) else (↑l1 : Int) then (↑l3 : Int) else if (↑l2 : Int) < (↑l1 : Int) then (↑l2 : Int) else (↑l1 : Int)) ≤ c)) (T.chk (decide (Int.toNat (if (4096 : Int) < if (↑l3 : Int) < if (↑l2 : Int) < (↑l1 : Int) then (↑l2 : Int) else (↑l1 : Int) then (↑l3 : Int) else if (↑l2 : Int) < (↑l1 : Int) then (↑l2 : Int) else (↑l1 : Int) then (4096 : Int) else if (↑l3 : Int) < if (↑l2 : Int) < (↑l1 : Int) then (↑l2 : Int) else (↑l1 : Int) then (↑l3 : Int) else if (↑l2 : Int) < (↑l1 : Int) then (↑l2 : Int) else (↑l1 : Int)) ≤ (4611686018427387904 : Nat))) (T.chk true (T.ite (bits BinOp.xor IntKind.u32 (moreI (0 : Int) (fun i => f1 ((0 : Nat) + i)) (Int.toNat (if (4096 : Int) < if (↑l3 : Int) < if (↑l2 : Int) < (↑l1 : Int) then (↑l2 : Int) else (↑l1 : Int) then (↑l3 : Int) else if (↑l2 : Int) < (↑l1 : Int) then (↑l2 : Int) else (↑l1 : Int) then (4096 : Int) else if (↑l3 : Int) < if (↑l2 : Int) < (↑l1 : Int) then (↑l2 : Int) else (↑l1 : Int) then (↑l3 : Int) else if (↑l2 : Int) < (↑l1 : Int) then (↑l2 : Int) else (↑l1 : Int)))) (moreI (0 : Int) (fun x => (0 : Int)) (0 : Nat)) == bits BinOp.xor IntKind.u32 (moreI (0 : Int) (fun i => f2 ((0 : Nat) + i)) (Int.toNat (if (4096 : Int) < if (↑l3 : Int) < if (↑l2 : Int) < (↑l1 : Int) then (↑l2 : Int) else (↑l1 : Int) then (↑l3 : Int) else if (↑l2 : Int) < (↑l1 : Int) then (↑l2 : Int) else (↑l1 : Int) then (4096 : Int) else if (↑l3 : Int) < if (↑l2 : Int) < (↑l1 : Int) then (↑l2 : Int) else (↑l1 : Int) then (↑l3 : Int) else if (↑l2 : Int) < (↑l1 : Int) then (↑l2 : Int) else (↑l1 : Int)))) (moreI (0 : Int) (fun i => xrF (fun d => f2 ((0 : Nat) + d)) (fun d => f3 ((0 : Nat) + d)) (Int.toNat (if (4096 : Int) < if (↑l3 : Int) < if (↑l2 : Int) < (↑l1 : Int) then (↑l2 : Int) else (↑l1 : Int) then (↑l3 : Int) else if (↑l2 : Int) < (↑l1 : Int) then (↑l2 : Int) else (↑l1 : Int) then (4096 : Int) else if (↑l3 : Int) < if (↑l2 : Int) < (↑l1 : Int) then (↑l2 : Int) else (↑l1 : Int) then (↑l3 : Int) else if (↑l2 : Int) < (↑l1 : Int) then (↑l2 : Int) else (↑l1 : Int))) (Int.toNat (if (4096 : Int) < if (↑l3 : Int) < if (↑l2 : Int) < (↑l1 : Int) then (↑l2 : Int) else (↑l1 : Int) then (↑l3 : Int) else if (↑l2 : Int) < (↑l1 : Int) then (↑l2 : Int) else (↑l1 : Int) then (4096 : Int) else if (↑l3 : Int) < if (↑l2 : Int) < (↑l1 : Int) then (↑l2 : Int) else (↑l1 : Int) then (↑l3 : Int) else if (↑l2 : Int) < (↑l1 : Int) then (↑l2 : Int) else (↑l1 : Int))) ((0 : Nat) + i)) (Int.toNat (if (4096 : Int) < if (↑l3 : Int) < if (↑l2 : Int) < (↑l1 : Int) then (↑l2 : Int) else (↑l1 : Int) then (↑l3 : Int) else if (↑l2 : Int) < (↑l1 : Int) then (↑l2 : Int) else (↑l1 : Int) then (4096 : Int) else if (↑l3 : Int) < if (↑l2 : Int) < (↑l1 : Int) then (↑l2 : Int) else (↑l1 : Int) then (↑l3 : Int) else if (↑l2 : Int) < (↑l1 : Int) then (↑l2 : Int) else (↑l1 : Int))))) (T.ret (AV.bool true)) (T.ret AV.ff))))))) (T.need True (T.chk true (T.chk true (T.chk true (T.ite (bits BinOp.xor IntKind.u32 (moreI (0 : Int) (fun i => f1 ((0 : Nat) + i)) (Int.toNat (if (4096 : Int) < if (↑l3 : Int) < if (↑l2 : Int) < (↑l1 : Int) then (↑l2 : Int) else (↑l1 : Int) then (↑l3 : Int) else if (↑l2 : Int) < (↑l1 : Int) then (↑l2 : Int) else (↑l1 : Int) then (4096 : Int) else if (↑l3 : Int) < if (↑l2 : Int) < (↑l1 : Int) then (↑l2 : Int) else (↑l1 : Int) then (↑l3 : Int) else if (↑l2 : Int) < (↑l1 : Int) then (↑l2 : Int) else (↑l1 : Int)))) (moreI (0 : Int) (fun x => (0 : Int)) (0 : Nat)) == bits BinOp.xor IntKind.u32 (moreI (0 : Int) (fun i => f2 ((0 : Nat) + i)) (Int.toNat (if (4096 : Int) < if (↑l3 : Int) < if (↑l2 : Int) < (↑l1 : Int) then (↑l2 : Int) else (↑l1 : Int) then (↑l3 : Int) else if (↑l2 : Int) < (↑l1 : Int) then (↑l2 : Int) else (↑l1 : Int) then (4096 : Int) else if (↑l3 : Int) < if (↑l2 : Int) < (↑l1 : Int) then (↑l2 : Int) else (↑l1 : Int) then (↑l3 : Int) else if (↑l2 : Int) < (↑l1 : Int) then (↑l2 : Int) else (↑l1 : Int)))) (moreI (0 : Int) (fun x => (0 : Int)) (0 : Nat))) (T.ret (AV.bool true)) (T.ret AV.ff)))))))))))))))))))))))))))))))))) := by
  kernel_rfl

theorem tu_sss_holds (n1 : Nat) (f1 : Nat → Int) (l1 c1 : Nat) (n2 : Nat) (f2 : Nat → Int) (l2 c2 : Nat) (n3 : Nat) (f3 : Nat → Int) (l3 c3 : Nat) (hl1 : l1 ≤ c1) (hc1 : c1 ≤ n1) (hb1 : InB f1 c1) (hl2 : l2 ≤ c2) (hc2 : c2 ≤ n2) (hb2 : InB f2 c2) (hl3 : l3 ≤ c3) (hc3 : c3 ≤ n3) (hb3 : InB f3 c3) : ((afn Tryd.prog (inlE Tryd.prog ltB2 lwL Tryd.f5 3) Tryd.f5 (codeOf Tryd.f5) [.sl 0 0 1 0 l1 c1, .sl 1 0 1 0 l2 c2, .sl 2 0 1 0 l3 c3] [some (cbV n1 f1), some (cbV n2 f2), some (cbV n3 f3)]).bind fun r => .ret r.1).holds fun v => v.yes = true := by
  refine T.cut_eq (tu_sss n1 f1 l1 c1 n2 f2 l2 c2 n3 f3 l3 c3) ?_
  generalize hm : (if (4096 : Int) < (if (l3 : Int) < (if (l2 : Int) < (l1 : Int) then (l2 : Int) else (l1 : Int)) then (l3 : Int) else (if (l2 : Int) < (l1 : Int) then (l2 : Int) else (l1 : Int))) then (4096 : Int) else (if (l3 : Int) < (if (l2 : Int) < (l1 : Int) then (l2 : Int) else (l1 : Int)) then (l3 : Int) else (if (l2 : Int) < (l1 : Int) then (l2 : Int) else (l1 : Int)))) = m0
  have hb : 0 ≤ m0 ∧ m0 ≤ (l1 : Int) ∧ m0 ≤ (l2 : Int) ∧ m0 ≤ (l3 : Int) ∧ m0 ≤ 4096 := by
    rw [← hm]; refine ⟨?_, ?_, ?_, ?_, ?_⟩ <;> (repeat' split) <;> omega
  obtain ⟨N, rfl⟩ : ∃ N : Nat, m0 = (N : Int) := ⟨m0.toNat, by omega⟩
  clear hm
  try rw [show Int.toNat (N : Int) = N from rfl]
  have i1 : InB (fun d => f1 (0 + d)) N := fun d hd => hb1 _ (by omega)
  have i2 : InB (fun d => f2 (0 + d)) N := fun d hd => hb2 _ (by omega)
  have i3 : InB (fun d => f3 (0 + d)) N := fun d hd => hb3 _ (by omega)
  have E := (turns_eq i1 i3).trans (turns_eq i2 i3).symm
  have Z := moreI_zz
  revert Z E
  generalize moreI = M
  intro E Z
  repeat' first | with_reducible refine T.hneed rfl ?_ | with_reducible refine T.hneed trivial ?_ | with_reducible refine T.hall (fun _ => ?_) | with_reducible refine T.hasmP (fun _ => ?_) | with_reducible refine T.hasm (fun _ => ?_) | with_reducible refine T.hchkT ?_ | with_reducible refine T.hiteP (fun _ => ?_) (fun _ => ?_) | with_reducible refine T.hiteE (fun _ => ?_) (fun _ => ?_) | with_reducible refine T.hiteN (fun _ => ?_) (fun _ => ?_) | with_reducible refine T.hiteFP (fun _ => ?_) (fun _ => ?_) | with_reducible refine T.hiteFE (fun _ => ?_) (fun _ => ?_) | with_reducible refine T.hite (fun _ => ?_) (fun _ => ?_) | with_reducible refine T.hchk ?_ ?_ | with_reducible refine T.hneed ?_ ?_ | with_reducible refine T.hret ?_
  all_goals first
    | exact IntRow.rows
    | (simp only [Bool.and_eq_true, decide_eq_true_eq]; omega)
    | trivial
    | exact (rfl : (AV.bool true).yes = true)
    | (exfalso; rename_i h; exact h E)
    | (exfalso; omega)
    | (exfalso; rename_i h; obtain rfl : N = 0 := by omega
       simp only [Z] at h; exact h (by decide))
    | skip

theorem tu_ssn (n1 : Nat) (f1 : Nat → Int) (l1 c1 : Nat) (n2 : Nat) (f2 : Nat → Int) (l2 c2 : Nat) : T.cut (((afn Tryd.prog (inlE Tryd.prog ltB2 lwL Tryd.f5 2) Tryd.f5 (codeOf Tryd.f5) [.sl 0 0 1 0 l1 c1, .sl 1 0 1 0 l2 c2, .nils] [some (cbV n1 f1), some (cbV n2 f2)]).bind fun r => .ret r.1)) [2, 0] = 
  T.chk
    (decide ((0 : Int) ≤ if (4096 : Int) < if (0 : Int) < if (↑l2 : Int) < (↑l1 : Int) then (↑l2 : Int) else (↑l1 : Int) then (0 : Int) else if (↑l2 : Int) < (↑l1 : Int) then (↑l2 : Int) else (↑l1 : Int) then (4096 : Int) else if (0 : Int) < if (↑l2 : Int) < (↑l1 : Int) then (↑l2 : Int) else (↑l1 : Int) then (0 : Int) else if (↑l2 : Int) < (↑l1 : Int) then (↑l2 : Int) else (↑l1 : Int)) &&
      decide ((if (4096 : Int) < if (0 : Int) < if (↑l2 : Int) < (↑l1 : Int) then (↑l2 : Int) else (↑l1 : Int) then (0 : Int) else if (↑l2 : Int) < (↑l1 : Int) then (↑l2 : Int) else (↑l1 : Int) then (4096 : Int) else if (0 : Int) < if (↑l2 : Int) < (↑l1 : Int) then (↑l2 : Int) else (↑l1 : Int) then (0 : Int) else if (↑l2 : Int) < (↑l1 : Int) then (↑l2 : Int) else (↑l1 : Int)) ≤ (↑c1 : Int)))
    (T.chk
      (decide ((0 : Int) ≤ if (4096 : Int) < if (0 : Int) < if (↑l2 : Int) < (↑l1 : Int) then (↑l2 : Int) else (↑l1 : Int) then (0 : Int) else if (↑l2 : Int) < (↑l1 : Int) then (↑l2 : Int) else (↑l1 : Int) then (4096 : Int) else if (0 : Int) < if (↑l2 : Int) < (↑l1 : Int) then (↑l2 : Int) else (↑l1 : Int) then (0 : Int) else if (↑l2 : Int) < (↑l1 : Int) then (↑l2 : Int) else (↑l1 : Int)) &&
        decide ((if (4096 : Int) < if (0 : Int) < if (↑l2 : Int) < (↑l1 : Int) then (↑l2 : Int) else (↑l1 : Int) then (0 : Int) else if (↑l2 : Int) < (↑l1 : Int) then (↑l2 : Int) else (↑l1 : Int) then (4096 : Int) else if (0 : Int) < if (↑l2 : Int) < (↑l1 : Int) then (↑l2 : Int) else (↑l1 : Int) then (0 : Int) else if (↑l2 : Int) < (↑l1 : Int) then (↑l2 : Int) else (↑l1 : Int)) ≤ (↑c2 : Int)))
      (T.chk
        (decide ((0 : Int) ≤ if (4096 : Int) < if (0 : Int) < if (↑l2 : Int) < (↑l1 : Int) then (↑l2 : Int) else (↑l1 : Int) then (0 : Int) else if (↑l2 : Int) < (↑l1 : Int) then (↑l2 : Int) else (↑l1 : Int) then (4096 : Int) else if (0 : Int) < if (↑l2 : Int) < (↑l1 : Int) then (↑l2 : Int) else (↑l1 : Int) then (0 : Int) else if (↑l2 : Int) < (↑l1 : Int) then (↑l2 : Int) else (↑l1 : Int)) &&
          decide
            ((if (4096 : Int) < if (0 : Int) < if (↑l2 : Int) < (↑l1 : Int) then (↑l2 : Int) else (↑l1 : Int) then (0 : Int) else if (↑l2 : Int) < (↑l1 : Int) then (↑l2 : Int) else (↑l1 : Int) then (4096 : Int) else if (0 : Int) < if (↑l2 : Int) < (↑l1 : Int) then (↑l2 : Int) else (↑l1 : Int) then (0 : Int) else if (↑l2 : Int) < (↑l1 : Int) then (↑l2 : Int) else (↑l1 : Int)) ≤ (↑(0 : Nat) : Int)))
        (T.need (IntRow IntKind.u8 (Blk.mk false [] (1 : Nat) n1 (fun j => [AV.int IntKind.u8 (f1 j)]) []))
          (T.chk
            (decide
              ((0 : Nat) +
                  Int.toNat (if (4096 : Int) < if (0 : Int) < if (↑l2 : Int) < (↑l1 : Int) then (↑l2 : Int) else (↑l1 : Int) then (0 : Int) else if (↑l2 : Int) < (↑l1 : Int) then (↑l2 : Int) else (↑l1 : Int) then (4096 : Int) else if (0 : Int) < if (↑l2 : Int) < (↑l1 : Int) then (↑l2 : Int) else (↑l1 : Int) then (0 : Int) else if (↑l2 : Int) < (↑l1 : Int) then (↑l2 : Int) else (↑l1 : Int)) ≤
                n1))
            (T.chk
              (decide
                (Int.toNat (if (4096 : Int) < if (0 : Int) < if (↑l2 : Int) < (↑l1 : Int) then (↑l2 : Int) else (↑l1 : Int) then (0 : Int) else if (↑l2 : Int) < (↑l1 : Int) then (↑l2 : Int) else (↑l1 : Int) then (4096 : Int) else if (0 : Int) < if (↑l2 : Int) < (↑l1 : Int) then (↑l2 : Int) else (↑l1 : Int) then (0 : Int) else if (↑l2 : Int) < (↑l1 : Int) then (↑l2 : Int) else (↑l1 : Int)) ≤
                  (4611686018427387904 : Nat)))
              (T.chk true
                (T.need (IntRow IntKind.u8 (Blk.mk false [] (1 : Nat) n1 (fun j => [AV.int IntKind.u8 (f1 j)]) []))
                  (T.chk
                    (decide
                      (Int.toNat (if (4096 : Int) < if (0 : Int) < if (↑l2 : Int) < (↑l1 : Int) then (↑l2 : Int) else (↑l1 : Int) then (0 : Int) else if (↑l2 : Int) < (↑l1 : Int) then (↑l2 : Int) else (↑l1 : Int) then (4096 : Int) else if (0 : Int) < if (↑l2 : Int) < (↑l1 : Int) then (↑l2 : Int) else (↑l1 : Int) then (0 : Int) else if (↑l2 : Int) < (↑l1 : Int) then (↑l2 : Int) else (↑l1 : Int)) =
                        (0 : Nat)))
                    (T.chk true
                      (T.need True
                        (T.chk true
                          (T.chk true
                            (T.chk true
                              (T.need (IntRow IntKind.u8 (Blk.mk false [] (1 : Nat) n2 (fun j => [AV.int IntKind.u8 (f2 j)]) []))
                                (T.chk
                                  (decide
                                    ((0 : Nat) +
                                        Int.toNat
                                          (if (4096 : Int) < if (0 : Int) < if (↑l2 : Int) < (↑l1 : Int) then (↑l2 : Int) else (↑l1 : Int) then (0 : Int) else if (↑l2 : Int) < (↑l1 : Int) then (↑l2 : Int) else (↑l1 : Int) then (4096 : Int)
                                          else if (0 : Int) < if (↑l2 : Int) < (↑l1 : Int) then (↑l2 : Int) else (↑l1 : Int) then (0 : Int) else if (↑l2 : Int) < (↑l1 : Int) then (↑l2 : Int) else (↑l1 : Int)) ≤
                                      n2))
                                  (T.chk
                                    (decide
                                      (Int.toNat
                                          (if (4096 : Int) < if (0 : Int) < if (↑l2 : Int) < (↑l1 : Int) then (↑l2 : Int) else (↑l1 : Int) then (0 : Int) else if (↑l2 : Int) < (↑l1 : Int) then (↑l2 : Int) else (↑l1 : Int) then (4096 : Int)
                                          else if (0 : Int) < if (↑l2 : Int) < (↑l1 : Int) then (↑l2 : Int) else (↑l1 : Int) then (0 : Int) else if (↑l2 : Int) < (↑l1 : Int) then (↑l2 : Int) else (↑l1 : Int)) ≤
                                        (4611686018427387904 : Nat)))
                                    (T.chk true
                                      (T.need (IntRow IntKind.u8 (Blk.mk false [] (1 : Nat) n2 (fun j => [AV.int IntKind.u8 (f2 j)]) []))
                                        (T.chk
                                          (decide
                                            (Int.toNat
                                                (if (4096 : Int) < if (0 : Int) < if (↑l2 : Int) < (↑l1 : Int) then (↑l2 : Int) else (↑l1 : Int) then (0 : Int) else if (↑l2 : Int) < (↑l1 : Int) then (↑l2 : Int) else (↑l1 : Int) then (4096 : Int)
                                                else if (0 : Int) < if (↑l2 : Int) < (↑l1 : Int) then (↑l2 : Int) else (↑l1 : Int) then (0 : Int) else if (↑l2 : Int) < (↑l1 : Int) then (↑l2 : Int) else (↑l1 : Int)) =
                                              (0 : Nat)))
                                          (T.chk true
                                            (T.need True
                                              (T.chk true
                                                (T.chk true
                                                  (T.chk true
                                                    (T.ite
                                                      (bits BinOp.xor IntKind.u32
                                                          (moreI (0 : Int) (fun i => f1 ((0 : Nat) + i))
                                                            (Int.toNat
                                                              (if (4096 : Int) < if (0 : Int) < if (↑l2 : Int) < (↑l1 : Int) then (↑l2 : Int) else (↑l1 : Int) then (0 : Int) else if (↑l2 : Int) < (↑l1 : Int) then (↑l2 : Int) else (↑l1 : Int) then (4096 : Int)
                                                              else if (0 : Int) < if (↑l2 : Int) < (↑l1 : Int) then (↑l2 : Int) else (↑l1 : Int) then (0 : Int) else if (↑l2 : Int) < (↑l1 : Int) then (↑l2 : Int) else (↑l1 : Int))))
                                                          (moreI (0 : Int) (fun x => (0 : Int)) (0 : Nat)) ==
                                                        bits BinOp.xor IntKind.u32
                                                          (moreI (0 : Int) (fun i => f2 ((0 : Nat) + i))
                                                            (Int.toNat
                                                              (if (4096 : Int) < if (0 : Int) < if (↑l2 : Int) < (↑l1 : Int) then (↑l2 : Int) else (↑l1 : Int) then (0 : Int) else if (↑l2 : Int) < (↑l1 : Int) then (↑l2 : Int) else (↑l1 : Int) then (4096 : Int)
                                                              else if (0 : Int) < if (↑l2 : Int) < (↑l1 : Int) then (↑l2 : Int) else (↑l1 : Int) then (0 : Int) else if (↑l2 : Int) < (↑l1 : Int) then (↑l2 : Int) else (↑l1 : Int))))
                                                          (moreI (0 : Int) (fun x => (0 : Int)) (0 : Nat)))
                                                      (T.ret (AV.bool true)) (T.ret AV.ff)))))))))))))))))))))))))) := by
  kernel_rfl

theorem tu_ssn_holds (n1 : Nat) (f1 : Nat → Int) (l1 c1 : Nat) (n2 : Nat) (f2 : Nat → Int) (l2 c2 : Nat) (hl1 : l1 ≤ c1) (hc1 : c1 ≤ n1) (hb1 : InB f1 c1) (hl2 : l2 ≤ c2) (hc2 : c2 ≤ n2) (hb2 : InB f2 c2) : ((afn Tryd.prog (inlE Tryd.prog ltB2 lwL Tryd.f5 2) Tryd.f5 (codeOf Tryd.f5) [.sl 0 0 1 0 l1 c1, .sl 1 0 1 0 l2 c2, .nils] [some (cbV n1 f1), some (cbV n2 f2)]).bind fun r => .ret r.1).holds fun v => v.yes = true := by
  refine T.cut_eq (tu_ssn n1 f1 l1 c1 n2 f2 l2 c2) ?_
  generalize hm : (if (4096 : Int) < (if (0 : Int) < (if (l2 : Int) < (l1 : Int) then (l2 : Int) else (l1 : Int)) then (0 : Int) else (if (l2 : Int) < (l1 : Int) then (l2 : Int) else (l1 : Int))) then (4096 : Int) else (if (0 : Int) < (if (l2 : Int) < (l1 : Int) then (l2 : Int) else (l1 : Int)) then (0 : Int) else (if (l2 : Int) < (l1 : Int) then (l2 : Int) else (l1 : Int)))) = m0
  have hb : 0 ≤ m0 ∧ m0 ≤ (l1 : Int) ∧ m0 ≤ (l2 : Int) ∧ m0 ≤ (0 : Int) ∧ m0 ≤ 4096 := by
    rw [← hm]; refine ⟨?_, ?_, ?_, ?_, ?_⟩ <;> (repeat' split) <;> omega
  obtain ⟨N, rfl⟩ : ∃ N : Nat, m0 = (N : Int) := ⟨m0.toNat, by omega⟩
  clear hm
  try rw [show Int.toNat (N : Int) = N from rfl]
  have Z := moreI_zz
  revert Z
  generalize moreI = M
  intro Z
  repeat' first | with_reducible refine T.hneed rfl ?_ | with_reducible refine T.hneed trivial ?_ | with_reducible refine T.hall (fun _ => ?_) | with_reducible refine T.hasmP (fun _ => ?_) | with_reducible refine T.hasm (fun _ => ?_) | with_reducible refine T.hchkT ?_ | with_reducible refine T.hiteP (fun _ => ?_) (fun _ => ?_) | with_reducible refine T.hiteE (fun _ => ?_) (fun _ => ?_) | with_reducible refine T.hiteN (fun _ => ?_) (fun _ => ?_) | with_reducible refine T.hiteFP (fun _ => ?_) (fun _ => ?_) | with_reducible refine T.hiteFE (fun _ => ?_) (fun _ => ?_) | with_reducible refine T.hite (fun _ => ?_) (fun _ => ?_) | with_reducible refine T.hchk ?_ ?_ | with_reducible refine T.hneed ?_ ?_ | with_reducible refine T.hret ?_
  all_goals first
    | exact IntRow.rows
    | (simp only [Bool.and_eq_true, decide_eq_true_eq]; omega)
    | trivial
    | exact (rfl : (AV.bool true).yes = true)
    | (exfalso; omega)
    | (exfalso; rename_i h; obtain rfl : N = 0 := by omega
       simp only [Z] at h; exact h (by decide))
    | skip

theorem tu_sns (n1 : Nat) (f1 : Nat → Int) (l1 c1 : Nat) (n3 : Nat) (f3 : Nat → Int) (l3 c3 : Nat) : T.cut (((afn Tryd.prog (inlE Tryd.prog ltB2 lwL Tryd.f5 2) Tryd.f5 (codeOf Tryd.f5) [.sl 0 0 1 0 l1 c1, .nils, .sl 1 0 1 0 l3 c3] [some (cbV n1 f1), some (cbV n3 f3)]).bind fun r => .ret r.1)) [2, 2, 2, 0, 2, 0] = 
  T.chk
    (decide ((0 : Int) ≤ if (4096 : Int) < if (↑l3 : Int) < if (0 : Int) < (↑l1 : Int) then (0 : Int) else (↑l1 : Int) then (↑l3 : Int) else if (0 : Int) < (↑l1 : Int) then (0 : Int) else (↑l1 : Int) then (4096 : Int) else if (↑l3 : Int) < if (0 : Int) < (↑l1 : Int) then (0 : Int) else (↑l1 : Int) then (↑l3 : Int) else if (0 : Int) < (↑l1 : Int) then (0 : Int) else (↑l1 : Int)) &&
      decide ((if (4096 : Int) < if (↑l3 : Int) < if (0 : Int) < (↑l1 : Int) then (0 : Int) else (↑l1 : Int) then (↑l3 : Int) else if (0 : Int) < (↑l1 : Int) then (0 : Int) else (↑l1 : Int) then (4096 : Int) else if (↑l3 : Int) < if (0 : Int) < (↑l1 : Int) then (0 : Int) else (↑l1 : Int) then (↑l3 : Int) else if (0 : Int) < (↑l1 : Int) then (0 : Int) else (↑l1 : Int)) ≤ (↑c1 : Int)))
    (T.chk
      (decide ((0 : Int) ≤ if (4096 : Int) < if (↑l3 : Int) < if (0 : Int) < (↑l1 : Int) then (0 : Int) else (↑l1 : Int) then (↑l3 : Int) else if (0 : Int) < (↑l1 : Int) then (0 : Int) else (↑l1 : Int) then (4096 : Int) else if (↑l3 : Int) < if (0 : Int) < (↑l1 : Int) then (0 : Int) else (↑l1 : Int) then (↑l3 : Int) else if (0 : Int) < (↑l1 : Int) then (0 : Int) else (↑l1 : Int)) &&
        decide ((if (4096 : Int) < if (↑l3 : Int) < if (0 : Int) < (↑l1 : Int) then (0 : Int) else (↑l1 : Int) then (↑l3 : Int) else if (0 : Int) < (↑l1 : Int) then (0 : Int) else (↑l1 : Int) then (4096 : Int) else if (↑l3 : Int) < if (0 : Int) < (↑l1 : Int) then (0 : Int) else (↑l1 : Int) then (↑l3 : Int) else if (0 : Int) < (↑l1 : Int) then (0 : Int) else (↑l1 : Int)) ≤ (↑(0 : Nat) : Int)))
      (T.chk
        (decide ((0 : Int) ≤ if (4096 : Int) < if (↑l3 : Int) < if (0 : Int) < (↑l1 : Int) then (0 : Int) else (↑l1 : Int) then (↑l3 : Int) else if (0 : Int) < (↑l1 : Int) then (0 : Int) else (↑l1 : Int) then (4096 : Int) else if (↑l3 : Int) < if (0 : Int) < (↑l1 : Int) then (0 : Int) else (↑l1 : Int) then (↑l3 : Int) else if (0 : Int) < (↑l1 : Int) then (0 : Int) else (↑l1 : Int)) &&
          decide ((if (4096 : Int) < if (↑l3 : Int) < if (0 : Int) < (↑l1 : Int) then (0 : Int) else (↑l1 : Int) then (↑l3 : Int) else if (0 : Int) < (↑l1 : Int) then (0 : Int) else (↑l1 : Int) then (4096 : Int) else if (↑l3 : Int) < if (0 : Int) < (↑l1 : Int) then (0 : Int) else (↑l1 : Int) then (↑l3 : Int) else if (0 : Int) < (↑l1 : Int) then (0 : Int) else (↑l1 : Int)) ≤ (↑c3 : Int)))
        (T.need (IntRow IntKind.u8 (Blk.mk false [] (1 : Nat) n1 (fun j => [AV.int IntKind.u8 (f1 j)]) []))
          (T.chk
            (decide
              ((0 : Nat) + Int.toNat (if (4096 : Int) < if (↑l3 : Int) < if (0 : Int) < (↑l1 : Int) then (0 : Int) else (↑l1 : Int) then (↑l3 : Int) else if (0 : Int) < (↑l1 : Int) then (0 : Int) else (↑l1 : Int) then (4096 : Int) else if (↑l3 : Int) < if (0 : Int) < (↑l1 : Int) then (0 : Int) else (↑l1 : Int) then (↑l3 : Int) else if (0 : Int) < (↑l1 : Int) then (0 : Int) else (↑l1 : Int)) ≤ n1))
            (T.chk
              (decide
                (Int.toNat (if (4096 : Int) < if (↑l3 : Int) < if (0 : Int) < (↑l1 : Int) then (0 : Int) else (↑l1 : Int) then (↑l3 : Int) else if (0 : Int) < (↑l1 : Int) then (0 : Int) else (↑l1 : Int) then (4096 : Int) else if (↑l3 : Int) < if (0 : Int) < (↑l1 : Int) then (0 : Int) else (↑l1 : Int) then (↑l3 : Int) else if (0 : Int) < (↑l1 : Int) then (0 : Int) else (↑l1 : Int)) ≤
                  (4611686018427387904 : Nat)))
              (T.chk true
                (T.need (IntRow IntKind.u8 (Blk.mk false [] (1 : Nat) n1 (fun j => [AV.int IntKind.u8 (f1 j)]) []))
                  (T.need (IntRow IntKind.u8 (Blk.mk false [] (1 : Nat) n3 (fun j => [AV.int IntKind.u8 (f3 j)]) []))
                    (T.chk
                      (decide
                        ((0 : Nat) +
                            Int.toNat (if (4096 : Int) < if (↑l3 : Int) < if (0 : Int) < (↑l1 : Int) then (0 : Int) else (↑l1 : Int) then (↑l3 : Int) else if (0 : Int) < (↑l1 : Int) then (0 : Int) else (↑l1 : Int) then (4096 : Int) else if (↑l3 : Int) < if (0 : Int) < (↑l1 : Int) then (0 : Int) else (↑l1 : Int) then (↑l3 : Int) else if (0 : Int) < (↑l1 : Int) then (0 : Int) else (↑l1 : Int)) ≤
                          n1))
                      (T.chk
                        (decide
                          (Int.toNat (if (4096 : Int) < if (↑l3 : Int) < if (0 : Int) < (↑l1 : Int) then (0 : Int) else (↑l1 : Int) then (↑l3 : Int) else if (0 : Int) < (↑l1 : Int) then (0 : Int) else (↑l1 : Int) then (4096 : Int) else if (↑l3 : Int) < if (0 : Int) < (↑l1 : Int) then (0 : Int) else (↑l1 : Int) then (↑l3 : Int) else if (0 : Int) < (↑l1 : Int) then (0 : Int) else (↑l1 : Int)) ≤
                            (4294967296 : Nat)))
                        (T.chk
                          (decide
                            ((0 : Nat) +
                                Int.toNat (if (4096 : Int) < if (↑l3 : Int) < if (0 : Int) < (↑l1 : Int) then (0 : Int) else (↑l1 : Int) then (↑l3 : Int) else if (0 : Int) < (↑l1 : Int) then (0 : Int) else (↑l1 : Int) then (4096 : Int) else if (↑l3 : Int) < if (0 : Int) < (↑l1 : Int) then (0 : Int) else (↑l1 : Int) then (↑l3 : Int) else if (0 : Int) < (↑l1 : Int) then (0 : Int) else (↑l1 : Int)) ≤
                              n3))
                          (T.chk
                            (decide
                              (Int.toNat (if (4096 : Int) < if (↑l3 : Int) < if (0 : Int) < (↑l1 : Int) then (0 : Int) else (↑l1 : Int) then (↑l3 : Int) else if (0 : Int) < (↑l1 : Int) then (0 : Int) else (↑l1 : Int) then (4096 : Int) else if (↑l3 : Int) < if (0 : Int) < (↑l1 : Int) then (0 : Int) else (↑l1 : Int) then (↑l3 : Int) else if (0 : Int) < (↑l1 : Int) then (0 : Int) else (↑l1 : Int)) ≤
                                (4611686018427387904 : Nat)))
                            (T.ite
                              (decide
                                ((0 : Nat) <
                                  Int.toNat (if (4096 : Int) < if (↑l3 : Int) < if (0 : Int) < (↑l1 : Int) then (0 : Int) else (↑l1 : Int) then (↑l3 : Int) else if (0 : Int) < (↑l1 : Int) then (0 : Int) else (↑l1 : Int) then (4096 : Int) else if (↑l3 : Int) < if (0 : Int) < (↑l1 : Int) then (0 : Int) else (↑l1 : Int) then (↑l3 : Int) else if (0 : Int) < (↑l1 : Int) then (0 : Int) else (↑l1 : Int))))
                              (T.all fun c =>
                                T.asm
                                  (decide
                                    (Int.toNat
                                        (if (4096 : Int) < if (↑l3 : Int) < if (0 : Int) < (↑l1 : Int) then (0 : Int) else (↑l1 : Int) then (↑l3 : Int) else if (0 : Int) < (↑l1 : Int) then (0 : Int) else (↑l1 : Int) then (4096 : Int) else if (↑l3 : Int) < if (0 : Int) < (↑l1 : Int) then (0 : Int) else (↑l1 : Int) then (↑l3 : Int) else if (0 : Int) < (↑l1 : Int) then (0 : Int) else (↑l1 : Int)) ≤
                                      c))
                                  (T.need
                                    (IntRow IntKind.u8
                                      (Blk.mk true [] (1 : Nat) c
                                        (fun j =>
                                          [AV.int IntKind.u8
                                              (xrF (fun d => f1 ((0 : Nat) + d)) (fun d => f3 ((0 : Nat) + d))
                                                (Int.toNat
                                                  (if (4096 : Int) < if (↑l3 : Int) < if (0 : Int) < (↑l1 : Int) then (0 : Int) else (↑l1 : Int) then (↑l3 : Int) else if (0 : Int) < (↑l1 : Int) then (0 : Int) else (↑l1 : Int) then (4096 : Int)
                                                  else if (↑l3 : Int) < if (0 : Int) < (↑l1 : Int) then (0 : Int) else (↑l1 : Int) then (↑l3 : Int) else if (0 : Int) < (↑l1 : Int) then (0 : Int) else (↑l1 : Int)))
                                                (Int.toNat
                                                  (if (4096 : Int) < if (↑l3 : Int) < if (0 : Int) < (↑l1 : Int) then (0 : Int) else (↑l1 : Int) then (↑l3 : Int) else if (0 : Int) < (↑l1 : Int) then (0 : Int) else (↑l1 : Int) then (4096 : Int)
                                                  else if (↑l3 : Int) < if (0 : Int) < (↑l1 : Int) then (0 : Int) else (↑l1 : Int) then (↑l3 : Int) else if (0 : Int) < (↑l1 : Int) then (0 : Int) else (↑l1 : Int)))
                                                j)])
                                        []))
                                    (T.chk
                                      (decide
                                        ((0 : Nat) +
                                            Int.toNat
                                              (if (4096 : Int) < if (↑l3 : Int) < if (0 : Int) < (↑l1 : Int) then (0 : Int) else (↑l1 : Int) then (↑l3 : Int) else if (0 : Int) < (↑l1 : Int) then (0 : Int) else (↑l1 : Int) then (4096 : Int)
                                              else if (↑l3 : Int) < if (0 : Int) < (↑l1 : Int) then (0 : Int) else (↑l1 : Int) then (↑l3 : Int) else if (0 : Int) < (↑l1 : Int) then (0 : Int) else (↑l1 : Int)) ≤
                                          c))
                                      (T.chk
                                        (decide
                                          (Int.toNat
                                              (if (4096 : Int) < if (↑l3 : Int) < if (0 : Int) < (↑l1 : Int) then (0 : Int) else (↑l1 : Int) then (↑l3 : Int) else if (0 : Int) < (↑l1 : Int) then (0 : Int) else (↑l1 : Int) then (4096 : Int)
                                              else if (↑l3 : Int) < if (0 : Int) < (↑l1 : Int) then (0 : Int) else (↑l1 : Int) then (↑l3 : Int) else if (0 : Int) < (↑l1 : Int) then (0 : Int) else (↑l1 : Int)) ≤
                                            (4611686018427387904 : Nat)))
                                        (T.chk true
                                          (T.need True
                                            (T.chk true
                                              (T.chk true
                                                (T.chk true
                                                  (T.need (IntRow IntKind.u8 (Blk.mk false [] (1 : Nat) n3 (fun j => [AV.int IntKind.u8 (f3 j)]) []))
                                                    (T.need True
                                                      (T.chk true
                                                        (T.chk true
                                                          (T.chk true
                                                            (T.ite
                                                              (bits BinOp.xor IntKind.u32
                                                                  (moreI (0 : Int) (fun i => f1 ((0 : Nat) + i))
                                                                    (Int.toNat
                                                                      (if (4096 : Int) < if (↑l3 : Int) < if (0 : Int) < (↑l1 : Int) then (0 : Int) else (↑l1 : Int) then (↑l3 : Int) else if (0 : Int) < (↑l1 : Int) then (0 : Int) else (↑l1 : Int) then (4096 : Int)
                                                                      else if (↑l3 : Int) < if (0 : Int) < (↑l1 : Int) then (0 : Int) else (↑l1 : Int) then (↑l3 : Int) else if (0 : Int) < (↑l1 : Int) then (0 : Int) else (↑l1 : Int))))
                                                                  (moreI (0 : Int)
                                                                    (fun i =>
                                                                      xrF (fun d => f1 ((0 : Nat) + d)) (fun d => f3 ((0 : Nat) + d))
                                                                        (Int.toNat
                                                                          (if (4096 : Int) < if (↑l3 : Int) < if (0 : Int) < (↑l1 : Int) then (0 : Int) else (↑l1 : Int) then (↑l3 : Int) else if (0 : Int) < (↑l1 : Int) then (0 : Int) else (↑l1 : Int) then (4096 : Int)
                                                                          else if (↑l3 : Int) < if (0 : Int) < (↑l1 : Int) then (0 : Int) else (↑l1 : Int) then (↑l3 : Int) else if (0 : Int) < (↑l1 : Int) then (0 : Int) else (↑l1 : Int)))
                                                                        (Int.toNat
                                                                          (if (4096 : Int) < if (↑l3 : Int) < if (0 : Int) < (↑l1 : Int) then (0 : Int) else (↑l1 : Int) then (↑l3 : Int) else if (0 : Int) < (↑l1 : Int) then (0 : Int) else (↑l1 : Int) then (4096 : Int)
                                                                          else if (↑l3 : Int) < if (0 : Int) < (↑l1 : Int) then (0 : Int) else (↑l1 : Int) then (↑l3 : Int) else if (0 : Int) < (↑l1 : Int) then (0 : Int) else (↑l1 : Int)))
                                                                        ((0 : Nat) + i))
                                                                    (Int.toNat
                                                                      (if (4096 : Int) < if (↑l3 : Int) < if (0 : Int) < (↑l1 : Int) then (0 : Int) else (↑l1 : Int) then (↑l3 : Int) else if (0 : Int) < (↑l1 : Int) then (0 : Int) else (↑l1 : Int) then (4096 : Int)
                                                                      else if (↑l3 : Int) < if (0 : Int) < (↑l1 : Int) then (0 : Int) else (↑l1 : Int) then (↑l3 : Int) else if (0 : Int) < (↑l1 : Int) then (0 : Int) else (↑l1 : Int)))) ==
                                                                bits BinOp.xor IntKind.u32 (moreI (0 : Int) (fun x => (0 : Int)) (0 : Nat)) (moreI (0 : Int) (fun x => (0 : Int)) (0 : Nat)))
                                                              (T.ret (AV.bool true)) (T.ret AV.ff))))))))))))))))
                              (T.need True
                                (T.chk true
                                  (T.chk true
                                    (T.chk true
                                      (T.need True
                                        (T.chk true
                                          (T.chk true
                                            (T.chk true
                                              (T.need (IntRow IntKind.u8 (Blk.mk false [] (1 : Nat) n3 (fun j => [AV.int IntKind.u8 (f3 j)]) []))
                                                (T.need True
                                                  (T.chk true
                                                    (T.chk true
                                                      (T.chk true
                                                        (T.ite
                                                          (bits BinOp.xor IntKind.u32
                                                              (moreI (0 : Int) (fun i => f1 ((0 : Nat) + i))
                                                                (Int.toNat
                                                                  (if (4096 : Int) < if (↑l3 : Int) < if (0 : Int) < (↑l1 : Int) then (0 : Int) else (↑l1 : Int) then (↑l3 : Int) else if (0 : Int) < (↑l1 : Int) then (0 : Int) else (↑l1 : Int) then (4096 : Int)
                                                                  else if (↑l3 : Int) < if (0 : Int) < (↑l1 : Int) then (0 : Int) else (↑l1 : Int) then (↑l3 : Int) else if (0 : Int) < (↑l1 : Int) then (0 : Int) else (↑l1 : Int))))
                                                              (moreI (0 : Int) (fun x => (0 : Int)) (0 : Nat)) ==
                                                            bits BinOp.xor IntKind.u32 (moreI (0 : Int) (fun x => (0 : Int)) (0 : Nat)) (moreI (0 : Int) (fun x => (0 : Int)) (0 : Nat)))
                                                          (T.ret (AV.bool true)) (T.ret AV.ff)))))))))))))))))))))))))))) := by
  kernel_rfl

theorem tu_sns_holds (n1 : Nat) (f1 : Nat → Int) (l1 c1 : Nat) (n3 : Nat) (f3 : Nat → Int) (l3 c3 : Nat) (hl1 : l1 ≤ c1) (hc1 : c1 ≤ n1) (hb1 : InB f1 c1) (hl3 : l3 ≤ c3) (hc3 : c3 ≤ n3) (hb3 : InB f3 c3) : ((afn Tryd.prog (inlE Tryd.prog ltB2 lwL Tryd.f5 2) Tryd.f5 (codeOf Tryd.f5) [.sl 0 0 1 0 l1 c1, .nils, .sl 1 0 1 0 l3 c3] [some (cbV n1 f1), some (cbV n3 f3)]).bind fun r => .ret r.1).holds fun v => v.yes = true := by
  refine T.cut_eq (tu_sns n1 f1 l1 c1 n3 f3 l3 c3) ?_
  generalize hm : (if (4096 : Int) < (if (l3 : Int) < (if (0 : Int) < (l1 : Int) then (0 : Int) else (l1 : Int)) then (l3 : Int) else (if (0 : Int) < (l1 : Int) then (0 : Int) else (l1 : Int))) then (4096 : Int) else (if (l3 : Int) < (if (0 : Int) < (l1 : Int) then (0 : Int) else (l1 : Int)) then (l3 : Int) else (if (0 : Int) < (l1 : Int) then (0 : Int) else (l1 : Int)))) = m0
  have hb : 0 ≤ m0 ∧ m0 ≤ (l1 : Int) ∧ m0 ≤ (0 : Int) ∧ m0 ≤ (l3 : Int) ∧ m0 ≤ 4096 := by
    rw [← hm]; refine ⟨?_, ?_, ?_, ?_, ?_⟩ <;> (repeat' split) <;> omega
  obtain ⟨N, rfl⟩ : ∃ N : Nat, m0 = (N : Int) := ⟨m0.toNat, by omega⟩
  clear hm
  try rw [show Int.toNat (N : Int) = N from rfl]
  have Z := moreI_zz
  revert Z
  generalize moreI = M
  intro Z
  repeat' first | with_reducible refine T.hneed rfl ?_ | with_reducible refine T.hneed trivial ?_ | with_reducible refine T.hall (fun _ => ?_) | with_reducible refine T.hasmP (fun _ => ?_) | with_reducible refine T.hasm (fun _ => ?_) | with_reducible refine T.hchkT ?_ | with_reducible refine T.hiteP (fun _ => ?_) (fun _ => ?_) | with_reducible refine T.hiteE (fun _ => ?_) (fun _ => ?_) | with_reducible refine T.hiteN (fun _ => ?_) (fun _ => ?_) | with_reducible refine T.hiteFP (fun _ => ?_) (fun _ => ?_) | with_reducible refine T.hiteFE (fun _ => ?_) (fun _ => ?_) | with_reducible refine T.hite (fun _ => ?_) (fun _ => ?_) | with_reducible refine T.hchk ?_ ?_ | with_reducible refine T.hneed ?_ ?_ | with_reducible refine T.hret ?_
  all_goals first
    | exact IntRow.rows
    | (simp only [Bool.and_eq_true, decide_eq_true_eq]; omega)
    | trivial
    | exact (rfl : (AV.bool true).yes = true)
    | (exfalso; omega)
    | (exfalso; rename_i h; obtain rfl : N = 0 := by omega
       simp only [Z] at h; exact h (by decide))
    | skip

theorem tu_snn (n1 : Nat) (f1 : Nat → Int) (l1 c1 : Nat) : T.cut (((afn Tryd.prog (inlE Tryd.prog ltB2 lwL Tryd.f5 1) Tryd.f5 (codeOf Tryd.f5) [.sl 0 0 1 0 l1 c1, .nils, .nils] [some (cbV n1 f1)]).bind fun r => .ret r.1)) [2, 0] = 
  T.chk
    (decide ((0 : Int) ≤ if (4096 : Int) < if (0 : Int) < if (0 : Int) < (↑l1 : Int) then (0 : Int) else (↑l1 : Int) then (0 : Int) else if (0 : Int) < (↑l1 : Int) then (0 : Int) else (↑l1 : Int) then (4096 : Int) else if (0 : Int) < if (0 : Int) < (↑l1 : Int) then (0 : Int) else (↑l1 : Int) then (0 : Int) else if (0 : Int) < (↑l1 : Int) then (0 : Int) else (↑l1 : Int)) &&
      decide ((if (4096 : Int) < if (0 : Int) < if (0 : Int) < (↑l1 : Int) then (0 : Int) else (↑l1 : Int) then (0 : Int) else if (0 : Int) < (↑l1 : Int) then (0 : Int) else (↑l1 : Int) then (4096 : Int) else if (0 : Int) < if (0 : Int) < (↑l1 : Int) then (0 : Int) else (↑l1 : Int) then (0 : Int) else if (0 : Int) < (↑l1 : Int) then (0 : Int) else (↑l1 : Int)) ≤ (↑c1 : Int)))
    (T.chk
      (decide ((0 : Int) ≤ if (4096 : Int) < if (0 : Int) < if (0 : Int) < (↑l1 : Int) then (0 : Int) else (↑l1 : Int) then (0 : Int) else if (0 : Int) < (↑l1 : Int) then (0 : Int) else (↑l1 : Int) then (4096 : Int) else if (0 : Int) < if (0 : Int) < (↑l1 : Int) then (0 : Int) else (↑l1 : Int) then (0 : Int) else if (0 : Int) < (↑l1 : Int) then (0 : Int) else (↑l1 : Int)) &&
        decide ((if (4096 : Int) < if (0 : Int) < if (0 : Int) < (↑l1 : Int) then (0 : Int) else (↑l1 : Int) then (0 : Int) else if (0 : Int) < (↑l1 : Int) then (0 : Int) else (↑l1 : Int) then (4096 : Int) else if (0 : Int) < if (0 : Int) < (↑l1 : Int) then (0 : Int) else (↑l1 : Int) then (0 : Int) else if (0 : Int) < (↑l1 : Int) then (0 : Int) else (↑l1 : Int)) ≤ (↑(0 : Nat) : Int)))
      (T.chk
        (decide ((0 : Int) ≤ if (4096 : Int) < if (0 : Int) < if (0 : Int) < (↑l1 : Int) then (0 : Int) else (↑l1 : Int) then (0 : Int) else if (0 : Int) < (↑l1 : Int) then (0 : Int) else (↑l1 : Int) then (4096 : Int) else if (0 : Int) < if (0 : Int) < (↑l1 : Int) then (0 : Int) else (↑l1 : Int) then (0 : Int) else if (0 : Int) < (↑l1 : Int) then (0 : Int) else (↑l1 : Int)) &&
          decide ((if (4096 : Int) < if (0 : Int) < if (0 : Int) < (↑l1 : Int) then (0 : Int) else (↑l1 : Int) then (0 : Int) else if (0 : Int) < (↑l1 : Int) then (0 : Int) else (↑l1 : Int) then (4096 : Int) else if (0 : Int) < if (0 : Int) < (↑l1 : Int) then (0 : Int) else (↑l1 : Int) then (0 : Int) else if (0 : Int) < (↑l1 : Int) then (0 : Int) else (↑l1 : Int)) ≤ (↑(0 : Nat) : Int)))
        (T.need (IntRow IntKind.u8 (Blk.mk false [] (1 : Nat) n1 (fun j => [AV.int IntKind.u8 (f1 j)]) []))
          (T.chk
            (decide ((0 : Nat) + Int.toNat (if (4096 : Int) < if (0 : Int) < if (0 : Int) < (↑l1 : Int) then (0 : Int) else (↑l1 : Int) then (0 : Int) else if (0 : Int) < (↑l1 : Int) then (0 : Int) else (↑l1 : Int) then (4096 : Int) else if (0 : Int) < if (0 : Int) < (↑l1 : Int) then (0 : Int) else (↑l1 : Int) then (0 : Int) else if (0 : Int) < (↑l1 : Int) then (0 : Int) else (↑l1 : Int)) ≤ n1))
            (T.chk
              (decide
                (Int.toNat (if (4096 : Int) < if (0 : Int) < if (0 : Int) < (↑l1 : Int) then (0 : Int) else (↑l1 : Int) then (0 : Int) else if (0 : Int) < (↑l1 : Int) then (0 : Int) else (↑l1 : Int) then (4096 : Int) else if (0 : Int) < if (0 : Int) < (↑l1 : Int) then (0 : Int) else (↑l1 : Int) then (0 : Int) else if (0 : Int) < (↑l1 : Int) then (0 : Int) else (↑l1 : Int)) ≤
                  (4611686018427387904 : Nat)))
              (T.chk true
                (T.need (IntRow IntKind.u8 (Blk.mk false [] (1 : Nat) n1 (fun j => [AV.int IntKind.u8 (f1 j)]) []))
                  (T.chk
                    (decide (Int.toNat (if (4096 : Int) < if (0 : Int) < if (0 : Int) < (↑l1 : Int) then (0 : Int) else (↑l1 : Int) then (0 : Int) else if (0 : Int) < (↑l1 : Int) then (0 : Int) else (↑l1 : Int) then (4096 : Int) else if (0 : Int) < if (0 : Int) < (↑l1 : Int) then (0 : Int) else (↑l1 : Int) then (0 : Int) else if (0 : Int) < (↑l1 : Int) then (0 : Int) else (↑l1 : Int)) = (0 : Nat)))
                    (T.chk true
                      (T.need True
                        (T.chk true
                          (T.chk true
                            (T.chk true
                              (T.need True
                                (T.chk true
                                  (T.chk true
                                    (T.chk true
                                      (T.need True
                                        (T.chk true
                                          (T.chk true
                                            (T.chk true
                                              (T.ite
                                                (bits BinOp.xor IntKind.u32
                                                    (moreI (0 : Int) (fun i => f1 ((0 : Nat) + i))
                                                      (Int.toNat
                                                        (if (4096 : Int) < if (0 : Int) < if (0 : Int) < (↑l1 : Int) then (0 : Int) else (↑l1 : Int) then (0 : Int) else if (0 : Int) < (↑l1 : Int) then (0 : Int) else (↑l1 : Int) then (4096 : Int)
                                                        else if (0 : Int) < if (0 : Int) < (↑l1 : Int) then (0 : Int) else (↑l1 : Int) then (0 : Int) else if (0 : Int) < (↑l1 : Int) then (0 : Int) else (↑l1 : Int))))
                                                    (moreI (0 : Int) (fun x => (0 : Int)) (0 : Nat)) ==
                                                  bits BinOp.xor IntKind.u32 (moreI (0 : Int) (fun x => (0 : Int)) (0 : Nat)) (moreI (0 : Int) (fun x => (0 : Int)) (0 : Nat)))
                                                (T.ret (AV.bool true)) (T.ret AV.ff))))))))))))))))))))))) := by
  kernel_rfl

theorem tu_snn_holds (n1 : Nat) (f1 : Nat → Int) (l1 c1 : Nat) (hl1 : l1 ≤ c1) (hc1 : c1 ≤ n1) (hb1 : InB f1 c1) : ((afn Tryd.prog (inlE Tryd.prog ltB2 lwL Tryd.f5 1) Tryd.f5 (codeOf Tryd.f5) [.sl 0 0 1 0 l1 c1, .nils, .nils] [some (cbV n1 f1)]).bind fun r => .ret r.1).holds fun v => v.yes = true := by
  refine T.cut_eq (tu_snn n1 f1 l1 c1) ?_
  generalize hm : (if (4096 : Int) < (if (0 : Int) < (if (0 : Int) < (l1 : Int) then (0 : Int) else (l1 : Int)) then (0 : Int) else (if (0 : Int) < (l1 : Int) then (0 : Int) else (l1 : Int))) then (4096 : Int) else (if (0 : Int) < (if (0 : Int) < (l1 : Int) then (0 : Int) else (l1 : Int)) then (0 : Int) else (if (0 : Int) < (l1 : Int) then (0 : Int) else (l1 : Int)))) = m0
  have hb : 0 ≤ m0 ∧ m0 ≤ (l1 : Int) ∧ m0 ≤ (0 : Int) ∧ m0 ≤ (0 : Int) ∧ m0 ≤ 4096 := by
    rw [← hm]; refine ⟨?_, ?_, ?_, ?_, ?_⟩ <;> (repeat' split) <;> omega
  obtain ⟨N, rfl⟩ : ∃ N : Nat, m0 = (N : Int) := ⟨m0.toNat, by omega⟩
  clear hm
  try rw [show Int.toNat (N : Int) = N from rfl]
  have Z := moreI_zz
  revert Z
  generalize moreI = M
  intro Z
  repeat' first | with_reducible refine T.hneed rfl ?_ | with_reducible refine T.hneed trivial ?_ | with_reducible refine T.hall (fun _ => ?_) | with_reducible refine T.hasmP (fun _ => ?_) | with_reducible refine T.hasm (fun _ => ?_) | with_reducible refine T.hchkT ?_ | with_reducible refine T.hiteP (fun _ => ?_) (fun _ => ?_) | with_reducible refine T.hiteE (fun _ => ?_) (fun _ => ?_) | with_reducible refine T.hiteN (fun _ => ?_) (fun _ => ?_) | with_reducible refine T.hiteFP (fun _ => ?_) (fun _ => ?_) | with_reducible refine T.hiteFE (fun _ => ?_) (fun _ => ?_) | with_reducible refine T.hite (fun _ => ?_) (fun _ => ?_) | with_reducible refine T.hchk ?_ ?_ | with_reducible refine T.hneed ?_ ?_ | with_reducible refine T.hret ?_
  all_goals first
    | exact IntRow.rows
    | (simp only [Bool.and_eq_true, decide_eq_true_eq]; omega)
    | trivial
    | exact (rfl : (AV.bool true).yes = true)
    | (exfalso; omega)
    | (exfalso; rename_i h; obtain rfl : N = 0 := by omega
       simp only [Z] at h; exact h (by decide))
    | skip

end Go.Proofs.YtglokmbhpmamcaaDoor
