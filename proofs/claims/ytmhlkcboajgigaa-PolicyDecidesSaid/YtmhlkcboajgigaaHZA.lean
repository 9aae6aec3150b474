/-
  Layer 27: PolicyDecides: its pieces.
-/
import Derived.Test.YtmhlkcboajgigaaHY
import Derived.Test.YtmhlkcboajgigaaHSameInts
import Derived.Test.YtmhlkcboajgigaaHCopyInts
namespace Go.Proofs.Ytmhlkcboajgigaa
open Go.Ox
set_option maxRecDepth 100000
set_option linter.unusedVariables false
set_option linter.unusedSimpArgs false

noncomputable def rnE : Env := { nt := Try.f10.ntmps, n0 := 0, fns := [], loop := fun _ _ => .fail }

theorem rn_fn (a b : Int) : afn Try.prog rnE Try.f10 (codeOf Try.f10) [.int .i64 a, .int .i64 b] [] = 
  T.ret (AV.ptr (0 : Nat) (0 : Nat) (0 : Nat) (0 : Nat), [some (Blk.mk true [AV.int IntKind.i64 a, AV.int IntKind.i64 b, AV.int IntKind.i64 (0 : Int), AV.ff] (0 : Nat) (0 : Nat) (fun x => []) [] none)]) := by
  kernel_rfl

theorem rn_ok : SummOK Try.prog 10 (.eff fun args m => lift [] m [] (nwS args)) := by
  refine eff_ok (fun args w => Try.call10 args w) fun args Q hq => ?_
  unfold nwS at hq ⊢
  split at hq
  · rename_i c s
    refine ⟨rfl, fn_ok (E := rnE) (c := codeOf Try.f10) Try.func10 rfl EnvOK.nil (noLoops (by kernel_rfl)) rfl rfl fun Q hq => ?_⟩
    rw [rn_fn]
    have hq : Q (.ptr 0 0 0 0, [some (polB c s 0 false)]) := hq
    refine T.hret (leaf_of id hq (by simp [ren]) (by simp [below]) (Sub.ofId ⟨⟨_, rfl, pol_blk (by simp)⟩, trivial⟩ (by simp)))
  · exact hq.elim

noncomputable def ldE (nt : Nat) : Env := { poE nt with fns := openAll ((10, .eff fun args m => lift [] m [] (nwS args)) :: (15, .eff rdS) :: (16, .pure sameS) :: (13, .eff copyS) :: (laE nt).fns) }

theorem ldE_ok (nt : Nat) : EnvOK Try.prog (ldE nt).fns := EnvOK.open_ (EnvOK.cons rn_ok (EnvOK.cons rd_ok (EnvOK.cons same_ok (EnvOK.cons copy_ok (laE_ok nt)))))

noncomputable def pdC : Code := loopAt (codeOf Try.f3) 0

noncomputable def pdB : Code := inBlk ((chainOf pdC).getD 2 .skip)

def pdInv (x : NO) : Prop := x.q.len ≤ x.q.cap ∧ x.q.cap ≤ maxLen ∧ x.q.x.wf .i64 ∧ x.q.y.wf .i64 ∧ 1 ≤ x.s ∧ x.s ≤ 9223372036854775807 ∧ x.i ≤ 200 ∧ x.i ≤ x.q.len

noncomputable def pdE : Env := { ldE Try.f3.ntmps with n0 := 3, loop := fun k => if k = 8 then loopSumm 3 noSt pdInv noPick (fun _ => endR 3 6) else fun _ => .fail }

/-- A copy. -/
def cpB (z : Nat → Int) (len c : Nat) : Blk := Blk.rows true 1 c fun r => [.int .i64 (if r < len then z r else 0)]

theorem pd_t1 (q : QS) (c s l : Int) (d : Bool) (i : Nat) : keepT [2, 7, 8, 9] (acodeL Try.prog pdE ((chainOf pdC).take 2) (noX ⟨q, c, s, l, d, i⟩ [] [])) = 
  T.ite (decide ((↑i : Int) < (↑(QS.len q) : Int)))
    (T.ite (decide ((↑i : Int) < (200 : Int)))
      (T.ret
        (Ex.norm,
          St.mk [((2 : Nat), AV.sl (2 : Nat) (0 : Nat) (5 : Nat) (0 : Nat) (QS.len q) (QS.cap q)), ((7 : Nat), AV.ptr (3 : Nat) (0 : Nat) (0 : Nat) (0 : Nat)), ((8 : Nat), AV.ptr (4 : Nat) (0 : Nat) (0 : Nat) (0 : Nat)), ((9 : Nat), AV.int IntKind.i64 (↑i : Int))]
            [some (Blk.mk false [] (0 : Nat) (0 : Nat) (fun x => []) [] (some fun js => Mem.mk (FD.nl (QS.x q) js) (FD.ad (QS.x q) js) (FD.ln (QS.x q) js) (FD.cp (QS.x q) js) (1 : Nat) fun q_1 => [AV.int IntKind.i64 (FD.z (QS.x q) (q_1 :: js))])),
              some (Blk.mk false [] (0 : Nat) (0 : Nat) (fun x => []) [] (some fun js => Mem.mk (FD.nl (QS.y q) js) (FD.ad (QS.y q) js) (FD.ln (QS.y q) js) (FD.cp (QS.y q) js) (1 : Nat) fun q_1 => [AV.int IntKind.i64 (FD.z (QS.y q) (q_1 :: js))])),
              some (Blk.mk false [] (5 : Nat) (QS.cap q) (fun r => [AV.int IntKind.i64 (QS.now q r), AV.part (0 : Nat) [r], AV.part (1 : Nat) [r], AV.int IntKind.i64 (QS.no q r), AV.bool (QS.idle q r)]) [] none), some (Blk.mk true [AV.int IntKind.i64 c, AV.int IntKind.i64 s, AV.int IntKind.i64 l, AV.bool d] (0 : Nat) (0 : Nat) (fun x => []) [] none),
              some (Blk.mk true [AV.int IntKind.i64 c, AV.int IntKind.i64 s, AV.int IntKind.i64 l, AV.bool d] (0 : Nat) (0 : Nat) (fun x => []) [] none)]))
      (T.ret
        (Ex.exit (0 : Nat),
          St.mk [((2 : Nat), AV.sl (2 : Nat) (0 : Nat) (5 : Nat) (0 : Nat) (QS.len q) (QS.cap q)), ((7 : Nat), AV.ptr (3 : Nat) (0 : Nat) (0 : Nat) (0 : Nat)), ((8 : Nat), AV.ptr (4 : Nat) (0 : Nat) (0 : Nat) (0 : Nat)), ((9 : Nat), AV.int IntKind.i64 (↑i : Int))]
            [some (Blk.mk false [] (0 : Nat) (0 : Nat) (fun x => []) [] (some fun js => Mem.mk (FD.nl (QS.x q) js) (FD.ad (QS.x q) js) (FD.ln (QS.x q) js) (FD.cp (QS.x q) js) (1 : Nat) fun q_1 => [AV.int IntKind.i64 (FD.z (QS.x q) (q_1 :: js))])),
              some (Blk.mk false [] (0 : Nat) (0 : Nat) (fun x => []) [] (some fun js => Mem.mk (FD.nl (QS.y q) js) (FD.ad (QS.y q) js) (FD.ln (QS.y q) js) (FD.cp (QS.y q) js) (1 : Nat) fun q_1 => [AV.int IntKind.i64 (FD.z (QS.y q) (q_1 :: js))])),
              some (Blk.mk false [] (5 : Nat) (QS.cap q) (fun r => [AV.int IntKind.i64 (QS.now q r), AV.part (0 : Nat) [r], AV.part (1 : Nat) [r], AV.int IntKind.i64 (QS.no q r), AV.bool (QS.idle q r)]) [] none), some (Blk.mk true [AV.int IntKind.i64 c, AV.int IntKind.i64 s, AV.int IntKind.i64 l, AV.bool d] (0 : Nat) (0 : Nat) (fun x => []) [] none),
              some (Blk.mk true [AV.int IntKind.i64 c, AV.int IntKind.i64 s, AV.int IntKind.i64 l, AV.bool d] (0 : Nat) (0 : Nat) (fun x => []) [] none)])))
    (T.ret
      (Ex.exit (0 : Nat),
        St.mk [((2 : Nat), AV.sl (2 : Nat) (0 : Nat) (5 : Nat) (0 : Nat) (QS.len q) (QS.cap q)), ((7 : Nat), AV.ptr (3 : Nat) (0 : Nat) (0 : Nat) (0 : Nat)), ((8 : Nat), AV.ptr (4 : Nat) (0 : Nat) (0 : Nat) (0 : Nat)), ((9 : Nat), AV.int IntKind.i64 (↑i : Int))]
          [some (Blk.mk false [] (0 : Nat) (0 : Nat) (fun x => []) [] (some fun js => Mem.mk (FD.nl (QS.x q) js) (FD.ad (QS.x q) js) (FD.ln (QS.x q) js) (FD.cp (QS.x q) js) (1 : Nat) fun q_1 => [AV.int IntKind.i64 (FD.z (QS.x q) (q_1 :: js))])),
            some (Blk.mk false [] (0 : Nat) (0 : Nat) (fun x => []) [] (some fun js => Mem.mk (FD.nl (QS.y q) js) (FD.ad (QS.y q) js) (FD.ln (QS.y q) js) (FD.cp (QS.y q) js) (1 : Nat) fun q_1 => [AV.int IntKind.i64 (FD.z (QS.y q) (q_1 :: js))])),
            some (Blk.mk false [] (5 : Nat) (QS.cap q) (fun r => [AV.int IntKind.i64 (QS.now q r), AV.part (0 : Nat) [r], AV.part (1 : Nat) [r], AV.int IntKind.i64 (QS.no q r), AV.bool (QS.idle q r)]) [] none), some (Blk.mk true [AV.int IntKind.i64 c, AV.int IntKind.i64 s, AV.int IntKind.i64 l, AV.bool d] (0 : Nat) (0 : Nat) (fun x => []) [] none),
            some (Blk.mk true [AV.int IntKind.i64 c, AV.int IntKind.i64 s, AV.int IntKind.i64 l, AV.bool d] (0 : Nat) (0 : Nat) (fun x => []) [] none)])) := by
  kernel_rfl

theorem pd_t2 (q : QS) (c s l : Int) (d : Bool) (i : Nat) : T.cut (keepT [2, 6, 7, 8, 9, 10, 11, 12] (acodeL Try.prog pdE ((chainOf pdB).take 5) (noX ⟨q, c, s, l, d, i⟩ [] []))) [2, 6, 0, 2, 1, 0, 2, 0, 2, 0, 2, 1, 0, 2, 0] = 
  T.chk (decide ((0 : Int) ≤ (↑i : Int)) && decide ((↑i : Int) < (↑(QS.len q) : Int)))
    (T.chk (decide ((0 : Nat) + Int.toNat (↑i : Int) < QS.cap q))
      (T.chk (decide ((0 : Nat) + Int.toNat (↑i : Int) < QS.cap q))
        (T.chk (decide ((0 : Nat) + Int.toNat (↑i : Int) < QS.cap q))
          (T.chk (decide ((0 : Nat) + Int.toNat (↑i : Int) < QS.cap q))
            (T.chk (decide ((0 : Nat) + Int.toNat (↑i : Int) < QS.cap q))
              (T.ite (FD.nl (QS.x q) [(0 : Nat) + Int.toNat (↑i : Int)])
                (@T.chk (Ex × St) true
                  (T.ite (FD.nl (QS.y q) [(0 : Nat) + Int.toNat (↑i : Int)])
                    (@T.chk (Ex × St) true
                      (T.chk true
                        (T.ret
                          (Ex.norm,
                            St.mk
                              [((2 : Nat), AV.sl (2 : Nat) (0 : Nat) (5 : Nat) (0 : Nat) (QS.len q) (QS.cap q)), ((7 : Nat), AV.ptr (3 : Nat) (0 : Nat) (0 : Nat) (0 : Nat)), ((8 : Nat), AV.ptr (4 : Nat) (0 : Nat) (0 : Nat) (0 : Nat)), ((9 : Nat), AV.int IntKind.i64 (↑i : Int)), ((10 : Nat), AV.ptr (5 : Nat) (0 : Nat) (0 : Nat) (0 : Nat)),
                                ((11 : Nat), AV.int IntKind.i64 (IntKind.wrap IntKind.i64 (myG (QS.now q ((0 : Nat) + Int.toNat (↑i : Int))) - (1 : Int)))), ((12 : Nat), AV.int IntKind.i64 (if (18 : Int) < (1 : Int) then (0 : Int) else QS.no q ((0 : Nat) + Int.toNat (↑i : Int)) % (18 : Int)))]
                              [some (Blk.mk false [] (0 : Nat) (0 : Nat) (fun x => []) [] (some fun js => Mem.mk (FD.nl (QS.x q) js) (FD.ad (QS.x q) js) (FD.ln (QS.x q) js) (FD.cp (QS.x q) js) (1 : Nat) fun q_1 => [AV.int IntKind.i64 (FD.z (QS.x q) (q_1 :: js))])),
                                some (Blk.mk false [] (0 : Nat) (0 : Nat) (fun x => []) [] (some fun js => Mem.mk (FD.nl (QS.y q) js) (FD.ad (QS.y q) js) (FD.ln (QS.y q) js) (FD.cp (QS.y q) js) (1 : Nat) fun q_1 => [AV.int IntKind.i64 (FD.z (QS.y q) (q_1 :: js))])),
                                some (Blk.mk false [] (5 : Nat) (QS.cap q) (fun r => [AV.int IntKind.i64 (QS.now q r), AV.part (0 : Nat) [r], AV.part (1 : Nat) [r], AV.int IntKind.i64 (QS.no q r), AV.bool (QS.idle q r)]) [] none), some (Blk.mk true [AV.int IntKind.i64 c, AV.int IntKind.i64 s, AV.int IntKind.i64 l, AV.bool d] (0 : Nat) (0 : Nat) (fun x => []) [] none),
                                some (Blk.mk true [AV.int IntKind.i64 c, AV.int IntKind.i64 s, AV.int IntKind.i64 l, AV.bool d] (0 : Nat) (0 : Nat) (fun x => []) [] none),
                                some (Blk.mk true [AV.int IntKind.i64 (QS.now q ((0 : Nat) + Int.toNat (↑i : Int))), AV.part (0 : Nat) [(0 : Nat) + Int.toNat (↑i : Int)], AV.part (1 : Nat) [(0 : Nat) + Int.toNat (↑i : Int)], AV.int IntKind.i64 (QS.no q ((0 : Nat) + Int.toNat (↑i : Int))), AV.bool (QS.idle q ((0 : Nat) + Int.toNat (↑i : Int)))] (0 : Nat) (0 : Nat) (fun a => []) [] none)]))))
                    (T.ite (decide ((↑(FD.ln (QS.y q) [(0 : Nat) + Int.toNat (↑i : Int)]) : Int) > (50 : Int)))
                      (T.ret
                        (Ex.ret,
                          St.mk [((2 : Nat), AV.sl (2 : Nat) (0 : Nat) (5 : Nat) (0 : Nat) (QS.len q) (QS.cap q)), ((6 : Nat), AV.bool true), ((7 : Nat), AV.ptr (3 : Nat) (0 : Nat) (0 : Nat) (0 : Nat)), ((8 : Nat), AV.ptr (4 : Nat) (0 : Nat) (0 : Nat) (0 : Nat)), ((9 : Nat), AV.int IntKind.i64 (↑i : Int)), ((10 : Nat), AV.ptr (5 : Nat) (0 : Nat) (0 : Nat) (0 : Nat))]
                            [some (Blk.mk false [] (0 : Nat) (0 : Nat) (fun x => []) [] (some fun js => Mem.mk (FD.nl (QS.x q) js) (FD.ad (QS.x q) js) (FD.ln (QS.x q) js) (FD.cp (QS.x q) js) (1 : Nat) fun q_1 => [AV.int IntKind.i64 (FD.z (QS.x q) (q_1 :: js))])),
                              some (Blk.mk false [] (0 : Nat) (0 : Nat) (fun x => []) [] (some fun js => Mem.mk (FD.nl (QS.y q) js) (FD.ad (QS.y q) js) (FD.ln (QS.y q) js) (FD.cp (QS.y q) js) (1 : Nat) fun q_1 => [AV.int IntKind.i64 (FD.z (QS.y q) (q_1 :: js))])),
                              some (Blk.mk false [] (5 : Nat) (QS.cap q) (fun r => [AV.int IntKind.i64 (QS.now q r), AV.part (0 : Nat) [r], AV.part (1 : Nat) [r], AV.int IntKind.i64 (QS.no q r), AV.bool (QS.idle q r)]) [] none), some (Blk.mk true [AV.int IntKind.i64 c, AV.int IntKind.i64 s, AV.int IntKind.i64 l, AV.bool d] (0 : Nat) (0 : Nat) (fun x => []) [] none),
                              some (Blk.mk true [AV.int IntKind.i64 c, AV.int IntKind.i64 s, AV.int IntKind.i64 l, AV.bool d] (0 : Nat) (0 : Nat) (fun x => []) [] none),
                              some (Blk.mk true [AV.int IntKind.i64 (QS.now q ((0 : Nat) + Int.toNat (↑i : Int))), AV.part (0 : Nat) [(0 : Nat) + Int.toNat (↑i : Int)], AV.part (1 : Nat) [(0 : Nat) + Int.toNat (↑i : Int)], AV.int IntKind.i64 (QS.no q ((0 : Nat) + Int.toNat (↑i : Int))), AV.bool (QS.idle q ((0 : Nat) + Int.toNat (↑i : Int)))] (0 : Nat) (0 : Nat) (fun a => []) [] none),
                              some (Blk.mk false [] (1 : Nat) (FD.cp (QS.y q) [(0 : Nat) + Int.toNat (↑i : Int)]) (fun a => [AV.int IntKind.i64 (FD.z (QS.y q) [a, (0 : Nat) + Int.toNat (↑i : Int)])]) [] none)]))
                      (T.chk true
                        (T.ret
                          (Ex.norm,
                            St.mk
                              [((2 : Nat), AV.sl (2 : Nat) (0 : Nat) (5 : Nat) (0 : Nat) (QS.len q) (QS.cap q)), ((7 : Nat), AV.ptr (3 : Nat) (0 : Nat) (0 : Nat) (0 : Nat)), ((8 : Nat), AV.ptr (4 : Nat) (0 : Nat) (0 : Nat) (0 : Nat)), ((9 : Nat), AV.int IntKind.i64 (↑i : Int)), ((10 : Nat), AV.ptr (5 : Nat) (0 : Nat) (0 : Nat) (0 : Nat)),
                                ((11 : Nat), AV.int IntKind.i64 (IntKind.wrap IntKind.i64 (myG (QS.now q ((0 : Nat) + Int.toNat (↑i : Int))) - (1 : Int)))), ((12 : Nat), AV.int IntKind.i64 (if (18 : Int) < (1 : Int) then (0 : Int) else QS.no q ((0 : Nat) + Int.toNat (↑i : Int)) % (18 : Int)))]
                              [some (Blk.mk false [] (0 : Nat) (0 : Nat) (fun x => []) [] (some fun js => Mem.mk (FD.nl (QS.x q) js) (FD.ad (QS.x q) js) (FD.ln (QS.x q) js) (FD.cp (QS.x q) js) (1 : Nat) fun q_1 => [AV.int IntKind.i64 (FD.z (QS.x q) (q_1 :: js))])),
                                some (Blk.mk false [] (0 : Nat) (0 : Nat) (fun x => []) [] (some fun js => Mem.mk (FD.nl (QS.y q) js) (FD.ad (QS.y q) js) (FD.ln (QS.y q) js) (FD.cp (QS.y q) js) (1 : Nat) fun q_1 => [AV.int IntKind.i64 (FD.z (QS.y q) (q_1 :: js))])),
                                some (Blk.mk false [] (5 : Nat) (QS.cap q) (fun r => [AV.int IntKind.i64 (QS.now q r), AV.part (0 : Nat) [r], AV.part (1 : Nat) [r], AV.int IntKind.i64 (QS.no q r), AV.bool (QS.idle q r)]) [] none), some (Blk.mk true [AV.int IntKind.i64 c, AV.int IntKind.i64 s, AV.int IntKind.i64 l, AV.bool d] (0 : Nat) (0 : Nat) (fun x => []) [] none),
                                some (Blk.mk true [AV.int IntKind.i64 c, AV.int IntKind.i64 s, AV.int IntKind.i64 l, AV.bool d] (0 : Nat) (0 : Nat) (fun x => []) [] none),
                                some (Blk.mk true [AV.int IntKind.i64 (QS.now q ((0 : Nat) + Int.toNat (↑i : Int))), AV.part (0 : Nat) [(0 : Nat) + Int.toNat (↑i : Int)], AV.part (1 : Nat) [(0 : Nat) + Int.toNat (↑i : Int)], AV.int IntKind.i64 (QS.no q ((0 : Nat) + Int.toNat (↑i : Int))), AV.bool (QS.idle q ((0 : Nat) + Int.toNat (↑i : Int)))] (0 : Nat) (0 : Nat) (fun a => []) [] none),
                                some (Blk.mk false [] (1 : Nat) (FD.cp (QS.y q) [(0 : Nat) + Int.toNat (↑i : Int)]) (fun a => [AV.int IntKind.i64 (FD.z (QS.y q) [a, (0 : Nat) + Int.toNat (↑i : Int)])]) [] none)]))))))
                (T.ite (decide ((↑(FD.ln (QS.x q) [(0 : Nat) + Int.toNat (↑i : Int)]) : Int) > (50 : Int)))
                  (T.ret
                    (Ex.ret,
                      St.mk [((2 : Nat), AV.sl (2 : Nat) (0 : Nat) (5 : Nat) (0 : Nat) (QS.len q) (QS.cap q)), ((6 : Nat), AV.bool true), ((7 : Nat), AV.ptr (3 : Nat) (0 : Nat) (0 : Nat) (0 : Nat)), ((8 : Nat), AV.ptr (4 : Nat) (0 : Nat) (0 : Nat) (0 : Nat)), ((9 : Nat), AV.int IntKind.i64 (↑i : Int)), ((10 : Nat), AV.ptr (5 : Nat) (0 : Nat) (0 : Nat) (0 : Nat))]
                        [some (Blk.mk false [] (0 : Nat) (0 : Nat) (fun x => []) [] (some fun js => Mem.mk (FD.nl (QS.x q) js) (FD.ad (QS.x q) js) (FD.ln (QS.x q) js) (FD.cp (QS.x q) js) (1 : Nat) fun q_1 => [AV.int IntKind.i64 (FD.z (QS.x q) (q_1 :: js))])),
                          some (Blk.mk false [] (0 : Nat) (0 : Nat) (fun x => []) [] (some fun js => Mem.mk (FD.nl (QS.y q) js) (FD.ad (QS.y q) js) (FD.ln (QS.y q) js) (FD.cp (QS.y q) js) (1 : Nat) fun q_1 => [AV.int IntKind.i64 (FD.z (QS.y q) (q_1 :: js))])),
                          some (Blk.mk false [] (5 : Nat) (QS.cap q) (fun r => [AV.int IntKind.i64 (QS.now q r), AV.part (0 : Nat) [r], AV.part (1 : Nat) [r], AV.int IntKind.i64 (QS.no q r), AV.bool (QS.idle q r)]) [] none), some (Blk.mk true [AV.int IntKind.i64 c, AV.int IntKind.i64 s, AV.int IntKind.i64 l, AV.bool d] (0 : Nat) (0 : Nat) (fun x => []) [] none),
                          some (Blk.mk true [AV.int IntKind.i64 c, AV.int IntKind.i64 s, AV.int IntKind.i64 l, AV.bool d] (0 : Nat) (0 : Nat) (fun x => []) [] none),
                          some (Blk.mk true [AV.int IntKind.i64 (QS.now q ((0 : Nat) + Int.toNat (↑i : Int))), AV.part (0 : Nat) [(0 : Nat) + Int.toNat (↑i : Int)], AV.part (1 : Nat) [(0 : Nat) + Int.toNat (↑i : Int)], AV.int IntKind.i64 (QS.no q ((0 : Nat) + Int.toNat (↑i : Int))), AV.bool (QS.idle q ((0 : Nat) + Int.toNat (↑i : Int)))] (0 : Nat) (0 : Nat) (fun a => []) [] none),
                          some (Blk.mk false [] (1 : Nat) (FD.cp (QS.x q) [(0 : Nat) + Int.toNat (↑i : Int)]) (fun a => [AV.int IntKind.i64 (FD.z (QS.x q) [a, (0 : Nat) + Int.toNat (↑i : Int)])]) [] none)]))
                  (T.ite (FD.nl (QS.y q) [(0 : Nat) + Int.toNat (↑i : Int)])
                    (@T.chk (Ex × St) true
                      (T.chk true
                        (T.ret
                          (Ex.norm,
                            St.mk
                              [((2 : Nat), AV.sl (2 : Nat) (0 : Nat) (5 : Nat) (0 : Nat) (QS.len q) (QS.cap q)), ((7 : Nat), AV.ptr (3 : Nat) (0 : Nat) (0 : Nat) (0 : Nat)), ((8 : Nat), AV.ptr (4 : Nat) (0 : Nat) (0 : Nat) (0 : Nat)), ((9 : Nat), AV.int IntKind.i64 (↑i : Int)), ((10 : Nat), AV.ptr (5 : Nat) (0 : Nat) (0 : Nat) (0 : Nat)),
                                ((11 : Nat), AV.int IntKind.i64 (IntKind.wrap IntKind.i64 (myG (QS.now q ((0 : Nat) + Int.toNat (↑i : Int))) - (1 : Int)))), ((12 : Nat), AV.int IntKind.i64 (if (18 : Int) < (1 : Int) then (0 : Int) else QS.no q ((0 : Nat) + Int.toNat (↑i : Int)) % (18 : Int)))]
                              [some (Blk.mk false [] (0 : Nat) (0 : Nat) (fun x => []) [] (some fun js => Mem.mk (FD.nl (QS.x q) js) (FD.ad (QS.x q) js) (FD.ln (QS.x q) js) (FD.cp (QS.x q) js) (1 : Nat) fun q_1 => [AV.int IntKind.i64 (FD.z (QS.x q) (q_1 :: js))])),
                                some (Blk.mk false [] (0 : Nat) (0 : Nat) (fun x => []) [] (some fun js => Mem.mk (FD.nl (QS.y q) js) (FD.ad (QS.y q) js) (FD.ln (QS.y q) js) (FD.cp (QS.y q) js) (1 : Nat) fun q_1 => [AV.int IntKind.i64 (FD.z (QS.y q) (q_1 :: js))])),
                                some (Blk.mk false [] (5 : Nat) (QS.cap q) (fun r => [AV.int IntKind.i64 (QS.now q r), AV.part (0 : Nat) [r], AV.part (1 : Nat) [r], AV.int IntKind.i64 (QS.no q r), AV.bool (QS.idle q r)]) [] none), some (Blk.mk true [AV.int IntKind.i64 c, AV.int IntKind.i64 s, AV.int IntKind.i64 l, AV.bool d] (0 : Nat) (0 : Nat) (fun x => []) [] none),
                                some (Blk.mk true [AV.int IntKind.i64 c, AV.int IntKind.i64 s, AV.int IntKind.i64 l, AV.bool d] (0 : Nat) (0 : Nat) (fun x => []) [] none),
                                some (Blk.mk true [AV.int IntKind.i64 (QS.now q ((0 : Nat) + Int.toNat (↑i : Int))), AV.part (0 : Nat) [(0 : Nat) + Int.toNat (↑i : Int)], AV.part (1 : Nat) [(0 : Nat) + Int.toNat (↑i : Int)], AV.int IntKind.i64 (QS.no q ((0 : Nat) + Int.toNat (↑i : Int))), AV.bool (QS.idle q ((0 : Nat) + Int.toNat (↑i : Int)))] (0 : Nat) (0 : Nat) (fun a => []) [] none),
                                some (Blk.mk false [] (1 : Nat) (FD.cp (QS.x q) [(0 : Nat) + Int.toNat (↑i : Int)]) (fun a => [AV.int IntKind.i64 (FD.z (QS.x q) [a, (0 : Nat) + Int.toNat (↑i : Int)])]) [] none)]))))
                    (T.ite (decide ((↑(FD.ln (QS.y q) [(0 : Nat) + Int.toNat (↑i : Int)]) : Int) > (50 : Int)))
                      (T.ret
                        (Ex.ret,
                          St.mk [((2 : Nat), AV.sl (2 : Nat) (0 : Nat) (5 : Nat) (0 : Nat) (QS.len q) (QS.cap q)), ((6 : Nat), AV.bool true), ((7 : Nat), AV.ptr (3 : Nat) (0 : Nat) (0 : Nat) (0 : Nat)), ((8 : Nat), AV.ptr (4 : Nat) (0 : Nat) (0 : Nat) (0 : Nat)), ((9 : Nat), AV.int IntKind.i64 (↑i : Int)), ((10 : Nat), AV.ptr (5 : Nat) (0 : Nat) (0 : Nat) (0 : Nat))]
                            [some (Blk.mk false [] (0 : Nat) (0 : Nat) (fun x => []) [] (some fun js => Mem.mk (FD.nl (QS.x q) js) (FD.ad (QS.x q) js) (FD.ln (QS.x q) js) (FD.cp (QS.x q) js) (1 : Nat) fun q_1 => [AV.int IntKind.i64 (FD.z (QS.x q) (q_1 :: js))])),
                              some (Blk.mk false [] (0 : Nat) (0 : Nat) (fun x => []) [] (some fun js => Mem.mk (FD.nl (QS.y q) js) (FD.ad (QS.y q) js) (FD.ln (QS.y q) js) (FD.cp (QS.y q) js) (1 : Nat) fun q_1 => [AV.int IntKind.i64 (FD.z (QS.y q) (q_1 :: js))])),
                              some (Blk.mk false [] (5 : Nat) (QS.cap q) (fun r => [AV.int IntKind.i64 (QS.now q r), AV.part (0 : Nat) [r], AV.part (1 : Nat) [r], AV.int IntKind.i64 (QS.no q r), AV.bool (QS.idle q r)]) [] none), some (Blk.mk true [AV.int IntKind.i64 c, AV.int IntKind.i64 s, AV.int IntKind.i64 l, AV.bool d] (0 : Nat) (0 : Nat) (fun x => []) [] none),
                              some (Blk.mk true [AV.int IntKind.i64 c, AV.int IntKind.i64 s, AV.int IntKind.i64 l, AV.bool d] (0 : Nat) (0 : Nat) (fun x => []) [] none),
                              some (Blk.mk true [AV.int IntKind.i64 (QS.now q ((0 : Nat) + Int.toNat (↑i : Int))), AV.part (0 : Nat) [(0 : Nat) + Int.toNat (↑i : Int)], AV.part (1 : Nat) [(0 : Nat) + Int.toNat (↑i : Int)], AV.int IntKind.i64 (QS.no q ((0 : Nat) + Int.toNat (↑i : Int))), AV.bool (QS.idle q ((0 : Nat) + Int.toNat (↑i : Int)))] (0 : Nat) (0 : Nat) (fun a => []) [] none),
                              some (Blk.mk false [] (1 : Nat) (FD.cp (QS.x q) [(0 : Nat) + Int.toNat (↑i : Int)]) (fun a => [AV.int IntKind.i64 (FD.z (QS.x q) [a, (0 : Nat) + Int.toNat (↑i : Int)])]) [] none), some (Blk.mk false [] (1 : Nat) (FD.cp (QS.y q) [(0 : Nat) + Int.toNat (↑i : Int)]) (fun a => [AV.int IntKind.i64 (FD.z (QS.y q) [a, (0 : Nat) + Int.toNat (↑i : Int)])]) [] none)]))
                      (T.chk true
                        (T.ret
                          (Ex.norm,
                            St.mk
                              [((2 : Nat), AV.sl (2 : Nat) (0 : Nat) (5 : Nat) (0 : Nat) (QS.len q) (QS.cap q)), ((7 : Nat), AV.ptr (3 : Nat) (0 : Nat) (0 : Nat) (0 : Nat)), ((8 : Nat), AV.ptr (4 : Nat) (0 : Nat) (0 : Nat) (0 : Nat)), ((9 : Nat), AV.int IntKind.i64 (↑i : Int)), ((10 : Nat), AV.ptr (5 : Nat) (0 : Nat) (0 : Nat) (0 : Nat)),
                                ((11 : Nat), AV.int IntKind.i64 (IntKind.wrap IntKind.i64 (myG (QS.now q ((0 : Nat) + Int.toNat (↑i : Int))) - (1 : Int)))), ((12 : Nat), AV.int IntKind.i64 (if (18 : Int) < (1 : Int) then (0 : Int) else QS.no q ((0 : Nat) + Int.toNat (↑i : Int)) % (18 : Int)))]
                              [some (Blk.mk false [] (0 : Nat) (0 : Nat) (fun x => []) [] (some fun js => Mem.mk (FD.nl (QS.x q) js) (FD.ad (QS.x q) js) (FD.ln (QS.x q) js) (FD.cp (QS.x q) js) (1 : Nat) fun q_1 => [AV.int IntKind.i64 (FD.z (QS.x q) (q_1 :: js))])),
                                some (Blk.mk false [] (0 : Nat) (0 : Nat) (fun x => []) [] (some fun js => Mem.mk (FD.nl (QS.y q) js) (FD.ad (QS.y q) js) (FD.ln (QS.y q) js) (FD.cp (QS.y q) js) (1 : Nat) fun q_1 => [AV.int IntKind.i64 (FD.z (QS.y q) (q_1 :: js))])),
                                some (Blk.mk false [] (5 : Nat) (QS.cap q) (fun r => [AV.int IntKind.i64 (QS.now q r), AV.part (0 : Nat) [r], AV.part (1 : Nat) [r], AV.int IntKind.i64 (QS.no q r), AV.bool (QS.idle q r)]) [] none), some (Blk.mk true [AV.int IntKind.i64 c, AV.int IntKind.i64 s, AV.int IntKind.i64 l, AV.bool d] (0 : Nat) (0 : Nat) (fun x => []) [] none),
                                some (Blk.mk true [AV.int IntKind.i64 c, AV.int IntKind.i64 s, AV.int IntKind.i64 l, AV.bool d] (0 : Nat) (0 : Nat) (fun x => []) [] none),
                                some (Blk.mk true [AV.int IntKind.i64 (QS.now q ((0 : Nat) + Int.toNat (↑i : Int))), AV.part (0 : Nat) [(0 : Nat) + Int.toNat (↑i : Int)], AV.part (1 : Nat) [(0 : Nat) + Int.toNat (↑i : Int)], AV.int IntKind.i64 (QS.no q ((0 : Nat) + Int.toNat (↑i : Int))), AV.bool (QS.idle q ((0 : Nat) + Int.toNat (↑i : Int)))] (0 : Nat) (0 : Nat) (fun a => []) [] none),
                                some (Blk.mk false [] (1 : Nat) (FD.cp (QS.x q) [(0 : Nat) + Int.toNat (↑i : Int)]) (fun a => [AV.int IntKind.i64 (FD.z (QS.x q) [a, (0 : Nat) + Int.toNat (↑i : Int)])]) [] none),
                                some (Blk.mk false [] (1 : Nat) (FD.cp (QS.y q) [(0 : Nat) + Int.toNat (↑i : Int)]) (fun a => [AV.int IntKind.i64 (FD.z (QS.y q) [a, (0 : Nat) + Int.toNat (↑i : Int)])]) [] none)])))))))))))) := by
  kernel_rfl

theorem pd_t3 (q : QS) (c s l : Int) (d : Bool) (i : Nat) (now no : Int) : T.cut (keepT [2, 6, 7, 8, 9, 10, 11, 12, 13, 14] (acodeL Try.prog pdE (((chainOf pdB).drop 5).take 2) (noX ⟨q, c, s, l, d, i⟩ [(10, .ptr 5 0 0 0), (11, .int .i64 now), (12, .int .i64 no)] [some (xB q i)]))) [2, 4, 2, 0, 2, 0, 2, 4, 2, 0, 2, 0, 2, 0, 2, 0] = 
  T.ite (FD.nl (QS.x q) [i])
    (T.ite (FD.nl (QS.y q) [i])
      (T.ret
        (Ex.norm,
          St.mk
            [((2 : Nat), AV.sl (2 : Nat) (0 : Nat) (5 : Nat) (0 : Nat) (QS.len q) (QS.cap q)), ((7 : Nat), AV.ptr (3 : Nat) (0 : Nat) (0 : Nat) (0 : Nat)), ((8 : Nat), AV.ptr (4 : Nat) (0 : Nat) (0 : Nat) (0 : Nat)), ((9 : Nat), AV.int IntKind.i64 (↑i : Int)), ((10 : Nat), AV.ptr (5 : Nat) (0 : Nat) (0 : Nat) (0 : Nat)), ((11 : Nat), AV.int IntKind.i64 now), ((12 : Nat), AV.int IntKind.i64 no),
              ((13 : Nat), AV.nils), ((14 : Nat), AV.nils)]
            [some (Blk.mk false [] (0 : Nat) (0 : Nat) (fun x => []) [] (some fun js => Mem.mk (FD.nl (QS.x q) js) (FD.ad (QS.x q) js) (FD.ln (QS.x q) js) (FD.cp (QS.x q) js) (1 : Nat) fun q_1 => [AV.int IntKind.i64 (FD.z (QS.x q) (q_1 :: js))])),
              some (Blk.mk false [] (0 : Nat) (0 : Nat) (fun x => []) [] (some fun js => Mem.mk (FD.nl (QS.y q) js) (FD.ad (QS.y q) js) (FD.ln (QS.y q) js) (FD.cp (QS.y q) js) (1 : Nat) fun q_1 => [AV.int IntKind.i64 (FD.z (QS.y q) (q_1 :: js))])),
              some (Blk.mk false [] (5 : Nat) (QS.cap q) (fun r => [AV.int IntKind.i64 (QS.now q r), AV.part (0 : Nat) [r], AV.part (1 : Nat) [r], AV.int IntKind.i64 (QS.no q r), AV.bool (QS.idle q r)]) [] none), some (Blk.mk true [AV.int IntKind.i64 c, AV.int IntKind.i64 s, AV.int IntKind.i64 l, AV.bool d] (0 : Nat) (0 : Nat) (fun x => []) [] none),
              some (Blk.mk true [AV.int IntKind.i64 c, AV.int IntKind.i64 s, AV.int IntKind.i64 l, AV.bool d] (0 : Nat) (0 : Nat) (fun x => []) [] none), some (Blk.mk true [AV.int IntKind.i64 (QS.now q i), AV.part (0 : Nat) [i], AV.part (1 : Nat) [i], AV.int IntKind.i64 (QS.no q i), AV.bool (QS.idle q i)] (0 : Nat) (0 : Nat) (fun x => []) [] none)]))
      (T.need (IntRow IntKind.i64 (Blk.mk false [] (1 : Nat) (FD.cp (QS.y q) [i]) (fun a => [AV.int IntKind.i64 (FD.z (QS.y q) [a, i])]) [] none))
        (T.chk (decide ((0 : Nat) + FD.ln (QS.y q) [i] ≤ FD.cp (QS.y q) [i]))
          (T.chk (decide (FD.ln (QS.y q) [i] ≤ (4294967296 : Nat)))
            (T.ite (decide ((0 : Nat) < FD.ln (QS.y q) [i]))
              (T.all fun c_1 =>
                T.asm (decide (FD.ln (QS.y q) [i] ≤ c_1))
                  (T.ret
                    (Ex.norm,
                      St.mk
                        [((2 : Nat), AV.sl (2 : Nat) (0 : Nat) (5 : Nat) (0 : Nat) (QS.len q) (QS.cap q)), ((7 : Nat), AV.ptr (3 : Nat) (0 : Nat) (0 : Nat) (0 : Nat)), ((8 : Nat), AV.ptr (4 : Nat) (0 : Nat) (0 : Nat) (0 : Nat)), ((9 : Nat), AV.int IntKind.i64 (↑i : Int)), ((10 : Nat), AV.ptr (5 : Nat) (0 : Nat) (0 : Nat) (0 : Nat)), ((11 : Nat), AV.int IntKind.i64 now),
                          ((12 : Nat), AV.int IntKind.i64 no), ((13 : Nat), AV.nils), ((14 : Nat), AV.sl (7 : Nat) (0 : Nat) (1 : Nat) (0 : Nat) (FD.ln (QS.y q) [i]) c_1)]
                        [some (Blk.mk false [] (0 : Nat) (0 : Nat) (fun x => []) [] (some fun js => Mem.mk (FD.nl (QS.x q) js) (FD.ad (QS.x q) js) (FD.ln (QS.x q) js) (FD.cp (QS.x q) js) (1 : Nat) fun q_1 => [AV.int IntKind.i64 (FD.z (QS.x q) (q_1 :: js))])),
                          some (Blk.mk false [] (0 : Nat) (0 : Nat) (fun x => []) [] (some fun js => Mem.mk (FD.nl (QS.y q) js) (FD.ad (QS.y q) js) (FD.ln (QS.y q) js) (FD.cp (QS.y q) js) (1 : Nat) fun q_1 => [AV.int IntKind.i64 (FD.z (QS.y q) (q_1 :: js))])),
                          some (Blk.mk false [] (5 : Nat) (QS.cap q) (fun r => [AV.int IntKind.i64 (QS.now q r), AV.part (0 : Nat) [r], AV.part (1 : Nat) [r], AV.int IntKind.i64 (QS.no q r), AV.bool (QS.idle q r)]) [] none), some (Blk.mk true [AV.int IntKind.i64 c, AV.int IntKind.i64 s, AV.int IntKind.i64 l, AV.bool d] (0 : Nat) (0 : Nat) (fun x => []) [] none),
                          some (Blk.mk true [AV.int IntKind.i64 c, AV.int IntKind.i64 s, AV.int IntKind.i64 l, AV.bool d] (0 : Nat) (0 : Nat) (fun x => []) [] none), some (Blk.mk true [AV.int IntKind.i64 (QS.now q i), AV.part (0 : Nat) [i], AV.part (1 : Nat) [i], AV.int IntKind.i64 (QS.no q i), AV.bool (QS.idle q i)] (0 : Nat) (0 : Nat) (fun x => []) [] none),
                          some (Blk.mk false [] (1 : Nat) (FD.cp (QS.y q) [i]) (fun a => [AV.int IntKind.i64 (FD.z (QS.y q) [a, i])]) [] none), some (Blk.mk true [] (1 : Nat) c_1 (fun j => [AV.int IntKind.i64 (if j < FD.ln (QS.y q) [i] then FD.z (QS.y q) [(0 : Nat) + ((0 : Nat) + j), i] else (0 : Int))]) [] none)])))
              (T.ret
                (Ex.norm,
                  St.mk
                    [((2 : Nat), AV.sl (2 : Nat) (0 : Nat) (5 : Nat) (0 : Nat) (QS.len q) (QS.cap q)), ((7 : Nat), AV.ptr (3 : Nat) (0 : Nat) (0 : Nat) (0 : Nat)), ((8 : Nat), AV.ptr (4 : Nat) (0 : Nat) (0 : Nat) (0 : Nat)), ((9 : Nat), AV.int IntKind.i64 (↑i : Int)), ((10 : Nat), AV.ptr (5 : Nat) (0 : Nat) (0 : Nat) (0 : Nat)), ((11 : Nat), AV.int IntKind.i64 now),
                      ((12 : Nat), AV.int IntKind.i64 no), ((13 : Nat), AV.nils), ((14 : Nat), AV.nils)]
                    [some (Blk.mk false [] (0 : Nat) (0 : Nat) (fun x => []) [] (some fun js => Mem.mk (FD.nl (QS.x q) js) (FD.ad (QS.x q) js) (FD.ln (QS.x q) js) (FD.cp (QS.x q) js) (1 : Nat) fun q_1 => [AV.int IntKind.i64 (FD.z (QS.x q) (q_1 :: js))])),
                      some (Blk.mk false [] (0 : Nat) (0 : Nat) (fun x => []) [] (some fun js => Mem.mk (FD.nl (QS.y q) js) (FD.ad (QS.y q) js) (FD.ln (QS.y q) js) (FD.cp (QS.y q) js) (1 : Nat) fun q_1 => [AV.int IntKind.i64 (FD.z (QS.y q) (q_1 :: js))])),
                      some (Blk.mk false [] (5 : Nat) (QS.cap q) (fun r => [AV.int IntKind.i64 (QS.now q r), AV.part (0 : Nat) [r], AV.part (1 : Nat) [r], AV.int IntKind.i64 (QS.no q r), AV.bool (QS.idle q r)]) [] none), some (Blk.mk true [AV.int IntKind.i64 c, AV.int IntKind.i64 s, AV.int IntKind.i64 l, AV.bool d] (0 : Nat) (0 : Nat) (fun x => []) [] none),
                      some (Blk.mk true [AV.int IntKind.i64 c, AV.int IntKind.i64 s, AV.int IntKind.i64 l, AV.bool d] (0 : Nat) (0 : Nat) (fun x => []) [] none), some (Blk.mk true [AV.int IntKind.i64 (QS.now q i), AV.part (0 : Nat) [i], AV.part (1 : Nat) [i], AV.int IntKind.i64 (QS.no q i), AV.bool (QS.idle q i)] (0 : Nat) (0 : Nat) (fun x => []) [] none),
                      some (Blk.mk false [] (1 : Nat) (FD.cp (QS.y q) [i]) (fun a => [AV.int IntKind.i64 (FD.z (QS.y q) [a, i])]) [] none)])))))))
    (T.need (IntRow IntKind.i64 (Blk.mk false [] (1 : Nat) (FD.cp (QS.x q) [i]) (fun a => [AV.int IntKind.i64 (FD.z (QS.x q) [a, i])]) [] none))
      (T.chk (decide ((0 : Nat) + FD.ln (QS.x q) [i] ≤ FD.cp (QS.x q) [i]))
        (T.chk (decide (FD.ln (QS.x q) [i] ≤ (4294967296 : Nat)))
          (T.ite (decide ((0 : Nat) < FD.ln (QS.x q) [i]))
            (T.all fun c_1 =>
              T.asm (decide (FD.ln (QS.x q) [i] ≤ c_1))
                (T.ite (FD.nl (QS.y q) [i])
                  (T.ret
                    (Ex.norm,
                      St.mk
                        [((2 : Nat), AV.sl (2 : Nat) (0 : Nat) (5 : Nat) (0 : Nat) (QS.len q) (QS.cap q)), ((7 : Nat), AV.ptr (3 : Nat) (0 : Nat) (0 : Nat) (0 : Nat)), ((8 : Nat), AV.ptr (4 : Nat) (0 : Nat) (0 : Nat) (0 : Nat)), ((9 : Nat), AV.int IntKind.i64 (↑i : Int)), ((10 : Nat), AV.ptr (5 : Nat) (0 : Nat) (0 : Nat) (0 : Nat)), ((11 : Nat), AV.int IntKind.i64 now),
                          ((12 : Nat), AV.int IntKind.i64 no), ((13 : Nat), AV.sl (7 : Nat) (0 : Nat) (1 : Nat) (0 : Nat) (FD.ln (QS.x q) [i]) c_1), ((14 : Nat), AV.nils)]
                        [some (Blk.mk false [] (0 : Nat) (0 : Nat) (fun x => []) [] (some fun js => Mem.mk (FD.nl (QS.x q) js) (FD.ad (QS.x q) js) (FD.ln (QS.x q) js) (FD.cp (QS.x q) js) (1 : Nat) fun q_1 => [AV.int IntKind.i64 (FD.z (QS.x q) (q_1 :: js))])),
                          some (Blk.mk false [] (0 : Nat) (0 : Nat) (fun x => []) [] (some fun js => Mem.mk (FD.nl (QS.y q) js) (FD.ad (QS.y q) js) (FD.ln (QS.y q) js) (FD.cp (QS.y q) js) (1 : Nat) fun q_1 => [AV.int IntKind.i64 (FD.z (QS.y q) (q_1 :: js))])),
                          some (Blk.mk false [] (5 : Nat) (QS.cap q) (fun r => [AV.int IntKind.i64 (QS.now q r), AV.part (0 : Nat) [r], AV.part (1 : Nat) [r], AV.int IntKind.i64 (QS.no q r), AV.bool (QS.idle q r)]) [] none), some (Blk.mk true [AV.int IntKind.i64 c, AV.int IntKind.i64 s, AV.int IntKind.i64 l, AV.bool d] (0 : Nat) (0 : Nat) (fun x => []) [] none),
                          some (Blk.mk true [AV.int IntKind.i64 c, AV.int IntKind.i64 s, AV.int IntKind.i64 l, AV.bool d] (0 : Nat) (0 : Nat) (fun x => []) [] none), some (Blk.mk true [AV.int IntKind.i64 (QS.now q i), AV.part (0 : Nat) [i], AV.part (1 : Nat) [i], AV.int IntKind.i64 (QS.no q i), AV.bool (QS.idle q i)] (0 : Nat) (0 : Nat) (fun x => []) [] none),
                          some (Blk.mk false [] (1 : Nat) (FD.cp (QS.x q) [i]) (fun a => [AV.int IntKind.i64 (FD.z (QS.x q) [a, i])]) [] none), some (Blk.mk true [] (1 : Nat) c_1 (fun j => [AV.int IntKind.i64 (if j < FD.ln (QS.x q) [i] then FD.z (QS.x q) [(0 : Nat) + ((0 : Nat) + j), i] else (0 : Int))]) [] none)]))
                  (T.need (IntRow IntKind.i64 (Blk.mk false [] (1 : Nat) (FD.cp (QS.y q) [i]) (fun a => [AV.int IntKind.i64 (FD.z (QS.y q) [a, i])]) [] none))
                    (T.chk (decide ((0 : Nat) + FD.ln (QS.y q) [i] ≤ FD.cp (QS.y q) [i]))
                      (T.chk (decide (FD.ln (QS.y q) [i] ≤ (4294967296 : Nat)))
                        (T.ite (decide ((0 : Nat) < FD.ln (QS.y q) [i]))
                          (T.all fun c_2 =>
                            T.asm (decide (FD.ln (QS.y q) [i] ≤ c_2))
                              (T.ret
                                (Ex.norm,
                                  St.mk
                                    [((2 : Nat), AV.sl (2 : Nat) (0 : Nat) (5 : Nat) (0 : Nat) (QS.len q) (QS.cap q)), ((7 : Nat), AV.ptr (3 : Nat) (0 : Nat) (0 : Nat) (0 : Nat)), ((8 : Nat), AV.ptr (4 : Nat) (0 : Nat) (0 : Nat) (0 : Nat)), ((9 : Nat), AV.int IntKind.i64 (↑i : Int)), ((10 : Nat), AV.ptr (5 : Nat) (0 : Nat) (0 : Nat) (0 : Nat)), ((11 : Nat), AV.int IntKind.i64 now),
                                      ((12 : Nat), AV.int IntKind.i64 no), ((13 : Nat), AV.sl (7 : Nat) (0 : Nat) (1 : Nat) (0 : Nat) (FD.ln (QS.x q) [i]) c_1), ((14 : Nat), AV.sl (9 : Nat) (0 : Nat) (1 : Nat) (0 : Nat) (FD.ln (QS.y q) [i]) c_2)]
                                    [some (Blk.mk false [] (0 : Nat) (0 : Nat) (fun x => []) [] (some fun js => Mem.mk (FD.nl (QS.x q) js) (FD.ad (QS.x q) js) (FD.ln (QS.x q) js) (FD.cp (QS.x q) js) (1 : Nat) fun q_1 => [AV.int IntKind.i64 (FD.z (QS.x q) (q_1 :: js))])),
                                      some (Blk.mk false [] (0 : Nat) (0 : Nat) (fun x => []) [] (some fun js => Mem.mk (FD.nl (QS.y q) js) (FD.ad (QS.y q) js) (FD.ln (QS.y q) js) (FD.cp (QS.y q) js) (1 : Nat) fun q_1 => [AV.int IntKind.i64 (FD.z (QS.y q) (q_1 :: js))])),
                                      some (Blk.mk false [] (5 : Nat) (QS.cap q) (fun r => [AV.int IntKind.i64 (QS.now q r), AV.part (0 : Nat) [r], AV.part (1 : Nat) [r], AV.int IntKind.i64 (QS.no q r), AV.bool (QS.idle q r)]) [] none), some (Blk.mk true [AV.int IntKind.i64 c, AV.int IntKind.i64 s, AV.int IntKind.i64 l, AV.bool d] (0 : Nat) (0 : Nat) (fun x => []) [] none),
                                      some (Blk.mk true [AV.int IntKind.i64 c, AV.int IntKind.i64 s, AV.int IntKind.i64 l, AV.bool d] (0 : Nat) (0 : Nat) (fun x => []) [] none), some (Blk.mk true [AV.int IntKind.i64 (QS.now q i), AV.part (0 : Nat) [i], AV.part (1 : Nat) [i], AV.int IntKind.i64 (QS.no q i), AV.bool (QS.idle q i)] (0 : Nat) (0 : Nat) (fun x => []) [] none),
                                      some (Blk.mk false [] (1 : Nat) (FD.cp (QS.x q) [i]) (fun a => [AV.int IntKind.i64 (FD.z (QS.x q) [a, i])]) [] none), some (Blk.mk true [] (1 : Nat) c_1 (fun j => [AV.int IntKind.i64 (if j < FD.ln (QS.x q) [i] then FD.z (QS.x q) [(0 : Nat) + ((0 : Nat) + j), i] else (0 : Int))]) [] none),
                                      some (Blk.mk false [] (1 : Nat) (FD.cp (QS.y q) [i]) (fun a => [AV.int IntKind.i64 (FD.z (QS.y q) [a, i])]) [] none), some (Blk.mk true [] (1 : Nat) c_2 (fun j => [AV.int IntKind.i64 (if j < FD.ln (QS.y q) [i] then FD.z (QS.y q) [(0 : Nat) + ((0 : Nat) + j), i] else (0 : Int))]) [] none)])))
                          (T.ret
                            (Ex.norm,
                              St.mk
                                [((2 : Nat), AV.sl (2 : Nat) (0 : Nat) (5 : Nat) (0 : Nat) (QS.len q) (QS.cap q)), ((7 : Nat), AV.ptr (3 : Nat) (0 : Nat) (0 : Nat) (0 : Nat)), ((8 : Nat), AV.ptr (4 : Nat) (0 : Nat) (0 : Nat) (0 : Nat)), ((9 : Nat), AV.int IntKind.i64 (↑i : Int)), ((10 : Nat), AV.ptr (5 : Nat) (0 : Nat) (0 : Nat) (0 : Nat)), ((11 : Nat), AV.int IntKind.i64 now),
                                  ((12 : Nat), AV.int IntKind.i64 no), ((13 : Nat), AV.sl (7 : Nat) (0 : Nat) (1 : Nat) (0 : Nat) (FD.ln (QS.x q) [i]) c_1), ((14 : Nat), AV.nils)]
                                [some (Blk.mk false [] (0 : Nat) (0 : Nat) (fun x => []) [] (some fun js => Mem.mk (FD.nl (QS.x q) js) (FD.ad (QS.x q) js) (FD.ln (QS.x q) js) (FD.cp (QS.x q) js) (1 : Nat) fun q_1 => [AV.int IntKind.i64 (FD.z (QS.x q) (q_1 :: js))])),
                                  some (Blk.mk false [] (0 : Nat) (0 : Nat) (fun x => []) [] (some fun js => Mem.mk (FD.nl (QS.y q) js) (FD.ad (QS.y q) js) (FD.ln (QS.y q) js) (FD.cp (QS.y q) js) (1 : Nat) fun q_1 => [AV.int IntKind.i64 (FD.z (QS.y q) (q_1 :: js))])),
                                  some (Blk.mk false [] (5 : Nat) (QS.cap q) (fun r => [AV.int IntKind.i64 (QS.now q r), AV.part (0 : Nat) [r], AV.part (1 : Nat) [r], AV.int IntKind.i64 (QS.no q r), AV.bool (QS.idle q r)]) [] none), some (Blk.mk true [AV.int IntKind.i64 c, AV.int IntKind.i64 s, AV.int IntKind.i64 l, AV.bool d] (0 : Nat) (0 : Nat) (fun x => []) [] none),
                                  some (Blk.mk true [AV.int IntKind.i64 c, AV.int IntKind.i64 s, AV.int IntKind.i64 l, AV.bool d] (0 : Nat) (0 : Nat) (fun x => []) [] none), some (Blk.mk true [AV.int IntKind.i64 (QS.now q i), AV.part (0 : Nat) [i], AV.part (1 : Nat) [i], AV.int IntKind.i64 (QS.no q i), AV.bool (QS.idle q i)] (0 : Nat) (0 : Nat) (fun x => []) [] none),
                                  some (Blk.mk false [] (1 : Nat) (FD.cp (QS.x q) [i]) (fun a => [AV.int IntKind.i64 (FD.z (QS.x q) [a, i])]) [] none), some (Blk.mk true [] (1 : Nat) c_1 (fun j => [AV.int IntKind.i64 (if j < FD.ln (QS.x q) [i] then FD.z (QS.x q) [(0 : Nat) + ((0 : Nat) + j), i] else (0 : Int))]) [] none),
                                  some (Blk.mk false [] (1 : Nat) (FD.cp (QS.y q) [i]) (fun a => [AV.int IntKind.i64 (FD.z (QS.y q) [a, i])]) [] none)]))))))))
            (T.ite (FD.nl (QS.y q) [i])
              (T.ret
                (Ex.norm,
                  St.mk
                    [((2 : Nat), AV.sl (2 : Nat) (0 : Nat) (5 : Nat) (0 : Nat) (QS.len q) (QS.cap q)), ((7 : Nat), AV.ptr (3 : Nat) (0 : Nat) (0 : Nat) (0 : Nat)), ((8 : Nat), AV.ptr (4 : Nat) (0 : Nat) (0 : Nat) (0 : Nat)), ((9 : Nat), AV.int IntKind.i64 (↑i : Int)), ((10 : Nat), AV.ptr (5 : Nat) (0 : Nat) (0 : Nat) (0 : Nat)), ((11 : Nat), AV.int IntKind.i64 now),
                      ((12 : Nat), AV.int IntKind.i64 no), ((13 : Nat), AV.nils), ((14 : Nat), AV.nils)]
                    [some (Blk.mk false [] (0 : Nat) (0 : Nat) (fun x => []) [] (some fun js => Mem.mk (FD.nl (QS.x q) js) (FD.ad (QS.x q) js) (FD.ln (QS.x q) js) (FD.cp (QS.x q) js) (1 : Nat) fun q_1 => [AV.int IntKind.i64 (FD.z (QS.x q) (q_1 :: js))])),
                      some (Blk.mk false [] (0 : Nat) (0 : Nat) (fun x => []) [] (some fun js => Mem.mk (FD.nl (QS.y q) js) (FD.ad (QS.y q) js) (FD.ln (QS.y q) js) (FD.cp (QS.y q) js) (1 : Nat) fun q_1 => [AV.int IntKind.i64 (FD.z (QS.y q) (q_1 :: js))])),
                      some (Blk.mk false [] (5 : Nat) (QS.cap q) (fun r => [AV.int IntKind.i64 (QS.now q r), AV.part (0 : Nat) [r], AV.part (1 : Nat) [r], AV.int IntKind.i64 (QS.no q r), AV.bool (QS.idle q r)]) [] none), some (Blk.mk true [AV.int IntKind.i64 c, AV.int IntKind.i64 s, AV.int IntKind.i64 l, AV.bool d] (0 : Nat) (0 : Nat) (fun x => []) [] none),
                      some (Blk.mk true [AV.int IntKind.i64 c, AV.int IntKind.i64 s, AV.int IntKind.i64 l, AV.bool d] (0 : Nat) (0 : Nat) (fun x => []) [] none), some (Blk.mk true [AV.int IntKind.i64 (QS.now q i), AV.part (0 : Nat) [i], AV.part (1 : Nat) [i], AV.int IntKind.i64 (QS.no q i), AV.bool (QS.idle q i)] (0 : Nat) (0 : Nat) (fun x => []) [] none),
                      some (Blk.mk false [] (1 : Nat) (FD.cp (QS.x q) [i]) (fun a => [AV.int IntKind.i64 (FD.z (QS.x q) [a, i])]) [] none)]))
              (T.need (IntRow IntKind.i64 (Blk.mk false [] (1 : Nat) (FD.cp (QS.y q) [i]) (fun a => [AV.int IntKind.i64 (FD.z (QS.y q) [a, i])]) [] none))
                (T.chk (decide ((0 : Nat) + FD.ln (QS.y q) [i] ≤ FD.cp (QS.y q) [i]))
                  (T.chk (decide (FD.ln (QS.y q) [i] ≤ (4294967296 : Nat)))
                    (T.ite (decide ((0 : Nat) < FD.ln (QS.y q) [i]))
                      (T.all fun c_1 =>
                        T.asm (decide (FD.ln (QS.y q) [i] ≤ c_1))
                          (T.ret
                            (Ex.norm,
                              St.mk
                                [((2 : Nat), AV.sl (2 : Nat) (0 : Nat) (5 : Nat) (0 : Nat) (QS.len q) (QS.cap q)), ((7 : Nat), AV.ptr (3 : Nat) (0 : Nat) (0 : Nat) (0 : Nat)), ((8 : Nat), AV.ptr (4 : Nat) (0 : Nat) (0 : Nat) (0 : Nat)), ((9 : Nat), AV.int IntKind.i64 (↑i : Int)), ((10 : Nat), AV.ptr (5 : Nat) (0 : Nat) (0 : Nat) (0 : Nat)), ((11 : Nat), AV.int IntKind.i64 now),
                                  ((12 : Nat), AV.int IntKind.i64 no), ((13 : Nat), AV.nils), ((14 : Nat), AV.sl (8 : Nat) (0 : Nat) (1 : Nat) (0 : Nat) (FD.ln (QS.y q) [i]) c_1)]
                                [some (Blk.mk false [] (0 : Nat) (0 : Nat) (fun x => []) [] (some fun js => Mem.mk (FD.nl (QS.x q) js) (FD.ad (QS.x q) js) (FD.ln (QS.x q) js) (FD.cp (QS.x q) js) (1 : Nat) fun q_1 => [AV.int IntKind.i64 (FD.z (QS.x q) (q_1 :: js))])),
                                  some (Blk.mk false [] (0 : Nat) (0 : Nat) (fun x => []) [] (some fun js => Mem.mk (FD.nl (QS.y q) js) (FD.ad (QS.y q) js) (FD.ln (QS.y q) js) (FD.cp (QS.y q) js) (1 : Nat) fun q_1 => [AV.int IntKind.i64 (FD.z (QS.y q) (q_1 :: js))])),
                                  some (Blk.mk false [] (5 : Nat) (QS.cap q) (fun r => [AV.int IntKind.i64 (QS.now q r), AV.part (0 : Nat) [r], AV.part (1 : Nat) [r], AV.int IntKind.i64 (QS.no q r), AV.bool (QS.idle q r)]) [] none), some (Blk.mk true [AV.int IntKind.i64 c, AV.int IntKind.i64 s, AV.int IntKind.i64 l, AV.bool d] (0 : Nat) (0 : Nat) (fun x => []) [] none),
                                  some (Blk.mk true [AV.int IntKind.i64 c, AV.int IntKind.i64 s, AV.int IntKind.i64 l, AV.bool d] (0 : Nat) (0 : Nat) (fun x => []) [] none), some (Blk.mk true [AV.int IntKind.i64 (QS.now q i), AV.part (0 : Nat) [i], AV.part (1 : Nat) [i], AV.int IntKind.i64 (QS.no q i), AV.bool (QS.idle q i)] (0 : Nat) (0 : Nat) (fun x => []) [] none),
                                  some (Blk.mk false [] (1 : Nat) (FD.cp (QS.x q) [i]) (fun a => [AV.int IntKind.i64 (FD.z (QS.x q) [a, i])]) [] none), some (Blk.mk false [] (1 : Nat) (FD.cp (QS.y q) [i]) (fun a => [AV.int IntKind.i64 (FD.z (QS.y q) [a, i])]) [] none),
                                  some (Blk.mk true [] (1 : Nat) c_1 (fun j => [AV.int IntKind.i64 (if j < FD.ln (QS.y q) [i] then FD.z (QS.y q) [(0 : Nat) + ((0 : Nat) + j), i] else (0 : Int))]) [] none)])))
                      (T.ret
                        (Ex.norm,
                          St.mk
                            [((2 : Nat), AV.sl (2 : Nat) (0 : Nat) (5 : Nat) (0 : Nat) (QS.len q) (QS.cap q)), ((7 : Nat), AV.ptr (3 : Nat) (0 : Nat) (0 : Nat) (0 : Nat)), ((8 : Nat), AV.ptr (4 : Nat) (0 : Nat) (0 : Nat) (0 : Nat)), ((9 : Nat), AV.int IntKind.i64 (↑i : Int)), ((10 : Nat), AV.ptr (5 : Nat) (0 : Nat) (0 : Nat) (0 : Nat)), ((11 : Nat), AV.int IntKind.i64 now),
                              ((12 : Nat), AV.int IntKind.i64 no), ((13 : Nat), AV.nils), ((14 : Nat), AV.nils)]
                            [some (Blk.mk false [] (0 : Nat) (0 : Nat) (fun x => []) [] (some fun js => Mem.mk (FD.nl (QS.x q) js) (FD.ad (QS.x q) js) (FD.ln (QS.x q) js) (FD.cp (QS.x q) js) (1 : Nat) fun q_1 => [AV.int IntKind.i64 (FD.z (QS.x q) (q_1 :: js))])),
                              some (Blk.mk false [] (0 : Nat) (0 : Nat) (fun x => []) [] (some fun js => Mem.mk (FD.nl (QS.y q) js) (FD.ad (QS.y q) js) (FD.ln (QS.y q) js) (FD.cp (QS.y q) js) (1 : Nat) fun q_1 => [AV.int IntKind.i64 (FD.z (QS.y q) (q_1 :: js))])),
                              some (Blk.mk false [] (5 : Nat) (QS.cap q) (fun r => [AV.int IntKind.i64 (QS.now q r), AV.part (0 : Nat) [r], AV.part (1 : Nat) [r], AV.int IntKind.i64 (QS.no q r), AV.bool (QS.idle q r)]) [] none), some (Blk.mk true [AV.int IntKind.i64 c, AV.int IntKind.i64 s, AV.int IntKind.i64 l, AV.bool d] (0 : Nat) (0 : Nat) (fun x => []) [] none),
                              some (Blk.mk true [AV.int IntKind.i64 c, AV.int IntKind.i64 s, AV.int IntKind.i64 l, AV.bool d] (0 : Nat) (0 : Nat) (fun x => []) [] none), some (Blk.mk true [AV.int IntKind.i64 (QS.now q i), AV.part (0 : Nat) [i], AV.part (1 : Nat) [i], AV.int IntKind.i64 (QS.no q i), AV.bool (QS.idle q i)] (0 : Nat) (0 : Nat) (fun x => []) [] none),
                              some (Blk.mk false [] (1 : Nat) (FD.cp (QS.x q) [i]) (fun a => [AV.int IntKind.i64 (FD.z (QS.x q) [a, i])]) [] none), some (Blk.mk false [] (1 : Nat) (FD.cp (QS.y q) [i]) (fun a => [AV.int IntKind.i64 (FD.z (QS.y q) [a, i])]) [] none)]))))))))))) := by
  kernel_rfl

theorem pd_t5 (q : QS) (c s l : Int) (d : Bool) (i : Nat) : keepT [2, 7, 8, 9] (acodeL Try.prog pdE ((chainOf pdC).drop 3) (noX ⟨q, c, s, l, d, i⟩ [] [])) = 
  T.ret
    (Ex.norm,
      St.mk [((2 : Nat), AV.sl (2 : Nat) (0 : Nat) (5 : Nat) (0 : Nat) (QS.len q) (QS.cap q)), ((7 : Nat), AV.ptr (3 : Nat) (0 : Nat) (0 : Nat) (0 : Nat)), ((8 : Nat), AV.ptr (4 : Nat) (0 : Nat) (0 : Nat) (0 : Nat)), ((9 : Nat), AV.int IntKind.i64 (IntKind.wrap IntKind.i64 ((↑i : Int) + (1 : Int))))]
        [some (Blk.mk false [] (0 : Nat) (0 : Nat) (fun x => []) [] (some fun js => Mem.mk (FD.nl (QS.x q) js) (FD.ad (QS.x q) js) (FD.ln (QS.x q) js) (FD.cp (QS.x q) js) (1 : Nat) fun q_1 => [AV.int IntKind.i64 (FD.z (QS.x q) (q_1 :: js))])),
          some (Blk.mk false [] (0 : Nat) (0 : Nat) (fun x => []) [] (some fun js => Mem.mk (FD.nl (QS.y q) js) (FD.ad (QS.y q) js) (FD.ln (QS.y q) js) (FD.cp (QS.y q) js) (1 : Nat) fun q_1 => [AV.int IntKind.i64 (FD.z (QS.y q) (q_1 :: js))])),
          some (Blk.mk false [] (5 : Nat) (QS.cap q) (fun r => [AV.int IntKind.i64 (QS.now q r), AV.part (0 : Nat) [r], AV.part (1 : Nat) [r], AV.int IntKind.i64 (QS.no q r), AV.bool (QS.idle q r)]) [] none), some (Blk.mk true [AV.int IntKind.i64 c, AV.int IntKind.i64 s, AV.int IntKind.i64 l, AV.bool d] (0 : Nat) (0 : Nat) (fun x => []) [] none),
          some (Blk.mk true [AV.int IntKind.i64 c, AV.int IntKind.i64 s, AV.int IntKind.i64 l, AV.bool d] (0 : Nat) (0 : Nat) (fun x => []) [] none)]) := by
  kernel_rfl

theorem pd_fn (q : QS) (cd sl : Int) : afn Try.prog pdE Try.f3 (codeOf Try.f3) [.int .i64 cd, .int .i64 sl, .sl 2 0 5 0 q.len q.cap] (qsMem q) = 
  T.need
    (∃ ρ,
      SubSt (3 : Nat) ρ
        (St.mk [((2 : Nat), AV.sl (2 : Nat) (0 : Nat) (5 : Nat) (0 : Nat) (QS.len q) (QS.cap q)), ((7 : Nat), AV.ptr (3 : Nat) (0 : Nat) (0 : Nat) (0 : Nat)), ((8 : Nat), AV.ptr (4 : Nat) (0 : Nat) (0 : Nat) (0 : Nat)), ((9 : Nat), AV.int IntKind.i64 (0 : Int))]
          [some (Blk.mk false [] (0 : Nat) (0 : Nat) (fun x => []) [] (some fun js => Mem.mk (FD.nl (QS.x q) js) (FD.ad (QS.x q) js) (FD.ln (QS.x q) js) (FD.cp (QS.x q) js) (1 : Nat) fun q_1 => [AV.int IntKind.i64 (FD.z (QS.x q) (q_1 :: js))])),
            some (Blk.mk false [] (0 : Nat) (0 : Nat) (fun x => []) [] (some fun js => Mem.mk (FD.nl (QS.y q) js) (FD.ad (QS.y q) js) (FD.ln (QS.y q) js) (FD.cp (QS.y q) js) (1 : Nat) fun q_1 => [AV.int IntKind.i64 (FD.z (QS.y q) (q_1 :: js))])),
            some (Blk.mk false [] (5 : Nat) (QS.cap q) (fun r => [AV.int IntKind.i64 (QS.now q r), AV.part (0 : Nat) [r], AV.part (1 : Nat) [r], AV.int IntKind.i64 (QS.no q r), AV.bool (QS.idle q r)]) [] none), some (Blk.mk true [AV.int IntKind.i64 (myG cd), AV.int IntKind.i64 (myG sl), AV.int IntKind.i64 (0 : Int), AV.bool false] (0 : Nat) (0 : Nat) (fun j => []) [] none),
            some (Blk.mk true [AV.int IntKind.i64 (myG cd), AV.int IntKind.i64 (myG sl), AV.int IntKind.i64 (0 : Int), AV.bool false] (0 : Nat) (0 : Nat) (fun j => []) [] none)])
        (noSt
          (NO.mk
            (QS.mk
              (FD.mk (fun js => FD.nl (QS.x q) js) (fun js => FD.ad (QS.x q) js) (fun js => FD.ln (QS.x q) js) (fun js => FD.cp (QS.x q) js) fun js =>
                match js with
                | [] => (0 : Int)
                | q_1 :: js => FD.z (QS.x q) (q_1 :: js))
              (FD.mk (fun js => FD.nl (QS.y q) js) (fun js => FD.ad (QS.y q) js) (fun js => FD.ln (QS.y q) js) (fun js => FD.cp (QS.y q) js) fun js =>
                match js with
                | [] => (0 : Int)
                | q_1 :: js => FD.z (QS.y q) (q_1 :: js))
              (fun r => QS.now q r) (fun r => QS.no q r) (fun r => QS.idle q r) (QS.len q) (QS.cap q))
            (myG cd) (myG sl) (0 : Int) false (0 : Nat))))
    (T.need
      (pdInv
        (NO.mk
          (QS.mk
            (FD.mk (fun js => FD.nl (QS.x q) js) (fun js => FD.ad (QS.x q) js) (fun js => FD.ln (QS.x q) js) (fun js => FD.cp (QS.x q) js) fun js =>
              match js with
              | [] => (0 : Int)
              | q_1 :: js => FD.z (QS.x q) (q_1 :: js))
            (FD.mk (fun js => FD.nl (QS.y q) js) (fun js => FD.ad (QS.y q) js) (fun js => FD.ln (QS.y q) js) (fun js => FD.cp (QS.y q) js) fun js =>
              match js with
              | [] => (0 : Int)
              | q_1 :: js => FD.z (QS.y q) (q_1 :: js))
            (fun r => QS.now q r) (fun r => QS.no q r) (fun r => QS.idle q r) (QS.len q) (QS.cap q))
          (myG cd) (myG sl) (0 : Int) false (0 : Nat)))
      (T.all fun c => T.ite (decide (c = (0 : Nat))) (T.ret (AV.bool true, [none, none, none])) (T.ret (AV.bool true, [none, none, none])))) := by
  kernel_rfl

end Go.Proofs.Ytmhlkcboajgigaa
