/-
  Layer 27: Decide's effect, a list not there.
-/
import Derived.Test.YtmhlkcboajgigaaHF
namespace Go.Proofs.Ytmhlkcboajgigaa
open Go.Ox
set_option maxRecDepth 100000
set_option linter.unusedVariables false
set_option linter.unusedSimpArgs false

theorem de_fn00 (c s l : Int) (d : Bool) (now no : Int) (idle : Bool) (a b : Option Addr) : afn Try.prog (deE 1) Try.f14 (codeOf Try.f14) [.ptr 0 0 0 0, .int .i64 now, .esl a, .esl b, .int .i64 no, .bool idle] [some (polB c s l d)] = 
  T.ite (no != (0 : Int))
    (T.ret
      (AV.ff,
        [some (Blk.mk true [AV.int IntKind.i64 c, AV.int IntKind.i64 s, AV.int IntKind.i64 l, AV.bool d] (0 : Nat) (0 : Nat) (fun x => []) [] none), some (Blk.mk true [AV.ptr (0 : Nat) (0 : Nat) (0 : Nat) (0 : Nat)] (0 : Nat) (0 : Nat) (fun x => []) [] none), some (Blk.mk true [AV.esl a] (0 : Nat) (0 : Nat) (fun x => []) [] none),
          some (Blk.mk true [AV.esl b] (0 : Nat) (0 : Nat) (fun x => []) [] none)]))
    (T.ite (!idle)
      (T.ret
        (AV.ff,
          [some (Blk.mk true [AV.int IntKind.i64 c, AV.int IntKind.i64 s, AV.int IntKind.i64 l, AV.bool d] (0 : Nat) (0 : Nat) (fun x => []) [] none), some (Blk.mk true [AV.ptr (0 : Nat) (0 : Nat) (0 : Nat) (0 : Nat)] (0 : Nat) (0 : Nat) (fun x => []) [] none), some (Blk.mk true [AV.esl a] (0 : Nat) (0 : Nat) (fun x => []) [] none),
            some (Blk.mk true [AV.esl b] (0 : Nat) (0 : Nat) (fun x => []) [] none)]))
      (T.ite true
        (T.chk (decide ((2 : Nat) < (4 : Nat)) && (decide ((3 : Nat) < (4 : Nat)) && decide ((1 : Nat) < (4 : Nat))))
          (T.ite true
            (T.ret
              (AV.ff,
                [some (Blk.mk true [AV.int IntKind.i64 c, AV.int IntKind.i64 s, AV.int IntKind.i64 l, AV.bool d] (0 : Nat) (0 : Nat) (fun x => []) [] none), some (Blk.mk true [AV.ptr (0 : Nat) (0 : Nat) (0 : Nat) (0 : Nat)] (0 : Nat) (0 : Nat) (fun x => []) [] none), some (Blk.mk true [AV.esl a] (0 : Nat) (0 : Nat) (fun x => []) [] none),
                  some (Blk.mk true [AV.esl b] (0 : Nat) (0 : Nat) (fun x => []) [] none)]))
            (T.ite d
              (T.ite (decide (IntKind.wrap IntKind.i64 (now - l) < c))
                (T.ret
                  (AV.ff,
                    [some (Blk.mk true [AV.int IntKind.i64 c, AV.int IntKind.i64 s, AV.int IntKind.i64 l, AV.bool d] (0 : Nat) (0 : Nat) (fun x => []) [] none), some (Blk.mk true [AV.ptr (0 : Nat) (0 : Nat) (0 : Nat) (0 : Nat)] (0 : Nat) (0 : Nat) (fun x => []) [] none), some (Blk.mk true [AV.esl a] (0 : Nat) (0 : Nat) (fun x => []) [] none),
                      some (Blk.mk true [AV.esl b] (0 : Nat) (0 : Nat) (fun x => []) [] none)]))
                (T.need (AV.ptr (0 : Nat) (0 : Nat) (0 : Nat) (0 : Nat) = AV.ptr (0 : Nat) (0 : Nat) (0 : Nat) (0 : Nat))
                  (T.need (AV.ptr (0 : Nat) (0 : Nat) (0 : Nat) (0 : Nat) = AV.ptr (0 : Nat) (0 : Nat) (0 : Nat) (0 : Nat))
                    (T.need (AV.ptr (0 : Nat) (0 : Nat) (0 : Nat) (0 : Nat) = AV.ptr (0 : Nat) (0 : Nat) (0 : Nat) (0 : Nat))
                      (T.ret
                        (AV.tt,
                          [some (Blk.mk true [AV.int IntKind.i64 c, AV.int IntKind.i64 s, AV.int IntKind.i64 now, AV.tt] (0 : Nat) (0 : Nat) (fun a => []) [] none), some (Blk.mk true [AV.ptr (0 : Nat) (0 : Nat) (0 : Nat) (0 : Nat)] (0 : Nat) (0 : Nat) (fun x => []) [] none), some (Blk.mk true [AV.esl a] (0 : Nat) (0 : Nat) (fun x => []) [] none),
                            some (Blk.mk true [AV.esl b] (0 : Nat) (0 : Nat) (fun x => []) [] none)]))))))
              (T.need (AV.ptr (0 : Nat) (0 : Nat) (0 : Nat) (0 : Nat) = AV.ptr (0 : Nat) (0 : Nat) (0 : Nat) (0 : Nat))
                (T.need (AV.ptr (0 : Nat) (0 : Nat) (0 : Nat) (0 : Nat) = AV.ptr (0 : Nat) (0 : Nat) (0 : Nat) (0 : Nat))
                  (T.need (AV.ptr (0 : Nat) (0 : Nat) (0 : Nat) (0 : Nat) = AV.ptr (0 : Nat) (0 : Nat) (0 : Nat) (0 : Nat))
                    (T.ret
                      (AV.tt,
                        [some (Blk.mk true [AV.int IntKind.i64 c, AV.int IntKind.i64 s, AV.int IntKind.i64 now, AV.tt] (0 : Nat) (0 : Nat) (fun a => []) [] none), some (Blk.mk true [AV.ptr (0 : Nat) (0 : Nat) (0 : Nat) (0 : Nat)] (0 : Nat) (0 : Nat) (fun x => []) [] none), some (Blk.mk true [AV.esl a] (0 : Nat) (0 : Nat) (fun x => []) [] none),
                          some (Blk.mk true [AV.esl b] (0 : Nat) (0 : Nat) (fun x => []) [] none)]))))))))
        T.fail)) := by
  kernel_rfl

theorem de_fnl0 (c s l : Int) (d : Bool) (f : Nat → Int) (la ca : Nat) (now no : Int) (idle : Bool) (a : Option Addr) : afn Try.prog (deE 2) Try.f14 (codeOf Try.f14) [.ptr 0 0 0 0, .int .i64 now, .sl 1 0 1 0 la ca, .esl a, .int .i64 no, .bool idle] [some (polB c s l d), some (Blk.rows false 1 ca fun j => [.int .i64 (f j)])] = 
  T.ite (no != (0 : Int))
    (T.ret
      (AV.ff,
        [some (Blk.mk true [AV.int IntKind.i64 c, AV.int IntKind.i64 s, AV.int IntKind.i64 l, AV.bool d] (0 : Nat) (0 : Nat) (fun x => []) [] none), some (Blk.mk false [] (1 : Nat) ca (fun j => [AV.int IntKind.i64 (f j)]) [] none), some (Blk.mk true [AV.ptr (0 : Nat) (0 : Nat) (0 : Nat) (0 : Nat)] (0 : Nat) (0 : Nat) (fun x => []) [] none),
          some (Blk.mk true [AV.sl (1 : Nat) (0 : Nat) (1 : Nat) (0 : Nat) la ca] (0 : Nat) (0 : Nat) (fun x => []) [] none), some (Blk.mk true [AV.esl a] (0 : Nat) (0 : Nat) (fun x => []) [] none)]))
    (T.ite (!idle)
      (T.ret
        (AV.ff,
          [some (Blk.mk true [AV.int IntKind.i64 c, AV.int IntKind.i64 s, AV.int IntKind.i64 l, AV.bool d] (0 : Nat) (0 : Nat) (fun x => []) [] none), some (Blk.mk false [] (1 : Nat) ca (fun j => [AV.int IntKind.i64 (f j)]) [] none), some (Blk.mk true [AV.ptr (0 : Nat) (0 : Nat) (0 : Nat) (0 : Nat)] (0 : Nat) (0 : Nat) (fun x => []) [] none),
            some (Blk.mk true [AV.sl (1 : Nat) (0 : Nat) (1 : Nat) (0 : Nat) la ca] (0 : Nat) (0 : Nat) (fun x => []) [] none), some (Blk.mk true [AV.esl a] (0 : Nat) (0 : Nat) (fun x => []) [] none)]))
      (T.ite (decide ((if (0 : Int) < (↑la : Int) then (0 : Int) else (↑la : Int)) ≤ (0 : Int)))
        (T.chk (decide ((3 : Nat) < (5 : Nat)) && (decide ((4 : Nat) < (5 : Nat)) && decide ((2 : Nat) < (5 : Nat))))
          (T.ite true
            (T.ret
              (AV.ff,
                [some (Blk.mk true [AV.int IntKind.i64 c, AV.int IntKind.i64 s, AV.int IntKind.i64 l, AV.bool d] (0 : Nat) (0 : Nat) (fun x => []) [] none), some (Blk.mk false [] (1 : Nat) ca (fun j => [AV.int IntKind.i64 (f j)]) [] none), some (Blk.mk true [AV.ptr (0 : Nat) (0 : Nat) (0 : Nat) (0 : Nat)] (0 : Nat) (0 : Nat) (fun x => []) [] none),
                  some (Blk.mk true [AV.sl (1 : Nat) (0 : Nat) (1 : Nat) (0 : Nat) la ca] (0 : Nat) (0 : Nat) (fun x => []) [] none), some (Blk.mk true [AV.esl a] (0 : Nat) (0 : Nat) (fun x => []) [] none)]))
            (T.ite d
              (T.ite (decide (IntKind.wrap IntKind.i64 (now - l) < c))
                (T.ret
                  (AV.ff,
                    [some (Blk.mk true [AV.int IntKind.i64 c, AV.int IntKind.i64 s, AV.int IntKind.i64 l, AV.bool d] (0 : Nat) (0 : Nat) (fun x => []) [] none), some (Blk.mk false [] (1 : Nat) ca (fun j => [AV.int IntKind.i64 (f j)]) [] none), some (Blk.mk true [AV.ptr (0 : Nat) (0 : Nat) (0 : Nat) (0 : Nat)] (0 : Nat) (0 : Nat) (fun x => []) [] none),
                      some (Blk.mk true [AV.sl (1 : Nat) (0 : Nat) (1 : Nat) (0 : Nat) la ca] (0 : Nat) (0 : Nat) (fun x => []) [] none), some (Blk.mk true [AV.esl a] (0 : Nat) (0 : Nat) (fun x => []) [] none)]))
                (T.need (AV.ptr (0 : Nat) (0 : Nat) (0 : Nat) (0 : Nat) = AV.ptr (0 : Nat) (0 : Nat) (0 : Nat) (0 : Nat))
                  (T.need (AV.ptr (0 : Nat) (0 : Nat) (0 : Nat) (0 : Nat) = AV.ptr (0 : Nat) (0 : Nat) (0 : Nat) (0 : Nat))
                    (T.need (AV.ptr (0 : Nat) (0 : Nat) (0 : Nat) (0 : Nat) = AV.ptr (0 : Nat) (0 : Nat) (0 : Nat) (0 : Nat))
                      (T.ret
                        (AV.tt,
                          [some (Blk.mk true [AV.int IntKind.i64 c, AV.int IntKind.i64 s, AV.int IntKind.i64 now, AV.tt] (0 : Nat) (0 : Nat) (fun a => []) [] none), some (Blk.mk false [] (1 : Nat) ca (fun j => [AV.int IntKind.i64 (f j)]) [] none), some (Blk.mk true [AV.ptr (0 : Nat) (0 : Nat) (0 : Nat) (0 : Nat)] (0 : Nat) (0 : Nat) (fun x => []) [] none),
                            some (Blk.mk true [AV.sl (1 : Nat) (0 : Nat) (1 : Nat) (0 : Nat) la ca] (0 : Nat) (0 : Nat) (fun x => []) [] none), some (Blk.mk true [AV.esl a] (0 : Nat) (0 : Nat) (fun x => []) [] none)]))))))
              (T.need (AV.ptr (0 : Nat) (0 : Nat) (0 : Nat) (0 : Nat) = AV.ptr (0 : Nat) (0 : Nat) (0 : Nat) (0 : Nat))
                (T.need (AV.ptr (0 : Nat) (0 : Nat) (0 : Nat) (0 : Nat) = AV.ptr (0 : Nat) (0 : Nat) (0 : Nat) (0 : Nat))
                  (T.need (AV.ptr (0 : Nat) (0 : Nat) (0 : Nat) (0 : Nat) = AV.ptr (0 : Nat) (0 : Nat) (0 : Nat) (0 : Nat))
                    (T.ret
                      (AV.tt,
                        [some (Blk.mk true [AV.int IntKind.i64 c, AV.int IntKind.i64 s, AV.int IntKind.i64 now, AV.tt] (0 : Nat) (0 : Nat) (fun a => []) [] none), some (Blk.mk false [] (1 : Nat) ca (fun j => [AV.int IntKind.i64 (f j)]) [] none), some (Blk.mk true [AV.ptr (0 : Nat) (0 : Nat) (0 : Nat) (0 : Nat)] (0 : Nat) (0 : Nat) (fun x => []) [] none),
                          some (Blk.mk true [AV.sl (1 : Nat) (0 : Nat) (1 : Nat) (0 : Nat) la ca] (0 : Nat) (0 : Nat) (fun x => []) [] none), some (Blk.mk true [AV.esl a] (0 : Nat) (0 : Nat) (fun x => []) [] none)]))))))))
        T.fail)) := by
  kernel_rfl

theorem de_fn0r (c s l : Int) (d : Bool) (f : Nat → Int) (la ca : Nat) (now no : Int) (idle : Bool) (a : Option Addr) : afn Try.prog (deE 2) Try.f14 (codeOf Try.f14) [.ptr 0 0 0 0, .int .i64 now, .esl a, .sl 1 0 1 0 la ca, .int .i64 no, .bool idle] [some (polB c s l d), some (Blk.rows false 1 ca fun j => [.int .i64 (f j)])] = 
  T.ite (no != (0 : Int))
    (T.ret
      (AV.ff,
        [some (Blk.mk true [AV.int IntKind.i64 c, AV.int IntKind.i64 s, AV.int IntKind.i64 l, AV.bool d] (0 : Nat) (0 : Nat) (fun x => []) [] none), some (Blk.mk false [] (1 : Nat) ca (fun j => [AV.int IntKind.i64 (f j)]) [] none), some (Blk.mk true [AV.ptr (0 : Nat) (0 : Nat) (0 : Nat) (0 : Nat)] (0 : Nat) (0 : Nat) (fun x => []) [] none),
          some (Blk.mk true [AV.esl a] (0 : Nat) (0 : Nat) (fun x => []) [] none), some (Blk.mk true [AV.sl (1 : Nat) (0 : Nat) (1 : Nat) (0 : Nat) la ca] (0 : Nat) (0 : Nat) (fun x => []) [] none)]))
    (T.ite (!idle)
      (T.ret
        (AV.ff,
          [some (Blk.mk true [AV.int IntKind.i64 c, AV.int IntKind.i64 s, AV.int IntKind.i64 l, AV.bool d] (0 : Nat) (0 : Nat) (fun x => []) [] none), some (Blk.mk false [] (1 : Nat) ca (fun j => [AV.int IntKind.i64 (f j)]) [] none), some (Blk.mk true [AV.ptr (0 : Nat) (0 : Nat) (0 : Nat) (0 : Nat)] (0 : Nat) (0 : Nat) (fun x => []) [] none),
            some (Blk.mk true [AV.esl a] (0 : Nat) (0 : Nat) (fun x => []) [] none), some (Blk.mk true [AV.sl (1 : Nat) (0 : Nat) (1 : Nat) (0 : Nat) la ca] (0 : Nat) (0 : Nat) (fun x => []) [] none)]))
      (T.ite (decide ((if (↑la : Int) < (0 : Int) then (↑la : Int) else (0 : Int)) ≤ (0 : Int)))
        (T.chk (decide ((3 : Nat) < (5 : Nat)) && (decide ((4 : Nat) < (5 : Nat)) && decide ((2 : Nat) < (5 : Nat))))
          (T.ite true
            (T.ret
              (AV.ff,
                [some (Blk.mk true [AV.int IntKind.i64 c, AV.int IntKind.i64 s, AV.int IntKind.i64 l, AV.bool d] (0 : Nat) (0 : Nat) (fun x => []) [] none), some (Blk.mk false [] (1 : Nat) ca (fun j => [AV.int IntKind.i64 (f j)]) [] none), some (Blk.mk true [AV.ptr (0 : Nat) (0 : Nat) (0 : Nat) (0 : Nat)] (0 : Nat) (0 : Nat) (fun x => []) [] none),
                  some (Blk.mk true [AV.esl a] (0 : Nat) (0 : Nat) (fun x => []) [] none), some (Blk.mk true [AV.sl (1 : Nat) (0 : Nat) (1 : Nat) (0 : Nat) la ca] (0 : Nat) (0 : Nat) (fun x => []) [] none)]))
            (T.ite d
              (T.ite (decide (IntKind.wrap IntKind.i64 (now - l) < c))
                (T.ret
                  (AV.ff,
                    [some (Blk.mk true [AV.int IntKind.i64 c, AV.int IntKind.i64 s, AV.int IntKind.i64 l, AV.bool d] (0 : Nat) (0 : Nat) (fun x => []) [] none), some (Blk.mk false [] (1 : Nat) ca (fun j => [AV.int IntKind.i64 (f j)]) [] none), some (Blk.mk true [AV.ptr (0 : Nat) (0 : Nat) (0 : Nat) (0 : Nat)] (0 : Nat) (0 : Nat) (fun x => []) [] none),
                      some (Blk.mk true [AV.esl a] (0 : Nat) (0 : Nat) (fun x => []) [] none), some (Blk.mk true [AV.sl (1 : Nat) (0 : Nat) (1 : Nat) (0 : Nat) la ca] (0 : Nat) (0 : Nat) (fun x => []) [] none)]))
                (T.need (AV.ptr (0 : Nat) (0 : Nat) (0 : Nat) (0 : Nat) = AV.ptr (0 : Nat) (0 : Nat) (0 : Nat) (0 : Nat))
                  (T.need (AV.ptr (0 : Nat) (0 : Nat) (0 : Nat) (0 : Nat) = AV.ptr (0 : Nat) (0 : Nat) (0 : Nat) (0 : Nat))
                    (T.need (AV.ptr (0 : Nat) (0 : Nat) (0 : Nat) (0 : Nat) = AV.ptr (0 : Nat) (0 : Nat) (0 : Nat) (0 : Nat))
                      (T.ret
                        (AV.tt,
                          [some (Blk.mk true [AV.int IntKind.i64 c, AV.int IntKind.i64 s, AV.int IntKind.i64 now, AV.tt] (0 : Nat) (0 : Nat) (fun a => []) [] none), some (Blk.mk false [] (1 : Nat) ca (fun j => [AV.int IntKind.i64 (f j)]) [] none), some (Blk.mk true [AV.ptr (0 : Nat) (0 : Nat) (0 : Nat) (0 : Nat)] (0 : Nat) (0 : Nat) (fun x => []) [] none),
                            some (Blk.mk true [AV.esl a] (0 : Nat) (0 : Nat) (fun x => []) [] none), some (Blk.mk true [AV.sl (1 : Nat) (0 : Nat) (1 : Nat) (0 : Nat) la ca] (0 : Nat) (0 : Nat) (fun x => []) [] none)]))))))
              (T.need (AV.ptr (0 : Nat) (0 : Nat) (0 : Nat) (0 : Nat) = AV.ptr (0 : Nat) (0 : Nat) (0 : Nat) (0 : Nat))
                (T.need (AV.ptr (0 : Nat) (0 : Nat) (0 : Nat) (0 : Nat) = AV.ptr (0 : Nat) (0 : Nat) (0 : Nat) (0 : Nat))
                  (T.need (AV.ptr (0 : Nat) (0 : Nat) (0 : Nat) (0 : Nat) = AV.ptr (0 : Nat) (0 : Nat) (0 : Nat) (0 : Nat))
                    (T.ret
                      (AV.tt,
                        [some (Blk.mk true [AV.int IntKind.i64 c, AV.int IntKind.i64 s, AV.int IntKind.i64 now, AV.tt] (0 : Nat) (0 : Nat) (fun a => []) [] none), some (Blk.mk false [] (1 : Nat) ca (fun j => [AV.int IntKind.i64 (f j)]) [] none), some (Blk.mk true [AV.ptr (0 : Nat) (0 : Nat) (0 : Nat) (0 : Nat)] (0 : Nat) (0 : Nat) (fun x => []) [] none),
                          some (Blk.mk true [AV.esl a] (0 : Nat) (0 : Nat) (fun x => []) [] none), some (Blk.mk true [AV.sl (1 : Nat) (0 : Nat) (1 : Nat) (0 : Nat) la ca] (0 : Nat) (0 : Nat) (fun x => []) [] none)]))))))))
        T.fail)) := by
  kernel_rfl

theorem de_eff00 (c s l : Int) (d : Bool) (now no : Int) (idle : Bool) (a b : Option Addr) : EffAt Try.prog 14 [.ptr 0 0 0 0, .int .i64 now, .esl a, .esl b, .int .i64 no, .bool idle] [some (polB c s l d)] (.ret (.bool false, [some (polB c s l d)])) := by
  refine fn_ok (E := deE 1) (c := codeOf Try.f14) Try.func14 rfl (EnvOK.cons sm_ok EnvOK.nil) (noLoops (by kernel_rfl)) rfl rfl fun Q hq => ?_
  have hq : Q (.bool false, [some (polB c s l d)]) := hq
  have nay : ∀ X, Leaf 1 Q (.ff, some (polB c s l d) :: X) := fun X => leaf_of id hq (by simp [ren]) (by simp [below]) (Sub.ofId ⟨⟨_, rfl, pol_blk (by simp)⟩, trivial⟩ (by simp))
  rw [de_fn00]
  exact T.hite (fun _ => T.hret (nay _)) (fun _ => T.hite (fun _ => T.hret (nay _)) (fun _ => T.hite (fun _ => T.hchk rfl (T.hite (fun _ => T.hret (nay _)) (fun h => by cases h))) (fun h => by cases h)))

theorem de_effl0 (c s l : Int) (d : Bool) (f : Nat → Int) (la ca : Nat) (now no : Int) (idle : Bool) (a : Option Addr) : EffAt Try.prog 14 [.ptr 0 0 0 0, .int .i64 now, .sl 1 0 1 0 la ca, .esl a, .int .i64 no, .bool idle] [some (polB c s l d), some (Blk.rows false 1 ca fun j => [.int .i64 (f j)])] (.ret (.bool false, [some (polB c s l d), some (Blk.rows false 1 ca fun j => [.int .i64 (f j)])])) := by
  refine fn_ok (E := deE 2) (c := codeOf Try.f14) Try.func14 rfl (EnvOK.cons sm_ok EnvOK.nil) (noLoops (by kernel_rfl)) rfl rfl fun Q hq => ?_
  have hq : Q (.bool false, [some (polB c s l d), some (Blk.rows false 1 ca fun j => [.int .i64 (f j)])]) := hq
  have nay : ∀ X, Leaf 2 Q (.ff, some (polB c s l d) :: some (Blk.rows false 1 ca fun j => [.int .i64 (f j)]) :: X) := fun X => leaf_of id hq (by simp [ren]) (by simp [below]) (Sub.ofId ⟨⟨_, rfl, pol_blk (by simp)⟩, ⟨_, rfl, BlkOK.rows' (fun h => h) fun j _ => LAlike.ints rfl⟩, trivial⟩ (by simp))
  rw [de_fnl0]
  exact T.hite (fun _ => T.hret (nay _)) (fun _ => T.hite (fun _ => T.hret (nay _)) (fun _ => T.hiteP (fun _ => T.hchk rfl (T.hite (fun _ => T.hret (nay _)) (fun h => by cases h))) (fun h => absurd (by split <;> omega) h)))

theorem de_eff0r (c s l : Int) (d : Bool) (f : Nat → Int) (la ca : Nat) (now no : Int) (idle : Bool) (a : Option Addr) : EffAt Try.prog 14 [.ptr 0 0 0 0, .int .i64 now, .esl a, .sl 1 0 1 0 la ca, .int .i64 no, .bool idle] [some (polB c s l d), some (Blk.rows false 1 ca fun j => [.int .i64 (f j)])] (.ret (.bool false, [some (polB c s l d), some (Blk.rows false 1 ca fun j => [.int .i64 (f j)])])) := by
  refine fn_ok (E := deE 2) (c := codeOf Try.f14) Try.func14 rfl (EnvOK.cons sm_ok EnvOK.nil) (noLoops (by kernel_rfl)) rfl rfl fun Q hq => ?_
  have hq : Q (.bool false, [some (polB c s l d), some (Blk.rows false 1 ca fun j => [.int .i64 (f j)])]) := hq
  have nay : ∀ X, Leaf 2 Q (.ff, some (polB c s l d) :: some (Blk.rows false 1 ca fun j => [.int .i64 (f j)]) :: X) := fun X => leaf_of id hq (by simp [ren]) (by simp [below]) (Sub.ofId ⟨⟨_, rfl, pol_blk (by simp)⟩, ⟨_, rfl, BlkOK.rows' (fun h => h) fun j _ => LAlike.ints rfl⟩, trivial⟩ (by simp))
  rw [de_fn0r]
  exact T.hite (fun _ => T.hret (nay _)) (fun _ => T.hite (fun _ => T.hret (nay _)) (fun _ => T.hiteP (fun _ => T.hchk rfl (T.hite (fun _ => T.hret (nay _)) (fun h => by cases h))) (fun h => absurd (by split <;> omega) h)))

end Go.Proofs.Ytmhlkcboajgigaa
