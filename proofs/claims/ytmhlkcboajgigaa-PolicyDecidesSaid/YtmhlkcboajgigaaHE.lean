/-
  Layer 27: Decide.
-/
import Derived.Test.YtmhlkcboajgigaaHD
namespace Go.Proofs.Ytmhlkcboajgigaa
open Go.Ox
set_option maxRecDepth 100000
set_option linter.unusedVariables false
set_option linter.unusedSimpArgs false

def polB (c s l : Int) (d : Bool) : Blk := ⟨true, [.int .i64 c, .int .i64 s, .int .i64 l, .bool d], 0, 0, fun _ => [], [], none⟩
noncomputable def deE (n : Nat) : Env := { nt := Try.f14.ntmps, n0 := n, fns := [(19, .pure smS)], loop := fun _ _ => .fail }

theorem de_fn (c s l : Int) (d : Bool) (f g : Nat → Int) (la ca lb cb : Nat) (now no : Int) (idle : Bool) : afn Try.prog (deE 3) Try.f14 (codeOf Try.f14) [.ptr 0 0 0 0, .int .i64 now, .sl 1 0 1 0 la ca, .sl 2 0 1 0 lb cb, .int .i64 no, .bool idle] [some (polB c s l d), some (Blk.rows false 1 ca fun j => [.int .i64 (f j)]), some (Blk.rows false 1 cb fun j => [.int .i64 (g j)])] = 
  T.ite (no != (0 : Int))
    (T.ret
      (AV.ff,
        [some (Blk.mk true [AV.int IntKind.i64 c, AV.int IntKind.i64 s, AV.int IntKind.i64 l, AV.bool d] (0 : Nat) (0 : Nat) (fun x => []) [] none), some (Blk.mk false [] (1 : Nat) ca (fun j => [AV.int IntKind.i64 (f j)]) [] none), some (Blk.mk false [] (1 : Nat) cb (fun j => [AV.int IntKind.i64 (g j)]) [] none),
          some (Blk.mk true [AV.ptr (0 : Nat) (0 : Nat) (0 : Nat) (0 : Nat)] (0 : Nat) (0 : Nat) (fun x => []) [] none), some (Blk.mk true [AV.sl (1 : Nat) (0 : Nat) (1 : Nat) (0 : Nat) la ca] (0 : Nat) (0 : Nat) (fun x => []) [] none), some (Blk.mk true [AV.sl (2 : Nat) (0 : Nat) (1 : Nat) (0 : Nat) lb cb] (0 : Nat) (0 : Nat) (fun x => []) [] none)]))
    (T.ite (!idle)
      (T.ret
        (AV.ff,
          [some (Blk.mk true [AV.int IntKind.i64 c, AV.int IntKind.i64 s, AV.int IntKind.i64 l, AV.bool d] (0 : Nat) (0 : Nat) (fun x => []) [] none), some (Blk.mk false [] (1 : Nat) ca (fun j => [AV.int IntKind.i64 (f j)]) [] none), some (Blk.mk false [] (1 : Nat) cb (fun j => [AV.int IntKind.i64 (g j)]) [] none),
            some (Blk.mk true [AV.ptr (0 : Nat) (0 : Nat) (0 : Nat) (0 : Nat)] (0 : Nat) (0 : Nat) (fun x => []) [] none), some (Blk.mk true [AV.sl (1 : Nat) (0 : Nat) (1 : Nat) (0 : Nat) la ca] (0 : Nat) (0 : Nat) (fun x => []) [] none), some (Blk.mk true [AV.sl (2 : Nat) (0 : Nat) (1 : Nat) (0 : Nat) lb cb] (0 : Nat) (0 : Nat) (fun x => []) [] none)]))
      (T.ite (decide ((if (↑lb : Int) < (↑la : Int) then (↑lb : Int) else (↑la : Int)) ≤ (0 : Int)))
        (T.chk (decide ((4 : Nat) < (6 : Nat)) && (decide ((5 : Nat) < (6 : Nat)) && decide ((3 : Nat) < (6 : Nat))))
          (T.ite true
            (T.ret
              (AV.ff,
                [some (Blk.mk true [AV.int IntKind.i64 c, AV.int IntKind.i64 s, AV.int IntKind.i64 l, AV.bool d] (0 : Nat) (0 : Nat) (fun x => []) [] none), some (Blk.mk false [] (1 : Nat) ca (fun j => [AV.int IntKind.i64 (f j)]) [] none), some (Blk.mk false [] (1 : Nat) cb (fun j => [AV.int IntKind.i64 (g j)]) [] none),
                  some (Blk.mk true [AV.ptr (0 : Nat) (0 : Nat) (0 : Nat) (0 : Nat)] (0 : Nat) (0 : Nat) (fun x => []) [] none), some (Blk.mk true [AV.sl (1 : Nat) (0 : Nat) (1 : Nat) (0 : Nat) la ca] (0 : Nat) (0 : Nat) (fun x => []) [] none), some (Blk.mk true [AV.sl (2 : Nat) (0 : Nat) (1 : Nat) (0 : Nat) lb cb] (0 : Nat) (0 : Nat) (fun x => []) [] none)]))
            (T.ite d
              (T.ite (decide (IntKind.wrap IntKind.i64 (now - l) < c))
                (T.ret
                  (AV.ff,
                    [some (Blk.mk true [AV.int IntKind.i64 c, AV.int IntKind.i64 s, AV.int IntKind.i64 l, AV.bool d] (0 : Nat) (0 : Nat) (fun x => []) [] none), some (Blk.mk false [] (1 : Nat) ca (fun j => [AV.int IntKind.i64 (f j)]) [] none), some (Blk.mk false [] (1 : Nat) cb (fun j => [AV.int IntKind.i64 (g j)]) [] none),
                      some (Blk.mk true [AV.ptr (0 : Nat) (0 : Nat) (0 : Nat) (0 : Nat)] (0 : Nat) (0 : Nat) (fun x => []) [] none), some (Blk.mk true [AV.sl (1 : Nat) (0 : Nat) (1 : Nat) (0 : Nat) la ca] (0 : Nat) (0 : Nat) (fun x => []) [] none), some (Blk.mk true [AV.sl (2 : Nat) (0 : Nat) (1 : Nat) (0 : Nat) lb cb] (0 : Nat) (0 : Nat) (fun x => []) [] none)]))
                (T.need (AV.ptr (0 : Nat) (0 : Nat) (0 : Nat) (0 : Nat) = AV.ptr (0 : Nat) (0 : Nat) (0 : Nat) (0 : Nat))
                  (T.need (AV.ptr (0 : Nat) (0 : Nat) (0 : Nat) (0 : Nat) = AV.ptr (0 : Nat) (0 : Nat) (0 : Nat) (0 : Nat))
                    (T.need (AV.ptr (0 : Nat) (0 : Nat) (0 : Nat) (0 : Nat) = AV.ptr (0 : Nat) (0 : Nat) (0 : Nat) (0 : Nat))
                      (T.ret
                        (AV.tt,
                          [some (Blk.mk true [AV.int IntKind.i64 c, AV.int IntKind.i64 s, AV.int IntKind.i64 now, AV.tt] (0 : Nat) (0 : Nat) (fun a => []) [] none), some (Blk.mk false [] (1 : Nat) ca (fun j => [AV.int IntKind.i64 (f j)]) [] none), some (Blk.mk false [] (1 : Nat) cb (fun j => [AV.int IntKind.i64 (g j)]) [] none),
                            some (Blk.mk true [AV.ptr (0 : Nat) (0 : Nat) (0 : Nat) (0 : Nat)] (0 : Nat) (0 : Nat) (fun x => []) [] none), some (Blk.mk true [AV.sl (1 : Nat) (0 : Nat) (1 : Nat) (0 : Nat) la ca] (0 : Nat) (0 : Nat) (fun x => []) [] none), some (Blk.mk true [AV.sl (2 : Nat) (0 : Nat) (1 : Nat) (0 : Nat) lb cb] (0 : Nat) (0 : Nat) (fun x => []) [] none)]))))))
              (T.need (AV.ptr (0 : Nat) (0 : Nat) (0 : Nat) (0 : Nat) = AV.ptr (0 : Nat) (0 : Nat) (0 : Nat) (0 : Nat))
                (T.need (AV.ptr (0 : Nat) (0 : Nat) (0 : Nat) (0 : Nat) = AV.ptr (0 : Nat) (0 : Nat) (0 : Nat) (0 : Nat))
                  (T.need (AV.ptr (0 : Nat) (0 : Nat) (0 : Nat) (0 : Nat) = AV.ptr (0 : Nat) (0 : Nat) (0 : Nat) (0 : Nat))
                    (T.ret
                      (AV.tt,
                        [some (Blk.mk true [AV.int IntKind.i64 c, AV.int IntKind.i64 s, AV.int IntKind.i64 now, AV.tt] (0 : Nat) (0 : Nat) (fun a => []) [] none), some (Blk.mk false [] (1 : Nat) ca (fun j => [AV.int IntKind.i64 (f j)]) [] none), some (Blk.mk false [] (1 : Nat) cb (fun j => [AV.int IntKind.i64 (g j)]) [] none),
                          some (Blk.mk true [AV.ptr (0 : Nat) (0 : Nat) (0 : Nat) (0 : Nat)] (0 : Nat) (0 : Nat) (fun x => []) [] none), some (Blk.mk true [AV.sl (1 : Nat) (0 : Nat) (1 : Nat) (0 : Nat) la ca] (0 : Nat) (0 : Nat) (fun x => []) [] none), some (Blk.mk true [AV.sl (2 : Nat) (0 : Nat) (1 : Nat) (0 : Nat) lb cb] (0 : Nat) (0 : Nat) (fun x => []) [] none)]))))))))
        (T.need
          (vwOK
            [some (Blk.mk true [AV.int IntKind.i64 c, AV.int IntKind.i64 s, AV.int IntKind.i64 l, AV.bool d] (0 : Nat) (0 : Nat) (fun x => []) [] none), some (Blk.mk false [] (1 : Nat) ca (fun j => [AV.int IntKind.i64 (f j)]) [] none), some (Blk.mk false [] (1 : Nat) cb (fun j => [AV.int IntKind.i64 (g j)]) [] none),
              some (Blk.mk true [AV.ptr (0 : Nat) (0 : Nat) (0 : Nat) (0 : Nat)] (0 : Nat) (0 : Nat) (fun x => []) [] none), some (Blk.mk true [AV.sl (1 : Nat) (0 : Nat) (1 : Nat) (0 : Nat) la ca] (0 : Nat) (0 : Nat) (fun x => []) [] none), some (Blk.mk true [AV.sl (2 : Nat) (0 : Nat) (1 : Nat) (0 : Nat) lb cb] (0 : Nat) (0 : Nat) (fun x => []) [] none)]
            (4 : Nat) (5 : Nat) (3 : Nat) (VW.mk (1 : Nat) (2 : Nat) (0 : Nat) la ca lb cb f g c s l d))
          (T.chk (decide ((if (↑lb : Int) < (↑la : Int) then (↑lb : Int) else (↑la : Int)) ≤ (↑la : Int)) && (decide ((if (↑lb : Int) < (↑la : Int) then (↑lb : Int) else (↑la : Int)) ≤ (↑lb : Int)) && decide ((if (↑lb : Int) < (↑la : Int) then (↑lb : Int) else (↑la : Int)) ≤ (4611686018427387904 : Int))))
            (T.ite (!anyR (VW.mk (1 : Nat) (2 : Nat) (0 : Nat) la ca lb cb f g c s l d) (0 : Nat) (Int.toNat (if (↑lb : Int) < (↑la : Int) then (↑lb : Int) else (↑la : Int))))
              (T.ret
                (AV.ff,
                  [some (Blk.mk true [AV.int IntKind.i64 c, AV.int IntKind.i64 s, AV.int IntKind.i64 l, AV.bool d] (0 : Nat) (0 : Nat) (fun x => []) [] none), some (Blk.mk false [] (1 : Nat) ca (fun j => [AV.int IntKind.i64 (f j)]) [] none), some (Blk.mk false [] (1 : Nat) cb (fun j => [AV.int IntKind.i64 (g j)]) [] none),
                    some (Blk.mk true [AV.ptr (0 : Nat) (0 : Nat) (0 : Nat) (0 : Nat)] (0 : Nat) (0 : Nat) (fun x => []) [] none), some (Blk.mk true [AV.sl (1 : Nat) (0 : Nat) (1 : Nat) (0 : Nat) la ca] (0 : Nat) (0 : Nat) (fun x => []) [] none), some (Blk.mk true [AV.sl (2 : Nat) (0 : Nat) (1 : Nat) (0 : Nat) lb cb] (0 : Nat) (0 : Nat) (fun x => []) [] none)]))
              (T.ite d
                (T.ite (decide (IntKind.wrap IntKind.i64 (now - l) < c))
                  (T.ret
                    (AV.ff,
                      [some (Blk.mk true [AV.int IntKind.i64 c, AV.int IntKind.i64 s, AV.int IntKind.i64 l, AV.bool d] (0 : Nat) (0 : Nat) (fun x => []) [] none), some (Blk.mk false [] (1 : Nat) ca (fun j => [AV.int IntKind.i64 (f j)]) [] none), some (Blk.mk false [] (1 : Nat) cb (fun j => [AV.int IntKind.i64 (g j)]) [] none),
                        some (Blk.mk true [AV.ptr (0 : Nat) (0 : Nat) (0 : Nat) (0 : Nat)] (0 : Nat) (0 : Nat) (fun x => []) [] none), some (Blk.mk true [AV.sl (1 : Nat) (0 : Nat) (1 : Nat) (0 : Nat) la ca] (0 : Nat) (0 : Nat) (fun x => []) [] none), some (Blk.mk true [AV.sl (2 : Nat) (0 : Nat) (1 : Nat) (0 : Nat) lb cb] (0 : Nat) (0 : Nat) (fun x => []) [] none)]))
                  (T.need (AV.ptr (0 : Nat) (0 : Nat) (0 : Nat) (0 : Nat) = AV.ptr (0 : Nat) (0 : Nat) (0 : Nat) (0 : Nat))
                    (T.need (AV.ptr (0 : Nat) (0 : Nat) (0 : Nat) (0 : Nat) = AV.ptr (0 : Nat) (0 : Nat) (0 : Nat) (0 : Nat))
                      (T.need (AV.ptr (0 : Nat) (0 : Nat) (0 : Nat) (0 : Nat) = AV.ptr (0 : Nat) (0 : Nat) (0 : Nat) (0 : Nat))
                        (T.ret
                          (AV.tt,
                            [some (Blk.mk true [AV.int IntKind.i64 c, AV.int IntKind.i64 s, AV.int IntKind.i64 now, AV.tt] (0 : Nat) (0 : Nat) (fun a => []) [] none), some (Blk.mk false [] (1 : Nat) ca (fun j => [AV.int IntKind.i64 (f j)]) [] none), some (Blk.mk false [] (1 : Nat) cb (fun j => [AV.int IntKind.i64 (g j)]) [] none),
                              some (Blk.mk true [AV.ptr (0 : Nat) (0 : Nat) (0 : Nat) (0 : Nat)] (0 : Nat) (0 : Nat) (fun x => []) [] none), some (Blk.mk true [AV.sl (1 : Nat) (0 : Nat) (1 : Nat) (0 : Nat) la ca] (0 : Nat) (0 : Nat) (fun x => []) [] none), some (Blk.mk true [AV.sl (2 : Nat) (0 : Nat) (1 : Nat) (0 : Nat) lb cb] (0 : Nat) (0 : Nat) (fun x => []) [] none)]))))))
                (T.need (AV.ptr (0 : Nat) (0 : Nat) (0 : Nat) (0 : Nat) = AV.ptr (0 : Nat) (0 : Nat) (0 : Nat) (0 : Nat))
                  (T.need (AV.ptr (0 : Nat) (0 : Nat) (0 : Nat) (0 : Nat) = AV.ptr (0 : Nat) (0 : Nat) (0 : Nat) (0 : Nat))
                    (T.need (AV.ptr (0 : Nat) (0 : Nat) (0 : Nat) (0 : Nat) = AV.ptr (0 : Nat) (0 : Nat) (0 : Nat) (0 : Nat))
                      (T.ret
                        (AV.tt,
                          [some (Blk.mk true [AV.int IntKind.i64 c, AV.int IntKind.i64 s, AV.int IntKind.i64 now, AV.tt] (0 : Nat) (0 : Nat) (fun a => []) [] none), some (Blk.mk false [] (1 : Nat) ca (fun j => [AV.int IntKind.i64 (f j)]) [] none), some (Blk.mk false [] (1 : Nat) cb (fun j => [AV.int IntKind.i64 (g j)]) [] none),
                            some (Blk.mk true [AV.ptr (0 : Nat) (0 : Nat) (0 : Nat) (0 : Nat)] (0 : Nat) (0 : Nat) (fun x => []) [] none), some (Blk.mk true [AV.sl (1 : Nat) (0 : Nat) (1 : Nat) (0 : Nat) la ca] (0 : Nat) (0 : Nat) (fun x => []) [] none), some (Blk.mk true [AV.sl (2 : Nat) (0 : Nat) (1 : Nat) (0 : Nat) lb cb] (0 : Nat) (0 : Nat) (fun x => []) [] none)]))))))))))) := by
  kernel_rfl

/-- Whether something is far off, of two lists; what Decide answers, and leaves. -/
def offA (f g : Nat → Int) (la lb : Nat) (s : Int) : Bool := anyR ⟨0, 0, 0, la, la, lb, lb, f, g, 0, s, 0, false⟩ 0 (min la lb)
def deA (c l : Int) (d : Bool) (now no : Int) (idle off : Bool) : Bool := (no == 0 && idle && off) && !(d && decide (IntKind.wrap .i64 (now - l) < c))
def deN (c s l : Int) (d : Bool) (now : Int) (yes : Bool) : Blk := polB c s (if yes then now else l) (d || yes)

end Go.Proofs.Ytmhlkcboajgigaa
