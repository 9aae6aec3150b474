/-
  Layer 27: the document's Decide.
-/
import Derived.Test.YtmhlkcboajgigaaHV
namespace Go.Proofs.Ytmhlkcboajgigaa
open Go.Ox
set_option maxRecDepth 100000
set_option linter.unusedVariables false
set_option linter.unusedSimpArgs false

noncomputable def apE : Env := { nt := Try.f20.ntmps, n0 := 0, fns := [], loop := fun _ _ => .fail }

theorem ap_fn (a b : Int) : vfn Try.prog apE Try.f20 (codeOf Try.f20) [.int .i64 a, .int .i64 b] = 
  T.ite (decide (a < b)) (T.ret (AV.int IntKind.u64 (IntKind.wrap IntKind.u64 (IntKind.wrap IntKind.u64 b - IntKind.wrap IntKind.u64 a)))) (T.ret (AV.int IntKind.u64 (IntKind.wrap IntKind.u64 (IntKind.wrap IntKind.u64 a - IntKind.wrap IntKind.u64 b)))) := by
  kernel_rfl

def apG (a b : Int) : Int := if a < b then IntKind.wrap .u64 (IntKind.wrap .u64 b - IntKind.wrap .u64 a) else IntKind.wrap .u64 (IntKind.wrap .u64 a - IntKind.wrap .u64 b)

def apS : List AV → T AV
  | [.int .i64 a, .int .i64 b] => .ret (.int .u64 (apG a b))
  | _ => .fail

theorem ap_ok : SummOK Try.prog 20 (.pure fun args _ => apS args) := by
  refine val_fn (E := apE) (c := codeOf Try.f20) (fun args w => Try.call20 args w) Try.func20 rfl (EnvOK.nil) (noLoops (by kernel_rfl)) rfl rfl ?_
  intro args Q hq
  unfold apS at hq ⊢
  split at hq
  · rename_i a b
    refine ⟨rfl, _, rfl, fun Q h => h, rfl, ?_⟩
    rw [ap_fn]
    refine T.hiteP (fun h => ?_) (fun h => ?_)
    · have e : apG a b = _ := if_pos h
      rw [e]; exact T.hret (Ox.Alike_refl _)
    · have e : apG a b = _ := if_neg h
      rw [e]; exact T.hret (Ox.Alike_refl _)
  · exact hq.elim

structure RD where
  f : Nat → Int
  g : Nat → Int
  la : Nat
  ca : Nat
  lb : Nat
  cb : Nat
  c : Int
  s : Int
  l : Int
  d : Bool
  now : Int
  no : Int
  idle : Bool
  w : Bool
  i : Nat

def rdMem (x : RD) : AM := [some (polB x.c x.s x.l x.d), some (Blk.rows false 1 x.ca fun j => [.int .i64 (x.f j)]), some (Blk.rows false 1 x.cb fun j => [.int .i64 (x.g j)])]

def rdSt (x : RD) : St := ⟨[(0, .ptr 0 0 0 0), (1, .int .i64 x.now), (2, .sl 1 0 1 0 x.la x.ca), (3, .sl 2 0 1 0 x.lb x.cb), (4, .int .i64 x.no), (5, .bool x.idle), (13, .bool x.w), (14, .int .i64 x.i)], rdMem x⟩

def InI (z : Int) : Prop := -9223372036854775808 ≤ z ∧ z ≤ 9223372036854775807

def anyO (f g : Nat → Int) (s : Int) (n : Nat) : Bool := anyR ⟨0, 0, 0, 0, 0, 0, 0, f, g, 0, s, 0, false⟩ 0 n

def rdInv (x : RD) : Prop := x.la ≤ x.ca ∧ x.lb ≤ x.cb ∧ (∀ j, j < x.la → InI (x.f j)) ∧ (∀ j, j < x.lb → InI (x.g j)) ∧ 1 ≤ x.s ∧ x.s ≤ 9223372036854775807 ∧ x.la ≤ 4611686018427387904 ∧ x.i ≤ x.la ∧ x.i ≤ x.lb ∧ x.w = anyO x.f x.g x.s x.i

def rdPick (st : St) : Option RD :=
  match slotAt st.fr 1, slotAt st.fr 2, slotAt st.fr 3, slotAt st.fr 4, slotAt st.fr 5, AM.get st.m 0, AM.get st.m 1, AM.get st.m 2 with
  | some (.int _ now), some (.sl _ _ _ _ la ca), some (.sl _ _ _ _ lb cb), some (.int _ no), some v, some b, some b1, some b2 => some ⟨intAt b1, intAt b2, la, ca, lb, cb, intB (b.pre.getD 0 .ff), intB (b.pre.getD 1 .ff), intB (b.pre.getD 2 .ff), boolB (b.pre.getD 3 .ff), now, no, boolB v, false, 0⟩
  | _, _, _, _, _, _, _, _ => none

def rdEnd (x : RD) : T (Ex × St) := .ret (.exit 0, rdSt { x with w := anyO x.f x.g x.s (min x.la x.lb), i := min x.la x.lb })

noncomputable def rdE : Env := { nt := Try.f15.ntmps, n0 := 3, fns := [(20, .pure fun args _ => apS args)], loop := fun k => if k = 3 then loopSumm 3 rdSt rdInv rdPick rdEnd else fun _ => .fail }

noncomputable def rdZ0 (n : Nat) : Env := { nt := Try.f15.ntmps, n0 := n, fns := [], loop := fun _ _ => .fail }

noncomputable def rdZ (n : Nat) : Env := { nt := Try.f15.ntmps, n0 := n, fns := [], loop := fun k => if k = 3 then unrollN Try.prog (rdZ0 n) (loopAt (codeOf Try.f15) 0) 1 else fun _ => .fail }

theorem rd_tree (f g : Nat → Int) (la ca lb cb : Nat) (c s l : Int) (d : Bool) (now no : Int) (idle w : Bool) (i : Nat) : keepT [0, 1, 2, 3, 4, 5, 13, 14] (acode Try.prog rdE (loopAt (codeOf Try.f15) 0) (rdSt ⟨f, g, la, ca, lb, cb, c, s, l, d, now, no, idle, w, i⟩)) = 
  T.ite (decide ((↑i : Int) < (↑la : Int)))
    (T.ite (decide ((↑i : Int) < (↑lb : Int)))
      (T.ite w
        (T.ret
          (Ex.norm,
            St.mk
              [((0 : Nat), AV.ptr (0 : Nat) (0 : Nat) (0 : Nat) (0 : Nat)), ((1 : Nat), AV.int IntKind.i64 now), ((2 : Nat), AV.sl (1 : Nat) (0 : Nat) (1 : Nat) (0 : Nat) la ca), ((3 : Nat), AV.sl (2 : Nat) (0 : Nat) (1 : Nat) (0 : Nat) lb cb), ((4 : Nat), AV.int IntKind.i64 no), ((5 : Nat), AV.bool idle), ((13 : Nat), AV.tt),
                ((14 : Nat), AV.int IntKind.i64 (IntKind.wrap IntKind.i64 ((↑i : Int) + (1 : Int))))]
              [some (Blk.mk true [AV.int IntKind.i64 c, AV.int IntKind.i64 s, AV.int IntKind.i64 l, AV.bool d] (0 : Nat) (0 : Nat) (fun x => []) [] none), some (Blk.mk false [] (1 : Nat) ca (fun j => [AV.int IntKind.i64 (f j)]) [] none), some (Blk.mk false [] (1 : Nat) cb (fun j => [AV.int IntKind.i64 (g j)]) [] none)]))
        (T.chk (decide ((0 : Int) ≤ (↑i : Int)) && decide ((↑i : Int) < (↑la : Int)))
          (T.chk (decide ((0 : Nat) + Int.toNat (↑i : Int) < ca))
            (T.chk (decide ((0 : Int) ≤ (↑i : Int)) && decide ((↑i : Int) < (↑lb : Int)))
              (T.chk (decide ((0 : Nat) + Int.toNat (↑i : Int) < cb))
                (T.ite (f ((0 : Nat) + Int.toNat (↑i : Int)) != g ((0 : Nat) + Int.toNat (↑i : Int)))
                  (T.chk (decide ((0 : Int) ≤ (↑i : Int)) && decide ((↑i : Int) < (↑la : Int)))
                    (T.chk (decide ((0 : Nat) + Int.toNat (↑i : Int) < ca))
                      (T.chk (decide ((0 : Int) ≤ (↑i : Int)) && decide ((↑i : Int) < (↑lb : Int)))
                        (T.chk (decide ((0 : Nat) + Int.toNat (↑i : Int) < cb))
                          (T.ret
                            (Ex.norm,
                              St.mk
                                [((0 : Nat), AV.ptr (0 : Nat) (0 : Nat) (0 : Nat) (0 : Nat)), ((1 : Nat), AV.int IntKind.i64 now), ((2 : Nat), AV.sl (1 : Nat) (0 : Nat) (1 : Nat) (0 : Nat) la ca), ((3 : Nat), AV.sl (2 : Nat) (0 : Nat) (1 : Nat) (0 : Nat) lb cb), ((4 : Nat), AV.int IntKind.i64 no), ((5 : Nat), AV.bool idle),
                                  ((13 : Nat), AV.bool (decide (apG (f ((0 : Nat) + Int.toNat (↑i : Int))) (g ((0 : Nat) + Int.toNat (↑i : Int))) ≥ IntKind.wrap IntKind.u64 s))), ((14 : Nat), AV.int IntKind.i64 (IntKind.wrap IntKind.i64 ((↑i : Int) + (1 : Int))))]
                                [some (Blk.mk true [AV.int IntKind.i64 c, AV.int IntKind.i64 s, AV.int IntKind.i64 l, AV.bool d] (0 : Nat) (0 : Nat) (fun x => []) [] none), some (Blk.mk false [] (1 : Nat) ca (fun j => [AV.int IntKind.i64 (f j)]) [] none), some (Blk.mk false [] (1 : Nat) cb (fun j => [AV.int IntKind.i64 (g j)]) [] none)]))))))
                  (T.ret
                    (Ex.norm,
                      St.mk
                        [((0 : Nat), AV.ptr (0 : Nat) (0 : Nat) (0 : Nat) (0 : Nat)), ((1 : Nat), AV.int IntKind.i64 now), ((2 : Nat), AV.sl (1 : Nat) (0 : Nat) (1 : Nat) (0 : Nat) la ca), ((3 : Nat), AV.sl (2 : Nat) (0 : Nat) (1 : Nat) (0 : Nat) lb cb), ((4 : Nat), AV.int IntKind.i64 no), ((5 : Nat), AV.bool idle), ((13 : Nat), AV.ff),
                          ((14 : Nat), AV.int IntKind.i64 (IntKind.wrap IntKind.i64 ((↑i : Int) + (1 : Int))))]
                        [some (Blk.mk true [AV.int IntKind.i64 c, AV.int IntKind.i64 s, AV.int IntKind.i64 l, AV.bool d] (0 : Nat) (0 : Nat) (fun x => []) [] none), some (Blk.mk false [] (1 : Nat) ca (fun j => [AV.int IntKind.i64 (f j)]) [] none), some (Blk.mk false [] (1 : Nat) cb (fun j => [AV.int IntKind.i64 (g j)]) [] none)]))))))))
      (T.ret
        (Ex.exit (0 : Nat),
          St.mk [((0 : Nat), AV.ptr (0 : Nat) (0 : Nat) (0 : Nat) (0 : Nat)), ((1 : Nat), AV.int IntKind.i64 now), ((2 : Nat), AV.sl (1 : Nat) (0 : Nat) (1 : Nat) (0 : Nat) la ca), ((3 : Nat), AV.sl (2 : Nat) (0 : Nat) (1 : Nat) (0 : Nat) lb cb), ((4 : Nat), AV.int IntKind.i64 no), ((5 : Nat), AV.bool idle), ((13 : Nat), AV.bool w), ((14 : Nat), AV.int IntKind.i64 (↑i : Int))]
            [some (Blk.mk true [AV.int IntKind.i64 c, AV.int IntKind.i64 s, AV.int IntKind.i64 l, AV.bool d] (0 : Nat) (0 : Nat) (fun x => []) [] none), some (Blk.mk false [] (1 : Nat) ca (fun j => [AV.int IntKind.i64 (f j)]) [] none), some (Blk.mk false [] (1 : Nat) cb (fun j => [AV.int IntKind.i64 (g j)]) [] none)])))
    (T.ret
      (Ex.exit (0 : Nat),
        St.mk [((0 : Nat), AV.ptr (0 : Nat) (0 : Nat) (0 : Nat) (0 : Nat)), ((1 : Nat), AV.int IntKind.i64 now), ((2 : Nat), AV.sl (1 : Nat) (0 : Nat) (1 : Nat) (0 : Nat) la ca), ((3 : Nat), AV.sl (2 : Nat) (0 : Nat) (1 : Nat) (0 : Nat) lb cb), ((4 : Nat), AV.int IntKind.i64 no), ((5 : Nat), AV.bool idle), ((13 : Nat), AV.bool w), ((14 : Nat), AV.int IntKind.i64 (↑i : Int))]
          [some (Blk.mk true [AV.int IntKind.i64 c, AV.int IntKind.i64 s, AV.int IntKind.i64 l, AV.bool d] (0 : Nat) (0 : Nat) (fun x => []) [] none), some (Blk.mk false [] (1 : Nat) ca (fun j => [AV.int IntKind.i64 (f j)]) [] none), some (Blk.mk false [] (1 : Nat) cb (fun j => [AV.int IntKind.i64 (g j)]) [] none)])) := by
  kernel_rfl

theorem rd_fn (f g : Nat → Int) (la ca lb cb : Nat) (c s l : Int) (d : Bool) (now no : Int) (idle : Bool) : afn Try.prog rdE Try.f15 (codeOf Try.f15) [.ptr 0 0 0 0, .int .i64 now, .sl 1 0 1 0 la ca, .sl 2 0 1 0 lb cb, .int .i64 no, .bool idle] (rdMem ⟨f, g, la, ca, lb, cb, c, s, l, d, now, no, idle, false, 0⟩) = 
  T.need
    (∃ ρ,
      SubSt (3 : Nat) ρ
        (St.mk [((0 : Nat), AV.ptr (0 : Nat) (0 : Nat) (0 : Nat) (0 : Nat)), ((1 : Nat), AV.int IntKind.i64 now), ((2 : Nat), AV.sl (1 : Nat) (0 : Nat) (1 : Nat) (0 : Nat) la ca), ((3 : Nat), AV.sl (2 : Nat) (0 : Nat) (1 : Nat) (0 : Nat) lb cb), ((4 : Nat), AV.int IntKind.i64 no), ((5 : Nat), AV.bool idle), ((13 : Nat), AV.ff), ((14 : Nat), AV.int IntKind.i64 (0 : Int))]
          [some (Blk.mk true [AV.int IntKind.i64 c, AV.int IntKind.i64 s, AV.int IntKind.i64 l, AV.bool d] (0 : Nat) (0 : Nat) (fun x => []) [] none), some (Blk.mk false [] (1 : Nat) ca (fun j => [AV.int IntKind.i64 (f j)]) [] none), some (Blk.mk false [] (1 : Nat) cb (fun j => [AV.int IntKind.i64 (g j)]) [] none)])
        (rdSt (RD.mk f g la ca lb cb c s l d now no idle false (0 : Nat))))
    (T.need (rdInv (RD.mk f g la ca lb cb c s l d now no idle false (0 : Nat)))
      (T.ite (no != (0 : Int)) (T.ret (AV.ff, [some (Blk.mk true [AV.int IntKind.i64 c, AV.int IntKind.i64 s, AV.int IntKind.i64 l, AV.bool d] (0 : Nat) (0 : Nat) (fun x => []) [] none), some (Blk.mk false [] (1 : Nat) ca (fun j => [AV.int IntKind.i64 (f j)]) [] none), some (Blk.mk false [] (1 : Nat) cb (fun j => [AV.int IntKind.i64 (g j)]) [] none)]))
        (T.ite (!idle) (T.ret (AV.ff, [some (Blk.mk true [AV.int IntKind.i64 c, AV.int IntKind.i64 s, AV.int IntKind.i64 l, AV.bool d] (0 : Nat) (0 : Nat) (fun x => []) [] none), some (Blk.mk false [] (1 : Nat) ca (fun j => [AV.int IntKind.i64 (f j)]) [] none), some (Blk.mk false [] (1 : Nat) cb (fun j => [AV.int IntKind.i64 (g j)]) [] none)]))
          (T.ite (!anyO f g s (min la lb)) (T.ret (AV.ff, [some (Blk.mk true [AV.int IntKind.i64 c, AV.int IntKind.i64 s, AV.int IntKind.i64 l, AV.bool d] (0 : Nat) (0 : Nat) (fun x => []) [] none), some (Blk.mk false [] (1 : Nat) ca (fun j => [AV.int IntKind.i64 (f j)]) [] none), some (Blk.mk false [] (1 : Nat) cb (fun j => [AV.int IntKind.i64 (g j)]) [] none)]))
            (T.ite d
              (T.ite (decide (IntKind.wrap IntKind.i64 (now - l) < c)) (T.ret (AV.ff, [some (Blk.mk true [AV.int IntKind.i64 c, AV.int IntKind.i64 s, AV.int IntKind.i64 l, AV.bool d] (0 : Nat) (0 : Nat) (fun x => []) [] none), some (Blk.mk false [] (1 : Nat) ca (fun j => [AV.int IntKind.i64 (f j)]) [] none), some (Blk.mk false [] (1 : Nat) cb (fun j => [AV.int IntKind.i64 (g j)]) [] none)]))
                (T.ret (AV.tt, [some (Blk.mk true [AV.int IntKind.i64 c, AV.int IntKind.i64 s, AV.int IntKind.i64 now, AV.tt] (0 : Nat) (0 : Nat) (fun a => []) [] none), some (Blk.mk false [] (1 : Nat) ca (fun j => [AV.int IntKind.i64 (f j)]) [] none), some (Blk.mk false [] (1 : Nat) cb (fun j => [AV.int IntKind.i64 (g j)]) [] none)])))
              (T.ret (AV.tt, [some (Blk.mk true [AV.int IntKind.i64 c, AV.int IntKind.i64 s, AV.int IntKind.i64 now, AV.tt] (0 : Nat) (0 : Nat) (fun a => []) [] none), some (Blk.mk false [] (1 : Nat) ca (fun j => [AV.int IntKind.i64 (f j)]) [] none), some (Blk.mk false [] (1 : Nat) cb (fun j => [AV.int IntKind.i64 (g j)]) [] none)]))))))) := by
  kernel_rfl

theorem rd_fn00 (c s l : Int) (d : Bool) (now no : Int) (idle : Bool) (a b : Option Addr) : afn Try.prog (rdZ 1) Try.f15 (codeOf Try.f15) [.ptr 0 0 0 0, .int .i64 now, .esl a, .esl b, .int .i64 no, .bool idle] [some (polB c s l d)] = 
  T.ite false
    (T.ite false T.fail
      (T.ite (no != (0 : Int)) (T.ret (AV.ff, [some (Blk.mk true [AV.int IntKind.i64 c, AV.int IntKind.i64 s, AV.int IntKind.i64 l, AV.bool d] (0 : Nat) (0 : Nat) (fun x => []) [] none)]))
        (T.ite (!idle) (T.ret (AV.ff, [some (Blk.mk true [AV.int IntKind.i64 c, AV.int IntKind.i64 s, AV.int IntKind.i64 l, AV.bool d] (0 : Nat) (0 : Nat) (fun x => []) [] none)])) (T.ret (AV.ff, [some (Blk.mk true [AV.int IntKind.i64 c, AV.int IntKind.i64 s, AV.int IntKind.i64 l, AV.bool d] (0 : Nat) (0 : Nat) (fun x => []) [] none)])))))
    (T.ite (no != (0 : Int)) (T.ret (AV.ff, [some (Blk.mk true [AV.int IntKind.i64 c, AV.int IntKind.i64 s, AV.int IntKind.i64 l, AV.bool d] (0 : Nat) (0 : Nat) (fun x => []) [] none)]))
      (T.ite (!idle) (T.ret (AV.ff, [some (Blk.mk true [AV.int IntKind.i64 c, AV.int IntKind.i64 s, AV.int IntKind.i64 l, AV.bool d] (0 : Nat) (0 : Nat) (fun x => []) [] none)])) (T.ret (AV.ff, [some (Blk.mk true [AV.int IntKind.i64 c, AV.int IntKind.i64 s, AV.int IntKind.i64 l, AV.bool d] (0 : Nat) (0 : Nat) (fun x => []) [] none)])))) := by
  kernel_rfl

theorem rd_fnl0 (c s l : Int) (d : Bool) (f : Nat → Int) (la ca : Nat) (now no : Int) (idle : Bool) (a : Option Addr) : afn Try.prog (rdZ 2) Try.f15 (codeOf Try.f15) [.ptr 0 0 0 0, .int .i64 now, .sl 1 0 1 0 la ca, .esl a, .int .i64 no, .bool idle] [some (polB c s l d), some (Blk.rows false 1 ca fun j => [.int .i64 (f j)])] = 
  T.ite (decide ((0 : Int) < (↑la : Int)))
    (T.ite false (T.chk (decide ((0 : Int) ≤ (0 : Int)) && decide ((0 : Int) < (↑la : Int))) (T.chk (decide ((0 : Nat) < ca)) T.fail))
      (T.ite (no != (0 : Int)) (T.ret (AV.ff, [some (Blk.mk true [AV.int IntKind.i64 c, AV.int IntKind.i64 s, AV.int IntKind.i64 l, AV.bool d] (0 : Nat) (0 : Nat) (fun x => []) [] none), some (Blk.mk false [] (1 : Nat) ca (fun j => [AV.int IntKind.i64 (f j)]) [] none)]))
        (T.ite (!idle) (T.ret (AV.ff, [some (Blk.mk true [AV.int IntKind.i64 c, AV.int IntKind.i64 s, AV.int IntKind.i64 l, AV.bool d] (0 : Nat) (0 : Nat) (fun x => []) [] none), some (Blk.mk false [] (1 : Nat) ca (fun j => [AV.int IntKind.i64 (f j)]) [] none)]))
          (T.ret (AV.ff, [some (Blk.mk true [AV.int IntKind.i64 c, AV.int IntKind.i64 s, AV.int IntKind.i64 l, AV.bool d] (0 : Nat) (0 : Nat) (fun x => []) [] none), some (Blk.mk false [] (1 : Nat) ca (fun j => [AV.int IntKind.i64 (f j)]) [] none)])))))
    (T.ite (no != (0 : Int)) (T.ret (AV.ff, [some (Blk.mk true [AV.int IntKind.i64 c, AV.int IntKind.i64 s, AV.int IntKind.i64 l, AV.bool d] (0 : Nat) (0 : Nat) (fun x => []) [] none), some (Blk.mk false [] (1 : Nat) ca (fun j => [AV.int IntKind.i64 (f j)]) [] none)]))
      (T.ite (!idle) (T.ret (AV.ff, [some (Blk.mk true [AV.int IntKind.i64 c, AV.int IntKind.i64 s, AV.int IntKind.i64 l, AV.bool d] (0 : Nat) (0 : Nat) (fun x => []) [] none), some (Blk.mk false [] (1 : Nat) ca (fun j => [AV.int IntKind.i64 (f j)]) [] none)]))
        (T.ret (AV.ff, [some (Blk.mk true [AV.int IntKind.i64 c, AV.int IntKind.i64 s, AV.int IntKind.i64 l, AV.bool d] (0 : Nat) (0 : Nat) (fun x => []) [] none), some (Blk.mk false [] (1 : Nat) ca (fun j => [AV.int IntKind.i64 (f j)]) [] none)])))) := by
  kernel_rfl

theorem rd_fn0r (c s l : Int) (d : Bool) (f : Nat → Int) (la ca : Nat) (now no : Int) (idle : Bool) (a : Option Addr) : afn Try.prog (rdZ 2) Try.f15 (codeOf Try.f15) [.ptr 0 0 0 0, .int .i64 now, .esl a, .sl 1 0 1 0 la ca, .int .i64 no, .bool idle] [some (polB c s l d), some (Blk.rows false 1 ca fun j => [.int .i64 (f j)])] = 
  T.ite false
    (T.ite (decide ((0 : Int) < (↑la : Int))) T.fail
      (T.ite (no != (0 : Int)) (T.ret (AV.ff, [some (Blk.mk true [AV.int IntKind.i64 c, AV.int IntKind.i64 s, AV.int IntKind.i64 l, AV.bool d] (0 : Nat) (0 : Nat) (fun x => []) [] none), some (Blk.mk false [] (1 : Nat) ca (fun j => [AV.int IntKind.i64 (f j)]) [] none)]))
        (T.ite (!idle) (T.ret (AV.ff, [some (Blk.mk true [AV.int IntKind.i64 c, AV.int IntKind.i64 s, AV.int IntKind.i64 l, AV.bool d] (0 : Nat) (0 : Nat) (fun x => []) [] none), some (Blk.mk false [] (1 : Nat) ca (fun j => [AV.int IntKind.i64 (f j)]) [] none)]))
          (T.ret (AV.ff, [some (Blk.mk true [AV.int IntKind.i64 c, AV.int IntKind.i64 s, AV.int IntKind.i64 l, AV.bool d] (0 : Nat) (0 : Nat) (fun x => []) [] none), some (Blk.mk false [] (1 : Nat) ca (fun j => [AV.int IntKind.i64 (f j)]) [] none)])))))
    (T.ite (no != (0 : Int)) (T.ret (AV.ff, [some (Blk.mk true [AV.int IntKind.i64 c, AV.int IntKind.i64 s, AV.int IntKind.i64 l, AV.bool d] (0 : Nat) (0 : Nat) (fun x => []) [] none), some (Blk.mk false [] (1 : Nat) ca (fun j => [AV.int IntKind.i64 (f j)]) [] none)]))
      (T.ite (!idle) (T.ret (AV.ff, [some (Blk.mk true [AV.int IntKind.i64 c, AV.int IntKind.i64 s, AV.int IntKind.i64 l, AV.bool d] (0 : Nat) (0 : Nat) (fun x => []) [] none), some (Blk.mk false [] (1 : Nat) ca (fun j => [AV.int IntKind.i64 (f j)]) [] none)]))
        (T.ret (AV.ff, [some (Blk.mk true [AV.int IntKind.i64 c, AV.int IntKind.i64 s, AV.int IntKind.i64 l, AV.bool d] (0 : Nat) (0 : Nat) (fun x => []) [] none), some (Blk.mk false [] (1 : Nat) ca (fun j => [AV.int IntKind.i64 (f j)]) [] none)])))) := by
  kernel_rfl

end Go.Proofs.Ytmhlkcboajgigaa
