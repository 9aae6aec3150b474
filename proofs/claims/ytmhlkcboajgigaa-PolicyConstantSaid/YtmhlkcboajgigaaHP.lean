/-
  Layer 27: Constant.
-/
import Derived.Test.YtmhlkcboajgigaaHK
namespace Go.Proofs.Ytmhlkcboajgigaa
open Go.Ox
set_option maxRecDepth 100000
set_option linter.unusedVariables false
set_option linter.unusedSimpArgs false

def rwI (f : Nat → Int) (cap : Nat) : Blk := Blk.rows false 1 cap fun j => [.int .i64 (f j)]
structure PC where
  g : Bool
  f : Nat → Int
  h : Nat → Int
  la : Nat
  ca : Nat
  lb : Nat
  cb : Nat
  c : Int
  s : Int
  l : Int
  y : Int
  i : Nat
def pcA (x : PC) : St := ⟨[(2, .int .i64 x.y), (3, .sl 0 0 1 0 x.la x.ca), (4, .sl 1 0 1 0 x.lb x.cb), (11, .ptr 2 0 0 0), (12, .int .i64 0), (13, .int .i64 x.i)], [some (rwI x.f x.ca), some (rwI x.h x.cb), some (polB x.c x.s x.l false)]⟩
def pcB (x : PC) : St := ⟨[(2, .int .i64 x.y), (3, .sl 1 0 1 0 x.lb x.cb), (4, .sl 1 0 1 0 x.lb x.cb), (11, .ptr 2 0 0 0), (12, .int .i64 1), (13, .int .i64 x.i)], [some (rwI x.f x.ca), some (rwI x.h x.cb), some (polB x.c x.s x.l true)]⟩
def pcSt (x : PC) : St := match x.g with
  | true => pcB x
  | false => pcA x
def pcInv (x : PC) : Prop := x.la ≤ x.ca ∧ x.lb ≤ x.cb ∧ x.la ≤ 50 ∧ x.lb ≤ 50 ∧ 1 ≤ x.s ∧ x.s ≤ 9223372036854775807 ∧ x.i ≤ 100
def pcPick (st : St) : Option PC :=
  match slotAt st.fr 2, slotAt st.fr 3, slotAt st.fr 4, AM.get st.m 0, AM.get st.m 1, AM.get st.m 2 with
  | some (.int _ y), some (.sl _ _ _ _ la ca), some (.sl _ _ _ _ lb cb), some b0, some b1, some b2 => some ⟨false, intAt b0, intAt b1, la, ca, lb, cb, (poOf b2).c, (poOf b2).s, (poOf b2).l, y, 0⟩
  | _, _, _, _, _, _ => none
def pcEnd (n : Nat) : T (Ex × St) := .all fun k => .asm (decide (k ≤ 1)) (.ret (.exit 0, ⟨[(12, .int .i64 (k : Int))], List.replicate n none⟩))
noncomputable def pcE : Env := { laE Try.f5.ntmps with n0 := 2, loop := fun k => if k = 8 then loopSumm 2 pcSt pcInv pcPick (fun _ => pcEnd 2) else fun _ => .fail }

theorem pc_treeA (f h : Nat → Int) (la ca lb cb : Nat) (c s l y : Int) (i : Nat) : keepT [2, 3, 4, 11, 12, 13] (acode Try.prog pcE (loopAt (codeOf Try.f5) 0) (pcA ⟨false, f, h, la, ca, lb, cb, c, s, l, y, i⟩)) = 
  T.chk true
    (T.ite (decide ((↑i : Int) < if (100 : Int) < (1 : Int) then (0 : Int) else y % (100 : Int)))
      (T.need (IsPol (Blk.mk true [AV.int IntKind.i64 c, AV.int IntKind.i64 s, AV.int IntKind.i64 l, AV.bool false] (0 : Nat) (0 : Nat) (fun x => []) []))
        (T.need (IntRow IntKind.i64 (Blk.mk false [] (1 : Nat) ca (fun j => [AV.int IntKind.i64 (f j)]) []))
          (T.need (IntRow IntKind.i64 (Blk.mk false [] (1 : Nat) cb (fun j => [AV.int IntKind.i64 (h j)]) []))
            (T.chk (decide ((0 : Nat) ≠ (2 : Nat)) && (decide ((1 : Nat) ≠ (2 : Nat)) && (decide (ca = ca) && (decide (cb = cb) && (decide (la ≤ ca) && (decide (lb ≤ cb) && decide (la ≤ (4611686018427387904 : Nat))))))))
              (T.ite
                (deA (intB (List.getD [AV.int IntKind.i64 c, AV.int IntKind.i64 s, AV.int IntKind.i64 l, AV.bool false] (0 : Nat) AV.ff)) (intB (List.getD [AV.int IntKind.i64 c, AV.int IntKind.i64 s, AV.int IntKind.i64 l, AV.bool false] (2 : Nat) AV.ff)) (boolB (List.getD [AV.int IntKind.i64 c, AV.int IntKind.i64 s, AV.int IntKind.i64 l, AV.bool false] (3 : Nat) AV.ff))
                  (IntKind.wrap IntKind.i64 ((↑i : Int) * (1000 : Int))) (0 : Int) true (offA f h la lb (intB (List.getD [AV.int IntKind.i64 c, AV.int IntKind.i64 s, AV.int IntKind.i64 l, AV.bool false] (1 : Nat) AV.ff))))
                (T.ret
                  (Ex.norm,
                    St.mk [((2 : Nat), AV.int IntKind.i64 y), ((3 : Nat), AV.sl (1 : Nat) (0 : Nat) (1 : Nat) (0 : Nat) lb cb), ((4 : Nat), AV.sl (1 : Nat) (0 : Nat) (1 : Nat) (0 : Nat) lb cb), ((11 : Nat), AV.ptr (2 : Nat) (0 : Nat) (0 : Nat) (0 : Nat)), ((12 : Nat), AV.int IntKind.i64 (1 : Int)), ((13 : Nat), AV.int IntKind.i64 (IntKind.wrap IntKind.i64 ((↑i : Int) + (1 : Int))))]
                      [some (Blk.mk false [] (1 : Nat) ca (fun j => [AV.int IntKind.i64 (f j)]) []), some (Blk.mk false [] (1 : Nat) cb (fun j => [AV.int IntKind.i64 (h j)]) []),
                        some
                          (Blk.mk true
                            [AV.int IntKind.i64 (intB (List.getD [AV.int IntKind.i64 c, AV.int IntKind.i64 s, AV.int IntKind.i64 l, AV.bool false] (0 : Nat) AV.ff)), AV.int IntKind.i64 (intB (List.getD [AV.int IntKind.i64 c, AV.int IntKind.i64 s, AV.int IntKind.i64 l, AV.bool false] (1 : Nat) AV.ff)),
                              AV.int IntKind.i64
                                (if
                                    deA (intB (List.getD [AV.int IntKind.i64 c, AV.int IntKind.i64 s, AV.int IntKind.i64 l, AV.bool false] (0 : Nat) AV.ff)) (intB (List.getD [AV.int IntKind.i64 c, AV.int IntKind.i64 s, AV.int IntKind.i64 l, AV.bool false] (2 : Nat) AV.ff)) (boolB (List.getD [AV.int IntKind.i64 c, AV.int IntKind.i64 s, AV.int IntKind.i64 l, AV.bool false] (3 : Nat) AV.ff))
                                        (IntKind.wrap IntKind.i64 ((↑i : Int) * (1000 : Int))) (0 : Int) true (offA f h la lb (intB (List.getD [AV.int IntKind.i64 c, AV.int IntKind.i64 s, AV.int IntKind.i64 l, AV.bool false] (1 : Nat) AV.ff))) =
                                      true then
                                  IntKind.wrap IntKind.i64 ((↑i : Int) * (1000 : Int))
                                else intB (List.getD [AV.int IntKind.i64 c, AV.int IntKind.i64 s, AV.int IntKind.i64 l, AV.bool false] (2 : Nat) AV.ff)),
                              AV.bool
                                (boolB (List.getD [AV.int IntKind.i64 c, AV.int IntKind.i64 s, AV.int IntKind.i64 l, AV.bool false] (3 : Nat) AV.ff) ||
                                  deA (intB (List.getD [AV.int IntKind.i64 c, AV.int IntKind.i64 s, AV.int IntKind.i64 l, AV.bool false] (0 : Nat) AV.ff)) (intB (List.getD [AV.int IntKind.i64 c, AV.int IntKind.i64 s, AV.int IntKind.i64 l, AV.bool false] (2 : Nat) AV.ff)) (boolB (List.getD [AV.int IntKind.i64 c, AV.int IntKind.i64 s, AV.int IntKind.i64 l, AV.bool false] (3 : Nat) AV.ff))
                                    (IntKind.wrap IntKind.i64 ((↑i : Int) * (1000 : Int))) (0 : Int) true (offA f h la lb (intB (List.getD [AV.int IntKind.i64 c, AV.int IntKind.i64 s, AV.int IntKind.i64 l, AV.bool false] (1 : Nat) AV.ff))))]
                            (0 : Nat) (0 : Nat) (fun j => []) [])]))
                (T.ret
                  (Ex.norm,
                    St.mk [((2 : Nat), AV.int IntKind.i64 y), ((3 : Nat), AV.sl (0 : Nat) (0 : Nat) (1 : Nat) (0 : Nat) la ca), ((4 : Nat), AV.sl (1 : Nat) (0 : Nat) (1 : Nat) (0 : Nat) lb cb), ((11 : Nat), AV.ptr (2 : Nat) (0 : Nat) (0 : Nat) (0 : Nat)), ((12 : Nat), AV.int IntKind.i64 (0 : Int)), ((13 : Nat), AV.int IntKind.i64 (IntKind.wrap IntKind.i64 ((↑i : Int) + (1 : Int))))]
                      [some (Blk.mk false [] (1 : Nat) ca (fun j => [AV.int IntKind.i64 (f j)]) []), some (Blk.mk false [] (1 : Nat) cb (fun j => [AV.int IntKind.i64 (h j)]) []),
                        some
                          (Blk.mk true
                            [AV.int IntKind.i64 (intB (List.getD [AV.int IntKind.i64 c, AV.int IntKind.i64 s, AV.int IntKind.i64 l, AV.bool false] (0 : Nat) AV.ff)), AV.int IntKind.i64 (intB (List.getD [AV.int IntKind.i64 c, AV.int IntKind.i64 s, AV.int IntKind.i64 l, AV.bool false] (1 : Nat) AV.ff)),
                              AV.int IntKind.i64
                                (if
                                    deA (intB (List.getD [AV.int IntKind.i64 c, AV.int IntKind.i64 s, AV.int IntKind.i64 l, AV.bool false] (0 : Nat) AV.ff)) (intB (List.getD [AV.int IntKind.i64 c, AV.int IntKind.i64 s, AV.int IntKind.i64 l, AV.bool false] (2 : Nat) AV.ff)) (boolB (List.getD [AV.int IntKind.i64 c, AV.int IntKind.i64 s, AV.int IntKind.i64 l, AV.bool false] (3 : Nat) AV.ff))
                                        (IntKind.wrap IntKind.i64 ((↑i : Int) * (1000 : Int))) (0 : Int) true (offA f h la lb (intB (List.getD [AV.int IntKind.i64 c, AV.int IntKind.i64 s, AV.int IntKind.i64 l, AV.bool false] (1 : Nat) AV.ff))) =
                                      true then
                                  IntKind.wrap IntKind.i64 ((↑i : Int) * (1000 : Int))
                                else intB (List.getD [AV.int IntKind.i64 c, AV.int IntKind.i64 s, AV.int IntKind.i64 l, AV.bool false] (2 : Nat) AV.ff)),
                              AV.bool
                                (boolB (List.getD [AV.int IntKind.i64 c, AV.int IntKind.i64 s, AV.int IntKind.i64 l, AV.bool false] (3 : Nat) AV.ff) ||
                                  deA (intB (List.getD [AV.int IntKind.i64 c, AV.int IntKind.i64 s, AV.int IntKind.i64 l, AV.bool false] (0 : Nat) AV.ff)) (intB (List.getD [AV.int IntKind.i64 c, AV.int IntKind.i64 s, AV.int IntKind.i64 l, AV.bool false] (2 : Nat) AV.ff)) (boolB (List.getD [AV.int IntKind.i64 c, AV.int IntKind.i64 s, AV.int IntKind.i64 l, AV.bool false] (3 : Nat) AV.ff))
                                    (IntKind.wrap IntKind.i64 ((↑i : Int) * (1000 : Int))) (0 : Int) true (offA f h la lb (intB (List.getD [AV.int IntKind.i64 c, AV.int IntKind.i64 s, AV.int IntKind.i64 l, AV.bool false] (1 : Nat) AV.ff))))]
                            (0 : Nat) (0 : Nat) (fun j => []) [])])))))))
      (T.ret
        (Ex.exit (0 : Nat),
          St.mk [((2 : Nat), AV.int IntKind.i64 y), ((3 : Nat), AV.sl (0 : Nat) (0 : Nat) (1 : Nat) (0 : Nat) la ca), ((4 : Nat), AV.sl (1 : Nat) (0 : Nat) (1 : Nat) (0 : Nat) lb cb), ((11 : Nat), AV.ptr (2 : Nat) (0 : Nat) (0 : Nat) (0 : Nat)), ((12 : Nat), AV.int IntKind.i64 (0 : Int)), ((13 : Nat), AV.int IntKind.i64 (↑i : Int))]
            [some (Blk.mk false [] (1 : Nat) ca (fun j => [AV.int IntKind.i64 (f j)]) []), some (Blk.mk false [] (1 : Nat) cb (fun j => [AV.int IntKind.i64 (h j)]) []), some (Blk.mk true [AV.int IntKind.i64 c, AV.int IntKind.i64 s, AV.int IntKind.i64 l, AV.bool false] (0 : Nat) (0 : Nat) (fun x => []) [])]))) := by
  kernel_rfl

theorem pc_treeB (f h : Nat → Int) (la ca lb cb : Nat) (c s l y : Int) (i : Nat) : keepT [2, 3, 4, 11, 12, 13] (acode Try.prog pcE (loopAt (codeOf Try.f5) 0) (pcB ⟨true, f, h, la, ca, lb, cb, c, s, l, y, i⟩)) = 
  T.chk true
    (T.ite (decide ((↑i : Int) < if (100 : Int) < (1 : Int) then (0 : Int) else y % (100 : Int)))
      (T.need (IsPol (Blk.mk true [AV.int IntKind.i64 c, AV.int IntKind.i64 s, AV.int IntKind.i64 l, AV.bool true] (0 : Nat) (0 : Nat) (fun x => []) []))
        (T.need (IntRow IntKind.i64 (Blk.mk false [] (1 : Nat) cb (fun j => [AV.int IntKind.i64 (h j)]) []))
          (T.need (IntRow IntKind.i64 (Blk.mk false [] (1 : Nat) cb (fun j => [AV.int IntKind.i64 (h j)]) []))
            (T.chk (decide ((1 : Nat) ≠ (2 : Nat)) && (decide ((1 : Nat) ≠ (2 : Nat)) && (decide (cb = cb) && (decide (cb = cb) && (decide (lb ≤ cb) && (decide (lb ≤ cb) && decide (lb ≤ (4611686018427387904 : Nat))))))))
              (T.ite
                (deA (intB (List.getD [AV.int IntKind.i64 c, AV.int IntKind.i64 s, AV.int IntKind.i64 l, AV.bool true] (0 : Nat) AV.ff)) (intB (List.getD [AV.int IntKind.i64 c, AV.int IntKind.i64 s, AV.int IntKind.i64 l, AV.bool true] (2 : Nat) AV.ff)) (boolB (List.getD [AV.int IntKind.i64 c, AV.int IntKind.i64 s, AV.int IntKind.i64 l, AV.bool true] (3 : Nat) AV.ff))
                  (IntKind.wrap IntKind.i64 ((↑i : Int) * (1000 : Int))) (0 : Int) true (offA h h lb lb (intB (List.getD [AV.int IntKind.i64 c, AV.int IntKind.i64 s, AV.int IntKind.i64 l, AV.bool true] (1 : Nat) AV.ff))))
                (T.ret
                  (Ex.norm,
                    St.mk [((2 : Nat), AV.int IntKind.i64 y), ((3 : Nat), AV.sl (1 : Nat) (0 : Nat) (1 : Nat) (0 : Nat) lb cb), ((4 : Nat), AV.sl (1 : Nat) (0 : Nat) (1 : Nat) (0 : Nat) lb cb), ((11 : Nat), AV.ptr (2 : Nat) (0 : Nat) (0 : Nat) (0 : Nat)), ((12 : Nat), AV.int IntKind.i64 (2 : Int)), ((13 : Nat), AV.int IntKind.i64 (IntKind.wrap IntKind.i64 ((↑i : Int) + (1 : Int))))]
                      [some (Blk.mk false [] (1 : Nat) ca (fun j => [AV.int IntKind.i64 (f j)]) []), some (Blk.mk false [] (1 : Nat) cb (fun j => [AV.int IntKind.i64 (h j)]) []),
                        some
                          (Blk.mk true
                            [AV.int IntKind.i64 (intB (List.getD [AV.int IntKind.i64 c, AV.int IntKind.i64 s, AV.int IntKind.i64 l, AV.bool true] (0 : Nat) AV.ff)), AV.int IntKind.i64 (intB (List.getD [AV.int IntKind.i64 c, AV.int IntKind.i64 s, AV.int IntKind.i64 l, AV.bool true] (1 : Nat) AV.ff)),
                              AV.int IntKind.i64
                                (if
                                    deA (intB (List.getD [AV.int IntKind.i64 c, AV.int IntKind.i64 s, AV.int IntKind.i64 l, AV.bool true] (0 : Nat) AV.ff)) (intB (List.getD [AV.int IntKind.i64 c, AV.int IntKind.i64 s, AV.int IntKind.i64 l, AV.bool true] (2 : Nat) AV.ff)) (boolB (List.getD [AV.int IntKind.i64 c, AV.int IntKind.i64 s, AV.int IntKind.i64 l, AV.bool true] (3 : Nat) AV.ff))
                                        (IntKind.wrap IntKind.i64 ((↑i : Int) * (1000 : Int))) (0 : Int) true (offA h h lb lb (intB (List.getD [AV.int IntKind.i64 c, AV.int IntKind.i64 s, AV.int IntKind.i64 l, AV.bool true] (1 : Nat) AV.ff))) =
                                      true then
                                  IntKind.wrap IntKind.i64 ((↑i : Int) * (1000 : Int))
                                else intB (List.getD [AV.int IntKind.i64 c, AV.int IntKind.i64 s, AV.int IntKind.i64 l, AV.bool true] (2 : Nat) AV.ff)),
                              AV.bool
                                (boolB (List.getD [AV.int IntKind.i64 c, AV.int IntKind.i64 s, AV.int IntKind.i64 l, AV.bool true] (3 : Nat) AV.ff) ||
                                  deA (intB (List.getD [AV.int IntKind.i64 c, AV.int IntKind.i64 s, AV.int IntKind.i64 l, AV.bool true] (0 : Nat) AV.ff)) (intB (List.getD [AV.int IntKind.i64 c, AV.int IntKind.i64 s, AV.int IntKind.i64 l, AV.bool true] (2 : Nat) AV.ff)) (boolB (List.getD [AV.int IntKind.i64 c, AV.int IntKind.i64 s, AV.int IntKind.i64 l, AV.bool true] (3 : Nat) AV.ff))
                                    (IntKind.wrap IntKind.i64 ((↑i : Int) * (1000 : Int))) (0 : Int) true (offA h h lb lb (intB (List.getD [AV.int IntKind.i64 c, AV.int IntKind.i64 s, AV.int IntKind.i64 l, AV.bool true] (1 : Nat) AV.ff))))]
                            (0 : Nat) (0 : Nat) (fun j => []) [])]))
                (T.ret
                  (Ex.norm,
                    St.mk [((2 : Nat), AV.int IntKind.i64 y), ((3 : Nat), AV.sl (1 : Nat) (0 : Nat) (1 : Nat) (0 : Nat) lb cb), ((4 : Nat), AV.sl (1 : Nat) (0 : Nat) (1 : Nat) (0 : Nat) lb cb), ((11 : Nat), AV.ptr (2 : Nat) (0 : Nat) (0 : Nat) (0 : Nat)), ((12 : Nat), AV.int IntKind.i64 (1 : Int)), ((13 : Nat), AV.int IntKind.i64 (IntKind.wrap IntKind.i64 ((↑i : Int) + (1 : Int))))]
                      [some (Blk.mk false [] (1 : Nat) ca (fun j => [AV.int IntKind.i64 (f j)]) []), some (Blk.mk false [] (1 : Nat) cb (fun j => [AV.int IntKind.i64 (h j)]) []),
                        some
                          (Blk.mk true
                            [AV.int IntKind.i64 (intB (List.getD [AV.int IntKind.i64 c, AV.int IntKind.i64 s, AV.int IntKind.i64 l, AV.bool true] (0 : Nat) AV.ff)), AV.int IntKind.i64 (intB (List.getD [AV.int IntKind.i64 c, AV.int IntKind.i64 s, AV.int IntKind.i64 l, AV.bool true] (1 : Nat) AV.ff)),
                              AV.int IntKind.i64
                                (if
                                    deA (intB (List.getD [AV.int IntKind.i64 c, AV.int IntKind.i64 s, AV.int IntKind.i64 l, AV.bool true] (0 : Nat) AV.ff)) (intB (List.getD [AV.int IntKind.i64 c, AV.int IntKind.i64 s, AV.int IntKind.i64 l, AV.bool true] (2 : Nat) AV.ff)) (boolB (List.getD [AV.int IntKind.i64 c, AV.int IntKind.i64 s, AV.int IntKind.i64 l, AV.bool true] (3 : Nat) AV.ff))
                                        (IntKind.wrap IntKind.i64 ((↑i : Int) * (1000 : Int))) (0 : Int) true (offA h h lb lb (intB (List.getD [AV.int IntKind.i64 c, AV.int IntKind.i64 s, AV.int IntKind.i64 l, AV.bool true] (1 : Nat) AV.ff))) =
                                      true then
                                  IntKind.wrap IntKind.i64 ((↑i : Int) * (1000 : Int))
                                else intB (List.getD [AV.int IntKind.i64 c, AV.int IntKind.i64 s, AV.int IntKind.i64 l, AV.bool true] (2 : Nat) AV.ff)),
                              AV.bool
                                (boolB (List.getD [AV.int IntKind.i64 c, AV.int IntKind.i64 s, AV.int IntKind.i64 l, AV.bool true] (3 : Nat) AV.ff) ||
                                  deA (intB (List.getD [AV.int IntKind.i64 c, AV.int IntKind.i64 s, AV.int IntKind.i64 l, AV.bool true] (0 : Nat) AV.ff)) (intB (List.getD [AV.int IntKind.i64 c, AV.int IntKind.i64 s, AV.int IntKind.i64 l, AV.bool true] (2 : Nat) AV.ff)) (boolB (List.getD [AV.int IntKind.i64 c, AV.int IntKind.i64 s, AV.int IntKind.i64 l, AV.bool true] (3 : Nat) AV.ff))
                                    (IntKind.wrap IntKind.i64 ((↑i : Int) * (1000 : Int))) (0 : Int) true (offA h h lb lb (intB (List.getD [AV.int IntKind.i64 c, AV.int IntKind.i64 s, AV.int IntKind.i64 l, AV.bool true] (1 : Nat) AV.ff))))]
                            (0 : Nat) (0 : Nat) (fun j => []) [])])))))))
      (T.ret
        (Ex.exit (0 : Nat),
          St.mk [((2 : Nat), AV.int IntKind.i64 y), ((3 : Nat), AV.sl (1 : Nat) (0 : Nat) (1 : Nat) (0 : Nat) lb cb), ((4 : Nat), AV.sl (1 : Nat) (0 : Nat) (1 : Nat) (0 : Nat) lb cb), ((11 : Nat), AV.ptr (2 : Nat) (0 : Nat) (0 : Nat) (0 : Nat)), ((12 : Nat), AV.int IntKind.i64 (1 : Int)), ((13 : Nat), AV.int IntKind.i64 (↑i : Int))]
            [some (Blk.mk false [] (1 : Nat) ca (fun j => [AV.int IntKind.i64 (f j)]) []), some (Blk.mk false [] (1 : Nat) cb (fun j => [AV.int IntKind.i64 (h j)]) []), some (Blk.mk true [AV.int IntKind.i64 c, AV.int IntKind.i64 s, AV.int IntKind.i64 l, AV.bool true] (0 : Nat) (0 : Nat) (fun x => []) [])]))) := by
  kernel_rfl

theorem pc_fn (cd sl y : Int) (f h : Nat → Int) (la ca lb cb : Nat) : afn Try.prog pcE Try.f5 (codeOf Try.f5) [.int .i64 cd, .int .i64 sl, .int .i64 y, .sl 0 0 1 0 la ca, .sl 1 0 1 0 lb cb] [some (rwI f ca), some (rwI h cb)] = 
  T.ite (decide ((↑la : Int) > (50 : Int))) (T.ret (AV.bool true, [some (Blk.mk false [] (1 : Nat) ca (fun j => [AV.int IntKind.i64 (f j)]) []), some (Blk.mk false [] (1 : Nat) cb (fun j => [AV.int IntKind.i64 (h j)]) [])]))
    (T.ite (decide ((↑lb : Int) > (50 : Int))) (T.ret (AV.bool true, [some (Blk.mk false [] (1 : Nat) ca (fun j => [AV.int IntKind.i64 (f j)]) []), some (Blk.mk false [] (1 : Nat) cb (fun j => [AV.int IntKind.i64 (h j)]) [])]))
      (T.need
        (∃ ρ,
          SubSt (2 : Nat) ρ
            (St.mk [((2 : Nat), AV.int IntKind.i64 y), ((3 : Nat), AV.sl (0 : Nat) (0 : Nat) (1 : Nat) (0 : Nat) la ca), ((4 : Nat), AV.sl (1 : Nat) (0 : Nat) (1 : Nat) (0 : Nat) lb cb), ((11 : Nat), AV.ptr (2 : Nat) (0 : Nat) (0 : Nat) (0 : Nat)), ((12 : Nat), AV.int IntKind.i64 (0 : Int)), ((13 : Nat), AV.int IntKind.i64 (0 : Int))]
              [some (Blk.mk false [] (1 : Nat) ca (fun j => [AV.int IntKind.i64 (f j)]) []), some (Blk.mk false [] (1 : Nat) cb (fun j => [AV.int IntKind.i64 (h j)]) []), some (Blk.mk true [AV.int IntKind.i64 (myG cd), AV.int IntKind.i64 (myG sl), AV.int IntKind.i64 (0 : Int), AV.bool false] (0 : Nat) (0 : Nat) (fun j => []) [])])
            (pcSt
              (PC.mk false f h la ca lb cb (intB (List.getD (renL (out [] (List.length [some (rwI f ca), some (rwI h cb)])) [AV.int IntKind.i64 (myG cd), AV.int IntKind.i64 (myG sl), AV.int IntKind.i64 (0 : Int), AV.bool false]) (0 : Nat) AV.ff))
                (intB (List.getD (renL (out [] (List.length [some (rwI f ca), some (rwI h cb)])) [AV.int IntKind.i64 (myG cd), AV.int IntKind.i64 (myG sl), AV.int IntKind.i64 (0 : Int), AV.bool false]) (1 : Nat) AV.ff))
                (intB (List.getD (renL (out [] (List.length [some (rwI f ca), some (rwI h cb)])) [AV.int IntKind.i64 (myG cd), AV.int IntKind.i64 (myG sl), AV.int IntKind.i64 (0 : Int), AV.bool false]) (2 : Nat) AV.ff)) y (0 : Nat))))
        (T.need
          (pcInv
            (PC.mk false f h la ca lb cb (intB (List.getD (renL (out [] (List.length [some (rwI f ca), some (rwI h cb)])) [AV.int IntKind.i64 (myG cd), AV.int IntKind.i64 (myG sl), AV.int IntKind.i64 (0 : Int), AV.bool false]) (0 : Nat) AV.ff))
              (intB (List.getD (renL (out [] (List.length [some (rwI f ca), some (rwI h cb)])) [AV.int IntKind.i64 (myG cd), AV.int IntKind.i64 (myG sl), AV.int IntKind.i64 (0 : Int), AV.bool false]) (1 : Nat) AV.ff))
              (intB (List.getD (renL (out [] (List.length [some (rwI f ca), some (rwI h cb)])) [AV.int IntKind.i64 (myG cd), AV.int IntKind.i64 (myG sl), AV.int IntKind.i64 (0 : Int), AV.bool false]) (2 : Nat) AV.ff)) y (0 : Nat)))
          (T.all fun c => T.asm (decide (c ≤ (1 : Nat))) (T.ite (decide ((↑c : Int) ≤ (1 : Int))) (T.ret (AV.bool true, [none, none])) (T.ret (AV.ff, [none, none]))))))) := by
  kernel_rfl

theorem y_lt (y : Int) : (if (100 : Int) < 1 then 0 else y % 100) < 100 := by
  rw [if_neg (by decide)]; omega
theorem off_self {h : Nat → Int} {s : Int} (h1 : 1 ≤ s) (h2 : s ≤ 9223372036854775807) (lb : Nat) : offA h h lb lb s = false := by
  cases e : offA h h lb lb s with
  | false => rfl
  | true =>
    obtain ⟨j, _, _, hj⟩ := (anyR_iff _ _ _).1 e
    have e1 : dvG (h j) (h j) = 0 := by unfold dvG; rw [Int.sub_self]; rfl
    have e2 : IntKind.wrap .u64 s = s := by rw [IntKind.wrap_u64]; omega
    simp only [faR, Int.toNat_natCast, decide_eq_true_eq, e1, e2] at hj
    omega
theorem my_le (a : Int) : myG a ≤ 9223372036854775807 ∨ 9223372036854775807 < a := by
  unfold myG
  simp only [IntKind.wrap_i64]
  repeat' split
  all_goals omega
theorem pc_sub {f h : Nat → Int} {ca cb : Nat} {c s l : Int} {d : Bool} {m : AM} (h0 : m.get 0 = some (rwI f ca)) (h1 : m.get 1 = some (rwI h cb)) {b : Blk} (h2 : m.get 2 = some b) (hb : BlkOK 3 id b (polB c s l d)) :
    Sub 2 id m [some (rwI f ca), some (rwI h cb), some (polB c s l d)] :=
  Sub.ofId ⟨⟨_, h0, BlkOK.rows' (fun h => h) fun j _ => LAlike.ints rfl⟩, ⟨_, h1, BlkOK.rows' (fun h => h) fun j _ => LAlike.ints rfl⟩, ⟨_, h2, hb⟩, trivial⟩ (by simp)

theorem pc_loop : LoopOK Try.prog pcE (loopAt (codeOf Try.f5) 0) := by
  refine loopSumm_ok (E := pcE) (laE_ok _) (noLoops (by kernel_rfl)) pcSt pcInv (fun x => 100 - x.i) pcPick (fun _ => pcEnd 2) ?_ (by kernel_rfl)
  rintro ⟨g, f, h, la, ca, lb, cb, c, s, l, y, i⟩ ⟨h1, h2, h3, h4, h5, h6, h7⟩ Q hq
  dsimp only at h1 h2 h3 h4 h5 h6 h7
  refine round_keep [2, 3, 4, 11, 12, 13] ?_
  have hy := y_lt y
  have hw : IntKind.wrap IntKind.i64 ((i : Int) + 1) = ((i + 1 : Nat) : Int) := by rw [IntWalk.i64_in _ (by omega)]; omega
  have inv : ∀ g, ∀ i', i' ≤ 100 → ∀ l, pcInv ⟨g, f, h, la, ca, lb, cb, c, s, l, y, i'⟩ := fun g i' hi l => ⟨h1, h2, h3, h4, h5, h6, hi⟩
  cases g with
  | false =>
    show ((keepT [2, 3, 4, 11, 12, 13] (acode Try.prog pcE (loopAt (codeOf Try.f5) 0) (pcA ⟨false, f, h, la, ca, lb, cb, c, s, l, y, i⟩)))).holds _
    rw [pc_treeA]
    refine T.hchk rfl (T.hiteP (fun hi => T.hneed (isPol (.inr (.inr ⟨_, rfl⟩))) (T.hneed IntRow.rows (T.hneed IntRow.rows (T.hchk (by simp; omega) (T.hite (fun hd => ?_) (fun hd => ?_)))))) (fun hi => ?_))
    · exact Round.go ⟨true, f, h, la, ca, lb, cb, c, s, IntKind.wrap .i64 ((i : Int) * 1000), y, i + 1⟩ id (inv _ _ (by omega) _) (by dsimp only; omega) (SubSt.mk (by simp [pcSt, pcB, SubFr, slotAt, ren, below, hw]) (pc_sub rfl rfl rfl (by
        have e : deA c l false (IntKind.wrap .i64 ((i : Int) * 1000)) 0 true (offA f h la lb s) = true := hd
        simp only [List.getD_cons_zero, List.getD_cons_succ, intB, boolB, e]
        exact pol_blk (by simp)))) hq
    · exact Round.go ⟨false, f, h, la, ca, lb, cb, c, s, l, y, i + 1⟩ id (inv _ _ (by omega) _) (by dsimp only; omega) (SubSt.mk (by simp [pcSt, pcA, SubFr, slotAt, ren, below, hw]) (pc_sub rfl rfl rfl (by
        have e : deA c l false (IntKind.wrap .i64 ((i : Int) * 1000)) 0 true (offA f h la lb s) = false := hd
        simp only [List.getD_cons_zero, List.getD_cons_succ, intB, boolB, e]
        exact pol_blk (by simp)))) hq
    · exact Round.out id ⟨[(12, .int .i64 0)], [none, none]⟩ (SubSt.mk (by simp [SubFr, slotAt, ren, below]) (Sub.nothing (n := 2) _)) (hq 0 rfl)
  | true =>
    show ((keepT [2, 3, 4, 11, 12, 13] (acode Try.prog pcE (loopAt (codeOf Try.f5) 0) (pcB ⟨true, f, h, la, ca, lb, cb, c, s, l, y, i⟩)))).holds _
    rw [pc_treeB]
    have e0 : ∀ l n, deA c l true n 0 true (offA h h lb lb s) = false := fun l n => by simp [deA, off_self h5 h6]
    refine T.hchk rfl (T.hiteP (fun hi => T.hneed (isPol (.inr (.inr ⟨_, rfl⟩))) (T.hneed IntRow.rows (T.hneed IntRow.rows (T.hchk (by simp; omega) (T.hite (fun hd => ?_) (fun hd => ?_)))))) (fun hi => ?_))
    · have hd : deA c l true (IntKind.wrap .i64 ((i : Int) * 1000)) 0 true (offA h h lb lb s) = true := hd
      rw [e0] at hd; cases hd
    · exact Round.go ⟨true, f, h, la, ca, lb, cb, c, s, l, y, i + 1⟩ id (inv _ _ (by omega) _) (by dsimp only; omega) (SubSt.mk (by simp [pcSt, pcB, SubFr, slotAt, ren, below, hw]) (pc_sub rfl rfl rfl (by
        simp only [List.getD_cons_zero, List.getD_cons_succ, intB, boolB, e0]
        exact pol_blk (by simp)))) hq
    · exact Round.out id ⟨[(12, .int .i64 1)], [none, none]⟩ (SubSt.mk (by simp [SubFr, slotAt, ren, below]) (Sub.nothing (n := 2) _)) (hq 1 rfl)

/-- With a list that is not there nothing is decided. -/
structure PN where
  f : Nat → Int
  la : Nat
  ca : Nat
  c : Int
  s : Int
  l : Int
  y : Int
  i : Nat

def p0St (x : PN) : St := ⟨[(2, .int .i64 x.y), (3, .nils), (4, .nils), (11, .ptr 0 0 0 0), (12, .int .i64 0), (13, .int .i64 x.i)], [some (polB x.c x.s x.l false)]⟩
def p1St (x : PN) : St := ⟨[(2, .int .i64 x.y), (3, .sl 0 0 1 0 x.la x.ca), (4, .nils), (11, .ptr 1 0 0 0), (12, .int .i64 0), (13, .int .i64 x.i)], [some (rwI x.f x.ca), some (polB x.c x.s x.l false)]⟩
def p2St (x : PN) : St := ⟨[(2, .int .i64 x.y), (3, .nils), (4, .sl 0 0 1 0 x.la x.ca), (11, .ptr 1 0 0 0), (12, .int .i64 0), (13, .int .i64 x.i)], [some (rwI x.f x.ca), some (polB x.c x.s x.l false)]⟩
def pnInv (x : PN) : Prop := x.i ≤ 100
def p0Pick (st : St) : Option PN :=
  match slotAt st.fr 2, AM.get st.m 0 with
  | some (.int _ y), some b2 => some ⟨fun _ => 0, 0, 0, (poOf b2).c, (poOf b2).s, (poOf b2).l, y, 0⟩
  | _, _ => none
def p1Pick (st : St) : Option PN :=
  match slotAt st.fr 2, slotAt st.fr 3, AM.get st.m 0, AM.get st.m 1 with
  | some (.int _ y), some (.sl _ _ _ _ la ca), some b0, some b2 => some ⟨intAt b0, la, ca, (poOf b2).c, (poOf b2).s, (poOf b2).l, y, 0⟩
  | _, _, _, _ => none
def p2Pick (st : St) : Option PN :=
  match slotAt st.fr 2, slotAt st.fr 4, AM.get st.m 0, AM.get st.m 1 with
  | some (.int _ y), some (.sl _ _ _ _ la ca), some b0, some b2 => some ⟨intAt b0, la, ca, (poOf b2).c, (poOf b2).s, (poOf b2).l, y, 0⟩
  | _, _, _, _ => none
noncomputable def p0E : Env := { laE Try.f5.ntmps with n0 := 0, loop := fun k => if k = 8 then loopSumm 0 p0St pnInv p0Pick (fun _ => pcEnd 0) else fun _ => .fail }
noncomputable def p1E : Env := { laE Try.f5.ntmps with n0 := 1, loop := fun k => if k = 8 then loopSumm 1 p1St pnInv p1Pick (fun _ => pcEnd 1) else fun _ => .fail }
noncomputable def p2E : Env := { laE Try.f5.ntmps with n0 := 1, loop := fun k => if k = 8 then loopSumm 1 p2St pnInv p2Pick (fun _ => pcEnd 1) else fun _ => .fail }

theorem p0_tree (f : Nat → Int) (la ca : Nat) (c s l y : Int) (i : Nat) : keepT [2, 3, 4, 11, 12, 13] (acode Try.prog p0E (loopAt (codeOf Try.f5) 0) (p0St ⟨f, la, ca, c, s, l, y, i⟩)) = 
  T.chk true
    (T.ite (decide ((↑i : Int) < if (100 : Int) < (1 : Int) then (0 : Int) else y % (100 : Int)))
      (T.need (IsPol (Blk.mk true [AV.int IntKind.i64 c, AV.int IntKind.i64 s, AV.int IntKind.i64 l, AV.bool false] (0 : Nat) (0 : Nat) (fun x => []) []))
        (T.ite false
          (T.ret
            (Ex.norm,
              St.mk [((2 : Nat), AV.int IntKind.i64 y), ((3 : Nat), AV.nils), ((4 : Nat), AV.nils), ((11 : Nat), AV.ptr (0 : Nat) (0 : Nat) (0 : Nat) (0 : Nat)), ((12 : Nat), AV.int IntKind.i64 (1 : Int)), ((13 : Nat), AV.int IntKind.i64 (IntKind.wrap IntKind.i64 ((↑i : Int) + (1 : Int))))]
                [some
                    (Blk.mk true
                      [AV.int IntKind.i64 (intB (List.getD [AV.int IntKind.i64 c, AV.int IntKind.i64 s, AV.int IntKind.i64 l, AV.bool false] (0 : Nat) AV.ff)), AV.int IntKind.i64 (intB (List.getD [AV.int IntKind.i64 c, AV.int IntKind.i64 s, AV.int IntKind.i64 l, AV.bool false] (1 : Nat) AV.ff)),
                        AV.int IntKind.i64 (intB (List.getD [AV.int IntKind.i64 c, AV.int IntKind.i64 s, AV.int IntKind.i64 l, AV.bool false] (2 : Nat) AV.ff)), AV.bool (boolB (List.getD [AV.int IntKind.i64 c, AV.int IntKind.i64 s, AV.int IntKind.i64 l, AV.bool false] (3 : Nat) AV.ff))]
                      (0 : Nat) (0 : Nat) (fun j => []) [])]))
          (T.ret
            (Ex.norm,
              St.mk [((2 : Nat), AV.int IntKind.i64 y), ((3 : Nat), AV.nils), ((4 : Nat), AV.nils), ((11 : Nat), AV.ptr (0 : Nat) (0 : Nat) (0 : Nat) (0 : Nat)), ((12 : Nat), AV.int IntKind.i64 (0 : Int)), ((13 : Nat), AV.int IntKind.i64 (IntKind.wrap IntKind.i64 ((↑i : Int) + (1 : Int))))]
                [some
                    (Blk.mk true
                      [AV.int IntKind.i64 (intB (List.getD [AV.int IntKind.i64 c, AV.int IntKind.i64 s, AV.int IntKind.i64 l, AV.bool false] (0 : Nat) AV.ff)), AV.int IntKind.i64 (intB (List.getD [AV.int IntKind.i64 c, AV.int IntKind.i64 s, AV.int IntKind.i64 l, AV.bool false] (1 : Nat) AV.ff)),
                        AV.int IntKind.i64 (intB (List.getD [AV.int IntKind.i64 c, AV.int IntKind.i64 s, AV.int IntKind.i64 l, AV.bool false] (2 : Nat) AV.ff)), AV.bool (boolB (List.getD [AV.int IntKind.i64 c, AV.int IntKind.i64 s, AV.int IntKind.i64 l, AV.bool false] (3 : Nat) AV.ff))]
                      (0 : Nat) (0 : Nat) (fun j => []) [])]))))
      (T.ret
        (Ex.exit (0 : Nat),
          St.mk [((2 : Nat), AV.int IntKind.i64 y), ((3 : Nat), AV.nils), ((4 : Nat), AV.nils), ((11 : Nat), AV.ptr (0 : Nat) (0 : Nat) (0 : Nat) (0 : Nat)), ((12 : Nat), AV.int IntKind.i64 (0 : Int)), ((13 : Nat), AV.int IntKind.i64 (↑i : Int))] [some (Blk.mk true [AV.int IntKind.i64 c, AV.int IntKind.i64 s, AV.int IntKind.i64 l, AV.bool false] (0 : Nat) (0 : Nat) (fun x => []) [])]))) := by
  kernel_rfl

theorem p1_tree (f : Nat → Int) (la ca : Nat) (c s l y : Int) (i : Nat) : keepT [2, 3, 4, 11, 12, 13] (acode Try.prog p1E (loopAt (codeOf Try.f5) 0) (p1St ⟨f, la, ca, c, s, l, y, i⟩)) = 
  T.chk true
    (T.ite (decide ((↑i : Int) < if (100 : Int) < (1 : Int) then (0 : Int) else y % (100 : Int)))
      (T.need (IsPol (Blk.mk true [AV.int IntKind.i64 c, AV.int IntKind.i64 s, AV.int IntKind.i64 l, AV.bool false] (0 : Nat) (0 : Nat) (fun x => []) []))
        (T.need (IntRow IntKind.i64 (Blk.mk false [] (1 : Nat) ca (fun j => [AV.int IntKind.i64 (f j)]) []))
          (T.chk (decide ((0 : Nat) ≠ (1 : Nat)) && decide (ca = ca))
            (T.ite false
              (T.ret
                (Ex.norm,
                  St.mk [((2 : Nat), AV.int IntKind.i64 y), ((3 : Nat), AV.nils), ((4 : Nat), AV.nils), ((11 : Nat), AV.ptr (1 : Nat) (0 : Nat) (0 : Nat) (0 : Nat)), ((12 : Nat), AV.int IntKind.i64 (1 : Int)), ((13 : Nat), AV.int IntKind.i64 (IntKind.wrap IntKind.i64 ((↑i : Int) + (1 : Int))))]
                    [some (Blk.mk false [] (1 : Nat) ca (fun j => [AV.int IntKind.i64 (f j)]) []),
                      some
                        (Blk.mk true
                          [AV.int IntKind.i64 (intB (List.getD [AV.int IntKind.i64 c, AV.int IntKind.i64 s, AV.int IntKind.i64 l, AV.bool false] (0 : Nat) AV.ff)), AV.int IntKind.i64 (intB (List.getD [AV.int IntKind.i64 c, AV.int IntKind.i64 s, AV.int IntKind.i64 l, AV.bool false] (1 : Nat) AV.ff)),
                            AV.int IntKind.i64 (intB (List.getD [AV.int IntKind.i64 c, AV.int IntKind.i64 s, AV.int IntKind.i64 l, AV.bool false] (2 : Nat) AV.ff)), AV.bool (boolB (List.getD [AV.int IntKind.i64 c, AV.int IntKind.i64 s, AV.int IntKind.i64 l, AV.bool false] (3 : Nat) AV.ff))]
                          (0 : Nat) (0 : Nat) (fun j => []) [])]))
              (T.ret
                (Ex.norm,
                  St.mk [((2 : Nat), AV.int IntKind.i64 y), ((3 : Nat), AV.sl (0 : Nat) (0 : Nat) (1 : Nat) (0 : Nat) la ca), ((4 : Nat), AV.nils), ((11 : Nat), AV.ptr (1 : Nat) (0 : Nat) (0 : Nat) (0 : Nat)), ((12 : Nat), AV.int IntKind.i64 (0 : Int)), ((13 : Nat), AV.int IntKind.i64 (IntKind.wrap IntKind.i64 ((↑i : Int) + (1 : Int))))]
                    [some (Blk.mk false [] (1 : Nat) ca (fun j => [AV.int IntKind.i64 (f j)]) []),
                      some
                        (Blk.mk true
                          [AV.int IntKind.i64 (intB (List.getD [AV.int IntKind.i64 c, AV.int IntKind.i64 s, AV.int IntKind.i64 l, AV.bool false] (0 : Nat) AV.ff)), AV.int IntKind.i64 (intB (List.getD [AV.int IntKind.i64 c, AV.int IntKind.i64 s, AV.int IntKind.i64 l, AV.bool false] (1 : Nat) AV.ff)),
                            AV.int IntKind.i64 (intB (List.getD [AV.int IntKind.i64 c, AV.int IntKind.i64 s, AV.int IntKind.i64 l, AV.bool false] (2 : Nat) AV.ff)), AV.bool (boolB (List.getD [AV.int IntKind.i64 c, AV.int IntKind.i64 s, AV.int IntKind.i64 l, AV.bool false] (3 : Nat) AV.ff))]
                          (0 : Nat) (0 : Nat) (fun j => []) [])]))))))
      (T.ret
        (Ex.exit (0 : Nat),
          St.mk [((2 : Nat), AV.int IntKind.i64 y), ((3 : Nat), AV.sl (0 : Nat) (0 : Nat) (1 : Nat) (0 : Nat) la ca), ((4 : Nat), AV.nils), ((11 : Nat), AV.ptr (1 : Nat) (0 : Nat) (0 : Nat) (0 : Nat)), ((12 : Nat), AV.int IntKind.i64 (0 : Int)), ((13 : Nat), AV.int IntKind.i64 (↑i : Int))]
            [some (Blk.mk false [] (1 : Nat) ca (fun j => [AV.int IntKind.i64 (f j)]) []), some (Blk.mk true [AV.int IntKind.i64 c, AV.int IntKind.i64 s, AV.int IntKind.i64 l, AV.bool false] (0 : Nat) (0 : Nat) (fun x => []) [])]))) := by
  kernel_rfl

theorem p2_tree (f : Nat → Int) (la ca : Nat) (c s l y : Int) (i : Nat) : keepT [2, 3, 4, 11, 12, 13] (acode Try.prog p2E (loopAt (codeOf Try.f5) 0) (p2St ⟨f, la, ca, c, s, l, y, i⟩)) = 
  T.chk true
    (T.ite (decide ((↑i : Int) < if (100 : Int) < (1 : Int) then (0 : Int) else y % (100 : Int)))
      (T.need (IsPol (Blk.mk true [AV.int IntKind.i64 c, AV.int IntKind.i64 s, AV.int IntKind.i64 l, AV.bool false] (0 : Nat) (0 : Nat) (fun x => []) []))
        (T.need (IntRow IntKind.i64 (Blk.mk false [] (1 : Nat) ca (fun j => [AV.int IntKind.i64 (f j)]) []))
          (T.chk (decide ((0 : Nat) ≠ (1 : Nat)) && decide (ca = ca))
            (T.ite false
              (T.ret
                (Ex.norm,
                  St.mk [((2 : Nat), AV.int IntKind.i64 y), ((3 : Nat), AV.sl (0 : Nat) (0 : Nat) (1 : Nat) (0 : Nat) la ca), ((4 : Nat), AV.sl (0 : Nat) (0 : Nat) (1 : Nat) (0 : Nat) la ca), ((11 : Nat), AV.ptr (1 : Nat) (0 : Nat) (0 : Nat) (0 : Nat)), ((12 : Nat), AV.int IntKind.i64 (1 : Int)), ((13 : Nat), AV.int IntKind.i64 (IntKind.wrap IntKind.i64 ((↑i : Int) + (1 : Int))))]
                    [some (Blk.mk false [] (1 : Nat) ca (fun j => [AV.int IntKind.i64 (f j)]) []),
                      some
                        (Blk.mk true
                          [AV.int IntKind.i64 (intB (List.getD [AV.int IntKind.i64 c, AV.int IntKind.i64 s, AV.int IntKind.i64 l, AV.bool false] (0 : Nat) AV.ff)), AV.int IntKind.i64 (intB (List.getD [AV.int IntKind.i64 c, AV.int IntKind.i64 s, AV.int IntKind.i64 l, AV.bool false] (1 : Nat) AV.ff)),
                            AV.int IntKind.i64 (intB (List.getD [AV.int IntKind.i64 c, AV.int IntKind.i64 s, AV.int IntKind.i64 l, AV.bool false] (2 : Nat) AV.ff)), AV.bool (boolB (List.getD [AV.int IntKind.i64 c, AV.int IntKind.i64 s, AV.int IntKind.i64 l, AV.bool false] (3 : Nat) AV.ff))]
                          (0 : Nat) (0 : Nat) (fun j => []) [])]))
              (T.ret
                (Ex.norm,
                  St.mk [((2 : Nat), AV.int IntKind.i64 y), ((3 : Nat), AV.nils), ((4 : Nat), AV.sl (0 : Nat) (0 : Nat) (1 : Nat) (0 : Nat) la ca), ((11 : Nat), AV.ptr (1 : Nat) (0 : Nat) (0 : Nat) (0 : Nat)), ((12 : Nat), AV.int IntKind.i64 (0 : Int)), ((13 : Nat), AV.int IntKind.i64 (IntKind.wrap IntKind.i64 ((↑i : Int) + (1 : Int))))]
                    [some (Blk.mk false [] (1 : Nat) ca (fun j => [AV.int IntKind.i64 (f j)]) []),
                      some
                        (Blk.mk true
                          [AV.int IntKind.i64 (intB (List.getD [AV.int IntKind.i64 c, AV.int IntKind.i64 s, AV.int IntKind.i64 l, AV.bool false] (0 : Nat) AV.ff)), AV.int IntKind.i64 (intB (List.getD [AV.int IntKind.i64 c, AV.int IntKind.i64 s, AV.int IntKind.i64 l, AV.bool false] (1 : Nat) AV.ff)),
                            AV.int IntKind.i64 (intB (List.getD [AV.int IntKind.i64 c, AV.int IntKind.i64 s, AV.int IntKind.i64 l, AV.bool false] (2 : Nat) AV.ff)), AV.bool (boolB (List.getD [AV.int IntKind.i64 c, AV.int IntKind.i64 s, AV.int IntKind.i64 l, AV.bool false] (3 : Nat) AV.ff))]
                          (0 : Nat) (0 : Nat) (fun j => []) [])]))))))
      (T.ret
        (Ex.exit (0 : Nat),
          St.mk [((2 : Nat), AV.int IntKind.i64 y), ((3 : Nat), AV.nils), ((4 : Nat), AV.sl (0 : Nat) (0 : Nat) (1 : Nat) (0 : Nat) la ca), ((11 : Nat), AV.ptr (1 : Nat) (0 : Nat) (0 : Nat) (0 : Nat)), ((12 : Nat), AV.int IntKind.i64 (0 : Int)), ((13 : Nat), AV.int IntKind.i64 (↑i : Int))]
            [some (Blk.mk false [] (1 : Nat) ca (fun j => [AV.int IntKind.i64 (f j)]) []), some (Blk.mk true [AV.int IntKind.i64 c, AV.int IntKind.i64 s, AV.int IntKind.i64 l, AV.bool false] (0 : Nat) (0 : Nat) (fun x => []) [])]))) := by
  kernel_rfl

theorem p0_fn (cd sl y : Int) : afn Try.prog p0E Try.f5 (codeOf Try.f5) [.int .i64 cd, .int .i64 sl, .int .i64 y, .nils, .nils] [] = 
  T.ite false (T.ret (AV.bool true, []))
    (T.ite false (T.ret (AV.bool true, []))
      (T.need
        (∃ ρ,
          SubSt (0 : Nat) ρ
            (St.mk [((2 : Nat), AV.int IntKind.i64 y), ((3 : Nat), AV.nils), ((4 : Nat), AV.nils), ((11 : Nat), AV.ptr (0 : Nat) (0 : Nat) (0 : Nat) (0 : Nat)), ((12 : Nat), AV.int IntKind.i64 (0 : Int)), ((13 : Nat), AV.int IntKind.i64 (0 : Int))]
              [some (Blk.mk true [AV.int IntKind.i64 (myG cd), AV.int IntKind.i64 (myG sl), AV.int IntKind.i64 (0 : Int), AV.bool false] (0 : Nat) (0 : Nat) (fun j => []) [])])
            (p0St
              (PN.mk (fun x => (0 : Int)) (0 : Nat) (0 : Nat) (intB (List.getD (renL (out [] (0 : Nat)) [AV.int IntKind.i64 (myG cd), AV.int IntKind.i64 (myG sl), AV.int IntKind.i64 (0 : Int), AV.bool false]) (0 : Nat) AV.ff)) (intB (List.getD (renL (out [] (0 : Nat)) [AV.int IntKind.i64 (myG cd), AV.int IntKind.i64 (myG sl), AV.int IntKind.i64 (0 : Int), AV.bool false]) (1 : Nat) AV.ff))
                (intB (List.getD (renL (out [] (0 : Nat)) [AV.int IntKind.i64 (myG cd), AV.int IntKind.i64 (myG sl), AV.int IntKind.i64 (0 : Int), AV.bool false]) (2 : Nat) AV.ff)) y (0 : Nat))))
        (T.need
          (pnInv
            (PN.mk (fun x => (0 : Int)) (0 : Nat) (0 : Nat) (intB (List.getD (renL (out [] (0 : Nat)) [AV.int IntKind.i64 (myG cd), AV.int IntKind.i64 (myG sl), AV.int IntKind.i64 (0 : Int), AV.bool false]) (0 : Nat) AV.ff)) (intB (List.getD (renL (out [] (0 : Nat)) [AV.int IntKind.i64 (myG cd), AV.int IntKind.i64 (myG sl), AV.int IntKind.i64 (0 : Int), AV.bool false]) (1 : Nat) AV.ff))
              (intB (List.getD (renL (out [] (0 : Nat)) [AV.int IntKind.i64 (myG cd), AV.int IntKind.i64 (myG sl), AV.int IntKind.i64 (0 : Int), AV.bool false]) (2 : Nat) AV.ff)) y (0 : Nat)))
          (T.all fun c => T.asm (decide (c ≤ (1 : Nat))) (T.ite (decide ((↑c : Int) ≤ (1 : Int))) (T.ret (AV.bool true, [])) (T.ret (AV.ff, []))))))) := by
  kernel_rfl

theorem p1_fn (cd sl y : Int) (f : Nat → Int) (la ca : Nat) : afn Try.prog p1E Try.f5 (codeOf Try.f5) [.int .i64 cd, .int .i64 sl, .int .i64 y, .sl 0 0 1 0 la ca, .nils] [some (rwI f ca)] = 
  T.ite (decide ((↑la : Int) > (50 : Int))) (T.ret (AV.bool true, [some (Blk.mk false [] (1 : Nat) ca (fun j => [AV.int IntKind.i64 (f j)]) [])]))
    (T.ite false (T.ret (AV.bool true, [some (Blk.mk false [] (1 : Nat) ca (fun j => [AV.int IntKind.i64 (f j)]) [])]))
      (T.need
        (∃ ρ,
          SubSt (1 : Nat) ρ
            (St.mk [((2 : Nat), AV.int IntKind.i64 y), ((3 : Nat), AV.sl (0 : Nat) (0 : Nat) (1 : Nat) (0 : Nat) la ca), ((4 : Nat), AV.nils), ((11 : Nat), AV.ptr (1 : Nat) (0 : Nat) (0 : Nat) (0 : Nat)), ((12 : Nat), AV.int IntKind.i64 (0 : Int)), ((13 : Nat), AV.int IntKind.i64 (0 : Int))]
              [some (Blk.mk false [] (1 : Nat) ca (fun j => [AV.int IntKind.i64 (f j)]) []), some (Blk.mk true [AV.int IntKind.i64 (myG cd), AV.int IntKind.i64 (myG sl), AV.int IntKind.i64 (0 : Int), AV.bool false] (0 : Nat) (0 : Nat) (fun j => []) [])])
            (p1St
              (PN.mk f la ca (intB (List.getD (renL (out [] (List.length [some (rwI f ca)])) [AV.int IntKind.i64 (myG cd), AV.int IntKind.i64 (myG sl), AV.int IntKind.i64 (0 : Int), AV.bool false]) (0 : Nat) AV.ff)) (intB (List.getD (renL (out [] (List.length [some (rwI f ca)])) [AV.int IntKind.i64 (myG cd), AV.int IntKind.i64 (myG sl), AV.int IntKind.i64 (0 : Int), AV.bool false]) (1 : Nat) AV.ff))
                (intB (List.getD (renL (out [] (List.length [some (rwI f ca)])) [AV.int IntKind.i64 (myG cd), AV.int IntKind.i64 (myG sl), AV.int IntKind.i64 (0 : Int), AV.bool false]) (2 : Nat) AV.ff)) y (0 : Nat))))
        (T.need
          (pnInv
            (PN.mk f la ca (intB (List.getD (renL (out [] (List.length [some (rwI f ca)])) [AV.int IntKind.i64 (myG cd), AV.int IntKind.i64 (myG sl), AV.int IntKind.i64 (0 : Int), AV.bool false]) (0 : Nat) AV.ff)) (intB (List.getD (renL (out [] (List.length [some (rwI f ca)])) [AV.int IntKind.i64 (myG cd), AV.int IntKind.i64 (myG sl), AV.int IntKind.i64 (0 : Int), AV.bool false]) (1 : Nat) AV.ff))
              (intB (List.getD (renL (out [] (List.length [some (rwI f ca)])) [AV.int IntKind.i64 (myG cd), AV.int IntKind.i64 (myG sl), AV.int IntKind.i64 (0 : Int), AV.bool false]) (2 : Nat) AV.ff)) y (0 : Nat)))
          (T.all fun c => T.asm (decide (c ≤ (1 : Nat))) (T.ite (decide ((↑c : Int) ≤ (1 : Int))) (T.ret (AV.bool true, [none])) (T.ret (AV.ff, [none]))))))) := by
  kernel_rfl

theorem p2_fn (cd sl y : Int) (f : Nat → Int) (la ca : Nat) : afn Try.prog p2E Try.f5 (codeOf Try.f5) [.int .i64 cd, .int .i64 sl, .int .i64 y, .nils, .sl 0 0 1 0 la ca] [some (rwI f ca)] = 
  T.ite false (T.ret (AV.bool true, [some (Blk.mk false [] (1 : Nat) ca (fun j => [AV.int IntKind.i64 (f j)]) [])]))
    (T.ite (decide ((↑la : Int) > (50 : Int))) (T.ret (AV.bool true, [some (Blk.mk false [] (1 : Nat) ca (fun j => [AV.int IntKind.i64 (f j)]) [])]))
      (T.need
        (∃ ρ,
          SubSt (1 : Nat) ρ
            (St.mk [((2 : Nat), AV.int IntKind.i64 y), ((3 : Nat), AV.nils), ((4 : Nat), AV.sl (0 : Nat) (0 : Nat) (1 : Nat) (0 : Nat) la ca), ((11 : Nat), AV.ptr (1 : Nat) (0 : Nat) (0 : Nat) (0 : Nat)), ((12 : Nat), AV.int IntKind.i64 (0 : Int)), ((13 : Nat), AV.int IntKind.i64 (0 : Int))]
              [some (Blk.mk false [] (1 : Nat) ca (fun j => [AV.int IntKind.i64 (f j)]) []), some (Blk.mk true [AV.int IntKind.i64 (myG cd), AV.int IntKind.i64 (myG sl), AV.int IntKind.i64 (0 : Int), AV.bool false] (0 : Nat) (0 : Nat) (fun j => []) [])])
            (p2St
              (PN.mk f la ca (intB (List.getD (renL (out [] (List.length [some (rwI f ca)])) [AV.int IntKind.i64 (myG cd), AV.int IntKind.i64 (myG sl), AV.int IntKind.i64 (0 : Int), AV.bool false]) (0 : Nat) AV.ff)) (intB (List.getD (renL (out [] (List.length [some (rwI f ca)])) [AV.int IntKind.i64 (myG cd), AV.int IntKind.i64 (myG sl), AV.int IntKind.i64 (0 : Int), AV.bool false]) (1 : Nat) AV.ff))
                (intB (List.getD (renL (out [] (List.length [some (rwI f ca)])) [AV.int IntKind.i64 (myG cd), AV.int IntKind.i64 (myG sl), AV.int IntKind.i64 (0 : Int), AV.bool false]) (2 : Nat) AV.ff)) y (0 : Nat))))
        (T.need
          (pnInv
            (PN.mk f la ca (intB (List.getD (renL (out [] (List.length [some (rwI f ca)])) [AV.int IntKind.i64 (myG cd), AV.int IntKind.i64 (myG sl), AV.int IntKind.i64 (0 : Int), AV.bool false]) (0 : Nat) AV.ff)) (intB (List.getD (renL (out [] (List.length [some (rwI f ca)])) [AV.int IntKind.i64 (myG cd), AV.int IntKind.i64 (myG sl), AV.int IntKind.i64 (0 : Int), AV.bool false]) (1 : Nat) AV.ff))
              (intB (List.getD (renL (out [] (List.length [some (rwI f ca)])) [AV.int IntKind.i64 (myG cd), AV.int IntKind.i64 (myG sl), AV.int IntKind.i64 (0 : Int), AV.bool false]) (2 : Nat) AV.ff)) y (0 : Nat)))
          (T.all fun c => T.asm (decide (c ≤ (1 : Nat))) (T.ite (decide ((↑c : Int) ≤ (1 : Int))) (T.ret (AV.bool true, [none])) (T.ret (AV.ff, [none]))))))) := by
  kernel_rfl

theorem p0_loop : LoopOK Try.prog p0E (loopAt (codeOf Try.f5) 0) := by
  refine loopSumm_ok (E := p0E) (laE_ok _) (noLoops (by kernel_rfl)) p0St pnInv (fun x => 100 - x.i) p0Pick (fun _ => pcEnd 0) ?_ (by kernel_rfl)
  rintro ⟨f, la, ca, c, s, l, y, i⟩ h7 Q hq
  have h7 : i ≤ 100 := h7
  refine round_keep [2, 3, 4, 11, 12, 13] ?_
  have hy := y_lt y
  have hw : IntKind.wrap IntKind.i64 ((i : Int) + 1) = ((i + 1 : Nat) : Int) := by rw [IntWalk.i64_in _ (by omega)]; omega
  rw [p0_tree]
  refine T.hchk rfl (T.hiteP (fun hi => T.hneed (isPol (.inr (.inr ⟨_, rfl⟩))) (T.h_ff ?_)) (fun hi => ?_))
  · exact Round.go ⟨f, la, ca, c, s, l, y, i + 1⟩ id (by show i + 1 ≤ 100; omega) (by dsimp only; omega) (SubSt.mk (by simp [p0St, SubFr, slotAt, ren, below, hw]) (Sub.ofId ⟨⟨_, rfl, pol_blk (Ox.Alike_refl _)⟩, trivial⟩ (Nat.le_of_ble_eq_true rfl))) hq
  · exact Round.out id ⟨[(12, .int .i64 0)], List.replicate 0 none⟩ (SubSt.mk (by simp [SubFr, slotAt, ren, below]) (Sub.nothing (n := 0) _)) (hq 0 rfl)

theorem p1_loop : LoopOK Try.prog p1E (loopAt (codeOf Try.f5) 0) := by
  refine loopSumm_ok (E := p1E) (laE_ok _) (noLoops (by kernel_rfl)) p1St pnInv (fun x => 100 - x.i) p1Pick (fun _ => pcEnd 1) ?_ (by kernel_rfl)
  rintro ⟨f, la, ca, c, s, l, y, i⟩ h7 Q hq
  have h7 : i ≤ 100 := h7
  refine round_keep [2, 3, 4, 11, 12, 13] ?_
  have hy := y_lt y
  have hw : IntKind.wrap IntKind.i64 ((i : Int) + 1) = ((i + 1 : Nat) : Int) := by rw [IntWalk.i64_in _ (by omega)]; omega
  rw [p1_tree]
  refine T.hchk rfl (T.hiteP (fun hi => T.hneed (isPol (.inr (.inr ⟨_, rfl⟩))) (T.hneed IntRow.rows (T.hchk (by simp) (T.h_ff ?_)))) (fun hi => ?_))
  · exact Round.go ⟨f, la, ca, c, s, l, y, i + 1⟩ id (by show i + 1 ≤ 100; omega) (by dsimp only; omega) (SubSt.mk (by simp [p1St, SubFr, slotAt, ren, below, hw]) (Sub.ofId ⟨⟨_, rfl, BlkOK.rows' (fun h => h) fun j _ => LAlike.ints rfl⟩, ⟨_, rfl, pol_blk (Ox.Alike_refl _)⟩, trivial⟩ (Nat.le_of_ble_eq_true rfl))) hq
  · exact Round.out id ⟨[(12, .int .i64 0)], List.replicate 1 none⟩ (SubSt.mk (by simp [SubFr, slotAt, ren, below]) (Sub.nothing (n := 1) _)) (hq 0 rfl)

theorem p2_loop : LoopOK Try.prog p2E (loopAt (codeOf Try.f5) 0) := by
  refine loopSumm_ok (E := p2E) (laE_ok _) (noLoops (by kernel_rfl)) p2St pnInv (fun x => 100 - x.i) p2Pick (fun _ => pcEnd 1) ?_ (by kernel_rfl)
  rintro ⟨f, la, ca, c, s, l, y, i⟩ h7 Q hq
  have h7 : i ≤ 100 := h7
  refine round_keep [2, 3, 4, 11, 12, 13] ?_
  have hy := y_lt y
  have hw : IntKind.wrap IntKind.i64 ((i : Int) + 1) = ((i + 1 : Nat) : Int) := by rw [IntWalk.i64_in _ (by omega)]; omega
  rw [p2_tree]
  refine T.hchk rfl (T.hiteP (fun hi => T.hneed (isPol (.inr (.inr ⟨_, rfl⟩))) (T.hneed IntRow.rows (T.hchk (by simp) (T.h_ff ?_)))) (fun hi => ?_))
  · exact Round.go ⟨f, la, ca, c, s, l, y, i + 1⟩ id (by show i + 1 ≤ 100; omega) (by dsimp only; omega) (SubSt.mk (by simp [p2St, SubFr, slotAt, ren, below, hw]) (Sub.ofId ⟨⟨_, rfl, BlkOK.rows' (fun h => h) fun j _ => LAlike.ints rfl⟩, ⟨_, rfl, pol_blk (Ox.Alike_refl _)⟩, trivial⟩ (Nat.le_of_ble_eq_true rfl))) hq
  · exact Round.out id ⟨[(12, .int .i64 0)], List.replicate 1 none⟩ (SubSt.mk (by simp [SubFr, slotAt, ren, below]) (Sub.nothing (n := 1) _)) (hq 0 rfl)

theorem p0_holds (cd sl y : Int) : (afn Try.prog p0E Try.f5 (codeOf Try.f5) [.int .i64 cd, .int .i64 sl, .int .i64 y, .nils, .nils] []).holds fun r => r.1.yes = true := by
  rw [p0_fn]
  refine T.h_ff (T.h_ff ?_)
  refine T.hneed ⟨id, SubSt.mk (by simp [p0St, SubFr, slotAt, ren, below]) (Sub.ofId ⟨⟨_, rfl, pol_blk (Ox.Alike_refl _)⟩, trivial⟩ (Nat.le_of_ble_eq_true rfl))⟩ (T.hneed (Nat.zero_le _) (T.hall fun c => T.hasm fun hc => T.hiteP (fun h => T.hret rfl) (fun h => absurd (by simp at hc; omega) h)))

theorem p1_holds (cd sl y : Int) (f : Nat → Int) (la ca : Nat) : (afn Try.prog p1E Try.f5 (codeOf Try.f5) [.int .i64 cd, .int .i64 sl, .int .i64 y, .sl 0 0 1 0 la ca, .nils] [some (rwI f ca)]).holds fun r => r.1.yes = true := by
  rw [p1_fn]
  refine T.hite (fun _ => T.hret rfl) (fun _ => T.h_ff ?_)
  refine T.hneed ⟨id, SubSt.mk (by simp [p1St, SubFr, slotAt, ren, below]) (Sub.ofId ⟨⟨_, rfl, BlkOK.rows' (fun h => h) fun j _ => LAlike.ints rfl⟩, ⟨_, rfl, pol_blk (Ox.Alike_refl _)⟩, trivial⟩ (Nat.le_of_ble_eq_true rfl))⟩ (T.hneed (Nat.zero_le _) (T.hall fun c => T.hasm fun hc => T.hiteP (fun h => T.hret rfl) (fun h => absurd (by simp at hc; omega) h)))

theorem p2_holds (cd sl y : Int) (f : Nat → Int) (la ca : Nat) : (afn Try.prog p2E Try.f5 (codeOf Try.f5) [.int .i64 cd, .int .i64 sl, .int .i64 y, .nils, .sl 0 0 1 0 la ca] [some (rwI f ca)]).holds fun r => r.1.yes = true := by
  rw [p2_fn]
  refine T.h_ff (T.hite (fun _ => T.hret rfl) (fun _ => ?_))
  refine T.hneed ⟨id, SubSt.mk (by simp [p2St, SubFr, slotAt, ren, below]) (Sub.ofId ⟨⟨_, rfl, BlkOK.rows' (fun h => h) fun j _ => LAlike.ints rfl⟩, ⟨_, rfl, pol_blk (Ox.Alike_refl _)⟩, trivial⟩ (Nat.le_of_ble_eq_true rfl))⟩ (T.hneed (Nat.zero_le _) (T.hall fun c => T.hasm fun hc => T.hiteP (fun h => T.hret rfl) (fun h => absurd (by simp at hc; omega) h)))

theorem my_hi {a : Int} (h : a ≤ 9223372036854775807) : myG a ≤ 9223372036854775807 := by rcases my_le a with h' | h' <;> omega

theorem pc_holds (cd sl y : Int) (f h : Nat → Int) (la ca lb cb : Nat) (h1 : la ≤ ca) (h2 : lb ≤ cb) (hs : sl ≤ 9223372036854775807) : (afn Try.prog pcE Try.f5 (codeOf Try.f5) [.int .i64 cd, .int .i64 sl, .int .i64 y, .sl 0 0 1 0 la ca, .sl 1 0 1 0 lb cb] [some (rwI f ca), some (rwI h cb)]).holds fun r => r.1.yes = true := by
  rw [pc_fn]
  refine T.hiteP (fun _ => T.hret rfl) (fun h3 => T.hiteP (fun _ => T.hret rfl) (fun h4 => ?_))
  refine T.hneed ⟨id, SubSt.mk (by simp [pcSt, pcA, SubFr, slotAt, ren, below]) (pc_sub rfl rfl rfl (pol_blk (by simp)))⟩ (T.hneed ⟨h1, h2, by dsimp only; omega, by dsimp only; omega, myG_pos sl, my_hi hs, Nat.zero_le _⟩ (T.hall fun c => T.hasm fun hc => T.hiteP (fun h => T.hret rfl) (fun h => absurd (by simp at hc; omega) h)))

theorem pc_law : ∀ args m, ArgsAV [PK.one (CK.int IntKind.i64), PK.one (CK.int IntKind.i64), PK.one (CK.int IntKind.i64), PK.one (CK.sl [CK.int IntKind.i64]), PK.one (CK.sl [CK.int IntKind.i64])] [] args m → Walks Try.prog Try.f5 (codeOf Try.f5) args m := by
  intro args m h
  obtain ⟨cd, _, rfl, _, h⟩ := args_int h
  obtain ⟨sl, _, rfl, hs, h⟩ := args_int h
  obtain ⟨y, _, rfl, _, h⟩ := args_int h
  rcases args_ints h with ⟨_, rfl, hh⟩ | ⟨la, ca, f, _, rfl, hl, hc, hz, hh⟩
  · rcases args_ints hh with ⟨_, rfl, h2⟩ | ⟨lb, cb, g, _, rfl, hl', hc', hz', h2⟩
    · obtain ⟨rfl, rfl⟩ := args_nil h2
      exact ⟨p0E, laE_ok _, oneLoop (by kernel_rfl) p0_loop, rfl, rfl, p0_holds cd sl y⟩
    · obtain ⟨rfl, rfl⟩ := args_nil h2
      exact ⟨p2E, laE_ok _, oneLoop (by kernel_rfl) p2_loop, rfl, rfl, p2_holds cd sl y g lb cb⟩
  · rcases args_ints hh with ⟨_, rfl, h2⟩ | ⟨lb, cb, g, _, rfl, hl', hc', hz', h2⟩
    · obtain ⟨rfl, rfl⟩ := args_nil h2
      exact ⟨p1E, laE_ok _, oneLoop (by kernel_rfl) p1_loop, rfl, rfl, p1_holds cd sl y f la ca⟩
    · obtain ⟨rfl, rfl⟩ := args_nil h2
      exact ⟨pcE, laE_ok _, oneLoop (by kernel_rfl) pc_loop, rfl, rfl, pc_holds cd sl y f g la ca lb cb hl hl' (bounds_i64 hs).2⟩

end Go.Proofs.Ytmhlkcboajgigaa
