/-
  PlaceEven.
-/
import Derived.Test.YtopcinllggbdhaaHC
namespace Go.Proofs.Ytopcinllggbdhaa
open Go.Ox
set_option maxRecDepth 100000
set_option linter.unusedVariables false
set_option linter.unusedSimpArgs false

/-- The tasks of worker k, of the first i. -/
def cnt (w i k : Nat) : Nat := (i + (w - 1 - k)) / w

/-- After i rounds of the first loop: tasks t, workers w, slots s. -/
def ev1 (x : Nat × Nat × Nat × Nat) : St :=
  ⟨[(0, .int .i64 x.1), (1, .int .i64 x.2.1), (2, .int .i64 x.2.2.1), (7, .sl 0 0 1 0 x.1 x.1), (8, .int .i64 0), (9, .sl 1 0 1 0 x.2.1 x.2.1), (10, .int .i64 x.2.2.2)],
    [some (Blk.rows true 1 x.1 fun j => [.int .i64 ((j : Int).tmod (x.2.1 : Int))]), some (Blk.rows true 1 x.2.1 fun k => [.int .i64 (cnt x.2.1 x.2.2.2 k : Nat)])]⟩

def ev2 (x : Nat × Nat × Nat × Nat) : St :=
  ⟨[(0, .int .i64 x.1), (1, .int .i64 x.2.1), (2, .int .i64 x.2.2.1), (7, .sl 0 0 1 0 x.1 x.1), (8, .int .i64 0), (9, .sl 1 0 1 0 x.2.1 x.2.1), (11, .int .i64 x.2.2.2)],
    [some (Blk.rows true 1 x.1 fun j => [.int .i64 ((j : Int).tmod (x.2.1 : Int))]), some (Blk.rows true 1 x.2.1 fun k => [.int .i64 (cnt x.2.1 x.1 k : Nat)])]⟩

def evInv1 (x : Nat × Nat × Nat × Nat) : Prop := 1 ≤ x.2.1 ∧ x.2.1 ≤ 8 ∧ x.1 ≤ 128 ∧ x.2.2.2 ≤ x.1
def evInv2 (x : Nat × Nat × Nat × Nat) : Prop := 1 ≤ x.2.1 ∧ x.2.1 ≤ 8 ∧ x.1 ≤ 128 ∧ x.2.2.2 ≤ x.2.1 ∧ x.1 ≤ x.2.1 * x.2.2.1
def evPick (st : St) : Option (Nat × Nat × Nat × Nat) :=
  match slotAt st.fr 0, slotAt st.fr 1, slotAt st.fr 2 with
  | some (.int _ a), some (.int _ b), some (.int _ c) => some (a.toNat, b.toNat, c.toNat, 0)
  | _, _, _ => none
def evOut (t w s : Nat) : St :=
  ⟨[(0, .int .i64 t), (1, .int .i64 w), (2, .int .i64 s), (7, .sl 0 0 1 0 t t), (8, .int .i64 0), (9, .sl 1 0 1 0 w w)],
    [some (Blk.rows true 1 t fun j => [.int .i64 ((j : Int).tmod (w : Int))]), some (Blk.rows true 1 w fun k => [.int .i64 (cnt w t k : Nat)])]⟩
def evEnd1 (x : Nat × Nat × Nat × Nat) : T (Ex × St) := .ret (.exit 0, evOut x.1 x.2.1 x.2.2.1)
def evEnd2 (x : Nat × Nat × Nat × Nat) : T (Ex × St) := .ret (.exit 2, evOut x.1 x.2.1 x.2.2.1)

def placeF : List AV → T (AV × AM)
  | [.int .i64 a, .int .i64 b, .int .i64 c] => .chk (okA a b c) (.ite (decide (a ≤ b * c)) (.ret (.tup [.sl 0 0 1 0 a.toNat a.toNat, .int .i64 0], [some (Blk.rows true 1 a.toNat fun j => [.int .i64 ((j : Int).tmod b)])])) (.ret (.tup [.nils, .int .i64 13], [])))
  | _ => .fail
noncomputable def evE : Env :=
  { nt := 144, n0 := 0, fns := [(6, .eff fun args m => lift [] m [] (placeF args)), (8, .pure sameS), (10, .pure fun args _ => knS args), (11, .pure fun args _ => pickA args)],
    loop := fun k => if k = 9 then loopSumm 0 ev1 evInv1 evPick evEnd1 else if k = 15 then loopSumm 0 ev2 evInv2 evPick evEnd2 else fun _ => .fail }

theorem ev1_tree (t w s i : Nat) : keepT [0, 1, 2, 7, 8, 9, 10] (acode Try.prog evE (loopAt (codeOf Try.f4) 0) (ev1 (t, w, s, i))) = 
  T.ite (decide ((↑i : Int) < (↑t : Int)))
    (T.chk (decide ((0 : Int) ≤ (↑i : Int)) && decide ((↑i : Int) < (↑t : Int)))
      (T.chk (decide ((0 : Nat) + Int.toNat (↑i : Int) < t))
        (T.ite (decide (Int.tmod (↑((0 : Nat) + Int.toNat (↑i : Int)) : Int) (↑w : Int) < (0 : Int)))
          (T.ret
            (Ex.ret,
              St.mk [((0 : Nat), AV.int IntKind.i64 (↑t : Int)), ((1 : Nat), AV.int IntKind.i64 (↑w : Int)), ((2 : Nat), AV.int IntKind.i64 (↑s : Int)), ((7 : Nat), AV.sl (0 : Nat) (0 : Nat) (1 : Nat) (0 : Nat) t t), ((8 : Nat), AV.int IntKind.i64 (0 : Int)), ((9 : Nat), AV.sl (1 : Nat) (0 : Nat) (1 : Nat) (0 : Nat) w w), ((10 : Nat), AV.int IntKind.i64 (↑i : Int))]
                [some (Blk.mk true [] (1 : Nat) t (fun j => [AV.int IntKind.i64 (Int.tmod (↑j : Int) (↑w : Int))]) []), some (Blk.mk true [] (1 : Nat) w (fun k => [AV.int IntKind.i64 (↑(cnt w i k) : Int)]) [])]))
          (T.chk (decide ((0 : Int) ≤ (↑i : Int)) && decide ((↑i : Int) < (↑t : Int)))
            (T.chk (decide ((0 : Nat) + Int.toNat (↑i : Int) < t))
              (T.ite (decide (Int.tmod (↑((0 : Nat) + Int.toNat (↑i : Int)) : Int) (↑w : Int) ≥ (↑w : Int)))
                (T.ret
                  (Ex.ret,
                    St.mk [((0 : Nat), AV.int IntKind.i64 (↑t : Int)), ((1 : Nat), AV.int IntKind.i64 (↑w : Int)), ((2 : Nat), AV.int IntKind.i64 (↑s : Int)), ((7 : Nat), AV.sl (0 : Nat) (0 : Nat) (1 : Nat) (0 : Nat) t t), ((8 : Nat), AV.int IntKind.i64 (0 : Int)), ((9 : Nat), AV.sl (1 : Nat) (0 : Nat) (1 : Nat) (0 : Nat) w w), ((10 : Nat), AV.int IntKind.i64 (↑i : Int))]
                      [some (Blk.mk true [] (1 : Nat) t (fun j => [AV.int IntKind.i64 (Int.tmod (↑j : Int) (↑w : Int))]) []), some (Blk.mk true [] (1 : Nat) w (fun k => [AV.int IntKind.i64 (↑(cnt w i k) : Int)]) [])]))
                (T.chk (decide ((0 : Int) ≤ (↑i : Int)) && decide ((↑i : Int) < (↑t : Int)))
                  (T.chk (decide ((0 : Nat) + Int.toNat (↑i : Int) < t))
                    (T.chk (decide ((0 : Int) ≤ Int.tmod (↑((0 : Nat) + Int.toNat (↑i : Int)) : Int) (↑w : Int)) && decide (Int.tmod (↑((0 : Nat) + Int.toNat (↑i : Int)) : Int) (↑w : Int) < (↑w : Int)))
                      (T.chk (decide ((0 : Nat) + Int.toNat (Int.tmod (↑((0 : Nat) + Int.toNat (↑i : Int)) : Int) (↑w : Int)) < w))
                        (T.chk (decide ((0 : Int) ≤ Int.tmod (↑((0 : Nat) + Int.toNat (↑i : Int)) : Int) (↑w : Int)) && decide (Int.tmod (↑((0 : Nat) + Int.toNat (↑i : Int)) : Int) (↑w : Int) < (↑w : Int)))
                          (T.chk (decide ((0 : Nat) + Int.toNat (Int.tmod (↑((0 : Nat) + Int.toNat (↑i : Int)) : Int) (↑w : Int)) < w))
                            (T.ret
                              (Ex.norm,
                                St.mk
                                  [((0 : Nat), AV.int IntKind.i64 (↑t : Int)), ((1 : Nat), AV.int IntKind.i64 (↑w : Int)), ((2 : Nat), AV.int IntKind.i64 (↑s : Int)), ((7 : Nat), AV.sl (0 : Nat) (0 : Nat) (1 : Nat) (0 : Nat) t t), ((8 : Nat), AV.int IntKind.i64 (0 : Int)), ((9 : Nat), AV.sl (1 : Nat) (0 : Nat) (1 : Nat) (0 : Nat) w w),
                                    ((10 : Nat), AV.int IntKind.i64 (IntKind.wrap IntKind.i64 ((↑i : Int) + (1 : Int))))]
                                  [some (Blk.mk true [] (1 : Nat) t (fun j => [AV.int IntKind.i64 (Int.tmod (↑j : Int) (↑w : Int))]) []),
                                    some
                                      (Blk.mk true [] (1 : Nat) w
                                        (fun i_1 =>
                                          if i_1 = (0 : Nat) + Int.toNat (Int.tmod (↑((0 : Nat) + Int.toNat (↑i : Int)) : Int) (↑w : Int)) then
                                            List.set [AV.int IntKind.i64 (↑(cnt w i ((0 : Nat) + Int.toNat (Int.tmod (↑((0 : Nat) + Int.toNat (↑i : Int)) : Int) (↑w : Int)))) : Int)] (0 : Nat) (AV.int IntKind.i64 (IntKind.wrap IntKind.i64 ((↑(cnt w i ((0 : Nat) + Int.toNat (Int.tmod (↑((0 : Nat) + Int.toNat (↑i : Int)) : Int) (↑w : Int)))) : Int) + (1 : Int))))
                                          else [AV.int IntKind.i64 (↑(cnt w i i_1) : Int)])
                                        [])]))))))))))))))
    (T.ret
      (Ex.exit (0 : Nat),
        St.mk [((0 : Nat), AV.int IntKind.i64 (↑t : Int)), ((1 : Nat), AV.int IntKind.i64 (↑w : Int)), ((2 : Nat), AV.int IntKind.i64 (↑s : Int)), ((7 : Nat), AV.sl (0 : Nat) (0 : Nat) (1 : Nat) (0 : Nat) t t), ((8 : Nat), AV.int IntKind.i64 (0 : Int)), ((9 : Nat), AV.sl (1 : Nat) (0 : Nat) (1 : Nat) (0 : Nat) w w), ((10 : Nat), AV.int IntKind.i64 (↑i : Int))]
          [some (Blk.mk true [] (1 : Nat) t (fun j => [AV.int IntKind.i64 (Int.tmod (↑j : Int) (↑w : Int))]) []), some (Blk.mk true [] (1 : Nat) w (fun k => [AV.int IntKind.i64 (↑(cnt w i k) : Int)]) [])])) := by
  kernel_rfl

theorem ev2_tree (t w s i : Nat) : keepT [0, 1, 2, 7, 8, 9, 11] (acode Try.prog evE (loopAt (codeOf Try.f4) 1) (ev2 (t, w, s, i))) = 
  T.ite (decide ((↑i : Int) < (↑w : Int)))
    (T.chk (decide ((0 : Int) ≤ (↑i : Int)) && decide ((↑i : Int) < (↑w : Int)))
      (T.chk (decide ((0 : Nat) + Int.toNat (↑i : Int) < w))
        (T.ite (decide ((↑(cnt w t ((0 : Nat) + Int.toNat (↑i : Int))) : Int) > (↑s : Int)))
          (T.ret
            (Ex.ret,
              St.mk [((0 : Nat), AV.int IntKind.i64 (↑t : Int)), ((1 : Nat), AV.int IntKind.i64 (↑w : Int)), ((2 : Nat), AV.int IntKind.i64 (↑s : Int)), ((7 : Nat), AV.sl (0 : Nat) (0 : Nat) (1 : Nat) (0 : Nat) t t), ((8 : Nat), AV.int IntKind.i64 (0 : Int)), ((9 : Nat), AV.sl (1 : Nat) (0 : Nat) (1 : Nat) (0 : Nat) w w), ((11 : Nat), AV.int IntKind.i64 (↑i : Int))]
                [some (Blk.mk true [] (1 : Nat) t (fun j => [AV.int IntKind.i64 (Int.tmod (↑j : Int) (↑w : Int))]) []), some (Blk.mk true [] (1 : Nat) w (fun k => [AV.int IntKind.i64 (↑(cnt w t k) : Int)]) [])]))
          (T.chk (decide ((0 : Int) ≤ (↑i : Int)) && decide ((↑i : Int) < (↑w : Int)))
            (T.chk (decide ((0 : Nat) + Int.toNat (↑i : Int) < w))
              (T.chk (decide ((0 : Int) ≤ (0 : Int)) && decide ((0 : Int) < (↑w : Int)))
                (T.chk (decide ((0 : Nat) < w))
                  (T.ite (decide ((↑(cnt w t ((0 : Nat) + Int.toNat (↑i : Int))) : Int) > (↑(cnt w t (0 : Nat)) : Int)))
                    (T.ret
                      (Ex.ret,
                        St.mk [((0 : Nat), AV.int IntKind.i64 (↑t : Int)), ((1 : Nat), AV.int IntKind.i64 (↑w : Int)), ((2 : Nat), AV.int IntKind.i64 (↑s : Int)), ((7 : Nat), AV.sl (0 : Nat) (0 : Nat) (1 : Nat) (0 : Nat) t t), ((8 : Nat), AV.int IntKind.i64 (0 : Int)), ((9 : Nat), AV.sl (1 : Nat) (0 : Nat) (1 : Nat) (0 : Nat) w w), ((11 : Nat), AV.int IntKind.i64 (↑i : Int))]
                          [some (Blk.mk true [] (1 : Nat) t (fun j => [AV.int IntKind.i64 (Int.tmod (↑j : Int) (↑w : Int))]) []), some (Blk.mk true [] (1 : Nat) w (fun k => [AV.int IntKind.i64 (↑(cnt w t k) : Int)]) [])]))
                    (T.chk (decide ((0 : Int) ≤ (0 : Int)) && decide ((0 : Int) < (↑w : Int)))
                      (T.chk (decide ((0 : Nat) < w))
                        (T.chk (decide ((0 : Int) ≤ (↑i : Int)) && decide ((↑i : Int) < (↑w : Int)))
                          (T.chk (decide ((0 : Nat) + Int.toNat (↑i : Int) < w))
                            (T.ite (decide (IntKind.wrap IntKind.i64 ((↑(cnt w t (0 : Nat)) : Int) - (↑(cnt w t ((0 : Nat) + Int.toNat (↑i : Int))) : Int)) > (1 : Int)))
                              (T.ret
                                (Ex.ret,
                                  St.mk [((0 : Nat), AV.int IntKind.i64 (↑t : Int)), ((1 : Nat), AV.int IntKind.i64 (↑w : Int)), ((2 : Nat), AV.int IntKind.i64 (↑s : Int)), ((7 : Nat), AV.sl (0 : Nat) (0 : Nat) (1 : Nat) (0 : Nat) t t), ((8 : Nat), AV.int IntKind.i64 (0 : Int)), ((9 : Nat), AV.sl (1 : Nat) (0 : Nat) (1 : Nat) (0 : Nat) w w), ((11 : Nat), AV.int IntKind.i64 (↑i : Int))]
                                    [some (Blk.mk true [] (1 : Nat) t (fun j => [AV.int IntKind.i64 (Int.tmod (↑j : Int) (↑w : Int))]) []), some (Blk.mk true [] (1 : Nat) w (fun k => [AV.int IntKind.i64 (↑(cnt w t k) : Int)]) [])]))
                              (T.ret
                                (Ex.norm,
                                  St.mk
                                    [((0 : Nat), AV.int IntKind.i64 (↑t : Int)), ((1 : Nat), AV.int IntKind.i64 (↑w : Int)), ((2 : Nat), AV.int IntKind.i64 (↑s : Int)), ((7 : Nat), AV.sl (0 : Nat) (0 : Nat) (1 : Nat) (0 : Nat) t t), ((8 : Nat), AV.int IntKind.i64 (0 : Int)), ((9 : Nat), AV.sl (1 : Nat) (0 : Nat) (1 : Nat) (0 : Nat) w w),
                                      ((11 : Nat), AV.int IntKind.i64 (IntKind.wrap IntKind.i64 ((↑i : Int) + (1 : Int))))]
                                    [some (Blk.mk true [] (1 : Nat) t (fun j => [AV.int IntKind.i64 (Int.tmod (↑j : Int) (↑w : Int))]) []), some (Blk.mk true [] (1 : Nat) w (fun k => [AV.int IntKind.i64 (↑(cnt w t k) : Int)]) [])])))))))))))))))
    (T.ret
      (Ex.exit (2 : Nat),
        St.mk [((0 : Nat), AV.int IntKind.i64 (↑t : Int)), ((1 : Nat), AV.int IntKind.i64 (↑w : Int)), ((2 : Nat), AV.int IntKind.i64 (↑s : Int)), ((7 : Nat), AV.sl (0 : Nat) (0 : Nat) (1 : Nat) (0 : Nat) t t), ((8 : Nat), AV.int IntKind.i64 (0 : Int)), ((9 : Nat), AV.sl (1 : Nat) (0 : Nat) (1 : Nat) (0 : Nat) w w), ((11 : Nat), AV.int IntKind.i64 (↑i : Int))]
          [some (Blk.mk true [] (1 : Nat) t (fun j => [AV.int IntKind.i64 (Int.tmod (↑j : Int) (↑w : Int))]) []), some (Blk.mk true [] (1 : Nat) w (fun k => [AV.int IntKind.i64 (↑(cnt w t k) : Int)]) [])])) := by
  kernel_rfl

theorem ev_fn (x y z : Int) : afn Try.prog evE Try.f4 (codeOf Try.f4) [.int .i64 z, .int .i64 x, .int .i64 y] [] = 
  T.chk true
    (T.all fun c =>
      T.asm (decide ((↑c : Int) < (8 : Int)))
        (T.chk true
          (T.all fun c_1 =>
            T.asm (decide ((↑c_1 : Int) < (16 : Int)))
              (T.chk
                (decide ((1 : Int) ≤ IntKind.wrap IntKind.i64 (IntKind.wrap IntKind.i64 (IntKind.wrap IntKind.i64 ((1 : Int) + (↑c : Int)) * IntKind.wrap IntKind.i64 ((1 : Int) + (↑c_1 : Int))) + (1 : Int))) &&
                  decide (IntKind.wrap IntKind.i64 (IntKind.wrap IntKind.i64 (IntKind.wrap IntKind.i64 ((1 : Int) + (↑c : Int)) * IntKind.wrap IntKind.i64 ((1 : Int) + (↑c_1 : Int))) + (1 : Int)) ≤ (9223372036854775807 : Int)))
                (T.all fun c_2 =>
                  T.asm (decide ((↑c_2 : Int) < IntKind.wrap IntKind.i64 (IntKind.wrap IntKind.i64 (IntKind.wrap IntKind.i64 ((1 : Int) + (↑c : Int)) * IntKind.wrap IntKind.i64 ((1 : Int) + (↑c_1 : Int))) + (1 : Int))))
                    (T.chk (okA (↑c_2 : Int) (IntKind.wrap IntKind.i64 ((1 : Int) + (↑c : Int))) (IntKind.wrap IntKind.i64 ((1 : Int) + (↑c_1 : Int))))
                      (T.ite (decide ((↑c_2 : Int) ≤ IntKind.wrap IntKind.i64 ((1 : Int) + (↑c : Int)) * IntKind.wrap IntKind.i64 ((1 : Int) + (↑c_1 : Int))))
                        (T.ite false (T.ret (AV.ff, [some (Blk.mk true [] (1 : Nat) (Int.toNat (↑c_2 : Int)) (fun j => [AV.int IntKind.i64 (Int.tmod (↑j : Int) (IntKind.wrap IntKind.i64 ((1 : Int) + (↑c : Int))))]) [])]))
                          (T.ite ((↑(Int.toNat (↑c_2 : Int)) : Int) != (↑c_2 : Int)) (T.ret (AV.ff, [some (Blk.mk true [] (1 : Nat) (Int.toNat (↑c_2 : Int)) (fun j => [AV.int IntKind.i64 (Int.tmod (↑j : Int) (IntKind.wrap IntKind.i64 ((1 : Int) + (↑c : Int))))]) [])]))
                            (T.chk (makeOk (8 : Nat) (IntKind.wrap IntKind.i64 ((1 : Int) + (↑c : Int))) (IntKind.wrap IntKind.i64 ((1 : Int) + (↑c : Int))))
                              (T.need
                                (∃ ρ,
                                  SubSt (0 : Nat) ρ
                                    (St.mk
                                      [((0 : Nat), AV.int IntKind.i64 (↑c_2 : Int)), ((1 : Nat), AV.int IntKind.i64 (IntKind.wrap IntKind.i64 ((1 : Int) + (↑c : Int)))), ((2 : Nat), AV.int IntKind.i64 (IntKind.wrap IntKind.i64 ((1 : Int) + (↑c_1 : Int)))), ((7 : Nat), AV.sl (0 : Nat) (0 : Nat) (1 : Nat) (0 : Nat) (Int.toNat (↑c_2 : Int)) (Int.toNat (↑c_2 : Int))),
                                        ((8 : Nat), AV.int IntKind.i64 (0 : Int)), ((9 : Nat), AV.sl (1 : Nat) (0 : Nat) (1 : Nat) (0 : Nat) (Int.toNat (IntKind.wrap IntKind.i64 ((1 : Int) + (↑c : Int)))) (Int.toNat (IntKind.wrap IntKind.i64 ((1 : Int) + (↑c : Int))))), ((10 : Nat), AV.int IntKind.i64 (0 : Int))]
                                      [some (Blk.mk true [] (1 : Nat) (Int.toNat (↑c_2 : Int)) (fun j => [AV.int IntKind.i64 (Int.tmod (↑j : Int) (IntKind.wrap IntKind.i64 ((1 : Int) + (↑c : Int))))]) []), some (Blk.mk true [] (1 : Nat) (Int.toNat (IntKind.wrap IntKind.i64 ((1 : Int) + (↑c : Int)))) (fun x => [AV.int IntKind.i64 (0 : Int)]) [])])
                                    (ev1 (Int.toNat (↑c_2 : Int), Int.toNat (IntKind.wrap IntKind.i64 ((1 : Int) + (↑c : Int))), Int.toNat (IntKind.wrap IntKind.i64 ((1 : Int) + (↑c_1 : Int))), (0 : Nat))))
                                (T.need (evInv1 (Int.toNat (↑c_2 : Int), Int.toNat (IntKind.wrap IntKind.i64 ((1 : Int) + (↑c : Int))), Int.toNat (IntKind.wrap IntKind.i64 ((1 : Int) + (↑c_1 : Int))), (0 : Nat)))
                                  (T.need
                                    (∃ ρ,
                                      SubSt (0 : Nat) ρ
                                        (St.mk
                                          [((0 : Nat), AV.int IntKind.i64 (↑(Int.toNat (↑c_2 : Int)) : Int)), ((1 : Nat), AV.int IntKind.i64 (↑(Int.toNat (IntKind.wrap IntKind.i64 ((1 : Int) + (↑c : Int)))) : Int)), ((2 : Nat), AV.int IntKind.i64 (↑(Int.toNat (IntKind.wrap IntKind.i64 ((1 : Int) + (↑c_1 : Int)))) : Int)),
                                            ((7 : Nat), AV.sl (0 : Nat) (0 : Nat) (1 : Nat) (0 : Nat) (Int.toNat (↑c_2 : Int)) (Int.toNat (↑c_2 : Int))), ((8 : Nat), AV.int IntKind.i64 (0 : Int)), ((9 : Nat), AV.sl (1 : Nat) (0 : Nat) (1 : Nat) (0 : Nat) (Int.toNat (IntKind.wrap IntKind.i64 ((1 : Int) + (↑c : Int)))) (Int.toNat (IntKind.wrap IntKind.i64 ((1 : Int) + (↑c : Int))))),
                                            ((11 : Nat), AV.int IntKind.i64 (0 : Int))]
                                          [some (Blk.mk true [] (1 : Nat) (Int.toNat (↑c_2 : Int)) (fun j => [AV.int IntKind.i64 (Int.tmod (↑j : Int) (↑(Int.toNat (IntKind.wrap IntKind.i64 ((1 : Int) + (↑c : Int)))) : Int))]) []),
                                            some (Blk.mk true [] (1 : Nat) (Int.toNat (IntKind.wrap IntKind.i64 ((1 : Int) + (↑c : Int)))) (fun k => [AV.int IntKind.i64 (↑(cnt (Int.toNat (IntKind.wrap IntKind.i64 ((1 : Int) + (↑c : Int)))) (Int.toNat (↑c_2 : Int)) k) : Int)]) [])])
                                        (ev2 (Int.toNat (↑(Int.toNat (↑c_2 : Int)) : Int), Int.toNat (↑(Int.toNat (IntKind.wrap IntKind.i64 ((1 : Int) + (↑c : Int)))) : Int), Int.toNat (↑(Int.toNat (IntKind.wrap IntKind.i64 ((1 : Int) + (↑c_1 : Int)))) : Int), (0 : Nat))))
                                    (T.need (evInv2 (Int.toNat (↑(Int.toNat (↑c_2 : Int)) : Int), Int.toNat (↑(Int.toNat (IntKind.wrap IntKind.i64 ((1 : Int) + (↑c : Int)))) : Int), Int.toNat (↑(Int.toNat (IntKind.wrap IntKind.i64 ((1 : Int) + (↑c_1 : Int)))) : Int), (0 : Nat)))
                                      (T.chk (okA (IntKind.wrap IntKind.i64 ((↑(Int.toNat (↑(Int.toNat (↑c_2 : Int)) : Int)) : Int) + (1 : Int))) (↑(Int.toNat (↑(Int.toNat (IntKind.wrap IntKind.i64 ((1 : Int) + (↑c : Int)))) : Int)) : Int) (↑(Int.toNat (↑(Int.toNat (IntKind.wrap IntKind.i64 ((1 : Int) + (↑c_1 : Int)))) : Int)) : Int))
                                        (T.ite (decide (IntKind.wrap IntKind.i64 ((↑(Int.toNat (↑(Int.toNat (↑c_2 : Int)) : Int)) : Int) + (1 : Int)) ≤ (↑(Int.toNat (↑(Int.toNat (IntKind.wrap IntKind.i64 ((1 : Int) + (↑c : Int)))) : Int)) : Int) * (↑(Int.toNat (↑(Int.toNat (IntKind.wrap IntKind.i64 ((1 : Int) + (↑c_1 : Int)))) : Int)) : Int)))
                                          (T.ite ((↑(Int.toNat (↑(Int.toNat (↑c_2 : Int)) : Int)) : Int) == IntKind.wrap IntKind.i64 ((↑(Int.toNat (↑(Int.toNat (IntKind.wrap IntKind.i64 ((1 : Int) + (↑c : Int)))) : Int)) : Int) * (↑(Int.toNat (↑(Int.toNat (IntKind.wrap IntKind.i64 ((1 : Int) + (↑c_1 : Int)))) : Int)) : Int)))
                                            (T.ite false
                                              (T.ite ((↑(Int.toNat (IntKind.wrap IntKind.i64 ((↑(Int.toNat (↑(Int.toNat (↑c_2 : Int)) : Int)) : Int) + (1 : Int)))) : Int) == (0 : Int))
                                                (T.ret
                                                  (AV.bool true,
                                                    [some (Blk.mk true [] (1 : Nat) (Int.toNat (↑(Int.toNat (↑c_2 : Int)) : Int)) (fun j => [AV.int IntKind.i64 (Int.tmod (↑j : Int) (↑(Int.toNat (↑(Int.toNat (IntKind.wrap IntKind.i64 ((1 : Int) + (↑c : Int)))) : Int)) : Int))]) []),
                                                      some (Blk.mk true [] (1 : Nat) (Int.toNat (↑(Int.toNat (IntKind.wrap IntKind.i64 ((1 : Int) + (↑c : Int)))) : Int)) (fun k => [AV.int IntKind.i64 (↑(cnt (Int.toNat (↑(Int.toNat (IntKind.wrap IntKind.i64 ((1 : Int) + (↑c : Int)))) : Int)) (Int.toNat (↑(Int.toNat (↑c_2 : Int)) : Int)) k) : Int)]) []),
                                                      some (Blk.mk true [] (1 : Nat) (Int.toNat (IntKind.wrap IntKind.i64 ((↑(Int.toNat (↑(Int.toNat (↑c_2 : Int)) : Int)) : Int) + (1 : Int)))) (fun j => [AV.int IntKind.i64 (Int.tmod (↑j : Int) (↑(Int.toNat (↑(Int.toNat (IntKind.wrap IntKind.i64 ((1 : Int) + (↑c : Int)))) : Int)) : Int))]) [])]))
                                                (T.ret
                                                  (AV.ff,
                                                    [some (Blk.mk true [] (1 : Nat) (Int.toNat (↑(Int.toNat (↑c_2 : Int)) : Int)) (fun j => [AV.int IntKind.i64 (Int.tmod (↑j : Int) (↑(Int.toNat (↑(Int.toNat (IntKind.wrap IntKind.i64 ((1 : Int) + (↑c : Int)))) : Int)) : Int))]) []),
                                                      some (Blk.mk true [] (1 : Nat) (Int.toNat (↑(Int.toNat (IntKind.wrap IntKind.i64 ((1 : Int) + (↑c : Int)))) : Int)) (fun k => [AV.int IntKind.i64 (↑(cnt (Int.toNat (↑(Int.toNat (IntKind.wrap IntKind.i64 ((1 : Int) + (↑c : Int)))) : Int)) (Int.toNat (↑(Int.toNat (↑c_2 : Int)) : Int)) k) : Int)]) []),
                                                      some (Blk.mk true [] (1 : Nat) (Int.toNat (IntKind.wrap IntKind.i64 ((↑(Int.toNat (↑(Int.toNat (↑c_2 : Int)) : Int)) : Int) + (1 : Int)))) (fun j => [AV.int IntKind.i64 (Int.tmod (↑j : Int) (↑(Int.toNat (↑(Int.toNat (IntKind.wrap IntKind.i64 ((1 : Int) + (↑c : Int)))) : Int)) : Int))]) [])])))
                                              (T.ret
                                                (AV.ff,
                                                  [some (Blk.mk true [] (1 : Nat) (Int.toNat (↑(Int.toNat (↑c_2 : Int)) : Int)) (fun j => [AV.int IntKind.i64 (Int.tmod (↑j : Int) (↑(Int.toNat (↑(Int.toNat (IntKind.wrap IntKind.i64 ((1 : Int) + (↑c : Int)))) : Int)) : Int))]) []),
                                                    some (Blk.mk true [] (1 : Nat) (Int.toNat (↑(Int.toNat (IntKind.wrap IntKind.i64 ((1 : Int) + (↑c : Int)))) : Int)) (fun k => [AV.int IntKind.i64 (↑(cnt (Int.toNat (↑(Int.toNat (IntKind.wrap IntKind.i64 ((1 : Int) + (↑c : Int)))) : Int)) (Int.toNat (↑(Int.toNat (↑c_2 : Int)) : Int)) k) : Int)]) []),
                                                    some (Blk.mk true [] (1 : Nat) (Int.toNat (IntKind.wrap IntKind.i64 ((↑(Int.toNat (↑(Int.toNat (↑c_2 : Int)) : Int)) : Int) + (1 : Int)))) (fun j => [AV.int IntKind.i64 (Int.tmod (↑j : Int) (↑(Int.toNat (↑(Int.toNat (IntKind.wrap IntKind.i64 ((1 : Int) + (↑c : Int)))) : Int)) : Int))]) [])])))
                                            (T.ite true
                                              (T.ite ((↑(Int.toNat (IntKind.wrap IntKind.i64 ((↑(Int.toNat (↑(Int.toNat (↑c_2 : Int)) : Int)) : Int) + (1 : Int)))) : Int) == IntKind.wrap IntKind.i64 ((↑(Int.toNat (↑(Int.toNat (↑c_2 : Int)) : Int)) : Int) + (1 : Int)))
                                                (T.chk (decide ((0 : Int) ≤ (↑(Int.toNat (↑(Int.toNat (↑c_2 : Int)) : Int)) : Int)) && decide ((↑(Int.toNat (↑(Int.toNat (↑c_2 : Int)) : Int)) : Int) ≤ (↑(Int.toNat (IntKind.wrap IntKind.i64 ((↑(Int.toNat (↑(Int.toNat (↑c_2 : Int)) : Int)) : Int) + (1 : Int)))) : Int)))
                                                  (T.need (IntRow IntKind.i64 (Blk.mk true [] (1 : Nat) (Int.toNat (IntKind.wrap IntKind.i64 ((↑(Int.toNat (↑(Int.toNat (↑c_2 : Int)) : Int)) : Int) + (1 : Int)))) (fun j => [AV.int IntKind.i64 (Int.tmod (↑j : Int) (↑(Int.toNat (↑(Int.toNat (IntKind.wrap IntKind.i64 ((1 : Int) + (↑c : Int)))) : Int)) : Int))]) []))
                                                    (T.need (IntRow IntKind.i64 (Blk.mk true [] (1 : Nat) (Int.toNat (↑(Int.toNat (↑c_2 : Int)) : Int)) (fun j => [AV.int IntKind.i64 (Int.tmod (↑j : Int) (↑(Int.toNat (↑(Int.toNat (IntKind.wrap IntKind.i64 ((1 : Int) + (↑c : Int)))) : Int)) : Int))]) []))
                                                      (T.chk (decide ((0 : Nat) + Int.toNat (↑(Int.toNat (↑(Int.toNat (↑c_2 : Int)) : Int)) : Int) ≤ Int.toNat (IntKind.wrap IntKind.i64 ((↑(Int.toNat (↑(Int.toNat (↑c_2 : Int)) : Int)) : Int) + (1 : Int)))))
                                                        (T.chk (decide ((0 : Nat) + Int.toNat (↑(Int.toNat (↑c_2 : Int)) : Int) ≤ Int.toNat (↑(Int.toNat (↑c_2 : Int)) : Int)))
                                                          (T.chk (decide (Int.toNat (↑(Int.toNat (↑(Int.toNat (↑c_2 : Int)) : Int)) : Int) ≤ (4611686018427387904 : Nat)))
                                                            (T.ite
                                                              (decide (Int.toNat (↑(Int.toNat (↑(Int.toNat (↑c_2 : Int)) : Int)) : Int) = Int.toNat (↑(Int.toNat (↑c_2 : Int)) : Int)) &&
                                                                eqN (fun i => Int.tmod (↑((0 : Nat) + i) : Int) (↑(Int.toNat (↑(Int.toNat (IntKind.wrap IntKind.i64 ((1 : Int) + (↑c : Int)))) : Int)) : Int)) (fun i => Int.tmod (↑((0 : Nat) + i) : Int) (↑(Int.toNat (↑(Int.toNat (IntKind.wrap IntKind.i64 ((1 : Int) + (↑c : Int)))) : Int)) : Int)) (0 : Nat)
                                                                  (Int.toNat (↑(Int.toNat (↑(Int.toNat (↑c_2 : Int)) : Int)) : Int)))
                                                              (T.ret
                                                                (AV.bool true,
                                                                  [some (Blk.mk true [] (1 : Nat) (Int.toNat (↑(Int.toNat (↑c_2 : Int)) : Int)) (fun j => [AV.int IntKind.i64 (Int.tmod (↑j : Int) (↑(Int.toNat (↑(Int.toNat (IntKind.wrap IntKind.i64 ((1 : Int) + (↑c : Int)))) : Int)) : Int))]) []),
                                                                    some (Blk.mk true [] (1 : Nat) (Int.toNat (↑(Int.toNat (IntKind.wrap IntKind.i64 ((1 : Int) + (↑c : Int)))) : Int)) (fun k => [AV.int IntKind.i64 (↑(cnt (Int.toNat (↑(Int.toNat (IntKind.wrap IntKind.i64 ((1 : Int) + (↑c : Int)))) : Int)) (Int.toNat (↑(Int.toNat (↑c_2 : Int)) : Int)) k) : Int)]) []),
                                                                    some (Blk.mk true [] (1 : Nat) (Int.toNat (IntKind.wrap IntKind.i64 ((↑(Int.toNat (↑(Int.toNat (↑c_2 : Int)) : Int)) : Int) + (1 : Int)))) (fun j => [AV.int IntKind.i64 (Int.tmod (↑j : Int) (↑(Int.toNat (↑(Int.toNat (IntKind.wrap IntKind.i64 ((1 : Int) + (↑c : Int)))) : Int)) : Int))]) [])]))
                                                              (T.ret
                                                                (AV.ff,
                                                                  [some (Blk.mk true [] (1 : Nat) (Int.toNat (↑(Int.toNat (↑c_2 : Int)) : Int)) (fun j => [AV.int IntKind.i64 (Int.tmod (↑j : Int) (↑(Int.toNat (↑(Int.toNat (IntKind.wrap IntKind.i64 ((1 : Int) + (↑c : Int)))) : Int)) : Int))]) []),
                                                                    some (Blk.mk true [] (1 : Nat) (Int.toNat (↑(Int.toNat (IntKind.wrap IntKind.i64 ((1 : Int) + (↑c : Int)))) : Int)) (fun k => [AV.int IntKind.i64 (↑(cnt (Int.toNat (↑(Int.toNat (IntKind.wrap IntKind.i64 ((1 : Int) + (↑c : Int)))) : Int)) (Int.toNat (↑(Int.toNat (↑c_2 : Int)) : Int)) k) : Int)]) []),
                                                                    some (Blk.mk true [] (1 : Nat) (Int.toNat (IntKind.wrap IntKind.i64 ((↑(Int.toNat (↑(Int.toNat (↑c_2 : Int)) : Int)) : Int) + (1 : Int)))) (fun j => [AV.int IntKind.i64 (Int.tmod (↑j : Int) (↑(Int.toNat (↑(Int.toNat (IntKind.wrap IntKind.i64 ((1 : Int) + (↑c : Int)))) : Int)) : Int))]) [])])))))))))
                                                (T.ret
                                                  (AV.ff,
                                                    [some (Blk.mk true [] (1 : Nat) (Int.toNat (↑(Int.toNat (↑c_2 : Int)) : Int)) (fun j => [AV.int IntKind.i64 (Int.tmod (↑j : Int) (↑(Int.toNat (↑(Int.toNat (IntKind.wrap IntKind.i64 ((1 : Int) + (↑c : Int)))) : Int)) : Int))]) []),
                                                      some (Blk.mk true [] (1 : Nat) (Int.toNat (↑(Int.toNat (IntKind.wrap IntKind.i64 ((1 : Int) + (↑c : Int)))) : Int)) (fun k => [AV.int IntKind.i64 (↑(cnt (Int.toNat (↑(Int.toNat (IntKind.wrap IntKind.i64 ((1 : Int) + (↑c : Int)))) : Int)) (Int.toNat (↑(Int.toNat (↑c_2 : Int)) : Int)) k) : Int)]) []),
                                                      some (Blk.mk true [] (1 : Nat) (Int.toNat (IntKind.wrap IntKind.i64 ((↑(Int.toNat (↑(Int.toNat (↑c_2 : Int)) : Int)) : Int) + (1 : Int)))) (fun j => [AV.int IntKind.i64 (Int.tmod (↑j : Int) (↑(Int.toNat (↑(Int.toNat (IntKind.wrap IntKind.i64 ((1 : Int) + (↑c : Int)))) : Int)) : Int))]) [])])))
                                              (T.ret
                                                (AV.ff,
                                                  [some (Blk.mk true [] (1 : Nat) (Int.toNat (↑(Int.toNat (↑c_2 : Int)) : Int)) (fun j => [AV.int IntKind.i64 (Int.tmod (↑j : Int) (↑(Int.toNat (↑(Int.toNat (IntKind.wrap IntKind.i64 ((1 : Int) + (↑c : Int)))) : Int)) : Int))]) []),
                                                    some (Blk.mk true [] (1 : Nat) (Int.toNat (↑(Int.toNat (IntKind.wrap IntKind.i64 ((1 : Int) + (↑c : Int)))) : Int)) (fun k => [AV.int IntKind.i64 (↑(cnt (Int.toNat (↑(Int.toNat (IntKind.wrap IntKind.i64 ((1 : Int) + (↑c : Int)))) : Int)) (Int.toNat (↑(Int.toNat (↑c_2 : Int)) : Int)) k) : Int)]) []),
                                                    some (Blk.mk true [] (1 : Nat) (Int.toNat (IntKind.wrap IntKind.i64 ((↑(Int.toNat (↑(Int.toNat (↑c_2 : Int)) : Int)) : Int) + (1 : Int)))) (fun j => [AV.int IntKind.i64 (Int.tmod (↑j : Int) (↑(Int.toNat (↑(Int.toNat (IntKind.wrap IntKind.i64 ((1 : Int) + (↑c : Int)))) : Int)) : Int))]) [])]))))
                                          (T.ite ((↑(Int.toNat (↑(Int.toNat (↑c_2 : Int)) : Int)) : Int) == IntKind.wrap IntKind.i64 ((↑(Int.toNat (↑(Int.toNat (IntKind.wrap IntKind.i64 ((1 : Int) + (↑c : Int)))) : Int)) : Int) * (↑(Int.toNat (↑(Int.toNat (IntKind.wrap IntKind.i64 ((1 : Int) + (↑c_1 : Int)))) : Int)) : Int)))
                                            (T.ite true
                                              (T.ite true
                                                (T.ret
                                                  (AV.bool true,
                                                    [some (Blk.mk true [] (1 : Nat) (Int.toNat (↑(Int.toNat (↑c_2 : Int)) : Int)) (fun j => [AV.int IntKind.i64 (Int.tmod (↑j : Int) (↑(Int.toNat (↑(Int.toNat (IntKind.wrap IntKind.i64 ((1 : Int) + (↑c : Int)))) : Int)) : Int))]) []),
                                                      some (Blk.mk true [] (1 : Nat) (Int.toNat (↑(Int.toNat (IntKind.wrap IntKind.i64 ((1 : Int) + (↑c : Int)))) : Int)) (fun k => [AV.int IntKind.i64 (↑(cnt (Int.toNat (↑(Int.toNat (IntKind.wrap IntKind.i64 ((1 : Int) + (↑c : Int)))) : Int)) (Int.toNat (↑(Int.toNat (↑c_2 : Int)) : Int)) k) : Int)]) [])]))
                                                (T.ret
                                                  (AV.ff,
                                                    [some (Blk.mk true [] (1 : Nat) (Int.toNat (↑(Int.toNat (↑c_2 : Int)) : Int)) (fun j => [AV.int IntKind.i64 (Int.tmod (↑j : Int) (↑(Int.toNat (↑(Int.toNat (IntKind.wrap IntKind.i64 ((1 : Int) + (↑c : Int)))) : Int)) : Int))]) []),
                                                      some (Blk.mk true [] (1 : Nat) (Int.toNat (↑(Int.toNat (IntKind.wrap IntKind.i64 ((1 : Int) + (↑c : Int)))) : Int)) (fun k => [AV.int IntKind.i64 (↑(cnt (Int.toNat (↑(Int.toNat (IntKind.wrap IntKind.i64 ((1 : Int) + (↑c : Int)))) : Int)) (Int.toNat (↑(Int.toNat (↑c_2 : Int)) : Int)) k) : Int)]) [])])))
                                              (T.ret
                                                (AV.ff,
                                                  [some (Blk.mk true [] (1 : Nat) (Int.toNat (↑(Int.toNat (↑c_2 : Int)) : Int)) (fun j => [AV.int IntKind.i64 (Int.tmod (↑j : Int) (↑(Int.toNat (↑(Int.toNat (IntKind.wrap IntKind.i64 ((1 : Int) + (↑c : Int)))) : Int)) : Int))]) []),
                                                    some (Blk.mk true [] (1 : Nat) (Int.toNat (↑(Int.toNat (IntKind.wrap IntKind.i64 ((1 : Int) + (↑c : Int)))) : Int)) (fun k => [AV.int IntKind.i64 (↑(cnt (Int.toNat (↑(Int.toNat (IntKind.wrap IntKind.i64 ((1 : Int) + (↑c : Int)))) : Int)) (Int.toNat (↑(Int.toNat (↑c_2 : Int)) : Int)) k) : Int)]) [])])))
                                            (T.ite false
                                              (T.ite ((0 : Int) == IntKind.wrap IntKind.i64 ((↑(Int.toNat (↑(Int.toNat (↑c_2 : Int)) : Int)) : Int) + (1 : Int)))
                                                (T.chk (decide ((0 : Int) ≤ (↑(Int.toNat (↑(Int.toNat (↑c_2 : Int)) : Int)) : Int)) && decide ((↑(Int.toNat (↑(Int.toNat (↑c_2 : Int)) : Int)) : Int) ≤ (↑(0 : Nat) : Int)))
                                                  (T.need True
                                                    (T.need (IntRow IntKind.i64 (Blk.mk true [] (1 : Nat) (Int.toNat (↑(Int.toNat (↑c_2 : Int)) : Int)) (fun j => [AV.int IntKind.i64 (Int.tmod (↑j : Int) (↑(Int.toNat (↑(Int.toNat (IntKind.wrap IntKind.i64 ((1 : Int) + (↑c : Int)))) : Int)) : Int))]) []))
                                                      (T.chk true
                                                        (T.chk (decide ((0 : Nat) + Int.toNat (↑(Int.toNat (↑c_2 : Int)) : Int) ≤ Int.toNat (↑(Int.toNat (↑c_2 : Int)) : Int)))
                                                          (T.chk true
                                                            (T.ite (decide ((0 : Nat) = Int.toNat (↑(Int.toNat (↑c_2 : Int)) : Int)) && eqN (fun x => (0 : Int)) (fun i => Int.tmod (↑((0 : Nat) + i) : Int) (↑(Int.toNat (↑(Int.toNat (IntKind.wrap IntKind.i64 ((1 : Int) + (↑c : Int)))) : Int)) : Int)) (0 : Nat) (0 : Nat))
                                                              (T.ret
                                                                (AV.bool true,
                                                                  [some (Blk.mk true [] (1 : Nat) (Int.toNat (↑(Int.toNat (↑c_2 : Int)) : Int)) (fun j => [AV.int IntKind.i64 (Int.tmod (↑j : Int) (↑(Int.toNat (↑(Int.toNat (IntKind.wrap IntKind.i64 ((1 : Int) + (↑c : Int)))) : Int)) : Int))]) []),
                                                                    some (Blk.mk true [] (1 : Nat) (Int.toNat (↑(Int.toNat (IntKind.wrap IntKind.i64 ((1 : Int) + (↑c : Int)))) : Int)) (fun k => [AV.int IntKind.i64 (↑(cnt (Int.toNat (↑(Int.toNat (IntKind.wrap IntKind.i64 ((1 : Int) + (↑c : Int)))) : Int)) (Int.toNat (↑(Int.toNat (↑c_2 : Int)) : Int)) k) : Int)]) [])]))
                                                              (T.ret
                                                                (AV.ff,
                                                                  [some (Blk.mk true [] (1 : Nat) (Int.toNat (↑(Int.toNat (↑c_2 : Int)) : Int)) (fun j => [AV.int IntKind.i64 (Int.tmod (↑j : Int) (↑(Int.toNat (↑(Int.toNat (IntKind.wrap IntKind.i64 ((1 : Int) + (↑c : Int)))) : Int)) : Int))]) []),
                                                                    some (Blk.mk true [] (1 : Nat) (Int.toNat (↑(Int.toNat (IntKind.wrap IntKind.i64 ((1 : Int) + (↑c : Int)))) : Int)) (fun k => [AV.int IntKind.i64 (↑(cnt (Int.toNat (↑(Int.toNat (IntKind.wrap IntKind.i64 ((1 : Int) + (↑c : Int)))) : Int)) (Int.toNat (↑(Int.toNat (↑c_2 : Int)) : Int)) k) : Int)]) [])])))))))))
                                                (T.ret
                                                  (AV.ff,
                                                    [some (Blk.mk true [] (1 : Nat) (Int.toNat (↑(Int.toNat (↑c_2 : Int)) : Int)) (fun j => [AV.int IntKind.i64 (Int.tmod (↑j : Int) (↑(Int.toNat (↑(Int.toNat (IntKind.wrap IntKind.i64 ((1 : Int) + (↑c : Int)))) : Int)) : Int))]) []),
                                                      some (Blk.mk true [] (1 : Nat) (Int.toNat (↑(Int.toNat (IntKind.wrap IntKind.i64 ((1 : Int) + (↑c : Int)))) : Int)) (fun k => [AV.int IntKind.i64 (↑(cnt (Int.toNat (↑(Int.toNat (IntKind.wrap IntKind.i64 ((1 : Int) + (↑c : Int)))) : Int)) (Int.toNat (↑(Int.toNat (↑c_2 : Int)) : Int)) k) : Int)]) [])])))
                                              (T.ret
                                                (AV.ff,
                                                  [some (Blk.mk true [] (1 : Nat) (Int.toNat (↑(Int.toNat (↑c_2 : Int)) : Int)) (fun j => [AV.int IntKind.i64 (Int.tmod (↑j : Int) (↑(Int.toNat (↑(Int.toNat (IntKind.wrap IntKind.i64 ((1 : Int) + (↑c : Int)))) : Int)) : Int))]) []),
                                                    some (Blk.mk true [] (1 : Nat) (Int.toNat (↑(Int.toNat (IntKind.wrap IntKind.i64 ((1 : Int) + (↑c : Int)))) : Int)) (fun k => [AV.int IntKind.i64 (↑(cnt (Int.toNat (↑(Int.toNat (IntKind.wrap IntKind.i64 ((1 : Int) + (↑c : Int)))) : Int)) (Int.toNat (↑(Int.toNat (↑c_2 : Int)) : Int)) k) : Int)]) [])])))))))))))))
                        (T.ite true (T.ret (AV.ff, []))
                          (T.ite ((0 : Int) != (↑c_2 : Int)) (T.ret (AV.ff, []))
                            (T.chk (makeOk (8 : Nat) (IntKind.wrap IntKind.i64 ((1 : Int) + (↑c : Int))) (IntKind.wrap IntKind.i64 ((1 : Int) + (↑c : Int))))
                              (T.need
                                (∃ ρ,
                                  SubSt (0 : Nat) ρ
                                    (St.mk
                                      [((0 : Nat), AV.int IntKind.i64 (↑c_2 : Int)), ((1 : Nat), AV.int IntKind.i64 (IntKind.wrap IntKind.i64 ((1 : Int) + (↑c : Int)))), ((2 : Nat), AV.int IntKind.i64 (IntKind.wrap IntKind.i64 ((1 : Int) + (↑c_1 : Int)))), ((7 : Nat), AV.nils), ((8 : Nat), AV.int IntKind.i64 (13 : Int)),
                                        ((9 : Nat), AV.sl (0 : Nat) (0 : Nat) (1 : Nat) (0 : Nat) (Int.toNat (IntKind.wrap IntKind.i64 ((1 : Int) + (↑c : Int)))) (Int.toNat (IntKind.wrap IntKind.i64 ((1 : Int) + (↑c : Int))))), ((10 : Nat), AV.int IntKind.i64 (0 : Int))]
                                      [some (Blk.mk true [] (1 : Nat) (Int.toNat (IntKind.wrap IntKind.i64 ((1 : Int) + (↑c : Int)))) (fun x => [AV.int IntKind.i64 (0 : Int)]) [])])
                                    (ev1 (Int.toNat (↑c_2 : Int), Int.toNat (IntKind.wrap IntKind.i64 ((1 : Int) + (↑c : Int))), Int.toNat (IntKind.wrap IntKind.i64 ((1 : Int) + (↑c_1 : Int))), (0 : Nat))))
                                (T.need (evInv1 (Int.toNat (↑c_2 : Int), Int.toNat (IntKind.wrap IntKind.i64 ((1 : Int) + (↑c : Int))), Int.toNat (IntKind.wrap IntKind.i64 ((1 : Int) + (↑c_1 : Int))), (0 : Nat)))
                                  (T.need
                                    (∃ ρ,
                                      SubSt (0 : Nat) ρ
                                        (St.mk
                                          [((0 : Nat), AV.int IntKind.i64 (↑(Int.toNat (↑c_2 : Int)) : Int)), ((1 : Nat), AV.int IntKind.i64 (↑(Int.toNat (IntKind.wrap IntKind.i64 ((1 : Int) + (↑c : Int)))) : Int)), ((2 : Nat), AV.int IntKind.i64 (↑(Int.toNat (IntKind.wrap IntKind.i64 ((1 : Int) + (↑c_1 : Int)))) : Int)),
                                            ((7 : Nat), AV.sl (0 : Nat) (0 : Nat) (1 : Nat) (0 : Nat) (Int.toNat (↑c_2 : Int)) (Int.toNat (↑c_2 : Int))), ((8 : Nat), AV.int IntKind.i64 (0 : Int)), ((9 : Nat), AV.sl (1 : Nat) (0 : Nat) (1 : Nat) (0 : Nat) (Int.toNat (IntKind.wrap IntKind.i64 ((1 : Int) + (↑c : Int)))) (Int.toNat (IntKind.wrap IntKind.i64 ((1 : Int) + (↑c : Int))))),
                                            ((11 : Nat), AV.int IntKind.i64 (0 : Int))]
                                          [some (Blk.mk true [] (1 : Nat) (Int.toNat (↑c_2 : Int)) (fun j => [AV.int IntKind.i64 (Int.tmod (↑j : Int) (↑(Int.toNat (IntKind.wrap IntKind.i64 ((1 : Int) + (↑c : Int)))) : Int))]) []),
                                            some (Blk.mk true [] (1 : Nat) (Int.toNat (IntKind.wrap IntKind.i64 ((1 : Int) + (↑c : Int)))) (fun k => [AV.int IntKind.i64 (↑(cnt (Int.toNat (IntKind.wrap IntKind.i64 ((1 : Int) + (↑c : Int)))) (Int.toNat (↑c_2 : Int)) k) : Int)]) [])])
                                        (ev2 (Int.toNat (↑(Int.toNat (↑c_2 : Int)) : Int), Int.toNat (↑(Int.toNat (IntKind.wrap IntKind.i64 ((1 : Int) + (↑c : Int)))) : Int), Int.toNat (↑(Int.toNat (IntKind.wrap IntKind.i64 ((1 : Int) + (↑c_1 : Int)))) : Int), (0 : Nat))))
                                    (T.need (evInv2 (Int.toNat (↑(Int.toNat (↑c_2 : Int)) : Int), Int.toNat (↑(Int.toNat (IntKind.wrap IntKind.i64 ((1 : Int) + (↑c : Int)))) : Int), Int.toNat (↑(Int.toNat (IntKind.wrap IntKind.i64 ((1 : Int) + (↑c_1 : Int)))) : Int), (0 : Nat)))
                                      (T.chk (okA (IntKind.wrap IntKind.i64 ((↑(Int.toNat (↑(Int.toNat (↑c_2 : Int)) : Int)) : Int) + (1 : Int))) (↑(Int.toNat (↑(Int.toNat (IntKind.wrap IntKind.i64 ((1 : Int) + (↑c : Int)))) : Int)) : Int) (↑(Int.toNat (↑(Int.toNat (IntKind.wrap IntKind.i64 ((1 : Int) + (↑c_1 : Int)))) : Int)) : Int))
                                        (T.ite (decide (IntKind.wrap IntKind.i64 ((↑(Int.toNat (↑(Int.toNat (↑c_2 : Int)) : Int)) : Int) + (1 : Int)) ≤ (↑(Int.toNat (↑(Int.toNat (IntKind.wrap IntKind.i64 ((1 : Int) + (↑c : Int)))) : Int)) : Int) * (↑(Int.toNat (↑(Int.toNat (IntKind.wrap IntKind.i64 ((1 : Int) + (↑c_1 : Int)))) : Int)) : Int)))
                                          (T.ite ((↑(Int.toNat (↑(Int.toNat (↑c_2 : Int)) : Int)) : Int) == IntKind.wrap IntKind.i64 ((↑(Int.toNat (↑(Int.toNat (IntKind.wrap IntKind.i64 ((1 : Int) + (↑c : Int)))) : Int)) : Int) * (↑(Int.toNat (↑(Int.toNat (IntKind.wrap IntKind.i64 ((1 : Int) + (↑c_1 : Int)))) : Int)) : Int)))
                                            (T.ite false
                                              (T.ite ((↑(Int.toNat (IntKind.wrap IntKind.i64 ((↑(Int.toNat (↑(Int.toNat (↑c_2 : Int)) : Int)) : Int) + (1 : Int)))) : Int) == (0 : Int))
                                                (T.ret
                                                  (AV.bool true,
                                                    [some (Blk.mk true [] (1 : Nat) (Int.toNat (↑(Int.toNat (↑c_2 : Int)) : Int)) (fun j => [AV.int IntKind.i64 (Int.tmod (↑j : Int) (↑(Int.toNat (↑(Int.toNat (IntKind.wrap IntKind.i64 ((1 : Int) + (↑c : Int)))) : Int)) : Int))]) []),
                                                      some (Blk.mk true [] (1 : Nat) (Int.toNat (↑(Int.toNat (IntKind.wrap IntKind.i64 ((1 : Int) + (↑c : Int)))) : Int)) (fun k => [AV.int IntKind.i64 (↑(cnt (Int.toNat (↑(Int.toNat (IntKind.wrap IntKind.i64 ((1 : Int) + (↑c : Int)))) : Int)) (Int.toNat (↑(Int.toNat (↑c_2 : Int)) : Int)) k) : Int)]) []),
                                                      some (Blk.mk true [] (1 : Nat) (Int.toNat (IntKind.wrap IntKind.i64 ((↑(Int.toNat (↑(Int.toNat (↑c_2 : Int)) : Int)) : Int) + (1 : Int)))) (fun j => [AV.int IntKind.i64 (Int.tmod (↑j : Int) (↑(Int.toNat (↑(Int.toNat (IntKind.wrap IntKind.i64 ((1 : Int) + (↑c : Int)))) : Int)) : Int))]) [])]))
                                                (T.ret
                                                  (AV.ff,
                                                    [some (Blk.mk true [] (1 : Nat) (Int.toNat (↑(Int.toNat (↑c_2 : Int)) : Int)) (fun j => [AV.int IntKind.i64 (Int.tmod (↑j : Int) (↑(Int.toNat (↑(Int.toNat (IntKind.wrap IntKind.i64 ((1 : Int) + (↑c : Int)))) : Int)) : Int))]) []),
                                                      some (Blk.mk true [] (1 : Nat) (Int.toNat (↑(Int.toNat (IntKind.wrap IntKind.i64 ((1 : Int) + (↑c : Int)))) : Int)) (fun k => [AV.int IntKind.i64 (↑(cnt (Int.toNat (↑(Int.toNat (IntKind.wrap IntKind.i64 ((1 : Int) + (↑c : Int)))) : Int)) (Int.toNat (↑(Int.toNat (↑c_2 : Int)) : Int)) k) : Int)]) []),
                                                      some (Blk.mk true [] (1 : Nat) (Int.toNat (IntKind.wrap IntKind.i64 ((↑(Int.toNat (↑(Int.toNat (↑c_2 : Int)) : Int)) : Int) + (1 : Int)))) (fun j => [AV.int IntKind.i64 (Int.tmod (↑j : Int) (↑(Int.toNat (↑(Int.toNat (IntKind.wrap IntKind.i64 ((1 : Int) + (↑c : Int)))) : Int)) : Int))]) [])])))
                                              (T.ret
                                                (AV.ff,
                                                  [some (Blk.mk true [] (1 : Nat) (Int.toNat (↑(Int.toNat (↑c_2 : Int)) : Int)) (fun j => [AV.int IntKind.i64 (Int.tmod (↑j : Int) (↑(Int.toNat (↑(Int.toNat (IntKind.wrap IntKind.i64 ((1 : Int) + (↑c : Int)))) : Int)) : Int))]) []),
                                                    some (Blk.mk true [] (1 : Nat) (Int.toNat (↑(Int.toNat (IntKind.wrap IntKind.i64 ((1 : Int) + (↑c : Int)))) : Int)) (fun k => [AV.int IntKind.i64 (↑(cnt (Int.toNat (↑(Int.toNat (IntKind.wrap IntKind.i64 ((1 : Int) + (↑c : Int)))) : Int)) (Int.toNat (↑(Int.toNat (↑c_2 : Int)) : Int)) k) : Int)]) []),
                                                    some (Blk.mk true [] (1 : Nat) (Int.toNat (IntKind.wrap IntKind.i64 ((↑(Int.toNat (↑(Int.toNat (↑c_2 : Int)) : Int)) : Int) + (1 : Int)))) (fun j => [AV.int IntKind.i64 (Int.tmod (↑j : Int) (↑(Int.toNat (↑(Int.toNat (IntKind.wrap IntKind.i64 ((1 : Int) + (↑c : Int)))) : Int)) : Int))]) [])])))
                                            (T.ite true
                                              (T.ite ((↑(Int.toNat (IntKind.wrap IntKind.i64 ((↑(Int.toNat (↑(Int.toNat (↑c_2 : Int)) : Int)) : Int) + (1 : Int)))) : Int) == IntKind.wrap IntKind.i64 ((↑(Int.toNat (↑(Int.toNat (↑c_2 : Int)) : Int)) : Int) + (1 : Int)))
                                                (T.chk (decide ((0 : Int) ≤ (↑(Int.toNat (↑(Int.toNat (↑c_2 : Int)) : Int)) : Int)) && decide ((↑(Int.toNat (↑(Int.toNat (↑c_2 : Int)) : Int)) : Int) ≤ (↑(Int.toNat (IntKind.wrap IntKind.i64 ((↑(Int.toNat (↑(Int.toNat (↑c_2 : Int)) : Int)) : Int) + (1 : Int)))) : Int)))
                                                  (T.need (IntRow IntKind.i64 (Blk.mk true [] (1 : Nat) (Int.toNat (IntKind.wrap IntKind.i64 ((↑(Int.toNat (↑(Int.toNat (↑c_2 : Int)) : Int)) : Int) + (1 : Int)))) (fun j => [AV.int IntKind.i64 (Int.tmod (↑j : Int) (↑(Int.toNat (↑(Int.toNat (IntKind.wrap IntKind.i64 ((1 : Int) + (↑c : Int)))) : Int)) : Int))]) []))
                                                    (T.need (IntRow IntKind.i64 (Blk.mk true [] (1 : Nat) (Int.toNat (↑(Int.toNat (↑c_2 : Int)) : Int)) (fun j => [AV.int IntKind.i64 (Int.tmod (↑j : Int) (↑(Int.toNat (↑(Int.toNat (IntKind.wrap IntKind.i64 ((1 : Int) + (↑c : Int)))) : Int)) : Int))]) []))
                                                      (T.chk (decide ((0 : Nat) + Int.toNat (↑(Int.toNat (↑(Int.toNat (↑c_2 : Int)) : Int)) : Int) ≤ Int.toNat (IntKind.wrap IntKind.i64 ((↑(Int.toNat (↑(Int.toNat (↑c_2 : Int)) : Int)) : Int) + (1 : Int)))))
                                                        (T.chk (decide ((0 : Nat) + Int.toNat (↑(Int.toNat (↑c_2 : Int)) : Int) ≤ Int.toNat (↑(Int.toNat (↑c_2 : Int)) : Int)))
                                                          (T.chk (decide (Int.toNat (↑(Int.toNat (↑(Int.toNat (↑c_2 : Int)) : Int)) : Int) ≤ (4611686018427387904 : Nat)))
                                                            (T.ite
                                                              (decide (Int.toNat (↑(Int.toNat (↑(Int.toNat (↑c_2 : Int)) : Int)) : Int) = Int.toNat (↑(Int.toNat (↑c_2 : Int)) : Int)) &&
                                                                eqN (fun i => Int.tmod (↑((0 : Nat) + i) : Int) (↑(Int.toNat (↑(Int.toNat (IntKind.wrap IntKind.i64 ((1 : Int) + (↑c : Int)))) : Int)) : Int)) (fun i => Int.tmod (↑((0 : Nat) + i) : Int) (↑(Int.toNat (↑(Int.toNat (IntKind.wrap IntKind.i64 ((1 : Int) + (↑c : Int)))) : Int)) : Int)) (0 : Nat)
                                                                  (Int.toNat (↑(Int.toNat (↑(Int.toNat (↑c_2 : Int)) : Int)) : Int)))
                                                              (T.ret
                                                                (AV.bool true,
                                                                  [some (Blk.mk true [] (1 : Nat) (Int.toNat (↑(Int.toNat (↑c_2 : Int)) : Int)) (fun j => [AV.int IntKind.i64 (Int.tmod (↑j : Int) (↑(Int.toNat (↑(Int.toNat (IntKind.wrap IntKind.i64 ((1 : Int) + (↑c : Int)))) : Int)) : Int))]) []),
                                                                    some (Blk.mk true [] (1 : Nat) (Int.toNat (↑(Int.toNat (IntKind.wrap IntKind.i64 ((1 : Int) + (↑c : Int)))) : Int)) (fun k => [AV.int IntKind.i64 (↑(cnt (Int.toNat (↑(Int.toNat (IntKind.wrap IntKind.i64 ((1 : Int) + (↑c : Int)))) : Int)) (Int.toNat (↑(Int.toNat (↑c_2 : Int)) : Int)) k) : Int)]) []),
                                                                    some (Blk.mk true [] (1 : Nat) (Int.toNat (IntKind.wrap IntKind.i64 ((↑(Int.toNat (↑(Int.toNat (↑c_2 : Int)) : Int)) : Int) + (1 : Int)))) (fun j => [AV.int IntKind.i64 (Int.tmod (↑j : Int) (↑(Int.toNat (↑(Int.toNat (IntKind.wrap IntKind.i64 ((1 : Int) + (↑c : Int)))) : Int)) : Int))]) [])]))
                                                              (T.ret
                                                                (AV.ff,
                                                                  [some (Blk.mk true [] (1 : Nat) (Int.toNat (↑(Int.toNat (↑c_2 : Int)) : Int)) (fun j => [AV.int IntKind.i64 (Int.tmod (↑j : Int) (↑(Int.toNat (↑(Int.toNat (IntKind.wrap IntKind.i64 ((1 : Int) + (↑c : Int)))) : Int)) : Int))]) []),
                                                                    some (Blk.mk true [] (1 : Nat) (Int.toNat (↑(Int.toNat (IntKind.wrap IntKind.i64 ((1 : Int) + (↑c : Int)))) : Int)) (fun k => [AV.int IntKind.i64 (↑(cnt (Int.toNat (↑(Int.toNat (IntKind.wrap IntKind.i64 ((1 : Int) + (↑c : Int)))) : Int)) (Int.toNat (↑(Int.toNat (↑c_2 : Int)) : Int)) k) : Int)]) []),
                                                                    some (Blk.mk true [] (1 : Nat) (Int.toNat (IntKind.wrap IntKind.i64 ((↑(Int.toNat (↑(Int.toNat (↑c_2 : Int)) : Int)) : Int) + (1 : Int)))) (fun j => [AV.int IntKind.i64 (Int.tmod (↑j : Int) (↑(Int.toNat (↑(Int.toNat (IntKind.wrap IntKind.i64 ((1 : Int) + (↑c : Int)))) : Int)) : Int))]) [])])))))))))
                                                (T.ret
                                                  (AV.ff,
                                                    [some (Blk.mk true [] (1 : Nat) (Int.toNat (↑(Int.toNat (↑c_2 : Int)) : Int)) (fun j => [AV.int IntKind.i64 (Int.tmod (↑j : Int) (↑(Int.toNat (↑(Int.toNat (IntKind.wrap IntKind.i64 ((1 : Int) + (↑c : Int)))) : Int)) : Int))]) []),
                                                      some (Blk.mk true [] (1 : Nat) (Int.toNat (↑(Int.toNat (IntKind.wrap IntKind.i64 ((1 : Int) + (↑c : Int)))) : Int)) (fun k => [AV.int IntKind.i64 (↑(cnt (Int.toNat (↑(Int.toNat (IntKind.wrap IntKind.i64 ((1 : Int) + (↑c : Int)))) : Int)) (Int.toNat (↑(Int.toNat (↑c_2 : Int)) : Int)) k) : Int)]) []),
                                                      some (Blk.mk true [] (1 : Nat) (Int.toNat (IntKind.wrap IntKind.i64 ((↑(Int.toNat (↑(Int.toNat (↑c_2 : Int)) : Int)) : Int) + (1 : Int)))) (fun j => [AV.int IntKind.i64 (Int.tmod (↑j : Int) (↑(Int.toNat (↑(Int.toNat (IntKind.wrap IntKind.i64 ((1 : Int) + (↑c : Int)))) : Int)) : Int))]) [])])))
                                              (T.ret
                                                (AV.ff,
                                                  [some (Blk.mk true [] (1 : Nat) (Int.toNat (↑(Int.toNat (↑c_2 : Int)) : Int)) (fun j => [AV.int IntKind.i64 (Int.tmod (↑j : Int) (↑(Int.toNat (↑(Int.toNat (IntKind.wrap IntKind.i64 ((1 : Int) + (↑c : Int)))) : Int)) : Int))]) []),
                                                    some (Blk.mk true [] (1 : Nat) (Int.toNat (↑(Int.toNat (IntKind.wrap IntKind.i64 ((1 : Int) + (↑c : Int)))) : Int)) (fun k => [AV.int IntKind.i64 (↑(cnt (Int.toNat (↑(Int.toNat (IntKind.wrap IntKind.i64 ((1 : Int) + (↑c : Int)))) : Int)) (Int.toNat (↑(Int.toNat (↑c_2 : Int)) : Int)) k) : Int)]) []),
                                                    some (Blk.mk true [] (1 : Nat) (Int.toNat (IntKind.wrap IntKind.i64 ((↑(Int.toNat (↑(Int.toNat (↑c_2 : Int)) : Int)) : Int) + (1 : Int)))) (fun j => [AV.int IntKind.i64 (Int.tmod (↑j : Int) (↑(Int.toNat (↑(Int.toNat (IntKind.wrap IntKind.i64 ((1 : Int) + (↑c : Int)))) : Int)) : Int))]) [])]))))
                                          (T.ite ((↑(Int.toNat (↑(Int.toNat (↑c_2 : Int)) : Int)) : Int) == IntKind.wrap IntKind.i64 ((↑(Int.toNat (↑(Int.toNat (IntKind.wrap IntKind.i64 ((1 : Int) + (↑c : Int)))) : Int)) : Int) * (↑(Int.toNat (↑(Int.toNat (IntKind.wrap IntKind.i64 ((1 : Int) + (↑c_1 : Int)))) : Int)) : Int)))
                                            (T.ite true
                                              (T.ite true
                                                (T.ret
                                                  (AV.bool true,
                                                    [some (Blk.mk true [] (1 : Nat) (Int.toNat (↑(Int.toNat (↑c_2 : Int)) : Int)) (fun j => [AV.int IntKind.i64 (Int.tmod (↑j : Int) (↑(Int.toNat (↑(Int.toNat (IntKind.wrap IntKind.i64 ((1 : Int) + (↑c : Int)))) : Int)) : Int))]) []),
                                                      some (Blk.mk true [] (1 : Nat) (Int.toNat (↑(Int.toNat (IntKind.wrap IntKind.i64 ((1 : Int) + (↑c : Int)))) : Int)) (fun k => [AV.int IntKind.i64 (↑(cnt (Int.toNat (↑(Int.toNat (IntKind.wrap IntKind.i64 ((1 : Int) + (↑c : Int)))) : Int)) (Int.toNat (↑(Int.toNat (↑c_2 : Int)) : Int)) k) : Int)]) [])]))
                                                (T.ret
                                                  (AV.ff,
                                                    [some (Blk.mk true [] (1 : Nat) (Int.toNat (↑(Int.toNat (↑c_2 : Int)) : Int)) (fun j => [AV.int IntKind.i64 (Int.tmod (↑j : Int) (↑(Int.toNat (↑(Int.toNat (IntKind.wrap IntKind.i64 ((1 : Int) + (↑c : Int)))) : Int)) : Int))]) []),
                                                      some (Blk.mk true [] (1 : Nat) (Int.toNat (↑(Int.toNat (IntKind.wrap IntKind.i64 ((1 : Int) + (↑c : Int)))) : Int)) (fun k => [AV.int IntKind.i64 (↑(cnt (Int.toNat (↑(Int.toNat (IntKind.wrap IntKind.i64 ((1 : Int) + (↑c : Int)))) : Int)) (Int.toNat (↑(Int.toNat (↑c_2 : Int)) : Int)) k) : Int)]) [])])))
                                              (T.ret
                                                (AV.ff,
                                                  [some (Blk.mk true [] (1 : Nat) (Int.toNat (↑(Int.toNat (↑c_2 : Int)) : Int)) (fun j => [AV.int IntKind.i64 (Int.tmod (↑j : Int) (↑(Int.toNat (↑(Int.toNat (IntKind.wrap IntKind.i64 ((1 : Int) + (↑c : Int)))) : Int)) : Int))]) []),
                                                    some (Blk.mk true [] (1 : Nat) (Int.toNat (↑(Int.toNat (IntKind.wrap IntKind.i64 ((1 : Int) + (↑c : Int)))) : Int)) (fun k => [AV.int IntKind.i64 (↑(cnt (Int.toNat (↑(Int.toNat (IntKind.wrap IntKind.i64 ((1 : Int) + (↑c : Int)))) : Int)) (Int.toNat (↑(Int.toNat (↑c_2 : Int)) : Int)) k) : Int)]) [])])))
                                            (T.ite false
                                              (T.ite ((0 : Int) == IntKind.wrap IntKind.i64 ((↑(Int.toNat (↑(Int.toNat (↑c_2 : Int)) : Int)) : Int) + (1 : Int)))
                                                (T.chk (decide ((0 : Int) ≤ (↑(Int.toNat (↑(Int.toNat (↑c_2 : Int)) : Int)) : Int)) && decide ((↑(Int.toNat (↑(Int.toNat (↑c_2 : Int)) : Int)) : Int) ≤ (↑(0 : Nat) : Int)))
                                                  (T.need True
                                                    (T.need (IntRow IntKind.i64 (Blk.mk true [] (1 : Nat) (Int.toNat (↑(Int.toNat (↑c_2 : Int)) : Int)) (fun j => [AV.int IntKind.i64 (Int.tmod (↑j : Int) (↑(Int.toNat (↑(Int.toNat (IntKind.wrap IntKind.i64 ((1 : Int) + (↑c : Int)))) : Int)) : Int))]) []))
                                                      (T.chk true
                                                        (T.chk (decide ((0 : Nat) + Int.toNat (↑(Int.toNat (↑c_2 : Int)) : Int) ≤ Int.toNat (↑(Int.toNat (↑c_2 : Int)) : Int)))
                                                          (T.chk true
                                                            (T.ite (decide ((0 : Nat) = Int.toNat (↑(Int.toNat (↑c_2 : Int)) : Int)) && eqN (fun x => (0 : Int)) (fun i => Int.tmod (↑((0 : Nat) + i) : Int) (↑(Int.toNat (↑(Int.toNat (IntKind.wrap IntKind.i64 ((1 : Int) + (↑c : Int)))) : Int)) : Int)) (0 : Nat) (0 : Nat))
                                                              (T.ret
                                                                (AV.bool true,
                                                                  [some (Blk.mk true [] (1 : Nat) (Int.toNat (↑(Int.toNat (↑c_2 : Int)) : Int)) (fun j => [AV.int IntKind.i64 (Int.tmod (↑j : Int) (↑(Int.toNat (↑(Int.toNat (IntKind.wrap IntKind.i64 ((1 : Int) + (↑c : Int)))) : Int)) : Int))]) []),
                                                                    some (Blk.mk true [] (1 : Nat) (Int.toNat (↑(Int.toNat (IntKind.wrap IntKind.i64 ((1 : Int) + (↑c : Int)))) : Int)) (fun k => [AV.int IntKind.i64 (↑(cnt (Int.toNat (↑(Int.toNat (IntKind.wrap IntKind.i64 ((1 : Int) + (↑c : Int)))) : Int)) (Int.toNat (↑(Int.toNat (↑c_2 : Int)) : Int)) k) : Int)]) [])]))
                                                              (T.ret
                                                                (AV.ff,
                                                                  [some (Blk.mk true [] (1 : Nat) (Int.toNat (↑(Int.toNat (↑c_2 : Int)) : Int)) (fun j => [AV.int IntKind.i64 (Int.tmod (↑j : Int) (↑(Int.toNat (↑(Int.toNat (IntKind.wrap IntKind.i64 ((1 : Int) + (↑c : Int)))) : Int)) : Int))]) []),
                                                                    some (Blk.mk true [] (1 : Nat) (Int.toNat (↑(Int.toNat (IntKind.wrap IntKind.i64 ((1 : Int) + (↑c : Int)))) : Int)) (fun k => [AV.int IntKind.i64 (↑(cnt (Int.toNat (↑(Int.toNat (IntKind.wrap IntKind.i64 ((1 : Int) + (↑c : Int)))) : Int)) (Int.toNat (↑(Int.toNat (↑c_2 : Int)) : Int)) k) : Int)]) [])])))))))))
                                                (T.ret
                                                  (AV.ff,
                                                    [some (Blk.mk true [] (1 : Nat) (Int.toNat (↑(Int.toNat (↑c_2 : Int)) : Int)) (fun j => [AV.int IntKind.i64 (Int.tmod (↑j : Int) (↑(Int.toNat (↑(Int.toNat (IntKind.wrap IntKind.i64 ((1 : Int) + (↑c : Int)))) : Int)) : Int))]) []),
                                                      some (Blk.mk true [] (1 : Nat) (Int.toNat (↑(Int.toNat (IntKind.wrap IntKind.i64 ((1 : Int) + (↑c : Int)))) : Int)) (fun k => [AV.int IntKind.i64 (↑(cnt (Int.toNat (↑(Int.toNat (IntKind.wrap IntKind.i64 ((1 : Int) + (↑c : Int)))) : Int)) (Int.toNat (↑(Int.toNat (↑c_2 : Int)) : Int)) k) : Int)]) [])])))
                                              (T.ret
                                                (AV.ff,
                                                  [some (Blk.mk true [] (1 : Nat) (Int.toNat (↑(Int.toNat (↑c_2 : Int)) : Int)) (fun j => [AV.int IntKind.i64 (Int.tmod (↑j : Int) (↑(Int.toNat (↑(Int.toNat (IntKind.wrap IntKind.i64 ((1 : Int) + (↑c : Int)))) : Int)) : Int))]) []),
                                                    some (Blk.mk true [] (1 : Nat) (Int.toNat (↑(Int.toNat (IntKind.wrap IntKind.i64 ((1 : Int) + (↑c : Int)))) : Int)) (fun k => [AV.int IntKind.i64 (↑(cnt (Int.toNat (↑(Int.toNat (IntKind.wrap IntKind.i64 ((1 : Int) + (↑c : Int)))) : Int)) (Int.toNat (↑(Int.toNat (↑c_2 : Int)) : Int)) k) : Int)]) [])])))))))))))))))))))) := by
  kernel_rfl

theorem cnt0 {w k : Nat} (h1 : 1 ≤ w) (hk : k < w) : cnt w 0 k = 0 := Nat.div_eq_of_lt (by omega)
theorem cnt_succ {w i k : Nat} (h1 : 1 ≤ w) (h8 : w ≤ 8) (hk : k < w) : cnt w (i + 1) k = cnt w i k + if i % w = k then 1 else 0 := by
  unfold cnt
  obtain rfl | rfl | rfl | rfl | rfl | rfl | rfl | rfl : w = 1 ∨ w = 2 ∨ w = 3 ∨ w = 4 ∨ w = 5 ∨ w = 6 ∨ w = 7 ∨ w = 8 := by omega
  all_goals split <;> omega
theorem cnt_le {w t s k : Nat} (h1 : 1 ≤ w) (hk : k < w) (ht : t ≤ w * s) : cnt w t k ≤ s :=
  Nat.le_of_lt_succ ((Nat.div_lt_iff_lt_mul (by omega)).2 (by rw [Nat.succ_mul, Nat.mul_comm s w]; omega))
theorem cnt_top {w t k : Nat} : cnt w t k ≤ cnt w t 0 := Nat.div_le_div_right (by omega)
theorem cnt_near {w t k : Nat} (h1 : 1 ≤ w) (hk : k < w) : cnt w t 0 ≤ cnt w t k + 1 := by
  unfold cnt
  rw [← Nat.add_div_right _ (by omega : 0 < w)]
  exact Nat.div_le_div_right (by omega)

theorem ev_sub {t w : Nat} {f g : Nat → List AV} (hg : ∀ k, k < w → LAlike 2 id (g k) (f k)) :
    Sub 0 id [some (Blk.rows true 1 t fun j => [.int .i64 ((j : Int).tmod (w : Int))]), some (Blk.rows true 1 w g)] [some (Blk.rows true 1 t fun j => [.int .i64 ((j : Int).tmod (w : Int))]), some (Blk.rows true 1 w f)] :=
  Sub.ofId ⟨⟨_, rfl, BlkOK.rows' (fun h => h) fun j _ => LAlike.ints rfl⟩, ⟨_, rfl, BlkOK.rows' (fun h => h) hg⟩, trivial⟩ (Nat.zero_le _)

theorem ev_env : EnvOK Try.prog evE.fns := by
  refine EnvOK.cons (eff_weak pl_ok fun args m Q h => lift_weak ?_ h) (EnvOK.cons same_ok (EnvOK.cons kn_ok (EnvOK.cons pickA_ok EnvOK.nil)))
  intro Q h
  unfold placeF at h
  split at h
  · obtain ⟨h1, h⟩ := h
    exact ⟨fun _ => h, fun h2 => by unfold okA at h1; rw [h1] at h2; (cases h2)⟩
  · exact h.elim

theorem ev1_loop : LoopOK Try.prog evE (loopAt (codeOf Try.f4) 0) := by
  refine loopSumm_ok ev_env (noLoops (by kernel_rfl)) ev1 evInv1 (fun x => x.1 - x.2.2.2) evPick evEnd1 ?_ (by kernel_rfl)
  rintro ⟨t, w, s, i⟩ ⟨h1, h2, h3, h4⟩ Q hq
  dsimp only at h1 h2 h3 h4
  refine round_keep [0, 1, 2, 7, 8, 9, 10] ?_
  rw [ev1_tree]
  refine T.hite (fun hi => ?_) (fun hi => ?_)
  · have hi : i < t := by simpa using hi
    have e0 : 0 + Int.toNat (i : Int) = i := by omega
    have e1 : Int.tmod (i : Int) (w : Int) = ((i % w : Nat) : Int) := by rw [Int.tmod_eq_emod_of_nonneg (by omega)]; omega
    have e2 : i % w < w := Nat.mod_lt _ (by omega)
    have e3 : 0 + Int.toNat ((i % w : Nat) : Int) = i % w := by omega
    simp only [e0, e1, e3]
    have e4 : cnt w i (i % w) ≤ 200 := Nat.le_trans (Nat.div_le_self _ _) (by omega)
    have e5 : IntKind.wrap IntKind.i64 ((cnt w i (i % w) : Int) + 1) = ((cnt w i (i % w) + 1 : Nat) : Int) := by rw [IntWalk.i64_in _ (by omega)]; omega
    have hw : IntKind.wrap IntKind.i64 ((i : Int) + 1) = ((i + 1 : Nat) : Int) := by rw [IntWalk.i64_in _ (by omega)]; omega
    refine T.hchk (by simp; omega) (T.hchk (by simp; omega) (T.hite (fun h => absurd h (by rw [decide_eq_true_eq]; omega)) (fun _ => T.hchk (by simp; omega) (T.hchk (by simp; omega) (T.hite (fun h => absurd h (by simp; omega)) (fun _ => ?_))))))
    refine T.hchk (by simp; omega) (T.hchk (by simp; omega) (T.hchk (by simp; omega) (T.hchk (by simp; omega) (T.hchk (by simp; omega) (T.hchk (by simp; omega) ?_)))))
    refine Round.go (t, w, s, i + 1) id ⟨h1, h2, h3, by dsimp only; omega⟩ (by dsimp only; omega) (SubSt.mk ?_ (ev_sub fun k hk => ?_)) hq
    · simp [ev1, SubFr, slotAt, ren, below, hw]
    · rw [cnt_succ h1 h2 hk, e5]
      by_cases hik : k = i % w
      · subst hik; simp [LAlike, ren, below, AV.scalar]
      · simp [LAlike, ren, below, AV.scalar, hik, Ne.symm hik]
  · have hi : ¬ i < t := by simpa using hi
    obtain rfl : i = t := by omega
    exact Round.out id (evOut i w s) (SubSt.mk (by simp [evOut, SubFr, slotAt, ren, below]) (ev_sub fun k hk => LAlike.ints rfl)) hq

theorem ev2_loop : LoopOK Try.prog evE (loopAt (codeOf Try.f4) 1) := by
  refine loopSumm_ok ev_env (noLoops (by kernel_rfl)) ev2 evInv2 (fun x => x.2.1 - x.2.2.2) evPick evEnd2 ?_ (by kernel_rfl)
  rintro ⟨t, w, s, i⟩ ⟨h1, h2, h3, h4, h5⟩ Q hq
  dsimp only at h1 h2 h3 h4 h5
  refine round_keep [0, 1, 2, 7, 8, 9, 11] ?_
  rw [ev2_tree]
  refine T.hite (fun hi => ?_) (fun hi => ?_)
  · have hi : i < w := by simpa using hi
    have e0 : 0 + Int.toNat (i : Int) = i := by omega
    simp only [e0]
    have c1 := cnt_le (k := i) h1 hi h5
    have c2 := @cnt_top w t i
    have c3 := cnt_near (t := t) h1 hi
    have c4 : cnt w t 0 ≤ 200 := Nat.le_trans (Nat.div_le_self _ _) (by omega)
    have hw : IntKind.wrap IntKind.i64 ((i : Int) + 1) = ((i + 1 : Nat) : Int) := by rw [IntWalk.i64_in _ (by omega)]; omega
    have hd : IntKind.wrap IntKind.i64 ((cnt w t 0 : Int) - (cnt w t i : Int)) = (cnt w t 0 : Int) - (cnt w t i : Int) := IntWalk.i64_in _ (by omega)
    rw [hd, hw]
    refine T.hchk (by simp; omega) (T.hchk (by simp; omega) (T.hite (fun h => absurd h (by simp; omega)) (fun _ => T.hchk (by simp; omega) (T.hchk (by simp; omega) (T.hchk (by simp; omega) (T.hchk (by simp; omega) (T.hite (fun h => absurd h (by simp; omega)) (fun _ => ?_))))))))
    refine T.hchk (by simp; omega) (T.hchk (by simp; omega) (T.hchk (by simp; omega) (T.hchk (by simp; omega) (T.hite (fun h => absurd h (by simp; omega)) (fun _ => ?_)))))
    refine Round.go (t, w, s, i + 1) id ⟨h1, h2, h3, by dsimp only; omega, h5⟩ (by dsimp only; omega) (SubSt.mk ?_ (ev_sub fun k hk => LAlike.ints rfl)) hq
    simp [ev2, SubFr, slotAt, ren, below]
  · exact Round.out id (evOut t w s) (SubSt.mk (by simp [evOut, SubFr, slotAt, ren, below]) (ev_sub fun k hk => LAlike.ints rfl)) hq

theorem ev_loops : ∀ c' ∈ loopsIn (codeOf Try.f4), LoopOK Try.prog evE c' := by
  have h : loopsIn (codeOf Try.f4) = [loopAt (codeOf Try.f4) 0, loopAt (codeOf Try.f4) 1] := by kernel_rfl
  intro c' hc
  rw [h] at hc
  simp only [List.mem_cons, List.not_mem_nil, or_false] at hc
  rcases hc with rfl | rfl
  · exact ev1_loop
  · exact ev2_loop

theorem ev_law (z x y : Int) (w : World) : Calls Try.prog 4 #[.int .i64 z, .int .i64 x, .int .i64 y] w fun e w' => e = .returned (.bool true) ∧ RowKit.Grown w w' := by
  refine law_walk (E := evE) (c := codeOf Try.f4) Try.func4 rfl ev_env ev_loops rfl rfl [.int .i64 z, .int .i64 x, .int .i64 y] rfl (by simp [concL, conc]) ?_ w
  rw [ev_fn]
  refine T.hchk rfl (T.hall fun c => T.hasm fun hc => T.hchk rfl (T.hall fun d => T.hasm fun hd => ?_))
  have hc : c < 8 := by rw [decide_eq_true_eq] at hc; omega
  have hd : d < 16 := by rw [decide_eq_true_eq] at hd; omega
  have hW : IntKind.wrap IntKind.i64 (1 + (c : Int)) = ((c + 1 : Nat) : Int) := by rw [IntWalk.i64_in _ (by omega)]; omega
  have hS : IntKind.wrap IntKind.i64 (1 + (d : Int)) = ((d + 1 : Nat) : Int) := by rw [IntWalk.i64_in _ (by omega)]; omega
  simp only [hW, hS]
  clear hW hS
  obtain ⟨W, hW⟩ : ∃ W, W = c + 1 := ⟨_, rfl⟩
  obtain ⟨S, hS⟩ : ∃ S, S = d + 1 := ⟨_, rfl⟩
  rw [← hW, ← hS]
  have hWS : W * S ≤ 8 * 16 := Nat.mul_le_mul (by omega) (by omega)
  have hws : IntKind.wrap IntKind.i64 ((W : Int) * (S : Int)) = ((W * S : Nat) : Int) := by
    have : ((W : Int) * (S : Int)) = ((W * S : Nat) : Int) := by simp
    rw [this, IntWalk.i64_in _ (by omega)]
  have hws1 : IntKind.wrap IntKind.i64 (((W * S : Nat) : Int) + 1) = ((W * S + 1 : Nat) : Int) := by rw [IntWalk.i64_in _ (by omega)]; omega
  simp only [hws, hws1, Int.toNat_natCast]
  refine T.hchk (by simp; omega) (T.hall fun U => T.hasm fun hU => ?_)
  have hU : U ≤ W * S := by rw [decide_eq_true_eq] at hU; omega
  have hu1 : IntKind.wrap IntKind.i64 ((U : Int) + 1) = ((U + 1 : Nat) : Int) := by rw [IntWalk.i64_in _ (by omega)]; omega
  have hok : okA (U : Int) (W : Int) (S : Int) = true := okA_iff.2 ⟨by omega, by omega, by omega, by omega, by omega⟩
  have hok1 : okA ((U + 1 : Nat) : Int) (W : Int) (S : Int) = true := okA_iff.2 ⟨by omega, by omega, by omega, by omega, by omega⟩
  have hle : (U : Int) ≤ (W : Int) * (S : Int) := by
    have : ((W : Int) * (S : Int)) = ((W * S : Nat) : Int) := by simp
    omega
  have hmk : makeOk 8 (W : Int) (W : Int) = true := by simp [makeOk]; omega
  simp only [hu1, hok, hok1, hmk, Int.toNat_natCast]
  have hWSi : ((W : Int) * (S : Int)) = ((W * S : Nat) : Int) := by simp
  have he : eqN (fun i => Int.tmod ((0 + i : Nat) : Int) (W : Int)) (fun i => Int.tmod ((0 + i : Nat) : Int) (W : Int)) 0 U = true := eqN_all fun _ _ => rfl
  rw [hWSi] at hle ⊢
  refine T.hchk rfl (T.hite (fun _ => ?_) (fun h => absurd hle (by rw [decide_eq_false_iff_not] at h; exact h)))
  refine T.hite (fun h => by cases h) (fun _ => T.hite (fun h => by simp at h) (fun _ => T.hchk rfl (T.hneed ⟨id, SubSt.mk ?_ (ev_sub fun k hk => ?_)⟩ (T.hneed ⟨by dsimp only; omega, by dsimp only; omega, by dsimp only; omega, Nat.zero_le _⟩
    (T.hneed ⟨id, SubSt.mk ?_ (ev_sub fun k hk => LAlike.ints rfl)⟩ (T.hneed ⟨by dsimp only; omega, by dsimp only; omega, by dsimp only; omega, Nat.zero_le _, hU⟩ (T.hchk rfl ?_)))))))
  · simp [ev1, SubFr, slotAt, ren, below]
  · rw [cnt0 (by omega) hk]; exact LAlike.ints rfl
  · simp [ev2, SubFr, slotAt, ren, below]
  · simp only [T.holds, IntRow.rows, he, AV.yes, decide_eq_true_eq, decide_eq_false_iff_not, beq_iff_eq, beq_eq_false_iff_ne, Bool.true_eq_false, Bool.false_eq_true, false_implies, forall_const, true_and, and_true, decide_true, Bool.and_true, implies_true, Bool.and_eq_true]
    refine ⟨fun h1 => ?_, fun h1 h2 => by omega⟩
    refine ⟨fun h2 => ?_, fun h2 => ?_⟩
    all_goals first | omega | (simp; omega) | simp

end Go.Proofs.Ytopcinllggbdhaa
