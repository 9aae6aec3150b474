/-
  Layer 13: Commits, the first loop: states, trees.
-/
import Derived.Test.YthfgojdpnbpjbaaHRw
namespace Go.Proofs.Ythfgojdpnbpjbaa
open Go.Ox
set_option maxRecDepth 100000
set_option maxHeartbeats 4000000
set_option linter.unusedVariables false
set_option linter.unusedSimpArgs false

noncomputable def cmL : List (Nat × Func) := [(22, Try.f22), (20, Try.f20), (19, Try.f19), (17, Try.f17), (15, Try.f15), (11, Try.f11), (8, Try.f8)]

theorem cmL_ok : InlOK Try.prog cmL := ⟨⟨fun args w => Try.call22 args w, Try.func22, rfl, by kernel_rfl⟩, ⟨fun args w => Try.call20 args w, Try.func20, rfl, by kernel_rfl⟩, ⟨fun args w => Try.call19 args w, Try.func19, rfl, by kernel_rfl⟩, ⟨fun args w => Try.call17 args w, Try.func17, rfl, by kernel_rfl⟩, ⟨fun args w => Try.call15 args w, Try.func15, rfl, by kernel_rfl⟩, ⟨fun args w => Try.call11 args w, Try.func11, rfl, by kernel_rfl⟩, ⟨fun args w => Try.call8 args w, Try.func8, rfl, by kernel_rfl⟩, trivial⟩

structure CM where
  z : Nat → Int
  y : Nat → Int
  len : Nat
  cap : Nat
  no : Int
  n : Nat
  i : Nat
  has : Bool
  cut : Bool
  k : Nat
  c : Nat
  cc : Nat

def tens (j : Nat) : Int := ((10 * (j + 1) : Nat) : Int)

def ends (j : Nat) : Int := ((5 * (j + 1) + 1 : Nat) : Int)

def cmFr (x : CM) : List (Nat × AV) := [(0, .sl 0 0 2 0 x.len x.cap), (1, .int .i64 x.no), (5, .ptr 1 0 0 0), (6, .int .i64 x.n), (7, .int .i64 x.i)]

def cmSt (x : CM) : St :=
  match x.has, x.cut with
  | false, _ => ⟨cmFr x, [some (lB x.z x.y x.cap), some (sB [.nils, .nils, .int .i64 0, .ff])]⟩
  | true, false => ⟨cmFr x, [some (lB x.z x.y x.cap), some (sB [.sl 2 0 2 0 x.i x.c, .nils, .int .i64 0, .ff]), some (rB x.z x.y x.i x.c)]⟩
  | true, true => ⟨cmFr x, [some (lB x.z x.y x.cap), some (sB [.sl 2 0 2 0 x.i x.c, .sl 3 0 2 0 x.k x.cc, .int .i64 ((10 * x.k : Nat) : Int), .tt]), some (rB x.z x.y x.i x.c), some (rB tens ends x.k x.cc)]⟩

def cmInv (x : CM) : Prop := x.n ≤ 50 ∧ x.n ≤ x.len ∧ x.len ≤ x.cap ∧ x.i ≤ x.n ∧ (x.has = false → x.i = 0) ∧ (x.has = true → 1 ≤ x.i ∧ x.i ≤ x.c) ∧ (x.cut = false → x.i ≤ 5) ∧ (x.cut = true → x.has = true ∧ 1 ≤ x.k ∧ x.k ≤ 3 ∧ x.k ≤ x.cc ∧ 5 * x.k + 1 ≤ x.i ∧ (x.i ≤ 5 * x.k + 5 ∨ x.k = 3))

def cmPick (st : St) : Option CM :=
  match AM.get st.m 0, slotAt st.fr 0, slotAt st.fr 1, slotAt st.fr 6 with
  | some bl, some (.sl _ _ _ _ len cap), some (.int _ no), some (.int _ n) => some ⟨fstAt bl, sndAt bl, len, cap, no, n.toNat, 0, false, false, 0, 0, 0⟩
  | _, _, _, _ => none

def cmFe (x : CM) : List (Nat × AV) := [(1, .int .i64 x.no), (5, .ptr 1 0 0 0)]

def cmX (x : CM) (k : Nat) (t : Int) : T (Ex × St) := .all fun c => .asm (decide (x.n ≤ c)) (.all fun cc => .asm (decide (k ≤ cc)) (.ret (.exit 0, ⟨cmFe x, [some (lB x.z x.y x.cap), some (sB [.sl 2 0 2 0 x.n c, .sl 3 0 2 0 k cc, .int .i64 t, .tt]), some (rB x.z x.y x.n c), some (rB tens ends k cc)]⟩)))

def cmEnd (x : CM) : T (Ex × St) :=
  .ite (decide (x.n = 0)) (.ret (.exit 0, ⟨cmFe x, [some (lB x.z x.y x.cap), some (sB [.nils, .nils, .int .i64 0, .ff])]⟩))
    (.ite (decide (x.n ≤ 5)) (.all fun c => .asm (decide (x.n ≤ c)) (.ret (.exit 0, ⟨cmFe x, [some (lB x.z x.y x.cap), some (sB [.sl 2 0 2 0 x.n c, .nils, .int .i64 0, .ff]), some (rB x.z x.y x.n c)]⟩)))
      (.ite (decide (x.n ≤ 10)) (cmX x 1 10) (.ite (decide (x.n ≤ 15)) (cmX x 2 20) (cmX x 3 30))))

noncomputable def cmE0 (n : Nat) : Env := { nt := Try.f6.ntmps, n0 := n, vec := true, fns := inl Try.prog knB cmL, loop := fun _ _ => .fail }

noncomputable def cmE : Env := { nt := Try.f6.ntmps, n0 := 1, vec := true, fns := inl Try.prog knB cmL, loop := fun k => if k = 6 then loopSumm 1 cmSt cmInv cmPick cmEnd else if k = 16 then unrollN Try.prog (cmE0 1) (loopAt (codeOf Try.f6) 1) 5 else fun _ => .fail }

theorem cm_tree0 (z y : Nat → Int) (len cap : Nat) (no : Int) (n i k c cc : Nat) (cut : Bool) : T.cut (keepT [0, 1, 5, 6, 7] (acode Try.prog cmE (loopAt (codeOf Try.f6) 0) (cmSt ⟨z, y, len, cap, no, n, i, false, cut, k, c, cc⟩))) [2, 13, 0, 2, 2, 0, 0, 2, 2, 0, 0, 2, 2, 0, 0] = 
  T.ite (decide ((↑i : Int) < (↑n : Int)))
    (T.chk (decide ((0 : Int) ≤ (↑i : Int)) && decide ((↑i : Int) < (↑len : Int)))
      (T.chk (decide ((0 : Nat) + Int.toNat (↑i : Int) < cap))
        (T.chk (decide ((0 : Nat) + Int.toNat (↑i : Int) < cap))
          (T.need (AV.nils = AV.nils)
            (T.need (AV.ptr (1 : Nat) (0 : Nat) (0 : Nat) (0 : Nat) = AV.ptr (1 : Nat) (0 : Nat) (0 : Nat) (0 : Nat))
              (T.chk true
                (@T.chk (Ex × St) true
                  (T.chk true
                    (T.all fun c =>
                      T.asm (decide ((1 : Nat) ≤ c))
                        (T.need (AV.agg [AV.int IntKind.i64 (z ((0 : Nat) + Int.toNat (↑i : Int))), AV.int IntKind.i64 (y ((0 : Nat) + Int.toNat (↑i : Int)))] = AV.agg [AV.int IntKind.i64 (z ((0 : Nat) + Int.toNat (↑i : Int))), AV.int IntKind.i64 (y ((0 : Nat) + Int.toNat (↑i : Int)))])
                          (T.need (AV.ptr (1 : Nat) (0 : Nat) (0 : Nat) (0 : Nat) = AV.ptr (1 : Nat) (0 : Nat) (0 : Nat) (0 : Nat))
                            (T.need (AV.ptr (1 : Nat) (0 : Nat) (0 : Nat) (0 : Nat) = AV.ptr (1 : Nat) (0 : Nat) (0 : Nat) (0 : Nat))
                              (T.ite ((↑i : Int) == (5 : Int))
                                (T.need (AV.int IntKind.i64 (1 : Int) = AV.int IntKind.i64 (1 : Int))
                                  (T.need (AV.sl (4 : Nat) (0 : Nat) (2 : Nat) (0 : Nat) (1 : Nat) c = AV.sl (4 : Nat) (0 : Nat) (2 : Nat) (0 : Nat) (1 : Nat) c)
                                    (T.need (AV.ptr (1 : Nat) (0 : Nat) (0 : Nat) (0 : Nat) = AV.ptr (1 : Nat) (0 : Nat) (0 : Nat) (0 : Nat))
                                      (T.need (AV.nils = AV.nils)
                                        (T.need (AV.ptr (1 : Nat) (0 : Nat) (0 : Nat) (0 : Nat) = AV.ptr (1 : Nat) (0 : Nat) (0 : Nat) (0 : Nat))
                                          (T.chk true
                                            (@T.chk (Ex × St) true
                                              (T.chk true
                                                (T.all fun c_1 =>
                                                  T.asm (decide ((1 : Nat) ≤ c_1))
                                                    (T.need (AV.int IntKind.i64 (1 : Int) = AV.int IntKind.i64 (1 : Int))
                                                      (T.need (AV.sl (4 : Nat) (0 : Nat) (2 : Nat) (0 : Nat) (1 : Nat) c = AV.sl (4 : Nat) (0 : Nat) (2 : Nat) (0 : Nat) (1 : Nat) c)
                                                        (T.need (AV.ptr (1 : Nat) (0 : Nat) (0 : Nat) (0 : Nat) = AV.ptr (1 : Nat) (0 : Nat) (0 : Nat) (0 : Nat))
                                                          (T.need (AV.ptr (1 : Nat) (0 : Nat) (0 : Nat) (0 : Nat) = AV.ptr (1 : Nat) (0 : Nat) (0 : Nat) (0 : Nat))
                                                            (T.need (AV.ptr (1 : Nat) (0 : Nat) (0 : Nat) (0 : Nat) = AV.ptr (1 : Nat) (0 : Nat) (0 : Nat) (0 : Nat))
                                                              (T.chk true
                                                                (T.chk true
                                                                  (T.chk (decide ((1 : Nat) ≤ c))
                                                                    (@T.chk (Ex × St) true
                                                                      (T.chk true
                                                                        (T.all fun c_2 =>
                                                                          T.asm (decide ((1 : Nat) ≤ c_2))
                                                                            (T.ret
                                                                              (Ex.norm,
                                                                                St.mk [((0 : Nat), AV.sl (0 : Nat) (0 : Nat) (2 : Nat) (0 : Nat) len cap), ((1 : Nat), AV.int IntKind.i64 no), ((5 : Nat), AV.ptr (1 : Nat) (0 : Nat) (0 : Nat) (0 : Nat)), ((6 : Nat), AV.int IntKind.i64 (↑n : Int)), ((7 : Nat), AV.int IntKind.i64 (IntKind.wrap IntKind.i64 ((↑i : Int) + (1 : Int))))]
                                                                                  [some (Blk.mk false [] (2 : Nat) cap (fun j => [AV.int IntKind.i64 (z j), AV.int IntKind.i64 (y j)]) []),
                                                                                    some (Blk.mk true [AV.sl (4 : Nat) (0 : Nat) (2 : Nat) (0 : Nat) (1 : Nat) c, AV.sl (6 : Nat) (0 : Nat) (2 : Nat) (0 : Nat) (1 : Nat) c_1, AV.int IntKind.i64 (IntKind.wrap IntKind.i64 ((↑i : Int) * (2 : Int))), AV.tt] (0 : Nat) (0 : Nat) (fun a => []) []),
                                                                                    some (Blk.mk true [AV.int IntKind.i64 (z ((0 : Nat) + Int.toNat (↑i : Int))), AV.int IntKind.i64 (y ((0 : Nat) + Int.toNat (↑i : Int)))] (0 : Nat) (0 : Nat) (fun x => []) []),
                                                                                    some (Blk.mk true [] (2 : Nat) (1 : Nat) (fun i_1 => [AV.int IntKind.i64 (List.getD [z ((0 : Nat) + Int.toNat (↑i : Int))] i_1 (0 : Int)), AV.int IntKind.i64 (List.getD [y ((0 : Nat) + Int.toNat (↑i : Int))] i_1 (0 : Int))]) []),
                                                                                    some
                                                                                      (Blk.mk true [] (2 : Nat) c
                                                                                        (fun r =>
                                                                                          if r < (0 : Nat) then []
                                                                                          else
                                                                                            if r < (1 : Nat) then List.map (fun c => Col.at c ((0 : Nat) + (r - (0 : Nat)))) ([] ++ [Col.ints IntKind.i64 [z ((0 : Nat) + Int.toNat (↑i : Int))]] ++ [Col.ints IntKind.i64 [y ((0 : Nat) + Int.toNat (↑i : Int))]])
                                                                                            else AV.cells (AV.agg (List.reverse [AV.int IntKind.i64 (0 : Int), AV.int IntKind.i64 (0 : Int)])))
                                                                                        []),
                                                                                    some (Blk.mk true [] (2 : Nat) (1 : Nat) (fun i_1 => [AV.int IntKind.i64 (List.getD [IntKind.wrap IntKind.i64 ((↑i : Int) * (2 : Int))] i_1 (0 : Int)), AV.int IntKind.i64 (List.getD [(↑(1 : Nat) : Int)] i_1 (0 : Int))]) []),
                                                                                    some
                                                                                      (Blk.mk true [] (2 : Nat) c_1
                                                                                        (fun r =>
                                                                                          if r < (0 : Nat) then []
                                                                                          else
                                                                                            if r < (1 : Nat) then List.map (fun c => Col.at c ((0 : Nat) + (r - (0 : Nat)))) ([] ++ [Col.ints IntKind.i64 [IntKind.wrap IntKind.i64 ((↑i : Int) * (2 : Int))]] ++ [Col.ints IntKind.i64 [(↑(1 : Nat) : Int)]]) else AV.cells (AV.agg (List.reverse [AV.int IntKind.i64 (0 : Int), AV.int IntKind.i64 (0 : Int)])))
                                                                                        []),
                                                                                    some
                                                                                      (Blk.mk true [] (2 : Nat) c_2
                                                                                        (fun r =>
                                                                                          if r < (0 : Nat) then []
                                                                                          else
                                                                                            if r < (1 : Nat) then
                                                                                              if (0 : Nat) + (r - (0 : Nat)) < (0 : Nat) then []
                                                                                              else
                                                                                                if (0 : Nat) + (r - (0 : Nat)) < (1 : Nat) then List.map (fun c => Col.at c ((0 : Nat) + ((0 : Nat) + (r - (0 : Nat)) - (0 : Nat)))) ([] ++ [Col.ints IntKind.i64 [z ((0 : Nat) + Int.toNat (↑i : Int))]] ++ [Col.ints IntKind.i64 [y ((0 : Nat) + Int.toNat (↑i : Int))]])
                                                                                                else AV.cells (AV.agg (List.reverse [AV.int IntKind.i64 (0 : Int), AV.int IntKind.i64 (0 : Int)]))
                                                                                            else AV.cells (AV.agg (List.reverse [AV.int IntKind.i64 (0 : Int), AV.int IntKind.i64 (0 : Int)])))
                                                                                        [])]))))))))))))))))))))))
                                (T.ite ((↑i : Int) == (10 : Int))
                                  (T.need (AV.int IntKind.i64 (1 : Int) = AV.int IntKind.i64 (1 : Int))
                                    (T.need (AV.sl (4 : Nat) (0 : Nat) (2 : Nat) (0 : Nat) (1 : Nat) c = AV.sl (4 : Nat) (0 : Nat) (2 : Nat) (0 : Nat) (1 : Nat) c)
                                      (T.need (AV.ptr (1 : Nat) (0 : Nat) (0 : Nat) (0 : Nat) = AV.ptr (1 : Nat) (0 : Nat) (0 : Nat) (0 : Nat))
                                        (T.need (AV.nils = AV.nils)
                                          (T.need (AV.ptr (1 : Nat) (0 : Nat) (0 : Nat) (0 : Nat) = AV.ptr (1 : Nat) (0 : Nat) (0 : Nat) (0 : Nat))
                                            (T.chk true
                                              (@T.chk (Ex × St) true
                                                (T.chk true
                                                  (T.all fun c_1 =>
                                                    T.asm (decide ((1 : Nat) ≤ c_1))
                                                      (T.need (AV.int IntKind.i64 (1 : Int) = AV.int IntKind.i64 (1 : Int))
                                                        (T.need (AV.sl (4 : Nat) (0 : Nat) (2 : Nat) (0 : Nat) (1 : Nat) c = AV.sl (4 : Nat) (0 : Nat) (2 : Nat) (0 : Nat) (1 : Nat) c)
                                                          (T.need (AV.ptr (1 : Nat) (0 : Nat) (0 : Nat) (0 : Nat) = AV.ptr (1 : Nat) (0 : Nat) (0 : Nat) (0 : Nat))
                                                            (T.need (AV.ptr (1 : Nat) (0 : Nat) (0 : Nat) (0 : Nat) = AV.ptr (1 : Nat) (0 : Nat) (0 : Nat) (0 : Nat))
                                                              (T.need (AV.ptr (1 : Nat) (0 : Nat) (0 : Nat) (0 : Nat) = AV.ptr (1 : Nat) (0 : Nat) (0 : Nat) (0 : Nat))
                                                                (T.chk true
                                                                  (T.chk true
                                                                    (T.chk (decide ((1 : Nat) ≤ c))
                                                                      (@T.chk (Ex × St) true
                                                                        (T.chk true
                                                                          (T.all fun c_2 =>
                                                                            T.asm (decide ((1 : Nat) ≤ c_2))
                                                                              (T.ret
                                                                                (Ex.norm,
                                                                                  St.mk [((0 : Nat), AV.sl (0 : Nat) (0 : Nat) (2 : Nat) (0 : Nat) len cap), ((1 : Nat), AV.int IntKind.i64 no), ((5 : Nat), AV.ptr (1 : Nat) (0 : Nat) (0 : Nat) (0 : Nat)), ((6 : Nat), AV.int IntKind.i64 (↑n : Int)), ((7 : Nat), AV.int IntKind.i64 (IntKind.wrap IntKind.i64 ((↑i : Int) + (1 : Int))))]
                                                                                    [some (Blk.mk false [] (2 : Nat) cap (fun j => [AV.int IntKind.i64 (z j), AV.int IntKind.i64 (y j)]) []),
                                                                                      some (Blk.mk true [AV.sl (4 : Nat) (0 : Nat) (2 : Nat) (0 : Nat) (1 : Nat) c, AV.sl (6 : Nat) (0 : Nat) (2 : Nat) (0 : Nat) (1 : Nat) c_1, AV.int IntKind.i64 (IntKind.wrap IntKind.i64 ((↑i : Int) * (2 : Int))), AV.tt] (0 : Nat) (0 : Nat) (fun a => []) []),
                                                                                      some (Blk.mk true [AV.int IntKind.i64 (z ((0 : Nat) + Int.toNat (↑i : Int))), AV.int IntKind.i64 (y ((0 : Nat) + Int.toNat (↑i : Int)))] (0 : Nat) (0 : Nat) (fun x => []) []),
                                                                                      some (Blk.mk true [] (2 : Nat) (1 : Nat) (fun i_1 => [AV.int IntKind.i64 (List.getD [z ((0 : Nat) + Int.toNat (↑i : Int))] i_1 (0 : Int)), AV.int IntKind.i64 (List.getD [y ((0 : Nat) + Int.toNat (↑i : Int))] i_1 (0 : Int))]) []),
                                                                                      some
                                                                                        (Blk.mk true [] (2 : Nat) c
                                                                                          (fun r =>
                                                                                            if r < (0 : Nat) then []
                                                                                            else
                                                                                              if r < (1 : Nat) then List.map (fun c => Col.at c ((0 : Nat) + (r - (0 : Nat)))) ([] ++ [Col.ints IntKind.i64 [z ((0 : Nat) + Int.toNat (↑i : Int))]] ++ [Col.ints IntKind.i64 [y ((0 : Nat) + Int.toNat (↑i : Int))]])
                                                                                              else AV.cells (AV.agg (List.reverse [AV.int IntKind.i64 (0 : Int), AV.int IntKind.i64 (0 : Int)])))
                                                                                          []),
                                                                                      some (Blk.mk true [] (2 : Nat) (1 : Nat) (fun i_1 => [AV.int IntKind.i64 (List.getD [IntKind.wrap IntKind.i64 ((↑i : Int) * (2 : Int))] i_1 (0 : Int)), AV.int IntKind.i64 (List.getD [(↑(1 : Nat) : Int)] i_1 (0 : Int))]) []),
                                                                                      some
                                                                                        (Blk.mk true [] (2 : Nat) c_1
                                                                                          (fun r =>
                                                                                            if r < (0 : Nat) then []
                                                                                            else
                                                                                              if r < (1 : Nat) then List.map (fun c => Col.at c ((0 : Nat) + (r - (0 : Nat)))) ([] ++ [Col.ints IntKind.i64 [IntKind.wrap IntKind.i64 ((↑i : Int) * (2 : Int))]] ++ [Col.ints IntKind.i64 [(↑(1 : Nat) : Int)]])
                                                                                              else AV.cells (AV.agg (List.reverse [AV.int IntKind.i64 (0 : Int), AV.int IntKind.i64 (0 : Int)])))
                                                                                          []),
                                                                                      some
                                                                                        (Blk.mk true [] (2 : Nat) c_2
                                                                                          (fun r =>
                                                                                            if r < (0 : Nat) then []
                                                                                            else
                                                                                              if r < (1 : Nat) then
                                                                                                if (0 : Nat) + (r - (0 : Nat)) < (0 : Nat) then []
                                                                                                else
                                                                                                  if (0 : Nat) + (r - (0 : Nat)) < (1 : Nat) then List.map (fun c => Col.at c ((0 : Nat) + ((0 : Nat) + (r - (0 : Nat)) - (0 : Nat)))) ([] ++ [Col.ints IntKind.i64 [z ((0 : Nat) + Int.toNat (↑i : Int))]] ++ [Col.ints IntKind.i64 [y ((0 : Nat) + Int.toNat (↑i : Int))]])
                                                                                                  else AV.cells (AV.agg (List.reverse [AV.int IntKind.i64 (0 : Int), AV.int IntKind.i64 (0 : Int)]))
                                                                                              else AV.cells (AV.agg (List.reverse [AV.int IntKind.i64 (0 : Int), AV.int IntKind.i64 (0 : Int)])))
                                                                                          [])]))))))))))))))))))))))
                                  (T.ite ((↑i : Int) == (15 : Int))
                                    (T.need (AV.int IntKind.i64 (1 : Int) = AV.int IntKind.i64 (1 : Int))
                                      (T.need (AV.sl (4 : Nat) (0 : Nat) (2 : Nat) (0 : Nat) (1 : Nat) c = AV.sl (4 : Nat) (0 : Nat) (2 : Nat) (0 : Nat) (1 : Nat) c)
                                        (T.need (AV.ptr (1 : Nat) (0 : Nat) (0 : Nat) (0 : Nat) = AV.ptr (1 : Nat) (0 : Nat) (0 : Nat) (0 : Nat))
                                          (T.need (AV.nils = AV.nils)
                                            (T.need (AV.ptr (1 : Nat) (0 : Nat) (0 : Nat) (0 : Nat) = AV.ptr (1 : Nat) (0 : Nat) (0 : Nat) (0 : Nat))
                                              (T.chk true
                                                (@T.chk (Ex × St) true
                                                  (T.chk true
                                                    (T.all fun c_1 =>
                                                      T.asm (decide ((1 : Nat) ≤ c_1))
                                                        (T.need (AV.int IntKind.i64 (1 : Int) = AV.int IntKind.i64 (1 : Int))
                                                          (T.need (AV.sl (4 : Nat) (0 : Nat) (2 : Nat) (0 : Nat) (1 : Nat) c = AV.sl (4 : Nat) (0 : Nat) (2 : Nat) (0 : Nat) (1 : Nat) c)
                                                            (T.need (AV.ptr (1 : Nat) (0 : Nat) (0 : Nat) (0 : Nat) = AV.ptr (1 : Nat) (0 : Nat) (0 : Nat) (0 : Nat))
                                                              (T.need (AV.ptr (1 : Nat) (0 : Nat) (0 : Nat) (0 : Nat) = AV.ptr (1 : Nat) (0 : Nat) (0 : Nat) (0 : Nat))
                                                                (T.need (AV.ptr (1 : Nat) (0 : Nat) (0 : Nat) (0 : Nat) = AV.ptr (1 : Nat) (0 : Nat) (0 : Nat) (0 : Nat))
                                                                  (T.chk true
                                                                    (T.chk true
                                                                      (T.chk (decide ((1 : Nat) ≤ c))
                                                                        (@T.chk (Ex × St) true
                                                                          (T.chk true
                                                                            (T.all fun c_2 =>
                                                                              T.asm (decide ((1 : Nat) ≤ c_2))
                                                                                (T.ret
                                                                                  (Ex.norm,
                                                                                    St.mk [((0 : Nat), AV.sl (0 : Nat) (0 : Nat) (2 : Nat) (0 : Nat) len cap), ((1 : Nat), AV.int IntKind.i64 no), ((5 : Nat), AV.ptr (1 : Nat) (0 : Nat) (0 : Nat) (0 : Nat)), ((6 : Nat), AV.int IntKind.i64 (↑n : Int)), ((7 : Nat), AV.int IntKind.i64 (IntKind.wrap IntKind.i64 ((↑i : Int) + (1 : Int))))]
                                                                                      [some (Blk.mk false [] (2 : Nat) cap (fun j => [AV.int IntKind.i64 (z j), AV.int IntKind.i64 (y j)]) []),
                                                                                        some (Blk.mk true [AV.sl (4 : Nat) (0 : Nat) (2 : Nat) (0 : Nat) (1 : Nat) c, AV.sl (6 : Nat) (0 : Nat) (2 : Nat) (0 : Nat) (1 : Nat) c_1, AV.int IntKind.i64 (IntKind.wrap IntKind.i64 ((↑i : Int) * (2 : Int))), AV.tt] (0 : Nat) (0 : Nat) (fun a => []) []),
                                                                                        some (Blk.mk true [AV.int IntKind.i64 (z ((0 : Nat) + Int.toNat (↑i : Int))), AV.int IntKind.i64 (y ((0 : Nat) + Int.toNat (↑i : Int)))] (0 : Nat) (0 : Nat) (fun x => []) []),
                                                                                        some (Blk.mk true [] (2 : Nat) (1 : Nat) (fun i_1 => [AV.int IntKind.i64 (List.getD [z ((0 : Nat) + Int.toNat (↑i : Int))] i_1 (0 : Int)), AV.int IntKind.i64 (List.getD [y ((0 : Nat) + Int.toNat (↑i : Int))] i_1 (0 : Int))]) []),
                                                                                        some
                                                                                          (Blk.mk true [] (2 : Nat) c
                                                                                            (fun r =>
                                                                                              if r < (0 : Nat) then []
                                                                                              else
                                                                                                if r < (1 : Nat) then List.map (fun c => Col.at c ((0 : Nat) + (r - (0 : Nat)))) ([] ++ [Col.ints IntKind.i64 [z ((0 : Nat) + Int.toNat (↑i : Int))]] ++ [Col.ints IntKind.i64 [y ((0 : Nat) + Int.toNat (↑i : Int))]])
                                                                                                else AV.cells (AV.agg (List.reverse [AV.int IntKind.i64 (0 : Int), AV.int IntKind.i64 (0 : Int)])))
                                                                                            []),
                                                                                        some (Blk.mk true [] (2 : Nat) (1 : Nat) (fun i_1 => [AV.int IntKind.i64 (List.getD [IntKind.wrap IntKind.i64 ((↑i : Int) * (2 : Int))] i_1 (0 : Int)), AV.int IntKind.i64 (List.getD [(↑(1 : Nat) : Int)] i_1 (0 : Int))]) []),
                                                                                        some
                                                                                          (Blk.mk true [] (2 : Nat) c_1
                                                                                            (fun r =>
                                                                                              if r < (0 : Nat) then []
                                                                                              else
                                                                                                if r < (1 : Nat) then List.map (fun c => Col.at c ((0 : Nat) + (r - (0 : Nat)))) ([] ++ [Col.ints IntKind.i64 [IntKind.wrap IntKind.i64 ((↑i : Int) * (2 : Int))]] ++ [Col.ints IntKind.i64 [(↑(1 : Nat) : Int)]])
                                                                                                else AV.cells (AV.agg (List.reverse [AV.int IntKind.i64 (0 : Int), AV.int IntKind.i64 (0 : Int)])))
                                                                                            []),
                                                                                        some
                                                                                          (Blk.mk true [] (2 : Nat) c_2
                                                                                            (fun r =>
                                                                                              if r < (0 : Nat) then []
                                                                                              else
                                                                                                if r < (1 : Nat) then
                                                                                                  if (0 : Nat) + (r - (0 : Nat)) < (0 : Nat) then []
                                                                                                  else
                                                                                                    if (0 : Nat) + (r - (0 : Nat)) < (1 : Nat) then List.map (fun c => Col.at c ((0 : Nat) + ((0 : Nat) + (r - (0 : Nat)) - (0 : Nat)))) ([] ++ [Col.ints IntKind.i64 [z ((0 : Nat) + Int.toNat (↑i : Int))]] ++ [Col.ints IntKind.i64 [y ((0 : Nat) + Int.toNat (↑i : Int))]])
                                                                                                    else AV.cells (AV.agg (List.reverse [AV.int IntKind.i64 (0 : Int), AV.int IntKind.i64 (0 : Int)]))
                                                                                                else AV.cells (AV.agg (List.reverse [AV.int IntKind.i64 (0 : Int), AV.int IntKind.i64 (0 : Int)])))
                                                                                            [])]))))))))))))))))))))))
                                    (T.ret
                                      (Ex.norm,
                                        St.mk [((0 : Nat), AV.sl (0 : Nat) (0 : Nat) (2 : Nat) (0 : Nat) len cap), ((1 : Nat), AV.int IntKind.i64 no), ((5 : Nat), AV.ptr (1 : Nat) (0 : Nat) (0 : Nat) (0 : Nat)), ((6 : Nat), AV.int IntKind.i64 (↑n : Int)), ((7 : Nat), AV.int IntKind.i64 (IntKind.wrap IntKind.i64 ((↑i : Int) + (1 : Int))))]
                                          [some (Blk.mk false [] (2 : Nat) cap (fun j => [AV.int IntKind.i64 (z j), AV.int IntKind.i64 (y j)]) []), some (Blk.mk true [AV.sl (4 : Nat) (0 : Nat) (2 : Nat) (0 : Nat) (1 : Nat) c, AV.nils, AV.int IntKind.i64 (0 : Int), AV.ff] (0 : Nat) (0 : Nat) (fun a => []) []),
                                            some (Blk.mk true [AV.int IntKind.i64 (z ((0 : Nat) + Int.toNat (↑i : Int))), AV.int IntKind.i64 (y ((0 : Nat) + Int.toNat (↑i : Int)))] (0 : Nat) (0 : Nat) (fun x => []) []),
                                            some (Blk.mk true [] (2 : Nat) (1 : Nat) (fun i_1 => [AV.int IntKind.i64 (List.getD [z ((0 : Nat) + Int.toNat (↑i : Int))] i_1 (0 : Int)), AV.int IntKind.i64 (List.getD [y ((0 : Nat) + Int.toNat (↑i : Int))] i_1 (0 : Int))]) []),
                                            some
                                              (Blk.mk true [] (2 : Nat) c
                                                (fun r =>
                                                  if r < (0 : Nat) then [] else if r < (1 : Nat) then List.map (fun c => Col.at c ((0 : Nat) + (r - (0 : Nat)))) ([] ++ [Col.ints IntKind.i64 [z ((0 : Nat) + Int.toNat (↑i : Int))]] ++ [Col.ints IntKind.i64 [y ((0 : Nat) + Int.toNat (↑i : Int))]]) else AV.cells (AV.agg (List.reverse [AV.int IntKind.i64 (0 : Int), AV.int IntKind.i64 (0 : Int)])))
                                                [])])))))))))))))))))
    (T.ret
      (Ex.exit (0 : Nat),
        St.mk [((0 : Nat), AV.sl (0 : Nat) (0 : Nat) (2 : Nat) (0 : Nat) len cap), ((1 : Nat), AV.int IntKind.i64 no), ((5 : Nat), AV.ptr (1 : Nat) (0 : Nat) (0 : Nat) (0 : Nat)), ((6 : Nat), AV.int IntKind.i64 (↑n : Int)), ((7 : Nat), AV.int IntKind.i64 (↑i : Int))]
          [some (Blk.mk false [] (2 : Nat) cap (fun j => [AV.int IntKind.i64 (z j), AV.int IntKind.i64 (y j)]) []), some (Blk.mk true [AV.nils, AV.nils, AV.int IntKind.i64 (0 : Int), AV.ff] (0 : Nat) (0 : Nat) (fun x => []) [])])) := by
  kernel_rfl

theorem cm_tree1 (z y : Nat → Int) (len cap : Nat) (no : Int) (n i k c cc : Nat) : T.cut (keepT [0, 1, 5, 6, 7] (acode Try.prog cmE (loopAt (codeOf Try.f6) 0) (cmSt ⟨z, y, len, cap, no, n, i, true, false, k, c, cc⟩))) [2, 12, 2, 2, 0, 0, 2, 2, 0, 0, 2, 2, 0, 0] = 
  T.ite (decide ((↑i : Int) < (↑n : Int)))
    (T.chk (decide ((0 : Int) ≤ (↑i : Int)) && decide ((↑i : Int) < (↑len : Int)))
      (T.chk (decide ((0 : Nat) + Int.toNat (↑i : Int) < cap))
        (T.chk (decide ((0 : Nat) + Int.toNat (↑i : Int) < cap))
          (T.need (AV.sl (2 : Nat) (0 : Nat) (2 : Nat) (0 : Nat) i c = AV.sl (2 : Nat) (0 : Nat) (2 : Nat) (0 : Nat) i c)
            (T.need (AV.ptr (1 : Nat) (0 : Nat) (0 : Nat) (0 : Nat) = AV.ptr (1 : Nat) (0 : Nat) (0 : Nat) (0 : Nat))
              (T.chk true
                (T.chk (decide ((0 : Nat) + c ≤ c))
                  (T.chk (decide (i ≤ c))
                    (T.chk (decide (i + (1 : Nat) ≤ (4294967296 : Nat)))
                      (T.all fun c =>
                        T.all fun c_1 =>
                          T.asm (decide (i + (1 : Nat) ≤ c))
                            (T.need (AV.agg [AV.int IntKind.i64 (z ((0 : Nat) + Int.toNat (↑i : Int))), AV.int IntKind.i64 (y ((0 : Nat) + Int.toNat (↑i : Int)))] = AV.agg [AV.int IntKind.i64 (z ((0 : Nat) + Int.toNat (↑i : Int))), AV.int IntKind.i64 (y ((0 : Nat) + Int.toNat (↑i : Int)))])
                              (T.need (AV.ptr (1 : Nat) (0 : Nat) (0 : Nat) (0 : Nat) = AV.ptr (1 : Nat) (0 : Nat) (0 : Nat) (0 : Nat))
                                (T.need (AV.ptr (1 : Nat) (0 : Nat) (0 : Nat) (0 : Nat) = AV.ptr (1 : Nat) (0 : Nat) (0 : Nat) (0 : Nat))
                                  (T.ite ((↑i : Int) == (5 : Int))
                                    (T.need (AV.int IntKind.i64 (↑(i + (1 : Nat)) : Int) = AV.int IntKind.i64 (↑(i + (1 : Nat)) : Int))
                                      (T.need (AV.sl (5 : Nat) (0 : Nat) (2 : Nat) (0 : Nat) (i + (1 : Nat)) c = AV.sl (5 : Nat) (0 : Nat) (2 : Nat) (0 : Nat) (i + (1 : Nat)) c)
                                        (T.need (AV.ptr (1 : Nat) (0 : Nat) (0 : Nat) (0 : Nat) = AV.ptr (1 : Nat) (0 : Nat) (0 : Nat) (0 : Nat))
                                          (T.need (AV.nils = AV.nils)
                                            (T.need (AV.ptr (1 : Nat) (0 : Nat) (0 : Nat) (0 : Nat) = AV.ptr (1 : Nat) (0 : Nat) (0 : Nat) (0 : Nat))
                                              (T.chk true
                                                (@T.chk (Ex × St) true
                                                  (T.chk true
                                                    (T.all fun c_2 =>
                                                      T.asm (decide ((1 : Nat) ≤ c_2))
                                                        (T.need (AV.int IntKind.i64 (↑(i + (1 : Nat)) : Int) = AV.int IntKind.i64 (↑(i + (1 : Nat)) : Int))
                                                          (T.need (AV.sl (5 : Nat) (0 : Nat) (2 : Nat) (0 : Nat) (i + (1 : Nat)) c = AV.sl (5 : Nat) (0 : Nat) (2 : Nat) (0 : Nat) (i + (1 : Nat)) c)
                                                            (T.need (AV.ptr (1 : Nat) (0 : Nat) (0 : Nat) (0 : Nat) = AV.ptr (1 : Nat) (0 : Nat) (0 : Nat) (0 : Nat))
                                                              (T.need (AV.ptr (1 : Nat) (0 : Nat) (0 : Nat) (0 : Nat) = AV.ptr (1 : Nat) (0 : Nat) (0 : Nat) (0 : Nat))
                                                                (T.need (AV.ptr (1 : Nat) (0 : Nat) (0 : Nat) (0 : Nat) = AV.ptr (1 : Nat) (0 : Nat) (0 : Nat) (0 : Nat))
                                                                  (T.chk true
                                                                    (T.chk true
                                                                      (T.chk (decide ((0 : Nat) + (i + (1 : Nat)) ≤ c))
                                                                        (@T.chk (Ex × St) true
                                                                          (T.chk (decide ((0 : Nat) + (i + (1 : Nat)) ≤ (4294967296 : Nat)))
                                                                            (T.all fun c_3 =>
                                                                              T.asm (decide ((0 : Nat) + (i + (1 : Nat)) ≤ c_3))
                                                                                (T.ret
                                                                                  (Ex.norm,
                                                                                    St.mk [((0 : Nat), AV.sl (0 : Nat) (0 : Nat) (2 : Nat) (0 : Nat) len cap), ((1 : Nat), AV.int IntKind.i64 no), ((5 : Nat), AV.ptr (1 : Nat) (0 : Nat) (0 : Nat) (0 : Nat)), ((6 : Nat), AV.int IntKind.i64 (↑n : Int)), ((7 : Nat), AV.int IntKind.i64 (IntKind.wrap IntKind.i64 ((↑i : Int) + (1 : Int))))]
                                                                                      [some (Blk.mk false [] (2 : Nat) cap (fun j => [AV.int IntKind.i64 (z j), AV.int IntKind.i64 (y j)]) []),
                                                                                        some (Blk.mk true [AV.sl (5 : Nat) (0 : Nat) (2 : Nat) (0 : Nat) (i + (1 : Nat)) c, AV.sl (7 : Nat) (0 : Nat) (2 : Nat) (0 : Nat) (1 : Nat) c_2, AV.int IntKind.i64 (IntKind.wrap IntKind.i64 ((↑i : Int) * (2 : Int))), AV.tt] (0 : Nat) (0 : Nat) (fun a => []) []), none,
                                                                                        some (Blk.mk true [AV.int IntKind.i64 (z ((0 : Nat) + Int.toNat (↑i : Int))), AV.int IntKind.i64 (y ((0 : Nat) + Int.toNat (↑i : Int)))] (0 : Nat) (0 : Nat) (fun x => []) []),
                                                                                        some (Blk.mk true [] (2 : Nat) (1 : Nat) (fun i_1 => [AV.int IntKind.i64 (List.getD [z ((0 : Nat) + Int.toNat (↑i : Int))] i_1 (0 : Int)), AV.int IntKind.i64 (List.getD [y ((0 : Nat) + Int.toNat (↑i : Int))] i_1 (0 : Int))]) []),
                                                                                        some
                                                                                          (Blk.mk true [] (2 : Nat) c
                                                                                            (fun r =>
                                                                                              if r < i then [AV.int IntKind.i64 (apZ z i ((0 : Nat) + r)), AV.int IntKind.i64 (apZ y i ((0 : Nat) + r))]
                                                                                              else
                                                                                                if r < i + (1 : Nat) then List.map (fun c => Col.at c ((0 : Nat) + (r - i))) ([] ++ [Col.ints IntKind.i64 [z ((0 : Nat) + Int.toNat (↑i : Int))]] ++ [Col.ints IntKind.i64 [y ((0 : Nat) + Int.toNat (↑i : Int))]])
                                                                                                else if c_1 = (0 : Nat) then AV.cells (AV.agg (List.reverse [AV.int IntKind.i64 (0 : Int), AV.int IntKind.i64 (0 : Int)])) else [AV.int IntKind.i64 (apZ z i ((0 : Nat) + r)), AV.int IntKind.i64 (apZ y i ((0 : Nat) + r))])
                                                                                            []),
                                                                                        some (Blk.mk true [] (2 : Nat) (1 : Nat) (fun i_1 => [AV.int IntKind.i64 (List.getD [IntKind.wrap IntKind.i64 ((↑i : Int) * (2 : Int))] i_1 (0 : Int)), AV.int IntKind.i64 (List.getD [(↑(i + (1 : Nat)) : Int)] i_1 (0 : Int))]) []),
                                                                                        some
                                                                                          (Blk.mk true [] (2 : Nat) c_2
                                                                                            (fun r =>
                                                                                              if r < (0 : Nat) then []
                                                                                              else
                                                                                                if r < (1 : Nat) then List.map (fun c => Col.at c ((0 : Nat) + (r - (0 : Nat)))) ([] ++ [Col.ints IntKind.i64 [IntKind.wrap IntKind.i64 ((↑i : Int) * (2 : Int))]] ++ [Col.ints IntKind.i64 [(↑(i + (1 : Nat)) : Int)]])
                                                                                                else AV.cells (AV.agg (List.reverse [AV.int IntKind.i64 (0 : Int), AV.int IntKind.i64 (0 : Int)])))
                                                                                            []),
                                                                                        some
                                                                                          (Blk.mk true [] (2 : Nat) c_3
                                                                                            (fun r =>
                                                                                              if r < (0 : Nat) then []
                                                                                              else
                                                                                                if r < (0 : Nat) + (i + (1 : Nat)) then
                                                                                                  if (0 : Nat) + (r - (0 : Nat)) < i then [AV.int IntKind.i64 (apZ z i ((0 : Nat) + ((0 : Nat) + (r - (0 : Nat))))), AV.int IntKind.i64 (apZ y i ((0 : Nat) + ((0 : Nat) + (r - (0 : Nat)))))]
                                                                                                  else
                                                                                                    if (0 : Nat) + (r - (0 : Nat)) < i + (1 : Nat) then List.map (fun c => Col.at c ((0 : Nat) + ((0 : Nat) + (r - (0 : Nat)) - i))) ([] ++ [Col.ints IntKind.i64 [z ((0 : Nat) + Int.toNat (↑i : Int))]] ++ [Col.ints IntKind.i64 [y ((0 : Nat) + Int.toNat (↑i : Int))]])
                                                                                                    else if c_1 = (0 : Nat) then AV.cells (AV.agg (List.reverse [AV.int IntKind.i64 (0 : Int), AV.int IntKind.i64 (0 : Int)])) else [AV.int IntKind.i64 (apZ z i ((0 : Nat) + ((0 : Nat) + (r - (0 : Nat))))), AV.int IntKind.i64 (apZ y i ((0 : Nat) + ((0 : Nat) + (r - (0 : Nat)))))]
                                                                                                else AV.cells (AV.agg (List.reverse [AV.int IntKind.i64 (0 : Int), AV.int IntKind.i64 (0 : Int)])))
                                                                                            [])]))))))))))))))))))))))
                                    (T.ite ((↑i : Int) == (10 : Int))
                                      (T.need (AV.int IntKind.i64 (↑(i + (1 : Nat)) : Int) = AV.int IntKind.i64 (↑(i + (1 : Nat)) : Int))
                                        (T.need (AV.sl (5 : Nat) (0 : Nat) (2 : Nat) (0 : Nat) (i + (1 : Nat)) c = AV.sl (5 : Nat) (0 : Nat) (2 : Nat) (0 : Nat) (i + (1 : Nat)) c)
                                          (T.need (AV.ptr (1 : Nat) (0 : Nat) (0 : Nat) (0 : Nat) = AV.ptr (1 : Nat) (0 : Nat) (0 : Nat) (0 : Nat))
                                            (T.need (AV.nils = AV.nils)
                                              (T.need (AV.ptr (1 : Nat) (0 : Nat) (0 : Nat) (0 : Nat) = AV.ptr (1 : Nat) (0 : Nat) (0 : Nat) (0 : Nat))
                                                (T.chk true
                                                  (@T.chk (Ex × St) true
                                                    (T.chk true
                                                      (T.all fun c_2 =>
                                                        T.asm (decide ((1 : Nat) ≤ c_2))
                                                          (T.need (AV.int IntKind.i64 (↑(i + (1 : Nat)) : Int) = AV.int IntKind.i64 (↑(i + (1 : Nat)) : Int))
                                                            (T.need (AV.sl (5 : Nat) (0 : Nat) (2 : Nat) (0 : Nat) (i + (1 : Nat)) c = AV.sl (5 : Nat) (0 : Nat) (2 : Nat) (0 : Nat) (i + (1 : Nat)) c)
                                                              (T.need (AV.ptr (1 : Nat) (0 : Nat) (0 : Nat) (0 : Nat) = AV.ptr (1 : Nat) (0 : Nat) (0 : Nat) (0 : Nat))
                                                                (T.need (AV.ptr (1 : Nat) (0 : Nat) (0 : Nat) (0 : Nat) = AV.ptr (1 : Nat) (0 : Nat) (0 : Nat) (0 : Nat))
                                                                  (T.need (AV.ptr (1 : Nat) (0 : Nat) (0 : Nat) (0 : Nat) = AV.ptr (1 : Nat) (0 : Nat) (0 : Nat) (0 : Nat))
                                                                    (T.chk true
                                                                      (T.chk true
                                                                        (T.chk (decide ((0 : Nat) + (i + (1 : Nat)) ≤ c))
                                                                          (@T.chk (Ex × St) true
                                                                            (T.chk (decide ((0 : Nat) + (i + (1 : Nat)) ≤ (4294967296 : Nat)))
                                                                              (T.all fun c_3 =>
                                                                                T.asm (decide ((0 : Nat) + (i + (1 : Nat)) ≤ c_3))
                                                                                  (T.ret
                                                                                    (Ex.norm,
                                                                                      St.mk [((0 : Nat), AV.sl (0 : Nat) (0 : Nat) (2 : Nat) (0 : Nat) len cap), ((1 : Nat), AV.int IntKind.i64 no), ((5 : Nat), AV.ptr (1 : Nat) (0 : Nat) (0 : Nat) (0 : Nat)), ((6 : Nat), AV.int IntKind.i64 (↑n : Int)), ((7 : Nat), AV.int IntKind.i64 (IntKind.wrap IntKind.i64 ((↑i : Int) + (1 : Int))))]
                                                                                        [some (Blk.mk false [] (2 : Nat) cap (fun j => [AV.int IntKind.i64 (z j), AV.int IntKind.i64 (y j)]) []),
                                                                                          some (Blk.mk true [AV.sl (5 : Nat) (0 : Nat) (2 : Nat) (0 : Nat) (i + (1 : Nat)) c, AV.sl (7 : Nat) (0 : Nat) (2 : Nat) (0 : Nat) (1 : Nat) c_2, AV.int IntKind.i64 (IntKind.wrap IntKind.i64 ((↑i : Int) * (2 : Int))), AV.tt] (0 : Nat) (0 : Nat) (fun a => []) []), none,
                                                                                          some (Blk.mk true [AV.int IntKind.i64 (z ((0 : Nat) + Int.toNat (↑i : Int))), AV.int IntKind.i64 (y ((0 : Nat) + Int.toNat (↑i : Int)))] (0 : Nat) (0 : Nat) (fun x => []) []),
                                                                                          some (Blk.mk true [] (2 : Nat) (1 : Nat) (fun i_1 => [AV.int IntKind.i64 (List.getD [z ((0 : Nat) + Int.toNat (↑i : Int))] i_1 (0 : Int)), AV.int IntKind.i64 (List.getD [y ((0 : Nat) + Int.toNat (↑i : Int))] i_1 (0 : Int))]) []),
                                                                                          some
                                                                                            (Blk.mk true [] (2 : Nat) c
                                                                                              (fun r =>
                                                                                                if r < i then [AV.int IntKind.i64 (apZ z i ((0 : Nat) + r)), AV.int IntKind.i64 (apZ y i ((0 : Nat) + r))]
                                                                                                else
                                                                                                  if r < i + (1 : Nat) then List.map (fun c => Col.at c ((0 : Nat) + (r - i))) ([] ++ [Col.ints IntKind.i64 [z ((0 : Nat) + Int.toNat (↑i : Int))]] ++ [Col.ints IntKind.i64 [y ((0 : Nat) + Int.toNat (↑i : Int))]])
                                                                                                  else if c_1 = (0 : Nat) then AV.cells (AV.agg (List.reverse [AV.int IntKind.i64 (0 : Int), AV.int IntKind.i64 (0 : Int)])) else [AV.int IntKind.i64 (apZ z i ((0 : Nat) + r)), AV.int IntKind.i64 (apZ y i ((0 : Nat) + r))])
                                                                                              []),
                                                                                          some (Blk.mk true [] (2 : Nat) (1 : Nat) (fun i_1 => [AV.int IntKind.i64 (List.getD [IntKind.wrap IntKind.i64 ((↑i : Int) * (2 : Int))] i_1 (0 : Int)), AV.int IntKind.i64 (List.getD [(↑(i + (1 : Nat)) : Int)] i_1 (0 : Int))]) []),
                                                                                          some
                                                                                            (Blk.mk true [] (2 : Nat) c_2
                                                                                              (fun r =>
                                                                                                if r < (0 : Nat) then []
                                                                                                else
                                                                                                  if r < (1 : Nat) then List.map (fun c => Col.at c ((0 : Nat) + (r - (0 : Nat)))) ([] ++ [Col.ints IntKind.i64 [IntKind.wrap IntKind.i64 ((↑i : Int) * (2 : Int))]] ++ [Col.ints IntKind.i64 [(↑(i + (1 : Nat)) : Int)]])
                                                                                                  else AV.cells (AV.agg (List.reverse [AV.int IntKind.i64 (0 : Int), AV.int IntKind.i64 (0 : Int)])))
                                                                                              []),
                                                                                          some
                                                                                            (Blk.mk true [] (2 : Nat) c_3
                                                                                              (fun r =>
                                                                                                if r < (0 : Nat) then []
                                                                                                else
                                                                                                  if r < (0 : Nat) + (i + (1 : Nat)) then
                                                                                                    if (0 : Nat) + (r - (0 : Nat)) < i then [AV.int IntKind.i64 (apZ z i ((0 : Nat) + ((0 : Nat) + (r - (0 : Nat))))), AV.int IntKind.i64 (apZ y i ((0 : Nat) + ((0 : Nat) + (r - (0 : Nat)))))]
                                                                                                    else
                                                                                                      if (0 : Nat) + (r - (0 : Nat)) < i + (1 : Nat) then List.map (fun c => Col.at c ((0 : Nat) + ((0 : Nat) + (r - (0 : Nat)) - i))) ([] ++ [Col.ints IntKind.i64 [z ((0 : Nat) + Int.toNat (↑i : Int))]] ++ [Col.ints IntKind.i64 [y ((0 : Nat) + Int.toNat (↑i : Int))]])
                                                                                                      else if c_1 = (0 : Nat) then AV.cells (AV.agg (List.reverse [AV.int IntKind.i64 (0 : Int), AV.int IntKind.i64 (0 : Int)])) else [AV.int IntKind.i64 (apZ z i ((0 : Nat) + ((0 : Nat) + (r - (0 : Nat))))), AV.int IntKind.i64 (apZ y i ((0 : Nat) + ((0 : Nat) + (r - (0 : Nat)))))]
                                                                                                  else AV.cells (AV.agg (List.reverse [AV.int IntKind.i64 (0 : Int), AV.int IntKind.i64 (0 : Int)])))
                                                                                              [])]))))))))))))))))))))))
                                      (T.ite ((↑i : Int) == (15 : Int))
                                        (T.need (AV.int IntKind.i64 (↑(i + (1 : Nat)) : Int) = AV.int IntKind.i64 (↑(i + (1 : Nat)) : Int))
                                          (T.need (AV.sl (5 : Nat) (0 : Nat) (2 : Nat) (0 : Nat) (i + (1 : Nat)) c = AV.sl (5 : Nat) (0 : Nat) (2 : Nat) (0 : Nat) (i + (1 : Nat)) c)
                                            (T.need (AV.ptr (1 : Nat) (0 : Nat) (0 : Nat) (0 : Nat) = AV.ptr (1 : Nat) (0 : Nat) (0 : Nat) (0 : Nat))
                                              (T.need (AV.nils = AV.nils)
                                                (T.need (AV.ptr (1 : Nat) (0 : Nat) (0 : Nat) (0 : Nat) = AV.ptr (1 : Nat) (0 : Nat) (0 : Nat) (0 : Nat))
                                                  (T.chk true
                                                    (@T.chk (Ex × St) true
                                                      (T.chk true
                                                        (T.all fun c_2 =>
                                                          T.asm (decide ((1 : Nat) ≤ c_2))
                                                            (T.need (AV.int IntKind.i64 (↑(i + (1 : Nat)) : Int) = AV.int IntKind.i64 (↑(i + (1 : Nat)) : Int))
                                                              (T.need (AV.sl (5 : Nat) (0 : Nat) (2 : Nat) (0 : Nat) (i + (1 : Nat)) c = AV.sl (5 : Nat) (0 : Nat) (2 : Nat) (0 : Nat) (i + (1 : Nat)) c)
                                                                (T.need (AV.ptr (1 : Nat) (0 : Nat) (0 : Nat) (0 : Nat) = AV.ptr (1 : Nat) (0 : Nat) (0 : Nat) (0 : Nat))
                                                                  (T.need (AV.ptr (1 : Nat) (0 : Nat) (0 : Nat) (0 : Nat) = AV.ptr (1 : Nat) (0 : Nat) (0 : Nat) (0 : Nat))
                                                                    (T.need (AV.ptr (1 : Nat) (0 : Nat) (0 : Nat) (0 : Nat) = AV.ptr (1 : Nat) (0 : Nat) (0 : Nat) (0 : Nat))
                                                                      (T.chk true
                                                                        (T.chk true
                                                                          (T.chk (decide ((0 : Nat) + (i + (1 : Nat)) ≤ c))
                                                                            (@T.chk (Ex × St) true
                                                                              (T.chk (decide ((0 : Nat) + (i + (1 : Nat)) ≤ (4294967296 : Nat)))
                                                                                (T.all fun c_3 =>
                                                                                  T.asm (decide ((0 : Nat) + (i + (1 : Nat)) ≤ c_3))
                                                                                    (T.ret
                                                                                      (Ex.norm,
                                                                                        St.mk [((0 : Nat), AV.sl (0 : Nat) (0 : Nat) (2 : Nat) (0 : Nat) len cap), ((1 : Nat), AV.int IntKind.i64 no), ((5 : Nat), AV.ptr (1 : Nat) (0 : Nat) (0 : Nat) (0 : Nat)), ((6 : Nat), AV.int IntKind.i64 (↑n : Int)), ((7 : Nat), AV.int IntKind.i64 (IntKind.wrap IntKind.i64 ((↑i : Int) + (1 : Int))))]
                                                                                          [some (Blk.mk false [] (2 : Nat) cap (fun j => [AV.int IntKind.i64 (z j), AV.int IntKind.i64 (y j)]) []),
                                                                                            some (Blk.mk true [AV.sl (5 : Nat) (0 : Nat) (2 : Nat) (0 : Nat) (i + (1 : Nat)) c, AV.sl (7 : Nat) (0 : Nat) (2 : Nat) (0 : Nat) (1 : Nat) c_2, AV.int IntKind.i64 (IntKind.wrap IntKind.i64 ((↑i : Int) * (2 : Int))), AV.tt] (0 : Nat) (0 : Nat) (fun a => []) []), none,
                                                                                            some (Blk.mk true [AV.int IntKind.i64 (z ((0 : Nat) + Int.toNat (↑i : Int))), AV.int IntKind.i64 (y ((0 : Nat) + Int.toNat (↑i : Int)))] (0 : Nat) (0 : Nat) (fun x => []) []),
                                                                                            some (Blk.mk true [] (2 : Nat) (1 : Nat) (fun i_1 => [AV.int IntKind.i64 (List.getD [z ((0 : Nat) + Int.toNat (↑i : Int))] i_1 (0 : Int)), AV.int IntKind.i64 (List.getD [y ((0 : Nat) + Int.toNat (↑i : Int))] i_1 (0 : Int))]) []),
                                                                                            some
                                                                                              (Blk.mk true [] (2 : Nat) c
                                                                                                (fun r =>
                                                                                                  if r < i then [AV.int IntKind.i64 (apZ z i ((0 : Nat) + r)), AV.int IntKind.i64 (apZ y i ((0 : Nat) + r))]
                                                                                                  else
                                                                                                    if r < i + (1 : Nat) then List.map (fun c => Col.at c ((0 : Nat) + (r - i))) ([] ++ [Col.ints IntKind.i64 [z ((0 : Nat) + Int.toNat (↑i : Int))]] ++ [Col.ints IntKind.i64 [y ((0 : Nat) + Int.toNat (↑i : Int))]])
                                                                                                    else if c_1 = (0 : Nat) then AV.cells (AV.agg (List.reverse [AV.int IntKind.i64 (0 : Int), AV.int IntKind.i64 (0 : Int)])) else [AV.int IntKind.i64 (apZ z i ((0 : Nat) + r)), AV.int IntKind.i64 (apZ y i ((0 : Nat) + r))])
                                                                                                []),
                                                                                            some (Blk.mk true [] (2 : Nat) (1 : Nat) (fun i_1 => [AV.int IntKind.i64 (List.getD [IntKind.wrap IntKind.i64 ((↑i : Int) * (2 : Int))] i_1 (0 : Int)), AV.int IntKind.i64 (List.getD [(↑(i + (1 : Nat)) : Int)] i_1 (0 : Int))]) []),
                                                                                            some
                                                                                              (Blk.mk true [] (2 : Nat) c_2
                                                                                                (fun r =>
                                                                                                  if r < (0 : Nat) then []
                                                                                                  else
                                                                                                    if r < (1 : Nat) then List.map (fun c => Col.at c ((0 : Nat) + (r - (0 : Nat)))) ([] ++ [Col.ints IntKind.i64 [IntKind.wrap IntKind.i64 ((↑i : Int) * (2 : Int))]] ++ [Col.ints IntKind.i64 [(↑(i + (1 : Nat)) : Int)]])
                                                                                                    else AV.cells (AV.agg (List.reverse [AV.int IntKind.i64 (0 : Int), AV.int IntKind.i64 (0 : Int)])))
                                                                                                []),
                                                                                            some
                                                                                              (Blk.mk true [] (2 : Nat) c_3
                                                                                                (fun r =>
                                                                                                  if r < (0 : Nat) then []
                                                                                                  else
                                                                                                    if r < (0 : Nat) + (i + (1 : Nat)) then
                                                                                                      if (0 : Nat) + (r - (0 : Nat)) < i then [AV.int IntKind.i64 (apZ z i ((0 : Nat) + ((0 : Nat) + (r - (0 : Nat))))), AV.int IntKind.i64 (apZ y i ((0 : Nat) + ((0 : Nat) + (r - (0 : Nat)))))]
                                                                                                      else
                                                                                                        if (0 : Nat) + (r - (0 : Nat)) < i + (1 : Nat) then List.map (fun c => Col.at c ((0 : Nat) + ((0 : Nat) + (r - (0 : Nat)) - i))) ([] ++ [Col.ints IntKind.i64 [z ((0 : Nat) + Int.toNat (↑i : Int))]] ++ [Col.ints IntKind.i64 [y ((0 : Nat) + Int.toNat (↑i : Int))]])
                                                                                                        else if c_1 = (0 : Nat) then AV.cells (AV.agg (List.reverse [AV.int IntKind.i64 (0 : Int), AV.int IntKind.i64 (0 : Int)])) else [AV.int IntKind.i64 (apZ z i ((0 : Nat) + ((0 : Nat) + (r - (0 : Nat))))), AV.int IntKind.i64 (apZ y i ((0 : Nat) + ((0 : Nat) + (r - (0 : Nat)))))]
                                                                                                    else AV.cells (AV.agg (List.reverse [AV.int IntKind.i64 (0 : Int), AV.int IntKind.i64 (0 : Int)])))
                                                                                                [])]))))))))))))))))))))))
                                        (T.ret
                                          (Ex.norm,
                                            St.mk [((0 : Nat), AV.sl (0 : Nat) (0 : Nat) (2 : Nat) (0 : Nat) len cap), ((1 : Nat), AV.int IntKind.i64 no), ((5 : Nat), AV.ptr (1 : Nat) (0 : Nat) (0 : Nat) (0 : Nat)), ((6 : Nat), AV.int IntKind.i64 (↑n : Int)), ((7 : Nat), AV.int IntKind.i64 (IntKind.wrap IntKind.i64 ((↑i : Int) + (1 : Int))))]
                                              [some (Blk.mk false [] (2 : Nat) cap (fun j => [AV.int IntKind.i64 (z j), AV.int IntKind.i64 (y j)]) []), some (Blk.mk true [AV.sl (5 : Nat) (0 : Nat) (2 : Nat) (0 : Nat) (i + (1 : Nat)) c, AV.nils, AV.int IntKind.i64 (0 : Int), AV.ff] (0 : Nat) (0 : Nat) (fun a => []) []), none,
                                                some (Blk.mk true [AV.int IntKind.i64 (z ((0 : Nat) + Int.toNat (↑i : Int))), AV.int IntKind.i64 (y ((0 : Nat) + Int.toNat (↑i : Int)))] (0 : Nat) (0 : Nat) (fun x => []) []),
                                                some (Blk.mk true [] (2 : Nat) (1 : Nat) (fun i_1 => [AV.int IntKind.i64 (List.getD [z ((0 : Nat) + Int.toNat (↑i : Int))] i_1 (0 : Int)), AV.int IntKind.i64 (List.getD [y ((0 : Nat) + Int.toNat (↑i : Int))] i_1 (0 : Int))]) []),
                                                some
                                                  (Blk.mk true [] (2 : Nat) c
                                                    (fun r =>
                                                      if r < i then [AV.int IntKind.i64 (apZ z i ((0 : Nat) + r)), AV.int IntKind.i64 (apZ y i ((0 : Nat) + r))]
                                                      else
                                                        if r < i + (1 : Nat) then List.map (fun c => Col.at c ((0 : Nat) + (r - i))) ([] ++ [Col.ints IntKind.i64 [z ((0 : Nat) + Int.toNat (↑i : Int))]] ++ [Col.ints IntKind.i64 [y ((0 : Nat) + Int.toNat (↑i : Int))]])
                                                        else if c_1 = (0 : Nat) then AV.cells (AV.agg (List.reverse [AV.int IntKind.i64 (0 : Int), AV.int IntKind.i64 (0 : Int)])) else [AV.int IntKind.i64 (apZ z i ((0 : Nat) + r)), AV.int IntKind.i64 (apZ y i ((0 : Nat) + r))])
                                                    [])]))))))))))))))))))
    (T.ret
      (Ex.exit (0 : Nat),
        St.mk [((0 : Nat), AV.sl (0 : Nat) (0 : Nat) (2 : Nat) (0 : Nat) len cap), ((1 : Nat), AV.int IntKind.i64 no), ((5 : Nat), AV.ptr (1 : Nat) (0 : Nat) (0 : Nat) (0 : Nat)), ((6 : Nat), AV.int IntKind.i64 (↑n : Int)), ((7 : Nat), AV.int IntKind.i64 (↑i : Int))]
          [some (Blk.mk false [] (2 : Nat) cap (fun j => [AV.int IntKind.i64 (z j), AV.int IntKind.i64 (y j)]) []), some (Blk.mk true [AV.sl (2 : Nat) (0 : Nat) (2 : Nat) (0 : Nat) i c, AV.nils, AV.int IntKind.i64 (0 : Int), AV.ff] (0 : Nat) (0 : Nat) (fun x => []) []), some (Blk.mk true [] (2 : Nat) c (fun j => [AV.int IntKind.i64 (apZ z i j), AV.int IntKind.i64 (apZ y i j)]) [])])) := by
  kernel_rfl

theorem cm_tree2 (z y : Nat → Int) (len cap : Nat) (no : Int) (n i k c cc : Nat) : T.cut (keepT [0, 1, 5, 6, 7] (acode Try.prog cmE (loopAt (codeOf Try.f6) 0) (cmSt ⟨z, y, len, cap, no, n, i, true, true, k, c, cc⟩))) [2, 15, 2, 3, 2, 0, 0, 2, 3, 2, 0, 0, 2, 3, 2, 0, 0] = 
  T.ite (decide ((↑i : Int) < (↑n : Int))) (T.chk (decide ((0 : Int) ≤ (↑i : Int)) && decide ((↑i : Int) < (↑len : Int))) (T.chk (decide ((0 : Nat) + Int.toNat (↑i : Int) < cap)) (T.chk (decide ((0 : Nat) + Int.toNat (↑i : Int) < cap)) (T.need (AV.sl (2 : Nat) (0 : Nat) (2 : Nat) (0 : Nat) i c = AV.sl (2 : Nat) (0 : Nat) (2 : Nat) (0 : Nat) i c) (T.need (AV.ptr (1 : Nat) (0 : Nat) (0 : Nat) (0 : Nat) = AV.ptr (1 : Nat) (0 : Nat) (0 : Nat) (0 : Nat)) (T.chk true (T.chk (decide ((0 : Nat) + c ≤ c)) (T.chk (decide (i ≤ c)) (T.chk (decide (i + (1 : Nat) ≤ (4294967296 : Nat))) (T.all fun c => T.all fun c_1 => T.asm (decide (i + (1 : Nat) ≤ c)) (T.need (AV.agg [AV.int IntKind.i64 (z ((0 : Nat) + Int.toNat (↑i : Int))), AV.int IntKind.i64 (y ((0 : Nat) + Int.toNat (↑i : Int)))] = AV.agg [AV.int IntKind.i64 (z ((0 : Nat) + Int.toNat (↑i : Int))), AV.int IntKind.i64 (y ((0 : Nat) + Int.toNat (↑i : Int)))]) (T.need (AV.ptr (1 : Nat) (0 : Nat) (0 : Nat) (0 : Nat) = AV.ptr (1 : Nat) (0 : Nat) (0 : Nat) (0 : Nat)) (T.need (AV.ptr (1 : Nat) (0 : Nat) (0 : Nat) (0 : Nat) = AV.ptr (1 : Nat) (0 : Nat) (0 : Nat) (0 : Nat)) (T.ite ((↑i : Int) == (5 : Int)) (T.ite (decide (IntKind.wrap IntKind.i64 ((↑i : Int) * (2 : Int)) ≤ (↑((10 : Nat) * k) : Int))) (T.ret (Ex.norm, St.mk [((0 : Nat), AV.sl (0 : Nat) (0 : Nat) (2 : Nat) (0 : Nat) len cap), ((1 : Nat), AV.int IntKind.i64 no), ((5 : Nat), AV.ptr (1 : Nat) (0 : Nat) (0 : Nat) (0 : Nat)), ((6 : Nat), AV.int IntKind.i64 (↑n : Int)), ((7 : Nat), AV.int IntKind.i64 (IntKind.wrap IntKind.i64 ((↑i : Int) + (1 : Int))))] [some (Blk.mk false [] (2 : Nat) cap (fun j => [AV.int IntKind.i64 (z j), AV.int IntKind.i64 (y j)]) []), some (Blk.mk true [AV.sl (6 : Nat) (0 : Nat) (2 : Nat) (0 : Nat) (i + (1 : Nat)) c, AV.sl (3 : Nat) (0 : Nat) (2 : Nat) (0 : Nat) k cc, AV.int IntKind.i64 (↑((10 : Nat) * k) : Int), AV.tt] (0 : Nat) (0 : Nat) (fun a => []) []), none, some (Blk.mk true [] (2 : Nat) cc (fun j => [AV.int IntKind.i64 (apZ tens k j), AV.int IntKind.i64 (apZ ends k j)]) []), some (Blk.mk true [AV.int IntKind.i64 (z ((0 : Nat) + Int.toNat (↑i : Int))), AV.int IntKind.i64 (y ((0 : Nat) + Int.toNat (↑i : Int)))] (0 : Nat) (0 : Nat) (fun x => []) []), some (Blk.mk true [] (2 : Nat) (1 : Nat) (fun i_1 => [AV.int IntKind.i64 (List.getD [z ((0 : Nat) + Int.toNat (↑i : Int))] i_1 (0 : Int)), AV.int IntKind.i64 (List.getD [y ((0 : Nat) + Int.toNat (↑i : Int))] i_1 (0 : Int))]) []), some (Blk.mk true [] (2 : Nat) c (fun r => if r < i then [AV.int IntKind.i64 (apZ z i ((0 : Nat) + r)), AV.int IntKind.i64 (apZ y i ((0 : Nat) + r))] else if r < i + (1 : Nat) then List.map (fun c => Col.at c ((0 : Nat) + (r - i))) ([] ++ [Col.ints IntKind.i64 [z ((0 : Nat) + Int.toNat (↑i : Int))]] ++ [Col.ints IntKind.i64 [y ((0 : Nat) + Int.toNat (↑i : Int))]]) else if c_1 = (0 : Nat) then AV.cells (AV.agg (List.reverse [AV.int IntKind.i64 (0 : Int), AV.int IntKind.i64 (0 : Int)])) else [AV.int IntKind.i64 (apZ z i ((0 : Nat) + r)), AV.int IntKind.i64 (apZ y i ((0 : Nat) + r))]) [])])) (T.need (AV.int IntKind.i64 (↑(i + (1 : Nat)) : Int) = AV.int IntKind.i64 (↑(i + (1 : Nat)) : Int)) (T.need (AV.sl (6 : Nat) (0 : Nat) (2 : Nat) (0 : Nat) (i + (1 : Nat)) c = AV.sl (6 : Nat) (0 : Nat) (2 : Nat) (0 : Nat) (i + (1 : Nat)) c) (T.need (AV.ptr (1 : Nat) (0 : Nat) (0 : Nat) (0 : Nat) = AV.ptr (1 : Nat) (0 : Nat) (0 : Nat) (0 : Nat)) (T.need (AV.sl (3 : Nat) (0 : Nat) (2 : Nat) (0 : Nat) k cc = AV.sl (3 : Nat) (0 : Nat) (2 : Nat) (0 : Nat) k cc) (T.need (AV.ptr (1 : Nat) (0 : Nat) (0 : Nat) (0 : Nat) = AV.ptr (1 : Nat) (0 : Nat) (0 : Nat) (0 : Nat)) (T.chk true (T.chk (decide ((0 : Nat) + cc ≤ cc)) (T.chk (decide (k ≤ cc)) (T.chk (decide (k + (1 : Nat) ≤ (4294967296 : Nat))) (T.all fun c_2 => T.all fun c_3 => T.asm (decide (k + (1 : Nat) ≤ c_2)) (T.need (AV.int IntKind.i64 (↑(i + (1 : Nat)) : Int) = AV.int IntKind.i64 (↑(i + (1 : Nat)) : Int)) (T.need (AV.sl (6 : Nat) (0 : Nat) (2 : Nat) (0 : Nat) (i + (1 : Nat)) c = AV.sl (6 : Nat) (0 : Nat) (2 : Nat) (0 : Nat) (i + (1 : Nat)) c) (T.need (AV.ptr (1 : Nat) (0 : Nat) (0 : Nat) (0 : Nat) = AV.ptr (1 : Nat) (0 : Nat) (0 : Nat) (0 : Nat)) (T.need (AV.ptr (1 : Nat) (0 : Nat) (0 : Nat) (0 : Nat) = AV.ptr (1 : Nat) (0 : Nat) (0 : Nat) (0 : Nat)) (T.need (AV.ptr (1 : Nat) (0 : Nat) (0 : Nat) (0 : Nat) = AV.ptr (1 : Nat) (0 : Nat) (0 : Nat) (0 : Nat)) (T.chk true (T.chk true (T.chk (decide ((0 : Nat) + (i + (1 : Nat)) ≤ c)) (@T.chk (Ex × St) true (T.chk (decide ((0 : Nat) + (i + (1 : Nat)) ≤ (4294967296 : Nat))) (T.all fun c_4 => T.asm (decide ((0 : Nat) + (i + (1 : Nat)) ≤ c_4)) (T.ret (Ex.norm, St.mk [((0 : Nat), AV.sl (0 : Nat) (0 : Nat) (2 : Nat) (0 : Nat) len cap), ((1 : Nat), AV.int IntKind.i64 no), ((5 : Nat), AV.ptr (1 : Nat) (0 : Nat) (0 : Nat) (0 : Nat)), ((6 : Nat), AV.int IntKind.i64 (↑n : Int)), ((7 : Nat), AV.int IntKind.i64 (IntKind.wrap IntKind.i64 ((↑i : Int) + (1 : Int))))] [some (Blk.mk false [] (2 : Nat) cap (fun j => [AV.int IntKind.i64 (z j), AV.int IntKind.i64 (y j)]) []), some (Blk.mk true [AV.sl (6 : Nat) (0 : Nat) (2 : Nat) (0 : Nat) (i + (1 : Nat)) c, AV.sl (8 : Nat) (0 : Nat) (2 : Nat) (0 : Nat) (k + (1 : Nat)) c_2, AV.int IntKind.i64 (IntKind.wrap IntKind.i64 ((↑i : Int) * (2 : Int))), AV.tt] (0 : Nat) (0 : Nat) (fun a => []) []), none, none, some (Blk.mk true [AV.int IntKind.i64 (z ((0 : Nat) + Int.toNat (↑i : Int))), AV.int IntKind.i64 (y ((0 : Nat) + Int.toNat (↑i : Int)))] (0 : Nat) (0 : Nat) (fun x => []) []), some (Blk.mk true [] (2 : Nat) (1 : Nat) (fun i_1 => [AV.int IntKind.i64 (List.getD [z ((0 : Nat) + Int.toNat (↑i : Int))] i_1 (0 : Int)), AV.int IntKind.i64 (List.getD [y ((0 : Nat) + Int.toNat (↑i : Int))] i_1 (0 : Int))]) []), some (Blk.mk true [] (2 : Nat) c (fun r => if r < i then [AV.int IntKind.i64 (apZ z i ((0 : Nat) + r)), AV.int IntKind.i64 (apZ y i ((0 : Nat) + r))] else if r < i + (1 : Nat) then List.map (fun c => Col.at c ((0 : Nat) + (r - i))) ([] ++ [Col.ints IntKind.i64 [z ((0 : Nat) + Int.toNat (↑i : Int))]] ++ [Col.ints IntKind.i64 [y ((0 : Nat) + Int.toNat (↑i : Int))]]) else if c_1 = (0 : Nat) then AV.cells (AV.agg (List.reverse [AV.int IntKind.i64 (0 : Int), AV.int IntKind.i64 (0 : Int)])) else [AV.int IntKind.i64 (apZ z i ((0 : Nat) + r)), AV.int IntKind.i64 (apZ y i ((0 : Nat) + r))]) []), some (Blk.mk true [] (2 : Nat) (1 : Nat) (fun i_1 => [AV.int IntKind.i64 (List.getD [IntKind.wrap IntKind.i64 ((↑i : Int) * (2 : Int))] i_1 (0 : Int)), AV.int IntKind.i64 (List.getD [(↑(i + (1 : Nat)) : Int)] i_1 (0 : Int))]) []), some (Blk.mk true [] (2 : Nat) c_2 (fun r => if r < k then [AV.int IntKind.i64 (apZ tens k ((0 : Nat) + r)), AV.int IntKind.i64 (apZ ends k ((0 : Nat) + r))] else if r < k + (1 : Nat) then List.map (fun c => Col.at c ((0 : Nat) + (r - k))) ([] ++ [Col.ints IntKind.i64 [IntKind.wrap IntKind.i64 ((↑i : Int) * (2 : Int))]] ++ [Col.ints IntKind.i64 [(↑(i + (1 : Nat)) : Int)]]) else if c_3 = (0 : Nat) then AV.cells (AV.agg (List.reverse [AV.int IntKind.i64 (0 : Int), AV.int IntKind.i64 (0 : Int)])) else [AV.int IntKind.i64 (apZ tens k ((0 : Nat) + r)), AV.int IntKind.i64 (apZ ends k ((0 : Nat) + r))]) []), some (Blk.mk true [] (2 : Nat) c_4 (fun r => if r < (0 : Nat) then [] else if r < (0 : Nat) + (i + (1 : Nat)) then if (0 : Nat) + (r - (0 : Nat)) < i then [AV.int IntKind.i64 (apZ z i ((0 : Nat) + ((0 : Nat) + (r - (0 : Nat))))), AV.int IntKind.i64 (apZ y i ((0 : Nat) + ((0 : Nat) + (r - (0 : Nat)))))] else if (0 : Nat) + (r - (0 : Nat)) < i + (1 : Nat) then List.map (fun c => Col.at c ((0 : Nat) + ((0 : Nat) + (r - (0 : Nat)) - i))) ([] ++ [Col.ints IntKind.i64 [z ((0 : Nat) + Int.toNat (↑i : Int))]] ++ [Col.ints IntKind.i64 [y ((0 : Nat) + Int.toNat (↑i : Int))]]) else if c_1 = (0 : Nat) then AV.cells (AV.agg (List.reverse [AV.int IntKind.i64 (0 : Int), AV.int IntKind.i64 (0 : Int)])) else [AV.int IntKind.i64 (apZ z i ((0 : Nat) + ((0 : Nat) + (r - (0 : Nat))))), AV.int IntKind.i64 (apZ y i ((0 : Nat) + ((0 : Nat) + (r - (0 : Nat)))))] else AV.cells (AV.agg (List.reverse [AV.int IntKind.i64 (0 : Int), AV.int IntKind.i64 (0 : Int)]))) [])])))))))))))))))))))))))) (T.ite ((↑i : Int) == (10 : Int)) (T.ite (decide (IntKind.wrap IntKind.i64 ((↑i : Int) * (2 : Int)) ≤ (↑((10 : Nat) * k) : Int))) (T.ret (Ex.norm, St.mk [((0 : Nat), AV.sl (0 : Nat) (0 : Nat) (2 : Nat) (0 : Nat) len cap), ((1 : Nat), AV.int IntKind.i64 no), ((5 : Nat), AV.ptr (1 : Nat) (0 : Nat) (0 : Nat) (0 : Nat)), ((6 : Nat), AV.int IntKind.i64 (↑n : Int)), ((7 : Nat), AV.int IntKind.i64 (IntKind.wrap IntKind.i64 ((↑i : Int) + (1 : Int))))] [some (Blk.mk false [] (2 : Nat) cap (fun j => [AV.int IntKind.i64 (z j), AV.int IntKind.i64 (y j)]) []), some (Blk.mk true [AV.sl (6 : Nat) (0 : Nat) (2 : Nat) (0 : Nat) (i + (1 : Nat)) c, AV.sl (3 : Nat) (0 : Nat) (2 : Nat) (0 : Nat) k cc, AV.int IntKind.i64 (↑((10 : Nat) * k) : Int), AV.tt] (0 : Nat) (0 : Nat) (fun a => []) []), none, some (Blk.mk true [] (2 : Nat) cc (fun j => [AV.int IntKind.i64 (apZ tens k j), AV.int IntKind.i64 (apZ ends k j)]) []), some (Blk.mk true [AV.int IntKind.i64 (z ((0 : Nat) + Int.toNat (↑i : Int))), AV.int IntKind.i64 (y ((0 : Nat) + Int.toNat (↑i : Int)))] (0 : Nat) (0 : Nat) (fun x => []) []), some (Blk.mk true [] (2 : Nat) (1 : Nat) (fun i_1 => [AV.int IntKind.i64 (List.getD [z ((0 : Nat) + Int.toNat (↑i : Int))] i_1 (0 : Int)), AV.int IntKind.i64 (List.getD [y ((0 : Nat) + Int.toNat (↑i : Int))] i_1 (0 : Int))]) []), some (Blk.mk true [] (2 : Nat) c (fun r => if r < i then [AV.int IntKind.i64 (apZ z i ((0 : Nat) + r)), AV.int IntKind.i64 (apZ y i ((0 : Nat) + r))] else if r < i + (1 : Nat) then List.map (fun c => Col.at c ((0 : Nat) + (r - i))) ([] ++ [Col.ints IntKind.i64 [z ((0 : Nat) + Int.toNat (↑i : Int))]] ++ [Col.ints IntKind.i64 [y ((0 : Nat) + Int.toNat (↑i : Int))]]) else if c_1 = (0 : Nat) then AV.cells (AV.agg (List.reverse [AV.int IntKind.i64 (0 : Int), AV.int IntKind.i64 (0 : Int)])) else [AV.int IntKind.i64 (apZ z i ((0 : Nat) + r)), AV.int IntKind.i64 (apZ y i ((0 : Nat) + r))]) [])])) (T.need (AV.int IntKind.i64 (↑(i + (1 : Nat)) : Int) = AV.int IntKind.i64 (↑(i + (1 : Nat)) : Int)) (T.need (AV.sl (6 : Nat) (0 : Nat) (2 : Nat) (0 : Nat) (i + (1 : Nat)) c = AV.sl (6 : Nat) (0 : Nat) (2 : Nat) (0 : Nat) (i + (1 : Nat)) c) (T.need (AV.ptr (1 : Nat) (0 : Nat) (0 : Nat) (0 : Nat) = AV.ptr (1 : Nat) (0 : Nat) (0 : Nat) (0 : Nat)) (T.need (AV.sl (3 : Nat) (0 : Nat) (2 : Nat) (0 : Nat) k cc = AV.sl (3 : Nat) (0 : Nat) (2 : Nat) (0 : Nat) k cc) (T.need (AV.ptr (1 : Nat) (0 : Nat) (0 : Nat) (0 : Nat) = AV.ptr (1 : Nat) (0 : Nat) (0 : Nat) (0 : Nat)) (T.chk true (T.chk (decide ((0 : Nat) + cc ≤ cc)) (T.chk (decide (k ≤ cc)) (T.chk (decide (k + (1 : Nat) ≤ (4294967296 : Nat))) (T.all fun c_2 => T.all fun c_3 => T.asm (decide (k + (1 : Nat) ≤ c_2)) (T.need (AV.int IntKind.i64 (↑(i + (1 : Nat)) : Int) = AV.int IntKind.i64 (↑(i + (1 : Nat)) : Int)) (T.need (AV.sl (6 : Nat) (0 : Nat) (2 : Nat) (0 : Nat) (i + (1 : Nat)) c = AV.sl (6 : Nat) (0 : Nat) (2 : Nat) (0 : Nat) (i + (1 : Nat)) c) (T.need (AV.ptr (1 : Nat) (0 : Nat) (0 : Nat) (0 : Nat) = AV.ptr (1 : Nat) (0 : Nat) (0 : Nat) (0 : Nat)) (T.need (AV.ptr (1 : Nat) (0 : Nat) (0 : Nat) (0 : Nat) = AV.ptr (1 : Nat) (0 : Nat) (0 : Nat) (0 : Nat)) (T.need (AV.ptr (1 : Nat) (0 : Nat) (0 : Nat) (0 : Nat) = AV.ptr (1 : Nat) (0 : Nat) (0 : Nat) (0 : Nat)) (T.chk true (T.chk true (T.chk (decide ((0 : Nat) + (i + (1 : Nat)) ≤ c)) (@T.chk (Ex × St) true (T.chk (decide ((0 : Nat) + (i + (1 : Nat)) ≤ (4294967296 : Nat))) (T.all fun c_4 => T.asm (decide ((0 : Nat) + (i + (1 : Nat)) ≤ c_4)) (T.ret (Ex.norm, St.mk [((0 : Nat), AV.sl (0 : Nat) (0 : Nat) (2 : Nat) (0 : Nat) len cap), ((1 : Nat), AV.int IntKind.i64 no), ((5 : Nat), AV.ptr (1 : Nat) (0 : Nat) (0 : Nat) (0 : Nat)), ((6 : Nat), AV.int IntKind.i64 (↑n : Int)), ((7 : Nat), AV.int IntKind.i64 (IntKind.wrap IntKind.i64 ((↑i : Int) + (1 : Int))))] [some (Blk.mk false [] (2 : Nat) cap (fun j => [AV.int IntKind.i64 (z j), AV.int IntKind.i64 (y j)]) []), some (Blk.mk true [AV.sl (6 : Nat) (0 : Nat) (2 : Nat) (0 : Nat) (i + (1 : Nat)) c, AV.sl (8 : Nat) (0 : Nat) (2 : Nat) (0 : Nat) (k + (1 : Nat)) c_2, AV.int IntKind.i64 (IntKind.wrap IntKind.i64 ((↑i : Int) * (2 : Int))), AV.tt] (0 : Nat) (0 : Nat) (fun a => []) []), none, none, some (Blk.mk true [AV.int IntKind.i64 (z ((0 : Nat) + Int.toNat (↑i : Int))), AV.int IntKind.i64 (y ((0 : Nat) + Int.toNat (↑i : Int)))] (0 : Nat) (0 : Nat) (fun x => []) []), some (Blk.mk true [] (2 : Nat) (1 : Nat) (fun i_1 => [AV.int IntKind.i64 (List.getD [z ((0 : Nat) + Int.toNat (↑i : Int))] i_1 (0 : Int)), AV.int IntKind.i64 (List.getD [y ((0 : Nat) + Int.toNat (↑i : Int))] i_1 (0 : Int))]) []), some (Blk.mk true [] (2 : Nat) c (fun r => if r < i then [AV.int IntKind.i64 (apZ z i ((0 : Nat) + r)), AV.int IntKind.i64 (apZ y i ((0 : Nat) + r))] else if r < i + (1 : Nat) then List.map (fun c => Col.at c ((0 : Nat) + (r - i))) ([] ++ [Col.ints IntKind.i64 [z ((0 : Nat) + Int.toNat (↑i : Int))]] ++ [Col.ints IntKind.i64 [y ((0 : Nat) + Int.toNat (↑i : Int))]]) else if c_1 = (0 : Nat) then AV.cells (AV.agg (List.reverse [AV.int IntKind.i64 (0 : Int), AV.int IntKind.i64 (0 : Int)])) else [AV.int IntKind.i64 (apZ z i ((0 : Nat) + r)), AV.int IntKind.i64 (apZ y i ((0 : Nat) + r))]) []), some (Blk.mk true [] (2 : Nat) (1 : Nat) (fun i_1 => [AV.int IntKind.i64 (List.getD [IntKind.wrap IntKind.i64 ((↑i : Int) * (2 : Int))] i_1 (0 : Int)), AV.int IntKind.i64 (List.getD [(↑(i + (1 : Nat)) : Int)] i_1 (0 : Int))]) []), some (Blk.mk true [] (2 : Nat) c_2 (fun r => if r < k then [AV.int IntKind.i64 (apZ tens k ((0 : Nat) + r)), AV.int IntKind.i64 (apZ ends k ((0 : Nat) + r))] else if r < k + (1 : Nat) then List.map (fun c => Col.at c ((0 : Nat) + (r - k))) ([] ++ [Col.ints IntKind.i64 [IntKind.wrap IntKind.i64 ((↑i : Int) * (2 : Int))]] ++ [Col.ints IntKind.i64 [(↑(i + (1 : Nat)) : Int)]]) else if c_3 = (0 : Nat) then AV.cells (AV.agg (List.reverse [AV.int IntKind.i64 (0 : Int), AV.int IntKind.i64 (0 : Int)])) else [AV.int IntKind.i64 (apZ tens k ((0 : Nat) + r)), AV.int IntKind.i64 (apZ ends k ((0 : Nat) + r))]) []), some (Blk.mk true [] (2 : Nat) c_4 (fun r => if r < (0 : Nat) then [] else if r < (0 : Nat) + (i + (1 : Nat)) then if (0 : Nat) + (r - (0 : Nat)) < i then [AV.int IntKind.i64 (apZ z i ((0 : Nat) + ((0 : Nat) + (r - (0 : Nat))))), AV.int IntKind.i64 (apZ y i ((0 : Nat) + ((0 : Nat) + (r - (0 : Nat)))))] else if (0 : Nat) + (r - (0 : Nat)) < i + (1 : Nat) then List.map (fun c => Col.at c ((0 : Nat) + ((0 : Nat) + (r - (0 : Nat)) - i))) ([] ++ [Col.ints IntKind.i64 [z ((0 : Nat) + Int.toNat (↑i : Int))]] ++ [Col.ints IntKind.i64 [y ((0 : Nat) + Int.toNat (↑i : Int))]]) else if c_1 = (0 : Nat) then AV.cells (AV.agg (List.reverse [AV.int IntKind.i64 (0 : Int), AV.int IntKind.i64 (0 : Int)])) else [AV.int IntKind.i64 (apZ z i ((0 : Nat) + ((0 : Nat) + (r - (0 : Nat))))), AV.int IntKind.i64 (apZ y i ((0 : Nat) + ((0 : Nat) + (r - (0 : Nat)))))] else AV.cells (AV.agg (List.reverse [AV.int IntKind.i64 (0 : Int), AV.int IntKind.i64 (0 : Int)]))) [])])))))))))))))))))))))))) (T.ite ((↑i : Int) == (15 : Int)) (T.ite (decide (IntKind.wrap IntKind.i64 ((↑i : Int) * (2 : Int)) ≤ (↑((10 : Nat) * k) : Int))) (T.ret (Ex.norm, St.mk [((0 : Nat), AV.sl (0 : Nat) (0 : Nat) (2 : Nat) (0 : Nat) len cap), ((1 : Nat), AV.int IntKind.i64 no), ((5 : Nat), AV.ptr (1 : Nat) (0 : Nat) (0 : Nat) (0 : Nat)), ((6 : Nat), AV.int IntKind.i64 (↑n : Int)), ((7 : Nat), AV.int IntKind.i64 (IntKind.wrap IntKind.i64 ((↑i : Int) + (1 : Int))))] [some (Blk.mk false [] (2 : Nat) cap (fun j => [AV.int IntKind.i64 (z j), AV.int IntKind.i64 (y j)]) []), some (Blk.mk true [AV.sl (6 : Nat) (0 : Nat) (2 : Nat) (0 : Nat) (i + (1 : Nat)) c, AV.sl (3 : Nat) (0 : Nat) (2 : Nat) (0 : Nat) k cc, AV.int IntKind.i64 (↑((10 : Nat) * k) : Int), AV.tt] (0 : Nat) (0 : Nat) (fun a => []) []), none, some (Blk.mk true [] (2 : Nat) cc (fun j => [AV.int IntKind.i64 (apZ tens k j), AV.int IntKind.i64 (apZ ends k j)]) []), some (Blk.mk true [AV.int IntKind.i64 (z ((0 : Nat) + Int.toNat (↑i : Int))), AV.int IntKind.i64 (y ((0 : Nat) + Int.toNat (↑i : Int)))] (0 : Nat) (0 : Nat) (fun x => []) []), some (Blk.mk true [] (2 : Nat) (1 : Nat) (fun i_1 => [AV.int IntKind.i64 (List.getD [z ((0 : Nat) + Int.toNat (↑i : Int))] i_1 (0 : Int)), AV.int IntKind.i64 (List.getD [y ((0 : Nat) + Int.toNat (↑i : Int))] i_1 (0 : Int))]) []), some (Blk.mk true [] (2 : Nat) c (fun r => if r < i then [AV.int IntKind.i64 (apZ z i ((0 : Nat) + r)), AV.int IntKind.i64 (apZ y i ((0 : Nat) + r))] else if r < i + (1 : Nat) then List.map (fun c => Col.at c ((0 : Nat) + (r - i))) ([] ++ [Col.ints IntKind.i64 [z ((0 : Nat) + Int.toNat (↑i : Int))]] ++ [Col.ints IntKind.i64 [y ((0 : Nat) + Int.toNat (↑i : Int))]]) else if c_1 = (0 : Nat) then AV.cells (AV.agg (List.reverse [AV.int IntKind.i64 (0 : Int), AV.int IntKind.i64 (0 : Int)])) else [AV.int IntKind.i64 (apZ z i ((0 : Nat) + r)), AV.int IntKind.i64 (apZ y i ((0 : Nat) + r))]) [])])) (T.need (AV.int IntKind.i64 (↑(i + (1 : Nat)) : Int) = AV.int IntKind.i64 (↑(i + (1 : Nat)) : Int)) (T.need (AV.sl (6 : Nat) (0 : Nat) (2 : Nat) (0 : Nat) (i + (1 : Nat)) c = AV.sl (6 : Nat) (0 : Nat) (2 : Nat) (0 : Nat) (i + (1 : Nat)) c) (T.need (AV.ptr (1 : Nat) (0 : Nat) (0 : Nat) (0 : Nat) = AV.ptr (1 : Nat) (0 : Nat) (0 : Nat) (0 : Nat)) (T.need (AV.sl (3 : Nat) (0 : Nat) (2 : Nat) (0 : Nat) k cc = AV.sl (3 : Nat) (0 : Nat) (2 : Nat) (0 : Nat) k cc) (T.need (AV.ptr (1 : Nat) (0 : Nat) (0 : Nat) (0 : Nat) = AV.ptr (1 : Nat) (0 : Nat) (0 : Nat) (0 : Nat)) (T.chk true (T.chk (decide ((0 : Nat) + cc ≤ cc)) (T.chk (decide (k ≤ cc)) (T.chk (decide (k + (1 : Nat) ≤ (4294967296 : Nat))) (T.all fun c_2 => T.all fun c_3 => T.asm (decide (k + (1 : Nat) ≤ c_2)) (T.need (AV.int IntKind.i64 (↑(i + (1 : Nat)) : Int) = AV.int IntKind.i64 (↑(i + (1 : Nat)) : Int)) (T.need (AV.sl (6 : Nat) (0 : Nat) (2 : Nat) (0 : Nat) (i + (1 : Nat)) c = AV.sl (6 : Nat) (0 : Nat) (2 : Nat) (0 : Nat) (i + (1 : Nat)) c) (T.need (AV.ptr (1 : Nat) (0 : Nat) (0 : Nat) (0 : Nat) = AV.ptr (1 : Nat) (0 : Nat) (0 : Nat) (0 : Nat)) (T.need (AV.ptr (1 : Nat) (0 : Nat) (0 : Nat) (0 : Nat) = AV.ptr (1 : Nat) (0 : Nat) (0 : Nat) (0 : Nat)) (T.need (AV.ptr (1 : Nat) (0 : Nat) (0 : Nat) (0 : Nat) = AV.ptr (1 : Nat) (0 : Nat) (0 : Nat) (0 : Nat)) (T.chk true (T.chk true (T.chk (decide ((0 : Nat) + (i + (1 : Nat)) ≤ c)) (@T.chk (Ex × St) true (T.chk (decide ((0 : Nat) + (i + (1 : Nat)) ≤ (4294967296 : Nat))) (T.all fun c_4 => T.asm (decide ((0 : Nat) + (i + (1 : Nat)) ≤ c_4)) (T.ret (Ex.norm, St.mk [((0 : Nat), AV.sl (0 : Nat) (0 : Nat) (2 : Nat) (0 : Nat) len cap), ((1 : Nat), AV.int IntKind.i64 no), ((5 : Nat), AV.ptr (1 : Nat) (0 : Nat) (0 : Nat) (0 : Nat)), ((6 : Nat), AV.int IntKind.i64 (↑n : Int)), ((7 : Nat), AV.int IntKind.i64 (IntKind.wrap IntKind.i64 ((↑i : Int) + (1 : Int))))] [some (Blk.mk false [] (2 : Nat) cap (fun j => [AV.int IntKind.i64 (z j), AV.int IntKind.i64 (y j)]) []), some (Blk.mk true [AV.sl (6 : Nat) (0 : Nat) (2 : Nat) (0 : Nat) (i + (1 : Nat)) c, AV.sl (8 : Nat) (0 : Nat) (2 : Nat) (0 : Nat) (k + (1 : Nat)) c_2, AV.int IntKind.i64 (IntKind.wrap IntKind.i64 ((↑i : Int) * (2 : Int))), AV.tt] (0 : Nat) (0 : Nat) (fun a => []) []), none, none, some (Blk.mk true [AV.int IntKind.i64 (z ((0 : Nat) + Int.toNat (↑i : Int))), AV.int IntKind.i64 (y ((0 : Nat) + Int.toNat (↑i : Int)))] (0 : Nat) (0 : Nat) (fun x => []) []), some (Blk.mk true [] (2 : Nat) (1 : Nat) (fun i_1 => [AV.int IntKind.i64 (List.getD [z ((0 : Nat) + Int.toNat (↑i : Int))] i_1 (0 : Int)), AV.int IntKind.i64 (List.getD [y ((0 : Nat) + Int.toNat (↑i : Int))] i_1 (0 : Int))]) []), some (Blk.mk true [] (2 : Nat) c (fun r => if r < i then [AV.int IntKind.i64 (apZ z i ((0 : Nat) + r)), AV.int IntKind.i64 (apZ y i ((0 : Nat) + r))] else if r < i + (1 : Nat) then List.map (fun c => Col.at c ((0 : Nat) + (r - i))) ([] ++ [Col.ints IntKind.i64 [z ((0 : Nat) + Int.toNat (↑i : Int))]] ++ [Col.ints IntKind.i64 [y ((0 : Nat) + Int.toNat (↑i : Int))]]) else if c_1 = (0 : Nat) then AV.cells (AV.agg (List.reverse [AV.int IntKind.i64 (0 : Int), AV.int IntKind.i64 (0 : Int)])) else [AV.int IntKind.i64 (apZ z i ((0 : Nat) + r)), AV.int IntKind.i64 (apZ y i ((0 : Nat) + r))]) []), some (Blk.mk true [] (2 : Nat) (1 : Nat) (fun i_1 => [AV.int IntKind.i64 (List.getD [IntKind.wrap IntKind.i64 ((↑i : Int) * (2 : Int))] i_1 (0 : Int)), AV.int IntKind.i64 (List.getD [(↑(i + (1 : Nat)) : Int)] i_1 (0 : Int))]) []), some (Blk.mk true [] (2 : Nat) c_2 (fun r => if r < k then [AV.int IntKind.i64 (apZ tens k ((0 : Nat) + r)), AV.int IntKind.i64 (apZ ends k ((0 : Nat) + r))] else if r < k + (1 : Nat) then List.map (fun c => Col.at c ((0 : Nat) + (r - k))) ([] ++ [Col.ints IntKind.i64 [IntKind.wrap IntKind.i64 ((↑i : Int) * (2 : Int))]] ++ [Col.ints IntKind.i64 [(↑(i + (1 : Nat)) : Int)]]) else if c_3 = (0 : Nat) then AV.cells (AV.agg (List.reverse [AV.int IntKind.i64 (0 : Int), AV.int IntKind.i64 (0 : Int)])) else [AV.int IntKind.i64 (apZ tens k ((0 : Nat) + r)), AV.int IntKind.i64 (apZ ends k ((0 : Nat) + r))]) []), some (Blk.mk true [] (2 : Nat) c_4 (fun r => if r < (0 : Nat) then [] else if r < (0 : Nat) + (i + (1 : Nat)) then if (0 : Nat) + (r - (0 : Nat)) < i then [AV.int IntKind.i64 (apZ z i ((0 : Nat) + ((0 : Nat) + (r - (0 : Nat))))), AV.int IntKind.i64 (apZ y i ((0 : Nat) + ((0 : Nat) + (r - (0 : Nat)))))] else if (0 : Nat) + (r - (0 : Nat)) < i + (1 : Nat) then List.map (fun c => Col.at c ((0 : Nat) + ((0 : Nat) + (r - (0 : Nat)) - i))) ([] ++ [Col.ints IntKind.i64 [z ((0 : Nat) + Int.toNat (↑i : Int))]] ++ [Col.ints IntKind.i64 [y ((0 : Nat) + Int.toNat (↑i : Int))]]) else if c_1 = (0 : Nat) then AV.cells (AV.agg (List.reverse [AV.int IntKind.i64 (0 : Int), AV.int IntKind.i64 (0 : Int)])) else [AV.int IntKind.i64 (apZ z i ((0 : Nat) + ((0 : Nat) + (r - (0 : Nat))))), AV.int IntKind.i64 (apZ y i ((0 : Nat) + ((0 : Nat) + (r - (0 : Nat)))))] else AV.cells (AV.agg (List.reverse [AV.int IntKind.i64 (0 : Int), AV.int IntKind.i64 (0 : Int)]))) [])])))))))))))))))))))))))) (T.ret (Ex.norm, St.mk [((0 : Nat), AV.sl (0 : Nat) (0 : Nat) (2 : Nat) (0 : Nat) len cap), ((1 : Nat), AV.int IntKind.i64 no), ((5 : Nat), AV.ptr (1 : Nat) (0 : Nat) (0 : Nat) (0 : Nat)), ((6 : Nat), AV.int IntKind.i64 (↑n : Int)), ((7 : Nat), AV.int IntKind.i64 (IntKind.wrap IntKind.i64 ((↑i : Int) + (1 : Int))))] [some (Blk.mk false [] (2 : Nat) cap (fun j => [AV.int IntKind.i64 (z j), AV.int IntKind.i64 (y j)]) []), some (Blk.mk true [AV.sl (6 : Nat) (0 : Nat) (2 : Nat) (0 : Nat) (i + (1 : Nat)) c, AV.sl (3 : Nat) (0 : Nat) (2 : Nat) (0 : Nat) k cc, AV.int IntKind.i64 (↑((10 : Nat) * k) : Int), AV.tt] (0 : Nat) (0 : Nat) (fun a => []) []), none, some (Blk.mk true [] (2 : Nat) cc (fun j => [AV.int IntKind.i64 (apZ tens k j), AV.int IntKind.i64 (apZ ends k j)]) []), some (Blk.mk true [AV.int IntKind.i64 (z ((0 : Nat) + Int.toNat (↑i : Int))), AV.int IntKind.i64 (y ((0 : Nat) + Int.toNat (↑i : Int)))] (0 : Nat) (0 : Nat) (fun x => []) []), some (Blk.mk true [] (2 : Nat) (1 : Nat) (fun i_1 => [AV.int IntKind.i64 (List.getD [z ((0 : Nat) + Int.toNat (↑i : Int))] i_1 (0 : Int)), AV.int IntKind.i64 (List.getD [y ((0 : Nat) + Int.toNat (↑i : Int))] i_1 (0 : Int))]) []), some (Blk.mk true [] (2 : Nat) c (fun r => if r < i then [AV.int IntKind.i64 (apZ z i ((0 : Nat) + r)), AV.int IntKind.i64 (apZ y i ((0 : Nat) + r))] else if r < i + (1 : Nat) then List.map (fun c => Col.at c ((0 : Nat) + (r - i))) ([] ++ [Col.ints IntKind.i64 [z ((0 : Nat) + Int.toNat (↑i : Int))]] ++ [Col.ints IntKind.i64 [y ((0 : Nat) + Int.toNat (↑i : Int))]]) else if c_1 = (0 : Nat) then AV.cells (AV.agg (List.reverse [AV.int IntKind.i64 (0 : Int), AV.int IntKind.i64 (0 : Int)])) else [AV.int IntKind.i64 (apZ z i ((0 : Nat) + r)), AV.int IntKind.i64 (apZ y i ((0 : Nat) + r))]) [])])))))))))))))))))) (T.ret (Ex.exit (0 : Nat), St.mk [((0 : Nat), AV.sl (0 : Nat) (0 : Nat) (2 : Nat) (0 : Nat) len cap), ((1 : Nat), AV.int IntKind.i64 no), ((5 : Nat), AV.ptr (1 : Nat) (0 : Nat) (0 : Nat) (0 : Nat)), ((6 : Nat), AV.int IntKind.i64 (↑n : Int)), ((7 : Nat), AV.int IntKind.i64 (↑i : Int))] [some (Blk.mk false [] (2 : Nat) cap (fun j => [AV.int IntKind.i64 (z j), AV.int IntKind.i64 (y j)]) []), some (Blk.mk true [AV.sl (2 : Nat) (0 : Nat) (2 : Nat) (0 : Nat) i c, AV.sl (3 : Nat) (0 : Nat) (2 : Nat) (0 : Nat) k cc, AV.int IntKind.i64 (↑((10 : Nat) * k) : Int), AV.tt] (0 : Nat) (0 : Nat) (fun x => []) []), some (Blk.mk true [] (2 : Nat) c (fun j => [AV.int IntKind.i64 (apZ z i j), AV.int IntKind.i64 (apZ y i j)]) []), some (Blk.mk true [] (2 : Nat) cc (fun j => [AV.int IntKind.i64 (apZ tens k j), AV.int IntKind.i64 (apZ ends k j)]) [])])) := by
  kernel_rfl

end Go.Proofs.Ythfgojdpnbpjbaa
