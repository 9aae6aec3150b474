/-
  Layer 13: Cuts, the second loop.
-/
import Derived.Test.YthfgojdpnbpjbaaHB
namespace Go.Proofs.Ythfgojdpnbpjbaa
open Go.Ox
set_option maxRecDepth 100000
set_option maxHeartbeats 4000000
set_option linter.unusedVariables false
set_option linter.unusedSimpArgs false

structure CV where
  z : Nat → Int
  y : Nat → Int
  len : Nat
  cap : Nat
  at_ : Nat
  a : Int
  b : Int
  n : Nat
  i : Nat
  one : Bool
  has : Bool
  c : Nat
  cc : Nat
  c1 : Nat

def uB (a e : Int) (cc : Nat) : Blk := Blk.rows true 2 cc fun j => [.int .i64 (apZ (fun _ => a) 1 j), .int .i64 (apZ (fun _ => e) 1 j)]

def c2Fr (x : CV) (one : AV) : List (Nat × AV) := [(0, .sl 0 0 2 0 x.len x.cap), (1, .int .i64 x.at_), (2, .int .i64 x.a), (3, .int .i64 x.b), (9, .ptr 1 0 0 0), (10, .int .i64 x.n), (12, one), (13, .int .i64 x.i)]

def c2Me (x : CV) (recs : AV) (l : AM) : AM := some (lB x.z x.y x.cap) :: some (sB [recs, .sl 2 0 2 0 1 x.cc, .int .i64 x.a, .tt]) :: some (uB x.a x.at_ x.cc) :: l

def c2St (x : CV) : St :=
  match x.one, x.has with
  | false, false => ⟨c2Fr x .nils, c2Me x .nils []⟩
  | false, true => ⟨c2Fr x .nils, c2Me x (.sl 3 0 2 0 x.i x.c) [some (rB x.z x.y x.i x.c)]⟩
  | true, _ => ⟨c2Fr x (.sl 4 0 2 0 x.at_ x.c1), c2Me x (.sl 3 0 2 0 x.i x.c) [some (rB x.z x.y x.i x.c), some (rB x.z x.y x.at_ x.c1)]⟩

def c2Inv (x : CV) : Prop := x.at_ ≤ x.n ∧ x.n ≤ 100 ∧ x.n ≤ x.len ∧ x.len ≤ x.cap ∧ x.at_ ≤ x.i ∧ x.i ≤ x.n ∧ 1 ≤ x.cc ∧
  (x.one = false → x.at_ = 0 ∧ (x.has = false → x.i = 0) ∧ (x.has = true → 1 ≤ x.i ∧ x.i ≤ x.c)) ∧ (x.one = true → x.has = true ∧ 1 ≤ x.at_ ∧ x.i ≤ x.c ∧ x.at_ ≤ x.c1)

def recOf (m : AM) : List AV :=
  match AM.get m 1 with
  | some b => b.pre
  | none => []

def c2Pick (st : St) : Option CV :=
  match AM.get st.m 0, recOf st.m, slotAt st.fr 0, slotAt st.fr 1, slotAt st.fr 2, slotAt st.fr 3, slotAt st.fr 10, slotAt st.fr 12, slotAt st.fr 13 with
  | some bl, [recs, .sl _ _ _ _ _ cc, _, _], some (.sl _ _ _ _ len cap), some (.int _ (.ofNat at_)), some (.int _ a), some (.int _ b), some (.int _ (.ofNat n)), some one, some (.int _ (.ofNat i)) =>
    match recs, one with
    | .nils, .nils => some ⟨fstAt bl, sndAt bl, len, cap, at_, a, b, n, i, false, false, 0, cc, 0⟩
    | .sl _ _ _ _ _ c, .nils => some ⟨fstAt bl, sndAt bl, len, cap, at_, a, b, n, i, false, true, c, cc, 0⟩
    | .sl _ _ _ _ _ c, .sl _ _ _ _ _ c1 => some ⟨fstAt bl, sndAt bl, len, cap, at_, a, b, n, i, true, true, c, cc, c1⟩
    | _, _ => none
  | _, _, _, _, _, _, _, _, _ => none

def c2Fe (x : CV) (one : AV) : List (Nat × AV) := [(0, .sl 0 0 2 0 x.len x.cap), (1, .int .i64 x.at_), (2, .int .i64 x.a), (3, .int .i64 x.b), (9, .ptr 1 0 0 0), (10, .int .i64 x.n), (12, one)]

def c2End (x : CV) : T (Ex × St) :=
  match x.one with
  | false => .ite (decide (x.n = 0)) (.ret (.exit 2, ⟨c2Fe x .nils, c2Me x .nils []⟩))
      (.all fun c => .asm (decide (x.n ≤ c)) (.ret (.exit 2, ⟨c2Fe x .nils, c2Me x (.sl 3 0 2 0 x.n c) [some (rB x.z x.y x.n c)]⟩)))
  | true => .all fun c => .asm (decide (x.n ≤ c)) (.ret (.exit 2, ⟨c2Fe x (.sl 4 0 2 0 x.at_ x.c1), c2Me x (.sl 3 0 2 0 x.n c) [some (rB x.z x.y x.n c), some (rB x.z x.y x.at_ x.c1)]⟩))

noncomputable def cvE : Env := { nt := Try.f5.ntmps, n0 := 1, vec := true, fns := inl Try.prog cuB cuL, loop := fun k => if k = 7 then loopSumm 1 c1St c1Inv c1Pick c1End else if k = 14 then loopSumm 1 c2St c2Inv c2Pick c2End else fun _ => .fail }

theorem c2_tree0 (z y : Nat → Int) (len cap at_ n i c cc c1 : Nat) (a b : Int) : keepT [0, 1, 2, 3, 9, 10, 12, 13] (acode Try.prog cvE (loopAt (codeOf Try.f5) 1) (c2St ⟨z, y, len, cap, at_, a, b, n, i, false, false, c, cc, c1⟩)) = 
  T.ite (decide ((↑i : Int) < (↑n : Int)))
    (T.chk (decide ((0 : Int) ≤ (↑i : Int)) && decide ((↑i : Int) < (↑len : Int)))
      (T.chk (decide ((0 : Nat) + Int.toNat (↑i : Int) < cap))
        (T.chk (decide ((0 : Nat) + Int.toNat (↑i : Int) < cap))
          (T.need (AV.nils = AV.nils)
            (T.need (AV.ptr (1 : Nat) (0 : Nat) (0 : Nat) (0 : Nat) = AV.ptr (1 : Nat) (0 : Nat) (0 : Nat) (0 : Nat))
              (T.chk (decide ((1 : Nat) ≤ (1 : Nat)))
                (T.ite false
                  (T.need (AV.agg [AV.int IntKind.i64 (z ((0 : Nat) + Int.toNat (↑i : Int))), AV.int IntKind.i64 (y ((0 : Nat) + Int.toNat (↑i : Int)))] = AV.agg [AV.int IntKind.i64 (z ((0 : Nat) + Int.toNat (↑i : Int))), AV.int IntKind.i64 (y ((0 : Nat) + Int.toNat (↑i : Int)))])
                    (T.need (AV.ptr (1 : Nat) (0 : Nat) (0 : Nat) (0 : Nat) = AV.ptr (1 : Nat) (0 : Nat) (0 : Nat) (0 : Nat))
                      (T.need (AV.ptr (1 : Nat) (0 : Nat) (0 : Nat) (0 : Nat) = AV.ptr (1 : Nat) (0 : Nat) (0 : Nat) (0 : Nat))
                        (T.ret
                          (Ex.norm,
                            St.mk
                              [((0 : Nat), AV.sl (0 : Nat) (0 : Nat) (2 : Nat) (0 : Nat) len cap), ((1 : Nat), AV.int IntKind.i64 (↑at_ : Int)), ((2 : Nat), AV.int IntKind.i64 a), ((3 : Nat), AV.int IntKind.i64 b), ((9 : Nat), AV.ptr (1 : Nat) (0 : Nat) (0 : Nat) (0 : Nat)), ((10 : Nat), AV.int IntKind.i64 (↑n : Int)), ((12 : Nat), AV.nils),
                                ((13 : Nat), AV.int IntKind.i64 (IntKind.wrap IntKind.i64 ((↑i : Int) + (1 : Int))))]
                              [some (Blk.mk false [] (2 : Nat) cap (fun j => [AV.int IntKind.i64 (z j), AV.int IntKind.i64 (y j)]) []), some (Blk.mk true [AV.nils, AV.sl (2 : Nat) (0 : Nat) (2 : Nat) (0 : Nat) (1 : Nat) cc, AV.int IntKind.i64 a, AV.tt] (0 : Nat) (0 : Nat) (fun a => []) []),
                                some (Blk.mk true [] (2 : Nat) cc (fun j => [AV.int IntKind.i64 (apZ (fun x => a) (1 : Nat) j), AV.int IntKind.i64 (apZ (fun x => (↑at_ : Int)) (1 : Nat) j)]) []), some (Blk.mk true [AV.int IntKind.i64 (z ((0 : Nat) + Int.toNat (↑i : Int))), AV.int IntKind.i64 (y ((0 : Nat) + Int.toNat (↑i : Int)))] (0 : Nat) (0 : Nat) (fun x => []) []),
                                some (Blk.mk true [] (2 : Nat) (1 : Nat) (fun i_1 => [AV.int IntKind.i64 (List.getD [z ((0 : Nat) + Int.toNat (↑i : Int))] i_1 (0 : Int)), AV.int IntKind.i64 (List.getD [y ((0 : Nat) + Int.toNat (↑i : Int))] i_1 (0 : Int))]) [])])))))
                  (T.chk true
                    (T.all fun c =>
                      T.asm (decide ((1 : Nat) ≤ c))
                        (T.need (AV.agg [AV.int IntKind.i64 (z ((0 : Nat) + Int.toNat (↑i : Int))), AV.int IntKind.i64 (y ((0 : Nat) + Int.toNat (↑i : Int)))] = AV.agg [AV.int IntKind.i64 (z ((0 : Nat) + Int.toNat (↑i : Int))), AV.int IntKind.i64 (y ((0 : Nat) + Int.toNat (↑i : Int)))])
                          (T.need (AV.ptr (1 : Nat) (0 : Nat) (0 : Nat) (0 : Nat) = AV.ptr (1 : Nat) (0 : Nat) (0 : Nat) (0 : Nat))
                            (T.need (AV.ptr (1 : Nat) (0 : Nat) (0 : Nat) (0 : Nat) = AV.ptr (1 : Nat) (0 : Nat) (0 : Nat) (0 : Nat))
                              (T.ret
                                (Ex.norm,
                                  St.mk
                                    [((0 : Nat), AV.sl (0 : Nat) (0 : Nat) (2 : Nat) (0 : Nat) len cap), ((1 : Nat), AV.int IntKind.i64 (↑at_ : Int)), ((2 : Nat), AV.int IntKind.i64 a), ((3 : Nat), AV.int IntKind.i64 b), ((9 : Nat), AV.ptr (1 : Nat) (0 : Nat) (0 : Nat) (0 : Nat)), ((10 : Nat), AV.int IntKind.i64 (↑n : Int)), ((12 : Nat), AV.nils),
                                      ((13 : Nat), AV.int IntKind.i64 (IntKind.wrap IntKind.i64 ((↑i : Int) + (1 : Int))))]
                                    [some (Blk.mk false [] (2 : Nat) cap (fun j => [AV.int IntKind.i64 (z j), AV.int IntKind.i64 (y j)]) []), some (Blk.mk true [AV.sl (5 : Nat) (0 : Nat) (2 : Nat) (0 : Nat) (1 : Nat) c, AV.sl (2 : Nat) (0 : Nat) (2 : Nat) (0 : Nat) (1 : Nat) cc, AV.int IntKind.i64 a, AV.tt] (0 : Nat) (0 : Nat) (fun a => []) []),
                                      some (Blk.mk true [] (2 : Nat) cc (fun j => [AV.int IntKind.i64 (apZ (fun x => a) (1 : Nat) j), AV.int IntKind.i64 (apZ (fun x => (↑at_ : Int)) (1 : Nat) j)]) []), some (Blk.mk true [AV.int IntKind.i64 (z ((0 : Nat) + Int.toNat (↑i : Int))), AV.int IntKind.i64 (y ((0 : Nat) + Int.toNat (↑i : Int)))] (0 : Nat) (0 : Nat) (fun x => []) []),
                                      some (Blk.mk true [] (2 : Nat) (1 : Nat) (fun i_1 => [AV.int IntKind.i64 (List.getD [z ((0 : Nat) + Int.toNat (↑i : Int))] i_1 (0 : Int)), AV.int IntKind.i64 (List.getD [y ((0 : Nat) + Int.toNat (↑i : Int))] i_1 (0 : Int))]) []),
                                      some
                                        (Blk.mk true [] (2 : Nat) c
                                          (fun r => if r < (0 : Nat) then [] else if r < (1 : Nat) then List.map (fun c => Col.at c ((0 : Nat) + (r - (0 : Nat)))) ([] ++ [Col.ints IntKind.i64 [z ((0 : Nat) + Int.toNat (↑i : Int))]] ++ [Col.ints IntKind.i64 [y ((0 : Nat) + Int.toNat (↑i : Int))]]) else AV.cells (AV.agg (List.reverse [AV.int IntKind.i64 (0 : Int), AV.int IntKind.i64 (0 : Int)])))
                                          [])]))))))))))))))
    (T.ret
      (Ex.exit (2 : Nat),
        St.mk [((0 : Nat), AV.sl (0 : Nat) (0 : Nat) (2 : Nat) (0 : Nat) len cap), ((1 : Nat), AV.int IntKind.i64 (↑at_ : Int)), ((2 : Nat), AV.int IntKind.i64 a), ((3 : Nat), AV.int IntKind.i64 b), ((9 : Nat), AV.ptr (1 : Nat) (0 : Nat) (0 : Nat) (0 : Nat)), ((10 : Nat), AV.int IntKind.i64 (↑n : Int)), ((12 : Nat), AV.nils), ((13 : Nat), AV.int IntKind.i64 (↑i : Int))]
          [some (Blk.mk false [] (2 : Nat) cap (fun j => [AV.int IntKind.i64 (z j), AV.int IntKind.i64 (y j)]) []), some (Blk.mk true [AV.nils, AV.sl (2 : Nat) (0 : Nat) (2 : Nat) (0 : Nat) (1 : Nat) cc, AV.int IntKind.i64 a, AV.tt] (0 : Nat) (0 : Nat) (fun x => []) []),
            some (Blk.mk true [] (2 : Nat) cc (fun j => [AV.int IntKind.i64 (apZ (fun x => a) (1 : Nat) j), AV.int IntKind.i64 (apZ (fun x => (↑at_ : Int)) (1 : Nat) j)]) [])])) := by
  kernel_rfl

theorem c2_tree1 (z y : Nat → Int) (len cap at_ n i c cc c1 : Nat) (a b : Int) : keepT [0, 1, 2, 3, 9, 10, 12, 13] (acode Try.prog cvE (loopAt (codeOf Try.f5) 1) (c2St ⟨z, y, len, cap, at_, a, b, n, i, false, true, c, cc, c1⟩)) = 
  T.ite (decide ((↑i : Int) < (↑n : Int)))
    (T.chk (decide ((0 : Int) ≤ (↑i : Int)) && decide ((↑i : Int) < (↑len : Int)))
      (T.chk (decide ((0 : Nat) + Int.toNat (↑i : Int) < cap))
        (T.chk (decide ((0 : Nat) + Int.toNat (↑i : Int) < cap))
          (T.need (AV.sl (3 : Nat) (0 : Nat) (2 : Nat) (0 : Nat) i c = AV.sl (3 : Nat) (0 : Nat) (2 : Nat) (0 : Nat) i c)
            (T.need (AV.ptr (1 : Nat) (0 : Nat) (0 : Nat) (0 : Nat) = AV.ptr (1 : Nat) (0 : Nat) (0 : Nat) (0 : Nat))
              (T.chk (decide ((1 : Nat) ≤ (1 : Nat)))
                (T.chk (decide ((0 : Nat) + c ≤ c))
                  (T.chk (decide (i ≤ c))
                    (T.chk (decide (i + (1 : Nat) ≤ (4294967296 : Nat)))
                      (T.all fun c =>
                        T.all fun c_1 =>
                          T.asm (decide (i + (1 : Nat) ≤ c))
                            (T.need (AV.agg [AV.int IntKind.i64 (z ((0 : Nat) + Int.toNat (↑i : Int))), AV.int IntKind.i64 (y ((0 : Nat) + Int.toNat (↑i : Int)))] = AV.agg [AV.int IntKind.i64 (z ((0 : Nat) + Int.toNat (↑i : Int))), AV.int IntKind.i64 (y ((0 : Nat) + Int.toNat (↑i : Int)))])
                              (T.need (AV.ptr (1 : Nat) (0 : Nat) (0 : Nat) (0 : Nat) = AV.ptr (1 : Nat) (0 : Nat) (0 : Nat) (0 : Nat))
                                (T.need (AV.ptr (1 : Nat) (0 : Nat) (0 : Nat) (0 : Nat) = AV.ptr (1 : Nat) (0 : Nat) (0 : Nat) (0 : Nat))
                                  (T.ret
                                    (Ex.norm,
                                      St.mk
                                        [((0 : Nat), AV.sl (0 : Nat) (0 : Nat) (2 : Nat) (0 : Nat) len cap), ((1 : Nat), AV.int IntKind.i64 (↑at_ : Int)), ((2 : Nat), AV.int IntKind.i64 a), ((3 : Nat), AV.int IntKind.i64 b), ((9 : Nat), AV.ptr (1 : Nat) (0 : Nat) (0 : Nat) (0 : Nat)), ((10 : Nat), AV.int IntKind.i64 (↑n : Int)), ((12 : Nat), AV.nils),
                                          ((13 : Nat), AV.int IntKind.i64 (IntKind.wrap IntKind.i64 ((↑i : Int) + (1 : Int))))]
                                        [some (Blk.mk false [] (2 : Nat) cap (fun j => [AV.int IntKind.i64 (z j), AV.int IntKind.i64 (y j)]) []), some (Blk.mk true [AV.sl (6 : Nat) (0 : Nat) (2 : Nat) (0 : Nat) (i + (1 : Nat)) c, AV.sl (2 : Nat) (0 : Nat) (2 : Nat) (0 : Nat) (1 : Nat) cc, AV.int IntKind.i64 a, AV.tt] (0 : Nat) (0 : Nat) (fun a => []) []),
                                          some (Blk.mk true [] (2 : Nat) cc (fun j => [AV.int IntKind.i64 (apZ (fun x => a) (1 : Nat) j), AV.int IntKind.i64 (apZ (fun x => (↑at_ : Int)) (1 : Nat) j)]) []), none, some (Blk.mk true [AV.int IntKind.i64 (z ((0 : Nat) + Int.toNat (↑i : Int))), AV.int IntKind.i64 (y ((0 : Nat) + Int.toNat (↑i : Int)))] (0 : Nat) (0 : Nat) (fun x => []) []),
                                          some (Blk.mk true [] (2 : Nat) (1 : Nat) (fun i_1 => [AV.int IntKind.i64 (List.getD [z ((0 : Nat) + Int.toNat (↑i : Int))] i_1 (0 : Int)), AV.int IntKind.i64 (List.getD [y ((0 : Nat) + Int.toNat (↑i : Int))] i_1 (0 : Int))]) []),
                                          some
                                            (Blk.mk true [] (2 : Nat) c
                                              (fun r =>
                                                if r < i then [AV.int IntKind.i64 (apZ z i ((0 : Nat) + r)), AV.int IntKind.i64 (apZ y i ((0 : Nat) + r))]
                                                else
                                                  if r < i + (1 : Nat) then List.map (fun c => Col.at c ((0 : Nat) + (r - i))) ([] ++ [Col.ints IntKind.i64 [z ((0 : Nat) + Int.toNat (↑i : Int))]] ++ [Col.ints IntKind.i64 [y ((0 : Nat) + Int.toNat (↑i : Int))]])
                                                  else if c_1 = (0 : Nat) then AV.cells (AV.agg (List.reverse [AV.int IntKind.i64 (0 : Int), AV.int IntKind.i64 (0 : Int)])) else [AV.int IntKind.i64 (apZ z i ((0 : Nat) + r)), AV.int IntKind.i64 (apZ y i ((0 : Nat) + r))])
                                              [])])))))))))))))))
    (T.ret
      (Ex.exit (2 : Nat),
        St.mk [((0 : Nat), AV.sl (0 : Nat) (0 : Nat) (2 : Nat) (0 : Nat) len cap), ((1 : Nat), AV.int IntKind.i64 (↑at_ : Int)), ((2 : Nat), AV.int IntKind.i64 a), ((3 : Nat), AV.int IntKind.i64 b), ((9 : Nat), AV.ptr (1 : Nat) (0 : Nat) (0 : Nat) (0 : Nat)), ((10 : Nat), AV.int IntKind.i64 (↑n : Int)), ((12 : Nat), AV.nils), ((13 : Nat), AV.int IntKind.i64 (↑i : Int))]
          [some (Blk.mk false [] (2 : Nat) cap (fun j => [AV.int IntKind.i64 (z j), AV.int IntKind.i64 (y j)]) []), some (Blk.mk true [AV.sl (3 : Nat) (0 : Nat) (2 : Nat) (0 : Nat) i c, AV.sl (2 : Nat) (0 : Nat) (2 : Nat) (0 : Nat) (1 : Nat) cc, AV.int IntKind.i64 a, AV.tt] (0 : Nat) (0 : Nat) (fun x => []) []),
            some (Blk.mk true [] (2 : Nat) cc (fun j => [AV.int IntKind.i64 (apZ (fun x => a) (1 : Nat) j), AV.int IntKind.i64 (apZ (fun x => (↑at_ : Int)) (1 : Nat) j)]) []), some (Blk.mk true [] (2 : Nat) c (fun j => [AV.int IntKind.i64 (apZ z i j), AV.int IntKind.i64 (apZ y i j)]) [])])) := by
  kernel_rfl

theorem c2_tree2 (z y : Nat → Int) (len cap at_ n i c cc c1 : Nat) (a b : Int) : keepT [0, 1, 2, 3, 9, 10, 12, 13] (acode Try.prog cvE (loopAt (codeOf Try.f5) 1) (c2St ⟨z, y, len, cap, at_, a, b, n, i, true, true, c, cc, c1⟩)) = 
  T.ite (decide ((↑i : Int) < (↑n : Int)))
    (T.chk (decide ((0 : Int) ≤ (↑i : Int)) && decide ((↑i : Int) < (↑len : Int)))
      (T.chk (decide ((0 : Nat) + Int.toNat (↑i : Int) < cap))
        (T.chk (decide ((0 : Nat) + Int.toNat (↑i : Int) < cap))
          (T.need (AV.sl (3 : Nat) (0 : Nat) (2 : Nat) (0 : Nat) i c = AV.sl (3 : Nat) (0 : Nat) (2 : Nat) (0 : Nat) i c)
            (T.need (AV.ptr (1 : Nat) (0 : Nat) (0 : Nat) (0 : Nat) = AV.ptr (1 : Nat) (0 : Nat) (0 : Nat) (0 : Nat))
              (T.chk (decide ((1 : Nat) ≤ (1 : Nat)))
                (T.chk (decide ((0 : Nat) + c ≤ c))
                  (T.chk (decide (i ≤ c))
                    (T.chk (decide (i + (1 : Nat) ≤ (4294967296 : Nat)))
                      (T.all fun c =>
                        T.all fun c_1 =>
                          T.asm (decide (i + (1 : Nat) ≤ c))
                            (T.need (AV.agg [AV.int IntKind.i64 (z ((0 : Nat) + Int.toNat (↑i : Int))), AV.int IntKind.i64 (y ((0 : Nat) + Int.toNat (↑i : Int)))] = AV.agg [AV.int IntKind.i64 (z ((0 : Nat) + Int.toNat (↑i : Int))), AV.int IntKind.i64 (y ((0 : Nat) + Int.toNat (↑i : Int)))])
                              (T.need (AV.ptr (1 : Nat) (0 : Nat) (0 : Nat) (0 : Nat) = AV.ptr (1 : Nat) (0 : Nat) (0 : Nat) (0 : Nat))
                                (T.need (AV.ptr (1 : Nat) (0 : Nat) (0 : Nat) (0 : Nat) = AV.ptr (1 : Nat) (0 : Nat) (0 : Nat) (0 : Nat))
                                  (T.ret
                                    (Ex.norm,
                                      St.mk
                                        [((0 : Nat), AV.sl (0 : Nat) (0 : Nat) (2 : Nat) (0 : Nat) len cap), ((1 : Nat), AV.int IntKind.i64 (↑at_ : Int)), ((2 : Nat), AV.int IntKind.i64 a), ((3 : Nat), AV.int IntKind.i64 b), ((9 : Nat), AV.ptr (1 : Nat) (0 : Nat) (0 : Nat) (0 : Nat)), ((10 : Nat), AV.int IntKind.i64 (↑n : Int)), ((12 : Nat), AV.sl (4 : Nat) (0 : Nat) (2 : Nat) (0 : Nat) at_ c1),
                                          ((13 : Nat), AV.int IntKind.i64 (IntKind.wrap IntKind.i64 ((↑i : Int) + (1 : Int))))]
                                        [some (Blk.mk false [] (2 : Nat) cap (fun j => [AV.int IntKind.i64 (z j), AV.int IntKind.i64 (y j)]) []), some (Blk.mk true [AV.sl (7 : Nat) (0 : Nat) (2 : Nat) (0 : Nat) (i + (1 : Nat)) c, AV.sl (2 : Nat) (0 : Nat) (2 : Nat) (0 : Nat) (1 : Nat) cc, AV.int IntKind.i64 a, AV.tt] (0 : Nat) (0 : Nat) (fun a => []) []),
                                          some (Blk.mk true [] (2 : Nat) cc (fun j => [AV.int IntKind.i64 (apZ (fun x => a) (1 : Nat) j), AV.int IntKind.i64 (apZ (fun x => (↑at_ : Int)) (1 : Nat) j)]) []), none, some (Blk.mk true [] (2 : Nat) c1 (fun j => [AV.int IntKind.i64 (apZ z at_ j), AV.int IntKind.i64 (apZ y at_ j)]) []),
                                          some (Blk.mk true [AV.int IntKind.i64 (z ((0 : Nat) + Int.toNat (↑i : Int))), AV.int IntKind.i64 (y ((0 : Nat) + Int.toNat (↑i : Int)))] (0 : Nat) (0 : Nat) (fun x => []) []),
                                          some (Blk.mk true [] (2 : Nat) (1 : Nat) (fun i_1 => [AV.int IntKind.i64 (List.getD [z ((0 : Nat) + Int.toNat (↑i : Int))] i_1 (0 : Int)), AV.int IntKind.i64 (List.getD [y ((0 : Nat) + Int.toNat (↑i : Int))] i_1 (0 : Int))]) []),
                                          some
                                            (Blk.mk true [] (2 : Nat) c
                                              (fun r =>
                                                if r < i then [AV.int IntKind.i64 (apZ z i ((0 : Nat) + r)), AV.int IntKind.i64 (apZ y i ((0 : Nat) + r))]
                                                else
                                                  if r < i + (1 : Nat) then List.map (fun c => Col.at c ((0 : Nat) + (r - i))) ([] ++ [Col.ints IntKind.i64 [z ((0 : Nat) + Int.toNat (↑i : Int))]] ++ [Col.ints IntKind.i64 [y ((0 : Nat) + Int.toNat (↑i : Int))]])
                                                  else if c_1 = (0 : Nat) then AV.cells (AV.agg (List.reverse [AV.int IntKind.i64 (0 : Int), AV.int IntKind.i64 (0 : Int)])) else [AV.int IntKind.i64 (apZ z i ((0 : Nat) + r)), AV.int IntKind.i64 (apZ y i ((0 : Nat) + r))])
                                              [])])))))))))))))))
    (T.ret
      (Ex.exit (2 : Nat),
        St.mk
          [((0 : Nat), AV.sl (0 : Nat) (0 : Nat) (2 : Nat) (0 : Nat) len cap), ((1 : Nat), AV.int IntKind.i64 (↑at_ : Int)), ((2 : Nat), AV.int IntKind.i64 a), ((3 : Nat), AV.int IntKind.i64 b), ((9 : Nat), AV.ptr (1 : Nat) (0 : Nat) (0 : Nat) (0 : Nat)), ((10 : Nat), AV.int IntKind.i64 (↑n : Int)), ((12 : Nat), AV.sl (4 : Nat) (0 : Nat) (2 : Nat) (0 : Nat) at_ c1),
            ((13 : Nat), AV.int IntKind.i64 (↑i : Int))]
          [some (Blk.mk false [] (2 : Nat) cap (fun j => [AV.int IntKind.i64 (z j), AV.int IntKind.i64 (y j)]) []), some (Blk.mk true [AV.sl (3 : Nat) (0 : Nat) (2 : Nat) (0 : Nat) i c, AV.sl (2 : Nat) (0 : Nat) (2 : Nat) (0 : Nat) (1 : Nat) cc, AV.int IntKind.i64 a, AV.tt] (0 : Nat) (0 : Nat) (fun x => []) []),
            some (Blk.mk true [] (2 : Nat) cc (fun j => [AV.int IntKind.i64 (apZ (fun x => a) (1 : Nat) j), AV.int IntKind.i64 (apZ (fun x => (↑at_ : Int)) (1 : Nat) j)]) []), some (Blk.mk true [] (2 : Nat) c (fun j => [AV.int IntKind.i64 (apZ z i j), AV.int IntKind.i64 (apZ y i j)]) []),
            some (Blk.mk true [] (2 : Nat) c1 (fun j => [AV.int IntKind.i64 (apZ z at_ j), AV.int IntKind.i64 (apZ y at_ j)]) [])])) := by
  kernel_rfl

end Go.Proofs.Ythfgojdpnbpjbaa
