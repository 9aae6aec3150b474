/-
  Layer 13: Cuts.
-/
import Derived.Test.YthfgojdpnbpjbaaHK
import Derived.Test.YthfgojdpnbpjbaaHSameRecs
import Derived.Test.YthfgojdpnbpjbaaHPick
namespace Go.Proofs.Ythfgojdpnbpjbaa
open Go.Ox
set_option maxRecDepth 100000
set_option maxHeartbeats 4000000
set_option linter.unusedVariables false
set_option linter.unusedSimpArgs false

def pkV (k n : Int) : Int := if n < 1 then 0 else k % n

def pickO : List AV → T AV
  | [.int .i64 k, .int .i64 n] => .chk (decide (n ≤ 9223372036854775807)) (.ret (.int .i64 (pkV k n)))
  | _ => .fail

theorem pickO_ok : SummOK Try.prog 10 (.pure fun args _ => pickO args) := by
  refine pure_weak pick_ok fun args m Q h => ?_
  unfold pickO at h
  split at h
  · exact h
  · exact h.elim

noncomputable def cuB : List (Nat × Summ) := (12, .pure sameRS) :: (10, .pure fun args _ => pickO args) :: knB

theorem cuB_ok : EnvOK Try.prog cuB := EnvOK.cons sr_ok (EnvOK.cons pickO_ok knB_ok)

noncomputable def cuL : List (Nat × Func) := [(22, Try.f22), (20, Try.f20), (19, Try.f19), (17, Try.f17), (11, Try.f11), (8, Try.f8)]

theorem cuL_ok : InlOK Try.prog cuL := ⟨⟨fun args w => Try.call22 args w, Try.func22, rfl, by kernel_rfl⟩, ⟨fun args w => Try.call20 args w, Try.func20, rfl, by kernel_rfl⟩, ⟨fun args w => Try.call19 args w, Try.func19, rfl, by kernel_rfl⟩, ⟨fun args w => Try.call17 args w, Try.func17, rfl, by kernel_rfl⟩, ⟨fun args w => Try.call11 args w, Try.func11, rfl, by kernel_rfl⟩, ⟨fun args w => Try.call8 args w, Try.func8, rfl, by kernel_rfl⟩, trivial⟩

structure CU where
  z : Nat → Int
  y : Nat → Int
  len : Nat
  cap : Nat
  at_ : Nat
  a : Int
  b : Int
  n : Int
  i : Nat
  has : Bool
  c : Nat

def apZ (z : Nat → Int) (i r : Nat) : Int := if r < i then z r else 0

def lB (z y : Nat → Int) (cap : Nat) : Blk := Blk.rows false 2 cap fun j => [.int .i64 (z j), .int .i64 (y j)]

def rB (z y : Nat → Int) (i c : Nat) : Blk := Blk.rows true 2 c fun j => [.int .i64 (apZ z i j), .int .i64 (apZ y i j)]

def sB (l : List AV) : Blk := Blk.mk true l 0 0 (fun _ => []) []

def c1St (x : CU) : St :=
  match x.has with
  | false => ⟨[(0, .sl 0 0 2 0 x.len x.cap), (1, .int .i64 x.at_), (2, .int .i64 x.a), (3, .int .i64 x.b), (9, .ptr 1 0 0 0), (10, .int .i64 x.n), (11, .int .i64 x.i)], [some (lB x.z x.y x.cap), some (sB [.nils, .nils, .int .i64 0, .ff])]⟩
  | true => ⟨[(0, .sl 0 0 2 0 x.len x.cap), (1, .int .i64 x.at_), (2, .int .i64 x.a), (3, .int .i64 x.b), (9, .ptr 1 0 0 0), (10, .int .i64 x.n), (11, .int .i64 x.i)], [some (lB x.z x.y x.cap), some (sB [.sl 2 0 2 0 x.i x.c, .nils, .int .i64 0, .ff]), some (rB x.z x.y x.i x.c)]⟩

def c1Inv (x : CU) : Prop := 0 ≤ x.n ∧ x.at_ ≤ x.len ∧ x.at_ ≤ 100 ∧ x.len ≤ x.cap ∧ x.i ≤ x.at_ ∧ (x.has = false → x.i = 0) ∧ (x.has = true → 1 ≤ x.i ∧ x.i ≤ x.c)

def c1Pick (st : St) : Option CU :=
  match AM.get st.m 0, slotAt st.fr 0, slotAt st.fr 1, slotAt st.fr 2, slotAt st.fr 3, slotAt st.fr 10 with
  | some bl, some (.sl _ _ _ _ len cap), some (.int _ at_), some (.int _ a), some (.int _ b), some (.int _ n) => some ⟨fstAt bl, sndAt bl, len, cap, at_.toNat, a, b, n, 0, false, 0⟩
  | _, _, _, _, _, _ => none

def c1End (x : CU) : T (Ex × St) :=
  .all fun A => .asm (decide (A = x.at_)) (.all fun N => .asm (decide ((N : Int) = x.n)) (.ite (decide (A = 0))
    (.ret (.exit 0, ⟨[(0, .sl 0 0 2 0 x.len x.cap), (1, .int .i64 (0 : Nat)), (2, .int .i64 x.a), (3, .int .i64 x.b), (9, .ptr 1 0 0 0), (10, .int .i64 N)], [some (lB x.z x.y x.cap), some (sB [.nils, .nils, .int .i64 0, .ff])]⟩))
    (.all fun c => .asm (decide (A ≤ c)) (.ret (.exit 0, ⟨[(0, .sl 0 0 2 0 x.len x.cap), (1, .int .i64 A), (2, .int .i64 x.a), (3, .int .i64 x.b), (9, .ptr 1 0 0 0), (10, .int .i64 N)], [some (lB x.z x.y x.cap), some (sB [.sl 2 0 2 0 A c, .nils, .int .i64 0, .ff]), some (rB x.z x.y A c)]⟩)))))

noncomputable def cuE : Env := { nt := Try.f5.ntmps, n0 := 1, vec := true, fns := inl Try.prog cuB cuL, loop := fun k => if k = 7 then loopSumm 1 c1St c1Inv c1Pick c1End else fun _ => .fail }

theorem c1_tree0 (z y : Nat → Int) (len cap at_ i c : Nat) (a b n : Int) : keepT [0, 1, 2, 3, 9, 10, 11] (acode Try.prog cuE (loopAt (codeOf Try.f5) 0) (c1St ⟨z, y, len, cap, at_, a, b, n, i, false, c⟩)) = 
  T.ite (decide ((↑i : Int) < (↑at_ : Int)))
    (T.chk (decide ((0 : Int) ≤ (↑i : Int)) && decide ((↑i : Int) < (↑len : Int)))
      (T.chk (decide ((0 : Nat) + Int.toNat (↑i : Int) < cap))
        (T.chk (decide ((0 : Nat) + Int.toNat (↑i : Int) < cap))
          (T.need (AV.nils = AV.nils)
            (T.need (AV.ptr (1 : Nat) (0 : Nat) (0 : Nat) (0 : Nat) = AV.ptr (1 : Nat) (0 : Nat) (0 : Nat) (0 : Nat))
              (T.chk (decide ((1 : Nat) ≤ (1 : Nat)))
                (T.ite false
                  (T.need (AV.agg [AV.int IntKind.i64 (z ((0 : Nat) + Int.toNat (↑i : Int))), AV.int IntKind.i64 (y ((0 : Nat) + Int.toNat (↑i : Int)))] = AV.agg [AV.int IntKind.i64 (z ((0 : Nat) + Int.toNat (↑i : Int))), AV.int IntKind.i64 (y ((0 : Nat) + Int.toNat (↑i : Int)))])
                    (T.need (AV.ptr (1 : Nat) (0 : Nat) (0 : Nat) (0 : Nat) = AV.ptr (1 : Nat) (0 : Nat) (0 : Nat) (0 : Nat))
                      (T.need (AV.ptr (1 : Nat) (0 : Nat) (0 : Nat) (0 : Nat) = AV.ptr (1 : Nat) (0 : Nat) (0 : Nat) (0 : Nat))
                        (T.ret
                          (Ex.norm,
                            St.mk [((0 : Nat), AV.sl (0 : Nat) (0 : Nat) (2 : Nat) (0 : Nat) len cap), ((1 : Nat), AV.int IntKind.i64 (↑at_ : Int)), ((2 : Nat), AV.int IntKind.i64 a), ((3 : Nat), AV.int IntKind.i64 b), ((9 : Nat), AV.ptr (1 : Nat) (0 : Nat) (0 : Nat) (0 : Nat)), ((10 : Nat), AV.int IntKind.i64 n), ((11 : Nat), AV.int IntKind.i64 (IntKind.wrap IntKind.i64 ((↑i : Int) + (1 : Int))))]
                              [some (Blk.mk false [] (2 : Nat) cap (fun j => [AV.int IntKind.i64 (z j), AV.int IntKind.i64 (y j)]) []), some (Blk.mk true [AV.nils, AV.nils, AV.int IntKind.i64 (0 : Int), AV.ff] (0 : Nat) (0 : Nat) (fun a => []) []),
                                some (Blk.mk true [AV.int IntKind.i64 (z ((0 : Nat) + Int.toNat (↑i : Int))), AV.int IntKind.i64 (y ((0 : Nat) + Int.toNat (↑i : Int)))] (0 : Nat) (0 : Nat) (fun x => []) []),
                                some (Blk.mk true [] (2 : Nat) (1 : Nat) (fun i_1 => [AV.int IntKind.i64 (List.getD [z ((0 : Nat) + Int.toNat (↑i : Int))] i_1 (0 : Int)), AV.int IntKind.i64 (List.getD [y ((0 : Nat) + Int.toNat (↑i : Int))] i_1 (0 : Int))]) [])])))))
                  (T.chk true
                    (T.all fun c =>
                      T.asm (decide ((1 : Nat) ≤ c))
                        (T.need (AV.agg [AV.int IntKind.i64 (z ((0 : Nat) + Int.toNat (↑i : Int))), AV.int IntKind.i64 (y ((0 : Nat) + Int.toNat (↑i : Int)))] = AV.agg [AV.int IntKind.i64 (z ((0 : Nat) + Int.toNat (↑i : Int))), AV.int IntKind.i64 (y ((0 : Nat) + Int.toNat (↑i : Int)))])
                          (T.need (AV.ptr (1 : Nat) (0 : Nat) (0 : Nat) (0 : Nat) = AV.ptr (1 : Nat) (0 : Nat) (0 : Nat) (0 : Nat))
                            (T.need (AV.ptr (1 : Nat) (0 : Nat) (0 : Nat) (0 : Nat) = AV.ptr (1 : Nat) (0 : Nat) (0 : Nat) (0 : Nat))
                              (T.ret
                                (Ex.norm,
                                  St.mk
                                    [((0 : Nat), AV.sl (0 : Nat) (0 : Nat) (2 : Nat) (0 : Nat) len cap), ((1 : Nat), AV.int IntKind.i64 (↑at_ : Int)), ((2 : Nat), AV.int IntKind.i64 a), ((3 : Nat), AV.int IntKind.i64 b), ((9 : Nat), AV.ptr (1 : Nat) (0 : Nat) (0 : Nat) (0 : Nat)), ((10 : Nat), AV.int IntKind.i64 n),
                                      ((11 : Nat), AV.int IntKind.i64 (IntKind.wrap IntKind.i64 ((↑i : Int) + (1 : Int))))]
                                    [some (Blk.mk false [] (2 : Nat) cap (fun j => [AV.int IntKind.i64 (z j), AV.int IntKind.i64 (y j)]) []), some (Blk.mk true [AV.sl (4 : Nat) (0 : Nat) (2 : Nat) (0 : Nat) (1 : Nat) c, AV.nils, AV.int IntKind.i64 (0 : Int), AV.ff] (0 : Nat) (0 : Nat) (fun a => []) []),
                                      some (Blk.mk true [AV.int IntKind.i64 (z ((0 : Nat) + Int.toNat (↑i : Int))), AV.int IntKind.i64 (y ((0 : Nat) + Int.toNat (↑i : Int)))] (0 : Nat) (0 : Nat) (fun x => []) []),
                                      some (Blk.mk true [] (2 : Nat) (1 : Nat) (fun i_1 => [AV.int IntKind.i64 (List.getD [z ((0 : Nat) + Int.toNat (↑i : Int))] i_1 (0 : Int)), AV.int IntKind.i64 (List.getD [y ((0 : Nat) + Int.toNat (↑i : Int))] i_1 (0 : Int))]) []),
                                      some
                                        (Blk.mk true [] (2 : Nat) c
                                          (fun r => if r < (0 : Nat) then [] else if r < (1 : Nat) then List.map (fun c => Col.at c ((0 : Nat) + (r - (0 : Nat)))) ([] ++ [Col.ints IntKind.i64 [z ((0 : Nat) + Int.toNat (↑i : Int))]] ++ [Col.ints IntKind.i64 [y ((0 : Nat) + Int.toNat (↑i : Int))]]) else AV.cells (AV.agg (List.reverse [AV.int IntKind.i64 (0 : Int), AV.int IntKind.i64 (0 : Int)])))
                                          [])]))))))))))))))
    (T.ret
      (Ex.exit (0 : Nat),
        St.mk [((0 : Nat), AV.sl (0 : Nat) (0 : Nat) (2 : Nat) (0 : Nat) len cap), ((1 : Nat), AV.int IntKind.i64 (↑at_ : Int)), ((2 : Nat), AV.int IntKind.i64 a), ((3 : Nat), AV.int IntKind.i64 b), ((9 : Nat), AV.ptr (1 : Nat) (0 : Nat) (0 : Nat) (0 : Nat)), ((10 : Nat), AV.int IntKind.i64 n), ((11 : Nat), AV.int IntKind.i64 (↑i : Int))]
          [some (Blk.mk false [] (2 : Nat) cap (fun j => [AV.int IntKind.i64 (z j), AV.int IntKind.i64 (y j)]) []), some (Blk.mk true [AV.nils, AV.nils, AV.int IntKind.i64 (0 : Int), AV.ff] (0 : Nat) (0 : Nat) (fun x => []) [])])) := by
  kernel_rfl

theorem c1_tree1 (z y : Nat → Int) (len cap at_ i c : Nat) (a b n : Int) : keepT [0, 1, 2, 3, 9, 10, 11] (acode Try.prog cuE (loopAt (codeOf Try.f5) 0) (c1St ⟨z, y, len, cap, at_, a, b, n, i, true, c⟩)) = 
  T.ite (decide ((↑i : Int) < (↑at_ : Int)))
    (T.chk (decide ((0 : Int) ≤ (↑i : Int)) && decide ((↑i : Int) < (↑len : Int)))
      (T.chk (decide ((0 : Nat) + Int.toNat (↑i : Int) < cap))
        (T.chk (decide ((0 : Nat) + Int.toNat (↑i : Int) < cap))
          (T.need (AV.sl (2 : Nat) (0 : Nat) (2 : Nat) (0 : Nat) i c = AV.sl (2 : Nat) (0 : Nat) (2 : Nat) (0 : Nat) i c)
            (T.need (AV.ptr (1 : Nat) (0 : Nat) (0 : Nat) (0 : Nat) = AV.ptr (1 : Nat) (0 : Nat) (0 : Nat) (0 : Nat))
              (T.chk (decide ((1 : Nat) ≤ (1 : Nat)))
                (T.chk (decide ((0 : Nat) + c ≤ c))
                  (T.chk (decide (i ≤ c))
                    (T.chk (decide (i + (1 : Nat) ≤ (4294967296 : Nat)))
                      (T.all fun c =>
                        T.all fun c_1 =>
                          T.asm (decide (i + (1 : Nat) ≤ c))
                            (T.need (AV.agg [AV.int IntKind.i64 (z ((0 : Nat) + Int.toNat (↑i : Int))), AV.int IntKind.i64 (y ((0 : Nat) + Int.toNat (↑i : Int)))] = AV.agg [AV.int IntKind.i64 (z ((0 : Nat) + Int.toNat (↑i : Int))), AV.int IntKind.i64 (y ((0 : Nat) + Int.toNat (↑i : Int)))])
                              (T.need (AV.ptr (1 : Nat) (0 : Nat) (0 : Nat) (0 : Nat) = AV.ptr (1 : Nat) (0 : Nat) (0 : Nat) (0 : Nat))
                                (T.need (AV.ptr (1 : Nat) (0 : Nat) (0 : Nat) (0 : Nat) = AV.ptr (1 : Nat) (0 : Nat) (0 : Nat) (0 : Nat))
                                  (T.ret
                                    (Ex.norm,
                                      St.mk
                                        [((0 : Nat), AV.sl (0 : Nat) (0 : Nat) (2 : Nat) (0 : Nat) len cap), ((1 : Nat), AV.int IntKind.i64 (↑at_ : Int)), ((2 : Nat), AV.int IntKind.i64 a), ((3 : Nat), AV.int IntKind.i64 b), ((9 : Nat), AV.ptr (1 : Nat) (0 : Nat) (0 : Nat) (0 : Nat)), ((10 : Nat), AV.int IntKind.i64 n),
                                          ((11 : Nat), AV.int IntKind.i64 (IntKind.wrap IntKind.i64 ((↑i : Int) + (1 : Int))))]
                                        [some (Blk.mk false [] (2 : Nat) cap (fun j => [AV.int IntKind.i64 (z j), AV.int IntKind.i64 (y j)]) []), some (Blk.mk true [AV.sl (5 : Nat) (0 : Nat) (2 : Nat) (0 : Nat) (i + (1 : Nat)) c, AV.nils, AV.int IntKind.i64 (0 : Int), AV.ff] (0 : Nat) (0 : Nat) (fun a => []) []), none,
                                          some (Blk.mk true [AV.int IntKind.i64 (z ((0 : Nat) + Int.toNat (↑i : Int))), AV.int IntKind.i64 (y ((0 : Nat) + Int.toNat (↑i : Int)))] (0 : Nat) (0 : Nat) (fun x => []) []),
                                          some (Blk.mk true [] (2 : Nat) (1 : Nat) (fun i_1 => [AV.int IntKind.i64 (List.getD [z ((0 : Nat) + Int.toNat (↑i : Int))] i_1 (0 : Int)), AV.int IntKind.i64 (List.getD [y ((0 : Nat) + Int.toNat (↑i : Int))] i_1 (0 : Int))]) []),
                                          some
                                            (Blk.mk true [] (2 : Nat) c
                                              (fun r =>
                                                if r < i then [AV.int IntKind.i64 (apZ z i ((0 : Nat) + r)), AV.int IntKind.i64 (apZ y i ((0 : Nat) + r))]
                                                else
                                                  if r < i + (1 : Nat) then List.map (fun c => Col.at c ((0 : Nat) + (r - i))) ([] ++ [Col.ints IntKind.i64 [z ((0 : Nat) + Int.toNat (↑i : Int))]] ++ [Col.ints IntKind.i64 [y ((0 : Nat) + Int.toNat (↑i : Int))]])
                                                  else if c_1 = (0 : Nat) then AV.cells (AV.agg (List.reverse [AV.int IntKind.i64 (0 : Int), AV.int IntKind.i64 (0 : Int)])) else [AV.int IntKind.i64 (apZ z i ((0 : Nat) + r)), AV.int IntKind.i64 (apZ y i ((0 : Nat) + r))])
                                              [])])))))))))))))))
    (T.ret
      (Ex.exit (0 : Nat),
        St.mk [((0 : Nat), AV.sl (0 : Nat) (0 : Nat) (2 : Nat) (0 : Nat) len cap), ((1 : Nat), AV.int IntKind.i64 (↑at_ : Int)), ((2 : Nat), AV.int IntKind.i64 a), ((3 : Nat), AV.int IntKind.i64 b), ((9 : Nat), AV.ptr (1 : Nat) (0 : Nat) (0 : Nat) (0 : Nat)), ((10 : Nat), AV.int IntKind.i64 n), ((11 : Nat), AV.int IntKind.i64 (↑i : Int))]
          [some (Blk.mk false [] (2 : Nat) cap (fun j => [AV.int IntKind.i64 (z j), AV.int IntKind.i64 (y j)]) []), some (Blk.mk true [AV.sl (2 : Nat) (0 : Nat) (2 : Nat) (0 : Nat) i c, AV.nils, AV.int IntKind.i64 (0 : Int), AV.ff] (0 : Nat) (0 : Nat) (fun x => []) []), some (Blk.mk true [] (2 : Nat) c (fun j => [AV.int IntKind.i64 (apZ z i j), AV.int IntKind.i64 (apZ y i j)]) [])])) := by
  kernel_rfl

theorem al2 {n : Nat} {ρ : Nat → Nat} {a b a' b' : Int} (h : a = a') (h' : b = b') : LAlike n ρ [AV.int .i64 a, AV.int .i64 b] [AV.int .i64 a', AV.int .i64 b'] := by
  subst h; subst h'; exact pairs_alike

theorem sub3 {j : Nat} {m : AM} {b0' b0 b1' b1 b2' b2 : Blk} (hj : 2 ≤ j) (h0 : m.get 0 = some b0') (k0 : BlkOK 3 (fun x => if x = 2 then j else x) b0' b0) (h1 : m.get 1 = some b1') (k1 : BlkOK 3 (fun x => if x = 2 then j else x) b1' b1) (h2 : m.get j = some b2') (k2 : BlkOK 3 (fun x => if x = 2 then j else x) b2' b2) :
    Sub 1 (fun x => if x = 2 then j else x) m [some b0, some b1, some b2] := by
  refine Sub.of ⟨⟨_, h0, k0⟩, ⟨_, h1, k1⟩, ⟨_, h2, k2⟩, trivial⟩ ?_ ?_ (by simp)
  · intro x y hx hy hxy
    simp at hx hy
    split <;> split <;> omega
  · intro i hi
    rw [if_neg (by omega)]

end Go.Proofs.Ythfgojdpnbpjbaa
