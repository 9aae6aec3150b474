/-
  Layer 13: Commit of the last cut: its loop, its trees.
-/
import Derived.Test.YthfgojdpnbpjbaaHSameRecs
import Derived.Test.YthfgojdpnbpjbaaHPick
import Derived.Test.YthfgojdpnbpjbaaHK
import Derived.Test.YthfgojdpnbpjbaaHOxZ
namespace Go.Proofs.Ythfgojdpnbpjbaa
open Go.Ox
set_option maxRecDepth 100000
set_option maxHeartbeats 4000000
set_option linter.unusedVariables false
set_option linter.unusedSimpArgs false

def pB (n : Nat) (f g : Nat → Int) : Blk := Blk.rows true 2 n fun j => [.int .i64 (f j), .int .i64 (g j)]

def skB (l : List AV) : Blk := Blk.mk true l 0 0 (fun _ => []) [] none

structure CK where
  J : Nat
  len : Nat
  cap : Nat
  cB : Nat
  p : Nat → Int
  q : Nat → Int
  no : Int
  most : Int
  gone : Int
  G : Int
  has : Bool
  n : Nat
  c : Nat
  cR : Nat
  f : Nat → Int
  g : Nat → Int

def ckTl (x : CK) : AM :=
  match x.has with
  | false => []
  | true => [some (pB x.cR x.f x.g)]

def ckRe (x : CK) : AV :=
  match x.has with
  | false => .nils
  | true => .sl 2 0 2 0 x.n x.c

def ckSt (x : CK) : St := ⟨[(0, .ptr 0 0 0 0), (1, .int .i64 x.no), (4, .int .i64 x.gone)], some (skB [ckRe x, .sl 1 0 2 x.J x.len x.cap, .int .i64 x.most, .tt]) :: some (pB x.cB x.p x.q) :: ckTl x⟩

def ckInv (x : CK) : Prop := x.J + x.cap ≤ x.cB ∧ x.len ≤ x.cap ∧ (∀ r, r < x.len → x.p (x.J + r) ≤ x.no) ∧ (x.len = 0 → x.gone = x.G) ∧ (∀ r, r + 1 = x.len → x.q (x.J + r) = x.G)

def preAt (m : AM) (i : Nat) : List AV :=
  match AM.get m i with
  | some b => b.pre
  | none => []

def ckPick (G : AV → Int) (st : St) : Option CK :=
  match slotAt st.fr 1, slotAt st.fr 4, preAt st.m 0, AM.get st.m 1 with
  | some (.int _ no), some (.int _ gone), [re, .sl _ _ _ J len cap, .int _ most, _], some b1 =>
    match re, AM.get st.m 2 with
    | .sl _ _ _ _ n c, some b2 => some ⟨J, len, cap, b1.n, fstAt b1, sndAt b1, no, most, gone, G re, true, n, c, b2.n, fstAt b2, sndAt b2⟩
    | _, _ => some ⟨J, len, cap, b1.n, fstAt b1, sndAt b1, no, most, gone, G re, false, 0, 0, 0, fun _ => 0, fun _ => 0⟩
  | _, _, _, _ => none

def goneOf : AV → Int
  | .sl _ _ _ _ n _ => (n : Int)
  | _ => 0

def ckEnd (x : CK) : T (Ex × St) := .all fun j => .asm (decide (j + (x.cap - x.len) ≤ x.cB)) (.ret (.exit 0, ⟨[(0, .ptr 0 0 0 0), (1, .int .i64 x.no), (4, .int .i64 x.G)], some (skB [ckRe x, .sl 1 0 2 j 0 (x.cap - x.len), .int .i64 x.most, .tt]) :: some (pB x.cB x.p x.q) :: ckTl x⟩))

noncomputable def ckE0 (n : Nat) : Env := { nt := Try.f15.ntmps, n0 := n, vec := true, fns := [], loop := fun _ _ => .fail }

def ckIn (b : Bool) (x : CK) : Prop := ckInv x ∧ x.has = b

noncomputable def ckE (n : Nat) (b : Bool) : Env := { nt := Try.f15.ntmps, n0 := n, vec := true, fns := [], loop := fun k => if k = 3 then loopSumm n ckSt (ckIn b) (ckPick goneOf) ckEnd else if k = 8 then unrollN Try.prog (ckE0 n) (loopAt (codeOf Try.f15) 1) 1 else fun _ => .fail }

theorem ck_tree0 (J len cap cB : Nat) (p q : Nat → Int) (no most gone G : Int) (n c cR : Nat) (f g : Nat → Int) : keepT [0, 1, 4] (acode Try.prog (ckE 2 false) (loopAt (codeOf Try.f15) 0) (ckSt ⟨J, len, cap, cB, p, q, no, most, gone, G, false, n, c, cR, f, g⟩)) = 
  T.ite (decide ((↑len : Int) > (0 : Int)))
    (T.chk (decide ((0 : Int) ≤ (0 : Int)) && decide ((0 : Int) < (↑len : Int)))
      (T.chk (decide (J + (0 : Nat) < cB))
        (T.ite (decide (p (J + (0 : Nat)) ≤ no))
          (T.chk (decide ((0 : Int) ≤ (0 : Int)) && decide ((0 : Int) < (↑len : Int)))
            (T.chk (decide (J + (0 : Nat) < cB))
              (T.chk (decide ((0 : Int) ≤ (1 : Int)) && decide ((1 : Int) ≤ (↑len : Int)))
                (T.chk (decide (len ≤ cap))
                  (T.ret
                    (Ex.norm,
                      St.mk [((0 : Nat), AV.ptr (0 : Nat) (0 : Nat) (0 : Nat) (0 : Nat)), ((1 : Nat), AV.int IntKind.i64 no), ((4 : Nat), AV.int IntKind.i64 (q (J + (0 : Nat))))]
                        [some (Blk.mk true [AV.nils, AV.sl (1 : Nat) (0 : Nat) (2 : Nat) (if (1 : Nat) < len then J + (1 : Nat) else if cap = (1 : Nat) then J else J + (1 : Nat)) (len - (1 : Nat)) (cap - (1 : Nat)), AV.int IntKind.i64 most, AV.tt] (0 : Nat) (0 : Nat) (fun a => []) [] none),
                          some (Blk.mk true [] (2 : Nat) cB (fun j => [AV.int IntKind.i64 (p j), AV.int IntKind.i64 (q j)]) [] none)]))))))
          (T.ret
            (Ex.exit (0 : Nat),
              St.mk [((0 : Nat), AV.ptr (0 : Nat) (0 : Nat) (0 : Nat) (0 : Nat)), ((1 : Nat), AV.int IntKind.i64 no), ((4 : Nat), AV.int IntKind.i64 gone)]
                [some (Blk.mk true [AV.nils, AV.sl (1 : Nat) (0 : Nat) (2 : Nat) J len cap, AV.int IntKind.i64 most, AV.tt] (0 : Nat) (0 : Nat) (fun x => []) [] none), some (Blk.mk true [] (2 : Nat) cB (fun j => [AV.int IntKind.i64 (p j), AV.int IntKind.i64 (q j)]) [] none)])))))
    (T.ret
      (Ex.exit (0 : Nat),
        St.mk [((0 : Nat), AV.ptr (0 : Nat) (0 : Nat) (0 : Nat) (0 : Nat)), ((1 : Nat), AV.int IntKind.i64 no), ((4 : Nat), AV.int IntKind.i64 gone)]
          [some (Blk.mk true [AV.nils, AV.sl (1 : Nat) (0 : Nat) (2 : Nat) J len cap, AV.int IntKind.i64 most, AV.tt] (0 : Nat) (0 : Nat) (fun x => []) [] none), some (Blk.mk true [] (2 : Nat) cB (fun j => [AV.int IntKind.i64 (p j), AV.int IntKind.i64 (q j)]) [] none)])) := by
  kernel_rfl

theorem ck_tree1 (J len cap cB : Nat) (p q : Nat → Int) (no most gone G : Int) (n c cR : Nat) (f g : Nat → Int) : keepT [0, 1, 4] (acode Try.prog (ckE 3 true) (loopAt (codeOf Try.f15) 0) (ckSt ⟨J, len, cap, cB, p, q, no, most, gone, G, true, n, c, cR, f, g⟩)) = 
  T.ite (decide ((↑len : Int) > (0 : Int)))
    (T.chk (decide ((0 : Int) ≤ (0 : Int)) && decide ((0 : Int) < (↑len : Int)))
      (T.chk (decide (J + (0 : Nat) < cB))
        (T.ite (decide (p (J + (0 : Nat)) ≤ no))
          (T.chk (decide ((0 : Int) ≤ (0 : Int)) && decide ((0 : Int) < (↑len : Int)))
            (T.chk (decide (J + (0 : Nat) < cB))
              (T.chk (decide ((0 : Int) ≤ (1 : Int)) && decide ((1 : Int) ≤ (↑len : Int)))
                (T.chk (decide (len ≤ cap))
                  (T.ret
                    (Ex.norm,
                      St.mk [((0 : Nat), AV.ptr (0 : Nat) (0 : Nat) (0 : Nat) (0 : Nat)), ((1 : Nat), AV.int IntKind.i64 no), ((4 : Nat), AV.int IntKind.i64 (q (J + (0 : Nat))))]
                        [some (Blk.mk true [AV.sl (2 : Nat) (0 : Nat) (2 : Nat) (0 : Nat) n c, AV.sl (1 : Nat) (0 : Nat) (2 : Nat) (if (1 : Nat) < len then J + (1 : Nat) else if cap = (1 : Nat) then J else J + (1 : Nat)) (len - (1 : Nat)) (cap - (1 : Nat)), AV.int IntKind.i64 most, AV.tt] (0 : Nat) (0 : Nat) (fun a => []) [] none),
                          some (Blk.mk true [] (2 : Nat) cB (fun j => [AV.int IntKind.i64 (p j), AV.int IntKind.i64 (q j)]) [] none), some (Blk.mk true [] (2 : Nat) cR (fun j => [AV.int IntKind.i64 (f j), AV.int IntKind.i64 (g j)]) [] none)]))))))
          (T.ret
            (Ex.exit (0 : Nat),
              St.mk [((0 : Nat), AV.ptr (0 : Nat) (0 : Nat) (0 : Nat) (0 : Nat)), ((1 : Nat), AV.int IntKind.i64 no), ((4 : Nat), AV.int IntKind.i64 gone)]
                [some (Blk.mk true [AV.sl (2 : Nat) (0 : Nat) (2 : Nat) (0 : Nat) n c, AV.sl (1 : Nat) (0 : Nat) (2 : Nat) J len cap, AV.int IntKind.i64 most, AV.tt] (0 : Nat) (0 : Nat) (fun x => []) [] none), some (Blk.mk true [] (2 : Nat) cB (fun j => [AV.int IntKind.i64 (p j), AV.int IntKind.i64 (q j)]) [] none),
                  some (Blk.mk true [] (2 : Nat) cR (fun j => [AV.int IntKind.i64 (f j), AV.int IntKind.i64 (g j)]) [] none)])))))
    (T.ret
      (Ex.exit (0 : Nat),
        St.mk [((0 : Nat), AV.ptr (0 : Nat) (0 : Nat) (0 : Nat) (0 : Nat)), ((1 : Nat), AV.int IntKind.i64 no), ((4 : Nat), AV.int IntKind.i64 gone)]
          [some (Blk.mk true [AV.sl (2 : Nat) (0 : Nat) (2 : Nat) (0 : Nat) n c, AV.sl (1 : Nat) (0 : Nat) (2 : Nat) J len cap, AV.int IntKind.i64 most, AV.tt] (0 : Nat) (0 : Nat) (fun x => []) [] none), some (Blk.mk true [] (2 : Nat) cB (fun j => [AV.int IntKind.i64 (p j), AV.int IntKind.i64 (q j)]) [] none),
            some (Blk.mk true [] (2 : Nat) cR (fun j => [AV.int IntKind.i64 (f j), AV.int IntKind.i64 (g j)]) [] none)])) := by
  kernel_rfl

theorem ck_fn0 (J len cap cB : Nat) (p q : Nat → Int) (no most : Int) : afn Try.prog (ckE 2 false) Try.f15 (codeOf Try.f15) [.ptr 0 0 0 0, .int .i64 no] [some (skB [.nils, .sl 1 0 2 J len cap, .int .i64 most, .tt]), some (pB cB p q)] = 
  T.ite (decide (no > most))
    (T.need
      (∃ ρ,
        SubSt (2 : Nat) ρ
          (St.mk [((0 : Nat), AV.ptr (0 : Nat) (0 : Nat) (0 : Nat) (0 : Nat)), ((1 : Nat), AV.int IntKind.i64 no), ((4 : Nat), AV.int IntKind.i64 (0 : Int))]
            [some (Blk.mk true [AV.nils, AV.sl (1 : Nat) (0 : Nat) (2 : Nat) J len cap, AV.int IntKind.i64 no, AV.tt] (0 : Nat) (0 : Nat) (fun a => []) [] none), some (Blk.mk true [] (2 : Nat) cB (fun j => [AV.int IntKind.i64 (p j), AV.int IntKind.i64 (q j)]) [] none)])
          (ckSt (CK.mk J len cap cB (fstAt (pB cB p q)) (sndAt (pB cB p q)) no no (0 : Int) (goneOf AV.nils) false (0 : Nat) (0 : Nat) (0 : Nat) (fun x => (0 : Int)) fun x => (0 : Int))))
      (T.need (ckIn false (CK.mk J len cap cB (fstAt (pB cB p q)) (sndAt (pB cB p q)) no no (0 : Int) (goneOf AV.nils) false (0 : Nat) (0 : Nat) (0 : Nat) (fun x => (0 : Int)) fun x => (0 : Int)))
        (T.all fun c =>
          T.asm (decide (c + (cap - len) ≤ cB))
            (T.chk true
              (T.chk true
                (T.chk (decide ((0 : Int) ≤ goneOf AV.nils) && decide (goneOf AV.nils ≤ (↑(0 : Nat) : Int)))
                  (T.need (AV.nils = AV.nils)
                    (T.need (AV.ptr (0 : Nat) (0 : Nat) (0 : Nat) (0 : Nat) = AV.ptr (0 : Nat) (0 : Nat) (0 : Nat) (0 : Nat))
                      (T.need (AV.nils = AV.nils)
                        (T.need (AV.ptr (0 : Nat) (0 : Nat) (0 : Nat) (0 : Nat) = AV.ptr (0 : Nat) (0 : Nat) (0 : Nat) (0 : Nat))
                          (T.need (AV.ptr (0 : Nat) (0 : Nat) (0 : Nat) (0 : Nat) = AV.ptr (0 : Nat) (0 : Nat) (0 : Nat) (0 : Nat))
                            (T.ite false (T.chk false (T.chk (decide (c + (0 : Nat) < cB)) (T.chk false (T.chk (decide (c + (0 : Nat) < cB)) T.fail))))
                              (T.ret (AV.tup [], [some (Blk.mk true [AV.nils, AV.sl (1 : Nat) (0 : Nat) (2 : Nat) c (0 : Nat) (cap - len), AV.int IntKind.i64 no, AV.tt] (0 : Nat) (0 : Nat) (fun a => []) [] none), some (Blk.mk true [] (2 : Nat) cB (fun j => [AV.int IntKind.i64 (fstAt (pB cB p q) j), AV.int IntKind.i64 (sndAt (pB cB p q) j)]) [] none)]))))))))))))))
    (T.need
      (∃ ρ,
        SubSt (2 : Nat) ρ
          (St.mk [((0 : Nat), AV.ptr (0 : Nat) (0 : Nat) (0 : Nat) (0 : Nat)), ((1 : Nat), AV.int IntKind.i64 no), ((4 : Nat), AV.int IntKind.i64 (0 : Int))]
            [some (Blk.mk true [AV.nils, AV.sl (1 : Nat) (0 : Nat) (2 : Nat) J len cap, AV.int IntKind.i64 most, AV.tt] (0 : Nat) (0 : Nat) (fun x => []) [] none), some (Blk.mk true [] (2 : Nat) cB (fun j => [AV.int IntKind.i64 (p j), AV.int IntKind.i64 (q j)]) [] none)])
          (ckSt (CK.mk J len cap cB (fstAt (pB cB p q)) (sndAt (pB cB p q)) no most (0 : Int) (goneOf AV.nils) false (0 : Nat) (0 : Nat) (0 : Nat) (fun x => (0 : Int)) fun x => (0 : Int))))
      (T.need (ckIn false (CK.mk J len cap cB (fstAt (pB cB p q)) (sndAt (pB cB p q)) no most (0 : Int) (goneOf AV.nils) false (0 : Nat) (0 : Nat) (0 : Nat) (fun x => (0 : Int)) fun x => (0 : Int)))
        (T.all fun c =>
          T.asm (decide (c + (cap - len) ≤ cB))
            (T.chk true
              (T.chk true
                (T.chk (decide ((0 : Int) ≤ goneOf AV.nils) && decide (goneOf AV.nils ≤ (↑(0 : Nat) : Int)))
                  (T.need (AV.nils = AV.nils)
                    (T.need (AV.ptr (0 : Nat) (0 : Nat) (0 : Nat) (0 : Nat) = AV.ptr (0 : Nat) (0 : Nat) (0 : Nat) (0 : Nat))
                      (T.need (AV.nils = AV.nils)
                        (T.need (AV.ptr (0 : Nat) (0 : Nat) (0 : Nat) (0 : Nat) = AV.ptr (0 : Nat) (0 : Nat) (0 : Nat) (0 : Nat))
                          (T.need (AV.ptr (0 : Nat) (0 : Nat) (0 : Nat) (0 : Nat) = AV.ptr (0 : Nat) (0 : Nat) (0 : Nat) (0 : Nat))
                            (T.ite false (T.chk false (T.chk (decide (c + (0 : Nat) < cB)) (T.chk false (T.chk (decide (c + (0 : Nat) < cB)) T.fail))))
                              (T.ret (AV.tup [], [some (Blk.mk true [AV.nils, AV.sl (1 : Nat) (0 : Nat) (2 : Nat) c (0 : Nat) (cap - len), AV.int IntKind.i64 most, AV.tt] (0 : Nat) (0 : Nat) (fun a => []) [] none), some (Blk.mk true [] (2 : Nat) cB (fun j => [AV.int IntKind.i64 (fstAt (pB cB p q) j), AV.int IntKind.i64 (sndAt (pB cB p q) j)]) [] none)])))))))))))))) := by
  kernel_rfl

theorem ck_fn1 (J len cap cB : Nat) (p q : Nat → Int) (no most : Int) (n c cR : Nat) (f g : Nat → Int) : afn Try.prog (ckE 3 true) Try.f15 (codeOf Try.f15) [.ptr 0 0 0 0, .int .i64 no] [some (skB [.sl 2 0 2 0 n c, .sl 1 0 2 J len cap, .int .i64 most, .tt]), some (pB cB p q), some (pB cR f g)] = 
  T.ite (decide (no > most))
    (T.need
      (∃ ρ,
        SubSt (3 : Nat) ρ
          (St.mk [((0 : Nat), AV.ptr (0 : Nat) (0 : Nat) (0 : Nat) (0 : Nat)), ((1 : Nat), AV.int IntKind.i64 no), ((4 : Nat), AV.int IntKind.i64 (0 : Int))]
            [some (Blk.mk true [AV.sl (2 : Nat) (0 : Nat) (2 : Nat) (0 : Nat) n c, AV.sl (1 : Nat) (0 : Nat) (2 : Nat) J len cap, AV.int IntKind.i64 no, AV.tt] (0 : Nat) (0 : Nat) (fun a => []) [] none), some (Blk.mk true [] (2 : Nat) cB (fun j => [AV.int IntKind.i64 (p j), AV.int IntKind.i64 (q j)]) [] none),
              some (Blk.mk true [] (2 : Nat) cR (fun j => [AV.int IntKind.i64 (f j), AV.int IntKind.i64 (g j)]) [] none)])
          (ckSt (CK.mk J len cap cB (fstAt (pB cB p q)) (sndAt (pB cB p q)) no no (0 : Int) (goneOf (AV.sl (2 : Nat) (0 : Nat) (2 : Nat) (0 : Nat) n c)) true n c cR (fstAt (pB cR f g)) (sndAt (pB cR f g)))))
      (T.need (ckIn true (CK.mk J len cap cB (fstAt (pB cB p q)) (sndAt (pB cB p q)) no no (0 : Int) (goneOf (AV.sl (2 : Nat) (0 : Nat) (2 : Nat) (0 : Nat) n c)) true n c cR (fstAt (pB cR f g)) (sndAt (pB cR f g))))
        (T.all fun c_1 =>
          T.asm (decide (c_1 + (cap - len) ≤ cB))
            (T.chk (decide ((0 : Int) ≤ (0 : Int)) && decide ((0 : Int) ≤ (↑c : Int)))
              (T.chk true
                (T.chk (decide ((0 : Int) ≤ goneOf (AV.sl (2 : Nat) (0 : Nat) (2 : Nat) (0 : Nat) n c)) && decide (goneOf (AV.sl (2 : Nat) (0 : Nat) (2 : Nat) (0 : Nat) n c) ≤ (↑n : Int)))
                  (T.chk (decide (n ≤ c))
                    (T.chk
                      (decide
                        ((if Int.toNat (goneOf (AV.sl (2 : Nat) (0 : Nat) (2 : Nat) (0 : Nat) n c)) < n then (0 : Nat) + Int.toNat (goneOf (AV.sl (2 : Nat) (0 : Nat) (2 : Nat) (0 : Nat) n c)) else if c = Int.toNat (goneOf (AV.sl (2 : Nat) (0 : Nat) (2 : Nat) (0 : Nat) n c)) then (0 : Nat) else (0 : Nat) + Int.toNat (goneOf (AV.sl (2 : Nat) (0 : Nat) (2 : Nat) (0 : Nat) n c))) +
                            (n - Int.toNat (goneOf (AV.sl (2 : Nat) (0 : Nat) (2 : Nat) (0 : Nat) n c))) ≤
                          cR))
                      (T.ite (decide (n - Int.toNat (goneOf (AV.sl (2 : Nat) (0 : Nat) (2 : Nat) (0 : Nat) n c)) = (0 : Nat)))
                        (T.need (AV.sl (2 : Nat) (0 : Nat) (2 : Nat) (0 : Nat) n c = AV.sl (2 : Nat) (0 : Nat) (2 : Nat) (0 : Nat) n c)
                          (T.need (AV.ptr (0 : Nat) (0 : Nat) (0 : Nat) (0 : Nat) = AV.ptr (0 : Nat) (0 : Nat) (0 : Nat) (0 : Nat))
                            (T.need (AV.sl (2 : Nat) (0 : Nat) (2 : Nat) (0 : Nat) n c = AV.sl (2 : Nat) (0 : Nat) (2 : Nat) (0 : Nat) n c)
                              (T.need (AV.ptr (0 : Nat) (0 : Nat) (0 : Nat) (0 : Nat) = AV.ptr (0 : Nat) (0 : Nat) (0 : Nat) (0 : Nat))
                                (T.need (AV.ptr (0 : Nat) (0 : Nat) (0 : Nat) (0 : Nat) = AV.ptr (0 : Nat) (0 : Nat) (0 : Nat) (0 : Nat))
                                  (T.ite false (T.chk false (T.chk (decide (c_1 + (0 : Nat) < cB)) (T.chk false (T.chk (decide (c_1 + (0 : Nat) < cB)) T.fail))))
                                    (T.ret
                                      (AV.tup [],
                                        [some (Blk.mk true [AV.sl (2 : Nat) (0 : Nat) (0 : Nat) (0 : Nat) (0 : Nat) (0 : Nat), AV.sl (1 : Nat) (0 : Nat) (2 : Nat) c_1 (0 : Nat) (cap - len), AV.int IntKind.i64 no, AV.tt] (0 : Nat) (0 : Nat) (fun a => []) [] none),
                                          some (Blk.mk true [] (2 : Nat) cB (fun j => [AV.int IntKind.i64 (fstAt (pB cB p q) j), AV.int IntKind.i64 (sndAt (pB cB p q) j)]) [] none), some (Blk.mk true [] (2 : Nat) cR (fun j => [AV.int IntKind.i64 (fstAt (pB cR f g) j), AV.int IntKind.i64 (sndAt (pB cR f g) j)]) [] none)]))))))))
                        (T.chk (decide ((0 : Nat) + (n - Int.toNat (goneOf (AV.sl (2 : Nat) (0 : Nat) (2 : Nat) (0 : Nat) n c))) ≤ (4294967296 : Nat)))
                          (T.all fun c_2 =>
                            T.asm (decide ((0 : Nat) + (n - Int.toNat (goneOf (AV.sl (2 : Nat) (0 : Nat) (2 : Nat) (0 : Nat) n c))) ≤ c_2))
                              (T.need (AV.sl (2 : Nat) (0 : Nat) (2 : Nat) (0 : Nat) n c = AV.sl (2 : Nat) (0 : Nat) (2 : Nat) (0 : Nat) n c)
                                (T.need (AV.ptr (0 : Nat) (0 : Nat) (0 : Nat) (0 : Nat) = AV.ptr (0 : Nat) (0 : Nat) (0 : Nat) (0 : Nat))
                                  (T.need (AV.sl (2 : Nat) (0 : Nat) (2 : Nat) (0 : Nat) n c = AV.sl (2 : Nat) (0 : Nat) (2 : Nat) (0 : Nat) n c)
                                    (T.need (AV.ptr (0 : Nat) (0 : Nat) (0 : Nat) (0 : Nat) = AV.ptr (0 : Nat) (0 : Nat) (0 : Nat) (0 : Nat))
                                      (T.need (AV.ptr (0 : Nat) (0 : Nat) (0 : Nat) (0 : Nat) = AV.ptr (0 : Nat) (0 : Nat) (0 : Nat) (0 : Nat))
                                        (T.ite false (T.chk false (T.chk (decide (c_1 + (0 : Nat) < cB)) (T.chk false (T.chk (decide (c_1 + (0 : Nat) < cB)) T.fail))))
                                          (T.ret
                                            (AV.tup [],
                                              [some (Blk.mk true [AV.sl (3 : Nat) (0 : Nat) (2 : Nat) (0 : Nat) ((0 : Nat) + (n - Int.toNat (goneOf (AV.sl (2 : Nat) (0 : Nat) (2 : Nat) (0 : Nat) n c)))) c_2, AV.sl (1 : Nat) (0 : Nat) (2 : Nat) c_1 (0 : Nat) (cap - len), AV.int IntKind.i64 no, AV.tt] (0 : Nat) (0 : Nat) (fun a => []) [] none),
                                                some (Blk.mk true [] (2 : Nat) cB (fun j => [AV.int IntKind.i64 (fstAt (pB cB p q) j), AV.int IntKind.i64 (sndAt (pB cB p q) j)]) [] none), some (Blk.mk true [] (2 : Nat) cR (fun j => [AV.int IntKind.i64 (fstAt (pB cR f g) j), AV.int IntKind.i64 (sndAt (pB cR f g) j)]) [] none),
                                                some
                                                  (Blk.mk true [] (2 : Nat) c_2
                                                    (fun r =>
                                                      if r < (0 : Nat) then []
                                                      else
                                                        if r < (0 : Nat) + (n - Int.toNat (goneOf (AV.sl (2 : Nat) (0 : Nat) (2 : Nat) (0 : Nat) n c))) then
                                                          [AV.int IntKind.i64
                                                              (fstAt (pB cR f g)
                                                                ((if Int.toNat (goneOf (AV.sl (2 : Nat) (0 : Nat) (2 : Nat) (0 : Nat) n c)) < n then (0 : Nat) + Int.toNat (goneOf (AV.sl (2 : Nat) (0 : Nat) (2 : Nat) (0 : Nat) n c))
                                                                  else if c = Int.toNat (goneOf (AV.sl (2 : Nat) (0 : Nat) (2 : Nat) (0 : Nat) n c)) then (0 : Nat) else (0 : Nat) + Int.toNat (goneOf (AV.sl (2 : Nat) (0 : Nat) (2 : Nat) (0 : Nat) n c))) +
                                                                  (r - (0 : Nat)))),
                                                            AV.int IntKind.i64
                                                              (sndAt (pB cR f g)
                                                                ((if Int.toNat (goneOf (AV.sl (2 : Nat) (0 : Nat) (2 : Nat) (0 : Nat) n c)) < n then (0 : Nat) + Int.toNat (goneOf (AV.sl (2 : Nat) (0 : Nat) (2 : Nat) (0 : Nat) n c))
                                                                  else if c = Int.toNat (goneOf (AV.sl (2 : Nat) (0 : Nat) (2 : Nat) (0 : Nat) n c)) then (0 : Nat) else (0 : Nat) + Int.toNat (goneOf (AV.sl (2 : Nat) (0 : Nat) (2 : Nat) (0 : Nat) n c))) +
                                                                  (r - (0 : Nat))))]
                                                        else AV.cells (AV.agg (List.reverse [AV.int IntKind.i64 (0 : Int), AV.int IntKind.i64 (0 : Int)])))
                                                    [] none)])))))))))))))))))))
    (T.need
      (∃ ρ,
        SubSt (3 : Nat) ρ
          (St.mk [((0 : Nat), AV.ptr (0 : Nat) (0 : Nat) (0 : Nat) (0 : Nat)), ((1 : Nat), AV.int IntKind.i64 no), ((4 : Nat), AV.int IntKind.i64 (0 : Int))]
            [some (Blk.mk true [AV.sl (2 : Nat) (0 : Nat) (2 : Nat) (0 : Nat) n c, AV.sl (1 : Nat) (0 : Nat) (2 : Nat) J len cap, AV.int IntKind.i64 most, AV.tt] (0 : Nat) (0 : Nat) (fun x => []) [] none), some (Blk.mk true [] (2 : Nat) cB (fun j => [AV.int IntKind.i64 (p j), AV.int IntKind.i64 (q j)]) [] none),
              some (Blk.mk true [] (2 : Nat) cR (fun j => [AV.int IntKind.i64 (f j), AV.int IntKind.i64 (g j)]) [] none)])
          (ckSt (CK.mk J len cap cB (fstAt (pB cB p q)) (sndAt (pB cB p q)) no most (0 : Int) (goneOf (AV.sl (2 : Nat) (0 : Nat) (2 : Nat) (0 : Nat) n c)) true n c cR (fstAt (pB cR f g)) (sndAt (pB cR f g)))))
      (T.need (ckIn true (CK.mk J len cap cB (fstAt (pB cB p q)) (sndAt (pB cB p q)) no most (0 : Int) (goneOf (AV.sl (2 : Nat) (0 : Nat) (2 : Nat) (0 : Nat) n c)) true n c cR (fstAt (pB cR f g)) (sndAt (pB cR f g))))
        (T.all fun c_1 =>
          T.asm (decide (c_1 + (cap - len) ≤ cB))
            (T.chk (decide ((0 : Int) ≤ (0 : Int)) && decide ((0 : Int) ≤ (↑c : Int)))
              (T.chk true
                (T.chk (decide ((0 : Int) ≤ goneOf (AV.sl (2 : Nat) (0 : Nat) (2 : Nat) (0 : Nat) n c)) && decide (goneOf (AV.sl (2 : Nat) (0 : Nat) (2 : Nat) (0 : Nat) n c) ≤ (↑n : Int)))
                  (T.chk (decide (n ≤ c))
                    (T.chk
                      (decide
                        ((if Int.toNat (goneOf (AV.sl (2 : Nat) (0 : Nat) (2 : Nat) (0 : Nat) n c)) < n then (0 : Nat) + Int.toNat (goneOf (AV.sl (2 : Nat) (0 : Nat) (2 : Nat) (0 : Nat) n c)) else if c = Int.toNat (goneOf (AV.sl (2 : Nat) (0 : Nat) (2 : Nat) (0 : Nat) n c)) then (0 : Nat) else (0 : Nat) + Int.toNat (goneOf (AV.sl (2 : Nat) (0 : Nat) (2 : Nat) (0 : Nat) n c))) +
                            (n - Int.toNat (goneOf (AV.sl (2 : Nat) (0 : Nat) (2 : Nat) (0 : Nat) n c))) ≤
                          cR))
                      (T.ite (decide (n - Int.toNat (goneOf (AV.sl (2 : Nat) (0 : Nat) (2 : Nat) (0 : Nat) n c)) = (0 : Nat)))
                        (T.need (AV.sl (2 : Nat) (0 : Nat) (2 : Nat) (0 : Nat) n c = AV.sl (2 : Nat) (0 : Nat) (2 : Nat) (0 : Nat) n c)
                          (T.need (AV.ptr (0 : Nat) (0 : Nat) (0 : Nat) (0 : Nat) = AV.ptr (0 : Nat) (0 : Nat) (0 : Nat) (0 : Nat))
                            (T.need (AV.sl (2 : Nat) (0 : Nat) (2 : Nat) (0 : Nat) n c = AV.sl (2 : Nat) (0 : Nat) (2 : Nat) (0 : Nat) n c)
                              (T.need (AV.ptr (0 : Nat) (0 : Nat) (0 : Nat) (0 : Nat) = AV.ptr (0 : Nat) (0 : Nat) (0 : Nat) (0 : Nat))
                                (T.need (AV.ptr (0 : Nat) (0 : Nat) (0 : Nat) (0 : Nat) = AV.ptr (0 : Nat) (0 : Nat) (0 : Nat) (0 : Nat))
                                  (T.ite false (T.chk false (T.chk (decide (c_1 + (0 : Nat) < cB)) (T.chk false (T.chk (decide (c_1 + (0 : Nat) < cB)) T.fail))))
                                    (T.ret
                                      (AV.tup [],
                                        [some (Blk.mk true [AV.sl (2 : Nat) (0 : Nat) (0 : Nat) (0 : Nat) (0 : Nat) (0 : Nat), AV.sl (1 : Nat) (0 : Nat) (2 : Nat) c_1 (0 : Nat) (cap - len), AV.int IntKind.i64 most, AV.tt] (0 : Nat) (0 : Nat) (fun a => []) [] none),
                                          some (Blk.mk true [] (2 : Nat) cB (fun j => [AV.int IntKind.i64 (fstAt (pB cB p q) j), AV.int IntKind.i64 (sndAt (pB cB p q) j)]) [] none), some (Blk.mk true [] (2 : Nat) cR (fun j => [AV.int IntKind.i64 (fstAt (pB cR f g) j), AV.int IntKind.i64 (sndAt (pB cR f g) j)]) [] none)]))))))))
                        (T.chk (decide ((0 : Nat) + (n - Int.toNat (goneOf (AV.sl (2 : Nat) (0 : Nat) (2 : Nat) (0 : Nat) n c))) ≤ (4294967296 : Nat)))
                          (T.all fun c_2 =>
                            T.asm (decide ((0 : Nat) + (n - Int.toNat (goneOf (AV.sl (2 : Nat) (0 : Nat) (2 : Nat) (0 : Nat) n c))) ≤ c_2))
                              (T.need (AV.sl (2 : Nat) (0 : Nat) (2 : Nat) (0 : Nat) n c = AV.sl (2 : Nat) (0 : Nat) (2 : Nat) (0 : Nat) n c)
                                (T.need (AV.ptr (0 : Nat) (0 : Nat) (0 : Nat) (0 : Nat) = AV.ptr (0 : Nat) (0 : Nat) (0 : Nat) (0 : Nat))
                                  (T.need (AV.sl (2 : Nat) (0 : Nat) (2 : Nat) (0 : Nat) n c = AV.sl (2 : Nat) (0 : Nat) (2 : Nat) (0 : Nat) n c)
                                    (T.need (AV.ptr (0 : Nat) (0 : Nat) (0 : Nat) (0 : Nat) = AV.ptr (0 : Nat) (0 : Nat) (0 : Nat) (0 : Nat))
                                      (T.need (AV.ptr (0 : Nat) (0 : Nat) (0 : Nat) (0 : Nat) = AV.ptr (0 : Nat) (0 : Nat) (0 : Nat) (0 : Nat))
                                        (T.ite false (T.chk false (T.chk (decide (c_1 + (0 : Nat) < cB)) (T.chk false (T.chk (decide (c_1 + (0 : Nat) < cB)) T.fail))))
                                          (T.ret
                                            (AV.tup [],
                                              [some (Blk.mk true [AV.sl (3 : Nat) (0 : Nat) (2 : Nat) (0 : Nat) ((0 : Nat) + (n - Int.toNat (goneOf (AV.sl (2 : Nat) (0 : Nat) (2 : Nat) (0 : Nat) n c)))) c_2, AV.sl (1 : Nat) (0 : Nat) (2 : Nat) c_1 (0 : Nat) (cap - len), AV.int IntKind.i64 most, AV.tt] (0 : Nat) (0 : Nat) (fun a => []) [] none),
                                                some (Blk.mk true [] (2 : Nat) cB (fun j => [AV.int IntKind.i64 (fstAt (pB cB p q) j), AV.int IntKind.i64 (sndAt (pB cB p q) j)]) [] none), some (Blk.mk true [] (2 : Nat) cR (fun j => [AV.int IntKind.i64 (fstAt (pB cR f g) j), AV.int IntKind.i64 (sndAt (pB cR f g) j)]) [] none),
                                                some
                                                  (Blk.mk true [] (2 : Nat) c_2
                                                    (fun r =>
                                                      if r < (0 : Nat) then []
                                                      else
                                                        if r < (0 : Nat) + (n - Int.toNat (goneOf (AV.sl (2 : Nat) (0 : Nat) (2 : Nat) (0 : Nat) n c))) then
                                                          [AV.int IntKind.i64
                                                              (fstAt (pB cR f g)
                                                                ((if Int.toNat (goneOf (AV.sl (2 : Nat) (0 : Nat) (2 : Nat) (0 : Nat) n c)) < n then (0 : Nat) + Int.toNat (goneOf (AV.sl (2 : Nat) (0 : Nat) (2 : Nat) (0 : Nat) n c))
                                                                  else if c = Int.toNat (goneOf (AV.sl (2 : Nat) (0 : Nat) (2 : Nat) (0 : Nat) n c)) then (0 : Nat) else (0 : Nat) + Int.toNat (goneOf (AV.sl (2 : Nat) (0 : Nat) (2 : Nat) (0 : Nat) n c))) +
                                                                  (r - (0 : Nat)))),
                                                            AV.int IntKind.i64
                                                              (sndAt (pB cR f g)
                                                                ((if Int.toNat (goneOf (AV.sl (2 : Nat) (0 : Nat) (2 : Nat) (0 : Nat) n c)) < n then (0 : Nat) + Int.toNat (goneOf (AV.sl (2 : Nat) (0 : Nat) (2 : Nat) (0 : Nat) n c))
                                                                  else if c = Int.toNat (goneOf (AV.sl (2 : Nat) (0 : Nat) (2 : Nat) (0 : Nat) n c)) then (0 : Nat) else (0 : Nat) + Int.toNat (goneOf (AV.sl (2 : Nat) (0 : Nat) (2 : Nat) (0 : Nat) n c))) +
                                                                  (r - (0 : Nat))))]
                                                        else AV.cells (AV.agg (List.reverse [AV.int IntKind.i64 (0 : Int), AV.int IntKind.i64 (0 : Int)])))
                                                    [] none)]))))))))))))))))))) := by
  kernel_rfl

end Go.Proofs.Ythfgojdpnbpjbaa
