/-
  Layer 19: All, trees.
-/
import Derived.Test.YthbdkhlpojngeaaHF
namespace Go.Proofs.Ythbdkhlpojngeaa
open Go.Ox
set_option maxRecDepth 100000
set_option linter.unusedVariables false
set_option linter.unusedSimpArgs false

structure AA where
  n : Nat
  z : Nat → Int
  y : Nat → Int
  len : Nat
  cap : Nat
  s : AL
  last : Int
  frm : Nat
  any : Bool
  i : Nat
  done : Bool
  bl : Nat
  k : Nat
  br : Bool
  j : Nat
def cntB (B : Nat → Bool) : Nat → Nat
  | 0 => 0
  | k + 1 => cntB B k + if B k then 1 else 0
def cntS (s : AL) (k : Nat) : Nat := cntB s.B k
def aaM (x : AA) : AM := [some (f1R x.z x.y x.cap), some (alB x.s)]
def aaA (x : AA) : St := ⟨[(0, .int .i64 x.n), (1, .sl 0 0 2 0 x.len x.cap), (5, .ptr 1 0 0 0), (6, .int .i64 x.last), (7, .int .i64 x.frm), (8, .bool x.any), (9, .int .i64 x.i)], aaM x⟩
def aaB (x : AA) : St := ⟨[(0, .int .i64 x.n), (1, .sl 0 0 2 0 x.len x.cap), (5, .ptr 1 0 0 0), (6, .int .i64 x.last), (7, .int .i64 x.frm), (8, .bool x.any), (9, .int .i64 x.i), (10, .bool x.done), (11, .int .i64 x.bl), (12, .int .i64 x.k)], aaM x⟩
def aaC (x : AA) : St := ⟨[(0, .int .i64 x.n), (1, .sl 0 0 2 0 x.len x.cap), (5, .ptr 1 0 0 0), (7, .int .i64 x.frm), (9, .int .i64 x.i), (13, .int .i64 x.k)], aaM x⟩
def aaD (x : AA) : St := ⟨[(0, .int .i64 x.n), (1, .sl 0 0 2 0 x.len x.cap), (5, .ptr 1 0 0 0), (7, .int .i64 x.frm), (9, .int .i64 x.i), (13, .int .i64 x.k), (14, .bool x.br), (15, .int .i64 x.j)], aaM x⟩

def brA (x : AA) (k j : Nat) : Prop := x.z j = k ∧ x.y j = x.y x.i
def aaIA (x : AA) : Prop := 1 ≤ x.n ∧ x.n ≤ 64 ∧ x.len ≤ x.cap ∧ x.i ≤ x.len ∧ x.i ≤ 300 ∧ x.frm ≤ x.i ∧ x.s.n = x.n ∧ x.s.c = cntS x.s x.n ∧ cntS x.s x.n < x.n ∧ x.any = x.s.d ∧ (x.any = true → x.last = x.s.l) ∧
  ∀ k, k < x.n → x.s.B k = true → ∃ j, x.frm ≤ j ∧ j < x.i ∧ x.z j = k ∧ x.y j = x.s.w
def aaIB (x : AA) : Prop := x.s.n = x.n ∧ x.n ≤ 64 ∧ x.k ≤ x.n ∧ x.bl = cntS x.s x.k
def aaIC (x : AA) : Prop := x.n ≤ 64 ∧ x.len ≤ x.cap ∧ x.i < x.len ∧ x.i ≤ 300 ∧ x.frm ≤ x.i ∧ x.k ≤ x.n ∧ ∀ k, k < x.n → ∃ j, x.frm ≤ j ∧ j ≤ x.i ∧ brA x k j
def aaID (x : AA) : Prop := x.n ≤ 64 ∧ x.len ≤ x.cap ∧ x.i < x.len ∧ x.i ≤ 300 ∧ x.frm ≤ x.i ∧ x.k < x.n ∧ x.j ≤ x.i + 1 ∧ (x.br = true ∨ ∃ j, x.j ≤ j ∧ j ≤ x.i ∧ brA x x.k j)

def colZ (b : Blk) : Nat → Int := fun r => intA ((b.f r).getD 0 .ff)
def colY (b : Blk) : Nat → Int := fun r => intA ((b.f r).getD 1 .ff)
def aaPA (st : St) : Option AA :=
  match slotAt st.fr 0, slotAt st.fr 1, AM.get st.m 0, AM.get st.m 1 with
  | some (.int _ n), some (.sl _ _ _ _ len cap), some b, some a => some ⟨n.toNat, colZ b, colY b, len, cap, stA a, 0, 0, false, 0, false, 0, 0, false, 0⟩
  | _, _, _, _ => none
def aaPB (st : St) : Option AA :=
  match slotAt st.fr 0, slotAt st.fr 1, AM.get st.m 0, AM.get st.m 1, slotAt st.fr 6, slotAt st.fr 7, slotAt st.fr 8, slotAt st.fr 9, slotAt st.fr 10 with
  | some (.int _ n), some (.sl _ _ _ _ len cap), some b, some a, some (.int _ last), some (.int _ frm), some any, some (.int _ i), some done => some ⟨n.toNat, colZ b, colY b, len, cap, stA a, last, frm.toNat, boolA any, i.toNat, boolA done, 0, 0, false, 0⟩
  | _, _, _, _, _, _, _, _, _ => none
def aaPC (st : St) : Option AA :=
  match slotAt st.fr 0, slotAt st.fr 1, AM.get st.m 0, AM.get st.m 1, slotAt st.fr 7, slotAt st.fr 9 with
  | some (.int _ n), some (.sl _ _ _ _ len cap), some b, some a, some (.int _ frm), some (.int _ i) => some ⟨n.toNat, colZ b, colY b, len, cap, stA a, 0, frm.toNat, false, i.toNat, false, 0, 0, false, 0⟩
  | _, _, _, _, _, _ => none
def aaPD (st : St) : Option AA :=
  match slotAt st.fr 0, slotAt st.fr 1, AM.get st.m 0, AM.get st.m 1, slotAt st.fr 7, slotAt st.fr 9, slotAt st.fr 13 with
  | some (.int _ n), some (.sl _ _ _ _ len cap), some b, some a, some (.int _ frm), some (.int _ i), some (.int _ k) => some ⟨n.toNat, colZ b, colY b, len, cap, stA a, 0, frm.toNat, false, i.toNat, false, 0, k.toNat, false, frm.toNat⟩
  | _, _, _, _, _, _, _ => none
def aaXA (x : AA) : T (Ex × St) := .ret (.exit 0, ⟨[], [none]⟩)
def aaXB (x : AA) : T (Ex × St) := .ret (.exit 2, ⟨[(0, .int .i64 x.n), (1, .sl 0 0 2 0 x.len x.cap), (5, .ptr 1 0 0 0), (6, .int .i64 x.last), (7, .int .i64 x.frm), (8, .bool x.any), (9, .int .i64 x.i), (10, .bool x.done), (11, .int .i64 (cntS x.s x.n))], aaM x⟩)
def aaXC (x : AA) : T (Ex × St) := .ret (.exit 4, ⟨[(0, .int .i64 x.n), (1, .sl 0 0 2 0 x.len x.cap), (5, .ptr 1 0 0 0), (7, .int .i64 x.frm), (9, .int .i64 x.i)], aaM x⟩)
def aaXD (x : AA) : T (Ex × St) := .ret (.exit 6, ⟨[(0, .int .i64 x.n), (1, .sl 0 0 2 0 x.len x.cap), (5, .ptr 1 0 0 0), (7, .int .i64 x.frm), (9, .int .i64 x.i), (13, .int .i64 x.k), (14, .bool true)], aaM x⟩)
noncomputable def aaBase : Env := laE Try.f4.ntmps
noncomputable def aaE : Env := { aaBase with n0 := 1, loop := fun k => if k = 9 then loopSumm 1 aaA aaIA aaPA aaXA else if k = 14 then loopSumm 1 aaB aaIB aaPB aaXB else if k = 22 then loopSumm 1 aaC aaIC aaPC aaXC else if k = 26 then loopSumm 1 aaD aaID aaPD aaXD else fun _ => .fail }
noncomputable def aaZ : Env := { aaBase with n0 := 0, loop := fun _ _ => .fail }
noncomputable def aaN : Env := { aaBase with n0 := 0, loop := fun k => if k = 9 then unrollN Try.prog aaZ (loopAt (codeOf Try.f4) 0) 1 else fun _ => .fail }

theorem aaB_tree (x : AA) : keepT [0, 1, 5, 6, 7, 8, 9, 10, 11, 12] (acode Try.prog aaE (loopAt (loopAt (codeOf Try.f4) 0) 0) (aaB x)) = 
  T.ite (decide ((↑(AA.k x) : Int) < (↑(AA.n x) : Int)))
    (T.need (IsAl (Blk.mk true [AV.int IntKind.i64 (AL.n (AA.s x))] (1 : Nat) (96 : Nat) (fun j => [AV.bool (AL.B (AA.s x) j)]) [AV.int IntKind.i64 (AL.c (AA.s x)), AV.int IntKind.i64 (AL.w (AA.s x)), AV.int IntKind.i64 (AL.l (AA.s x)), AV.bool (AL.d (AA.s x))]))
      (T.chk (decide (intA (List.getD [AV.int IntKind.i64 (AL.n (AA.s x))] (0 : Nat) AV.ff) ≤ (96 : Int)))
        (T.ite (blkA (stA (alB (AA.s x))) (↑(AA.k x) : Int))
          (T.ret
            (Ex.norm,
              St.mk
                [((0 : Nat), AV.int IntKind.i64 (↑(AA.n x) : Int)), ((1 : Nat), AV.sl (0 : Nat) (0 : Nat) (2 : Nat) (0 : Nat) (AA.len x) (AA.cap x)), ((5 : Nat), AV.ptr (1 : Nat) (0 : Nat) (0 : Nat) (0 : Nat)), ((6 : Nat), AV.int IntKind.i64 (AA.last x)), ((7 : Nat), AV.int IntKind.i64 (↑(AA.frm x) : Int)), ((8 : Nat), AV.bool (AA.any x)), ((9 : Nat), AV.int IntKind.i64 (↑(AA.i x) : Int)),
                  ((10 : Nat), AV.bool (AA.done x)), ((11 : Nat), AV.int IntKind.i64 (IntKind.wrap IntKind.i64 ((↑(AA.bl x) : Int) + (1 : Int)))), ((12 : Nat), AV.int IntKind.i64 (IntKind.wrap IntKind.i64 ((↑(AA.k x) : Int) + (1 : Int))))]
                [some (Blk.mk false [] (2 : Nat) (AA.cap x) (fun r => [AV.int IntKind.i64 (AA.z x r), AV.int IntKind.i64 (AA.y x r)]) []), some (Blk.mk true [AV.int IntKind.i64 (AL.n (AA.s x))] (1 : Nat) (96 : Nat) (fun j => [AV.bool (AL.B (AA.s x) j)]) [AV.int IntKind.i64 (AL.c (AA.s x)), AV.int IntKind.i64 (AL.w (AA.s x)), AV.int IntKind.i64 (AL.l (AA.s x)), AV.bool (AL.d (AA.s x))])]))
          (T.ret
            (Ex.norm,
              St.mk
                [((0 : Nat), AV.int IntKind.i64 (↑(AA.n x) : Int)), ((1 : Nat), AV.sl (0 : Nat) (0 : Nat) (2 : Nat) (0 : Nat) (AA.len x) (AA.cap x)), ((5 : Nat), AV.ptr (1 : Nat) (0 : Nat) (0 : Nat) (0 : Nat)), ((6 : Nat), AV.int IntKind.i64 (AA.last x)), ((7 : Nat), AV.int IntKind.i64 (↑(AA.frm x) : Int)), ((8 : Nat), AV.bool (AA.any x)), ((9 : Nat), AV.int IntKind.i64 (↑(AA.i x) : Int)),
                  ((10 : Nat), AV.bool (AA.done x)), ((11 : Nat), AV.int IntKind.i64 (↑(AA.bl x) : Int)), ((12 : Nat), AV.int IntKind.i64 (IntKind.wrap IntKind.i64 ((↑(AA.k x) : Int) + (1 : Int))))]
                [some (Blk.mk false [] (2 : Nat) (AA.cap x) (fun r => [AV.int IntKind.i64 (AA.z x r), AV.int IntKind.i64 (AA.y x r)]) []), some (Blk.mk true [AV.int IntKind.i64 (AL.n (AA.s x))] (1 : Nat) (96 : Nat) (fun j => [AV.bool (AL.B (AA.s x) j)]) [AV.int IntKind.i64 (AL.c (AA.s x)), AV.int IntKind.i64 (AL.w (AA.s x)), AV.int IntKind.i64 (AL.l (AA.s x)), AV.bool (AL.d (AA.s x))])])))))
    (T.ret
      (Ex.exit (2 : Nat),
        St.mk
          [((0 : Nat), AV.int IntKind.i64 (↑(AA.n x) : Int)), ((1 : Nat), AV.sl (0 : Nat) (0 : Nat) (2 : Nat) (0 : Nat) (AA.len x) (AA.cap x)), ((5 : Nat), AV.ptr (1 : Nat) (0 : Nat) (0 : Nat) (0 : Nat)), ((6 : Nat), AV.int IntKind.i64 (AA.last x)), ((7 : Nat), AV.int IntKind.i64 (↑(AA.frm x) : Int)), ((8 : Nat), AV.bool (AA.any x)), ((9 : Nat), AV.int IntKind.i64 (↑(AA.i x) : Int)),
            ((10 : Nat), AV.bool (AA.done x)), ((11 : Nat), AV.int IntKind.i64 (↑(AA.bl x) : Int)), ((12 : Nat), AV.int IntKind.i64 (↑(AA.k x) : Int))]
          [some (Blk.mk false [] (2 : Nat) (AA.cap x) (fun r => [AV.int IntKind.i64 (AA.z x r), AV.int IntKind.i64 (AA.y x r)]) []), some (Blk.mk true [AV.int IntKind.i64 (AL.n (AA.s x))] (1 : Nat) (96 : Nat) (fun j => [AV.bool (AL.B (AA.s x) j)]) [AV.int IntKind.i64 (AL.c (AA.s x)), AV.int IntKind.i64 (AL.w (AA.s x)), AV.int IntKind.i64 (AL.l (AA.s x)), AV.bool (AL.d (AA.s x))])])) := by
  kernel_rfl

theorem aaD_tree (x : AA) : keepT [0, 1, 5, 7, 9, 13, 14, 15] (acode Try.prog aaE (loopAt (loopAt (loopAt (codeOf Try.f4) 0) 1) 0) (aaD x)) = 
  T.ite (decide ((↑(AA.j x) : Int) ≤ (↑(AA.i x) : Int)))
    (T.ite (AA.br x)
      (T.ret
        (Ex.norm,
          St.mk
            [((0 : Nat), AV.int IntKind.i64 (↑(AA.n x) : Int)), ((1 : Nat), AV.sl (0 : Nat) (0 : Nat) (2 : Nat) (0 : Nat) (AA.len x) (AA.cap x)), ((5 : Nat), AV.ptr (1 : Nat) (0 : Nat) (0 : Nat) (0 : Nat)), ((7 : Nat), AV.int IntKind.i64 (↑(AA.frm x) : Int)), ((9 : Nat), AV.int IntKind.i64 (↑(AA.i x) : Int)), ((13 : Nat), AV.int IntKind.i64 (↑(AA.k x) : Int)), ((14 : Nat), AV.tt),
              ((15 : Nat), AV.int IntKind.i64 (IntKind.wrap IntKind.i64 ((↑(AA.j x) : Int) + (1 : Int))))]
            [some (Blk.mk false [] (2 : Nat) (AA.cap x) (fun r => [AV.int IntKind.i64 (AA.z x r), AV.int IntKind.i64 (AA.y x r)]) []), some (Blk.mk true [AV.int IntKind.i64 (AL.n (AA.s x))] (1 : Nat) (96 : Nat) (fun j => [AV.bool (AL.B (AA.s x) j)]) [AV.int IntKind.i64 (AL.c (AA.s x)), AV.int IntKind.i64 (AL.w (AA.s x)), AV.int IntKind.i64 (AL.l (AA.s x)), AV.bool (AL.d (AA.s x))])]))
      (T.chk (decide ((0 : Int) ≤ (↑(AA.j x) : Int)) && decide ((↑(AA.j x) : Int) < (↑(AA.len x) : Int)))
        (T.chk (decide ((0 : Nat) + Int.toNat (↑(AA.j x) : Int) < AA.cap x))
          (T.ite (AA.z x ((0 : Nat) + Int.toNat (↑(AA.j x) : Int)) == (↑(AA.k x) : Int))
            (T.chk (decide ((0 : Int) ≤ (↑(AA.j x) : Int)) && decide ((↑(AA.j x) : Int) < (↑(AA.len x) : Int)))
              (T.chk (decide ((0 : Nat) + Int.toNat (↑(AA.j x) : Int) < AA.cap x))
                (T.chk (decide ((0 : Int) ≤ (↑(AA.i x) : Int)) && decide ((↑(AA.i x) : Int) < (↑(AA.len x) : Int)))
                  (T.chk (decide ((0 : Nat) + Int.toNat (↑(AA.i x) : Int) < AA.cap x))
                    (T.ret
                      (Ex.norm,
                        St.mk
                          [((0 : Nat), AV.int IntKind.i64 (↑(AA.n x) : Int)), ((1 : Nat), AV.sl (0 : Nat) (0 : Nat) (2 : Nat) (0 : Nat) (AA.len x) (AA.cap x)), ((5 : Nat), AV.ptr (1 : Nat) (0 : Nat) (0 : Nat) (0 : Nat)), ((7 : Nat), AV.int IntKind.i64 (↑(AA.frm x) : Int)), ((9 : Nat), AV.int IntKind.i64 (↑(AA.i x) : Int)), ((13 : Nat), AV.int IntKind.i64 (↑(AA.k x) : Int)),
                            ((14 : Nat), AV.bool (AA.y x ((0 : Nat) + Int.toNat (↑(AA.j x) : Int)) == AA.y x ((0 : Nat) + Int.toNat (↑(AA.i x) : Int)))), ((15 : Nat), AV.int IntKind.i64 (IntKind.wrap IntKind.i64 ((↑(AA.j x) : Int) + (1 : Int))))]
                          [some (Blk.mk false [] (2 : Nat) (AA.cap x) (fun r => [AV.int IntKind.i64 (AA.z x r), AV.int IntKind.i64 (AA.y x r)]) []),
                            some (Blk.mk true [AV.int IntKind.i64 (AL.n (AA.s x))] (1 : Nat) (96 : Nat) (fun j => [AV.bool (AL.B (AA.s x) j)]) [AV.int IntKind.i64 (AL.c (AA.s x)), AV.int IntKind.i64 (AL.w (AA.s x)), AV.int IntKind.i64 (AL.l (AA.s x)), AV.bool (AL.d (AA.s x))])]))))))
            (T.ret
              (Ex.norm,
                St.mk
                  [((0 : Nat), AV.int IntKind.i64 (↑(AA.n x) : Int)), ((1 : Nat), AV.sl (0 : Nat) (0 : Nat) (2 : Nat) (0 : Nat) (AA.len x) (AA.cap x)), ((5 : Nat), AV.ptr (1 : Nat) (0 : Nat) (0 : Nat) (0 : Nat)), ((7 : Nat), AV.int IntKind.i64 (↑(AA.frm x) : Int)), ((9 : Nat), AV.int IntKind.i64 (↑(AA.i x) : Int)), ((13 : Nat), AV.int IntKind.i64 (↑(AA.k x) : Int)), ((14 : Nat), AV.ff),
                    ((15 : Nat), AV.int IntKind.i64 (IntKind.wrap IntKind.i64 ((↑(AA.j x) : Int) + (1 : Int))))]
                  [some (Blk.mk false [] (2 : Nat) (AA.cap x) (fun r => [AV.int IntKind.i64 (AA.z x r), AV.int IntKind.i64 (AA.y x r)]) []), some (Blk.mk true [AV.int IntKind.i64 (AL.n (AA.s x))] (1 : Nat) (96 : Nat) (fun j => [AV.bool (AL.B (AA.s x) j)]) [AV.int IntKind.i64 (AL.c (AA.s x)), AV.int IntKind.i64 (AL.w (AA.s x)), AV.int IntKind.i64 (AL.l (AA.s x)), AV.bool (AL.d (AA.s x))])]))))))
    (T.ret
      (Ex.exit (6 : Nat),
        St.mk
          [((0 : Nat), AV.int IntKind.i64 (↑(AA.n x) : Int)), ((1 : Nat), AV.sl (0 : Nat) (0 : Nat) (2 : Nat) (0 : Nat) (AA.len x) (AA.cap x)), ((5 : Nat), AV.ptr (1 : Nat) (0 : Nat) (0 : Nat) (0 : Nat)), ((7 : Nat), AV.int IntKind.i64 (↑(AA.frm x) : Int)), ((9 : Nat), AV.int IntKind.i64 (↑(AA.i x) : Int)), ((13 : Nat), AV.int IntKind.i64 (↑(AA.k x) : Int)), ((14 : Nat), AV.bool (AA.br x)),
            ((15 : Nat), AV.int IntKind.i64 (↑(AA.j x) : Int))]
          [some (Blk.mk false [] (2 : Nat) (AA.cap x) (fun r => [AV.int IntKind.i64 (AA.z x r), AV.int IntKind.i64 (AA.y x r)]) []), some (Blk.mk true [AV.int IntKind.i64 (AL.n (AA.s x))] (1 : Nat) (96 : Nat) (fun j => [AV.bool (AL.B (AA.s x) j)]) [AV.int IntKind.i64 (AL.c (AA.s x)), AV.int IntKind.i64 (AL.w (AA.s x)), AV.int IntKind.i64 (AL.l (AA.s x)), AV.bool (AL.d (AA.s x))])])) := by
  kernel_rfl

theorem aaC_tree (x : AA) : keepT [0, 1, 5, 7, 9, 13] (acode Try.prog aaE (loopAt (loopAt (codeOf Try.f4) 0) 1) (aaC x)) = 
  T.ite (decide ((↑(AA.k x) : Int) < (↑(AA.n x) : Int)))
    (T.need
      (∃ ρ,
        SubSt (1 : Nat) ρ
          (St.mk
            [((0 : Nat), AV.int IntKind.i64 (↑(AA.n x) : Int)), ((1 : Nat), AV.sl (0 : Nat) (0 : Nat) (2 : Nat) (0 : Nat) (AA.len x) (AA.cap x)), ((5 : Nat), AV.ptr (1 : Nat) (0 : Nat) (0 : Nat) (0 : Nat)), ((7 : Nat), AV.int IntKind.i64 (↑(AA.frm x) : Int)), ((9 : Nat), AV.int IntKind.i64 (↑(AA.i x) : Int)), ((13 : Nat), AV.int IntKind.i64 (↑(AA.k x) : Int)), ((14 : Nat), AV.ff),
              ((15 : Nat), AV.int IntKind.i64 (↑(AA.frm x) : Int))]
            [some (Blk.mk false [] (2 : Nat) (AA.cap x) (fun r => [AV.int IntKind.i64 (AA.z x r), AV.int IntKind.i64 (AA.y x r)]) []), some (Blk.mk true [AV.int IntKind.i64 (AL.n (AA.s x))] (1 : Nat) (96 : Nat) (fun j => [AV.bool (AL.B (AA.s x) j)]) [AV.int IntKind.i64 (AL.c (AA.s x)), AV.int IntKind.i64 (AL.w (AA.s x)), AV.int IntKind.i64 (AL.l (AA.s x)), AV.bool (AL.d (AA.s x))])])
          (aaD (AA.mk (Int.toNat (↑(AA.n x) : Int)) (colZ (f1R (AA.z x) (AA.y x) (AA.cap x))) (colY (f1R (AA.z x) (AA.y x) (AA.cap x))) (AA.len x) (AA.cap x) (stA (alB (AA.s x))) (0 : Int) (Int.toNat (↑(AA.frm x) : Int)) false (Int.toNat (↑(AA.i x) : Int)) false (0 : Nat) (Int.toNat (↑(AA.k x) : Int)) false (Int.toNat (↑(AA.frm x) : Int)))))
      (T.need (aaID (AA.mk (Int.toNat (↑(AA.n x) : Int)) (colZ (f1R (AA.z x) (AA.y x) (AA.cap x))) (colY (f1R (AA.z x) (AA.y x) (AA.cap x))) (AA.len x) (AA.cap x) (stA (alB (AA.s x))) (0 : Int) (Int.toNat (↑(AA.frm x) : Int)) false (Int.toNat (↑(AA.i x) : Int)) false (0 : Nat) (Int.toNat (↑(AA.k x) : Int)) false (Int.toNat (↑(AA.frm x) : Int))))
        (T.ite false
          (T.ret
            (Ex.ret,
              St.mk
                [((0 : Nat), AV.int IntKind.i64 (↑(Int.toNat (↑(AA.n x) : Int)) : Int)), ((1 : Nat), AV.sl (0 : Nat) (0 : Nat) (2 : Nat) (0 : Nat) (AA.len x) (AA.cap x)), ((5 : Nat), AV.ptr (1 : Nat) (0 : Nat) (0 : Nat) (0 : Nat)), ((7 : Nat), AV.int IntKind.i64 (↑(Int.toNat (↑(AA.frm x) : Int)) : Int)), ((9 : Nat), AV.int IntKind.i64 (↑(Int.toNat (↑(AA.i x) : Int)) : Int)),
                  ((13 : Nat), AV.int IntKind.i64 (↑(Int.toNat (↑(AA.k x) : Int)) : Int))]
                [some (Blk.mk false [] (2 : Nat) (AA.cap x) (fun r => [AV.int IntKind.i64 (colZ (f1R (AA.z x) (AA.y x) (AA.cap x)) r), AV.int IntKind.i64 (colY (f1R (AA.z x) (AA.y x) (AA.cap x)) r)]) []),
                  some
                    (Blk.mk true [AV.int IntKind.i64 (intA (List.getD [AV.int IntKind.i64 (AL.n (AA.s x))] (0 : Nat) AV.ff))] (1 : Nat) (96 : Nat) (fun j => [AV.bool (boolA (List.getD [AV.bool (AL.B (AA.s x) j)] (0 : Nat) AV.ff))])
                      [AV.int IntKind.i64 (intA (List.getD [AV.int IntKind.i64 (AL.c (AA.s x)), AV.int IntKind.i64 (AL.w (AA.s x)), AV.int IntKind.i64 (AL.l (AA.s x)), AV.bool (AL.d (AA.s x))] (0 : Nat) AV.ff)), AV.int IntKind.i64 (intA (List.getD [AV.int IntKind.i64 (AL.c (AA.s x)), AV.int IntKind.i64 (AL.w (AA.s x)), AV.int IntKind.i64 (AL.l (AA.s x)), AV.bool (AL.d (AA.s x))] (1 : Nat) AV.ff)),
                        AV.int IntKind.i64 (intA (List.getD [AV.int IntKind.i64 (AL.c (AA.s x)), AV.int IntKind.i64 (AL.w (AA.s x)), AV.int IntKind.i64 (AL.l (AA.s x)), AV.bool (AL.d (AA.s x))] (2 : Nat) AV.ff)), AV.bool (boolA (List.getD [AV.int IntKind.i64 (AL.c (AA.s x)), AV.int IntKind.i64 (AL.w (AA.s x)), AV.int IntKind.i64 (AL.l (AA.s x)), AV.bool (AL.d (AA.s x))] (3 : Nat) AV.ff))])]))
          (T.ret
            (Ex.norm,
              St.mk
                [((0 : Nat), AV.int IntKind.i64 (↑(Int.toNat (↑(AA.n x) : Int)) : Int)), ((1 : Nat), AV.sl (0 : Nat) (0 : Nat) (2 : Nat) (0 : Nat) (AA.len x) (AA.cap x)), ((5 : Nat), AV.ptr (1 : Nat) (0 : Nat) (0 : Nat) (0 : Nat)), ((7 : Nat), AV.int IntKind.i64 (↑(Int.toNat (↑(AA.frm x) : Int)) : Int)), ((9 : Nat), AV.int IntKind.i64 (↑(Int.toNat (↑(AA.i x) : Int)) : Int)),
                  ((13 : Nat), AV.int IntKind.i64 (IntKind.wrap IntKind.i64 ((↑(Int.toNat (↑(AA.k x) : Int)) : Int) + (1 : Int))))]
                [some (Blk.mk false [] (2 : Nat) (AA.cap x) (fun r => [AV.int IntKind.i64 (colZ (f1R (AA.z x) (AA.y x) (AA.cap x)) r), AV.int IntKind.i64 (colY (f1R (AA.z x) (AA.y x) (AA.cap x)) r)]) []),
                  some
                    (Blk.mk true [AV.int IntKind.i64 (intA (List.getD [AV.int IntKind.i64 (AL.n (AA.s x))] (0 : Nat) AV.ff))] (1 : Nat) (96 : Nat) (fun j => [AV.bool (boolA (List.getD [AV.bool (AL.B (AA.s x) j)] (0 : Nat) AV.ff))])
                      [AV.int IntKind.i64 (intA (List.getD [AV.int IntKind.i64 (AL.c (AA.s x)), AV.int IntKind.i64 (AL.w (AA.s x)), AV.int IntKind.i64 (AL.l (AA.s x)), AV.bool (AL.d (AA.s x))] (0 : Nat) AV.ff)), AV.int IntKind.i64 (intA (List.getD [AV.int IntKind.i64 (AL.c (AA.s x)), AV.int IntKind.i64 (AL.w (AA.s x)), AV.int IntKind.i64 (AL.l (AA.s x)), AV.bool (AL.d (AA.s x))] (1 : Nat) AV.ff)),
                        AV.int IntKind.i64 (intA (List.getD [AV.int IntKind.i64 (AL.c (AA.s x)), AV.int IntKind.i64 (AL.w (AA.s x)), AV.int IntKind.i64 (AL.l (AA.s x)), AV.bool (AL.d (AA.s x))] (2 : Nat) AV.ff)), AV.bool (boolA (List.getD [AV.int IntKind.i64 (AL.c (AA.s x)), AV.int IntKind.i64 (AL.w (AA.s x)), AV.int IntKind.i64 (AL.l (AA.s x)), AV.bool (AL.d (AA.s x))] (3 : Nat) AV.ff))])])))))
    (T.ret
      (Ex.exit (4 : Nat),
        St.mk [((0 : Nat), AV.int IntKind.i64 (↑(AA.n x) : Int)), ((1 : Nat), AV.sl (0 : Nat) (0 : Nat) (2 : Nat) (0 : Nat) (AA.len x) (AA.cap x)), ((5 : Nat), AV.ptr (1 : Nat) (0 : Nat) (0 : Nat) (0 : Nat)), ((7 : Nat), AV.int IntKind.i64 (↑(AA.frm x) : Int)), ((9 : Nat), AV.int IntKind.i64 (↑(AA.i x) : Int)), ((13 : Nat), AV.int IntKind.i64 (↑(AA.k x) : Int))]
          [some (Blk.mk false [] (2 : Nat) (AA.cap x) (fun r => [AV.int IntKind.i64 (AA.z x r), AV.int IntKind.i64 (AA.y x r)]) []), some (Blk.mk true [AV.int IntKind.i64 (AL.n (AA.s x))] (1 : Nat) (96 : Nat) (fun j => [AV.bool (AL.B (AA.s x) j)]) [AV.int IntKind.i64 (AL.c (AA.s x)), AV.int IntKind.i64 (AL.w (AA.s x)), AV.int IntKind.i64 (AL.l (AA.s x)), AV.bool (AL.d (AA.s x))])])) := by
  kernel_rfl

theorem aaA_tree (x : AA) : keepT [0, 1, 5, 6, 7, 8, 9] (acode Try.prog aaE (loopAt (codeOf Try.f4) 0) (aaA x)) = 
  T.ite (decide ((↑(AA.i x) : Int) < (↑(AA.len x) : Int)))
    (T.ite (decide ((↑(AA.i x) : Int) < (300 : Int)))
      (T.chk (decide ((0 : Int) ≤ (↑(AA.i x) : Int)) && decide ((↑(AA.i x) : Int) < (↑(AA.len x) : Int)))
        (T.chk (decide ((0 : Nat) + Int.toNat (↑(AA.i x) : Int) < AA.cap x))
          (T.chk (decide ((0 : Int) ≤ (↑(AA.i x) : Int)) && decide ((↑(AA.i x) : Int) < (↑(AA.len x) : Int)))
            (T.chk (decide ((0 : Nat) + Int.toNat (↑(AA.i x) : Int) < AA.cap x))
              (T.need (IsAl (Blk.mk true [AV.int IntKind.i64 (AL.n (AA.s x))] (1 : Nat) (96 : Nat) (fun j => [AV.bool (AL.B (AA.s x) j)]) [AV.int IntKind.i64 (AL.c (AA.s x)), AV.int IntKind.i64 (AL.w (AA.s x)), AV.int IntKind.i64 (AL.l (AA.s x)), AV.bool (AL.d (AA.s x))]))
                (T.chk (decide (intA (List.getD [AV.int IntKind.i64 (AL.n (AA.s x))] (0 : Nat) AV.ff) ≤ (96 : Int)))
                  (T.need
                    (∃ ρ,
                      SubSt (1 : Nat) ρ
                        (St.mk
                          [((0 : Nat), AV.int IntKind.i64 (↑(AA.n x) : Int)), ((1 : Nat), AV.sl (0 : Nat) (0 : Nat) (2 : Nat) (0 : Nat) (AA.len x) (AA.cap x)), ((5 : Nat), AV.ptr (1 : Nat) (0 : Nat) (0 : Nat) (0 : Nat)), ((6 : Nat), AV.int IntKind.i64 (AA.last x)), ((7 : Nat), AV.int IntKind.i64 (↑(AA.frm x) : Int)), ((8 : Nat), AV.bool (AA.any x)), ((9 : Nat), AV.int IntKind.i64 (↑(AA.i x) : Int)),
                            ((10 : Nat), AV.bool (barR (stA (alB (AA.s x))) (AA.z x ((0 : Nat) + Int.toNat (↑(AA.i x) : Int))) (AA.y x ((0 : Nat) + Int.toNat (↑(AA.i x) : Int))))), ((11 : Nat), AV.int IntKind.i64 (0 : Int)), ((12 : Nat), AV.int IntKind.i64 (0 : Int))]
                          [some (Blk.mk false [] (2 : Nat) (AA.cap x) (fun r => [AV.int IntKind.i64 (AA.z x r), AV.int IntKind.i64 (AA.y x r)]) []),
                            some
                              (Blk.mk true [AV.int IntKind.i64 (AL.n (bar (stA (alB (AA.s x))) (AA.z x ((0 : Nat) + Int.toNat (↑(AA.i x) : Int))) (AA.y x ((0 : Nat) + Int.toNat (↑(AA.i x) : Int)))))] (1 : Nat) (96 : Nat) (fun j => [AV.bool (AL.B (bar (stA (alB (AA.s x))) (AA.z x ((0 : Nat) + Int.toNat (↑(AA.i x) : Int))) (AA.y x ((0 : Nat) + Int.toNat (↑(AA.i x) : Int)))) j)])
                                [AV.int IntKind.i64 (AL.c (bar (stA (alB (AA.s x))) (AA.z x ((0 : Nat) + Int.toNat (↑(AA.i x) : Int))) (AA.y x ((0 : Nat) + Int.toNat (↑(AA.i x) : Int))))), AV.int IntKind.i64 (AL.w (bar (stA (alB (AA.s x))) (AA.z x ((0 : Nat) + Int.toNat (↑(AA.i x) : Int))) (AA.y x ((0 : Nat) + Int.toNat (↑(AA.i x) : Int))))),
                                  AV.int IntKind.i64 (AL.l (bar (stA (alB (AA.s x))) (AA.z x ((0 : Nat) + Int.toNat (↑(AA.i x) : Int))) (AA.y x ((0 : Nat) + Int.toNat (↑(AA.i x) : Int))))), AV.bool (AL.d (bar (stA (alB (AA.s x))) (AA.z x ((0 : Nat) + Int.toNat (↑(AA.i x) : Int))) (AA.y x ((0 : Nat) + Int.toNat (↑(AA.i x) : Int)))))])])
                        (aaB
                          (AA.mk (Int.toNat (↑(AA.n x) : Int)) (colZ (f1R (AA.z x) (AA.y x) (AA.cap x))) (colY (f1R (AA.z x) (AA.y x) (AA.cap x))) (AA.len x) (AA.cap x) (stA (renB (out [(1 : Nat)] (List.length (aaM x))) (alB (bar (stA (alB (AA.s x))) (AA.z x ((0 : Nat) + Int.toNat (↑(AA.i x) : Int))) (AA.y x ((0 : Nat) + Int.toNat (↑(AA.i x) : Int))))))) (AA.last x) (Int.toNat (↑(AA.frm x) : Int))
                            (boolA (AV.bool (AA.any x))) (Int.toNat (↑(AA.i x) : Int)) (boolA (ren (out [(1 : Nat)] (List.length (aaM x))) (AV.bool (barR (stA (alB (AA.s x))) (AA.z x ((0 : Nat) + Int.toNat (↑(AA.i x) : Int))) (AA.y x ((0 : Nat) + Int.toNat (↑(AA.i x) : Int))))))) (0 : Nat) (0 : Nat) false (0 : Nat))))
                    (T.need
                      (aaIB
                        (AA.mk (Int.toNat (↑(AA.n x) : Int)) (colZ (f1R (AA.z x) (AA.y x) (AA.cap x))) (colY (f1R (AA.z x) (AA.y x) (AA.cap x))) (AA.len x) (AA.cap x) (stA (renB (out [(1 : Nat)] (List.length (aaM x))) (alB (bar (stA (alB (AA.s x))) (AA.z x ((0 : Nat) + Int.toNat (↑(AA.i x) : Int))) (AA.y x ((0 : Nat) + Int.toNat (↑(AA.i x) : Int))))))) (AA.last x) (Int.toNat (↑(AA.frm x) : Int))
                          (boolA (AV.bool (AA.any x))) (Int.toNat (↑(AA.i x) : Int)) (boolA (ren (out [(1 : Nat)] (List.length (aaM x))) (AV.bool (barR (stA (alB (AA.s x))) (AA.z x ((0 : Nat) + Int.toNat (↑(AA.i x) : Int))) (AA.y x ((0 : Nat) + Int.toNat (↑(AA.i x) : Int))))))) (0 : Nat) (0 : Nat) false (0 : Nat)))
                      (T.ite ((↑(cntS (stA (renB (out [(1 : Nat)] (List.length (aaM x))) (alB (bar (stA (alB (AA.s x))) (AA.z x ((0 : Nat) + Int.toNat (↑(AA.i x) : Int))) (AA.y x ((0 : Nat) + Int.toNat (↑(AA.i x) : Int))))))) (Int.toNat (↑(AA.n x) : Int))) : Int) == (↑(Int.toNat (↑(AA.n x) : Int)) : Int))
                        (T.ret
                          (Ex.ret,
                            St.mk
                              [((0 : Nat), AV.int IntKind.i64 (↑(Int.toNat (↑(AA.n x) : Int)) : Int)), ((1 : Nat), AV.sl (0 : Nat) (0 : Nat) (2 : Nat) (0 : Nat) (AA.len x) (AA.cap x)), ((5 : Nat), AV.ptr (1 : Nat) (0 : Nat) (0 : Nat) (0 : Nat)), ((6 : Nat), AV.int IntKind.i64 (AA.last x)), ((7 : Nat), AV.int IntKind.i64 (↑(Int.toNat (↑(AA.frm x) : Int)) : Int)),
                                ((8 : Nat), AV.bool (boolA (AV.bool (AA.any x)))), ((9 : Nat), AV.int IntKind.i64 (↑(Int.toNat (↑(AA.i x) : Int)) : Int))]
                              [some (Blk.mk false [] (2 : Nat) (AA.cap x) (fun r => [AV.int IntKind.i64 (colZ (f1R (AA.z x) (AA.y x) (AA.cap x)) r), AV.int IntKind.i64 (colY (f1R (AA.z x) (AA.y x) (AA.cap x)) r)]) []),
                                some
                                  (Blk.mk true [AV.int IntKind.i64 (intA (List.getD (renL (out [(1 : Nat)] (List.length (aaM x))) [AV.int IntKind.i64 (AL.n (bar (stA (alB (AA.s x))) (AA.z x ((0 : Nat) + Int.toNat (↑(AA.i x) : Int))) (AA.y x ((0 : Nat) + Int.toNat (↑(AA.i x) : Int)))))]) (0 : Nat) AV.ff))] (1 : Nat) (96 : Nat)
                                    (fun j => [AV.bool (boolA (List.getD (renL (out [(1 : Nat)] (List.length (aaM x))) [AV.bool (AL.B (bar (stA (alB (AA.s x))) (AA.z x ((0 : Nat) + Int.toNat (↑(AA.i x) : Int))) (AA.y x ((0 : Nat) + Int.toNat (↑(AA.i x) : Int)))) j)]) (0 : Nat) AV.ff))])
                                    [AV.int IntKind.i64
                                        (intA
                                          (List.getD
                                            (renL (out [(1 : Nat)] (List.length (aaM x)))
                                              [AV.int IntKind.i64 (AL.c (bar (stA (alB (AA.s x))) (AA.z x ((0 : Nat) + Int.toNat (↑(AA.i x) : Int))) (AA.y x ((0 : Nat) + Int.toNat (↑(AA.i x) : Int))))), AV.int IntKind.i64 (AL.w (bar (stA (alB (AA.s x))) (AA.z x ((0 : Nat) + Int.toNat (↑(AA.i x) : Int))) (AA.y x ((0 : Nat) + Int.toNat (↑(AA.i x) : Int))))),
                                                AV.int IntKind.i64 (AL.l (bar (stA (alB (AA.s x))) (AA.z x ((0 : Nat) + Int.toNat (↑(AA.i x) : Int))) (AA.y x ((0 : Nat) + Int.toNat (↑(AA.i x) : Int))))), AV.bool (AL.d (bar (stA (alB (AA.s x))) (AA.z x ((0 : Nat) + Int.toNat (↑(AA.i x) : Int))) (AA.y x ((0 : Nat) + Int.toNat (↑(AA.i x) : Int)))))])
                                            (0 : Nat) AV.ff)),
                                      AV.int IntKind.i64
                                        (intA
                                          (List.getD
                                            (renL (out [(1 : Nat)] (List.length (aaM x)))
                                              [AV.int IntKind.i64 (AL.c (bar (stA (alB (AA.s x))) (AA.z x ((0 : Nat) + Int.toNat (↑(AA.i x) : Int))) (AA.y x ((0 : Nat) + Int.toNat (↑(AA.i x) : Int))))), AV.int IntKind.i64 (AL.w (bar (stA (alB (AA.s x))) (AA.z x ((0 : Nat) + Int.toNat (↑(AA.i x) : Int))) (AA.y x ((0 : Nat) + Int.toNat (↑(AA.i x) : Int))))),
                                                AV.int IntKind.i64 (AL.l (bar (stA (alB (AA.s x))) (AA.z x ((0 : Nat) + Int.toNat (↑(AA.i x) : Int))) (AA.y x ((0 : Nat) + Int.toNat (↑(AA.i x) : Int))))), AV.bool (AL.d (bar (stA (alB (AA.s x))) (AA.z x ((0 : Nat) + Int.toNat (↑(AA.i x) : Int))) (AA.y x ((0 : Nat) + Int.toNat (↑(AA.i x) : Int)))))])
                                            (1 : Nat) AV.ff)),
                                      AV.int IntKind.i64
                                        (intA
                                          (List.getD
                                            (renL (out [(1 : Nat)] (List.length (aaM x)))
                                              [AV.int IntKind.i64 (AL.c (bar (stA (alB (AA.s x))) (AA.z x ((0 : Nat) + Int.toNat (↑(AA.i x) : Int))) (AA.y x ((0 : Nat) + Int.toNat (↑(AA.i x) : Int))))), AV.int IntKind.i64 (AL.w (bar (stA (alB (AA.s x))) (AA.z x ((0 : Nat) + Int.toNat (↑(AA.i x) : Int))) (AA.y x ((0 : Nat) + Int.toNat (↑(AA.i x) : Int))))),
                                                AV.int IntKind.i64 (AL.l (bar (stA (alB (AA.s x))) (AA.z x ((0 : Nat) + Int.toNat (↑(AA.i x) : Int))) (AA.y x ((0 : Nat) + Int.toNat (↑(AA.i x) : Int))))), AV.bool (AL.d (bar (stA (alB (AA.s x))) (AA.z x ((0 : Nat) + Int.toNat (↑(AA.i x) : Int))) (AA.y x ((0 : Nat) + Int.toNat (↑(AA.i x) : Int)))))])
                                            (2 : Nat) AV.ff)),
                                      AV.bool
                                        (boolA
                                          (List.getD
                                            (renL (out [(1 : Nat)] (List.length (aaM x)))
                                              [AV.int IntKind.i64 (AL.c (bar (stA (alB (AA.s x))) (AA.z x ((0 : Nat) + Int.toNat (↑(AA.i x) : Int))) (AA.y x ((0 : Nat) + Int.toNat (↑(AA.i x) : Int))))), AV.int IntKind.i64 (AL.w (bar (stA (alB (AA.s x))) (AA.z x ((0 : Nat) + Int.toNat (↑(AA.i x) : Int))) (AA.y x ((0 : Nat) + Int.toNat (↑(AA.i x) : Int))))),
                                                AV.int IntKind.i64 (AL.l (bar (stA (alB (AA.s x))) (AA.z x ((0 : Nat) + Int.toNat (↑(AA.i x) : Int))) (AA.y x ((0 : Nat) + Int.toNat (↑(AA.i x) : Int))))), AV.bool (AL.d (bar (stA (alB (AA.s x))) (AA.z x ((0 : Nat) + Int.toNat (↑(AA.i x) : Int))) (AA.y x ((0 : Nat) + Int.toNat (↑(AA.i x) : Int)))))])
                                            (3 : Nat) AV.ff))])]))
                        (T.ite (boolA (ren (out [(1 : Nat)] (List.length (aaM x))) (AV.bool (barR (stA (alB (AA.s x))) (AA.z x ((0 : Nat) + Int.toNat (↑(AA.i x) : Int))) (AA.y x ((0 : Nat) + Int.toNat (↑(AA.i x) : Int)))))))
                          (T.ite (decide ((↑(cntS (stA (renB (out [(1 : Nat)] (List.length (aaM x))) (alB (bar (stA (alB (AA.s x))) (AA.z x ((0 : Nat) + Int.toNat (↑(AA.i x) : Int))) (AA.y x ((0 : Nat) + Int.toNat (↑(AA.i x) : Int))))))) (Int.toNat (↑(AA.n x) : Int))) : Int) > (0 : Int)))
                            (T.ret
                              (Ex.ret,
                                St.mk
                                  [((0 : Nat), AV.int IntKind.i64 (↑(Int.toNat (↑(AA.n x) : Int)) : Int)), ((1 : Nat), AV.sl (0 : Nat) (0 : Nat) (2 : Nat) (0 : Nat) (AA.len x) (AA.cap x)), ((5 : Nat), AV.ptr (1 : Nat) (0 : Nat) (0 : Nat) (0 : Nat)), ((6 : Nat), AV.int IntKind.i64 (AA.last x)), ((7 : Nat), AV.int IntKind.i64 (↑(Int.toNat (↑(AA.frm x) : Int)) : Int)),
                                    ((8 : Nat), AV.bool (boolA (AV.bool (AA.any x)))), ((9 : Nat), AV.int IntKind.i64 (↑(Int.toNat (↑(AA.i x) : Int)) : Int))]
                                  [some (Blk.mk false [] (2 : Nat) (AA.cap x) (fun r => [AV.int IntKind.i64 (colZ (f1R (AA.z x) (AA.y x) (AA.cap x)) r), AV.int IntKind.i64 (colY (f1R (AA.z x) (AA.y x) (AA.cap x)) r)]) []),
                                    some
                                      (Blk.mk true [AV.int IntKind.i64 (intA (List.getD (renL (out [(1 : Nat)] (List.length (aaM x))) [AV.int IntKind.i64 (AL.n (bar (stA (alB (AA.s x))) (AA.z x ((0 : Nat) + Int.toNat (↑(AA.i x) : Int))) (AA.y x ((0 : Nat) + Int.toNat (↑(AA.i x) : Int)))))]) (0 : Nat) AV.ff))] (1 : Nat) (96 : Nat)
                                        (fun j => [AV.bool (boolA (List.getD (renL (out [(1 : Nat)] (List.length (aaM x))) [AV.bool (AL.B (bar (stA (alB (AA.s x))) (AA.z x ((0 : Nat) + Int.toNat (↑(AA.i x) : Int))) (AA.y x ((0 : Nat) + Int.toNat (↑(AA.i x) : Int)))) j)]) (0 : Nat) AV.ff))])
                                        [AV.int IntKind.i64
                                            (intA
                                              (List.getD
                                                (renL (out [(1 : Nat)] (List.length (aaM x)))
                                                  [AV.int IntKind.i64 (AL.c (bar (stA (alB (AA.s x))) (AA.z x ((0 : Nat) + Int.toNat (↑(AA.i x) : Int))) (AA.y x ((0 : Nat) + Int.toNat (↑(AA.i x) : Int))))), AV.int IntKind.i64 (AL.w (bar (stA (alB (AA.s x))) (AA.z x ((0 : Nat) + Int.toNat (↑(AA.i x) : Int))) (AA.y x ((0 : Nat) + Int.toNat (↑(AA.i x) : Int))))),
                                                    AV.int IntKind.i64 (AL.l (bar (stA (alB (AA.s x))) (AA.z x ((0 : Nat) + Int.toNat (↑(AA.i x) : Int))) (AA.y x ((0 : Nat) + Int.toNat (↑(AA.i x) : Int))))), AV.bool (AL.d (bar (stA (alB (AA.s x))) (AA.z x ((0 : Nat) + Int.toNat (↑(AA.i x) : Int))) (AA.y x ((0 : Nat) + Int.toNat (↑(AA.i x) : Int)))))])
                                                (0 : Nat) AV.ff)),
                                          AV.int IntKind.i64
                                            (intA
                                              (List.getD
                                                (renL (out [(1 : Nat)] (List.length (aaM x)))
                                                  [AV.int IntKind.i64 (AL.c (bar (stA (alB (AA.s x))) (AA.z x ((0 : Nat) + Int.toNat (↑(AA.i x) : Int))) (AA.y x ((0 : Nat) + Int.toNat (↑(AA.i x) : Int))))), AV.int IntKind.i64 (AL.w (bar (stA (alB (AA.s x))) (AA.z x ((0 : Nat) + Int.toNat (↑(AA.i x) : Int))) (AA.y x ((0 : Nat) + Int.toNat (↑(AA.i x) : Int))))),
                                                    AV.int IntKind.i64 (AL.l (bar (stA (alB (AA.s x))) (AA.z x ((0 : Nat) + Int.toNat (↑(AA.i x) : Int))) (AA.y x ((0 : Nat) + Int.toNat (↑(AA.i x) : Int))))), AV.bool (AL.d (bar (stA (alB (AA.s x))) (AA.z x ((0 : Nat) + Int.toNat (↑(AA.i x) : Int))) (AA.y x ((0 : Nat) + Int.toNat (↑(AA.i x) : Int)))))])
                                                (1 : Nat) AV.ff)),
                                          AV.int IntKind.i64
                                            (intA
                                              (List.getD
                                                (renL (out [(1 : Nat)] (List.length (aaM x)))
                                                  [AV.int IntKind.i64 (AL.c (bar (stA (alB (AA.s x))) (AA.z x ((0 : Nat) + Int.toNat (↑(AA.i x) : Int))) (AA.y x ((0 : Nat) + Int.toNat (↑(AA.i x) : Int))))), AV.int IntKind.i64 (AL.w (bar (stA (alB (AA.s x))) (AA.z x ((0 : Nat) + Int.toNat (↑(AA.i x) : Int))) (AA.y x ((0 : Nat) + Int.toNat (↑(AA.i x) : Int))))),
                                                    AV.int IntKind.i64 (AL.l (bar (stA (alB (AA.s x))) (AA.z x ((0 : Nat) + Int.toNat (↑(AA.i x) : Int))) (AA.y x ((0 : Nat) + Int.toNat (↑(AA.i x) : Int))))), AV.bool (AL.d (bar (stA (alB (AA.s x))) (AA.z x ((0 : Nat) + Int.toNat (↑(AA.i x) : Int))) (AA.y x ((0 : Nat) + Int.toNat (↑(AA.i x) : Int)))))])
                                                (2 : Nat) AV.ff)),
                                          AV.bool
                                            (boolA
                                              (List.getD
                                                (renL (out [(1 : Nat)] (List.length (aaM x)))
                                                  [AV.int IntKind.i64 (AL.c (bar (stA (alB (AA.s x))) (AA.z x ((0 : Nat) + Int.toNat (↑(AA.i x) : Int))) (AA.y x ((0 : Nat) + Int.toNat (↑(AA.i x) : Int))))), AV.int IntKind.i64 (AL.w (bar (stA (alB (AA.s x))) (AA.z x ((0 : Nat) + Int.toNat (↑(AA.i x) : Int))) (AA.y x ((0 : Nat) + Int.toNat (↑(AA.i x) : Int))))),
                                                    AV.int IntKind.i64 (AL.l (bar (stA (alB (AA.s x))) (AA.z x ((0 : Nat) + Int.toNat (↑(AA.i x) : Int))) (AA.y x ((0 : Nat) + Int.toNat (↑(AA.i x) : Int))))), AV.bool (AL.d (bar (stA (alB (AA.s x))) (AA.z x ((0 : Nat) + Int.toNat (↑(AA.i x) : Int))) (AA.y x ((0 : Nat) + Int.toNat (↑(AA.i x) : Int)))))])
                                                (3 : Nat) AV.ff))])]))
                            (T.ite (boolA (AV.bool (AA.any x)))
                              (T.chk (decide ((0 : Int) ≤ (↑(Int.toNat (↑(AA.i x) : Int)) : Int)) && decide ((↑(Int.toNat (↑(AA.i x) : Int)) : Int) < (↑(AA.len x) : Int)))
                                (T.chk (decide ((0 : Nat) + Int.toNat (↑(Int.toNat (↑(AA.i x) : Int)) : Int) < AA.cap x))
                                  (T.ite (decide (colY (f1R (AA.z x) (AA.y x) (AA.cap x)) ((0 : Nat) + Int.toNat (↑(Int.toNat (↑(AA.i x) : Int)) : Int)) ≤ AA.last x))
                                    (T.ret
                                      (Ex.ret,
                                        St.mk
                                          [((0 : Nat), AV.int IntKind.i64 (↑(Int.toNat (↑(AA.n x) : Int)) : Int)), ((1 : Nat), AV.sl (0 : Nat) (0 : Nat) (2 : Nat) (0 : Nat) (AA.len x) (AA.cap x)), ((5 : Nat), AV.ptr (1 : Nat) (0 : Nat) (0 : Nat) (0 : Nat)), ((6 : Nat), AV.int IntKind.i64 (AA.last x)), ((7 : Nat), AV.int IntKind.i64 (↑(Int.toNat (↑(AA.frm x) : Int)) : Int)),
                                            ((8 : Nat), AV.bool (boolA (AV.bool (AA.any x)))), ((9 : Nat), AV.int IntKind.i64 (↑(Int.toNat (↑(AA.i x) : Int)) : Int))]
                                          [some (Blk.mk false [] (2 : Nat) (AA.cap x) (fun r => [AV.int IntKind.i64 (colZ (f1R (AA.z x) (AA.y x) (AA.cap x)) r), AV.int IntKind.i64 (colY (f1R (AA.z x) (AA.y x) (AA.cap x)) r)]) []),
                                            some
                                              (Blk.mk true [AV.int IntKind.i64 (intA (List.getD (renL (out [(1 : Nat)] (List.length (aaM x))) [AV.int IntKind.i64 (AL.n (bar (stA (alB (AA.s x))) (AA.z x ((0 : Nat) + Int.toNat (↑(AA.i x) : Int))) (AA.y x ((0 : Nat) + Int.toNat (↑(AA.i x) : Int)))))]) (0 : Nat) AV.ff))] (1 : Nat) (96 : Nat)
                                                (fun j => [AV.bool (boolA (List.getD (renL (out [(1 : Nat)] (List.length (aaM x))) [AV.bool (AL.B (bar (stA (alB (AA.s x))) (AA.z x ((0 : Nat) + Int.toNat (↑(AA.i x) : Int))) (AA.y x ((0 : Nat) + Int.toNat (↑(AA.i x) : Int)))) j)]) (0 : Nat) AV.ff))])
                                                [AV.int IntKind.i64
                                                    (intA
                                                      (List.getD
                                                        (renL (out [(1 : Nat)] (List.length (aaM x)))
                                                          [AV.int IntKind.i64 (AL.c (bar (stA (alB (AA.s x))) (AA.z x ((0 : Nat) + Int.toNat (↑(AA.i x) : Int))) (AA.y x ((0 : Nat) + Int.toNat (↑(AA.i x) : Int))))), AV.int IntKind.i64 (AL.w (bar (stA (alB (AA.s x))) (AA.z x ((0 : Nat) + Int.toNat (↑(AA.i x) : Int))) (AA.y x ((0 : Nat) + Int.toNat (↑(AA.i x) : Int))))),
                                                            AV.int IntKind.i64 (AL.l (bar (stA (alB (AA.s x))) (AA.z x ((0 : Nat) + Int.toNat (↑(AA.i x) : Int))) (AA.y x ((0 : Nat) + Int.toNat (↑(AA.i x) : Int))))), AV.bool (AL.d (bar (stA (alB (AA.s x))) (AA.z x ((0 : Nat) + Int.toNat (↑(AA.i x) : Int))) (AA.y x ((0 : Nat) + Int.toNat (↑(AA.i x) : Int)))))])
                                                        (0 : Nat) AV.ff)),
                                                  AV.int IntKind.i64
                                                    (intA
                                                      (List.getD
                                                        (renL (out [(1 : Nat)] (List.length (aaM x)))
                                                          [AV.int IntKind.i64 (AL.c (bar (stA (alB (AA.s x))) (AA.z x ((0 : Nat) + Int.toNat (↑(AA.i x) : Int))) (AA.y x ((0 : Nat) + Int.toNat (↑(AA.i x) : Int))))), AV.int IntKind.i64 (AL.w (bar (stA (alB (AA.s x))) (AA.z x ((0 : Nat) + Int.toNat (↑(AA.i x) : Int))) (AA.y x ((0 : Nat) + Int.toNat (↑(AA.i x) : Int))))),
                                                            AV.int IntKind.i64 (AL.l (bar (stA (alB (AA.s x))) (AA.z x ((0 : Nat) + Int.toNat (↑(AA.i x) : Int))) (AA.y x ((0 : Nat) + Int.toNat (↑(AA.i x) : Int))))), AV.bool (AL.d (bar (stA (alB (AA.s x))) (AA.z x ((0 : Nat) + Int.toNat (↑(AA.i x) : Int))) (AA.y x ((0 : Nat) + Int.toNat (↑(AA.i x) : Int)))))])
                                                        (1 : Nat) AV.ff)),
                                                  AV.int IntKind.i64
                                                    (intA
                                                      (List.getD
                                                        (renL (out [(1 : Nat)] (List.length (aaM x)))
                                                          [AV.int IntKind.i64 (AL.c (bar (stA (alB (AA.s x))) (AA.z x ((0 : Nat) + Int.toNat (↑(AA.i x) : Int))) (AA.y x ((0 : Nat) + Int.toNat (↑(AA.i x) : Int))))), AV.int IntKind.i64 (AL.w (bar (stA (alB (AA.s x))) (AA.z x ((0 : Nat) + Int.toNat (↑(AA.i x) : Int))) (AA.y x ((0 : Nat) + Int.toNat (↑(AA.i x) : Int))))),
                                                            AV.int IntKind.i64 (AL.l (bar (stA (alB (AA.s x))) (AA.z x ((0 : Nat) + Int.toNat (↑(AA.i x) : Int))) (AA.y x ((0 : Nat) + Int.toNat (↑(AA.i x) : Int))))), AV.bool (AL.d (bar (stA (alB (AA.s x))) (AA.z x ((0 : Nat) + Int.toNat (↑(AA.i x) : Int))) (AA.y x ((0 : Nat) + Int.toNat (↑(AA.i x) : Int)))))])
                                                        (2 : Nat) AV.ff)),
                                                  AV.bool
                                                    (boolA
                                                      (List.getD
                                                        (renL (out [(1 : Nat)] (List.length (aaM x)))
                                                          [AV.int IntKind.i64 (AL.c (bar (stA (alB (AA.s x))) (AA.z x ((0 : Nat) + Int.toNat (↑(AA.i x) : Int))) (AA.y x ((0 : Nat) + Int.toNat (↑(AA.i x) : Int))))), AV.int IntKind.i64 (AL.w (bar (stA (alB (AA.s x))) (AA.z x ((0 : Nat) + Int.toNat (↑(AA.i x) : Int))) (AA.y x ((0 : Nat) + Int.toNat (↑(AA.i x) : Int))))),
                                                            AV.int IntKind.i64 (AL.l (bar (stA (alB (AA.s x))) (AA.z x ((0 : Nat) + Int.toNat (↑(AA.i x) : Int))) (AA.y x ((0 : Nat) + Int.toNat (↑(AA.i x) : Int))))), AV.bool (AL.d (bar (stA (alB (AA.s x))) (AA.z x ((0 : Nat) + Int.toNat (↑(AA.i x) : Int))) (AA.y x ((0 : Nat) + Int.toNat (↑(AA.i x) : Int)))))])
                                                        (3 : Nat) AV.ff))])]))
                                    (T.ite (!boolA (ren (out [(1 : Nat)] (List.length (aaM x))) (AV.bool (barR (stA (alB (AA.s x))) (AA.z x ((0 : Nat) + Int.toNat (↑(AA.i x) : Int))) (AA.y x ((0 : Nat) + Int.toNat (↑(AA.i x) : Int)))))))
                                      (T.ret
                                        (Ex.norm,
                                          St.mk
                                            [((0 : Nat), AV.int IntKind.i64 (↑(Int.toNat (↑(AA.n x) : Int)) : Int)), ((1 : Nat), AV.sl (0 : Nat) (0 : Nat) (2 : Nat) (0 : Nat) (AA.len x) (AA.cap x)), ((5 : Nat), AV.ptr (1 : Nat) (0 : Nat) (0 : Nat) (0 : Nat)), ((6 : Nat), AV.int IntKind.i64 (AA.last x)), ((7 : Nat), AV.int IntKind.i64 (↑(Int.toNat (↑(AA.frm x) : Int)) : Int)),
                                              ((8 : Nat), AV.bool (boolA (AV.bool (AA.any x)))), ((9 : Nat), AV.int IntKind.i64 (IntKind.wrap IntKind.i64 ((↑(Int.toNat (↑(AA.i x) : Int)) : Int) + (1 : Int))))]
                                            [some (Blk.mk false [] (2 : Nat) (AA.cap x) (fun r => [AV.int IntKind.i64 (colZ (f1R (AA.z x) (AA.y x) (AA.cap x)) r), AV.int IntKind.i64 (colY (f1R (AA.z x) (AA.y x) (AA.cap x)) r)]) []),
                                              some
                                                (Blk.mk true [AV.int IntKind.i64 (intA (List.getD (renL (out [(1 : Nat)] (List.length (aaM x))) [AV.int IntKind.i64 (AL.n (bar (stA (alB (AA.s x))) (AA.z x ((0 : Nat) + Int.toNat (↑(AA.i x) : Int))) (AA.y x ((0 : Nat) + Int.toNat (↑(AA.i x) : Int)))))]) (0 : Nat) AV.ff))] (1 : Nat) (96 : Nat)
                                                  (fun j => [AV.bool (boolA (List.getD (renL (out [(1 : Nat)] (List.length (aaM x))) [AV.bool (AL.B (bar (stA (alB (AA.s x))) (AA.z x ((0 : Nat) + Int.toNat (↑(AA.i x) : Int))) (AA.y x ((0 : Nat) + Int.toNat (↑(AA.i x) : Int)))) j)]) (0 : Nat) AV.ff))])
                                                  [AV.int IntKind.i64
                                                      (intA
                                                        (List.getD
                                                          (renL (out [(1 : Nat)] (List.length (aaM x)))
                                                            [AV.int IntKind.i64 (AL.c (bar (stA (alB (AA.s x))) (AA.z x ((0 : Nat) + Int.toNat (↑(AA.i x) : Int))) (AA.y x ((0 : Nat) + Int.toNat (↑(AA.i x) : Int))))), AV.int IntKind.i64 (AL.w (bar (stA (alB (AA.s x))) (AA.z x ((0 : Nat) + Int.toNat (↑(AA.i x) : Int))) (AA.y x ((0 : Nat) + Int.toNat (↑(AA.i x) : Int))))),
                                                              AV.int IntKind.i64 (AL.l (bar (stA (alB (AA.s x))) (AA.z x ((0 : Nat) + Int.toNat (↑(AA.i x) : Int))) (AA.y x ((0 : Nat) + Int.toNat (↑(AA.i x) : Int))))), AV.bool (AL.d (bar (stA (alB (AA.s x))) (AA.z x ((0 : Nat) + Int.toNat (↑(AA.i x) : Int))) (AA.y x ((0 : Nat) + Int.toNat (↑(AA.i x) : Int)))))])
                                                          (0 : Nat) AV.ff)),
                                                    AV.int IntKind.i64
                                                      (intA
                                                        (List.getD
                                                          (renL (out [(1 : Nat)] (List.length (aaM x)))
                                                            [AV.int IntKind.i64 (AL.c (bar (stA (alB (AA.s x))) (AA.z x ((0 : Nat) + Int.toNat (↑(AA.i x) : Int))) (AA.y x ((0 : Nat) + Int.toNat (↑(AA.i x) : Int))))), AV.int IntKind.i64 (AL.w (bar (stA (alB (AA.s x))) (AA.z x ((0 : Nat) + Int.toNat (↑(AA.i x) : Int))) (AA.y x ((0 : Nat) + Int.toNat (↑(AA.i x) : Int))))),
                                                              AV.int IntKind.i64 (AL.l (bar (stA (alB (AA.s x))) (AA.z x ((0 : Nat) + Int.toNat (↑(AA.i x) : Int))) (AA.y x ((0 : Nat) + Int.toNat (↑(AA.i x) : Int))))), AV.bool (AL.d (bar (stA (alB (AA.s x))) (AA.z x ((0 : Nat) + Int.toNat (↑(AA.i x) : Int))) (AA.y x ((0 : Nat) + Int.toNat (↑(AA.i x) : Int)))))])
                                                          (1 : Nat) AV.ff)),
                                                    AV.int IntKind.i64
                                                      (intA
                                                        (List.getD
                                                          (renL (out [(1 : Nat)] (List.length (aaM x)))
                                                            [AV.int IntKind.i64 (AL.c (bar (stA (alB (AA.s x))) (AA.z x ((0 : Nat) + Int.toNat (↑(AA.i x) : Int))) (AA.y x ((0 : Nat) + Int.toNat (↑(AA.i x) : Int))))), AV.int IntKind.i64 (AL.w (bar (stA (alB (AA.s x))) (AA.z x ((0 : Nat) + Int.toNat (↑(AA.i x) : Int))) (AA.y x ((0 : Nat) + Int.toNat (↑(AA.i x) : Int))))),
                                                              AV.int IntKind.i64 (AL.l (bar (stA (alB (AA.s x))) (AA.z x ((0 : Nat) + Int.toNat (↑(AA.i x) : Int))) (AA.y x ((0 : Nat) + Int.toNat (↑(AA.i x) : Int))))), AV.bool (AL.d (bar (stA (alB (AA.s x))) (AA.z x ((0 : Nat) + Int.toNat (↑(AA.i x) : Int))) (AA.y x ((0 : Nat) + Int.toNat (↑(AA.i x) : Int)))))])
                                                          (2 : Nat) AV.ff)),
                                                    AV.bool
                                                      (boolA
                                                        (List.getD
                                                          (renL (out [(1 : Nat)] (List.length (aaM x)))
                                                            [AV.int IntKind.i64 (AL.c (bar (stA (alB (AA.s x))) (AA.z x ((0 : Nat) + Int.toNat (↑(AA.i x) : Int))) (AA.y x ((0 : Nat) + Int.toNat (↑(AA.i x) : Int))))), AV.int IntKind.i64 (AL.w (bar (stA (alB (AA.s x))) (AA.z x ((0 : Nat) + Int.toNat (↑(AA.i x) : Int))) (AA.y x ((0 : Nat) + Int.toNat (↑(AA.i x) : Int))))),
                                                              AV.int IntKind.i64 (AL.l (bar (stA (alB (AA.s x))) (AA.z x ((0 : Nat) + Int.toNat (↑(AA.i x) : Int))) (AA.y x ((0 : Nat) + Int.toNat (↑(AA.i x) : Int))))), AV.bool (AL.d (bar (stA (alB (AA.s x))) (AA.z x ((0 : Nat) + Int.toNat (↑(AA.i x) : Int))) (AA.y x ((0 : Nat) + Int.toNat (↑(AA.i x) : Int)))))])
                                                          (3 : Nat) AV.ff))])]))
                                      (T.need
                                        (∃ ρ,
                                          SubSt (1 : Nat) ρ
                                            (St.mk
                                              [((0 : Nat), AV.int IntKind.i64 (↑(Int.toNat (↑(AA.n x) : Int)) : Int)), ((1 : Nat), AV.sl (0 : Nat) (0 : Nat) (2 : Nat) (0 : Nat) (AA.len x) (AA.cap x)), ((5 : Nat), AV.ptr (1 : Nat) (0 : Nat) (0 : Nat) (0 : Nat)), ((7 : Nat), AV.int IntKind.i64 (↑(Int.toNat (↑(AA.frm x) : Int)) : Int)),
                                                ((9 : Nat), AV.int IntKind.i64 (↑(Int.toNat (↑(AA.i x) : Int)) : Int)), ((13 : Nat), AV.int IntKind.i64 (0 : Int))]
                                              [some (Blk.mk false [] (2 : Nat) (AA.cap x) (fun r => [AV.int IntKind.i64 (colZ (f1R (AA.z x) (AA.y x) (AA.cap x)) r), AV.int IntKind.i64 (colY (f1R (AA.z x) (AA.y x) (AA.cap x)) r)]) []),
                                                some
                                                  (Blk.mk true [AV.int IntKind.i64 (intA (List.getD (renL (out [(1 : Nat)] (List.length (aaM x))) [AV.int IntKind.i64 (AL.n (bar (stA (alB (AA.s x))) (AA.z x ((0 : Nat) + Int.toNat (↑(AA.i x) : Int))) (AA.y x ((0 : Nat) + Int.toNat (↑(AA.i x) : Int)))))]) (0 : Nat) AV.ff))] (1 : Nat) (96 : Nat)
                                                    (fun j => [AV.bool (boolA (List.getD (renL (out [(1 : Nat)] (List.length (aaM x))) [AV.bool (AL.B (bar (stA (alB (AA.s x))) (AA.z x ((0 : Nat) + Int.toNat (↑(AA.i x) : Int))) (AA.y x ((0 : Nat) + Int.toNat (↑(AA.i x) : Int)))) j)]) (0 : Nat) AV.ff))])
                                                    [AV.int IntKind.i64
                                                        (intA
                                                          (List.getD
                                                            (renL (out [(1 : Nat)] (List.length (aaM x)))
                                                              [AV.int IntKind.i64 (AL.c (bar (stA (alB (AA.s x))) (AA.z x ((0 : Nat) + Int.toNat (↑(AA.i x) : Int))) (AA.y x ((0 : Nat) + Int.toNat (↑(AA.i x) : Int))))), AV.int IntKind.i64 (AL.w (bar (stA (alB (AA.s x))) (AA.z x ((0 : Nat) + Int.toNat (↑(AA.i x) : Int))) (AA.y x ((0 : Nat) + Int.toNat (↑(AA.i x) : Int))))),
                                                                AV.int IntKind.i64 (AL.l (bar (stA (alB (AA.s x))) (AA.z x ((0 : Nat) + Int.toNat (↑(AA.i x) : Int))) (AA.y x ((0 : Nat) + Int.toNat (↑(AA.i x) : Int))))), AV.bool (AL.d (bar (stA (alB (AA.s x))) (AA.z x ((0 : Nat) + Int.toNat (↑(AA.i x) : Int))) (AA.y x ((0 : Nat) + Int.toNat (↑(AA.i x) : Int)))))])
                                                            (0 : Nat) AV.ff)),
                                                      AV.int IntKind.i64
                                                        (intA
                                                          (List.getD
                                                            (renL (out [(1 : Nat)] (List.length (aaM x)))
                                                              [AV.int IntKind.i64 (AL.c (bar (stA (alB (AA.s x))) (AA.z x ((0 : Nat) + Int.toNat (↑(AA.i x) : Int))) (AA.y x ((0 : Nat) + Int.toNat (↑(AA.i x) : Int))))), AV.int IntKind.i64 (AL.w (bar (stA (alB (AA.s x))) (AA.z x ((0 : Nat) + Int.toNat (↑(AA.i x) : Int))) (AA.y x ((0 : Nat) + Int.toNat (↑(AA.i x) : Int))))),
                                                                AV.int IntKind.i64 (AL.l (bar (stA (alB (AA.s x))) (AA.z x ((0 : Nat) + Int.toNat (↑(AA.i x) : Int))) (AA.y x ((0 : Nat) + Int.toNat (↑(AA.i x) : Int))))), AV.bool (AL.d (bar (stA (alB (AA.s x))) (AA.z x ((0 : Nat) + Int.toNat (↑(AA.i x) : Int))) (AA.y x ((0 : Nat) + Int.toNat (↑(AA.i x) : Int)))))])
                                                            (1 : Nat) AV.ff)),
                                                      AV.int IntKind.i64
                                                        (intA
                                                          (List.getD
                                                            (renL (out [(1 : Nat)] (List.length (aaM x)))
                                                              [AV.int IntKind.i64 (AL.c (bar (stA (alB (AA.s x))) (AA.z x ((0 : Nat) + Int.toNat (↑(AA.i x) : Int))) (AA.y x ((0 : Nat) + Int.toNat (↑(AA.i x) : Int))))), AV.int IntKind.i64 (AL.w (bar (stA (alB (AA.s x))) (AA.z x ((0 : Nat) + Int.toNat (↑(AA.i x) : Int))) (AA.y x ((0 : Nat) + Int.toNat (↑(AA.i x) : Int))))),
                                                                AV.int IntKind.i64 (AL.l (bar (stA (alB (AA.s x))) (AA.z x ((0 : Nat) + Int.toNat (↑(AA.i x) : Int))) (AA.y x ((0 : Nat) + Int.toNat (↑(AA.i x) : Int))))), AV.bool (AL.d (bar (stA (alB (AA.s x))) (AA.z x ((0 : Nat) + Int.toNat (↑(AA.i x) : Int))) (AA.y x ((0 : Nat) + Int.toNat (↑(AA.i x) : Int)))))])
                                                            (2 : Nat) AV.ff)),
                                                      AV.bool
                                                        (boolA
                                                          (List.getD
                                                            (renL (out [(1 : Nat)] (List.length (aaM x)))
                                                              [AV.int IntKind.i64 (AL.c (bar (stA (alB (AA.s x))) (AA.z x ((0 : Nat) + Int.toNat (↑(AA.i x) : Int))) (AA.y x ((0 : Nat) + Int.toNat (↑(AA.i x) : Int))))), AV.int IntKind.i64 (AL.w (bar (stA (alB (AA.s x))) (AA.z x ((0 : Nat) + Int.toNat (↑(AA.i x) : Int))) (AA.y x ((0 : Nat) + Int.toNat (↑(AA.i x) : Int))))),
                                                                AV.int IntKind.i64 (AL.l (bar (stA (alB (AA.s x))) (AA.z x ((0 : Nat) + Int.toNat (↑(AA.i x) : Int))) (AA.y x ((0 : Nat) + Int.toNat (↑(AA.i x) : Int))))), AV.bool (AL.d (bar (stA (alB (AA.s x))) (AA.z x ((0 : Nat) + Int.toNat (↑(AA.i x) : Int))) (AA.y x ((0 : Nat) + Int.toNat (↑(AA.i x) : Int)))))])
                                                            (3 : Nat) AV.ff))])])
                                            (aaC
                                              (AA.mk (Int.toNat (↑(Int.toNat (↑(AA.n x) : Int)) : Int)) (colZ (f1R (colZ (f1R (AA.z x) (AA.y x) (AA.cap x))) (colY (f1R (AA.z x) (AA.y x) (AA.cap x))) (AA.cap x))) (colY (f1R (colZ (f1R (AA.z x) (AA.y x) (AA.cap x))) (colY (f1R (AA.z x) (AA.y x) (AA.cap x))) (AA.cap x))) (AA.len x) (AA.cap x)
                                                (stA (alB (stA (renB (out [(1 : Nat)] (List.length (aaM x))) (alB (bar (stA (alB (AA.s x))) (AA.z x ((0 : Nat) + Int.toNat (↑(AA.i x) : Int))) (AA.y x ((0 : Nat) + Int.toNat (↑(AA.i x) : Int))))))))) (0 : Int) (Int.toNat (↑(Int.toNat (↑(AA.frm x) : Int)) : Int)) false (Int.toNat (↑(Int.toNat (↑(AA.i x) : Int)) : Int)) false (0 : Nat) (0 : Nat) false
                                                (0 : Nat))))
                                        (T.need
                                          (aaIC
                                            (AA.mk (Int.toNat (↑(Int.toNat (↑(AA.n x) : Int)) : Int)) (colZ (f1R (colZ (f1R (AA.z x) (AA.y x) (AA.cap x))) (colY (f1R (AA.z x) (AA.y x) (AA.cap x))) (AA.cap x))) (colY (f1R (colZ (f1R (AA.z x) (AA.y x) (AA.cap x))) (colY (f1R (AA.z x) (AA.y x) (AA.cap x))) (AA.cap x))) (AA.len x) (AA.cap x)
                                              (stA (alB (stA (renB (out [(1 : Nat)] (List.length (aaM x))) (alB (bar (stA (alB (AA.s x))) (AA.z x ((0 : Nat) + Int.toNat (↑(AA.i x) : Int))) (AA.y x ((0 : Nat) + Int.toNat (↑(AA.i x) : Int))))))))) (0 : Int) (Int.toNat (↑(Int.toNat (↑(AA.frm x) : Int)) : Int)) false (Int.toNat (↑(Int.toNat (↑(AA.i x) : Int)) : Int)) false (0 : Nat) (0 : Nat) false
                                              (0 : Nat)))
                                          (T.chk (decide ((0 : Int) ≤ (↑(Int.toNat (↑(Int.toNat (↑(AA.i x) : Int)) : Int)) : Int)) && decide ((↑(Int.toNat (↑(Int.toNat (↑(AA.i x) : Int)) : Int)) : Int) < (↑(AA.len x) : Int)))
                                            (T.chk (decide ((0 : Nat) + Int.toNat (↑(Int.toNat (↑(Int.toNat (↑(AA.i x) : Int)) : Int)) : Int) < AA.cap x))
                                              (T.ret
                                                (Ex.norm,
                                                  St.mk
                                                    [((0 : Nat), AV.int IntKind.i64 (↑(Int.toNat (↑(Int.toNat (↑(AA.n x) : Int)) : Int)) : Int)), ((1 : Nat), AV.sl (0 : Nat) (0 : Nat) (2 : Nat) (0 : Nat) (AA.len x) (AA.cap x)), ((5 : Nat), AV.ptr (1 : Nat) (0 : Nat) (0 : Nat) (0 : Nat)),
                                                      ((6 : Nat), AV.int IntKind.i64 (colY (f1R (colZ (f1R (AA.z x) (AA.y x) (AA.cap x))) (colY (f1R (AA.z x) (AA.y x) (AA.cap x))) (AA.cap x)) ((0 : Nat) + Int.toNat (↑(Int.toNat (↑(Int.toNat (↑(AA.i x) : Int)) : Int)) : Int)))),
                                                      ((7 : Nat), AV.int IntKind.i64 (IntKind.wrap IntKind.i64 ((↑(Int.toNat (↑(Int.toNat (↑(AA.i x) : Int)) : Int)) : Int) + (1 : Int)))), ((8 : Nat), AV.tt), ((9 : Nat), AV.int IntKind.i64 (IntKind.wrap IntKind.i64 ((↑(Int.toNat (↑(Int.toNat (↑(AA.i x) : Int)) : Int)) : Int) + (1 : Int))))]
                                                    [some (Blk.mk false [] (2 : Nat) (AA.cap x) (fun r => [AV.int IntKind.i64 (colZ (f1R (colZ (f1R (AA.z x) (AA.y x) (AA.cap x))) (colY (f1R (AA.z x) (AA.y x) (AA.cap x))) (AA.cap x)) r), AV.int IntKind.i64 (colY (f1R (colZ (f1R (AA.z x) (AA.y x) (AA.cap x))) (colY (f1R (AA.z x) (AA.y x) (AA.cap x))) (AA.cap x)) r)]) []),
                                                      some
                                                        (Blk.mk true [AV.int IntKind.i64 (intA (List.getD [AV.int IntKind.i64 (intA (List.getD (renL (out [(1 : Nat)] (List.length (aaM x))) [AV.int IntKind.i64 (AL.n (bar (stA (alB (AA.s x))) (AA.z x ((0 : Nat) + Int.toNat (↑(AA.i x) : Int))) (AA.y x ((0 : Nat) + Int.toNat (↑(AA.i x) : Int)))))]) (0 : Nat) AV.ff))] (0 : Nat) AV.ff))] (1 : Nat)
                                                          (96 : Nat) (fun j => [AV.bool (boolA (List.getD [AV.bool (boolA (List.getD (renL (out [(1 : Nat)] (List.length (aaM x))) [AV.bool (AL.B (bar (stA (alB (AA.s x))) (AA.z x ((0 : Nat) + Int.toNat (↑(AA.i x) : Int))) (AA.y x ((0 : Nat) + Int.toNat (↑(AA.i x) : Int)))) j)]) (0 : Nat) AV.ff))] (0 : Nat) AV.ff))])
                                                          [AV.int IntKind.i64
                                                              (intA
                                                                (List.getD
                                                                  [AV.int IntKind.i64
                                                                      (intA
                                                                        (List.getD
                                                                          (renL (out [(1 : Nat)] (List.length (aaM x)))
                                                                            [AV.int IntKind.i64 (AL.c (bar (stA (alB (AA.s x))) (AA.z x ((0 : Nat) + Int.toNat (↑(AA.i x) : Int))) (AA.y x ((0 : Nat) + Int.toNat (↑(AA.i x) : Int))))), AV.int IntKind.i64 (AL.w (bar (stA (alB (AA.s x))) (AA.z x ((0 : Nat) + Int.toNat (↑(AA.i x) : Int))) (AA.y x ((0 : Nat) + Int.toNat (↑(AA.i x) : Int))))),
                                                                              AV.int IntKind.i64 (AL.l (bar (stA (alB (AA.s x))) (AA.z x ((0 : Nat) + Int.toNat (↑(AA.i x) : Int))) (AA.y x ((0 : Nat) + Int.toNat (↑(AA.i x) : Int))))), AV.bool (AL.d (bar (stA (alB (AA.s x))) (AA.z x ((0 : Nat) + Int.toNat (↑(AA.i x) : Int))) (AA.y x ((0 : Nat) + Int.toNat (↑(AA.i x) : Int)))))])
                                                                          (0 : Nat) AV.ff)),
                                                                    AV.int IntKind.i64
                                                                      (intA
                                                                        (List.getD
                                                                          (renL (out [(1 : Nat)] (List.length (aaM x)))
                                                                            [AV.int IntKind.i64 (AL.c (bar (stA (alB (AA.s x))) (AA.z x ((0 : Nat) + Int.toNat (↑(AA.i x) : Int))) (AA.y x ((0 : Nat) + Int.toNat (↑(AA.i x) : Int))))), AV.int IntKind.i64 (AL.w (bar (stA (alB (AA.s x))) (AA.z x ((0 : Nat) + Int.toNat (↑(AA.i x) : Int))) (AA.y x ((0 : Nat) + Int.toNat (↑(AA.i x) : Int))))),
                                                                              AV.int IntKind.i64 (AL.l (bar (stA (alB (AA.s x))) (AA.z x ((0 : Nat) + Int.toNat (↑(AA.i x) : Int))) (AA.y x ((0 : Nat) + Int.toNat (↑(AA.i x) : Int))))), AV.bool (AL.d (bar (stA (alB (AA.s x))) (AA.z x ((0 : Nat) + Int.toNat (↑(AA.i x) : Int))) (AA.y x ((0 : Nat) + Int.toNat (↑(AA.i x) : Int)))))])
                                                                          (1 : Nat) AV.ff)),
                                                                    AV.int IntKind.i64
                                                                      (intA
                                                                        (List.getD
                                                                          (renL (out [(1 : Nat)] (List.length (aaM x)))
                                                                            [AV.int IntKind.i64 (AL.c (bar (stA (alB (AA.s x))) (AA.z x ((0 : Nat) + Int.toNat (↑(AA.i x) : Int))) (AA.y x ((0 : Nat) + Int.toNat (↑(AA.i x) : Int))))), AV.int IntKind.i64 (AL.w (bar (stA (alB (AA.s x))) (AA.z x ((0 : Nat) + Int.toNat (↑(AA.i x) : Int))) (AA.y x ((0 : Nat) + Int.toNat (↑(AA.i x) : Int))))),
                                                                              AV.int IntKind.i64 (AL.l (bar (stA (alB (AA.s x))) (AA.z x ((0 : Nat) + Int.toNat (↑(AA.i x) : Int))) (AA.y x ((0 : Nat) + Int.toNat (↑(AA.i x) : Int))))), AV.bool (AL.d (bar (stA (alB (AA.s x))) (AA.z x ((0 : Nat) + Int.toNat (↑(AA.i x) : Int))) (AA.y x ((0 : Nat) + Int.toNat (↑(AA.i x) : Int)))))])
                                                                          (2 : Nat) AV.ff)),
                                                                    AV.bool
                                                                      (boolA
                                                                        (List.getD
                                                                          (renL (out [(1 : Nat)] (List.length (aaM x)))
                                                                            [AV.int IntKind.i64 (AL.c (bar (stA (alB (AA.s x))) (AA.z x ((0 : Nat) + Int.toNat (↑(AA.i x) : Int))) (AA.y x ((0 : Nat) + Int.toNat (↑(AA.i x) : Int))))), AV.int IntKind.i64 (AL.w (bar (stA (alB (AA.s x))) (AA.z x ((0 : Nat) + Int.toNat (↑(AA.i x) : Int))) (AA.y x ((0 : Nat) + Int.toNat (↑(AA.i x) : Int))))),
                                                                              AV.int IntKind.i64 (AL.l (bar (stA (alB (AA.s x))) (AA.z x ((0 : Nat) + Int.toNat (↑(AA.i x) : Int))) (AA.y x ((0 : Nat) + Int.toNat (↑(AA.i x) : Int))))), AV.bool (AL.d (bar (stA (alB (AA.s x))) (AA.z x ((0 : Nat) + Int.toNat (↑(AA.i x) : Int))) (AA.y x ((0 : Nat) + Int.toNat (↑(AA.i x) : Int)))))])
                                                                          (3 : Nat) AV.ff))]
                                                                  (0 : Nat) AV.ff)),
                                                            AV.int IntKind.i64
                                                              (intA
                                                                (List.getD
                                                                  [AV.int IntKind.i64
                                                                      (intA
                                                                        (List.getD
                                                                          (renL (out [(1 : Nat)] (List.length (aaM x)))
                                                                            [AV.int IntKind.i64 (AL.c (bar (stA (alB (AA.s x))) (AA.z x ((0 : Nat) + Int.toNat (↑(AA.i x) : Int))) (AA.y x ((0 : Nat) + Int.toNat (↑(AA.i x) : Int))))), AV.int IntKind.i64 (AL.w (bar (stA (alB (AA.s x))) (AA.z x ((0 : Nat) + Int.toNat (↑(AA.i x) : Int))) (AA.y x ((0 : Nat) + Int.toNat (↑(AA.i x) : Int))))),
                                                                              AV.int IntKind.i64 (AL.l (bar (stA (alB (AA.s x))) (AA.z x ((0 : Nat) + Int.toNat (↑(AA.i x) : Int))) (AA.y x ((0 : Nat) + Int.toNat (↑(AA.i x) : Int))))), AV.bool (AL.d (bar (stA (alB (AA.s x))) (AA.z x ((0 : Nat) + Int.toNat (↑(AA.i x) : Int))) (AA.y x ((0 : Nat) + Int.toNat (↑(AA.i x) : Int)))))])
                                                                          (0 : Nat) AV.ff)),
                                                                    AV.int IntKind.i64
                                                                      (intA
                                                                        (List.getD
                                                                          (renL (out [(1 : Nat)] (List.length (aaM x)))
                                                                            [AV.int IntKind.i64 (AL.c (bar (stA (alB (AA.s x))) (AA.z x ((0 : Nat) + Int.toNat (↑(AA.i x) : Int))) (AA.y x ((0 : Nat) + Int.toNat (↑(AA.i x) : Int))))), AV.int IntKind.i64 (AL.w (bar (stA (alB (AA.s x))) (AA.z x ((0 : Nat) + Int.toNat (↑(AA.i x) : Int))) (AA.y x ((0 : Nat) + Int.toNat (↑(AA.i x) : Int))))),
                                                                              AV.int IntKind.i64 (AL.l (bar (stA (alB (AA.s x))) (AA.z x ((0 : Nat) + Int.toNat (↑(AA.i x) : Int))) (AA.y x ((0 : Nat) + Int.toNat (↑(AA.i x) : Int))))), AV.bool (AL.d (bar (stA (alB (AA.s x))) (AA.z x ((0 : Nat) + Int.toNat (↑(AA.i x) : Int))) (AA.y x ((0 : Nat) + Int.toNat (↑(AA.i x) : Int)))))])
                                                                          (1 : Nat) AV.ff)),
                                                                    AV.int IntKind.i64
                                                                      (intA
                                                                        (List.getD
                                                                          (renL (out [(1 : Nat)] (List.length (aaM x)))
                                                                            [AV.int IntKind.i64 (AL.c (bar (stA (alB (AA.s x))) (AA.z x ((0 : Nat) + Int.toNat (↑(AA.i x) : Int))) (AA.y x ((0 : Nat) + Int.toNat (↑(AA.i x) : Int))))), AV.int IntKind.i64 (AL.w (bar (stA (alB (AA.s x))) (AA.z x ((0 : Nat) + Int.toNat (↑(AA.i x) : Int))) (AA.y x ((0 : Nat) + Int.toNat (↑(AA.i x) : Int))))),
                                                                              AV.int IntKind.i64 (AL.l (bar (stA (alB (AA.s x))) (AA.z x ((0 : Nat) + Int.toNat (↑(AA.i x) : Int))) (AA.y x ((0 : Nat) + Int.toNat (↑(AA.i x) : Int))))), AV.bool (AL.d (bar (stA (alB (AA.s x))) (AA.z x ((0 : Nat) + Int.toNat (↑(AA.i x) : Int))) (AA.y x ((0 : Nat) + Int.toNat (↑(AA.i x) : Int)))))])
                                                                          (2 : Nat) AV.ff)),
                                                                    AV.bool
                                                                      (boolA
                                                                        (List.getD
                                                                          (renL (out [(1 : Nat)] (List.length (aaM x)))
                                                                            [AV.int IntKind.i64 (AL.c (bar (stA (alB (AA.s x))) (AA.z x ((0 : Nat) + Int.toNat (↑(AA.i x) : Int))) (AA.y x ((0 : Nat) + Int.toNat (↑(AA.i x) : Int))))), AV.int IntKind.i64 (AL.w (bar (stA (alB (AA.s x))) (AA.z x ((0 : Nat) + Int.toNat (↑(AA.i x) : Int))) (AA.y x ((0 : Nat) + Int.toNat (↑(AA.i x) : Int))))),
                                                                              AV.int IntKind.i64 (AL.l (bar (stA (alB (AA.s x))) (AA.z x ((0 : Nat) + Int.toNat (↑(AA.i x) : Int))) (AA.y x ((0 : Nat) + Int.toNat (↑(AA.i x) : Int))))), AV.bool (AL.d (bar (stA (alB (AA.s x))) (AA.z x ((0 : Nat) + Int.toNat (↑(AA.i x) : Int))) (AA.y x ((0 : Nat) + Int.toNat (↑(AA.i x) : Int)))))])
                                                                          (3 : Nat) AV.ff))]
                                                                  (1 : Nat) AV.ff)),
                                                            AV.int IntKind.i64
                                                              (intA
                                                                (List.getD
                                                                  [AV.int IntKind.i64
                                                                      (intA
                                                                        (List.getD
                                                                          (renL (out [(1 : Nat)] (List.length (aaM x)))
                                                                            [AV.int IntKind.i64 (AL.c (bar (stA (alB (AA.s x))) (AA.z x ((0 : Nat) + Int.toNat (↑(AA.i x) : Int))) (AA.y x ((0 : Nat) + Int.toNat (↑(AA.i x) : Int))))), AV.int IntKind.i64 (AL.w (bar (stA (alB (AA.s x))) (AA.z x ((0 : Nat) + Int.toNat (↑(AA.i x) : Int))) (AA.y x ((0 : Nat) + Int.toNat (↑(AA.i x) : Int))))),
                                                                              AV.int IntKind.i64 (AL.l (bar (stA (alB (AA.s x))) (AA.z x ((0 : Nat) + Int.toNat (↑(AA.i x) : Int))) (AA.y x ((0 : Nat) + Int.toNat (↑(AA.i x) : Int))))), AV.bool (AL.d (bar (stA (alB (AA.s x))) (AA.z x ((0 : Nat) + Int.toNat (↑(AA.i x) : Int))) (AA.y x ((0 : Nat) + Int.toNat (↑(AA.i x) : Int)))))])
                                                                          (0 : Nat) AV.ff)),
                                                                    AV.int IntKind.i64
                                                                      (intA
                                                                        (List.getD
                                                                          (renL (out [(1 : Nat)] (List.length (aaM x)))
                                                                            [AV.int IntKind.i64 (AL.c (bar (stA (alB (AA.s x))) (AA.z x ((0 : Nat) + Int.toNat (↑(AA.i x) : Int))) (AA.y x ((0 : Nat) + Int.toNat (↑(AA.i x) : Int))))), AV.int IntKind.i64 (AL.w (bar (stA (alB (AA.s x))) (AA.z x ((0 : Nat) + Int.toNat (↑(AA.i x) : Int))) (AA.y x ((0 : Nat) + Int.toNat (↑(AA.i x) : Int))))),
                                                                              AV.int IntKind.i64 (AL.l (bar (stA (alB (AA.s x))) (AA.z x ((0 : Nat) + Int.toNat (↑(AA.i x) : Int))) (AA.y x ((0 : Nat) + Int.toNat (↑(AA.i x) : Int))))), AV.bool (AL.d (bar (stA (alB (AA.s x))) (AA.z x ((0 : Nat) + Int.toNat (↑(AA.i x) : Int))) (AA.y x ((0 : Nat) + Int.toNat (↑(AA.i x) : Int)))))])
                                                                          (1 : Nat) AV.ff)),
                                                                    AV.int IntKind.i64
                                                                      (intA
                                                                        (List.getD
                                                                          (renL (out [(1 : Nat)] (List.length (aaM x)))
                                                                            [AV.int IntKind.i64 (AL.c (bar (stA (alB (AA.s x))) (AA.z x ((0 : Nat) + Int.toNat (↑(AA.i x) : Int))) (AA.y x ((0 : Nat) + Int.toNat (↑(AA.i x) : Int))))), AV.int IntKind.i64 (AL.w (bar (stA (alB (AA.s x))) (AA.z x ((0 : Nat) + Int.toNat (↑(AA.i x) : Int))) (AA.y x ((0 : Nat) + Int.toNat (↑(AA.i x) : Int))))),
                                                                              AV.int IntKind.i64 (AL.l (bar (stA (alB (AA.s x))) (AA.z x ((0 : Nat) + Int.toNat (↑(AA.i x) : Int))) (AA.y x ((0 : Nat) + Int.toNat (↑(AA.i x) : Int))))), AV.bool (AL.d (bar (stA (alB (AA.s x))) (AA.z x ((0 : Nat) + Int.toNat (↑(AA.i x) : Int))) (AA.y x ((0 : Nat) + Int.toNat (↑(AA.i x) : Int)))))])
                                                                          (2 : Nat) AV.ff)),
                                                                    AV.bool
                                                                      (boolA
                                                                        (List.getD
                                                                          (renL (out [(1 : Nat)] (List.length (aaM x)))
                                                                            [AV.int IntKind.i64 (AL.c (bar (stA (alB (AA.s x))) (AA.z x ((0 : Nat) + Int.toNat (↑(AA.i x) : Int))) (AA.y x ((0 : Nat) + Int.toNat (↑(AA.i x) : Int))))), AV.int IntKind.i64 (AL.w (bar (stA (alB (AA.s x))) (AA.z x ((0 : Nat) + Int.toNat (↑(AA.i x) : Int))) (AA.y x ((0 : Nat) + Int.toNat (↑(AA.i x) : Int))))),
                                                                              AV.int IntKind.i64 (AL.l (bar (stA (alB (AA.s x))) (AA.z x ((0 : Nat) + Int.toNat (↑(AA.i x) : Int))) (AA.y x ((0 : Nat) + Int.toNat (↑(AA.i x) : Int))))), AV.bool (AL.d (bar (stA (alB (AA.s x))) (AA.z x ((0 : Nat) + Int.toNat (↑(AA.i x) : Int))) (AA.y x ((0 : Nat) + Int.toNat (↑(AA.i x) : Int)))))])
                                                                          (3 : Nat) AV.ff))]
                                                                  (2 : Nat) AV.ff)),
                                                            AV.bool
                                                              (boolA
                                                                (List.getD
                                                                  [AV.int IntKind.i64
                                                                      (intA
                                                                        (List.getD
                                                                          (renL (out [(1 : Nat)] (List.length (aaM x)))
                                                                            [AV.int IntKind.i64 (AL.c (bar (stA (alB (AA.s x))) (AA.z x ((0 : Nat) + Int.toNat (↑(AA.i x) : Int))) (AA.y x ((0 : Nat) + Int.toNat (↑(AA.i x) : Int))))), AV.int IntKind.i64 (AL.w (bar (stA (alB (AA.s x))) (AA.z x ((0 : Nat) + Int.toNat (↑(AA.i x) : Int))) (AA.y x ((0 : Nat) + Int.toNat (↑(AA.i x) : Int))))),
                                                                              AV.int IntKind.i64 (AL.l (bar (stA (alB (AA.s x))) (AA.z x ((0 : Nat) + Int.toNat (↑(AA.i x) : Int))) (AA.y x ((0 : Nat) + Int.toNat (↑(AA.i x) : Int))))), AV.bool (AL.d (bar (stA (alB (AA.s x))) (AA.z x ((0 : Nat) + Int.toNat (↑(AA.i x) : Int))) (AA.y x ((0 : Nat) + Int.toNat (↑(AA.i x) : Int)))))])
                                                                          (0 : Nat) AV.ff)),
                                                                    AV.int IntKind.i64
                                                                      (intA
                                                                        (List.getD
                                                                          (renL (out [(1 : Nat)] (List.length (aaM x)))
                                                                            [AV.int IntKind.i64 (AL.c (bar (stA (alB (AA.s x))) (AA.z x ((0 : Nat) + Int.toNat (↑(AA.i x) : Int))) (AA.y x ((0 : Nat) + Int.toNat (↑(AA.i x) : Int))))), AV.int IntKind.i64 (AL.w (bar (stA (alB (AA.s x))) (AA.z x ((0 : Nat) + Int.toNat (↑(AA.i x) : Int))) (AA.y x ((0 : Nat) + Int.toNat (↑(AA.i x) : Int))))),
                                                                              AV.int IntKind.i64 (AL.l (bar (stA (alB (AA.s x))) (AA.z x ((0 : Nat) + Int.toNat (↑(AA.i x) : Int))) (AA.y x ((0 : Nat) + Int.toNat (↑(AA.i x) : Int))))), AV.bool (AL.d (bar (stA (alB (AA.s x))) (AA.z x ((0 : Nat) + Int.toNat (↑(AA.i x) : Int))) (AA.y x ((0 : Nat) + Int.toNat (↑(AA.i x) : Int)))))])
                                                                          (1 : Nat) AV.ff)),
                                                                    AV.int IntKind.i64
                                                                      (intA
                                                                        (List.getD
                                                                          (renL (out [(1 : Nat)] (List.length (aaM x)))
                                                                            [AV.int IntKind.i64 (AL.c (bar (stA (alB (AA.s x))) (AA.z x ((0 : Nat) + Int.toNat (↑(AA.i x) : Int))) (AA.y x ((0 : Nat) + Int.toNat (↑(AA.i x) : Int))))), AV.int IntKind.i64 (AL.w (bar (stA (alB (AA.s x))) (AA.z x ((0 : Nat) + Int.toNat (↑(AA.i x) : Int))) (AA.y x ((0 : Nat) + Int.toNat (↑(AA.i x) : Int))))),
                                                                              AV.int IntKind.i64 (AL.l (bar (stA (alB (AA.s x))) (AA.z x ((0 : Nat) + Int.toNat (↑(AA.i x) : Int))) (AA.y x ((0 : Nat) + Int.toNat (↑(AA.i x) : Int))))), AV.bool (AL.d (bar (stA (alB (AA.s x))) (AA.z x ((0 : Nat) + Int.toNat (↑(AA.i x) : Int))) (AA.y x ((0 : Nat) + Int.toNat (↑(AA.i x) : Int)))))])
                                                                          (2 : Nat) AV.ff)),
                                                                    AV.bool
                                                                      (boolA
                                                                        (List.getD
                                                                          (renL (out [(1 : Nat)] (List.length (aaM x)))
                                                                            [AV.int IntKind.i64 (AL.c (bar (stA (alB (AA.s x))) (AA.z x ((0 : Nat) + Int.toNat (↑(AA.i x) : Int))) (AA.y x ((0 : Nat) + Int.toNat (↑(AA.i x) : Int))))), AV.int IntKind.i64 (AL.w (bar (stA (alB (AA.s x))) (AA.z x ((0 : Nat) + Int.toNat (↑(AA.i x) : Int))) (AA.y x ((0 : Nat) + Int.toNat (↑(AA.i x) : Int))))),
                                                                              AV.int IntKind.i64 (AL.l (bar (stA (alB (AA.s x))) (AA.z x ((0 : Nat) + Int.toNat (↑(AA.i x) : Int))) (AA.y x ((0 : Nat) + Int.toNat (↑(AA.i x) : Int))))), AV.bool (AL.d (bar (stA (alB (AA.s x))) (AA.z x ((0 : Nat) + Int.toNat (↑(AA.i x) : Int))) (AA.y x ((0 : Nat) + Int.toNat (↑(AA.i x) : Int)))))])
                                                                          (3 : Nat) AV.ff))]
                                                                  (3 : Nat) AV.ff))])]))))))))))
                              (T.ite (!boolA (ren (out [(1 : Nat)] (List.length (aaM x))) (AV.bool (barR (stA (alB (AA.s x))) (AA.z x ((0 : Nat) + Int.toNat (↑(AA.i x) : Int))) (AA.y x ((0 : Nat) + Int.toNat (↑(AA.i x) : Int)))))))
                                (T.ret
                                  (Ex.norm,
                                    St.mk
                                      [((0 : Nat), AV.int IntKind.i64 (↑(Int.toNat (↑(AA.n x) : Int)) : Int)), ((1 : Nat), AV.sl (0 : Nat) (0 : Nat) (2 : Nat) (0 : Nat) (AA.len x) (AA.cap x)), ((5 : Nat), AV.ptr (1 : Nat) (0 : Nat) (0 : Nat) (0 : Nat)), ((6 : Nat), AV.int IntKind.i64 (AA.last x)), ((7 : Nat), AV.int IntKind.i64 (↑(Int.toNat (↑(AA.frm x) : Int)) : Int)),
                                        ((8 : Nat), AV.bool (boolA (AV.bool (AA.any x)))), ((9 : Nat), AV.int IntKind.i64 (IntKind.wrap IntKind.i64 ((↑(Int.toNat (↑(AA.i x) : Int)) : Int) + (1 : Int))))]
                                      [some (Blk.mk false [] (2 : Nat) (AA.cap x) (fun r => [AV.int IntKind.i64 (colZ (f1R (AA.z x) (AA.y x) (AA.cap x)) r), AV.int IntKind.i64 (colY (f1R (AA.z x) (AA.y x) (AA.cap x)) r)]) []),
                                        some
                                          (Blk.mk true [AV.int IntKind.i64 (intA (List.getD (renL (out [(1 : Nat)] (List.length (aaM x))) [AV.int IntKind.i64 (AL.n (bar (stA (alB (AA.s x))) (AA.z x ((0 : Nat) + Int.toNat (↑(AA.i x) : Int))) (AA.y x ((0 : Nat) + Int.toNat (↑(AA.i x) : Int)))))]) (0 : Nat) AV.ff))] (1 : Nat) (96 : Nat)
                                            (fun j => [AV.bool (boolA (List.getD (renL (out [(1 : Nat)] (List.length (aaM x))) [AV.bool (AL.B (bar (stA (alB (AA.s x))) (AA.z x ((0 : Nat) + Int.toNat (↑(AA.i x) : Int))) (AA.y x ((0 : Nat) + Int.toNat (↑(AA.i x) : Int)))) j)]) (0 : Nat) AV.ff))])
                                            [AV.int IntKind.i64
                                                (intA
                                                  (List.getD
                                                    (renL (out [(1 : Nat)] (List.length (aaM x)))
                                                      [AV.int IntKind.i64 (AL.c (bar (stA (alB (AA.s x))) (AA.z x ((0 : Nat) + Int.toNat (↑(AA.i x) : Int))) (AA.y x ((0 : Nat) + Int.toNat (↑(AA.i x) : Int))))), AV.int IntKind.i64 (AL.w (bar (stA (alB (AA.s x))) (AA.z x ((0 : Nat) + Int.toNat (↑(AA.i x) : Int))) (AA.y x ((0 : Nat) + Int.toNat (↑(AA.i x) : Int))))),
                                                        AV.int IntKind.i64 (AL.l (bar (stA (alB (AA.s x))) (AA.z x ((0 : Nat) + Int.toNat (↑(AA.i x) : Int))) (AA.y x ((0 : Nat) + Int.toNat (↑(AA.i x) : Int))))), AV.bool (AL.d (bar (stA (alB (AA.s x))) (AA.z x ((0 : Nat) + Int.toNat (↑(AA.i x) : Int))) (AA.y x ((0 : Nat) + Int.toNat (↑(AA.i x) : Int)))))])
                                                    (0 : Nat) AV.ff)),
                                              AV.int IntKind.i64
                                                (intA
                                                  (List.getD
                                                    (renL (out [(1 : Nat)] (List.length (aaM x)))
                                                      [AV.int IntKind.i64 (AL.c (bar (stA (alB (AA.s x))) (AA.z x ((0 : Nat) + Int.toNat (↑(AA.i x) : Int))) (AA.y x ((0 : Nat) + Int.toNat (↑(AA.i x) : Int))))), AV.int IntKind.i64 (AL.w (bar (stA (alB (AA.s x))) (AA.z x ((0 : Nat) + Int.toNat (↑(AA.i x) : Int))) (AA.y x ((0 : Nat) + Int.toNat (↑(AA.i x) : Int))))),
                                                        AV.int IntKind.i64 (AL.l (bar (stA (alB (AA.s x))) (AA.z x ((0 : Nat) + Int.toNat (↑(AA.i x) : Int))) (AA.y x ((0 : Nat) + Int.toNat (↑(AA.i x) : Int))))), AV.bool (AL.d (bar (stA (alB (AA.s x))) (AA.z x ((0 : Nat) + Int.toNat (↑(AA.i x) : Int))) (AA.y x ((0 : Nat) + Int.toNat (↑(AA.i x) : Int)))))])
                                                    (1 : Nat) AV.ff)),
                                              AV.int IntKind.i64
                                                (intA
                                                  (List.getD
                                                    (renL (out [(1 : Nat)] (List.length (aaM x)))
                                                      [AV.int IntKind.i64 (AL.c (bar (stA (alB (AA.s x))) (AA.z x ((0 : Nat) + Int.toNat (↑(AA.i x) : Int))) (AA.y x ((0 : Nat) + Int.toNat (↑(AA.i x) : Int))))), AV.int IntKind.i64 (AL.w (bar (stA (alB (AA.s x))) (AA.z x ((0 : Nat) + Int.toNat (↑(AA.i x) : Int))) (AA.y x ((0 : Nat) + Int.toNat (↑(AA.i x) : Int))))),
                                                        AV.int IntKind.i64 (AL.l (bar (stA (alB (AA.s x))) (AA.z x ((0 : Nat) + Int.toNat (↑(AA.i x) : Int))) (AA.y x ((0 : Nat) + Int.toNat (↑(AA.i x) : Int))))), AV.bool (AL.d (bar (stA (alB (AA.s x))) (AA.z x ((0 : Nat) + Int.toNat (↑(AA.i x) : Int))) (AA.y x ((0 : Nat) + Int.toNat (↑(AA.i x) : Int)))))])
                                                    (2 : Nat) AV.ff)),
                                              AV.bool
                                                (boolA
                                                  (List.getD
                                                    (renL (out [(1 : Nat)] (List.length (aaM x)))
                                                      [AV.int IntKind.i64 (AL.c (bar (stA (alB (AA.s x))) (AA.z x ((0 : Nat) + Int.toNat (↑(AA.i x) : Int))) (AA.y x ((0 : Nat) + Int.toNat (↑(AA.i x) : Int))))), AV.int IntKind.i64 (AL.w (bar (stA (alB (AA.s x))) (AA.z x ((0 : Nat) + Int.toNat (↑(AA.i x) : Int))) (AA.y x ((0 : Nat) + Int.toNat (↑(AA.i x) : Int))))),
                                                        AV.int IntKind.i64 (AL.l (bar (stA (alB (AA.s x))) (AA.z x ((0 : Nat) + Int.toNat (↑(AA.i x) : Int))) (AA.y x ((0 : Nat) + Int.toNat (↑(AA.i x) : Int))))), AV.bool (AL.d (bar (stA (alB (AA.s x))) (AA.z x ((0 : Nat) + Int.toNat (↑(AA.i x) : Int))) (AA.y x ((0 : Nat) + Int.toNat (↑(AA.i x) : Int)))))])
                                                    (3 : Nat) AV.ff))])]))
                                (T.need
                                  (∃ ρ,
                                    SubSt (1 : Nat) ρ
                                      (St.mk
                                        [((0 : Nat), AV.int IntKind.i64 (↑(Int.toNat (↑(AA.n x) : Int)) : Int)), ((1 : Nat), AV.sl (0 : Nat) (0 : Nat) (2 : Nat) (0 : Nat) (AA.len x) (AA.cap x)), ((5 : Nat), AV.ptr (1 : Nat) (0 : Nat) (0 : Nat) (0 : Nat)), ((7 : Nat), AV.int IntKind.i64 (↑(Int.toNat (↑(AA.frm x) : Int)) : Int)), ((9 : Nat), AV.int IntKind.i64 (↑(Int.toNat (↑(AA.i x) : Int)) : Int)),
                                          ((13 : Nat), AV.int IntKind.i64 (0 : Int))]
                                        [some (Blk.mk false [] (2 : Nat) (AA.cap x) (fun r => [AV.int IntKind.i64 (colZ (f1R (AA.z x) (AA.y x) (AA.cap x)) r), AV.int IntKind.i64 (colY (f1R (AA.z x) (AA.y x) (AA.cap x)) r)]) []),
                                          some
                                            (Blk.mk true [AV.int IntKind.i64 (intA (List.getD (renL (out [(1 : Nat)] (List.length (aaM x))) [AV.int IntKind.i64 (AL.n (bar (stA (alB (AA.s x))) (AA.z x ((0 : Nat) + Int.toNat (↑(AA.i x) : Int))) (AA.y x ((0 : Nat) + Int.toNat (↑(AA.i x) : Int)))))]) (0 : Nat) AV.ff))] (1 : Nat) (96 : Nat)
                                              (fun j => [AV.bool (boolA (List.getD (renL (out [(1 : Nat)] (List.length (aaM x))) [AV.bool (AL.B (bar (stA (alB (AA.s x))) (AA.z x ((0 : Nat) + Int.toNat (↑(AA.i x) : Int))) (AA.y x ((0 : Nat) + Int.toNat (↑(AA.i x) : Int)))) j)]) (0 : Nat) AV.ff))])
                                              [AV.int IntKind.i64
                                                  (intA
                                                    (List.getD
                                                      (renL (out [(1 : Nat)] (List.length (aaM x)))
                                                        [AV.int IntKind.i64 (AL.c (bar (stA (alB (AA.s x))) (AA.z x ((0 : Nat) + Int.toNat (↑(AA.i x) : Int))) (AA.y x ((0 : Nat) + Int.toNat (↑(AA.i x) : Int))))), AV.int IntKind.i64 (AL.w (bar (stA (alB (AA.s x))) (AA.z x ((0 : Nat) + Int.toNat (↑(AA.i x) : Int))) (AA.y x ((0 : Nat) + Int.toNat (↑(AA.i x) : Int))))),
                                                          AV.int IntKind.i64 (AL.l (bar (stA (alB (AA.s x))) (AA.z x ((0 : Nat) + Int.toNat (↑(AA.i x) : Int))) (AA.y x ((0 : Nat) + Int.toNat (↑(AA.i x) : Int))))), AV.bool (AL.d (bar (stA (alB (AA.s x))) (AA.z x ((0 : Nat) + Int.toNat (↑(AA.i x) : Int))) (AA.y x ((0 : Nat) + Int.toNat (↑(AA.i x) : Int)))))])
                                                      (0 : Nat) AV.ff)),
                                                AV.int IntKind.i64
                                                  (intA
                                                    (List.getD
                                                      (renL (out [(1 : Nat)] (List.length (aaM x)))
                                                        [AV.int IntKind.i64 (AL.c (bar (stA (alB (AA.s x))) (AA.z x ((0 : Nat) + Int.toNat (↑(AA.i x) : Int))) (AA.y x ((0 : Nat) + Int.toNat (↑(AA.i x) : Int))))), AV.int IntKind.i64 (AL.w (bar (stA (alB (AA.s x))) (AA.z x ((0 : Nat) + Int.toNat (↑(AA.i x) : Int))) (AA.y x ((0 : Nat) + Int.toNat (↑(AA.i x) : Int))))),
                                                          AV.int IntKind.i64 (AL.l (bar (stA (alB (AA.s x))) (AA.z x ((0 : Nat) + Int.toNat (↑(AA.i x) : Int))) (AA.y x ((0 : Nat) + Int.toNat (↑(AA.i x) : Int))))), AV.bool (AL.d (bar (stA (alB (AA.s x))) (AA.z x ((0 : Nat) + Int.toNat (↑(AA.i x) : Int))) (AA.y x ((0 : Nat) + Int.toNat (↑(AA.i x) : Int)))))])
                                                      (1 : Nat) AV.ff)),
                                                AV.int IntKind.i64
                                                  (intA
                                                    (List.getD
                                                      (renL (out [(1 : Nat)] (List.length (aaM x)))
                                                        [AV.int IntKind.i64 (AL.c (bar (stA (alB (AA.s x))) (AA.z x ((0 : Nat) + Int.toNat (↑(AA.i x) : Int))) (AA.y x ((0 : Nat) + Int.toNat (↑(AA.i x) : Int))))), AV.int IntKind.i64 (AL.w (bar (stA (alB (AA.s x))) (AA.z x ((0 : Nat) + Int.toNat (↑(AA.i x) : Int))) (AA.y x ((0 : Nat) + Int.toNat (↑(AA.i x) : Int))))),
                                                          AV.int IntKind.i64 (AL.l (bar (stA (alB (AA.s x))) (AA.z x ((0 : Nat) + Int.toNat (↑(AA.i x) : Int))) (AA.y x ((0 : Nat) + Int.toNat (↑(AA.i x) : Int))))), AV.bool (AL.d (bar (stA (alB (AA.s x))) (AA.z x ((0 : Nat) + Int.toNat (↑(AA.i x) : Int))) (AA.y x ((0 : Nat) + Int.toNat (↑(AA.i x) : Int)))))])
                                                      (2 : Nat) AV.ff)),
                                                AV.bool
                                                  (boolA
                                                    (List.getD
                                                      (renL (out [(1 : Nat)] (List.length (aaM x)))
                                                        [AV.int IntKind.i64 (AL.c (bar (stA (alB (AA.s x))) (AA.z x ((0 : Nat) + Int.toNat (↑(AA.i x) : Int))) (AA.y x ((0 : Nat) + Int.toNat (↑(AA.i x) : Int))))), AV.int IntKind.i64 (AL.w (bar (stA (alB (AA.s x))) (AA.z x ((0 : Nat) + Int.toNat (↑(AA.i x) : Int))) (AA.y x ((0 : Nat) + Int.toNat (↑(AA.i x) : Int))))),
                                                          AV.int IntKind.i64 (AL.l (bar (stA (alB (AA.s x))) (AA.z x ((0 : Nat) + Int.toNat (↑(AA.i x) : Int))) (AA.y x ((0 : Nat) + Int.toNat (↑(AA.i x) : Int))))), AV.bool (AL.d (bar (stA (alB (AA.s x))) (AA.z x ((0 : Nat) + Int.toNat (↑(AA.i x) : Int))) (AA.y x ((0 : Nat) + Int.toNat (↑(AA.i x) : Int)))))])
                                                      (3 : Nat) AV.ff))])])
                                      (aaC
                                        (AA.mk (Int.toNat (↑(Int.toNat (↑(AA.n x) : Int)) : Int)) (colZ (f1R (colZ (f1R (AA.z x) (AA.y x) (AA.cap x))) (colY (f1R (AA.z x) (AA.y x) (AA.cap x))) (AA.cap x))) (colY (f1R (colZ (f1R (AA.z x) (AA.y x) (AA.cap x))) (colY (f1R (AA.z x) (AA.y x) (AA.cap x))) (AA.cap x))) (AA.len x) (AA.cap x)
                                          (stA (alB (stA (renB (out [(1 : Nat)] (List.length (aaM x))) (alB (bar (stA (alB (AA.s x))) (AA.z x ((0 : Nat) + Int.toNat (↑(AA.i x) : Int))) (AA.y x ((0 : Nat) + Int.toNat (↑(AA.i x) : Int))))))))) (0 : Int) (Int.toNat (↑(Int.toNat (↑(AA.frm x) : Int)) : Int)) false (Int.toNat (↑(Int.toNat (↑(AA.i x) : Int)) : Int)) false (0 : Nat) (0 : Nat) false
                                          (0 : Nat))))
                                  (T.need
                                    (aaIC
                                      (AA.mk (Int.toNat (↑(Int.toNat (↑(AA.n x) : Int)) : Int)) (colZ (f1R (colZ (f1R (AA.z x) (AA.y x) (AA.cap x))) (colY (f1R (AA.z x) (AA.y x) (AA.cap x))) (AA.cap x))) (colY (f1R (colZ (f1R (AA.z x) (AA.y x) (AA.cap x))) (colY (f1R (AA.z x) (AA.y x) (AA.cap x))) (AA.cap x))) (AA.len x) (AA.cap x)
                                        (stA (alB (stA (renB (out [(1 : Nat)] (List.length (aaM x))) (alB (bar (stA (alB (AA.s x))) (AA.z x ((0 : Nat) + Int.toNat (↑(AA.i x) : Int))) (AA.y x ((0 : Nat) + Int.toNat (↑(AA.i x) : Int))))))))) (0 : Int) (Int.toNat (↑(Int.toNat (↑(AA.frm x) : Int)) : Int)) false (Int.toNat (↑(Int.toNat (↑(AA.i x) : Int)) : Int)) false (0 : Nat) (0 : Nat) false
                                        (0 : Nat)))
                                    (T.chk (decide ((0 : Int) ≤ (↑(Int.toNat (↑(Int.toNat (↑(AA.i x) : Int)) : Int)) : Int)) && decide ((↑(Int.toNat (↑(Int.toNat (↑(AA.i x) : Int)) : Int)) : Int) < (↑(AA.len x) : Int)))
                                      (T.chk (decide ((0 : Nat) + Int.toNat (↑(Int.toNat (↑(Int.toNat (↑(AA.i x) : Int)) : Int)) : Int) < AA.cap x))
                                        (T.ret
                                          (Ex.norm,
                                            St.mk
                                              [((0 : Nat), AV.int IntKind.i64 (↑(Int.toNat (↑(Int.toNat (↑(AA.n x) : Int)) : Int)) : Int)), ((1 : Nat), AV.sl (0 : Nat) (0 : Nat) (2 : Nat) (0 : Nat) (AA.len x) (AA.cap x)), ((5 : Nat), AV.ptr (1 : Nat) (0 : Nat) (0 : Nat) (0 : Nat)),
                                                ((6 : Nat), AV.int IntKind.i64 (colY (f1R (colZ (f1R (AA.z x) (AA.y x) (AA.cap x))) (colY (f1R (AA.z x) (AA.y x) (AA.cap x))) (AA.cap x)) ((0 : Nat) + Int.toNat (↑(Int.toNat (↑(Int.toNat (↑(AA.i x) : Int)) : Int)) : Int)))),
                                                ((7 : Nat), AV.int IntKind.i64 (IntKind.wrap IntKind.i64 ((↑(Int.toNat (↑(Int.toNat (↑(AA.i x) : Int)) : Int)) : Int) + (1 : Int)))), ((8 : Nat), AV.tt), ((9 : Nat), AV.int IntKind.i64 (IntKind.wrap IntKind.i64 ((↑(Int.toNat (↑(Int.toNat (↑(AA.i x) : Int)) : Int)) : Int) + (1 : Int))))]
                                              [some (Blk.mk false [] (2 : Nat) (AA.cap x) (fun r => [AV.int IntKind.i64 (colZ (f1R (colZ (f1R (AA.z x) (AA.y x) (AA.cap x))) (colY (f1R (AA.z x) (AA.y x) (AA.cap x))) (AA.cap x)) r), AV.int IntKind.i64 (colY (f1R (colZ (f1R (AA.z x) (AA.y x) (AA.cap x))) (colY (f1R (AA.z x) (AA.y x) (AA.cap x))) (AA.cap x)) r)]) []),
                                                some
                                                  (Blk.mk true [AV.int IntKind.i64 (intA (List.getD [AV.int IntKind.i64 (intA (List.getD (renL (out [(1 : Nat)] (List.length (aaM x))) [AV.int IntKind.i64 (AL.n (bar (stA (alB (AA.s x))) (AA.z x ((0 : Nat) + Int.toNat (↑(AA.i x) : Int))) (AA.y x ((0 : Nat) + Int.toNat (↑(AA.i x) : Int)))))]) (0 : Nat) AV.ff))] (0 : Nat) AV.ff))] (1 : Nat) (96 : Nat)
                                                    (fun j => [AV.bool (boolA (List.getD [AV.bool (boolA (List.getD (renL (out [(1 : Nat)] (List.length (aaM x))) [AV.bool (AL.B (bar (stA (alB (AA.s x))) (AA.z x ((0 : Nat) + Int.toNat (↑(AA.i x) : Int))) (AA.y x ((0 : Nat) + Int.toNat (↑(AA.i x) : Int)))) j)]) (0 : Nat) AV.ff))] (0 : Nat) AV.ff))])
                                                    [AV.int IntKind.i64
                                                        (intA
                                                          (List.getD
                                                            [AV.int IntKind.i64
                                                                (intA
                                                                  (List.getD
                                                                    (renL (out [(1 : Nat)] (List.length (aaM x)))
                                                                      [AV.int IntKind.i64 (AL.c (bar (stA (alB (AA.s x))) (AA.z x ((0 : Nat) + Int.toNat (↑(AA.i x) : Int))) (AA.y x ((0 : Nat) + Int.toNat (↑(AA.i x) : Int))))), AV.int IntKind.i64 (AL.w (bar (stA (alB (AA.s x))) (AA.z x ((0 : Nat) + Int.toNat (↑(AA.i x) : Int))) (AA.y x ((0 : Nat) + Int.toNat (↑(AA.i x) : Int))))),
                                                                        AV.int IntKind.i64 (AL.l (bar (stA (alB (AA.s x))) (AA.z x ((0 : Nat) + Int.toNat (↑(AA.i x) : Int))) (AA.y x ((0 : Nat) + Int.toNat (↑(AA.i x) : Int))))), AV.bool (AL.d (bar (stA (alB (AA.s x))) (AA.z x ((0 : Nat) + Int.toNat (↑(AA.i x) : Int))) (AA.y x ((0 : Nat) + Int.toNat (↑(AA.i x) : Int)))))])
                                                                    (0 : Nat) AV.ff)),
                                                              AV.int IntKind.i64
                                                                (intA
                                                                  (List.getD
                                                                    (renL (out [(1 : Nat)] (List.length (aaM x)))
                                                                      [AV.int IntKind.i64 (AL.c (bar (stA (alB (AA.s x))) (AA.z x ((0 : Nat) + Int.toNat (↑(AA.i x) : Int))) (AA.y x ((0 : Nat) + Int.toNat (↑(AA.i x) : Int))))), AV.int IntKind.i64 (AL.w (bar (stA (alB (AA.s x))) (AA.z x ((0 : Nat) + Int.toNat (↑(AA.i x) : Int))) (AA.y x ((0 : Nat) + Int.toNat (↑(AA.i x) : Int))))),
                                                                        AV.int IntKind.i64 (AL.l (bar (stA (alB (AA.s x))) (AA.z x ((0 : Nat) + Int.toNat (↑(AA.i x) : Int))) (AA.y x ((0 : Nat) + Int.toNat (↑(AA.i x) : Int))))), AV.bool (AL.d (bar (stA (alB (AA.s x))) (AA.z x ((0 : Nat) + Int.toNat (↑(AA.i x) : Int))) (AA.y x ((0 : Nat) + Int.toNat (↑(AA.i x) : Int)))))])
                                                                    (1 : Nat) AV.ff)),
                                                              AV.int IntKind.i64
                                                                (intA
                                                                  (List.getD
                                                                    (renL (out [(1 : Nat)] (List.length (aaM x)))
                                                                      [AV.int IntKind.i64 (AL.c (bar (stA (alB (AA.s x))) (AA.z x ((0 : Nat) + Int.toNat (↑(AA.i x) : Int))) (AA.y x ((0 : Nat) + Int.toNat (↑(AA.i x) : Int))))), AV.int IntKind.i64 (AL.w (bar (stA (alB (AA.s x))) (AA.z x ((0 : Nat) + Int.toNat (↑(AA.i x) : Int))) (AA.y x ((0 : Nat) + Int.toNat (↑(AA.i x) : Int))))),
                                                                        AV.int IntKind.i64 (AL.l (bar (stA (alB (AA.s x))) (AA.z x ((0 : Nat) + Int.toNat (↑(AA.i x) : Int))) (AA.y x ((0 : Nat) + Int.toNat (↑(AA.i x) : Int))))), AV.bool (AL.d (bar (stA (alB (AA.s x))) (AA.z x ((0 : Nat) + Int.toNat (↑(AA.i x) : Int))) (AA.y x ((0 : Nat) + Int.toNat (↑(AA.i x) : Int)))))])
                                                                    (2 : Nat) AV.ff)),
                                                              AV.bool
                                                                (boolA
                                                                  (List.getD
                                                                    (renL (out [(1 : Nat)] (List.length (aaM x)))
                                                                      [AV.int IntKind.i64 (AL.c (bar (stA (alB (AA.s x))) (AA.z x ((0 : Nat) + Int.toNat (↑(AA.i x) : Int))) (AA.y x ((0 : Nat) + Int.toNat (↑(AA.i x) : Int))))), AV.int IntKind.i64 (AL.w (bar (stA (alB (AA.s x))) (AA.z x ((0 : Nat) + Int.toNat (↑(AA.i x) : Int))) (AA.y x ((0 : Nat) + Int.toNat (↑(AA.i x) : Int))))),
                                                                        AV.int IntKind.i64 (AL.l (bar (stA (alB (AA.s x))) (AA.z x ((0 : Nat) + Int.toNat (↑(AA.i x) : Int))) (AA.y x ((0 : Nat) + Int.toNat (↑(AA.i x) : Int))))), AV.bool (AL.d (bar (stA (alB (AA.s x))) (AA.z x ((0 : Nat) + Int.toNat (↑(AA.i x) : Int))) (AA.y x ((0 : Nat) + Int.toNat (↑(AA.i x) : Int)))))])
                                                                    (3 : Nat) AV.ff))]
                                                            (0 : Nat) AV.ff)),
                                                      AV.int IntKind.i64
                                                        (intA
                                                          (List.getD
                                                            [AV.int IntKind.i64
                                                                (intA
                                                                  (List.getD
                                                                    (renL (out [(1 : Nat)] (List.length (aaM x)))
                                                                      [AV.int IntKind.i64 (AL.c (bar (stA (alB (AA.s x))) (AA.z x ((0 : Nat) + Int.toNat (↑(AA.i x) : Int))) (AA.y x ((0 : Nat) + Int.toNat (↑(AA.i x) : Int))))), AV.int IntKind.i64 (AL.w (bar (stA (alB (AA.s x))) (AA.z x ((0 : Nat) + Int.toNat (↑(AA.i x) : Int))) (AA.y x ((0 : Nat) + Int.toNat (↑(AA.i x) : Int))))),
                                                                        AV.int IntKind.i64 (AL.l (bar (stA (alB (AA.s x))) (AA.z x ((0 : Nat) + Int.toNat (↑(AA.i x) : Int))) (AA.y x ((0 : Nat) + Int.toNat (↑(AA.i x) : Int))))), AV.bool (AL.d (bar (stA (alB (AA.s x))) (AA.z x ((0 : Nat) + Int.toNat (↑(AA.i x) : Int))) (AA.y x ((0 : Nat) + Int.toNat (↑(AA.i x) : Int)))))])
                                                                    (0 : Nat) AV.ff)),
                                                              AV.int IntKind.i64
                                                                (intA
                                                                  (List.getD
                                                                    (renL (out [(1 : Nat)] (List.length (aaM x)))
                                                                      [AV.int IntKind.i64 (AL.c (bar (stA (alB (AA.s x))) (AA.z x ((0 : Nat) + Int.toNat (↑(AA.i x) : Int))) (AA.y x ((0 : Nat) + Int.toNat (↑(AA.i x) : Int))))), AV.int IntKind.i64 (AL.w (bar (stA (alB (AA.s x))) (AA.z x ((0 : Nat) + Int.toNat (↑(AA.i x) : Int))) (AA.y x ((0 : Nat) + Int.toNat (↑(AA.i x) : Int))))),
                                                                        AV.int IntKind.i64 (AL.l (bar (stA (alB (AA.s x))) (AA.z x ((0 : Nat) + Int.toNat (↑(AA.i x) : Int))) (AA.y x ((0 : Nat) + Int.toNat (↑(AA.i x) : Int))))), AV.bool (AL.d (bar (stA (alB (AA.s x))) (AA.z x ((0 : Nat) + Int.toNat (↑(AA.i x) : Int))) (AA.y x ((0 : Nat) + Int.toNat (↑(AA.i x) : Int)))))])
                                                                    (1 : Nat) AV.ff)),
                                                              AV.int IntKind.i64
                                                                (intA
                                                                  (List.getD
                                                                    (renL (out [(1 : Nat)] (List.length (aaM x)))
                                                                      [AV.int IntKind.i64 (AL.c (bar (stA (alB (AA.s x))) (AA.z x ((0 : Nat) + Int.toNat (↑(AA.i x) : Int))) (AA.y x ((0 : Nat) + Int.toNat (↑(AA.i x) : Int))))), AV.int IntKind.i64 (AL.w (bar (stA (alB (AA.s x))) (AA.z x ((0 : Nat) + Int.toNat (↑(AA.i x) : Int))) (AA.y x ((0 : Nat) + Int.toNat (↑(AA.i x) : Int))))),
                                                                        AV.int IntKind.i64 (AL.l (bar (stA (alB (AA.s x))) (AA.z x ((0 : Nat) + Int.toNat (↑(AA.i x) : Int))) (AA.y x ((0 : Nat) + Int.toNat (↑(AA.i x) : Int))))), AV.bool (AL.d (bar (stA (alB (AA.s x))) (AA.z x ((0 : Nat) + Int.toNat (↑(AA.i x) : Int))) (AA.y x ((0 : Nat) + Int.toNat (↑(AA.i x) : Int)))))])
                                                                    (2 : Nat) AV.ff)),
                                                              AV.bool
                                                                (boolA
                                                                  (List.getD
                                                                    (renL (out [(1 : Nat)] (List.length (aaM x)))
                                                                      [AV.int IntKind.i64 (AL.c (bar (stA (alB (AA.s x))) (AA.z x ((0 : Nat) + Int.toNat (↑(AA.i x) : Int))) (AA.y x ((0 : Nat) + Int.toNat (↑(AA.i x) : Int))))), AV.int IntKind.i64 (AL.w (bar (stA (alB (AA.s x))) (AA.z x ((0 : Nat) + Int.toNat (↑(AA.i x) : Int))) (AA.y x ((0 : Nat) + Int.toNat (↑(AA.i x) : Int))))),
                                                                        AV.int IntKind.i64 (AL.l (bar (stA (alB (AA.s x))) (AA.z x ((0 : Nat) + Int.toNat (↑(AA.i x) : Int))) (AA.y x ((0 : Nat) + Int.toNat (↑(AA.i x) : Int))))), AV.bool (AL.d (bar (stA (alB (AA.s x))) (AA.z x ((0 : Nat) + Int.toNat (↑(AA.i x) : Int))) (AA.y x ((0 : Nat) + Int.toNat (↑(AA.i x) : Int)))))])
                                                                    (3 : Nat) AV.ff))]
                                                            (1 : Nat) AV.ff)),
                                                      AV.int IntKind.i64
                                                        (intA
                                                          (List.getD
                                                            [AV.int IntKind.i64
                                                                (intA
                                                                  (List.getD
                                                                    (renL (out [(1 : Nat)] (List.length (aaM x)))
                                                                      [AV.int IntKind.i64 (AL.c (bar (stA (alB (AA.s x))) (AA.z x ((0 : Nat) + Int.toNat (↑(AA.i x) : Int))) (AA.y x ((0 : Nat) + Int.toNat (↑(AA.i x) : Int))))), AV.int IntKind.i64 (AL.w (bar (stA (alB (AA.s x))) (AA.z x ((0 : Nat) + Int.toNat (↑(AA.i x) : Int))) (AA.y x ((0 : Nat) + Int.toNat (↑(AA.i x) : Int))))),
                                                                        AV.int IntKind.i64 (AL.l (bar (stA (alB (AA.s x))) (AA.z x ((0 : Nat) + Int.toNat (↑(AA.i x) : Int))) (AA.y x ((0 : Nat) + Int.toNat (↑(AA.i x) : Int))))), AV.bool (AL.d (bar (stA (alB (AA.s x))) (AA.z x ((0 : Nat) + Int.toNat (↑(AA.i x) : Int))) (AA.y x ((0 : Nat) + Int.toNat (↑(AA.i x) : Int)))))])
                                                                    (0 : Nat) AV.ff)),
                                                              AV.int IntKind.i64
                                                                (intA
                                                                  (List.getD
                                                                    (renL (out [(1 : Nat)] (List.length (aaM x)))
                                                                      [AV.int IntKind.i64 (AL.c (bar (stA (alB (AA.s x))) (AA.z x ((0 : Nat) + Int.toNat (↑(AA.i x) : Int))) (AA.y x ((0 : Nat) + Int.toNat (↑(AA.i x) : Int))))), AV.int IntKind.i64 (AL.w (bar (stA (alB (AA.s x))) (AA.z x ((0 : Nat) + Int.toNat (↑(AA.i x) : Int))) (AA.y x ((0 : Nat) + Int.toNat (↑(AA.i x) : Int))))),
                                                                        AV.int IntKind.i64 (AL.l (bar (stA (alB (AA.s x))) (AA.z x ((0 : Nat) + Int.toNat (↑(AA.i x) : Int))) (AA.y x ((0 : Nat) + Int.toNat (↑(AA.i x) : Int))))), AV.bool (AL.d (bar (stA (alB (AA.s x))) (AA.z x ((0 : Nat) + Int.toNat (↑(AA.i x) : Int))) (AA.y x ((0 : Nat) + Int.toNat (↑(AA.i x) : Int)))))])
                                                                    (1 : Nat) AV.ff)),
                                                              AV.int IntKind.i64
                                                                (intA
                                                                  (List.getD
                                                                    (renL (out [(1 : Nat)] (List.length (aaM x)))
                                                                      [AV.int IntKind.i64 (AL.c (bar (stA (alB (AA.s x))) (AA.z x ((0 : Nat) + Int.toNat (↑(AA.i x) : Int))) (AA.y x ((0 : Nat) + Int.toNat (↑(AA.i x) : Int))))), AV.int IntKind.i64 (AL.w (bar (stA (alB (AA.s x))) (AA.z x ((0 : Nat) + Int.toNat (↑(AA.i x) : Int))) (AA.y x ((0 : Nat) + Int.toNat (↑(AA.i x) : Int))))),
                                                                        AV.int IntKind.i64 (AL.l (bar (stA (alB (AA.s x))) (AA.z x ((0 : Nat) + Int.toNat (↑(AA.i x) : Int))) (AA.y x ((0 : Nat) + Int.toNat (↑(AA.i x) : Int))))), AV.bool (AL.d (bar (stA (alB (AA.s x))) (AA.z x ((0 : Nat) + Int.toNat (↑(AA.i x) : Int))) (AA.y x ((0 : Nat) + Int.toNat (↑(AA.i x) : Int)))))])
                                                                    (2 : Nat) AV.ff)),
                                                              AV.bool
                                                                (boolA
                                                                  (List.getD
                                                                    (renL (out [(1 : Nat)] (List.length (aaM x)))
                                                                      [AV.int IntKind.i64 (AL.c (bar (stA (alB (AA.s x))) (AA.z x ((0 : Nat) + Int.toNat (↑(AA.i x) : Int))) (AA.y x ((0 : Nat) + Int.toNat (↑(AA.i x) : Int))))), AV.int IntKind.i64 (AL.w (bar (stA (alB (AA.s x))) (AA.z x ((0 : Nat) + Int.toNat (↑(AA.i x) : Int))) (AA.y x ((0 : Nat) + Int.toNat (↑(AA.i x) : Int))))),
                                                                        AV.int IntKind.i64 (AL.l (bar (stA (alB (AA.s x))) (AA.z x ((0 : Nat) + Int.toNat (↑(AA.i x) : Int))) (AA.y x ((0 : Nat) + Int.toNat (↑(AA.i x) : Int))))), AV.bool (AL.d (bar (stA (alB (AA.s x))) (AA.z x ((0 : Nat) + Int.toNat (↑(AA.i x) : Int))) (AA.y x ((0 : Nat) + Int.toNat (↑(AA.i x) : Int)))))])
                                                                    (3 : Nat) AV.ff))]
                                                            (2 : Nat) AV.ff)),
                                                      AV.bool
                                                        (boolA
                                                          (List.getD
                                                            [AV.int IntKind.i64
                                                                (intA
                                                                  (List.getD
                                                                    (renL (out [(1 : Nat)] (List.length (aaM x)))
                                                                      [AV.int IntKind.i64 (AL.c (bar (stA (alB (AA.s x))) (AA.z x ((0 : Nat) + Int.toNat (↑(AA.i x) : Int))) (AA.y x ((0 : Nat) + Int.toNat (↑(AA.i x) : Int))))), AV.int IntKind.i64 (AL.w (bar (stA (alB (AA.s x))) (AA.z x ((0 : Nat) + Int.toNat (↑(AA.i x) : Int))) (AA.y x ((0 : Nat) + Int.toNat (↑(AA.i x) : Int))))),
                                                                        AV.int IntKind.i64 (AL.l (bar (stA (alB (AA.s x))) (AA.z x ((0 : Nat) + Int.toNat (↑(AA.i x) : Int))) (AA.y x ((0 : Nat) + Int.toNat (↑(AA.i x) : Int))))), AV.bool (AL.d (bar (stA (alB (AA.s x))) (AA.z x ((0 : Nat) + Int.toNat (↑(AA.i x) : Int))) (AA.y x ((0 : Nat) + Int.toNat (↑(AA.i x) : Int)))))])
                                                                    (0 : Nat) AV.ff)),
                                                              AV.int IntKind.i64
                                                                (intA
                                                                  (List.getD
                                                                    (renL (out [(1 : Nat)] (List.length (aaM x)))
                                                                      [AV.int IntKind.i64 (AL.c (bar (stA (alB (AA.s x))) (AA.z x ((0 : Nat) + Int.toNat (↑(AA.i x) : Int))) (AA.y x ((0 : Nat) + Int.toNat (↑(AA.i x) : Int))))), AV.int IntKind.i64 (AL.w (bar (stA (alB (AA.s x))) (AA.z x ((0 : Nat) + Int.toNat (↑(AA.i x) : Int))) (AA.y x ((0 : Nat) + Int.toNat (↑(AA.i x) : Int))))),
                                                                        AV.int IntKind.i64 (AL.l (bar (stA (alB (AA.s x))) (AA.z x ((0 : Nat) + Int.toNat (↑(AA.i x) : Int))) (AA.y x ((0 : Nat) + Int.toNat (↑(AA.i x) : Int))))), AV.bool (AL.d (bar (stA (alB (AA.s x))) (AA.z x ((0 : Nat) + Int.toNat (↑(AA.i x) : Int))) (AA.y x ((0 : Nat) + Int.toNat (↑(AA.i x) : Int)))))])
                                                                    (1 : Nat) AV.ff)),
                                                              AV.int IntKind.i64
                                                                (intA
                                                                  (List.getD
                                                                    (renL (out [(1 : Nat)] (List.length (aaM x)))
                                                                      [AV.int IntKind.i64 (AL.c (bar (stA (alB (AA.s x))) (AA.z x ((0 : Nat) + Int.toNat (↑(AA.i x) : Int))) (AA.y x ((0 : Nat) + Int.toNat (↑(AA.i x) : Int))))), AV.int IntKind.i64 (AL.w (bar (stA (alB (AA.s x))) (AA.z x ((0 : Nat) + Int.toNat (↑(AA.i x) : Int))) (AA.y x ((0 : Nat) + Int.toNat (↑(AA.i x) : Int))))),
                                                                        AV.int IntKind.i64 (AL.l (bar (stA (alB (AA.s x))) (AA.z x ((0 : Nat) + Int.toNat (↑(AA.i x) : Int))) (AA.y x ((0 : Nat) + Int.toNat (↑(AA.i x) : Int))))), AV.bool (AL.d (bar (stA (alB (AA.s x))) (AA.z x ((0 : Nat) + Int.toNat (↑(AA.i x) : Int))) (AA.y x ((0 : Nat) + Int.toNat (↑(AA.i x) : Int)))))])
                                                                    (2 : Nat) AV.ff)),
                                                              AV.bool
                                                                (boolA
                                                                  (List.getD
                                                                    (renL (out [(1 : Nat)] (List.length (aaM x)))
                                                                      [AV.int IntKind.i64 (AL.c (bar (stA (alB (AA.s x))) (AA.z x ((0 : Nat) + Int.toNat (↑(AA.i x) : Int))) (AA.y x ((0 : Nat) + Int.toNat (↑(AA.i x) : Int))))), AV.int IntKind.i64 (AL.w (bar (stA (alB (AA.s x))) (AA.z x ((0 : Nat) + Int.toNat (↑(AA.i x) : Int))) (AA.y x ((0 : Nat) + Int.toNat (↑(AA.i x) : Int))))),
                                                                        AV.int IntKind.i64 (AL.l (bar (stA (alB (AA.s x))) (AA.z x ((0 : Nat) + Int.toNat (↑(AA.i x) : Int))) (AA.y x ((0 : Nat) + Int.toNat (↑(AA.i x) : Int))))), AV.bool (AL.d (bar (stA (alB (AA.s x))) (AA.z x ((0 : Nat) + Int.toNat (↑(AA.i x) : Int))) (AA.y x ((0 : Nat) + Int.toNat (↑(AA.i x) : Int)))))])
                                                                    (3 : Nat) AV.ff))]
                                                            (3 : Nat) AV.ff))])])))))))))
                          (T.ite (!boolA (ren (out [(1 : Nat)] (List.length (aaM x))) (AV.bool (barR (stA (alB (AA.s x))) (AA.z x ((0 : Nat) + Int.toNat (↑(AA.i x) : Int))) (AA.y x ((0 : Nat) + Int.toNat (↑(AA.i x) : Int)))))))
                            (T.ret
                              (Ex.norm,
                                St.mk
                                  [((0 : Nat), AV.int IntKind.i64 (↑(Int.toNat (↑(AA.n x) : Int)) : Int)), ((1 : Nat), AV.sl (0 : Nat) (0 : Nat) (2 : Nat) (0 : Nat) (AA.len x) (AA.cap x)), ((5 : Nat), AV.ptr (1 : Nat) (0 : Nat) (0 : Nat) (0 : Nat)), ((6 : Nat), AV.int IntKind.i64 (AA.last x)), ((7 : Nat), AV.int IntKind.i64 (↑(Int.toNat (↑(AA.frm x) : Int)) : Int)),
                                    ((8 : Nat), AV.bool (boolA (AV.bool (AA.any x)))), ((9 : Nat), AV.int IntKind.i64 (IntKind.wrap IntKind.i64 ((↑(Int.toNat (↑(AA.i x) : Int)) : Int) + (1 : Int))))]
                                  [some (Blk.mk false [] (2 : Nat) (AA.cap x) (fun r => [AV.int IntKind.i64 (colZ (f1R (AA.z x) (AA.y x) (AA.cap x)) r), AV.int IntKind.i64 (colY (f1R (AA.z x) (AA.y x) (AA.cap x)) r)]) []),
                                    some
                                      (Blk.mk true [AV.int IntKind.i64 (intA (List.getD (renL (out [(1 : Nat)] (List.length (aaM x))) [AV.int IntKind.i64 (AL.n (bar (stA (alB (AA.s x))) (AA.z x ((0 : Nat) + Int.toNat (↑(AA.i x) : Int))) (AA.y x ((0 : Nat) + Int.toNat (↑(AA.i x) : Int)))))]) (0 : Nat) AV.ff))] (1 : Nat) (96 : Nat)
                                        (fun j => [AV.bool (boolA (List.getD (renL (out [(1 : Nat)] (List.length (aaM x))) [AV.bool (AL.B (bar (stA (alB (AA.s x))) (AA.z x ((0 : Nat) + Int.toNat (↑(AA.i x) : Int))) (AA.y x ((0 : Nat) + Int.toNat (↑(AA.i x) : Int)))) j)]) (0 : Nat) AV.ff))])
                                        [AV.int IntKind.i64
                                            (intA
                                              (List.getD
                                                (renL (out [(1 : Nat)] (List.length (aaM x)))
                                                  [AV.int IntKind.i64 (AL.c (bar (stA (alB (AA.s x))) (AA.z x ((0 : Nat) + Int.toNat (↑(AA.i x) : Int))) (AA.y x ((0 : Nat) + Int.toNat (↑(AA.i x) : Int))))), AV.int IntKind.i64 (AL.w (bar (stA (alB (AA.s x))) (AA.z x ((0 : Nat) + Int.toNat (↑(AA.i x) : Int))) (AA.y x ((0 : Nat) + Int.toNat (↑(AA.i x) : Int))))),
                                                    AV.int IntKind.i64 (AL.l (bar (stA (alB (AA.s x))) (AA.z x ((0 : Nat) + Int.toNat (↑(AA.i x) : Int))) (AA.y x ((0 : Nat) + Int.toNat (↑(AA.i x) : Int))))), AV.bool (AL.d (bar (stA (alB (AA.s x))) (AA.z x ((0 : Nat) + Int.toNat (↑(AA.i x) : Int))) (AA.y x ((0 : Nat) + Int.toNat (↑(AA.i x) : Int)))))])
                                                (0 : Nat) AV.ff)),
                                          AV.int IntKind.i64
                                            (intA
                                              (List.getD
                                                (renL (out [(1 : Nat)] (List.length (aaM x)))
                                                  [AV.int IntKind.i64 (AL.c (bar (stA (alB (AA.s x))) (AA.z x ((0 : Nat) + Int.toNat (↑(AA.i x) : Int))) (AA.y x ((0 : Nat) + Int.toNat (↑(AA.i x) : Int))))), AV.int IntKind.i64 (AL.w (bar (stA (alB (AA.s x))) (AA.z x ((0 : Nat) + Int.toNat (↑(AA.i x) : Int))) (AA.y x ((0 : Nat) + Int.toNat (↑(AA.i x) : Int))))),
                                                    AV.int IntKind.i64 (AL.l (bar (stA (alB (AA.s x))) (AA.z x ((0 : Nat) + Int.toNat (↑(AA.i x) : Int))) (AA.y x ((0 : Nat) + Int.toNat (↑(AA.i x) : Int))))), AV.bool (AL.d (bar (stA (alB (AA.s x))) (AA.z x ((0 : Nat) + Int.toNat (↑(AA.i x) : Int))) (AA.y x ((0 : Nat) + Int.toNat (↑(AA.i x) : Int)))))])
                                                (1 : Nat) AV.ff)),
                                          AV.int IntKind.i64
                                            (intA
                                              (List.getD
                                                (renL (out [(1 : Nat)] (List.length (aaM x)))
                                                  [AV.int IntKind.i64 (AL.c (bar (stA (alB (AA.s x))) (AA.z x ((0 : Nat) + Int.toNat (↑(AA.i x) : Int))) (AA.y x ((0 : Nat) + Int.toNat (↑(AA.i x) : Int))))), AV.int IntKind.i64 (AL.w (bar (stA (alB (AA.s x))) (AA.z x ((0 : Nat) + Int.toNat (↑(AA.i x) : Int))) (AA.y x ((0 : Nat) + Int.toNat (↑(AA.i x) : Int))))),
                                                    AV.int IntKind.i64 (AL.l (bar (stA (alB (AA.s x))) (AA.z x ((0 : Nat) + Int.toNat (↑(AA.i x) : Int))) (AA.y x ((0 : Nat) + Int.toNat (↑(AA.i x) : Int))))), AV.bool (AL.d (bar (stA (alB (AA.s x))) (AA.z x ((0 : Nat) + Int.toNat (↑(AA.i x) : Int))) (AA.y x ((0 : Nat) + Int.toNat (↑(AA.i x) : Int)))))])
                                                (2 : Nat) AV.ff)),
                                          AV.bool
                                            (boolA
                                              (List.getD
                                                (renL (out [(1 : Nat)] (List.length (aaM x)))
                                                  [AV.int IntKind.i64 (AL.c (bar (stA (alB (AA.s x))) (AA.z x ((0 : Nat) + Int.toNat (↑(AA.i x) : Int))) (AA.y x ((0 : Nat) + Int.toNat (↑(AA.i x) : Int))))), AV.int IntKind.i64 (AL.w (bar (stA (alB (AA.s x))) (AA.z x ((0 : Nat) + Int.toNat (↑(AA.i x) : Int))) (AA.y x ((0 : Nat) + Int.toNat (↑(AA.i x) : Int))))),
                                                    AV.int IntKind.i64 (AL.l (bar (stA (alB (AA.s x))) (AA.z x ((0 : Nat) + Int.toNat (↑(AA.i x) : Int))) (AA.y x ((0 : Nat) + Int.toNat (↑(AA.i x) : Int))))), AV.bool (AL.d (bar (stA (alB (AA.s x))) (AA.z x ((0 : Nat) + Int.toNat (↑(AA.i x) : Int))) (AA.y x ((0 : Nat) + Int.toNat (↑(AA.i x) : Int)))))])
                                                (3 : Nat) AV.ff))])]))
                            (T.need
                              (∃ ρ,
                                SubSt (1 : Nat) ρ
                                  (St.mk
                                    [((0 : Nat), AV.int IntKind.i64 (↑(Int.toNat (↑(AA.n x) : Int)) : Int)), ((1 : Nat), AV.sl (0 : Nat) (0 : Nat) (2 : Nat) (0 : Nat) (AA.len x) (AA.cap x)), ((5 : Nat), AV.ptr (1 : Nat) (0 : Nat) (0 : Nat) (0 : Nat)), ((7 : Nat), AV.int IntKind.i64 (↑(Int.toNat (↑(AA.frm x) : Int)) : Int)), ((9 : Nat), AV.int IntKind.i64 (↑(Int.toNat (↑(AA.i x) : Int)) : Int)),
                                      ((13 : Nat), AV.int IntKind.i64 (0 : Int))]
                                    [some (Blk.mk false [] (2 : Nat) (AA.cap x) (fun r => [AV.int IntKind.i64 (colZ (f1R (AA.z x) (AA.y x) (AA.cap x)) r), AV.int IntKind.i64 (colY (f1R (AA.z x) (AA.y x) (AA.cap x)) r)]) []),
                                      some
                                        (Blk.mk true [AV.int IntKind.i64 (intA (List.getD (renL (out [(1 : Nat)] (List.length (aaM x))) [AV.int IntKind.i64 (AL.n (bar (stA (alB (AA.s x))) (AA.z x ((0 : Nat) + Int.toNat (↑(AA.i x) : Int))) (AA.y x ((0 : Nat) + Int.toNat (↑(AA.i x) : Int)))))]) (0 : Nat) AV.ff))] (1 : Nat) (96 : Nat)
                                          (fun j => [AV.bool (boolA (List.getD (renL (out [(1 : Nat)] (List.length (aaM x))) [AV.bool (AL.B (bar (stA (alB (AA.s x))) (AA.z x ((0 : Nat) + Int.toNat (↑(AA.i x) : Int))) (AA.y x ((0 : Nat) + Int.toNat (↑(AA.i x) : Int)))) j)]) (0 : Nat) AV.ff))])
                                          [AV.int IntKind.i64
                                              (intA
                                                (List.getD
                                                  (renL (out [(1 : Nat)] (List.length (aaM x)))
                                                    [AV.int IntKind.i64 (AL.c (bar (stA (alB (AA.s x))) (AA.z x ((0 : Nat) + Int.toNat (↑(AA.i x) : Int))) (AA.y x ((0 : Nat) + Int.toNat (↑(AA.i x) : Int))))), AV.int IntKind.i64 (AL.w (bar (stA (alB (AA.s x))) (AA.z x ((0 : Nat) + Int.toNat (↑(AA.i x) : Int))) (AA.y x ((0 : Nat) + Int.toNat (↑(AA.i x) : Int))))),
                                                      AV.int IntKind.i64 (AL.l (bar (stA (alB (AA.s x))) (AA.z x ((0 : Nat) + Int.toNat (↑(AA.i x) : Int))) (AA.y x ((0 : Nat) + Int.toNat (↑(AA.i x) : Int))))), AV.bool (AL.d (bar (stA (alB (AA.s x))) (AA.z x ((0 : Nat) + Int.toNat (↑(AA.i x) : Int))) (AA.y x ((0 : Nat) + Int.toNat (↑(AA.i x) : Int)))))])
                                                  (0 : Nat) AV.ff)),
                                            AV.int IntKind.i64
                                              (intA
                                                (List.getD
                                                  (renL (out [(1 : Nat)] (List.length (aaM x)))
                                                    [AV.int IntKind.i64 (AL.c (bar (stA (alB (AA.s x))) (AA.z x ((0 : Nat) + Int.toNat (↑(AA.i x) : Int))) (AA.y x ((0 : Nat) + Int.toNat (↑(AA.i x) : Int))))), AV.int IntKind.i64 (AL.w (bar (stA (alB (AA.s x))) (AA.z x ((0 : Nat) + Int.toNat (↑(AA.i x) : Int))) (AA.y x ((0 : Nat) + Int.toNat (↑(AA.i x) : Int))))),
                                                      AV.int IntKind.i64 (AL.l (bar (stA (alB (AA.s x))) (AA.z x ((0 : Nat) + Int.toNat (↑(AA.i x) : Int))) (AA.y x ((0 : Nat) + Int.toNat (↑(AA.i x) : Int))))), AV.bool (AL.d (bar (stA (alB (AA.s x))) (AA.z x ((0 : Nat) + Int.toNat (↑(AA.i x) : Int))) (AA.y x ((0 : Nat) + Int.toNat (↑(AA.i x) : Int)))))])
                                                  (1 : Nat) AV.ff)),
                                            AV.int IntKind.i64
                                              (intA
                                                (List.getD
                                                  (renL (out [(1 : Nat)] (List.length (aaM x)))
                                                    [AV.int IntKind.i64 (AL.c (bar (stA (alB (AA.s x))) (AA.z x ((0 : Nat) + Int.toNat (↑(AA.i x) : Int))) (AA.y x ((0 : Nat) + Int.toNat (↑(AA.i x) : Int))))), AV.int IntKind.i64 (AL.w (bar (stA (alB (AA.s x))) (AA.z x ((0 : Nat) + Int.toNat (↑(AA.i x) : Int))) (AA.y x ((0 : Nat) + Int.toNat (↑(AA.i x) : Int))))),
                                                      AV.int IntKind.i64 (AL.l (bar (stA (alB (AA.s x))) (AA.z x ((0 : Nat) + Int.toNat (↑(AA.i x) : Int))) (AA.y x ((0 : Nat) + Int.toNat (↑(AA.i x) : Int))))), AV.bool (AL.d (bar (stA (alB (AA.s x))) (AA.z x ((0 : Nat) + Int.toNat (↑(AA.i x) : Int))) (AA.y x ((0 : Nat) + Int.toNat (↑(AA.i x) : Int)))))])
                                                  (2 : Nat) AV.ff)),
                                            AV.bool
                                              (boolA
                                                (List.getD
                                                  (renL (out [(1 : Nat)] (List.length (aaM x)))
                                                    [AV.int IntKind.i64 (AL.c (bar (stA (alB (AA.s x))) (AA.z x ((0 : Nat) + Int.toNat (↑(AA.i x) : Int))) (AA.y x ((0 : Nat) + Int.toNat (↑(AA.i x) : Int))))), AV.int IntKind.i64 (AL.w (bar (stA (alB (AA.s x))) (AA.z x ((0 : Nat) + Int.toNat (↑(AA.i x) : Int))) (AA.y x ((0 : Nat) + Int.toNat (↑(AA.i x) : Int))))),
                                                      AV.int IntKind.i64 (AL.l (bar (stA (alB (AA.s x))) (AA.z x ((0 : Nat) + Int.toNat (↑(AA.i x) : Int))) (AA.y x ((0 : Nat) + Int.toNat (↑(AA.i x) : Int))))), AV.bool (AL.d (bar (stA (alB (AA.s x))) (AA.z x ((0 : Nat) + Int.toNat (↑(AA.i x) : Int))) (AA.y x ((0 : Nat) + Int.toNat (↑(AA.i x) : Int)))))])
                                                  (3 : Nat) AV.ff))])])
                                  (aaC
                                    (AA.mk (Int.toNat (↑(Int.toNat (↑(AA.n x) : Int)) : Int)) (colZ (f1R (colZ (f1R (AA.z x) (AA.y x) (AA.cap x))) (colY (f1R (AA.z x) (AA.y x) (AA.cap x))) (AA.cap x))) (colY (f1R (colZ (f1R (AA.z x) (AA.y x) (AA.cap x))) (colY (f1R (AA.z x) (AA.y x) (AA.cap x))) (AA.cap x))) (AA.len x) (AA.cap x)
                                      (stA (alB (stA (renB (out [(1 : Nat)] (List.length (aaM x))) (alB (bar (stA (alB (AA.s x))) (AA.z x ((0 : Nat) + Int.toNat (↑(AA.i x) : Int))) (AA.y x ((0 : Nat) + Int.toNat (↑(AA.i x) : Int))))))))) (0 : Int) (Int.toNat (↑(Int.toNat (↑(AA.frm x) : Int)) : Int)) false (Int.toNat (↑(Int.toNat (↑(AA.i x) : Int)) : Int)) false (0 : Nat) (0 : Nat) false (0 : Nat))))
                              (T.need
                                (aaIC
                                  (AA.mk (Int.toNat (↑(Int.toNat (↑(AA.n x) : Int)) : Int)) (colZ (f1R (colZ (f1R (AA.z x) (AA.y x) (AA.cap x))) (colY (f1R (AA.z x) (AA.y x) (AA.cap x))) (AA.cap x))) (colY (f1R (colZ (f1R (AA.z x) (AA.y x) (AA.cap x))) (colY (f1R (AA.z x) (AA.y x) (AA.cap x))) (AA.cap x))) (AA.len x) (AA.cap x)
                                    (stA (alB (stA (renB (out [(1 : Nat)] (List.length (aaM x))) (alB (bar (stA (alB (AA.s x))) (AA.z x ((0 : Nat) + Int.toNat (↑(AA.i x) : Int))) (AA.y x ((0 : Nat) + Int.toNat (↑(AA.i x) : Int))))))))) (0 : Int) (Int.toNat (↑(Int.toNat (↑(AA.frm x) : Int)) : Int)) false (Int.toNat (↑(Int.toNat (↑(AA.i x) : Int)) : Int)) false (0 : Nat) (0 : Nat) false (0 : Nat)))
                                (T.chk (decide ((0 : Int) ≤ (↑(Int.toNat (↑(Int.toNat (↑(AA.i x) : Int)) : Int)) : Int)) && decide ((↑(Int.toNat (↑(Int.toNat (↑(AA.i x) : Int)) : Int)) : Int) < (↑(AA.len x) : Int)))
                                  (T.chk (decide ((0 : Nat) + Int.toNat (↑(Int.toNat (↑(Int.toNat (↑(AA.i x) : Int)) : Int)) : Int) < AA.cap x))
                                    (T.ret
                                      (Ex.norm,
                                        St.mk
                                          [((0 : Nat), AV.int IntKind.i64 (↑(Int.toNat (↑(Int.toNat (↑(AA.n x) : Int)) : Int)) : Int)), ((1 : Nat), AV.sl (0 : Nat) (0 : Nat) (2 : Nat) (0 : Nat) (AA.len x) (AA.cap x)), ((5 : Nat), AV.ptr (1 : Nat) (0 : Nat) (0 : Nat) (0 : Nat)),
                                            ((6 : Nat), AV.int IntKind.i64 (colY (f1R (colZ (f1R (AA.z x) (AA.y x) (AA.cap x))) (colY (f1R (AA.z x) (AA.y x) (AA.cap x))) (AA.cap x)) ((0 : Nat) + Int.toNat (↑(Int.toNat (↑(Int.toNat (↑(AA.i x) : Int)) : Int)) : Int)))), ((7 : Nat), AV.int IntKind.i64 (IntKind.wrap IntKind.i64 ((↑(Int.toNat (↑(Int.toNat (↑(AA.i x) : Int)) : Int)) : Int) + (1 : Int)))),
                                            ((8 : Nat), AV.tt), ((9 : Nat), AV.int IntKind.i64 (IntKind.wrap IntKind.i64 ((↑(Int.toNat (↑(Int.toNat (↑(AA.i x) : Int)) : Int)) : Int) + (1 : Int))))]
                                          [some (Blk.mk false [] (2 : Nat) (AA.cap x) (fun r => [AV.int IntKind.i64 (colZ (f1R (colZ (f1R (AA.z x) (AA.y x) (AA.cap x))) (colY (f1R (AA.z x) (AA.y x) (AA.cap x))) (AA.cap x)) r), AV.int IntKind.i64 (colY (f1R (colZ (f1R (AA.z x) (AA.y x) (AA.cap x))) (colY (f1R (AA.z x) (AA.y x) (AA.cap x))) (AA.cap x)) r)]) []),
                                            some
                                              (Blk.mk true [AV.int IntKind.i64 (intA (List.getD [AV.int IntKind.i64 (intA (List.getD (renL (out [(1 : Nat)] (List.length (aaM x))) [AV.int IntKind.i64 (AL.n (bar (stA (alB (AA.s x))) (AA.z x ((0 : Nat) + Int.toNat (↑(AA.i x) : Int))) (AA.y x ((0 : Nat) + Int.toNat (↑(AA.i x) : Int)))))]) (0 : Nat) AV.ff))] (0 : Nat) AV.ff))] (1 : Nat) (96 : Nat)
                                                (fun j => [AV.bool (boolA (List.getD [AV.bool (boolA (List.getD (renL (out [(1 : Nat)] (List.length (aaM x))) [AV.bool (AL.B (bar (stA (alB (AA.s x))) (AA.z x ((0 : Nat) + Int.toNat (↑(AA.i x) : Int))) (AA.y x ((0 : Nat) + Int.toNat (↑(AA.i x) : Int)))) j)]) (0 : Nat) AV.ff))] (0 : Nat) AV.ff))])
                                                [AV.int IntKind.i64
                                                    (intA
                                                      (List.getD
                                                        [AV.int IntKind.i64
                                                            (intA
                                                              (List.getD
                                                                (renL (out [(1 : Nat)] (List.length (aaM x)))
                                                                  [AV.int IntKind.i64 (AL.c (bar (stA (alB (AA.s x))) (AA.z x ((0 : Nat) + Int.toNat (↑(AA.i x) : Int))) (AA.y x ((0 : Nat) + Int.toNat (↑(AA.i x) : Int))))), AV.int IntKind.i64 (AL.w (bar (stA (alB (AA.s x))) (AA.z x ((0 : Nat) + Int.toNat (↑(AA.i x) : Int))) (AA.y x ((0 : Nat) + Int.toNat (↑(AA.i x) : Int))))),
                                                                    AV.int IntKind.i64 (AL.l (bar (stA (alB (AA.s x))) (AA.z x ((0 : Nat) + Int.toNat (↑(AA.i x) : Int))) (AA.y x ((0 : Nat) + Int.toNat (↑(AA.i x) : Int))))), AV.bool (AL.d (bar (stA (alB (AA.s x))) (AA.z x ((0 : Nat) + Int.toNat (↑(AA.i x) : Int))) (AA.y x ((0 : Nat) + Int.toNat (↑(AA.i x) : Int)))))])
                                                                (0 : Nat) AV.ff)),
                                                          AV.int IntKind.i64
                                                            (intA
                                                              (List.getD
                                                                (renL (out [(1 : Nat)] (List.length (aaM x)))
                                                                  [AV.int IntKind.i64 (AL.c (bar (stA (alB (AA.s x))) (AA.z x ((0 : Nat) + Int.toNat (↑(AA.i x) : Int))) (AA.y x ((0 : Nat) + Int.toNat (↑(AA.i x) : Int))))), AV.int IntKind.i64 (AL.w (bar (stA (alB (AA.s x))) (AA.z x ((0 : Nat) + Int.toNat (↑(AA.i x) : Int))) (AA.y x ((0 : Nat) + Int.toNat (↑(AA.i x) : Int))))),
                                                                    AV.int IntKind.i64 (AL.l (bar (stA (alB (AA.s x))) (AA.z x ((0 : Nat) + Int.toNat (↑(AA.i x) : Int))) (AA.y x ((0 : Nat) + Int.toNat (↑(AA.i x) : Int))))), AV.bool (AL.d (bar (stA (alB (AA.s x))) (AA.z x ((0 : Nat) + Int.toNat (↑(AA.i x) : Int))) (AA.y x ((0 : Nat) + Int.toNat (↑(AA.i x) : Int)))))])
                                                                (1 : Nat) AV.ff)),
                                                          AV.int IntKind.i64
                                                            (intA
                                                              (List.getD
                                                                (renL (out [(1 : Nat)] (List.length (aaM x)))
                                                                  [AV.int IntKind.i64 (AL.c (bar (stA (alB (AA.s x))) (AA.z x ((0 : Nat) + Int.toNat (↑(AA.i x) : Int))) (AA.y x ((0 : Nat) + Int.toNat (↑(AA.i x) : Int))))), AV.int IntKind.i64 (AL.w (bar (stA (alB (AA.s x))) (AA.z x ((0 : Nat) + Int.toNat (↑(AA.i x) : Int))) (AA.y x ((0 : Nat) + Int.toNat (↑(AA.i x) : Int))))),
                                                                    AV.int IntKind.i64 (AL.l (bar (stA (alB (AA.s x))) (AA.z x ((0 : Nat) + Int.toNat (↑(AA.i x) : Int))) (AA.y x ((0 : Nat) + Int.toNat (↑(AA.i x) : Int))))), AV.bool (AL.d (bar (stA (alB (AA.s x))) (AA.z x ((0 : Nat) + Int.toNat (↑(AA.i x) : Int))) (AA.y x ((0 : Nat) + Int.toNat (↑(AA.i x) : Int)))))])
                                                                (2 : Nat) AV.ff)),
                                                          AV.bool
                                                            (boolA
                                                              (List.getD
                                                                (renL (out [(1 : Nat)] (List.length (aaM x)))
                                                                  [AV.int IntKind.i64 (AL.c (bar (stA (alB (AA.s x))) (AA.z x ((0 : Nat) + Int.toNat (↑(AA.i x) : Int))) (AA.y x ((0 : Nat) + Int.toNat (↑(AA.i x) : Int))))), AV.int IntKind.i64 (AL.w (bar (stA (alB (AA.s x))) (AA.z x ((0 : Nat) + Int.toNat (↑(AA.i x) : Int))) (AA.y x ((0 : Nat) + Int.toNat (↑(AA.i x) : Int))))),
                                                                    AV.int IntKind.i64 (AL.l (bar (stA (alB (AA.s x))) (AA.z x ((0 : Nat) + Int.toNat (↑(AA.i x) : Int))) (AA.y x ((0 : Nat) + Int.toNat (↑(AA.i x) : Int))))), AV.bool (AL.d (bar (stA (alB (AA.s x))) (AA.z x ((0 : Nat) + Int.toNat (↑(AA.i x) : Int))) (AA.y x ((0 : Nat) + Int.toNat (↑(AA.i x) : Int)))))])
                                                                (3 : Nat) AV.ff))]
                                                        (0 : Nat) AV.ff)),
                                                  AV.int IntKind.i64
                                                    (intA
                                                      (List.getD
                                                        [AV.int IntKind.i64
                                                            (intA
                                                              (List.getD
                                                                (renL (out [(1 : Nat)] (List.length (aaM x)))
                                                                  [AV.int IntKind.i64 (AL.c (bar (stA (alB (AA.s x))) (AA.z x ((0 : Nat) + Int.toNat (↑(AA.i x) : Int))) (AA.y x ((0 : Nat) + Int.toNat (↑(AA.i x) : Int))))), AV.int IntKind.i64 (AL.w (bar (stA (alB (AA.s x))) (AA.z x ((0 : Nat) + Int.toNat (↑(AA.i x) : Int))) (AA.y x ((0 : Nat) + Int.toNat (↑(AA.i x) : Int))))),
                                                                    AV.int IntKind.i64 (AL.l (bar (stA (alB (AA.s x))) (AA.z x ((0 : Nat) + Int.toNat (↑(AA.i x) : Int))) (AA.y x ((0 : Nat) + Int.toNat (↑(AA.i x) : Int))))), AV.bool (AL.d (bar (stA (alB (AA.s x))) (AA.z x ((0 : Nat) + Int.toNat (↑(AA.i x) : Int))) (AA.y x ((0 : Nat) + Int.toNat (↑(AA.i x) : Int)))))])
                                                                (0 : Nat) AV.ff)),
                                                          AV.int IntKind.i64
                                                            (intA
                                                              (List.getD
                                                                (renL (out [(1 : Nat)] (List.length (aaM x)))
                                                                  [AV.int IntKind.i64 (AL.c (bar (stA (alB (AA.s x))) (AA.z x ((0 : Nat) + Int.toNat (↑(AA.i x) : Int))) (AA.y x ((0 : Nat) + Int.toNat (↑(AA.i x) : Int))))), AV.int IntKind.i64 (AL.w (bar (stA (alB (AA.s x))) (AA.z x ((0 : Nat) + Int.toNat (↑(AA.i x) : Int))) (AA.y x ((0 : Nat) + Int.toNat (↑(AA.i x) : Int))))),
                                                                    AV.int IntKind.i64 (AL.l (bar (stA (alB (AA.s x))) (AA.z x ((0 : Nat) + Int.toNat (↑(AA.i x) : Int))) (AA.y x ((0 : Nat) + Int.toNat (↑(AA.i x) : Int))))), AV.bool (AL.d (bar (stA (alB (AA.s x))) (AA.z x ((0 : Nat) + Int.toNat (↑(AA.i x) : Int))) (AA.y x ((0 : Nat) + Int.toNat (↑(AA.i x) : Int)))))])
                                                                (1 : Nat) AV.ff)),
                                                          AV.int IntKind.i64
                                                            (intA
                                                              (List.getD
                                                                (renL (out [(1 : Nat)] (List.length (aaM x)))
                                                                  [AV.int IntKind.i64 (AL.c (bar (stA (alB (AA.s x))) (AA.z x ((0 : Nat) + Int.toNat (↑(AA.i x) : Int))) (AA.y x ((0 : Nat) + Int.toNat (↑(AA.i x) : Int))))), AV.int IntKind.i64 (AL.w (bar (stA (alB (AA.s x))) (AA.z x ((0 : Nat) + Int.toNat (↑(AA.i x) : Int))) (AA.y x ((0 : Nat) + Int.toNat (↑(AA.i x) : Int))))),
                                                                    AV.int IntKind.i64 (AL.l (bar (stA (alB (AA.s x))) (AA.z x ((0 : Nat) + Int.toNat (↑(AA.i x) : Int))) (AA.y x ((0 : Nat) + Int.toNat (↑(AA.i x) : Int))))), AV.bool (AL.d (bar (stA (alB (AA.s x))) (AA.z x ((0 : Nat) + Int.toNat (↑(AA.i x) : Int))) (AA.y x ((0 : Nat) + Int.toNat (↑(AA.i x) : Int)))))])
                                                                (2 : Nat) AV.ff)),
                                                          AV.bool
                                                            (boolA
                                                              (List.getD
                                                                (renL (out [(1 : Nat)] (List.length (aaM x)))
                                                                  [AV.int IntKind.i64 (AL.c (bar (stA (alB (AA.s x))) (AA.z x ((0 : Nat) + Int.toNat (↑(AA.i x) : Int))) (AA.y x ((0 : Nat) + Int.toNat (↑(AA.i x) : Int))))), AV.int IntKind.i64 (AL.w (bar (stA (alB (AA.s x))) (AA.z x ((0 : Nat) + Int.toNat (↑(AA.i x) : Int))) (AA.y x ((0 : Nat) + Int.toNat (↑(AA.i x) : Int))))),
                                                                    AV.int IntKind.i64 (AL.l (bar (stA (alB (AA.s x))) (AA.z x ((0 : Nat) + Int.toNat (↑(AA.i x) : Int))) (AA.y x ((0 : Nat) + Int.toNat (↑(AA.i x) : Int))))), AV.bool (AL.d (bar (stA (alB (AA.s x))) (AA.z x ((0 : Nat) + Int.toNat (↑(AA.i x) : Int))) (AA.y x ((0 : Nat) + Int.toNat (↑(AA.i x) : Int)))))])
                                                                (3 : Nat) AV.ff))]
                                                        (1 : Nat) AV.ff)),
                                                  AV.int IntKind.i64
                                                    (intA
                                                      (List.getD
                                                        [AV.int IntKind.i64
                                                            (intA
                                                              (List.getD
                                                                (renL (out [(1 : Nat)] (List.length (aaM x)))
                                                                  [AV.int IntKind.i64 (AL.c (bar (stA (alB (AA.s x))) (AA.z x ((0 : Nat) + Int.toNat (↑(AA.i x) : Int))) (AA.y x ((0 : Nat) + Int.toNat (↑(AA.i x) : Int))))), AV.int IntKind.i64 (AL.w (bar (stA (alB (AA.s x))) (AA.z x ((0 : Nat) + Int.toNat (↑(AA.i x) : Int))) (AA.y x ((0 : Nat) + Int.toNat (↑(AA.i x) : Int))))),
                                                                    AV.int IntKind.i64 (AL.l (bar (stA (alB (AA.s x))) (AA.z x ((0 : Nat) + Int.toNat (↑(AA.i x) : Int))) (AA.y x ((0 : Nat) + Int.toNat (↑(AA.i x) : Int))))), AV.bool (AL.d (bar (stA (alB (AA.s x))) (AA.z x ((0 : Nat) + Int.toNat (↑(AA.i x) : Int))) (AA.y x ((0 : Nat) + Int.toNat (↑(AA.i x) : Int)))))])
                                                                (0 : Nat) AV.ff)),
                                                          AV.int IntKind.i64
                                                            (intA
                                                              (List.getD
                                                                (renL (out [(1 : Nat)] (List.length (aaM x)))
                                                                  [AV.int IntKind.i64 (AL.c (bar (stA (alB (AA.s x))) (AA.z x ((0 : Nat) + Int.toNat (↑(AA.i x) : Int))) (AA.y x ((0 : Nat) + Int.toNat (↑(AA.i x) : Int))))), AV.int IntKind.i64 (AL.w (bar (stA (alB (AA.s x))) (AA.z x ((0 : Nat) + Int.toNat (↑(AA.i x) : Int))) (AA.y x ((0 : Nat) + Int.toNat (↑(AA.i x) : Int))))),
                                                                    AV.int IntKind.i64 (AL.l (bar (stA (alB (AA.s x))) (AA.z x ((0 : Nat) + Int.toNat (↑(AA.i x) : Int))) (AA.y x ((0 : Nat) + Int.toNat (↑(AA.i x) : Int))))), AV.bool (AL.d (bar (stA (alB (AA.s x))) (AA.z x ((0 : Nat) + Int.toNat (↑(AA.i x) : Int))) (AA.y x ((0 : Nat) + Int.toNat (↑(AA.i x) : Int)))))])
                                                                (1 : Nat) AV.ff)),
                                                          AV.int IntKind.i64
                                                            (intA
                                                              (List.getD
                                                                (renL (out [(1 : Nat)] (List.length (aaM x)))
                                                                  [AV.int IntKind.i64 (AL.c (bar (stA (alB (AA.s x))) (AA.z x ((0 : Nat) + Int.toNat (↑(AA.i x) : Int))) (AA.y x ((0 : Nat) + Int.toNat (↑(AA.i x) : Int))))), AV.int IntKind.i64 (AL.w (bar (stA (alB (AA.s x))) (AA.z x ((0 : Nat) + Int.toNat (↑(AA.i x) : Int))) (AA.y x ((0 : Nat) + Int.toNat (↑(AA.i x) : Int))))),
                                                                    AV.int IntKind.i64 (AL.l (bar (stA (alB (AA.s x))) (AA.z x ((0 : Nat) + Int.toNat (↑(AA.i x) : Int))) (AA.y x ((0 : Nat) + Int.toNat (↑(AA.i x) : Int))))), AV.bool (AL.d (bar (stA (alB (AA.s x))) (AA.z x ((0 : Nat) + Int.toNat (↑(AA.i x) : Int))) (AA.y x ((0 : Nat) + Int.toNat (↑(AA.i x) : Int)))))])
                                                                (2 : Nat) AV.ff)),
                                                          AV.bool
                                                            (boolA
                                                              (List.getD
                                                                (renL (out [(1 : Nat)] (List.length (aaM x)))
                                                                  [AV.int IntKind.i64 (AL.c (bar (stA (alB (AA.s x))) (AA.z x ((0 : Nat) + Int.toNat (↑(AA.i x) : Int))) (AA.y x ((0 : Nat) + Int.toNat (↑(AA.i x) : Int))))), AV.int IntKind.i64 (AL.w (bar (stA (alB (AA.s x))) (AA.z x ((0 : Nat) + Int.toNat (↑(AA.i x) : Int))) (AA.y x ((0 : Nat) + Int.toNat (↑(AA.i x) : Int))))),
                                                                    AV.int IntKind.i64 (AL.l (bar (stA (alB (AA.s x))) (AA.z x ((0 : Nat) + Int.toNat (↑(AA.i x) : Int))) (AA.y x ((0 : Nat) + Int.toNat (↑(AA.i x) : Int))))), AV.bool (AL.d (bar (stA (alB (AA.s x))) (AA.z x ((0 : Nat) + Int.toNat (↑(AA.i x) : Int))) (AA.y x ((0 : Nat) + Int.toNat (↑(AA.i x) : Int)))))])
                                                                (3 : Nat) AV.ff))]
                                                        (2 : Nat) AV.ff)),
                                                  AV.bool
                                                    (boolA
                                                      (List.getD
                                                        [AV.int IntKind.i64
                                                            (intA
                                                              (List.getD
                                                                (renL (out [(1 : Nat)] (List.length (aaM x)))
                                                                  [AV.int IntKind.i64 (AL.c (bar (stA (alB (AA.s x))) (AA.z x ((0 : Nat) + Int.toNat (↑(AA.i x) : Int))) (AA.y x ((0 : Nat) + Int.toNat (↑(AA.i x) : Int))))), AV.int IntKind.i64 (AL.w (bar (stA (alB (AA.s x))) (AA.z x ((0 : Nat) + Int.toNat (↑(AA.i x) : Int))) (AA.y x ((0 : Nat) + Int.toNat (↑(AA.i x) : Int))))),
                                                                    AV.int IntKind.i64 (AL.l (bar (stA (alB (AA.s x))) (AA.z x ((0 : Nat) + Int.toNat (↑(AA.i x) : Int))) (AA.y x ((0 : Nat) + Int.toNat (↑(AA.i x) : Int))))), AV.bool (AL.d (bar (stA (alB (AA.s x))) (AA.z x ((0 : Nat) + Int.toNat (↑(AA.i x) : Int))) (AA.y x ((0 : Nat) + Int.toNat (↑(AA.i x) : Int)))))])
                                                                (0 : Nat) AV.ff)),
                                                          AV.int IntKind.i64
                                                            (intA
                                                              (List.getD
                                                                (renL (out [(1 : Nat)] (List.length (aaM x)))
                                                                  [AV.int IntKind.i64 (AL.c (bar (stA (alB (AA.s x))) (AA.z x ((0 : Nat) + Int.toNat (↑(AA.i x) : Int))) (AA.y x ((0 : Nat) + Int.toNat (↑(AA.i x) : Int))))), AV.int IntKind.i64 (AL.w (bar (stA (alB (AA.s x))) (AA.z x ((0 : Nat) + Int.toNat (↑(AA.i x) : Int))) (AA.y x ((0 : Nat) + Int.toNat (↑(AA.i x) : Int))))),
                                                                    AV.int IntKind.i64 (AL.l (bar (stA (alB (AA.s x))) (AA.z x ((0 : Nat) + Int.toNat (↑(AA.i x) : Int))) (AA.y x ((0 : Nat) + Int.toNat (↑(AA.i x) : Int))))), AV.bool (AL.d (bar (stA (alB (AA.s x))) (AA.z x ((0 : Nat) + Int.toNat (↑(AA.i x) : Int))) (AA.y x ((0 : Nat) + Int.toNat (↑(AA.i x) : Int)))))])
                                                                (1 : Nat) AV.ff)),
                                                          AV.int IntKind.i64
                                                            (intA
                                                              (List.getD
                                                                (renL (out [(1 : Nat)] (List.length (aaM x)))
                                                                  [AV.int IntKind.i64 (AL.c (bar (stA (alB (AA.s x))) (AA.z x ((0 : Nat) + Int.toNat (↑(AA.i x) : Int))) (AA.y x ((0 : Nat) + Int.toNat (↑(AA.i x) : Int))))), AV.int IntKind.i64 (AL.w (bar (stA (alB (AA.s x))) (AA.z x ((0 : Nat) + Int.toNat (↑(AA.i x) : Int))) (AA.y x ((0 : Nat) + Int.toNat (↑(AA.i x) : Int))))),
                                                                    AV.int IntKind.i64 (AL.l (bar (stA (alB (AA.s x))) (AA.z x ((0 : Nat) + Int.toNat (↑(AA.i x) : Int))) (AA.y x ((0 : Nat) + Int.toNat (↑(AA.i x) : Int))))), AV.bool (AL.d (bar (stA (alB (AA.s x))) (AA.z x ((0 : Nat) + Int.toNat (↑(AA.i x) : Int))) (AA.y x ((0 : Nat) + Int.toNat (↑(AA.i x) : Int)))))])
                                                                (2 : Nat) AV.ff)),
                                                          AV.bool
                                                            (boolA
                                                              (List.getD
                                                                (renL (out [(1 : Nat)] (List.length (aaM x)))
                                                                  [AV.int IntKind.i64 (AL.c (bar (stA (alB (AA.s x))) (AA.z x ((0 : Nat) + Int.toNat (↑(AA.i x) : Int))) (AA.y x ((0 : Nat) + Int.toNat (↑(AA.i x) : Int))))), AV.int IntKind.i64 (AL.w (bar (stA (alB (AA.s x))) (AA.z x ((0 : Nat) + Int.toNat (↑(AA.i x) : Int))) (AA.y x ((0 : Nat) + Int.toNat (↑(AA.i x) : Int))))),
                                                                    AV.int IntKind.i64 (AL.l (bar (stA (alB (AA.s x))) (AA.z x ((0 : Nat) + Int.toNat (↑(AA.i x) : Int))) (AA.y x ((0 : Nat) + Int.toNat (↑(AA.i x) : Int))))), AV.bool (AL.d (bar (stA (alB (AA.s x))) (AA.z x ((0 : Nat) + Int.toNat (↑(AA.i x) : Int))) (AA.y x ((0 : Nat) + Int.toNat (↑(AA.i x) : Int)))))])
                                                                (3 : Nat) AV.ff))]
                                                        (3 : Nat) AV.ff))])])))))))))))))))))
      (T.ret
        (Ex.exit (0 : Nat),
          St.mk [((0 : Nat), AV.int IntKind.i64 (↑(AA.n x) : Int)), ((1 : Nat), AV.sl (0 : Nat) (0 : Nat) (2 : Nat) (0 : Nat) (AA.len x) (AA.cap x)), ((5 : Nat), AV.ptr (1 : Nat) (0 : Nat) (0 : Nat) (0 : Nat)), ((6 : Nat), AV.int IntKind.i64 (AA.last x)), ((7 : Nat), AV.int IntKind.i64 (↑(AA.frm x) : Int)), ((8 : Nat), AV.bool (AA.any x)), ((9 : Nat), AV.int IntKind.i64 (↑(AA.i x) : Int))]
            [some (Blk.mk false [] (2 : Nat) (AA.cap x) (fun r => [AV.int IntKind.i64 (AA.z x r), AV.int IntKind.i64 (AA.y x r)]) []), some (Blk.mk true [AV.int IntKind.i64 (AL.n (AA.s x))] (1 : Nat) (96 : Nat) (fun j => [AV.bool (AL.B (AA.s x) j)]) [AV.int IntKind.i64 (AL.c (AA.s x)), AV.int IntKind.i64 (AL.w (AA.s x)), AV.int IntKind.i64 (AL.l (AA.s x)), AV.bool (AL.d (AA.s x))])])))
    (T.ret
      (Ex.exit (0 : Nat),
        St.mk [((0 : Nat), AV.int IntKind.i64 (↑(AA.n x) : Int)), ((1 : Nat), AV.sl (0 : Nat) (0 : Nat) (2 : Nat) (0 : Nat) (AA.len x) (AA.cap x)), ((5 : Nat), AV.ptr (1 : Nat) (0 : Nat) (0 : Nat) (0 : Nat)), ((6 : Nat), AV.int IntKind.i64 (AA.last x)), ((7 : Nat), AV.int IntKind.i64 (↑(AA.frm x) : Int)), ((8 : Nat), AV.bool (AA.any x)), ((9 : Nat), AV.int IntKind.i64 (↑(AA.i x) : Int))]
          [some (Blk.mk false [] (2 : Nat) (AA.cap x) (fun r => [AV.int IntKind.i64 (AA.z x r), AV.int IntKind.i64 (AA.y x r)]) []), some (Blk.mk true [AV.int IntKind.i64 (AL.n (AA.s x))] (1 : Nat) (96 : Nat) (fun j => [AV.bool (AL.B (AA.s x) j)]) [AV.int IntKind.i64 (AL.c (AA.s x)), AV.int IntKind.i64 (AL.w (AA.s x)), AV.int IntKind.i64 (AL.l (AA.s x)), AV.bool (AL.d (AA.s x))])])) := by
  kernel_rfl

theorem aa_fnE (n : Int) (z y : Nat → Int) (len cap : Nat) : afn Try.prog aaE Try.f4 (codeOf Try.f4) [.int .i64 n, .sl 0 0 2 0 len cap] [some (f1R z y cap)] = 
  T.chk true
    (T.need
      (∃ ρ,
        SubSt (1 : Nat) ρ
          (St.mk
            [((0 : Nat), AV.int IntKind.i64 (IntKind.wrap IntKind.i64 ((1 : Int) + if (64 : Int) < (1 : Int) then (0 : Int) else n % (64 : Int)))), ((1 : Nat), AV.sl (0 : Nat) (0 : Nat) (2 : Nat) (0 : Nat) len cap), ((5 : Nat), AV.ptr (1 : Nat) (0 : Nat) (0 : Nat) (0 : Nat)), ((6 : Nat), AV.int IntKind.i64 (0 : Int)), ((7 : Nat), AV.int IntKind.i64 (0 : Int)), ((8 : Nat), AV.ff),
              ((9 : Nat), AV.int IntKind.i64 (0 : Int))]
            [some (Blk.mk false [] (2 : Nat) cap (fun r => [AV.int IntKind.i64 (z r), AV.int IntKind.i64 (y r)]) []),
              some (Blk.mk true [AV.int IntKind.i64 (clampA (IntKind.wrap IntKind.i64 ((1 : Int) + if (64 : Int) < (1 : Int) then (0 : Int) else n % (64 : Int))))] (1 : Nat) (96 : Nat) (fun j => [AV.bool false]) [AV.int IntKind.i64 (0 : Int), AV.int IntKind.i64 (0 : Int), AV.int IntKind.i64 (0 : Int), AV.bool false])])
          (aaA
            (AA.mk (Int.toNat (IntKind.wrap IntKind.i64 ((1 : Int) + if (64 : Int) < (1 : Int) then (0 : Int) else n % (64 : Int)))) (colZ (f1R z y cap)) (colY (f1R z y cap)) len cap (stA (renB (out [] (List.length [some (f1R z y cap)])) (alB (newA (IntKind.wrap IntKind.i64 ((1 : Int) + if (64 : Int) < (1 : Int) then (0 : Int) else n % (64 : Int))))))) (0 : Int) (0 : Nat) false (0 : Nat) false
              (0 : Nat) (0 : Nat) false (0 : Nat))))
      (T.need
        (aaIA
          (AA.mk (Int.toNat (IntKind.wrap IntKind.i64 ((1 : Int) + if (64 : Int) < (1 : Int) then (0 : Int) else n % (64 : Int)))) (colZ (f1R z y cap)) (colY (f1R z y cap)) len cap (stA (renB (out [] (List.length [some (f1R z y cap)])) (alB (newA (IntKind.wrap IntKind.i64 ((1 : Int) + if (64 : Int) < (1 : Int) then (0 : Int) else n % (64 : Int))))))) (0 : Int) (0 : Nat) false (0 : Nat) false
            (0 : Nat) (0 : Nat) false (0 : Nat)))
        (T.ret (AV.bool true, [none])))) := by
  kernel_rfl

theorem aa_fnN (n : Int) : afn Try.prog aaN Try.f4 (codeOf Try.f4) [.int .i64 n, .nils] [] = 
  T.chk true
    (T.ite false (T.ite true T.fail (T.ret (AV.bool true, [some (Blk.mk true [AV.int IntKind.i64 (clampA (IntKind.wrap IntKind.i64 ((1 : Int) + if (64 : Int) < (1 : Int) then (0 : Int) else n % (64 : Int))))] (1 : Nat) (96 : Nat) (fun j => [AV.bool false]) [AV.int IntKind.i64 (0 : Int), AV.int IntKind.i64 (0 : Int), AV.int IntKind.i64 (0 : Int), AV.bool false])])))
      (T.ret (AV.bool true, [some (Blk.mk true [AV.int IntKind.i64 (clampA (IntKind.wrap IntKind.i64 ((1 : Int) + if (64 : Int) < (1 : Int) then (0 : Int) else n % (64 : Int))))] (1 : Nat) (96 : Nat) (fun j => [AV.bool false]) [AV.int IntKind.i64 (0 : Int), AV.int IntKind.i64 (0 : Int), AV.int IntKind.i64 (0 : Int), AV.bool false])]))) := by
  kernel_rfl

end Go.Proofs.Ythbdkhlpojngeaa
