/-
  Layer 19: the document's Align: New, Blocked.
-/
import Derived.Test.YthbdkhlpojngeaaHC
import Derived.Test.YthbdkhlpojngeaaHOxZ
namespace Go.Proofs.Ythbdkhlpojngeaa
open Go.Ox
set_option maxRecDepth 100000
set_option linter.unusedVariables false
set_option linter.unusedSimpArgs false

/-- What the document's Align holds, but the list. -/
structure RA where
  n : Int
  w : Bool
  d : Bool
  no : Int
  co : Int
def raB (s : RA) (L : AV) : Blk := ⟨true, [.int .i64 s.n, L, .bool s.w, .bool s.d, .int .i64 s.no, .int .i64 s.co], 0, 0, fun _ => [], [], none⟩
def raR (s : RA) (L : AV) : Blk := ⟨false, [.int .i64 s.n, L, .bool s.w, .bool s.d, .int .i64 s.no, .int .i64 s.co], 0, 0, fun _ => [], [], none⟩
def raL (b : Blk) : AV := b.pre.getD 1 .ff
def raOf (b : Blk) : RA := ⟨intA (b.pre.getD 0 .ff), boolA (b.pre.getD 2 .ff), boolA (b.pre.getD 3 .ff), intA (b.pre.getD 4 .ff), intA (b.pre.getD 5 .ff)⟩
def IsRa (b : Blk) : Prop := b.rw = true ∧ ∀ n ρ L, below n L → L.scalar = true → Ox.Alike (raL b) (ren ρ L) → BlkOK n ρ b (raB (raOf b) L)

theorem isRa {n no co : Int} {L W D : AV} {F : Nat → List AV} (hW : boolish W) (hD : boolish D) : IsRa ⟨true, [.int .i64 n, L, W, D, .int .i64 no, .int .i64 co], 0, 0, F, [], none⟩ := by
  refine ⟨rfl, fun N ρ L' h1 h2 h3 => ⟨fun h => h, ?_, rfl, rfl, fun j hj => absurd hj (Nat.not_lt_zero _), trivial, trivial⟩⟩
  have hW := boolish_alike (n := N) (ρ := ρ) hW
  have hD := boolish_alike (n := N) (ρ := ρ) hD
  have h3 : Ox.Alike L (ren ρ L') := h3
  simp only [LAlike, and_true] at hW hD
  simp [raB, raOf, intA, LAlike, ren, below, AV.scalar, h1, h2, h3] at hW hD ⊢
  exact ⟨h2, hW, hD⟩

/-- Is it one of k, from i on? -/
def hasN (f : Nat → Int) (x : Int) : Nat → Nat → Bool
  | 0, _ => false
  | k + 1, i => decide (f i = x) || hasN f x k (i + 1)

structure BQ where
  s : RA
  f : Nat → Int
  len : Nat
  cap : Nat
  x : Int
  i : Nat
def bqMem (x : BQ) : AM := [some (raR x.s (.sl 1 0 1 0 x.len x.cap)), some (Blk.rows false 1 x.cap fun j => [.int .i64 (x.f j)])]
def bqSt (x : BQ) : St := ⟨[(0, .ptr 0 0 0 0), (1, .int .i64 x.x), (5, .int .i64 x.i)], bqMem x⟩
def bqInv (x : BQ) : Prop := x.len ≤ x.cap ∧ x.len ≤ 4611686018427387904 ∧ x.i ≤ x.len
def bqPick (st : St) : Option BQ :=
  match slotAt st.fr 1, AM.get st.m 0, AM.get st.m 1 with
  | some (.int _ x), some b, some c => match b.pre.getD 1 .ff with
    | .sl _ _ _ _ len cap => some ⟨raOf b, intAt c, len, cap, x, 0⟩
    | _ => none
  | _, _, _ => none
def bqEnd (x : BQ) : T (Ex × St) := .ite (hasN x.f x.x (x.len - x.i) x.i) (.ret (.ret, ⟨[(4, .tt)], bqMem x⟩)) (.ret (.exit 0, ⟨[], bqMem x⟩))
noncomputable def bqE : Env := { nt := Try.f16.ntmps, n0 := 2, fns := [], loop := fun k => if k = 2 then loopSumm 2 bqSt bqInv bqPick bqEnd else fun _ => .fail }
noncomputable def bqZ0 : Env := { nt := Try.f16.ntmps, n0 := 1, fns := [], loop := fun _ _ => .fail }
noncomputable def bqZ : Env := { nt := Try.f16.ntmps, n0 := 1, fns := [], loop := fun k => if k = 2 then unrollN Try.prog bqZ0 (loopAt (codeOf Try.f16) 0) 1 else fun _ => .fail }

theorem bq_tree (s : RA) (f : Nat → Int) (len cap : Nat) (x : Int) (i : Nat) : keepT [0, 1, 4, 5] (acode Try.prog bqE (loopAt (codeOf Try.f16) 0) (bqSt ⟨s, f, len, cap, x, i⟩)) = 
  T.ite (decide ((↑i : Int) < (↑len : Int)))
    (T.chk (decide ((0 : Int) ≤ (↑i : Int)) && decide ((↑i : Int) < (↑len : Int)))
      (T.chk (decide ((0 : Nat) + Int.toNat (↑i : Int) < cap))
        (T.ite (f ((0 : Nat) + Int.toNat (↑i : Int)) == x)
          (T.ret
            (Ex.ret,
              St.mk [((0 : Nat), AV.ptr (0 : Nat) (0 : Nat) (0 : Nat) (0 : Nat)), ((1 : Nat), AV.int IntKind.i64 x), ((4 : Nat), AV.tt), ((5 : Nat), AV.int IntKind.i64 (↑i : Int))]
                [some (Blk.mk false [AV.int IntKind.i64 (RA.n s), AV.sl (1 : Nat) (0 : Nat) (1 : Nat) (0 : Nat) len cap, AV.bool (RA.w s), AV.bool (RA.d s), AV.int IntKind.i64 (RA.no s), AV.int IntKind.i64 (RA.co s)] (0 : Nat) (0 : Nat) (fun x => []) [] none), some (Blk.mk false [] (1 : Nat) cap (fun j => [AV.int IntKind.i64 (f j)]) [] none)]))
          (T.ret
            (Ex.norm,
              St.mk [((0 : Nat), AV.ptr (0 : Nat) (0 : Nat) (0 : Nat) (0 : Nat)), ((1 : Nat), AV.int IntKind.i64 x), ((5 : Nat), AV.int IntKind.i64 (IntKind.wrap IntKind.i64 ((↑i : Int) + (1 : Int))))]
                [some (Blk.mk false [AV.int IntKind.i64 (RA.n s), AV.sl (1 : Nat) (0 : Nat) (1 : Nat) (0 : Nat) len cap, AV.bool (RA.w s), AV.bool (RA.d s), AV.int IntKind.i64 (RA.no s), AV.int IntKind.i64 (RA.co s)] (0 : Nat) (0 : Nat) (fun x => []) [] none), some (Blk.mk false [] (1 : Nat) cap (fun j => [AV.int IntKind.i64 (f j)]) [] none)])))))
    (T.ret
      (Ex.exit (0 : Nat),
        St.mk [((0 : Nat), AV.ptr (0 : Nat) (0 : Nat) (0 : Nat) (0 : Nat)), ((1 : Nat), AV.int IntKind.i64 x), ((5 : Nat), AV.int IntKind.i64 (↑i : Int))]
          [some (Blk.mk false [AV.int IntKind.i64 (RA.n s), AV.sl (1 : Nat) (0 : Nat) (1 : Nat) (0 : Nat) len cap, AV.bool (RA.w s), AV.bool (RA.d s), AV.int IntKind.i64 (RA.no s), AV.int IntKind.i64 (RA.co s)] (0 : Nat) (0 : Nat) (fun x => []) [] none), some (Blk.mk false [] (1 : Nat) cap (fun j => [AV.int IntKind.i64 (f j)]) [] none)])) := by
  kernel_rfl

theorem bq_fn (s : RA) (f : Nat → Int) (len cap : Nat) (x : Int) : afn Try.prog bqE Try.f16 (codeOf Try.f16) [.ptr 0 0 0 0, .int .i64 x] (bqMem ⟨s, f, len, cap, x, 0⟩) = 
  T.need
    (∃ ρ,
      SubSt (2 : Nat) ρ
        (St.mk [((0 : Nat), AV.ptr (0 : Nat) (0 : Nat) (0 : Nat) (0 : Nat)), ((1 : Nat), AV.int IntKind.i64 x), ((5 : Nat), AV.int IntKind.i64 (0 : Int))]
          [some (Blk.mk false [AV.int IntKind.i64 (RA.n s), AV.sl (1 : Nat) (0 : Nat) (1 : Nat) (0 : Nat) len cap, AV.bool (RA.w s), AV.bool (RA.d s), AV.int IntKind.i64 (RA.no s), AV.int IntKind.i64 (RA.co s)] (0 : Nat) (0 : Nat) (fun x => []) [] none), some (Blk.mk false [] (1 : Nat) cap (fun j => [AV.int IntKind.i64 (f j)]) [] none)])
        (bqSt (BQ.mk (raOf (raR s (AV.sl (1 : Nat) (0 : Nat) (1 : Nat) (0 : Nat) len cap))) f len cap x (0 : Nat))))
    (T.need (bqInv (BQ.mk (raOf (raR s (AV.sl (1 : Nat) (0 : Nat) (1 : Nat) (0 : Nat) len cap))) f len cap x (0 : Nat)))
      (T.ite (hasN f x (len - (0 : Nat)) (0 : Nat))
        (T.ret
          (AV.tt,
            [some (Blk.mk false [AV.int IntKind.i64 (intA (AV.int IntKind.i64 (RA.n s))), AV.sl (1 : Nat) (0 : Nat) (1 : Nat) (0 : Nat) len cap, AV.bool (boolA (AV.bool (RA.w s))), AV.bool (boolA (AV.bool (RA.d s))), AV.int IntKind.i64 (intA (AV.int IntKind.i64 (RA.no s))), AV.int IntKind.i64 (intA (AV.int IntKind.i64 (RA.co s)))] (0 : Nat) (0 : Nat) (fun x => []) [] none),
              some (Blk.mk false [] (1 : Nat) cap (fun j => [AV.int IntKind.i64 (f j)]) [] none)]))
        (T.ret
          (AV.ff,
            [some (Blk.mk false [AV.int IntKind.i64 (intA (AV.int IntKind.i64 (RA.n s))), AV.sl (1 : Nat) (0 : Nat) (1 : Nat) (0 : Nat) len cap, AV.bool (boolA (AV.bool (RA.w s))), AV.bool (boolA (AV.bool (RA.d s))), AV.int IntKind.i64 (intA (AV.int IntKind.i64 (RA.no s))), AV.int IntKind.i64 (intA (AV.int IntKind.i64 (RA.co s)))] (0 : Nat) (0 : Nat) (fun x => []) [] none),
              some (Blk.mk false [] (1 : Nat) cap (fun j => [AV.int IntKind.i64 (f j)]) [] none)])))) := by
  kernel_rfl

theorem bq_fn0 (s : RA) (x : Int) : afn Try.prog bqZ Try.f16 (codeOf Try.f16) [.ptr 0 0 0 0, .int .i64 x] [some (raR s .nils)] = 
  T.ite false T.fail (T.ret (AV.ff, [some (Blk.mk false [AV.int IntKind.i64 (RA.n s), AV.nils, AV.bool (RA.w s), AV.bool (RA.d s), AV.int IntKind.i64 (RA.no s), AV.int IntKind.i64 (RA.co s)] (0 : Nat) (0 : Nat) (fun x => []) [] none)])) := by
  kernel_rfl

noncomputable def nrE : Env := { nt := Try.f12.ntmps, n0 := 0, fns := [], loop := fun _ _ => .fail }

theorem nr_fn (n : Int) : afn Try.prog nrE Try.f12 (codeOf Try.f12) [.int .i64 n] [] = 
  T.ret (AV.ptr (0 : Nat) (0 : Nat) (0 : Nat) (0 : Nat), [some (Blk.mk true [AV.int IntKind.i64 n, AV.nils, AV.ff, AV.ff, AV.int IntKind.i64 (0 : Int), AV.int IntKind.i64 (0 : Int)] (0 : Nat) (0 : Nat) (fun x => []) [] none)]) := by
  kernel_rfl

end Go.Proofs.Ythbdkhlpojngeaa
