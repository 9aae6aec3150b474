/-
  Layer 1: the document's division and common divisor.
-/
import Derived.Test.YtlebekeplkkciaaHC
namespace Go.Proofs.Ytlebekeplkkciaa
open Go.Ox
set_option maxRecDepth 100000
set_option linter.unusedVariables false
set_option linter.unusedSimpArgs false

structure DI where
  a : Int
  b : Int
  c : Int
  d : Int
  k : Nat
def diQ (x : DI) : Int := W x.a x.b / 2 ^ x.k / W x.c x.d
def diR (x : DI) : Int := W x.a x.b / 2 ^ x.k % W x.c x.d
def diM (a b c d p q r s : Int) : AM := [some (wB a b), some (wB c d), some (wB 0 0), some (wB 0 0), some (wB p q), some (wB r s)]
def diS0 (a b c d j p q r s : Int) : St := ⟨[(2, .ptr 0 0 0 0), (3, .ptr 1 0 0 0), (4, .ptr 2 0 0 0), (5, .ptr 3 0 0 0), (6, .ptr 4 0 0 0), (7, .ptr 5 0 0 0), (8, .int .i64 j)], diM a b c d p q r s⟩
def diSt (x : DI) : St := diS0 x.a x.b x.c x.d ((x.k : Int) - 1) (hi (diQ x)) (lo (diQ x)) (hi (diR x)) (lo (diR x))
def diInv (x : DI) : Prop := x.k ≤ 128 ∧ u64B x.a = true ∧ u64B x.b = true ∧ u64B x.c = true ∧ u64B x.d = true ∧ 0 < W x.c x.d ∧ W x.c x.d ≤ 170141183460469231731687303715884105728
def wOf (b : Blk) : Int × Int :=
  match b.pre with
  | [.int _ h, .int _ l] => (h, l)
  | _ => (0, 0)
def diPick (st : St) : Option DI :=
  match AM.get st.m 0, AM.get st.m 1 with
  | some b0, some b1 => some ⟨(wOf b0).1, (wOf b0).2, (wOf b1).1, (wOf b1).2, 128⟩
  | _, _ => none
def diEnd (x : DI) : T (Ex × St) := .ret (.exit 0, ⟨[(4, .ptr 2 0 0 0), (5, .ptr 3 0 0 0), (6, .ptr 4 0 0 0), (7, .ptr 5 0 0 0)], diM x.a x.b x.c x.d (hi (W x.a x.b / W x.c x.d)) (lo (W x.a x.b / W x.c x.d)) (hi (W x.a x.b % W x.c x.d)) (lo (W x.a x.b % W x.c x.d))⟩)
noncomputable def diE : Env := { nt := Try.f45.ntmps, n0 := 0, fns := [(41, .pure fun args _ => rplusS args), (51, .pure fun args _ => minusS args), (43, .pure fun args _ => lessS args), (50, .pure fun args _ => bitS args)], loop := fun k => if k = 4 then loopSumm 0 diSt diInv diPick diEnd else fun _ => .fail }

theorem di_tree (a b c d j p q r s : Int) : keepT [2, 3, 4, 5, 6, 7, 8] (acode Try.prog diE (loopAt (codeOf Try.f45) 0) (diS0 a b c d j p q r s)) = 
  T.ite (decide (j ≥ (0 : Int)))
    (T.chk (u64B p && u64B q && (u64B p && u64B q))
      (T.chk (u64B r && u64B s && (u64B r && u64B s))
        (T.chk (u64B a && u64B b && (decide ((0 : Int) ≤ j) && decide (j < (128 : Int))))
          (T.chk (u64B (hi (W r s + W r s)) && u64B (lo (W r s + W r s)) && (u64B (0 : Int) && u64B (W a b / (2 : Int) ^ Int.toNat j % (2 : Int))))
            (T.chk (u64B (lo (W (hi (W r s + W r s)) (lo (W r s + W r s)) + W (0 : Int) (W a b / (2 : Int) ^ Int.toNat j % (2 : Int)))) && u64B d)
              (T.ite (!decide (W (hi (W (hi (W r s + W r s)) (lo (W r s + W r s)) + W (0 : Int) (W a b / (2 : Int) ^ Int.toNat j % (2 : Int)))) (lo (W (hi (W r s + W r s)) (lo (W r s + W r s)) + W (0 : Int) (W a b / (2 : Int) ^ Int.toNat j % (2 : Int)))) < W c d))
                (T.chk (u64B (hi (W (hi (W r s + W r s)) (lo (W r s + W r s)) + W (0 : Int) (W a b / (2 : Int) ^ Int.toNat j % (2 : Int)))) && u64B (lo (W (hi (W r s + W r s)) (lo (W r s + W r s)) + W (0 : Int) (W a b / (2 : Int) ^ Int.toNat j % (2 : Int)))) && (u64B c && u64B d))
                  (T.ret
                    (Ex.norm,
                      St.mk
                        [((2 : Nat), AV.ptr (0 : Nat) (0 : Nat) (0 : Nat) (0 : Nat)), ((3 : Nat), AV.ptr (1 : Nat) (0 : Nat) (0 : Nat) (0 : Nat)), ((4 : Nat), AV.ptr (2 : Nat) (0 : Nat) (0 : Nat) (0 : Nat)), ((5 : Nat), AV.ptr (3 : Nat) (0 : Nat) (0 : Nat) (0 : Nat)), ((6 : Nat), AV.ptr (4 : Nat) (0 : Nat) (0 : Nat) (0 : Nat)), ((7 : Nat), AV.ptr (5 : Nat) (0 : Nat) (0 : Nat) (0 : Nat)),
                          ((8 : Nat), AV.int IntKind.i64 (IntKind.wrap IntKind.i64 (j - (1 : Int))))]
                        [some (Blk.mk true [AV.int IntKind.u64 a, AV.int IntKind.u64 b] (0 : Nat) (0 : Nat) (fun x => []) []), some (Blk.mk true [AV.int IntKind.u64 c, AV.int IntKind.u64 d] (0 : Nat) (0 : Nat) (fun x => []) []), some (Blk.mk true [AV.int IntKind.u64 (0 : Int), AV.int IntKind.u64 (0 : Int)] (0 : Nat) (0 : Nat) (fun x => []) []),
                          some (Blk.mk true [AV.int IntKind.u64 (0 : Int), AV.int IntKind.u64 (0 : Int)] (0 : Nat) (0 : Nat) (fun x => []) []), some (Blk.mk true [AV.int IntKind.u64 (hi (W p q + W p q)), AV.int IntKind.u64 (IntKind.wrap IntKind.u64 (lo (W p q + W p q) + (1 : Int)))] (0 : Nat) (0 : Nat) (fun a => []) []),
                          some
                            (Blk.mk true
                              [AV.int IntKind.u64 (hi (W (hi (W (hi (W r s + W r s)) (lo (W r s + W r s)) + W (0 : Int) (W a b / (2 : Int) ^ Int.toNat j % (2 : Int)))) (lo (W (hi (W r s + W r s)) (lo (W r s + W r s)) + W (0 : Int) (W a b / (2 : Int) ^ Int.toNat j % (2 : Int)))) - W c d)),
                                AV.int IntKind.u64 (lo (W (hi (W (hi (W r s + W r s)) (lo (W r s + W r s)) + W (0 : Int) (W a b / (2 : Int) ^ Int.toNat j % (2 : Int)))) (lo (W (hi (W r s + W r s)) (lo (W r s + W r s)) + W (0 : Int) (W a b / (2 : Int) ^ Int.toNat j % (2 : Int)))) - W c d))]
                              (0 : Nat) (0 : Nat) (fun a => []) [])])))
                (T.ret
                  (Ex.norm,
                    St.mk
                      [((2 : Nat), AV.ptr (0 : Nat) (0 : Nat) (0 : Nat) (0 : Nat)), ((3 : Nat), AV.ptr (1 : Nat) (0 : Nat) (0 : Nat) (0 : Nat)), ((4 : Nat), AV.ptr (2 : Nat) (0 : Nat) (0 : Nat) (0 : Nat)), ((5 : Nat), AV.ptr (3 : Nat) (0 : Nat) (0 : Nat) (0 : Nat)), ((6 : Nat), AV.ptr (4 : Nat) (0 : Nat) (0 : Nat) (0 : Nat)), ((7 : Nat), AV.ptr (5 : Nat) (0 : Nat) (0 : Nat) (0 : Nat)),
                        ((8 : Nat), AV.int IntKind.i64 (IntKind.wrap IntKind.i64 (j - (1 : Int))))]
                      [some (Blk.mk true [AV.int IntKind.u64 a, AV.int IntKind.u64 b] (0 : Nat) (0 : Nat) (fun x => []) []), some (Blk.mk true [AV.int IntKind.u64 c, AV.int IntKind.u64 d] (0 : Nat) (0 : Nat) (fun x => []) []), some (Blk.mk true [AV.int IntKind.u64 (0 : Int), AV.int IntKind.u64 (0 : Int)] (0 : Nat) (0 : Nat) (fun x => []) []),
                        some (Blk.mk true [AV.int IntKind.u64 (0 : Int), AV.int IntKind.u64 (0 : Int)] (0 : Nat) (0 : Nat) (fun x => []) []), some (Blk.mk true [AV.int IntKind.u64 (hi (W p q + W p q)), AV.int IntKind.u64 (lo (W p q + W p q))] (0 : Nat) (0 : Nat) (fun a => []) []),
                        some (Blk.mk true [AV.int IntKind.u64 (hi (W (hi (W r s + W r s)) (lo (W r s + W r s)) + W (0 : Int) (W a b / (2 : Int) ^ Int.toNat j % (2 : Int)))), AV.int IntKind.u64 (lo (W (hi (W r s + W r s)) (lo (W r s + W r s)) + W (0 : Int) (W a b / (2 : Int) ^ Int.toNat j % (2 : Int))))] (0 : Nat) (0 : Nat) (fun a => []) [])]))))))))
    (T.ret
      (Ex.exit (0 : Nat),
        St.mk
          [((2 : Nat), AV.ptr (0 : Nat) (0 : Nat) (0 : Nat) (0 : Nat)), ((3 : Nat), AV.ptr (1 : Nat) (0 : Nat) (0 : Nat) (0 : Nat)), ((4 : Nat), AV.ptr (2 : Nat) (0 : Nat) (0 : Nat) (0 : Nat)), ((5 : Nat), AV.ptr (3 : Nat) (0 : Nat) (0 : Nat) (0 : Nat)), ((6 : Nat), AV.ptr (4 : Nat) (0 : Nat) (0 : Nat) (0 : Nat)), ((7 : Nat), AV.ptr (5 : Nat) (0 : Nat) (0 : Nat) (0 : Nat)),
            ((8 : Nat), AV.int IntKind.i64 j)]
          [some (Blk.mk true [AV.int IntKind.u64 a, AV.int IntKind.u64 b] (0 : Nat) (0 : Nat) (fun x => []) []), some (Blk.mk true [AV.int IntKind.u64 c, AV.int IntKind.u64 d] (0 : Nat) (0 : Nat) (fun x => []) []), some (Blk.mk true [AV.int IntKind.u64 (0 : Int), AV.int IntKind.u64 (0 : Int)] (0 : Nat) (0 : Nat) (fun x => []) []),
            some (Blk.mk true [AV.int IntKind.u64 (0 : Int), AV.int IntKind.u64 (0 : Int)] (0 : Nat) (0 : Nat) (fun x => []) []), some (Blk.mk true [AV.int IntKind.u64 p, AV.int IntKind.u64 q] (0 : Nat) (0 : Nat) (fun x => []) []), some (Blk.mk true [AV.int IntKind.u64 r, AV.int IntKind.u64 s] (0 : Nat) (0 : Nat) (fun x => []) [])])) := by
  kernel_rfl

theorem di_fn (a b c d : Int) : vfn Try.prog diE Try.f45 (codeOf Try.f45) [.agg [.int .u64 a, .int .u64 b], .agg [.int .u64 c, .int .u64 d]] = 
  T.need
    (∃ ρ,
      SubSt (0 : Nat) ρ
        (St.mk
          [((2 : Nat), AV.ptr (0 : Nat) (0 : Nat) (0 : Nat) (0 : Nat)), ((3 : Nat), AV.ptr (1 : Nat) (0 : Nat) (0 : Nat) (0 : Nat)), ((4 : Nat), AV.ptr (2 : Nat) (0 : Nat) (0 : Nat) (0 : Nat)), ((5 : Nat), AV.ptr (3 : Nat) (0 : Nat) (0 : Nat) (0 : Nat)), ((6 : Nat), AV.ptr (4 : Nat) (0 : Nat) (0 : Nat) (0 : Nat)), ((7 : Nat), AV.ptr (5 : Nat) (0 : Nat) (0 : Nat) (0 : Nat)),
            ((8 : Nat), AV.int IntKind.i64 (127 : Int))]
          [some (Blk.mk true [AV.int IntKind.u64 a, AV.int IntKind.u64 b] (0 : Nat) (0 : Nat) (fun x => []) []), some (Blk.mk true [AV.int IntKind.u64 c, AV.int IntKind.u64 d] (0 : Nat) (0 : Nat) (fun x => []) []), some (Blk.mk true [AV.int IntKind.u64 (0 : Int), AV.int IntKind.u64 (0 : Int)] (0 : Nat) (0 : Nat) (fun x => []) []),
            some (Blk.mk true [AV.int IntKind.u64 (0 : Int), AV.int IntKind.u64 (0 : Int)] (0 : Nat) (0 : Nat) (fun x => []) []), some (Blk.mk true [AV.int IntKind.u64 (0 : Int), AV.int IntKind.u64 (0 : Int)] (0 : Nat) (0 : Nat) (fun a => []) []), some (Blk.mk true [AV.int IntKind.u64 (0 : Int), AV.int IntKind.u64 (0 : Int)] (0 : Nat) (0 : Nat) (fun a => []) [])])
        (diSt (DI.mk a b c d (128 : Nat))))
    (T.need (diInv (DI.mk a b c d (128 : Nat)))
      (T.need (AV.agg [AV.int IntKind.u64 (hi (W a b % W c d)), AV.int IntKind.u64 (lo (W a b % W c d))] = AV.agg [AV.int IntKind.u64 (hi (W a b % W c d)), AV.int IntKind.u64 (lo (W a b % W c d))]) (T.ret (AV.tup [AV.agg [AV.int IntKind.u64 (hi (W a b / W c d)), AV.int IntKind.u64 (lo (W a b / W c d))], AV.agg [AV.int IntKind.u64 (hi (W a b % W c d)), AV.int IntKind.u64 (lo (W a b % W c d))]])))) := by
  kernel_rfl

def divS : List AV → T AV
  | [.agg [.int .u64 a, .int .u64 b], .agg [.int .u64 c, .int .u64 d]] => .chk (((u64B a && u64B b) && (u64B c && u64B d)) && (decide (0 < W c d) && decide (W c d ≤ 170141183460469231731687303715884105728)))
      (.ret (.tup [.agg [.int .u64 (hi (W a b / W c d)), .int .u64 (lo (W a b / W c d))], .agg [.int .u64 (hi (W a b % W c d)), .int .u64 (lo (W a b % W c d))]]))
  | _ => .fail

def comS : List AV → T AV
  | [.agg [.int .u64 a, .int .u64 b], .agg [.int .u64 c, .int .u64 d]] => .chk (((u64B a && u64B b) && (u64B c && u64B d)) && decide (W c d ≤ 170141183460469231731687303715884105728))
      (.ret (.agg [.int .u64 (hi (Nat.gcd (W a b).toNat (W c d).toNat : Nat)), .int .u64 (lo (Nat.gcd (W a b).toNat (W c d).toNat : Nat))]))
  | _ => .fail

structure CO where
  x : Nat
  y : Nat
  i : Nat
def coS0 (a b c d j : Int) : St := ⟨[(2, .ptr 0 0 0 0), (3, .ptr 1 0 0 0), (4, .ptr 2 0 0 0), (5, .int .i64 j)], [some (wB a b), some (wB c d), some (wB 0 0)]⟩
def coSt (x : CO) : St := coS0 (hi x.x) (lo x.x) (hi x.y) (lo x.y) x.i
def coInv (x : CO) : Prop := x.i ≤ 257 ∧ x.x < 340282366920938463463374607431768211456 ∧ x.y ≤ 170141183460469231731687303715884105728 ∧ (x.i = 0 ∨ (x.y < x.x ∧ x.x * x.y * 2 ^ x.i ≤ 2 ^ 256))
def coPick (st : St) : Option CO :=
  match AM.get st.m 0, AM.get st.m 1 with
  | some b0, some b1 => some ⟨(W (wOf b0).1 (wOf b0).2).toNat, (W (wOf b1).1 (wOf b1).2).toNat, 0⟩
  | _, _ => none
def coEnd (x : CO) : T (Ex × St) := .ret (.ret, ⟨[(4, .ptr 2 0 0 0)], [none, none, some (wB (hi (Nat.gcd x.x x.y : Nat)) (lo (Nat.gcd x.x x.y : Nat)))]⟩)
noncomputable def coE : Env := { nt := Try.f34.ntmps, n0 := 0, fns := [(45, .pure fun args _ => divS args)], loop := fun k => if k = 2 then loopSumm 0 coSt coInv coPick coEnd else fun _ => .fail }

theorem co_tree (a b c d j : Int) : keepT [2, 3, 4, 5] (acode Try.prog coE (loopAt (codeOf Try.f34) 0) (coS0 a b c d j)) = 
  T.ite (decide (j < (300 : Int)))
    (T.ite (c == (0 : Int) && (d == (0 : Int) && true))
      (T.ret
        (Ex.ret,
          St.mk [((2 : Nat), AV.ptr (0 : Nat) (0 : Nat) (0 : Nat) (0 : Nat)), ((3 : Nat), AV.ptr (1 : Nat) (0 : Nat) (0 : Nat) (0 : Nat)), ((4 : Nat), AV.ptr (2 : Nat) (0 : Nat) (0 : Nat) (0 : Nat)), ((5 : Nat), AV.int IntKind.i64 j)]
            [some (Blk.mk true [AV.int IntKind.u64 a, AV.int IntKind.u64 b] (0 : Nat) (0 : Nat) (fun x => []) []), some (Blk.mk true [AV.int IntKind.u64 c, AV.int IntKind.u64 d] (0 : Nat) (0 : Nat) (fun x => []) []), some (Blk.mk true [AV.int IntKind.u64 a, AV.int IntKind.u64 b] (0 : Nat) (0 : Nat) (fun a => []) [])]))
      (T.chk (u64B a && u64B b && (u64B c && u64B d) && (decide ((0 : Int) < W c d) && decide (W c d ≤ (170141183460469231731687303715884105728 : Int))))
        (T.ret
          (Ex.norm,
            St.mk [((2 : Nat), AV.ptr (0 : Nat) (0 : Nat) (0 : Nat) (0 : Nat)), ((3 : Nat), AV.ptr (1 : Nat) (0 : Nat) (0 : Nat) (0 : Nat)), ((4 : Nat), AV.ptr (2 : Nat) (0 : Nat) (0 : Nat) (0 : Nat)), ((5 : Nat), AV.int IntKind.i64 (IntKind.wrap IntKind.i64 (j + (1 : Int))))]
              [some (Blk.mk true [AV.int IntKind.u64 c, AV.int IntKind.u64 d] (0 : Nat) (0 : Nat) (fun a => []) []), some (Blk.mk true [AV.int IntKind.u64 (hi (W a b % W c d)), AV.int IntKind.u64 (lo (W a b % W c d))] (0 : Nat) (0 : Nat) (fun a => []) []), some (Blk.mk true [AV.int IntKind.u64 (0 : Int), AV.int IntKind.u64 (0 : Int)] (0 : Nat) (0 : Nat) (fun x => []) []),
                some (Blk.mk true [AV.int IntKind.u64 (hi (W a b / W c d)), AV.int IntKind.u64 (lo (W a b / W c d))] (0 : Nat) (0 : Nat) (fun a => []) []), some (Blk.mk true [AV.int IntKind.u64 (hi (W a b % W c d)), AV.int IntKind.u64 (lo (W a b % W c d))] (0 : Nat) (0 : Nat) (fun a => []) [])]))))
    (T.ret
      (Ex.exit (0 : Nat),
        St.mk [((2 : Nat), AV.ptr (0 : Nat) (0 : Nat) (0 : Nat) (0 : Nat)), ((3 : Nat), AV.ptr (1 : Nat) (0 : Nat) (0 : Nat) (0 : Nat)), ((4 : Nat), AV.ptr (2 : Nat) (0 : Nat) (0 : Nat) (0 : Nat)), ((5 : Nat), AV.int IntKind.i64 j)]
          [some (Blk.mk true [AV.int IntKind.u64 a, AV.int IntKind.u64 b] (0 : Nat) (0 : Nat) (fun x => []) []), some (Blk.mk true [AV.int IntKind.u64 c, AV.int IntKind.u64 d] (0 : Nat) (0 : Nat) (fun x => []) []), some (Blk.mk true [AV.int IntKind.u64 (0 : Int), AV.int IntKind.u64 (0 : Int)] (0 : Nat) (0 : Nat) (fun x => []) [])])) := by
  kernel_rfl

theorem co_fn (a b c d : Int) : vfn Try.prog coE Try.f34 (codeOf Try.f34) [.agg [.int .u64 a, .int .u64 b], .agg [.int .u64 c, .int .u64 d]] = 
  T.need
    (∃ ρ,
      SubSt (0 : Nat) ρ
        (St.mk [((2 : Nat), AV.ptr (0 : Nat) (0 : Nat) (0 : Nat) (0 : Nat)), ((3 : Nat), AV.ptr (1 : Nat) (0 : Nat) (0 : Nat) (0 : Nat)), ((4 : Nat), AV.ptr (2 : Nat) (0 : Nat) (0 : Nat) (0 : Nat)), ((5 : Nat), AV.int IntKind.i64 (0 : Int))]
          [some (Blk.mk true [AV.int IntKind.u64 a, AV.int IntKind.u64 b] (0 : Nat) (0 : Nat) (fun x => []) []), some (Blk.mk true [AV.int IntKind.u64 c, AV.int IntKind.u64 d] (0 : Nat) (0 : Nat) (fun x => []) []), some (Blk.mk true [AV.int IntKind.u64 (0 : Int), AV.int IntKind.u64 (0 : Int)] (0 : Nat) (0 : Nat) (fun x => []) [])])
        (coSt (CO.mk (Int.toNat (W a b)) (Int.toNat (W c d)) (0 : Nat))))
    (T.need (coInv (CO.mk (Int.toNat (W a b)) (Int.toNat (W c d)) (0 : Nat))) (T.ret (AV.agg [AV.int IntKind.u64 (hi (↑(Nat.gcd (Int.toNat (W a b)) (Int.toNat (W c d))) : Int)), AV.int IntKind.u64 (lo (↑(Nat.gcd (Int.toNat (W a b)) (Int.toNat (W c d))) : Int))]))) := by
  kernel_rfl

theorem div_step {P B t : Int} (hB : 0 < B) (ht : 0 ≤ t ∧ t ≤ 1) :
    (2 * (P % B) + t < B → (2 * P + t) / B = 2 * (P / B) ∧ (2 * P + t) % B = 2 * (P % B) + t) ∧
    (¬ 2 * (P % B) + t < B → (2 * P + t) / B = 2 * (P / B) + 1 ∧ (2 * P + t) % B = 2 * (P % B) + t - B) := by
  have h1 := Int.emod_add_mul_ediv P B
  have h2 := Int.emod_nonneg P (Int.ne_of_gt hB)
  have h3 := Int.emod_lt_of_pos P hB
  have e1 : B * (2 * (P / B)) = 2 * (B * (P / B)) := by rw [← Int.mul_assoc, Int.mul_comm B 2, Int.mul_assoc]
  have e2 : B * (2 * (P / B) + 1) = 2 * (B * (P / B)) + B := by rw [Int.mul_add, e1, Int.mul_one]
  constructor
  · intro h
    exact (Int.ediv_emod_unique hB).2 ⟨by rw [e1]; omega, by omega, h⟩
  · intro h
    exact (Int.ediv_emod_unique hB).2 ⟨by rw [e2]; omega, by omega, by omega⟩

theorem di_sub {n : Nat} {a b c d p q r s p' q' r' s' : Int} {m : AM} {F G : Nat → List AV} (h0 : m.get 0 = some (wB a b)) (h1 : m.get 1 = some (wB c d)) (h2 : m.get 2 = some (wB 0 0)) (h3 : m.get 3 = some (wB 0 0)) (h4 : m.get 4 = some ⟨true, [.int .u64 p, .int .u64 q], 0, 0, F, []⟩) (h5 : m.get 5 = some ⟨true, [.int .u64 r, .int .u64 s], 0, 0, G, []⟩)
    (e1 : p = p') (e2 : q = q') (e3 : r = r') (e4 : s = s') (hn : n ≤ 6) : Sub n id m (diM a b c d p' q' r' s') :=
  Sub.ofId ⟨⟨_, h0, w_blk rfl rfl⟩, ⟨_, h1, w_blk rfl rfl⟩, ⟨_, h2, w_blk rfl rfl⟩, ⟨_, h3, w_blk rfl rfl⟩, ⟨_, h4, w_blk e1 e2⟩, ⟨_, h5, w_blk e3 e4⟩, trivial⟩ hn

theorem di_loop : LoopOK Try.prog diE (loopAt (codeOf Try.f45) 0) := by
  refine loopSumm_ok (E := diE) (EnvOK.cons rplus_ok (EnvOK.cons minus_ok (EnvOK.cons less_ok (EnvOK.cons bit_ok EnvOK.nil)))) (noLoops (by kernel_rfl)) diSt diInv (fun x => x.k) diPick diEnd ?_ (by kernel_rfl)
  rintro ⟨a, b, c, d, k⟩ ⟨h1, h2, h3, h4, h5, h6, h7⟩ Q hq
  dsimp only at h1 h2 h3 h4 h5 h6 h7
  refine round_keep [2, 3, 4, 5, 6, 7, 8] ?_
  show ((keepT [2, 3, 4, 5, 6, 7, 8] (acode Try.prog diE (loopAt (codeOf Try.f45) 0) (diS0 a b c d ((k : Int) - 1) (hi (diQ ⟨a, b, c, d, k⟩)) (lo (diQ ⟨a, b, c, d, k⟩)) (hi (diR ⟨a, b, c, d, k⟩)) (lo (diR ⟨a, b, c, d, k⟩)))))).holds _
  rw [di_tree]
  obtain ⟨hA0, hA1⟩ := W_lt h2 h3
  cases k with
  | zero =>
    have e1 : diQ ⟨a, b, c, d, 0⟩ = W a b / W c d := by unfold diQ; show W a b / 1 / W c d = _; rw [Int.ediv_one]
    have e2 : diR ⟨a, b, c, d, 0⟩ = W a b % W c d := by unfold diR; show W a b / 1 % W c d = _; rw [Int.ediv_one]
    rw [e1, e2]
    refine T.hiteP (fun h => absurd h (by omega)) (fun _ => ?_)
    refine Round.out id ⟨[(4, .ptr 2 0 0 0), (5, .ptr 3 0 0 0), (6, .ptr 4 0 0 0), (7, .ptr 5 0 0 0)], diM a b c d (hi (W a b / W c d)) (lo (W a b / W c d)) (hi (W a b % W c d)) (lo (W a b % W c d))⟩ (SubSt.mk ?_ (di_sub rfl rfl rfl rfl rfl rfl rfl rfl rfl rfl (Nat.zero_le _))) hq
    simp [SubFr, slotAt, ren, below, diM]
  | succ n =>
    have ej : ((n + 1 : Nat) : Int) - 1 = (n : Int) := by omega
    have ei : IntKind.wrap .i64 ((n : Int) - 1) = (n : Int) - 1 := IntWalk.i64_in _ (by omega)
    have hQn : diQ ⟨a, b, c, d, n + 1⟩ = W a b / 2 ^ (n + 1) / W c d := rfl
    have hRn : diR ⟨a, b, c, d, n + 1⟩ = W a b / 2 ^ (n + 1) % W c d := rfl
    have hP0 : 0 ≤ W a b / 2 ^ (n + 1) := Int.ediv_nonneg hA0 (Int.le_of_lt (two_pos _))
    have hdh := div_half (W a b) n
    have ht : 0 ≤ W a b / 2 ^ n % 2 ∧ W a b / 2 ^ n % 2 ≤ 1 := by omega
    obtain ⟨s1, s2⟩ := div_step (P := W a b / 2 ^ (n + 1)) h6 ht
    rw [← hdh, ← hQn, ← hRn] at s1 s2
    have hQ' : diQ ⟨a, b, c, d, n⟩ = W a b / 2 ^ n / W c d := rfl
    have hR' : diR ⟨a, b, c, d, n⟩ = W a b / 2 ^ n % W c d := rfl
    rw [← hQ', ← hR'] at s1 s2
    have hr0 : 0 ≤ diR ⟨a, b, c, d, n + 1⟩ := Int.emod_nonneg _ (Int.ne_of_gt h6)
    have hr1 : diR ⟨a, b, c, d, n + 1⟩ < W c d := Int.emod_lt_of_pos _ h6
    have hq0 : 0 ≤ diQ ⟨a, b, c, d, n + 1⟩ := Int.ediv_nonneg hP0 (Int.le_of_lt h6)
    have hq1 : diQ ⟨a, b, c, d, n + 1⟩ ≤ W a b / 2 ^ (n + 1) := Int.ediv_le_self _ hP0
    have hPle : W a b / 2 ^ (n + 1) ≤ W a b := Int.ediv_le_self _ hA0
    generalize diR ⟨a, b, c, d, n + 1⟩ = r at *
    generalize diQ ⟨a, b, c, d, n + 1⟩ = q at *
    generalize htt : W a b / 2 ^ n % 2 = t at *
    have w1 : W (hi q) (lo q) = q := W_hilo hq0 (by omega)
    have w2 : W (hi r) (lo r) = r := W_hilo hr0 (by omega)
    have w3 : W (hi (r + r)) (lo (r + r)) = r + r := W_hilo (by omega) (by omega)
    have w4 : W (hi (r + r + t)) (lo (r + r + t)) = r + r + t := W_hilo (by omega) (by omega)
    rw [ej]
    simp only [ei, Int.toNat_natCast, htt, w1, w2, w3, w4, W_zero]
    have ut : u64B t = true := by rw [u64_iff]; omega
    have u0 : u64B 0 = true := by decide
    refine T.hiteP (fun _ => T.hchk (by simp only [u64_hi, u64_lo, Bool.and_self]) (T.hchk (by simp only [u64_hi, u64_lo, Bool.and_self]) (T.hchk (by simp only [h2, h3, Bool.true_and, Bool.and_eq_true, decide_eq_true_eq]; omega) (T.hchk (by simp only [u64_hi, u64_lo, ut, u0, Bool.and_self]) (T.hchk (by simp only [u64_lo, h5, Bool.and_self]) (T.hiteFP (fun hc => ?_) (fun hc => ?_))))))) (fun h => absurd (by omega) h)
    · obtain ⟨e1, e2⟩ := s2 (by omega)
      refine T.hchk (by simp only [u64_hi, u64_lo, h4, h5, Bool.and_self]) (Round.go ⟨a, b, c, d, n⟩ id ⟨by dsimp only; omega, h2, h3, h4, h5, h6, h7⟩ (Nat.lt_succ_self n) (SubSt.mk ?_ (di_sub rfl rfl rfl rfl rfl rfl ?_ ?_ ?_ ?_ (Nat.zero_le _))) hq)
      · simp [diSt, diS0, SubFr, slotAt, ren, below, diM]
      · rw [e1]; unfold hi; omega
      · rw [e1, IntKind.wrap_u64]; unfold lo; omega
      · rw [e2]; congr 1; omega
      · rw [e2]; congr 1; omega
    · obtain ⟨e1, e2⟩ := s1 (by omega)
      refine Round.go ⟨a, b, c, d, n⟩ id ⟨by dsimp only; omega, h2, h3, h4, h5, h6, h7⟩ (Nat.lt_succ_self n) (SubSt.mk ?_ (di_sub rfl rfl rfl rfl rfl rfl ?_ ?_ ?_ ?_ (Nat.zero_le _))) hq
      · simp [diSt, diS0, SubFr, slotAt, ren, below, diM]
      · rw [e1]; congr 1; omega
      · rw [e1]; congr 1; omega
      · rw [e2]; congr 1; omega
      · rw [e2]; congr 1; omega

theorem div_ok : SummOK Try.prog 45 (.pure fun args _ => divS args) := by
  refine val_fn (E := diE) (c := codeOf Try.f45) (fun args w => Try.call45 args w) Try.func45 rfl ((EnvOK.cons rplus_ok (EnvOK.cons minus_ok (EnvOK.cons less_ok (EnvOK.cons bit_ok EnvOK.nil))))) (oneLoop (by kernel_rfl) di_loop) rfl rfl ?_
  intro args Q hq
  unfold divS at hq ⊢
  split at hq
  · rename_i a b c d
    obtain ⟨hc, hq⟩ := hq
    refine ⟨rfl, _, rfl, fun Q h => h.2, ⟨hc, rfl⟩, ?_⟩
    simp only [Bool.and_eq_true, decide_eq_true_eq] at hc
    have h2 := hc.1.1.1
    have h3 := hc.1.1.2
    have h4 := hc.1.2.1
    have h5 := hc.1.2.2
    have h6 := hc.2.1
    have h7 := hc.2.2
    have hA0 := (W_lt h2 h3).1
    have hA1 := (W_lt h2 h3).2
    have hp : (2 : Int) ^ 128 = 340282366920938463463374607431768211456 := by decide
    have hz : W a b / 2 ^ 128 = 0 := by rw [hp]; omega
    have e1 : diQ ⟨a, b, c, d, 128⟩ = 0 := by unfold diQ; dsimp only; rw [hz]; exact Int.zero_ediv _
    have e2 : diR ⟨a, b, c, d, 128⟩ = 0 := by unfold diR; dsimp only; rw [hz]; exact Int.zero_emod _
    rw [di_fn]
    refine T.hneed ⟨id, SubSt.mk (by simp [diSt, diS0, SubFr, slotAt, ren, below, diM]) (di_sub rfl rfl rfl rfl rfl rfl (by rw [e1]; rfl) (by rw [e1]; rfl) (by rw [e2]; rfl) (by rw [e2]; rfl) (Nat.zero_le _))⟩ (T.hneed ⟨Nat.le_refl _, h2, h3, h4, h5, h6, h7⟩ (T.hneed rfl (T.hret (Ox.Alike_refl _))))
  · exact hq.elim

theorem co_sub {n : Nat} {a b c d a' b' c' d' : Int} {m : AM} {F G : Nat → List AV} (h0 : m.get 0 = some ⟨true, [.int .u64 a, .int .u64 b], 0, 0, F, []⟩) (h1 : m.get 1 = some ⟨true, [.int .u64 c, .int .u64 d], 0, 0, G, []⟩) (h2 : m.get 2 = some (wB 0 0))
    (e1 : a = a') (e2 : b = b') (e3 : c = c') (e4 : d = d') (hn : n ≤ 3) : Sub n id m [some (wB a' b'), some (wB c' d'), some (wB 0 0)] :=
  Sub.ofId ⟨⟨_, h0, w_blk e1 e2⟩, ⟨_, h1, w_blk e3 e4⟩, ⟨_, h2, w_blk rfl rfl⟩, trivial⟩ hn

theorem co_step {x y i : Nat} (hy : y ≠ 0) (hxy : y < x) (h : x * y * 2 ^ i ≤ 2 ^ 256) : y * (x % y) * 2 ^ (i + 1) ≤ 2 ^ 256 := by
  have h1 : x % y < y := Nat.mod_lt _ (by omega)
  have h2 := Nat.div_add_mod x y
  have h3 : 1 ≤ x / y := (Nat.one_le_div_iff (by omega)).2 (by omega)
  have h4 : y ≤ y * (x / y) := Nat.le_mul_of_pos_right y h3
  have h5 : 2 * (x % y) ≤ x := by omega
  refine Nat.le_trans ?_ h
  have e : y * (x % y) * 2 ^ (i + 1) = (2 * (x % y)) * (y * 2 ^ i) := by
    rw [Nat.pow_succ]
    ac_rfl
  rw [e, Nat.mul_assoc x y]
  exact Nat.mul_le_mul_right _ h5

theorem co_loop : LoopOK Try.prog coE (loopAt (codeOf Try.f34) 0) := by
  refine loopSumm_ok (E := coE) (EnvOK.cons div_ok EnvOK.nil) (noLoops (by kernel_rfl)) coSt coInv (fun x => 300 - x.i) coPick coEnd ?_ (by kernel_rfl)
  rintro ⟨x, y, i⟩ ⟨h1, h2, h3, h4⟩ Q hq
  dsimp only at h1 h2 h3 h4
  refine round_keep [2, 3, 4, 5] ?_
  show ((keepT [2, 3, 4, 5] (acode Try.prog coE (loopAt (codeOf Try.f34) 0) (coS0 (hi x) (lo x) (hi y) (lo y) i)))).holds _
  rw [co_tree]
  have w1 : W (hi (x : Int)) (lo (x : Int)) = x := W_hilo (by omega) (by omega)
  have w2 : W (hi (y : Int)) (lo (y : Int)) = y := W_hilo (by omega) (by omega)
  have ei : i ≤ 299 → IntKind.wrap .i64 ((i : Int) + 1) = ((i + 1 : Nat) : Int) := fun h => by rw [IntWalk.i64_in _ (by omega)]; omega
  simp only [w1, w2]
  refine T.hiteP (fun _ => T.hite (fun hz => ?_) (fun hz => ?_)) (fun hi => ?_)
  · have hy : y = 0 := by
      simp only [Bool.and_eq_true, beq_iff_eq, and_true] at hz
      have := w2
      rw [hz.1, hz.2, W_zero] at this
      omega
    subst hy
    refine Round.back id ⟨[(4, .ptr 2 0 0 0)], [none, none, some (wB (hi (Nat.gcd x 0 : Nat)) (lo (Nat.gcd x 0 : Nat)))]⟩ (SubSt.mk ?_ ?_) hq
    · simp [SubFr, slotAt, ren, below]
    · rw [Nat.gcd_zero_right]
      exact Sub.ofId (n0 := 0) ⟨⟨_, rfl, w_blk rfl rfl⟩, trivial⟩ (Nat.zero_le _)
  · have hy : y ≠ 0 := fun e => by subst e; revert hz; decide
    have hmy : x % y < y := Nat.mod_lt _ (by omega)
    have hem : (x : Int) % (y : Int) = ((x % y : Nat) : Int) := rfl
    have e1 : Nat.gcd y (x % y) = Nat.gcd x y := by rw [Nat.gcd_comm x y, Nat.gcd_rec y x, Nat.gcd_comm]
    have hi256 : i ≤ 256 := by
      rcases h4 with rfl | ⟨h4, h5⟩
      · omega
      · have h6 : 1 ≤ x * y := Nat.mul_pos (by omega) (by omega)
        have h7 : 1 * 2 ^ i ≤ x * y * 2 ^ i := Nat.mul_le_mul_right _ h6
        rw [Nat.one_mul] at h7
        exact (Nat.pow_le_pow_iff_right (by decide)).1 (Nat.le_trans h7 h5)
    refine T.hchk (by simp only [u64_hi, u64_lo, Bool.and_self, Bool.true_and, Bool.and_eq_true, decide_eq_true_eq]; omega) (Round.go ⟨y, x % y, i + 1⟩ id ⟨by dsimp only; omega, by dsimp only; omega, by dsimp only; omega, .inr ⟨hmy, ?_⟩⟩ (by dsimp only; omega) (SubSt.mk ?_ (co_sub rfl rfl rfl rfl rfl (by rw [hem]) (by rw [hem]) (Nat.zero_le _))) ?_)
    · rcases h4 with rfl | ⟨h4, h5⟩
      · dsimp only
        have : y * (x % y) ≤ 170141183460469231731687303715884105728 * 170141183460469231731687303715884105728 := Nat.mul_le_mul h3 (by omega)
        have e2 : (2 : Nat) ^ 256 = 170141183460469231731687303715884105728 * 170141183460469231731687303715884105728 * 4 := by decide
        rw [e2]
        omega
      · exact co_step hy h4 h5
    · simp [coSt, coS0, SubFr, slotAt, ren, below, ei (by omega)]
    · unfold coEnd at hq ⊢
      dsimp only at hq ⊢
      rw [e1]; exact hq
  · exact absurd (show (i : Int) < 300 by omega) hi

theorem common_ok : SummOK Try.prog 34 (.pure fun args _ => comS args) := by
  refine val_fn (E := coE) (c := codeOf Try.f34) (fun args w => Try.call34 args w) Try.func34 rfl ((EnvOK.cons div_ok EnvOK.nil)) (oneLoop (by kernel_rfl) co_loop) rfl rfl ?_
  intro args Q hq
  unfold comS at hq ⊢
  split at hq
  · rename_i a b c d
    obtain ⟨hc, hq⟩ := hq
    refine ⟨rfl, _, rfl, fun Q h => h.2, ⟨hc, rfl⟩, ?_⟩
    simp only [Bool.and_eq_true, decide_eq_true_eq] at hc
    obtain ⟨⟨⟨h2, h3⟩, h4, h5⟩, h7⟩ := hc
    have hA := W_lt h2 h3
    have hB := W_lt h4 h5
    have n1 : ((W a b).toNat : Int) = W a b := by omega
    have n2 : ((W c d).toNat : Int) = W c d := by omega
    rw [co_fn]
    refine T.hneed ⟨id, SubSt.mk (by simp [coSt, coS0, SubFr, slotAt, ren, below]) (co_sub rfl rfl rfl (by rw [n1, hi_W h2 h3]) (by rw [n1, lo_W h3]) (by rw [n2, hi_W h4 h5]) (by rw [n2, lo_W h5]) (Nat.zero_le _))⟩ (T.hneed ⟨Nat.zero_le _, by dsimp only; omega, by dsimp only; omega, .inl rfl⟩ (T.hret (Ox.Alike_refl _)))
  · exact hq.elim

end Go.Proofs.Ytlebekeplkkciaa
