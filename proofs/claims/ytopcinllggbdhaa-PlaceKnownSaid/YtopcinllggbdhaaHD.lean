/-
  PlaceKnown: the loops.
-/
import Derived.Test.YtopcinllggbdhaaHC
namespace Go.Proofs.Ytopcinllggbdhaa
open Go.Ox
set_option maxRecDepth 100000
set_option linter.unusedVariables false
set_option linter.unusedSimpArgs false

def pkM (g : Nat → Int) : AM := [some (Blk.rows true 1 12 fun j => [.int .i64 (g j)])]
def pk9 (x : (Nat → Int) × Nat × Nat × Nat) : St := ⟨[(1, .sl 0 0 1 0 12 12), (2, .int .i64 x.2.1), (3, .int .i64 x.2.2.1), (4, .int .i64 x.2.2.2)], pkM x.1⟩
def pk6 (x : (Nat → Int) × Nat × Nat) : St := ⟨[(1, .sl 0 0 1 0 12 12), (2, .int .i64 x.2.1), (3, .int .i64 x.2.2)], pkM x.1⟩
def pk3 (x : (Nat → Int) × Nat) : St := ⟨[(1, .sl 0 0 1 0 12 12), (2, .int .i64 x.2)], pkM x.1⟩
def pk0 (g : Nat → Int) : St := ⟨[(1, .sl 0 0 1 0 12 12)], pkM g⟩
def pkI9 (x : (Nat → Int) × Nat × Nat × Nat) : Prop := x.2.1 < 12 ∧ x.2.2.1 < 12 ∧ x.2.2.2 ≤ 12
def pkI6 (x : (Nat → Int) × Nat × Nat) : Prop := x.2.1 < 12 ∧ x.2.2 ≤ 12
def pkI3 (x : (Nat → Int) × Nat) : Prop := x.2 ≤ 12
def pkP9 (st : St) : Option ((Nat → Int) × Nat × Nat × Nat) :=
  match AM.get st.m 0, slotAt st.fr 2, slotAt st.fr 3 with
  | some b, some (.int _ i), some (.int _ k) => some (intAt b, i.toNat, k.toNat, 0)
  | _, _, _ => none
def pkP6 (st : St) : Option ((Nat → Int) × Nat × Nat) :=
  match AM.get st.m 0, slotAt st.fr 2 with
  | some b, some (.int _ i) => some (intAt b, i.toNat, 0)
  | _, _ => none
def pkP3 (st : St) : Option ((Nat → Int) × Nat) :=
  match AM.get st.m 0 with
  | some b => some (intAt b, 0)
  | _ => none

noncomputable def pkE (k : Nat) : Env := { nt := 127, n0 := 0, fns := [(6, .eff fun args m => lift [] m [] (placeK k args))], loop := fun _ _ => .fail }
noncomputable def pkL : Env :=
  { nt := 127, n0 := 0, fns := [(10, .pure fun args _ => knS args)],
    loop := fun k => if k = 9 then loopSumm 0 pk9 pkI9 pkP9 (fun x => .ret (.exit 4, pk6 (x.1, x.2.1, x.2.2.1)))
      else if k = 6 then loopSumm 0 pk6 pkI6 pkP6 (fun x => .ret (.exit 2, pk3 (x.1, x.2.1)))
      else if k = 3 then loopSumm 0 pk3 pkI3 pkP3 (fun x => .ret (.exit 0, pk0 x.1)) else fun _ => .fail }

theorem pk6_tree (g : Nat → Int) (i k : Nat) : keepT [1, 2, 3] (acode Try.prog pkL (loopAt (loopAt (codeOf Try.f5) 0) 0) (pk6 (g, i, k))) = 
  T.ite (decide ((↑k : Int) < (↑(12 : Nat) : Int)))
    (T.need
      (∃ ρ,
        SubSt (0 : Nat) ρ (St.mk [((1 : Nat), AV.sl (0 : Nat) (0 : Nat) (1 : Nat) (0 : Nat) (12 : Nat) (12 : Nat)), ((2 : Nat), AV.int IntKind.i64 (↑i : Int)), ((3 : Nat), AV.int IntKind.i64 (↑k : Int)), ((4 : Nat), AV.int IntKind.i64 (0 : Int))] [some (Blk.mk true [] (1 : Nat) (12 : Nat) (fun j => [AV.int IntKind.i64 (g j)]) [])]) (pk9 (g, Int.toNat (↑i : Int), Int.toNat (↑k : Int), (0 : Nat))))
      (T.need (pkI9 (g, Int.toNat (↑i : Int), Int.toNat (↑k : Int), (0 : Nat)))
        (T.ret (Ex.norm, St.mk [((1 : Nat), AV.sl (0 : Nat) (0 : Nat) (1 : Nat) (0 : Nat) (12 : Nat) (12 : Nat)), ((2 : Nat), AV.int IntKind.i64 (↑(Int.toNat (↑i : Int)) : Int)), ((3 : Nat), AV.int IntKind.i64 (IntKind.wrap IntKind.i64 ((↑(Int.toNat (↑k : Int)) : Int) + (1 : Int))))] [some (Blk.mk true [] (1 : Nat) (12 : Nat) (fun j => [AV.int IntKind.i64 (g j)]) [])]))))
    (T.ret (Ex.exit (2 : Nat), St.mk [((1 : Nat), AV.sl (0 : Nat) (0 : Nat) (1 : Nat) (0 : Nat) (12 : Nat) (12 : Nat)), ((2 : Nat), AV.int IntKind.i64 (↑i : Int)), ((3 : Nat), AV.int IntKind.i64 (↑k : Int))] [some (Blk.mk true [] (1 : Nat) (12 : Nat) (fun j => [AV.int IntKind.i64 (g j)]) [])])) := by
  kernel_rfl

theorem pk3_tree (g : Nat → Int) (i : Nat) : keepT [1, 2] (acode Try.prog pkL (loopAt (codeOf Try.f5) 0) (pk3 (g, i))) = 
  T.ite (decide ((↑i : Int) < (↑(12 : Nat) : Int)))
    (T.need (∃ ρ, SubSt (0 : Nat) ρ (St.mk [((1 : Nat), AV.sl (0 : Nat) (0 : Nat) (1 : Nat) (0 : Nat) (12 : Nat) (12 : Nat)), ((2 : Nat), AV.int IntKind.i64 (↑i : Int)), ((3 : Nat), AV.int IntKind.i64 (0 : Int))] [some (Blk.mk true [] (1 : Nat) (12 : Nat) (fun j => [AV.int IntKind.i64 (g j)]) [])]) (pk6 (g, Int.toNat (↑i : Int), (0 : Nat))))
      (T.need (pkI6 (g, Int.toNat (↑i : Int), (0 : Nat))) (T.ret (Ex.norm, St.mk [((1 : Nat), AV.sl (0 : Nat) (0 : Nat) (1 : Nat) (0 : Nat) (12 : Nat) (12 : Nat)), ((2 : Nat), AV.int IntKind.i64 (IntKind.wrap IntKind.i64 ((↑(Int.toNat (↑i : Int)) : Int) + (1 : Int))))] [some (Blk.mk true [] (1 : Nat) (12 : Nat) (fun j => [AV.int IntKind.i64 (g j)]) [])]))))
    (T.ret (Ex.exit (0 : Nat), St.mk [((1 : Nat), AV.sl (0 : Nat) (0 : Nat) (1 : Nat) (0 : Nat) (12 : Nat) (12 : Nat)), ((2 : Nat), AV.int IntKind.i64 (↑i : Int))] [some (Blk.mk true [] (1 : Nat) (12 : Nat) (fun j => [AV.int IntKind.i64 (g j)]) [])])) := by
  kernel_rfl

theorem pk_fn : afn Try.prog pkL Try.f5 (codeOf Try.f5) [] [] = 
  T.need
    (∃ ρ,
      SubSt (0 : Nat) ρ
        (St.mk [((1 : Nat), AV.sl (0 : Nat) (0 : Nat) (1 : Nat) (0 : Nat) (12 : Nat) (12 : Nat)), ((2 : Nat), AV.int IntKind.i64 (0 : Int))]
          [some (Blk.mk true [] (1 : Nat) (12 : Nat) (fun i => [AV.int IntKind.i64 (List.getD [(-9223372036854775808 : Int), (-1 : Int), (0 : Int), (1 : Int), (2 : Int), (8 : Int), (9 : Int), (16 : Int), (17 : Int), (128 : Int), (129 : Int), (9223372036854775807 : Int)] i (0 : Int))]) [])])
        (pk3 (fun j => List.getD [(-9223372036854775808 : Int), (-1 : Int), (0 : Int), (1 : Int), (2 : Int), (8 : Int), (9 : Int), (16 : Int), (17 : Int), (128 : Int), (129 : Int), (9223372036854775807 : Int)] j (0 : Int), (0 : Nat))))
    (T.need (pkI3 (fun j => List.getD [(-9223372036854775808 : Int), (-1 : Int), (0 : Int), (1 : Int), (2 : Int), (8 : Int), (9 : Int), (16 : Int), (17 : Int), (128 : Int), (129 : Int), (9223372036854775807 : Int)] j (0 : Int), (0 : Nat)))
      (T.ret (AV.bool true, [some (Blk.mk true [] (1 : Nat) (12 : Nat) (fun j => [AV.int IntKind.i64 (List.getD [(-9223372036854775808 : Int), (-1 : Int), (0 : Int), (1 : Int), (2 : Int), (8 : Int), (9 : Int), (16 : Int), (17 : Int), (128 : Int), (129 : Int), (9223372036854775807 : Int)] j (0 : Int))]) [])]))) := by
  kernel_rfl

end Go.Proofs.Ytopcinllggbdhaa
