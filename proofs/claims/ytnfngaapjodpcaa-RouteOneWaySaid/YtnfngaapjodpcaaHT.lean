/-
  Layer 20: Roots' follow: trees.
-/
import Derived.Test.YtnfngaapjodpcaaHS
namespace Go.Proofs.Ytnfngaapjodpcaa
open Go.Ox
set_option maxRecDepth 100000
set_option maxHeartbeats 4000000
set_option linter.unusedVariables false
set_option linter.unusedSimpArgs false

def foF : AV := .fn (.func 49) [] [.ptr 2 0 0 0, .ptr 5 0 0 0, .ptr 3 0 0 0, .ptr 6 0 0 0]

def rwC (v : AV) : Blk := Blk.mk true [v] 0 0 (fun _ => []) [] none

def foH (x : FD) (o : OC) (G : Int) (len cap : Nat) (p : Nat → Bool) (lb : AV) : AM := [some (x.blk .i64), some (opsB o cap), some (boxS G len cap), some (rwC lb), some (booB true len p), some (rwC (.sl 4 0 1 0 len len)), some (rwC foF)]

/-- The memory of follow: the list is nil, stands at 7, or (7 told no more) at 8. -/
def foM (x : FD) (o : OC) (G : Int) (len cap : Nat) (y : OX) (d : Bool) : AM :=
  match y.hs, d with
  | false, _ => foH x o G len cap y.p .nils
  | true, false => foH x o G len cap y.p (.sl 7 0 1 0 y.n y.c) ++ [some (i64B y.c y.f)]
  | true, true => foH x o G len cap y.p (.sl 8 0 1 0 y.n y.c) ++ [none, some (i64B y.c y.f)]

def booA (b : Blk) (j : Nat) : Bool :=
  match b.f j with
  | [.bool v] => v
  | _ => false

def BooRow (b : Blk) (len : Nat) : Prop := b.rw = true ∧ b.pre = [] ∧ b.s = 1 ∧ b.post = [] ∧ b.n = len ∧ ∀ j, j < b.n → b.f j = [.bool (booA b j)]

def truB (q : Nat → Int) (r : Nat) : Bool := decide (q r = 0)

def foT (x : FD) (o : OC) (G : Int) (len cap : Nat) (y : OX) : T (AV × AM) :=
  .alf fun q => .asm (decide (cntF (truB q) len ≤ cntF y.p len)) (.all fun k => .ite (decide (k = 0)) (.ret (.tup [], foM x o G len cap ⟨truB q, y.hs, y.n, y.c, y.f⟩ false))
    (.all fun n => .all fun c => .alf fun f => .asm (decide (n ≤ c ∧ n + cntF (truB q) len ≤ len)) (.ret (.tup [], foM x o G len cap ⟨truB q, true, n, c, f⟩ y.hs))))

def foL (LB : Blk) (m : AM) : Option (Bool × Nat × Nat × Nat) :=
  match LB.pre with
  | [.nils] => some (false, 0, 0, 0)
  | [.sl b 0 1 0 n c] => some (true, b, n, c)
  | _ => none

def foS (x : FD) (o : OC) (G : Int) (len cap : Nat) (k : Nat) : List AV → AM → T (AV × AM)
  | [.int .i64 i, .ptr 2 0 0 0, .ptr 5 0 0 0, .ptr 3 0 0 0, .ptr 6 0 0 0], m => T.opt (m.get 3) fun LB => T.opt (m.get 4) fun S => .need (spIn x o cap m ∧ m.get 2 = some (boxS G len cap) ∧ m.get 5 = some (rwC (.sl 4 0 1 0 len len)) ∧ m.get 6 = some (rwC foF)) (.need (BooRow S len)
      (match LB.pre with
      | [.nils] => .need (LB = rwC .nils) (.chk (decide (cntF (booA S) len < k)) (lift [0, 1, 2, 3, 4, 5, 6] m (foM x o G len cap ⟨booA S, false, 0, 0, fun _ => 0⟩ false) (foT x o G len cap ⟨booA S, false, 0, 0, fun _ => 0⟩)))
      | [.sl b 0 1 0 n c] => T.opt (m.get b) fun B => .need (LB = rwC (.sl b 0 1 0 n c) ∧ IsI64 B c ∧ 7 ≤ b) (.chk (decide (cntF (booA S) len < k ∧ n ≤ c ∧ n + cntF (booA S) len ≤ len)) (lift [0, 1, 2, 3, 4, 5, 6, b] m (foM x o G len cap ⟨booA S, true, n, c, intAt B⟩ false) (foT x o G len cap ⟨booA S, true, n, c, intAt B⟩)))
      | _ => .fail))
  | _, _ => .fail

noncomputable def foE (x : FD) (o : OC) (G : Int) (len cap k n0 : Nat) : Env := { nt := Try.f49.ntmps, n0 := n0, vec := true, fns := openAll [(49, .eff (foS x o G len cap k))], loop := fun _ _ => .fail }

noncomputable def foC : Code := loopAt (codeOf Try.f49) 0

def inB (c : Nat) (z : Nat → Int) : Blk := Blk.rows false 1 c fun a => [.int .i64 (z a)]

def foAr (i : Int) : List (Nat × AV) := [(0, .int .i64 i), (1, .ptr 2 0 0 0), (2, .ptr 5 0 0 0), (3, .ptr 3 0 0 0), (4, .ptr 6 0 0 0)]

def foK (y : OX) (d : Bool) : Nat :=
  match y.hs, d with
  | false, _ => 7
  | true, false => 8
  | true, true => 9

def foLp (x : FD) (o : OC) (G : Int) (len cap : Nat) (y : OX) (d : Bool) (z : Nat → Int) (L C : Nat) (i : Nat) : St := ⟨[(4, .ptr 6 0 0 0), (42, .sl (foK y d) 0 1 0 L C), (43, .int .i64 L), (44, .int .i64 i)], foM x o G len cap y d ++ [some (inB C z)]⟩

theorem fo_p0 (x : FD) (o : OC) (G : Int) (len cap k n0 : Nat) (p : Nat → Bool) (n c : Nat) (f : Nat → Int) (i : Nat) : T.cut (keepT [4, 42, 43, 44] (acodeL Try.prog (foE x o G len cap k n0) ((chainOf (codeOf Try.f49)).take 6) ⟨foAr i, foM x o G len cap ⟨p, false, n, c, f⟩ false⟩)) [0, 2, 0, 2, 0, 2, 3, 0, 2, 0, 2, 0] = 
  @T.chk (Ex × St) true
    (T.ite (decide ((↑i : Int) ≥ (↑len : Int)))
      (T.ret
        (Ex.ret,
          St.mk [((4 : Nat), AV.ptr (6 : Nat) (0 : Nat) (0 : Nat) (0 : Nat))]
            [some (Blk.mk false [] (0 : Nat) (0 : Nat) (fun x => []) [] (some fun js => Mem.mk (FD.nl x js) (FD.ad x js) (FD.ln x js) (FD.cp x js) (1 : Nat) fun q => [AV.int IntKind.i64 (FD.z x (q :: js))])),
              some (Blk.mk false [] (8 : Nat) cap (fun r => [AV.int IntKind.i64 (OC.kd o r), AV.part (0 : Nat) [r], AV.int IntKind.i64 (OC.fo o r), AV.int IntKind.i64 (OC.fa o r), AV.int IntKind.i64 (OC.fb o r), AV.int IntKind.i64 (OC.pa o r), AV.int IntKind.i64 (OC.ra o r), AV.int IntKind.i64 (OC.co o r)]) [] none),
              some (Blk.mk true [AV.int IntKind.i64 G, AV.sl (1 : Nat) (0 : Nat) (8 : Nat) (0 : Nat) len cap] (0 : Nat) (0 : Nat) (fun x => []) [] none), some (Blk.mk true [AV.nils] (0 : Nat) (0 : Nat) (fun x => []) [] none), some (Blk.mk true [] (1 : Nat) len (fun j => [AV.bool (p j)]) [] none),
              some (Blk.mk true [AV.sl (4 : Nat) (0 : Nat) (1 : Nat) (0 : Nat) len len] (0 : Nat) (0 : Nat) (fun x => []) [] none),
              some (Blk.mk true [AV.fn (Fn.func (49 : FuncId)) [] [AV.ptr (2 : Nat) (0 : Nat) (0 : Nat) (0 : Nat), AV.ptr (5 : Nat) (0 : Nat) (0 : Nat) (0 : Nat), AV.ptr (3 : Nat) (0 : Nat) (0 : Nat) (0 : Nat), AV.ptr (6 : Nat) (0 : Nat) (0 : Nat) (0 : Nat)]] (0 : Nat) (0 : Nat) (fun x => []) [] none)]))
      (T.chk (decide ((0 : Int) ≤ (↑i : Int)) && decide ((↑i : Int) < (↑len : Int)))
        (T.chk (decide ((0 : Nat) + Int.toNat (↑i : Int) < len))
          (T.ite (p ((0 : Nat) + Int.toNat (↑i : Int)))
            (T.ret
              (Ex.ret,
                St.mk [((4 : Nat), AV.ptr (6 : Nat) (0 : Nat) (0 : Nat) (0 : Nat))]
                  [some (Blk.mk false [] (0 : Nat) (0 : Nat) (fun x => []) [] (some fun js => Mem.mk (FD.nl x js) (FD.ad x js) (FD.ln x js) (FD.cp x js) (1 : Nat) fun q => [AV.int IntKind.i64 (FD.z x (q :: js))])),
                    some (Blk.mk false [] (8 : Nat) cap (fun r => [AV.int IntKind.i64 (OC.kd o r), AV.part (0 : Nat) [r], AV.int IntKind.i64 (OC.fo o r), AV.int IntKind.i64 (OC.fa o r), AV.int IntKind.i64 (OC.fb o r), AV.int IntKind.i64 (OC.pa o r), AV.int IntKind.i64 (OC.ra o r), AV.int IntKind.i64 (OC.co o r)]) [] none),
                    some (Blk.mk true [AV.int IntKind.i64 G, AV.sl (1 : Nat) (0 : Nat) (8 : Nat) (0 : Nat) len cap] (0 : Nat) (0 : Nat) (fun x => []) [] none), some (Blk.mk true [AV.nils] (0 : Nat) (0 : Nat) (fun x => []) [] none), some (Blk.mk true [] (1 : Nat) len (fun j => [AV.bool (p j)]) [] none),
                    some (Blk.mk true [AV.sl (4 : Nat) (0 : Nat) (1 : Nat) (0 : Nat) len len] (0 : Nat) (0 : Nat) (fun x => []) [] none),
                    some (Blk.mk true [AV.fn (Fn.func (49 : FuncId)) [] [AV.ptr (2 : Nat) (0 : Nat) (0 : Nat) (0 : Nat), AV.ptr (5 : Nat) (0 : Nat) (0 : Nat) (0 : Nat), AV.ptr (3 : Nat) (0 : Nat) (0 : Nat) (0 : Nat), AV.ptr (6 : Nat) (0 : Nat) (0 : Nat) (0 : Nat)]] (0 : Nat) (0 : Nat) (fun x => []) [] none)]))
            (T.chk (decide ((0 : Int) ≤ (↑i : Int)) && decide ((↑i : Int) < (↑len : Int)))
              (T.chk (decide ((0 : Nat) + Int.toNat (↑i : Int) < len))
                (T.chk (decide ((0 : Int) ≤ (↑i : Int)) && decide ((↑i : Int) < (↑len : Int)))
                  (T.chk (decide ((0 : Nat) + Int.toNat (↑i : Int) < cap))
                    (T.ite (OC.kd o ((0 : Nat) + Int.toNat (↑i : Int)) == (1 : Int))
                      (T.chk true
                        (@T.chk (Ex × St) true
                          (T.chk true
                            (T.all fun c =>
                              T.asm (decide ((1 : Nat) ≤ c))
                                (T.chk (decide ((0 : Int) ≤ (↑i : Int)) && decide ((↑i : Int) < (↑len : Int)))
                                  (T.chk (decide ((0 : Nat) + Int.toNat (↑i : Int) < cap))
                                    (T.ite (FD.nl x [(0 : Nat) + Int.toNat (↑i : Int)])
                                      (T.ret
                                        (Ex.norm,
                                          St.mk [((4 : Nat), AV.ptr (6 : Nat) (0 : Nat) (0 : Nat) (0 : Nat)), ((42 : Nat), AV.esl (FD.ad x [(0 : Nat) + Int.toNat (↑i : Int)])), ((43 : Nat), AV.int IntKind.i64 (0 : Int)), ((44 : Nat), AV.int IntKind.i64 (0 : Int))]
                                            [some (Blk.mk false [] (0 : Nat) (0 : Nat) (fun x => []) [] (some fun js => Mem.mk (FD.nl x js) (FD.ad x js) (FD.ln x js) (FD.cp x js) (1 : Nat) fun q => [AV.int IntKind.i64 (FD.z x (q :: js))])),
                                              some (Blk.mk false [] (8 : Nat) cap (fun r => [AV.int IntKind.i64 (OC.kd o r), AV.part (0 : Nat) [r], AV.int IntKind.i64 (OC.fo o r), AV.int IntKind.i64 (OC.fa o r), AV.int IntKind.i64 (OC.fb o r), AV.int IntKind.i64 (OC.pa o r), AV.int IntKind.i64 (OC.ra o r), AV.int IntKind.i64 (OC.co o r)]) [] none),
                                              some (Blk.mk true [AV.int IntKind.i64 G, AV.sl (1 : Nat) (0 : Nat) (8 : Nat) (0 : Nat) len cap] (0 : Nat) (0 : Nat) (fun x => []) [] none), some (Blk.mk true [AV.sl (8 : Nat) (0 : Nat) (1 : Nat) (0 : Nat) (1 : Nat) c] (0 : Nat) (0 : Nat) (fun a => []) [] none),
                                              some (Blk.mk true [] (1 : Nat) len (fun i_1 => Blk.setRow ((1 : Nat) == (1 : Nat)) (fun j => [AV.bool (p j)]) ((0 : Nat) + Int.toNat (↑i : Int)) (0 : Nat) AV.tt i_1) [] none), some (Blk.mk true [AV.sl (4 : Nat) (0 : Nat) (1 : Nat) (0 : Nat) len len] (0 : Nat) (0 : Nat) (fun x => []) [] none),
                                              some (Blk.mk true [AV.fn (Fn.func (49 : FuncId)) [] [AV.ptr (2 : Nat) (0 : Nat) (0 : Nat) (0 : Nat), AV.ptr (5 : Nat) (0 : Nat) (0 : Nat) (0 : Nat), AV.ptr (3 : Nat) (0 : Nat) (0 : Nat) (0 : Nat), AV.ptr (6 : Nat) (0 : Nat) (0 : Nat) (0 : Nat)]] (0 : Nat) (0 : Nat) (fun x => []) [] none),
                                              some (Blk.mk true [] (1 : Nat) (1 : Nat) (fun i_1 => [AV.int IntKind.i64 (List.getD [(↑i : Int)] i_1 (0 : Int))]) [] none),
                                              some (Blk.mk true [] (1 : Nat) c (fun r => if r < (0 : Nat) then [] else if r < (1 : Nat) then List.map (fun c => Col.at c ((0 : Nat) + (r - (0 : Nat)))) ([] ++ [Col.ints IntKind.i64 [(↑i : Int)]]) else AV.cells (AV.int IntKind.i64 (0 : Int))) [] none)]))
                                      (T.ret
                                        (Ex.norm,
                                          St.mk [((4 : Nat), AV.ptr (6 : Nat) (0 : Nat) (0 : Nat) (0 : Nat)), ((42 : Nat), AV.sl (9 : Nat) (0 : Nat) (1 : Nat) (0 : Nat) (FD.ln x [(0 : Nat) + Int.toNat (↑i : Int)]) (FD.cp x [(0 : Nat) + Int.toNat (↑i : Int)])), ((43 : Nat), AV.int IntKind.i64 (↑(FD.ln x [(0 : Nat) + Int.toNat (↑i : Int)]) : Int)), ((44 : Nat), AV.int IntKind.i64 (0 : Int))]
                                            [some (Blk.mk false [] (0 : Nat) (0 : Nat) (fun x => []) [] (some fun js => Mem.mk (FD.nl x js) (FD.ad x js) (FD.ln x js) (FD.cp x js) (1 : Nat) fun q => [AV.int IntKind.i64 (FD.z x (q :: js))])),
                                              some (Blk.mk false [] (8 : Nat) cap (fun r => [AV.int IntKind.i64 (OC.kd o r), AV.part (0 : Nat) [r], AV.int IntKind.i64 (OC.fo o r), AV.int IntKind.i64 (OC.fa o r), AV.int IntKind.i64 (OC.fb o r), AV.int IntKind.i64 (OC.pa o r), AV.int IntKind.i64 (OC.ra o r), AV.int IntKind.i64 (OC.co o r)]) [] none),
                                              some (Blk.mk true [AV.int IntKind.i64 G, AV.sl (1 : Nat) (0 : Nat) (8 : Nat) (0 : Nat) len cap] (0 : Nat) (0 : Nat) (fun x => []) [] none), some (Blk.mk true [AV.sl (8 : Nat) (0 : Nat) (1 : Nat) (0 : Nat) (1 : Nat) c] (0 : Nat) (0 : Nat) (fun a => []) [] none),
                                              some (Blk.mk true [] (1 : Nat) len (fun i_1 => Blk.setRow ((1 : Nat) == (1 : Nat)) (fun j => [AV.bool (p j)]) ((0 : Nat) + Int.toNat (↑i : Int)) (0 : Nat) AV.tt i_1) [] none), some (Blk.mk true [AV.sl (4 : Nat) (0 : Nat) (1 : Nat) (0 : Nat) len len] (0 : Nat) (0 : Nat) (fun x => []) [] none),
                                              some (Blk.mk true [AV.fn (Fn.func (49 : FuncId)) [] [AV.ptr (2 : Nat) (0 : Nat) (0 : Nat) (0 : Nat), AV.ptr (5 : Nat) (0 : Nat) (0 : Nat) (0 : Nat), AV.ptr (3 : Nat) (0 : Nat) (0 : Nat) (0 : Nat), AV.ptr (6 : Nat) (0 : Nat) (0 : Nat) (0 : Nat)]] (0 : Nat) (0 : Nat) (fun x => []) [] none),
                                              some (Blk.mk true [] (1 : Nat) (1 : Nat) (fun i_1 => [AV.int IntKind.i64 (List.getD [(↑i : Int)] i_1 (0 : Int))]) [] none),
                                              some (Blk.mk true [] (1 : Nat) c (fun r => if r < (0 : Nat) then [] else if r < (1 : Nat) then List.map (fun c => Col.at c ((0 : Nat) + (r - (0 : Nat)))) ([] ++ [Col.ints IntKind.i64 [(↑i : Int)]]) else AV.cells (AV.int IntKind.i64 (0 : Int))) [] none),
                                              some (Blk.mk false [] (1 : Nat) (FD.cp x [(0 : Nat) + Int.toNat (↑i : Int)]) (fun a => [AV.int IntKind.i64 (FD.z x [a, (0 : Nat) + Int.toNat (↑i : Int)])]) [] none)])))))))))
                      (T.chk (decide ((0 : Int) ≤ (↑i : Int)) && decide ((↑i : Int) < (↑len : Int)))
                        (T.chk (decide ((0 : Nat) + Int.toNat (↑i : Int) < cap))
                          (T.ite (FD.nl x [(0 : Nat) + Int.toNat (↑i : Int)])
                            (T.ret
                              (Ex.norm,
                                St.mk [((4 : Nat), AV.ptr (6 : Nat) (0 : Nat) (0 : Nat) (0 : Nat)), ((42 : Nat), AV.esl (FD.ad x [(0 : Nat) + Int.toNat (↑i : Int)])), ((43 : Nat), AV.int IntKind.i64 (0 : Int)), ((44 : Nat), AV.int IntKind.i64 (0 : Int))]
                                  [some (Blk.mk false [] (0 : Nat) (0 : Nat) (fun x => []) [] (some fun js => Mem.mk (FD.nl x js) (FD.ad x js) (FD.ln x js) (FD.cp x js) (1 : Nat) fun q => [AV.int IntKind.i64 (FD.z x (q :: js))])),
                                    some (Blk.mk false [] (8 : Nat) cap (fun r => [AV.int IntKind.i64 (OC.kd o r), AV.part (0 : Nat) [r], AV.int IntKind.i64 (OC.fo o r), AV.int IntKind.i64 (OC.fa o r), AV.int IntKind.i64 (OC.fb o r), AV.int IntKind.i64 (OC.pa o r), AV.int IntKind.i64 (OC.ra o r), AV.int IntKind.i64 (OC.co o r)]) [] none),
                                    some (Blk.mk true [AV.int IntKind.i64 G, AV.sl (1 : Nat) (0 : Nat) (8 : Nat) (0 : Nat) len cap] (0 : Nat) (0 : Nat) (fun x => []) [] none), some (Blk.mk true [AV.nils] (0 : Nat) (0 : Nat) (fun x => []) [] none),
                                    some (Blk.mk true [] (1 : Nat) len (fun i_1 => Blk.setRow ((1 : Nat) == (1 : Nat)) (fun j => [AV.bool (p j)]) ((0 : Nat) + Int.toNat (↑i : Int)) (0 : Nat) AV.tt i_1) [] none), some (Blk.mk true [AV.sl (4 : Nat) (0 : Nat) (1 : Nat) (0 : Nat) len len] (0 : Nat) (0 : Nat) (fun x => []) [] none),
                                    some (Blk.mk true [AV.fn (Fn.func (49 : FuncId)) [] [AV.ptr (2 : Nat) (0 : Nat) (0 : Nat) (0 : Nat), AV.ptr (5 : Nat) (0 : Nat) (0 : Nat) (0 : Nat), AV.ptr (3 : Nat) (0 : Nat) (0 : Nat) (0 : Nat), AV.ptr (6 : Nat) (0 : Nat) (0 : Nat) (0 : Nat)]] (0 : Nat) (0 : Nat) (fun x => []) [] none)]))
                            (T.ret
                              (Ex.norm,
                                St.mk [((4 : Nat), AV.ptr (6 : Nat) (0 : Nat) (0 : Nat) (0 : Nat)), ((42 : Nat), AV.sl (7 : Nat) (0 : Nat) (1 : Nat) (0 : Nat) (FD.ln x [(0 : Nat) + Int.toNat (↑i : Int)]) (FD.cp x [(0 : Nat) + Int.toNat (↑i : Int)])), ((43 : Nat), AV.int IntKind.i64 (↑(FD.ln x [(0 : Nat) + Int.toNat (↑i : Int)]) : Int)), ((44 : Nat), AV.int IntKind.i64 (0 : Int))]
                                  [some (Blk.mk false [] (0 : Nat) (0 : Nat) (fun x => []) [] (some fun js => Mem.mk (FD.nl x js) (FD.ad x js) (FD.ln x js) (FD.cp x js) (1 : Nat) fun q => [AV.int IntKind.i64 (FD.z x (q :: js))])),
                                    some (Blk.mk false [] (8 : Nat) cap (fun r => [AV.int IntKind.i64 (OC.kd o r), AV.part (0 : Nat) [r], AV.int IntKind.i64 (OC.fo o r), AV.int IntKind.i64 (OC.fa o r), AV.int IntKind.i64 (OC.fb o r), AV.int IntKind.i64 (OC.pa o r), AV.int IntKind.i64 (OC.ra o r), AV.int IntKind.i64 (OC.co o r)]) [] none),
                                    some (Blk.mk true [AV.int IntKind.i64 G, AV.sl (1 : Nat) (0 : Nat) (8 : Nat) (0 : Nat) len cap] (0 : Nat) (0 : Nat) (fun x => []) [] none), some (Blk.mk true [AV.nils] (0 : Nat) (0 : Nat) (fun x => []) [] none),
                                    some (Blk.mk true [] (1 : Nat) len (fun i_1 => Blk.setRow ((1 : Nat) == (1 : Nat)) (fun j => [AV.bool (p j)]) ((0 : Nat) + Int.toNat (↑i : Int)) (0 : Nat) AV.tt i_1) [] none), some (Blk.mk true [AV.sl (4 : Nat) (0 : Nat) (1 : Nat) (0 : Nat) len len] (0 : Nat) (0 : Nat) (fun x => []) [] none),
                                    some (Blk.mk true [AV.fn (Fn.func (49 : FuncId)) [] [AV.ptr (2 : Nat) (0 : Nat) (0 : Nat) (0 : Nat), AV.ptr (5 : Nat) (0 : Nat) (0 : Nat) (0 : Nat), AV.ptr (3 : Nat) (0 : Nat) (0 : Nat) (0 : Nat), AV.ptr (6 : Nat) (0 : Nat) (0 : Nat) (0 : Nat)]] (0 : Nat) (0 : Nat) (fun x => []) [] none),
                                    some (Blk.mk false [] (1 : Nat) (FD.cp x [(0 : Nat) + Int.toNat (↑i : Int)]) (fun a => [AV.int IntKind.i64 (FD.z x [a, (0 : Nat) + Int.toNat (↑i : Int)])]) [] none)])))))))))))))) := by
  kernel_rfl

theorem fo_p1 (x : FD) (o : OC) (G : Int) (len cap k n0 : Nat) (p : Nat → Bool) (n c : Nat) (f : Nat → Int) (i : Nat) : T.cut (keepT [4, 42, 43, 44] (acodeL Try.prog (foE x o G len cap k n0) ((chainOf (codeOf Try.f49)).take 6) ⟨foAr i, foM x o G len cap ⟨p, true, n, c, f⟩ false⟩)) [0, 2, 0, 2, 0, 2, 2, 2, 0, 2, 0] = 
  @T.chk (Ex × St) true
    (T.ite (decide ((↑i : Int) ≥ (↑len : Int)))
      (T.ret
        (Ex.ret,
          St.mk [((4 : Nat), AV.ptr (6 : Nat) (0 : Nat) (0 : Nat) (0 : Nat))]
            [some (Blk.mk false [] (0 : Nat) (0 : Nat) (fun x => []) [] (some fun js => Mem.mk (FD.nl x js) (FD.ad x js) (FD.ln x js) (FD.cp x js) (1 : Nat) fun q => [AV.int IntKind.i64 (FD.z x (q :: js))])),
              some (Blk.mk false [] (8 : Nat) cap (fun r => [AV.int IntKind.i64 (OC.kd o r), AV.part (0 : Nat) [r], AV.int IntKind.i64 (OC.fo o r), AV.int IntKind.i64 (OC.fa o r), AV.int IntKind.i64 (OC.fb o r), AV.int IntKind.i64 (OC.pa o r), AV.int IntKind.i64 (OC.ra o r), AV.int IntKind.i64 (OC.co o r)]) [] none),
              some (Blk.mk true [AV.int IntKind.i64 G, AV.sl (1 : Nat) (0 : Nat) (8 : Nat) (0 : Nat) len cap] (0 : Nat) (0 : Nat) (fun x => []) [] none), some (Blk.mk true [AV.sl (7 : Nat) (0 : Nat) (1 : Nat) (0 : Nat) n c] (0 : Nat) (0 : Nat) (fun x => []) [] none), some (Blk.mk true [] (1 : Nat) len (fun j => [AV.bool (p j)]) [] none),
              some (Blk.mk true [AV.sl (4 : Nat) (0 : Nat) (1 : Nat) (0 : Nat) len len] (0 : Nat) (0 : Nat) (fun x => []) [] none),
              some (Blk.mk true [AV.fn (Fn.func (49 : FuncId)) [] [AV.ptr (2 : Nat) (0 : Nat) (0 : Nat) (0 : Nat), AV.ptr (5 : Nat) (0 : Nat) (0 : Nat) (0 : Nat), AV.ptr (3 : Nat) (0 : Nat) (0 : Nat) (0 : Nat), AV.ptr (6 : Nat) (0 : Nat) (0 : Nat) (0 : Nat)]] (0 : Nat) (0 : Nat) (fun x => []) [] none), some (Blk.mk true [] (1 : Nat) c (fun j => [AV.int IntKind.i64 (f j)]) [] none)]))
      (T.chk (decide ((0 : Int) ≤ (↑i : Int)) && decide ((↑i : Int) < (↑len : Int)))
        (T.chk (decide ((0 : Nat) + Int.toNat (↑i : Int) < len))
          (T.ite (p ((0 : Nat) + Int.toNat (↑i : Int)))
            (T.ret
              (Ex.ret,
                St.mk [((4 : Nat), AV.ptr (6 : Nat) (0 : Nat) (0 : Nat) (0 : Nat))]
                  [some (Blk.mk false [] (0 : Nat) (0 : Nat) (fun x => []) [] (some fun js => Mem.mk (FD.nl x js) (FD.ad x js) (FD.ln x js) (FD.cp x js) (1 : Nat) fun q => [AV.int IntKind.i64 (FD.z x (q :: js))])),
                    some (Blk.mk false [] (8 : Nat) cap (fun r => [AV.int IntKind.i64 (OC.kd o r), AV.part (0 : Nat) [r], AV.int IntKind.i64 (OC.fo o r), AV.int IntKind.i64 (OC.fa o r), AV.int IntKind.i64 (OC.fb o r), AV.int IntKind.i64 (OC.pa o r), AV.int IntKind.i64 (OC.ra o r), AV.int IntKind.i64 (OC.co o r)]) [] none),
                    some (Blk.mk true [AV.int IntKind.i64 G, AV.sl (1 : Nat) (0 : Nat) (8 : Nat) (0 : Nat) len cap] (0 : Nat) (0 : Nat) (fun x => []) [] none), some (Blk.mk true [AV.sl (7 : Nat) (0 : Nat) (1 : Nat) (0 : Nat) n c] (0 : Nat) (0 : Nat) (fun x => []) [] none), some (Blk.mk true [] (1 : Nat) len (fun j => [AV.bool (p j)]) [] none),
                    some (Blk.mk true [AV.sl (4 : Nat) (0 : Nat) (1 : Nat) (0 : Nat) len len] (0 : Nat) (0 : Nat) (fun x => []) [] none),
                    some (Blk.mk true [AV.fn (Fn.func (49 : FuncId)) [] [AV.ptr (2 : Nat) (0 : Nat) (0 : Nat) (0 : Nat), AV.ptr (5 : Nat) (0 : Nat) (0 : Nat) (0 : Nat), AV.ptr (3 : Nat) (0 : Nat) (0 : Nat) (0 : Nat), AV.ptr (6 : Nat) (0 : Nat) (0 : Nat) (0 : Nat)]] (0 : Nat) (0 : Nat) (fun x => []) [] none), some (Blk.mk true [] (1 : Nat) c (fun j => [AV.int IntKind.i64 (f j)]) [] none)]))
            (T.chk (decide ((0 : Int) ≤ (↑i : Int)) && decide ((↑i : Int) < (↑len : Int)))
              (T.chk (decide ((0 : Nat) + Int.toNat (↑i : Int) < len))
                (T.chk (decide ((0 : Int) ≤ (↑i : Int)) && decide ((↑i : Int) < (↑len : Int)))
                  (T.chk (decide ((0 : Nat) + Int.toNat (↑i : Int) < cap))
                    (T.ite (OC.kd o ((0 : Nat) + Int.toNat (↑i : Int)) == (1 : Int))
                      (T.chk true
                        (T.chk (decide ((0 : Nat) + c ≤ c))
                          (T.chk (decide (n ≤ c))
                            (T.chk (decide (n + (1 : Nat) ≤ (4294967296 : Nat)))
                              (T.all fun c_1 =>
                                T.all fun c_2 =>
                                  T.asm (decide (n + (1 : Nat) ≤ c_1 ∧ (c_2 = (0 : Nat) ∨ c_1 = c)))
                                    (T.chk (decide ((0 : Int) ≤ (↑i : Int)) && decide ((↑i : Int) < (↑len : Int)))
                                      (T.chk (decide ((0 : Nat) + Int.toNat (↑i : Int) < cap))
                                        (T.ite (FD.nl x [(0 : Nat) + Int.toNat (↑i : Int)])
                                          (T.ret
                                            (Ex.norm,
                                              St.mk [((4 : Nat), AV.ptr (6 : Nat) (0 : Nat) (0 : Nat) (0 : Nat)), ((42 : Nat), AV.esl (FD.ad x [(0 : Nat) + Int.toNat (↑i : Int)])), ((43 : Nat), AV.int IntKind.i64 (0 : Int)), ((44 : Nat), AV.int IntKind.i64 (0 : Int))]
                                                [some (Blk.mk false [] (0 : Nat) (0 : Nat) (fun x => []) [] (some fun js => Mem.mk (FD.nl x js) (FD.ad x js) (FD.ln x js) (FD.cp x js) (1 : Nat) fun q => [AV.int IntKind.i64 (FD.z x (q :: js))])),
                                                  some (Blk.mk false [] (8 : Nat) cap (fun r => [AV.int IntKind.i64 (OC.kd o r), AV.part (0 : Nat) [r], AV.int IntKind.i64 (OC.fo o r), AV.int IntKind.i64 (OC.fa o r), AV.int IntKind.i64 (OC.fb o r), AV.int IntKind.i64 (OC.pa o r), AV.int IntKind.i64 (OC.ra o r), AV.int IntKind.i64 (OC.co o r)]) [] none),
                                                  some (Blk.mk true [AV.int IntKind.i64 G, AV.sl (1 : Nat) (0 : Nat) (8 : Nat) (0 : Nat) len cap] (0 : Nat) (0 : Nat) (fun x => []) [] none), some (Blk.mk true [AV.sl (9 : Nat) (0 : Nat) (1 : Nat) (0 : Nat) (n + (1 : Nat)) c_1] (0 : Nat) (0 : Nat) (fun a => []) [] none),
                                                  some (Blk.mk true [] (1 : Nat) len (fun i_1 => Blk.setRow ((1 : Nat) == (1 : Nat)) (fun j => [AV.bool (p j)]) ((0 : Nat) + Int.toNat (↑i : Int)) (0 : Nat) AV.tt i_1) [] none), some (Blk.mk true [AV.sl (4 : Nat) (0 : Nat) (1 : Nat) (0 : Nat) len len] (0 : Nat) (0 : Nat) (fun x => []) [] none),
                                                  some (Blk.mk true [AV.fn (Fn.func (49 : FuncId)) [] [AV.ptr (2 : Nat) (0 : Nat) (0 : Nat) (0 : Nat), AV.ptr (5 : Nat) (0 : Nat) (0 : Nat) (0 : Nat), AV.ptr (3 : Nat) (0 : Nat) (0 : Nat) (0 : Nat), AV.ptr (6 : Nat) (0 : Nat) (0 : Nat) (0 : Nat)]] (0 : Nat) (0 : Nat) (fun x => []) [] none), none,
                                                  some (Blk.mk true [] (1 : Nat) (1 : Nat) (fun i_1 => [AV.int IntKind.i64 (List.getD [(↑i : Int)] i_1 (0 : Int))]) [] none),
                                                  some
                                                    (Blk.mk true [] (1 : Nat) c_1 (fun r => if r < n then [AV.int IntKind.i64 (f ((0 : Nat) + r))] else if r < n + (1 : Nat) then List.map (fun c => Col.at c ((0 : Nat) + (r - n))) ([] ++ [Col.ints IntKind.i64 [(↑i : Int)]]) else if c_2 = (0 : Nat) then AV.cells (AV.int IntKind.i64 (0 : Int)) else [AV.int IntKind.i64 (f ((0 : Nat) + r))]) [] none)]))
                                          (T.ret
                                            (Ex.norm,
                                              St.mk [((4 : Nat), AV.ptr (6 : Nat) (0 : Nat) (0 : Nat) (0 : Nat)), ((42 : Nat), AV.sl (10 : Nat) (0 : Nat) (1 : Nat) (0 : Nat) (FD.ln x [(0 : Nat) + Int.toNat (↑i : Int)]) (FD.cp x [(0 : Nat) + Int.toNat (↑i : Int)])), ((43 : Nat), AV.int IntKind.i64 (↑(FD.ln x [(0 : Nat) + Int.toNat (↑i : Int)]) : Int)), ((44 : Nat), AV.int IntKind.i64 (0 : Int))]
                                                [some (Blk.mk false [] (0 : Nat) (0 : Nat) (fun x => []) [] (some fun js => Mem.mk (FD.nl x js) (FD.ad x js) (FD.ln x js) (FD.cp x js) (1 : Nat) fun q => [AV.int IntKind.i64 (FD.z x (q :: js))])),
                                                  some (Blk.mk false [] (8 : Nat) cap (fun r => [AV.int IntKind.i64 (OC.kd o r), AV.part (0 : Nat) [r], AV.int IntKind.i64 (OC.fo o r), AV.int IntKind.i64 (OC.fa o r), AV.int IntKind.i64 (OC.fb o r), AV.int IntKind.i64 (OC.pa o r), AV.int IntKind.i64 (OC.ra o r), AV.int IntKind.i64 (OC.co o r)]) [] none),
                                                  some (Blk.mk true [AV.int IntKind.i64 G, AV.sl (1 : Nat) (0 : Nat) (8 : Nat) (0 : Nat) len cap] (0 : Nat) (0 : Nat) (fun x => []) [] none), some (Blk.mk true [AV.sl (9 : Nat) (0 : Nat) (1 : Nat) (0 : Nat) (n + (1 : Nat)) c_1] (0 : Nat) (0 : Nat) (fun a => []) [] none),
                                                  some (Blk.mk true [] (1 : Nat) len (fun i_1 => Blk.setRow ((1 : Nat) == (1 : Nat)) (fun j => [AV.bool (p j)]) ((0 : Nat) + Int.toNat (↑i : Int)) (0 : Nat) AV.tt i_1) [] none), some (Blk.mk true [AV.sl (4 : Nat) (0 : Nat) (1 : Nat) (0 : Nat) len len] (0 : Nat) (0 : Nat) (fun x => []) [] none),
                                                  some (Blk.mk true [AV.fn (Fn.func (49 : FuncId)) [] [AV.ptr (2 : Nat) (0 : Nat) (0 : Nat) (0 : Nat), AV.ptr (5 : Nat) (0 : Nat) (0 : Nat) (0 : Nat), AV.ptr (3 : Nat) (0 : Nat) (0 : Nat) (0 : Nat), AV.ptr (6 : Nat) (0 : Nat) (0 : Nat) (0 : Nat)]] (0 : Nat) (0 : Nat) (fun x => []) [] none), none,
                                                  some (Blk.mk true [] (1 : Nat) (1 : Nat) (fun i_1 => [AV.int IntKind.i64 (List.getD [(↑i : Int)] i_1 (0 : Int))]) [] none),
                                                  some (Blk.mk true [] (1 : Nat) c_1 (fun r => if r < n then [AV.int IntKind.i64 (f ((0 : Nat) + r))] else if r < n + (1 : Nat) then List.map (fun c => Col.at c ((0 : Nat) + (r - n))) ([] ++ [Col.ints IntKind.i64 [(↑i : Int)]]) else if c_2 = (0 : Nat) then AV.cells (AV.int IntKind.i64 (0 : Int)) else [AV.int IntKind.i64 (f ((0 : Nat) + r))]) [] none),
                                                  some (Blk.mk false [] (1 : Nat) (FD.cp x [(0 : Nat) + Int.toNat (↑i : Int)]) (fun a => [AV.int IntKind.i64 (FD.z x [a, (0 : Nat) + Int.toNat (↑i : Int)])]) [] none)]))))))))))
                      (T.chk (decide ((0 : Int) ≤ (↑i : Int)) && decide ((↑i : Int) < (↑len : Int)))
                        (T.chk (decide ((0 : Nat) + Int.toNat (↑i : Int) < cap))
                          (T.ite (FD.nl x [(0 : Nat) + Int.toNat (↑i : Int)])
                            (T.ret
                              (Ex.norm,
                                St.mk [((4 : Nat), AV.ptr (6 : Nat) (0 : Nat) (0 : Nat) (0 : Nat)), ((42 : Nat), AV.esl (FD.ad x [(0 : Nat) + Int.toNat (↑i : Int)])), ((43 : Nat), AV.int IntKind.i64 (0 : Int)), ((44 : Nat), AV.int IntKind.i64 (0 : Int))]
                                  [some (Blk.mk false [] (0 : Nat) (0 : Nat) (fun x => []) [] (some fun js => Mem.mk (FD.nl x js) (FD.ad x js) (FD.ln x js) (FD.cp x js) (1 : Nat) fun q => [AV.int IntKind.i64 (FD.z x (q :: js))])),
                                    some (Blk.mk false [] (8 : Nat) cap (fun r => [AV.int IntKind.i64 (OC.kd o r), AV.part (0 : Nat) [r], AV.int IntKind.i64 (OC.fo o r), AV.int IntKind.i64 (OC.fa o r), AV.int IntKind.i64 (OC.fb o r), AV.int IntKind.i64 (OC.pa o r), AV.int IntKind.i64 (OC.ra o r), AV.int IntKind.i64 (OC.co o r)]) [] none),
                                    some (Blk.mk true [AV.int IntKind.i64 G, AV.sl (1 : Nat) (0 : Nat) (8 : Nat) (0 : Nat) len cap] (0 : Nat) (0 : Nat) (fun x => []) [] none), some (Blk.mk true [AV.sl (7 : Nat) (0 : Nat) (1 : Nat) (0 : Nat) n c] (0 : Nat) (0 : Nat) (fun x => []) [] none),
                                    some (Blk.mk true [] (1 : Nat) len (fun i_1 => Blk.setRow ((1 : Nat) == (1 : Nat)) (fun j => [AV.bool (p j)]) ((0 : Nat) + Int.toNat (↑i : Int)) (0 : Nat) AV.tt i_1) [] none), some (Blk.mk true [AV.sl (4 : Nat) (0 : Nat) (1 : Nat) (0 : Nat) len len] (0 : Nat) (0 : Nat) (fun x => []) [] none),
                                    some (Blk.mk true [AV.fn (Fn.func (49 : FuncId)) [] [AV.ptr (2 : Nat) (0 : Nat) (0 : Nat) (0 : Nat), AV.ptr (5 : Nat) (0 : Nat) (0 : Nat) (0 : Nat), AV.ptr (3 : Nat) (0 : Nat) (0 : Nat) (0 : Nat), AV.ptr (6 : Nat) (0 : Nat) (0 : Nat) (0 : Nat)]] (0 : Nat) (0 : Nat) (fun x => []) [] none),
                                    some (Blk.mk true [] (1 : Nat) c (fun j => [AV.int IntKind.i64 (f j)]) [] none)]))
                            (T.ret
                              (Ex.norm,
                                St.mk [((4 : Nat), AV.ptr (6 : Nat) (0 : Nat) (0 : Nat) (0 : Nat)), ((42 : Nat), AV.sl (8 : Nat) (0 : Nat) (1 : Nat) (0 : Nat) (FD.ln x [(0 : Nat) + Int.toNat (↑i : Int)]) (FD.cp x [(0 : Nat) + Int.toNat (↑i : Int)])), ((43 : Nat), AV.int IntKind.i64 (↑(FD.ln x [(0 : Nat) + Int.toNat (↑i : Int)]) : Int)), ((44 : Nat), AV.int IntKind.i64 (0 : Int))]
                                  [some (Blk.mk false [] (0 : Nat) (0 : Nat) (fun x => []) [] (some fun js => Mem.mk (FD.nl x js) (FD.ad x js) (FD.ln x js) (FD.cp x js) (1 : Nat) fun q => [AV.int IntKind.i64 (FD.z x (q :: js))])),
                                    some (Blk.mk false [] (8 : Nat) cap (fun r => [AV.int IntKind.i64 (OC.kd o r), AV.part (0 : Nat) [r], AV.int IntKind.i64 (OC.fo o r), AV.int IntKind.i64 (OC.fa o r), AV.int IntKind.i64 (OC.fb o r), AV.int IntKind.i64 (OC.pa o r), AV.int IntKind.i64 (OC.ra o r), AV.int IntKind.i64 (OC.co o r)]) [] none),
                                    some (Blk.mk true [AV.int IntKind.i64 G, AV.sl (1 : Nat) (0 : Nat) (8 : Nat) (0 : Nat) len cap] (0 : Nat) (0 : Nat) (fun x => []) [] none), some (Blk.mk true [AV.sl (7 : Nat) (0 : Nat) (1 : Nat) (0 : Nat) n c] (0 : Nat) (0 : Nat) (fun x => []) [] none),
                                    some (Blk.mk true [] (1 : Nat) len (fun i_1 => Blk.setRow ((1 : Nat) == (1 : Nat)) (fun j => [AV.bool (p j)]) ((0 : Nat) + Int.toNat (↑i : Int)) (0 : Nat) AV.tt i_1) [] none), some (Blk.mk true [AV.sl (4 : Nat) (0 : Nat) (1 : Nat) (0 : Nat) len len] (0 : Nat) (0 : Nat) (fun x => []) [] none),
                                    some (Blk.mk true [AV.fn (Fn.func (49 : FuncId)) [] [AV.ptr (2 : Nat) (0 : Nat) (0 : Nat) (0 : Nat), AV.ptr (5 : Nat) (0 : Nat) (0 : Nat) (0 : Nat), AV.ptr (3 : Nat) (0 : Nat) (0 : Nat) (0 : Nat), AV.ptr (6 : Nat) (0 : Nat) (0 : Nat) (0 : Nat)]] (0 : Nat) (0 : Nat) (fun x => []) [] none),
                                    some (Blk.mk true [] (1 : Nat) c (fun j => [AV.int IntKind.i64 (f j)]) [] none), some (Blk.mk false [] (1 : Nat) (FD.cp x [(0 : Nat) + Int.toNat (↑i : Int)]) (fun a => [AV.int IntKind.i64 (FD.z x [a, (0 : Nat) + Int.toNat (↑i : Int)])]) [] none)])))))))))))))) := by
  kernel_rfl

theorem fo_m0 (x : FD) (o : OC) (G : Int) (len cap k n0 : Nat) (p : Nat → Bool) (n c : Nat) (f : Nat → Int) (i : Nat) : T.cut (keepT [] (acodeL Try.prog (foE x o G len cap k n0) ((chainOf (codeOf Try.f49)).take 6) ⟨foAr (Int.negSucc i), foM x o G len cap ⟨p, false, n, c, f⟩ false⟩)) [2, 0, 2, 0, 2, 0, 2, 3, 0, 2, 0, 2, 0] = 
  T.ite (decide (Int.negSucc i < (0 : Int)))
    (T.ret
      (Ex.ret,
        St.mk []
          [some (Blk.mk false [] (0 : Nat) (0 : Nat) (fun x => []) [] (some fun js => Mem.mk (FD.nl x js) (FD.ad x js) (FD.ln x js) (FD.cp x js) (1 : Nat) fun q => [AV.int IntKind.i64 (FD.z x (q :: js))])),
            some (Blk.mk false [] (8 : Nat) cap (fun r => [AV.int IntKind.i64 (OC.kd o r), AV.part (0 : Nat) [r], AV.int IntKind.i64 (OC.fo o r), AV.int IntKind.i64 (OC.fa o r), AV.int IntKind.i64 (OC.fb o r), AV.int IntKind.i64 (OC.pa o r), AV.int IntKind.i64 (OC.ra o r), AV.int IntKind.i64 (OC.co o r)]) [] none),
            some (Blk.mk true [AV.int IntKind.i64 G, AV.sl (1 : Nat) (0 : Nat) (8 : Nat) (0 : Nat) len cap] (0 : Nat) (0 : Nat) (fun x => []) [] none), some (Blk.mk true [AV.nils] (0 : Nat) (0 : Nat) (fun x => []) [] none), some (Blk.mk true [] (1 : Nat) len (fun j => [AV.bool (p j)]) [] none),
            some (Blk.mk true [AV.sl (4 : Nat) (0 : Nat) (1 : Nat) (0 : Nat) len len] (0 : Nat) (0 : Nat) (fun x => []) [] none),
            some (Blk.mk true [AV.fn (Fn.func (49 : FuncId)) [] [AV.ptr (2 : Nat) (0 : Nat) (0 : Nat) (0 : Nat), AV.ptr (5 : Nat) (0 : Nat) (0 : Nat) (0 : Nat), AV.ptr (3 : Nat) (0 : Nat) (0 : Nat) (0 : Nat), AV.ptr (6 : Nat) (0 : Nat) (0 : Nat) (0 : Nat)]] (0 : Nat) (0 : Nat) (fun x => []) [] none)]))
    (T.ite (decide (Int.negSucc i ≥ (↑len : Int)))
      (T.ret
        (Ex.ret,
          St.mk []
            [some (Blk.mk false [] (0 : Nat) (0 : Nat) (fun x => []) [] (some fun js => Mem.mk (FD.nl x js) (FD.ad x js) (FD.ln x js) (FD.cp x js) (1 : Nat) fun q => [AV.int IntKind.i64 (FD.z x (q :: js))])),
              some (Blk.mk false [] (8 : Nat) cap (fun r => [AV.int IntKind.i64 (OC.kd o r), AV.part (0 : Nat) [r], AV.int IntKind.i64 (OC.fo o r), AV.int IntKind.i64 (OC.fa o r), AV.int IntKind.i64 (OC.fb o r), AV.int IntKind.i64 (OC.pa o r), AV.int IntKind.i64 (OC.ra o r), AV.int IntKind.i64 (OC.co o r)]) [] none),
              some (Blk.mk true [AV.int IntKind.i64 G, AV.sl (1 : Nat) (0 : Nat) (8 : Nat) (0 : Nat) len cap] (0 : Nat) (0 : Nat) (fun x => []) [] none), some (Blk.mk true [AV.nils] (0 : Nat) (0 : Nat) (fun x => []) [] none), some (Blk.mk true [] (1 : Nat) len (fun j => [AV.bool (p j)]) [] none),
              some (Blk.mk true [AV.sl (4 : Nat) (0 : Nat) (1 : Nat) (0 : Nat) len len] (0 : Nat) (0 : Nat) (fun x => []) [] none),
              some (Blk.mk true [AV.fn (Fn.func (49 : FuncId)) [] [AV.ptr (2 : Nat) (0 : Nat) (0 : Nat) (0 : Nat), AV.ptr (5 : Nat) (0 : Nat) (0 : Nat) (0 : Nat), AV.ptr (3 : Nat) (0 : Nat) (0 : Nat) (0 : Nat), AV.ptr (6 : Nat) (0 : Nat) (0 : Nat) (0 : Nat)]] (0 : Nat) (0 : Nat) (fun x => []) [] none)]))
      (T.chk (decide ((0 : Int) ≤ Int.negSucc i) && decide (Int.negSucc i < (↑len : Int)))
        (T.chk (decide ((0 : Nat) + Int.toNat (Int.negSucc i) < len))
          (T.ite (p ((0 : Nat) + Int.toNat (Int.negSucc i)))
            (T.ret
              (Ex.ret,
                St.mk []
                  [some (Blk.mk false [] (0 : Nat) (0 : Nat) (fun x => []) [] (some fun js => Mem.mk (FD.nl x js) (FD.ad x js) (FD.ln x js) (FD.cp x js) (1 : Nat) fun q => [AV.int IntKind.i64 (FD.z x (q :: js))])),
                    some (Blk.mk false [] (8 : Nat) cap (fun r => [AV.int IntKind.i64 (OC.kd o r), AV.part (0 : Nat) [r], AV.int IntKind.i64 (OC.fo o r), AV.int IntKind.i64 (OC.fa o r), AV.int IntKind.i64 (OC.fb o r), AV.int IntKind.i64 (OC.pa o r), AV.int IntKind.i64 (OC.ra o r), AV.int IntKind.i64 (OC.co o r)]) [] none),
                    some (Blk.mk true [AV.int IntKind.i64 G, AV.sl (1 : Nat) (0 : Nat) (8 : Nat) (0 : Nat) len cap] (0 : Nat) (0 : Nat) (fun x => []) [] none), some (Blk.mk true [AV.nils] (0 : Nat) (0 : Nat) (fun x => []) [] none), some (Blk.mk true [] (1 : Nat) len (fun j => [AV.bool (p j)]) [] none),
                    some (Blk.mk true [AV.sl (4 : Nat) (0 : Nat) (1 : Nat) (0 : Nat) len len] (0 : Nat) (0 : Nat) (fun x => []) [] none),
                    some (Blk.mk true [AV.fn (Fn.func (49 : FuncId)) [] [AV.ptr (2 : Nat) (0 : Nat) (0 : Nat) (0 : Nat), AV.ptr (5 : Nat) (0 : Nat) (0 : Nat) (0 : Nat), AV.ptr (3 : Nat) (0 : Nat) (0 : Nat) (0 : Nat), AV.ptr (6 : Nat) (0 : Nat) (0 : Nat) (0 : Nat)]] (0 : Nat) (0 : Nat) (fun x => []) [] none)]))
            (T.chk (decide ((0 : Int) ≤ Int.negSucc i) && decide (Int.negSucc i < (↑len : Int)))
              (T.chk (decide ((0 : Nat) + Int.toNat (Int.negSucc i) < len))
                (T.chk (decide ((0 : Int) ≤ Int.negSucc i) && decide (Int.negSucc i < (↑len : Int)))
                  (T.chk (decide ((0 : Nat) + Int.toNat (Int.negSucc i) < cap))
                    (T.ite (OC.kd o ((0 : Nat) + Int.toNat (Int.negSucc i)) == (1 : Int))
                      (T.chk true
                        (@T.chk (Ex × St) true
                          (T.chk true
                            (T.all fun c =>
                              T.asm (decide ((1 : Nat) ≤ c))
                                (T.chk (decide ((0 : Int) ≤ Int.negSucc i) && decide (Int.negSucc i < (↑len : Int)))
                                  (T.chk (decide ((0 : Nat) + Int.toNat (Int.negSucc i) < cap))
                                    (T.ite (FD.nl x [(0 : Nat) + Int.toNat (Int.negSucc i)])
                                      (T.ret
                                        (Ex.norm,
                                          St.mk []
                                            [some (Blk.mk false [] (0 : Nat) (0 : Nat) (fun x => []) [] (some fun js => Mem.mk (FD.nl x js) (FD.ad x js) (FD.ln x js) (FD.cp x js) (1 : Nat) fun q => [AV.int IntKind.i64 (FD.z x (q :: js))])),
                                              some (Blk.mk false [] (8 : Nat) cap (fun r => [AV.int IntKind.i64 (OC.kd o r), AV.part (0 : Nat) [r], AV.int IntKind.i64 (OC.fo o r), AV.int IntKind.i64 (OC.fa o r), AV.int IntKind.i64 (OC.fb o r), AV.int IntKind.i64 (OC.pa o r), AV.int IntKind.i64 (OC.ra o r), AV.int IntKind.i64 (OC.co o r)]) [] none),
                                              some (Blk.mk true [AV.int IntKind.i64 G, AV.sl (1 : Nat) (0 : Nat) (8 : Nat) (0 : Nat) len cap] (0 : Nat) (0 : Nat) (fun x => []) [] none), some (Blk.mk true [AV.sl (8 : Nat) (0 : Nat) (1 : Nat) (0 : Nat) (1 : Nat) c] (0 : Nat) (0 : Nat) (fun a => []) [] none),
                                              some (Blk.mk true [] (1 : Nat) len (fun i_1 => Blk.setRow ((1 : Nat) == (1 : Nat)) (fun j => [AV.bool (p j)]) ((0 : Nat) + Int.toNat (Int.negSucc i)) (0 : Nat) AV.tt i_1) [] none), some (Blk.mk true [AV.sl (4 : Nat) (0 : Nat) (1 : Nat) (0 : Nat) len len] (0 : Nat) (0 : Nat) (fun x => []) [] none),
                                              some (Blk.mk true [AV.fn (Fn.func (49 : FuncId)) [] [AV.ptr (2 : Nat) (0 : Nat) (0 : Nat) (0 : Nat), AV.ptr (5 : Nat) (0 : Nat) (0 : Nat) (0 : Nat), AV.ptr (3 : Nat) (0 : Nat) (0 : Nat) (0 : Nat), AV.ptr (6 : Nat) (0 : Nat) (0 : Nat) (0 : Nat)]] (0 : Nat) (0 : Nat) (fun x => []) [] none),
                                              some (Blk.mk true [] (1 : Nat) (1 : Nat) (fun i_1 => [AV.int IntKind.i64 (List.getD [Int.negSucc i] i_1 (0 : Int))]) [] none),
                                              some (Blk.mk true [] (1 : Nat) c (fun r => if r < (0 : Nat) then [] else if r < (1 : Nat) then List.map (fun c => Col.at c ((0 : Nat) + (r - (0 : Nat)))) ([] ++ [Col.ints IntKind.i64 [Int.negSucc i]]) else AV.cells (AV.int IntKind.i64 (0 : Int))) [] none)]))
                                      (T.ret
                                        (Ex.norm,
                                          St.mk []
                                            [some (Blk.mk false [] (0 : Nat) (0 : Nat) (fun x => []) [] (some fun js => Mem.mk (FD.nl x js) (FD.ad x js) (FD.ln x js) (FD.cp x js) (1 : Nat) fun q => [AV.int IntKind.i64 (FD.z x (q :: js))])),
                                              some (Blk.mk false [] (8 : Nat) cap (fun r => [AV.int IntKind.i64 (OC.kd o r), AV.part (0 : Nat) [r], AV.int IntKind.i64 (OC.fo o r), AV.int IntKind.i64 (OC.fa o r), AV.int IntKind.i64 (OC.fb o r), AV.int IntKind.i64 (OC.pa o r), AV.int IntKind.i64 (OC.ra o r), AV.int IntKind.i64 (OC.co o r)]) [] none),
                                              some (Blk.mk true [AV.int IntKind.i64 G, AV.sl (1 : Nat) (0 : Nat) (8 : Nat) (0 : Nat) len cap] (0 : Nat) (0 : Nat) (fun x => []) [] none), some (Blk.mk true [AV.sl (8 : Nat) (0 : Nat) (1 : Nat) (0 : Nat) (1 : Nat) c] (0 : Nat) (0 : Nat) (fun a => []) [] none),
                                              some (Blk.mk true [] (1 : Nat) len (fun i_1 => Blk.setRow ((1 : Nat) == (1 : Nat)) (fun j => [AV.bool (p j)]) ((0 : Nat) + Int.toNat (Int.negSucc i)) (0 : Nat) AV.tt i_1) [] none), some (Blk.mk true [AV.sl (4 : Nat) (0 : Nat) (1 : Nat) (0 : Nat) len len] (0 : Nat) (0 : Nat) (fun x => []) [] none),
                                              some (Blk.mk true [AV.fn (Fn.func (49 : FuncId)) [] [AV.ptr (2 : Nat) (0 : Nat) (0 : Nat) (0 : Nat), AV.ptr (5 : Nat) (0 : Nat) (0 : Nat) (0 : Nat), AV.ptr (3 : Nat) (0 : Nat) (0 : Nat) (0 : Nat), AV.ptr (6 : Nat) (0 : Nat) (0 : Nat) (0 : Nat)]] (0 : Nat) (0 : Nat) (fun x => []) [] none),
                                              some (Blk.mk true [] (1 : Nat) (1 : Nat) (fun i_1 => [AV.int IntKind.i64 (List.getD [Int.negSucc i] i_1 (0 : Int))]) [] none),
                                              some (Blk.mk true [] (1 : Nat) c (fun r => if r < (0 : Nat) then [] else if r < (1 : Nat) then List.map (fun c => Col.at c ((0 : Nat) + (r - (0 : Nat)))) ([] ++ [Col.ints IntKind.i64 [Int.negSucc i]]) else AV.cells (AV.int IntKind.i64 (0 : Int))) [] none),
                                              some (Blk.mk false [] (1 : Nat) (FD.cp x [(0 : Nat) + Int.toNat (Int.negSucc i)]) (fun a => [AV.int IntKind.i64 (FD.z x [a, (0 : Nat) + Int.toNat (Int.negSucc i)])]) [] none)])))))))))
                      (T.chk (decide ((0 : Int) ≤ Int.negSucc i) && decide (Int.negSucc i < (↑len : Int)))
                        (T.chk (decide ((0 : Nat) + Int.toNat (Int.negSucc i) < cap))
                          (T.ite (FD.nl x [(0 : Nat) + Int.toNat (Int.negSucc i)])
                            (T.ret
                              (Ex.norm,
                                St.mk []
                                  [some (Blk.mk false [] (0 : Nat) (0 : Nat) (fun x => []) [] (some fun js => Mem.mk (FD.nl x js) (FD.ad x js) (FD.ln x js) (FD.cp x js) (1 : Nat) fun q => [AV.int IntKind.i64 (FD.z x (q :: js))])),
                                    some (Blk.mk false [] (8 : Nat) cap (fun r => [AV.int IntKind.i64 (OC.kd o r), AV.part (0 : Nat) [r], AV.int IntKind.i64 (OC.fo o r), AV.int IntKind.i64 (OC.fa o r), AV.int IntKind.i64 (OC.fb o r), AV.int IntKind.i64 (OC.pa o r), AV.int IntKind.i64 (OC.ra o r), AV.int IntKind.i64 (OC.co o r)]) [] none),
                                    some (Blk.mk true [AV.int IntKind.i64 G, AV.sl (1 : Nat) (0 : Nat) (8 : Nat) (0 : Nat) len cap] (0 : Nat) (0 : Nat) (fun x => []) [] none), some (Blk.mk true [AV.nils] (0 : Nat) (0 : Nat) (fun x => []) [] none),
                                    some (Blk.mk true [] (1 : Nat) len (fun i_1 => Blk.setRow ((1 : Nat) == (1 : Nat)) (fun j => [AV.bool (p j)]) ((0 : Nat) + Int.toNat (Int.negSucc i)) (0 : Nat) AV.tt i_1) [] none), some (Blk.mk true [AV.sl (4 : Nat) (0 : Nat) (1 : Nat) (0 : Nat) len len] (0 : Nat) (0 : Nat) (fun x => []) [] none),
                                    some (Blk.mk true [AV.fn (Fn.func (49 : FuncId)) [] [AV.ptr (2 : Nat) (0 : Nat) (0 : Nat) (0 : Nat), AV.ptr (5 : Nat) (0 : Nat) (0 : Nat) (0 : Nat), AV.ptr (3 : Nat) (0 : Nat) (0 : Nat) (0 : Nat), AV.ptr (6 : Nat) (0 : Nat) (0 : Nat) (0 : Nat)]] (0 : Nat) (0 : Nat) (fun x => []) [] none)]))
                            (T.ret
                              (Ex.norm,
                                St.mk []
                                  [some (Blk.mk false [] (0 : Nat) (0 : Nat) (fun x => []) [] (some fun js => Mem.mk (FD.nl x js) (FD.ad x js) (FD.ln x js) (FD.cp x js) (1 : Nat) fun q => [AV.int IntKind.i64 (FD.z x (q :: js))])),
                                    some (Blk.mk false [] (8 : Nat) cap (fun r => [AV.int IntKind.i64 (OC.kd o r), AV.part (0 : Nat) [r], AV.int IntKind.i64 (OC.fo o r), AV.int IntKind.i64 (OC.fa o r), AV.int IntKind.i64 (OC.fb o r), AV.int IntKind.i64 (OC.pa o r), AV.int IntKind.i64 (OC.ra o r), AV.int IntKind.i64 (OC.co o r)]) [] none),
                                    some (Blk.mk true [AV.int IntKind.i64 G, AV.sl (1 : Nat) (0 : Nat) (8 : Nat) (0 : Nat) len cap] (0 : Nat) (0 : Nat) (fun x => []) [] none), some (Blk.mk true [AV.nils] (0 : Nat) (0 : Nat) (fun x => []) [] none),
                                    some (Blk.mk true [] (1 : Nat) len (fun i_1 => Blk.setRow ((1 : Nat) == (1 : Nat)) (fun j => [AV.bool (p j)]) ((0 : Nat) + Int.toNat (Int.negSucc i)) (0 : Nat) AV.tt i_1) [] none), some (Blk.mk true [AV.sl (4 : Nat) (0 : Nat) (1 : Nat) (0 : Nat) len len] (0 : Nat) (0 : Nat) (fun x => []) [] none),
                                    some (Blk.mk true [AV.fn (Fn.func (49 : FuncId)) [] [AV.ptr (2 : Nat) (0 : Nat) (0 : Nat) (0 : Nat), AV.ptr (5 : Nat) (0 : Nat) (0 : Nat) (0 : Nat), AV.ptr (3 : Nat) (0 : Nat) (0 : Nat) (0 : Nat), AV.ptr (6 : Nat) (0 : Nat) (0 : Nat) (0 : Nat)]] (0 : Nat) (0 : Nat) (fun x => []) [] none),
                                    some (Blk.mk false [] (1 : Nat) (FD.cp x [(0 : Nat) + Int.toNat (Int.negSucc i)]) (fun a => [AV.int IntKind.i64 (FD.z x [a, (0 : Nat) + Int.toNat (Int.negSucc i)])]) [] none)])))))))))))))) := by
  kernel_rfl

theorem fo_m1 (x : FD) (o : OC) (G : Int) (len cap k n0 : Nat) (p : Nat → Bool) (n c : Nat) (f : Nat → Int) (i : Nat) : T.cut (keepT [] (acodeL Try.prog (foE x o G len cap k n0) ((chainOf (codeOf Try.f49)).take 6) ⟨foAr (Int.negSucc i), foM x o G len cap ⟨p, true, n, c, f⟩ false⟩)) [2, 0, 2, 0, 2, 0, 2, 2, 2, 0, 2, 0] = 
  T.ite (decide (Int.negSucc i < (0 : Int)))
    (T.ret
      (Ex.ret,
        St.mk []
          [some (Blk.mk false [] (0 : Nat) (0 : Nat) (fun x => []) [] (some fun js => Mem.mk (FD.nl x js) (FD.ad x js) (FD.ln x js) (FD.cp x js) (1 : Nat) fun q => [AV.int IntKind.i64 (FD.z x (q :: js))])),
            some (Blk.mk false [] (8 : Nat) cap (fun r => [AV.int IntKind.i64 (OC.kd o r), AV.part (0 : Nat) [r], AV.int IntKind.i64 (OC.fo o r), AV.int IntKind.i64 (OC.fa o r), AV.int IntKind.i64 (OC.fb o r), AV.int IntKind.i64 (OC.pa o r), AV.int IntKind.i64 (OC.ra o r), AV.int IntKind.i64 (OC.co o r)]) [] none),
            some (Blk.mk true [AV.int IntKind.i64 G, AV.sl (1 : Nat) (0 : Nat) (8 : Nat) (0 : Nat) len cap] (0 : Nat) (0 : Nat) (fun x => []) [] none), some (Blk.mk true [AV.sl (7 : Nat) (0 : Nat) (1 : Nat) (0 : Nat) n c] (0 : Nat) (0 : Nat) (fun x => []) [] none), some (Blk.mk true [] (1 : Nat) len (fun j => [AV.bool (p j)]) [] none),
            some (Blk.mk true [AV.sl (4 : Nat) (0 : Nat) (1 : Nat) (0 : Nat) len len] (0 : Nat) (0 : Nat) (fun x => []) [] none),
            some (Blk.mk true [AV.fn (Fn.func (49 : FuncId)) [] [AV.ptr (2 : Nat) (0 : Nat) (0 : Nat) (0 : Nat), AV.ptr (5 : Nat) (0 : Nat) (0 : Nat) (0 : Nat), AV.ptr (3 : Nat) (0 : Nat) (0 : Nat) (0 : Nat), AV.ptr (6 : Nat) (0 : Nat) (0 : Nat) (0 : Nat)]] (0 : Nat) (0 : Nat) (fun x => []) [] none), some (Blk.mk true [] (1 : Nat) c (fun j => [AV.int IntKind.i64 (f j)]) [] none)]))
    (T.ite (decide (Int.negSucc i ≥ (↑len : Int)))
      (T.ret
        (Ex.ret,
          St.mk []
            [some (Blk.mk false [] (0 : Nat) (0 : Nat) (fun x => []) [] (some fun js => Mem.mk (FD.nl x js) (FD.ad x js) (FD.ln x js) (FD.cp x js) (1 : Nat) fun q => [AV.int IntKind.i64 (FD.z x (q :: js))])),
              some (Blk.mk false [] (8 : Nat) cap (fun r => [AV.int IntKind.i64 (OC.kd o r), AV.part (0 : Nat) [r], AV.int IntKind.i64 (OC.fo o r), AV.int IntKind.i64 (OC.fa o r), AV.int IntKind.i64 (OC.fb o r), AV.int IntKind.i64 (OC.pa o r), AV.int IntKind.i64 (OC.ra o r), AV.int IntKind.i64 (OC.co o r)]) [] none),
              some (Blk.mk true [AV.int IntKind.i64 G, AV.sl (1 : Nat) (0 : Nat) (8 : Nat) (0 : Nat) len cap] (0 : Nat) (0 : Nat) (fun x => []) [] none), some (Blk.mk true [AV.sl (7 : Nat) (0 : Nat) (1 : Nat) (0 : Nat) n c] (0 : Nat) (0 : Nat) (fun x => []) [] none), some (Blk.mk true [] (1 : Nat) len (fun j => [AV.bool (p j)]) [] none),
              some (Blk.mk true [AV.sl (4 : Nat) (0 : Nat) (1 : Nat) (0 : Nat) len len] (0 : Nat) (0 : Nat) (fun x => []) [] none),
              some (Blk.mk true [AV.fn (Fn.func (49 : FuncId)) [] [AV.ptr (2 : Nat) (0 : Nat) (0 : Nat) (0 : Nat), AV.ptr (5 : Nat) (0 : Nat) (0 : Nat) (0 : Nat), AV.ptr (3 : Nat) (0 : Nat) (0 : Nat) (0 : Nat), AV.ptr (6 : Nat) (0 : Nat) (0 : Nat) (0 : Nat)]] (0 : Nat) (0 : Nat) (fun x => []) [] none), some (Blk.mk true [] (1 : Nat) c (fun j => [AV.int IntKind.i64 (f j)]) [] none)]))
      (T.chk (decide ((0 : Int) ≤ Int.negSucc i) && decide (Int.negSucc i < (↑len : Int)))
        (T.chk (decide ((0 : Nat) + Int.toNat (Int.negSucc i) < len))
          (T.ite (p ((0 : Nat) + Int.toNat (Int.negSucc i)))
            (T.ret
              (Ex.ret,
                St.mk []
                  [some (Blk.mk false [] (0 : Nat) (0 : Nat) (fun x => []) [] (some fun js => Mem.mk (FD.nl x js) (FD.ad x js) (FD.ln x js) (FD.cp x js) (1 : Nat) fun q => [AV.int IntKind.i64 (FD.z x (q :: js))])),
                    some (Blk.mk false [] (8 : Nat) cap (fun r => [AV.int IntKind.i64 (OC.kd o r), AV.part (0 : Nat) [r], AV.int IntKind.i64 (OC.fo o r), AV.int IntKind.i64 (OC.fa o r), AV.int IntKind.i64 (OC.fb o r), AV.int IntKind.i64 (OC.pa o r), AV.int IntKind.i64 (OC.ra o r), AV.int IntKind.i64 (OC.co o r)]) [] none),
                    some (Blk.mk true [AV.int IntKind.i64 G, AV.sl (1 : Nat) (0 : Nat) (8 : Nat) (0 : Nat) len cap] (0 : Nat) (0 : Nat) (fun x => []) [] none), some (Blk.mk true [AV.sl (7 : Nat) (0 : Nat) (1 : Nat) (0 : Nat) n c] (0 : Nat) (0 : Nat) (fun x => []) [] none), some (Blk.mk true [] (1 : Nat) len (fun j => [AV.bool (p j)]) [] none),
                    some (Blk.mk true [AV.sl (4 : Nat) (0 : Nat) (1 : Nat) (0 : Nat) len len] (0 : Nat) (0 : Nat) (fun x => []) [] none),
                    some (Blk.mk true [AV.fn (Fn.func (49 : FuncId)) [] [AV.ptr (2 : Nat) (0 : Nat) (0 : Nat) (0 : Nat), AV.ptr (5 : Nat) (0 : Nat) (0 : Nat) (0 : Nat), AV.ptr (3 : Nat) (0 : Nat) (0 : Nat) (0 : Nat), AV.ptr (6 : Nat) (0 : Nat) (0 : Nat) (0 : Nat)]] (0 : Nat) (0 : Nat) (fun x => []) [] none), some (Blk.mk true [] (1 : Nat) c (fun j => [AV.int IntKind.i64 (f j)]) [] none)]))
            (T.chk (decide ((0 : Int) ≤ Int.negSucc i) && decide (Int.negSucc i < (↑len : Int)))
              (T.chk (decide ((0 : Nat) + Int.toNat (Int.negSucc i) < len))
                (T.chk (decide ((0 : Int) ≤ Int.negSucc i) && decide (Int.negSucc i < (↑len : Int)))
                  (T.chk (decide ((0 : Nat) + Int.toNat (Int.negSucc i) < cap))
                    (T.ite (OC.kd o ((0 : Nat) + Int.toNat (Int.negSucc i)) == (1 : Int))
                      (T.chk true
                        (T.chk (decide ((0 : Nat) + c ≤ c))
                          (T.chk (decide (n ≤ c))
                            (T.chk (decide (n + (1 : Nat) ≤ (4294967296 : Nat)))
                              (T.all fun c_1 =>
                                T.all fun c_2 =>
                                  T.asm (decide (n + (1 : Nat) ≤ c_1 ∧ (c_2 = (0 : Nat) ∨ c_1 = c)))
                                    (T.chk (decide ((0 : Int) ≤ Int.negSucc i) && decide (Int.negSucc i < (↑len : Int)))
                                      (T.chk (decide ((0 : Nat) + Int.toNat (Int.negSucc i) < cap))
                                        (T.ite (FD.nl x [(0 : Nat) + Int.toNat (Int.negSucc i)])
                                          (T.ret
                                            (Ex.norm,
                                              St.mk []
                                                [some (Blk.mk false [] (0 : Nat) (0 : Nat) (fun x => []) [] (some fun js => Mem.mk (FD.nl x js) (FD.ad x js) (FD.ln x js) (FD.cp x js) (1 : Nat) fun q => [AV.int IntKind.i64 (FD.z x (q :: js))])),
                                                  some (Blk.mk false [] (8 : Nat) cap (fun r => [AV.int IntKind.i64 (OC.kd o r), AV.part (0 : Nat) [r], AV.int IntKind.i64 (OC.fo o r), AV.int IntKind.i64 (OC.fa o r), AV.int IntKind.i64 (OC.fb o r), AV.int IntKind.i64 (OC.pa o r), AV.int IntKind.i64 (OC.ra o r), AV.int IntKind.i64 (OC.co o r)]) [] none),
                                                  some (Blk.mk true [AV.int IntKind.i64 G, AV.sl (1 : Nat) (0 : Nat) (8 : Nat) (0 : Nat) len cap] (0 : Nat) (0 : Nat) (fun x => []) [] none), some (Blk.mk true [AV.sl (9 : Nat) (0 : Nat) (1 : Nat) (0 : Nat) (n + (1 : Nat)) c_1] (0 : Nat) (0 : Nat) (fun a => []) [] none),
                                                  some (Blk.mk true [] (1 : Nat) len (fun i_1 => Blk.setRow ((1 : Nat) == (1 : Nat)) (fun j => [AV.bool (p j)]) ((0 : Nat) + Int.toNat (Int.negSucc i)) (0 : Nat) AV.tt i_1) [] none), some (Blk.mk true [AV.sl (4 : Nat) (0 : Nat) (1 : Nat) (0 : Nat) len len] (0 : Nat) (0 : Nat) (fun x => []) [] none),
                                                  some (Blk.mk true [AV.fn (Fn.func (49 : FuncId)) [] [AV.ptr (2 : Nat) (0 : Nat) (0 : Nat) (0 : Nat), AV.ptr (5 : Nat) (0 : Nat) (0 : Nat) (0 : Nat), AV.ptr (3 : Nat) (0 : Nat) (0 : Nat) (0 : Nat), AV.ptr (6 : Nat) (0 : Nat) (0 : Nat) (0 : Nat)]] (0 : Nat) (0 : Nat) (fun x => []) [] none), none,
                                                  some (Blk.mk true [] (1 : Nat) (1 : Nat) (fun i_1 => [AV.int IntKind.i64 (List.getD [Int.negSucc i] i_1 (0 : Int))]) [] none),
                                                  some
                                                    (Blk.mk true [] (1 : Nat) c_1 (fun r => if r < n then [AV.int IntKind.i64 (f ((0 : Nat) + r))] else if r < n + (1 : Nat) then List.map (fun c => Col.at c ((0 : Nat) + (r - n))) ([] ++ [Col.ints IntKind.i64 [Int.negSucc i]]) else if c_2 = (0 : Nat) then AV.cells (AV.int IntKind.i64 (0 : Int)) else [AV.int IntKind.i64 (f ((0 : Nat) + r))]) []
                                                      none)]))
                                          (T.ret
                                            (Ex.norm,
                                              St.mk []
                                                [some (Blk.mk false [] (0 : Nat) (0 : Nat) (fun x => []) [] (some fun js => Mem.mk (FD.nl x js) (FD.ad x js) (FD.ln x js) (FD.cp x js) (1 : Nat) fun q => [AV.int IntKind.i64 (FD.z x (q :: js))])),
                                                  some (Blk.mk false [] (8 : Nat) cap (fun r => [AV.int IntKind.i64 (OC.kd o r), AV.part (0 : Nat) [r], AV.int IntKind.i64 (OC.fo o r), AV.int IntKind.i64 (OC.fa o r), AV.int IntKind.i64 (OC.fb o r), AV.int IntKind.i64 (OC.pa o r), AV.int IntKind.i64 (OC.ra o r), AV.int IntKind.i64 (OC.co o r)]) [] none),
                                                  some (Blk.mk true [AV.int IntKind.i64 G, AV.sl (1 : Nat) (0 : Nat) (8 : Nat) (0 : Nat) len cap] (0 : Nat) (0 : Nat) (fun x => []) [] none), some (Blk.mk true [AV.sl (9 : Nat) (0 : Nat) (1 : Nat) (0 : Nat) (n + (1 : Nat)) c_1] (0 : Nat) (0 : Nat) (fun a => []) [] none),
                                                  some (Blk.mk true [] (1 : Nat) len (fun i_1 => Blk.setRow ((1 : Nat) == (1 : Nat)) (fun j => [AV.bool (p j)]) ((0 : Nat) + Int.toNat (Int.negSucc i)) (0 : Nat) AV.tt i_1) [] none), some (Blk.mk true [AV.sl (4 : Nat) (0 : Nat) (1 : Nat) (0 : Nat) len len] (0 : Nat) (0 : Nat) (fun x => []) [] none),
                                                  some (Blk.mk true [AV.fn (Fn.func (49 : FuncId)) [] [AV.ptr (2 : Nat) (0 : Nat) (0 : Nat) (0 : Nat), AV.ptr (5 : Nat) (0 : Nat) (0 : Nat) (0 : Nat), AV.ptr (3 : Nat) (0 : Nat) (0 : Nat) (0 : Nat), AV.ptr (6 : Nat) (0 : Nat) (0 : Nat) (0 : Nat)]] (0 : Nat) (0 : Nat) (fun x => []) [] none), none,
                                                  some (Blk.mk true [] (1 : Nat) (1 : Nat) (fun i_1 => [AV.int IntKind.i64 (List.getD [Int.negSucc i] i_1 (0 : Int))]) [] none),
                                                  some
                                                    (Blk.mk true [] (1 : Nat) c_1 (fun r => if r < n then [AV.int IntKind.i64 (f ((0 : Nat) + r))] else if r < n + (1 : Nat) then List.map (fun c => Col.at c ((0 : Nat) + (r - n))) ([] ++ [Col.ints IntKind.i64 [Int.negSucc i]]) else if c_2 = (0 : Nat) then AV.cells (AV.int IntKind.i64 (0 : Int)) else [AV.int IntKind.i64 (f ((0 : Nat) + r))]) [] none),
                                                  some (Blk.mk false [] (1 : Nat) (FD.cp x [(0 : Nat) + Int.toNat (Int.negSucc i)]) (fun a => [AV.int IntKind.i64 (FD.z x [a, (0 : Nat) + Int.toNat (Int.negSucc i)])]) [] none)]))))))))))
                      (T.chk (decide ((0 : Int) ≤ Int.negSucc i) && decide (Int.negSucc i < (↑len : Int)))
                        (T.chk (decide ((0 : Nat) + Int.toNat (Int.negSucc i) < cap))
                          (T.ite (FD.nl x [(0 : Nat) + Int.toNat (Int.negSucc i)])
                            (T.ret
                              (Ex.norm,
                                St.mk []
                                  [some (Blk.mk false [] (0 : Nat) (0 : Nat) (fun x => []) [] (some fun js => Mem.mk (FD.nl x js) (FD.ad x js) (FD.ln x js) (FD.cp x js) (1 : Nat) fun q => [AV.int IntKind.i64 (FD.z x (q :: js))])),
                                    some (Blk.mk false [] (8 : Nat) cap (fun r => [AV.int IntKind.i64 (OC.kd o r), AV.part (0 : Nat) [r], AV.int IntKind.i64 (OC.fo o r), AV.int IntKind.i64 (OC.fa o r), AV.int IntKind.i64 (OC.fb o r), AV.int IntKind.i64 (OC.pa o r), AV.int IntKind.i64 (OC.ra o r), AV.int IntKind.i64 (OC.co o r)]) [] none),
                                    some (Blk.mk true [AV.int IntKind.i64 G, AV.sl (1 : Nat) (0 : Nat) (8 : Nat) (0 : Nat) len cap] (0 : Nat) (0 : Nat) (fun x => []) [] none), some (Blk.mk true [AV.sl (7 : Nat) (0 : Nat) (1 : Nat) (0 : Nat) n c] (0 : Nat) (0 : Nat) (fun x => []) [] none),
                                    some (Blk.mk true [] (1 : Nat) len (fun i_1 => Blk.setRow ((1 : Nat) == (1 : Nat)) (fun j => [AV.bool (p j)]) ((0 : Nat) + Int.toNat (Int.negSucc i)) (0 : Nat) AV.tt i_1) [] none), some (Blk.mk true [AV.sl (4 : Nat) (0 : Nat) (1 : Nat) (0 : Nat) len len] (0 : Nat) (0 : Nat) (fun x => []) [] none),
                                    some (Blk.mk true [AV.fn (Fn.func (49 : FuncId)) [] [AV.ptr (2 : Nat) (0 : Nat) (0 : Nat) (0 : Nat), AV.ptr (5 : Nat) (0 : Nat) (0 : Nat) (0 : Nat), AV.ptr (3 : Nat) (0 : Nat) (0 : Nat) (0 : Nat), AV.ptr (6 : Nat) (0 : Nat) (0 : Nat) (0 : Nat)]] (0 : Nat) (0 : Nat) (fun x => []) [] none),
                                    some (Blk.mk true [] (1 : Nat) c (fun j => [AV.int IntKind.i64 (f j)]) [] none)]))
                            (T.ret
                              (Ex.norm,
                                St.mk []
                                  [some (Blk.mk false [] (0 : Nat) (0 : Nat) (fun x => []) [] (some fun js => Mem.mk (FD.nl x js) (FD.ad x js) (FD.ln x js) (FD.cp x js) (1 : Nat) fun q => [AV.int IntKind.i64 (FD.z x (q :: js))])),
                                    some (Blk.mk false [] (8 : Nat) cap (fun r => [AV.int IntKind.i64 (OC.kd o r), AV.part (0 : Nat) [r], AV.int IntKind.i64 (OC.fo o r), AV.int IntKind.i64 (OC.fa o r), AV.int IntKind.i64 (OC.fb o r), AV.int IntKind.i64 (OC.pa o r), AV.int IntKind.i64 (OC.ra o r), AV.int IntKind.i64 (OC.co o r)]) [] none),
                                    some (Blk.mk true [AV.int IntKind.i64 G, AV.sl (1 : Nat) (0 : Nat) (8 : Nat) (0 : Nat) len cap] (0 : Nat) (0 : Nat) (fun x => []) [] none), some (Blk.mk true [AV.sl (7 : Nat) (0 : Nat) (1 : Nat) (0 : Nat) n c] (0 : Nat) (0 : Nat) (fun x => []) [] none),
                                    some (Blk.mk true [] (1 : Nat) len (fun i_1 => Blk.setRow ((1 : Nat) == (1 : Nat)) (fun j => [AV.bool (p j)]) ((0 : Nat) + Int.toNat (Int.negSucc i)) (0 : Nat) AV.tt i_1) [] none), some (Blk.mk true [AV.sl (4 : Nat) (0 : Nat) (1 : Nat) (0 : Nat) len len] (0 : Nat) (0 : Nat) (fun x => []) [] none),
                                    some (Blk.mk true [AV.fn (Fn.func (49 : FuncId)) [] [AV.ptr (2 : Nat) (0 : Nat) (0 : Nat) (0 : Nat), AV.ptr (5 : Nat) (0 : Nat) (0 : Nat) (0 : Nat), AV.ptr (3 : Nat) (0 : Nat) (0 : Nat) (0 : Nat), AV.ptr (6 : Nat) (0 : Nat) (0 : Nat) (0 : Nat)]] (0 : Nat) (0 : Nat) (fun x => []) [] none),
                                    some (Blk.mk true [] (1 : Nat) c (fun j => [AV.int IntKind.i64 (f j)]) [] none), some (Blk.mk false [] (1 : Nat) (FD.cp x [(0 : Nat) + Int.toNat (Int.negSucc i)]) (fun a => [AV.int IntKind.i64 (FD.z x [a, (0 : Nat) + Int.toNat (Int.negSucc i)])]) [] none)])))))))))))))) := by
  kernel_rfl

theorem fo_n (x : FD) (o : OC) (G : Int) (len cap k n0 : Nat) (m : AM) : T.cut (keepT [] (acode Try.prog (foE x o G len cap k n0) foC ⟨[(43, .int .i64 0), (44, .int .i64 0)], m⟩)) [0] = 
  @T.chk (Ex × St) true (T.ret (Ex.exit (0 : Nat), St.mk [] m)) := by
  kernel_rfl

theorem fo_t0 (x : FD) (o : OC) (G : Int) (len cap k n0 : Nat) (p : Nat → Bool) (n c : Nat) (f : Nat → Int) (z : Nat → Int) (L C i : Nat) : T.cut (keepT [4, 42, 43, 44] (acode Try.prog (foE x o G len cap k n0) foC (foLp x o G len cap ⟨p, false, n, c, f⟩ false z L C i))) [2, 2, 2, 0] = 
  T.ite (decide ((↑i : Int) < (↑L : Int)))
    (T.chk (decide ((0 : Int) ≤ (↑i : Int)) && decide ((↑i : Int) < (↑L : Int)))
      (T.chk (decide ((0 : Nat) + Int.toNat (↑i : Int) < C))
        (T.need
          (spIn x o cap
              [some (Blk.mk false [] (0 : Nat) (0 : Nat) (fun x => []) [] (some fun js => Mem.mk (FD.nl x js) (FD.ad x js) (FD.ln x js) (FD.cp x js) (1 : Nat) fun q => [AV.int IntKind.i64 (FD.z x (q :: js))])),
                some (Blk.mk false [] (8 : Nat) cap (fun r => [AV.int IntKind.i64 (OC.kd o r), AV.part (0 : Nat) [r], AV.int IntKind.i64 (OC.fo o r), AV.int IntKind.i64 (OC.fa o r), AV.int IntKind.i64 (OC.fb o r), AV.int IntKind.i64 (OC.pa o r), AV.int IntKind.i64 (OC.ra o r), AV.int IntKind.i64 (OC.co o r)]) [] none),
                some (Blk.mk true [AV.int IntKind.i64 G, AV.sl (1 : Nat) (0 : Nat) (8 : Nat) (0 : Nat) len cap] (0 : Nat) (0 : Nat) (fun x => []) [] none), some (Blk.mk true [AV.nils] (0 : Nat) (0 : Nat) (fun x => []) [] none), some (Blk.mk true [] (1 : Nat) len (fun j => [AV.bool (p j)]) [] none),
                some (Blk.mk true [AV.sl (4 : Nat) (0 : Nat) (1 : Nat) (0 : Nat) len len] (0 : Nat) (0 : Nat) (fun x => []) [] none),
                some (Blk.mk true [AV.fn (Fn.func (49 : FuncId)) [] [AV.ptr (2 : Nat) (0 : Nat) (0 : Nat) (0 : Nat), AV.ptr (5 : Nat) (0 : Nat) (0 : Nat) (0 : Nat), AV.ptr (3 : Nat) (0 : Nat) (0 : Nat) (0 : Nat), AV.ptr (6 : Nat) (0 : Nat) (0 : Nat) (0 : Nat)]] (0 : Nat) (0 : Nat) (fun x => []) [] none), some (Blk.mk false [] (1 : Nat) C (fun a => [AV.int IntKind.i64 (z a)]) [] none)] ∧
            some (Blk.mk true [AV.int IntKind.i64 G, AV.sl (1 : Nat) (0 : Nat) (8 : Nat) (0 : Nat) len cap] (0 : Nat) (0 : Nat) (fun x => []) [] none) = some (Blk.mk true [AV.int IntKind.i64 G, AV.sl (1 : Nat) (0 : Nat) (8 : Nat) (0 : Nat) len cap] (0 : Nat) (0 : Nat) (fun x => []) [] none) ∧
              some (Blk.mk true [AV.sl (4 : Nat) (0 : Nat) (1 : Nat) (0 : Nat) len len] (0 : Nat) (0 : Nat) (fun x => []) [] none) = some (Blk.mk true [AV.sl (4 : Nat) (0 : Nat) (1 : Nat) (0 : Nat) len len] (0 : Nat) (0 : Nat) (fun x => []) [] none) ∧
                some (Blk.mk true [AV.fn (Fn.func (49 : FuncId)) [] [AV.ptr (2 : Nat) (0 : Nat) (0 : Nat) (0 : Nat), AV.ptr (5 : Nat) (0 : Nat) (0 : Nat) (0 : Nat), AV.ptr (3 : Nat) (0 : Nat) (0 : Nat) (0 : Nat), AV.ptr (6 : Nat) (0 : Nat) (0 : Nat) (0 : Nat)]] (0 : Nat) (0 : Nat) (fun x => []) [] none) =
                  some (Blk.mk true [AV.fn (Fn.func (49 : FuncId)) [] [AV.ptr (2 : Nat) (0 : Nat) (0 : Nat) (0 : Nat), AV.ptr (5 : Nat) (0 : Nat) (0 : Nat) (0 : Nat), AV.ptr (3 : Nat) (0 : Nat) (0 : Nat) (0 : Nat), AV.ptr (6 : Nat) (0 : Nat) (0 : Nat) (0 : Nat)]] (0 : Nat) (0 : Nat) (fun x => []) [] none))
          (T.need (BooRow (Blk.mk true [] (1 : Nat) len (fun j => [AV.bool (p j)]) [] none) len)
            (T.need (Blk.mk true [AV.nils] (0 : Nat) (0 : Nat) (fun x => []) [] none = Blk.mk true [AV.nils] (0 : Nat) (0 : Nat) (fun x => []) [] none)
              (T.chk (decide (cntF (booA (booB true len p)) len < k))
                (T.alf fun c =>
                  T.asm (decide (cntF (truB c) len ≤ cntF (booA (booB true len p)) len))
                    (T.all fun c_1 =>
                      T.ite (decide (c_1 = (0 : Nat)))
                        (T.ret
                          (Ex.norm,
                            St.mk [((4 : Nat), AV.ptr (6 : Nat) (0 : Nat) (0 : Nat) (0 : Nat)), ((42 : Nat), AV.sl (7 : Nat) (0 : Nat) (1 : Nat) (0 : Nat) L C), ((43 : Nat), AV.int IntKind.i64 (↑L : Int)), ((44 : Nat), AV.int IntKind.i64 (IntKind.wrap IntKind.i64 ((↑i : Int) + (1 : Int))))]
                              [some (Blk.mk false [] (0 : Nat) (0 : Nat) (fun x => []) [] (some fun js => Mem.mk (FD.nl x js) (FD.ad x js) (FD.ln x js) (FD.cp x js) (1 : Nat) fun q => [AV.int IntKind.i64 (FD.z x (q :: js))])),
                                some (Blk.mk false [] (8 : Nat) cap (fun r => [AV.int IntKind.i64 (OC.kd o r), AV.part (0 : Nat) [r], AV.int IntKind.i64 (OC.fo o r), AV.int IntKind.i64 (OC.fa o r), AV.int IntKind.i64 (OC.fb o r), AV.int IntKind.i64 (OC.pa o r), AV.int IntKind.i64 (OC.ra o r), AV.int IntKind.i64 (OC.co o r)]) [] none),
                                some (Blk.mk true [AV.int IntKind.i64 G, AV.sl (1 : Nat) (0 : Nat) (8 : Nat) (0 : Nat) len cap] (0 : Nat) (0 : Nat) (fun j => []) [] none), some (Blk.mk true [AV.nils] (0 : Nat) (0 : Nat) (fun j => []) [] none), some (Blk.mk true [] (1 : Nat) len (fun j => [AV.bool (truB c j)]) [] none),
                                some (Blk.mk true [AV.sl (4 : Nat) (0 : Nat) (1 : Nat) (0 : Nat) len len] (0 : Nat) (0 : Nat) (fun j => []) [] none),
                                some (Blk.mk true [AV.fn (Fn.func (49 : FuncId)) [] [AV.ptr (2 : Nat) (0 : Nat) (0 : Nat) (0 : Nat), AV.ptr (5 : Nat) (0 : Nat) (0 : Nat) (0 : Nat), AV.ptr (3 : Nat) (0 : Nat) (0 : Nat) (0 : Nat), AV.ptr (6 : Nat) (0 : Nat) (0 : Nat) (0 : Nat)]] (0 : Nat) (0 : Nat) (fun j => []) [] none),
                                some (Blk.mk false [] (1 : Nat) C (fun a => [AV.int IntKind.i64 (z a)]) [] none)]))
                        (T.all fun c_2 =>
                          T.all fun c_3 =>
                            T.alf fun c_4 =>
                              T.asm (decide (c_2 ≤ c_3 ∧ c_2 + cntF (truB c) len ≤ len))
                                (T.ret
                                  (Ex.norm,
                                    St.mk [((4 : Nat), AV.ptr (6 : Nat) (0 : Nat) (0 : Nat) (0 : Nat)), ((42 : Nat), AV.sl (7 : Nat) (0 : Nat) (1 : Nat) (0 : Nat) L C), ((43 : Nat), AV.int IntKind.i64 (↑L : Int)), ((44 : Nat), AV.int IntKind.i64 (IntKind.wrap IntKind.i64 ((↑i : Int) + (1 : Int))))]
                                      [some (Blk.mk false [] (0 : Nat) (0 : Nat) (fun x => []) [] (some fun js => Mem.mk (FD.nl x js) (FD.ad x js) (FD.ln x js) (FD.cp x js) (1 : Nat) fun q => [AV.int IntKind.i64 (FD.z x (q :: js))])),
                                        some (Blk.mk false [] (8 : Nat) cap (fun r => [AV.int IntKind.i64 (OC.kd o r), AV.part (0 : Nat) [r], AV.int IntKind.i64 (OC.fo o r), AV.int IntKind.i64 (OC.fa o r), AV.int IntKind.i64 (OC.fb o r), AV.int IntKind.i64 (OC.pa o r), AV.int IntKind.i64 (OC.ra o r), AV.int IntKind.i64 (OC.co o r)]) [] none),
                                        some (Blk.mk true [AV.int IntKind.i64 G, AV.sl (1 : Nat) (0 : Nat) (8 : Nat) (0 : Nat) len cap] (0 : Nat) (0 : Nat) (fun j => []) [] none), some (Blk.mk true [AV.sl (8 : Nat) (0 : Nat) (1 : Nat) (0 : Nat) c_2 c_3] (0 : Nat) (0 : Nat) (fun j => []) [] none), some (Blk.mk true [] (1 : Nat) len (fun j => [AV.bool (truB c j)]) [] none),
                                        some (Blk.mk true [AV.sl (4 : Nat) (0 : Nat) (1 : Nat) (0 : Nat) len len] (0 : Nat) (0 : Nat) (fun j => []) [] none),
                                        some (Blk.mk true [AV.fn (Fn.func (49 : FuncId)) [] [AV.ptr (2 : Nat) (0 : Nat) (0 : Nat) (0 : Nat), AV.ptr (5 : Nat) (0 : Nat) (0 : Nat) (0 : Nat), AV.ptr (3 : Nat) (0 : Nat) (0 : Nat) (0 : Nat), AV.ptr (6 : Nat) (0 : Nat) (0 : Nat) (0 : Nat)]] (0 : Nat) (0 : Nat) (fun j => []) [] none),
                                        some (Blk.mk false [] (1 : Nat) C (fun a => [AV.int IntKind.i64 (z a)]) [] none), some (Blk.mk true [] (1 : Nat) c_3 (fun j => [AV.int IntKind.i64 (c_4 j)]) [] none)])))))))))))
    (T.ret
      (Ex.exit (0 : Nat),
        St.mk [((4 : Nat), AV.ptr (6 : Nat) (0 : Nat) (0 : Nat) (0 : Nat)), ((42 : Nat), AV.sl (7 : Nat) (0 : Nat) (1 : Nat) (0 : Nat) L C), ((43 : Nat), AV.int IntKind.i64 (↑L : Int)), ((44 : Nat), AV.int IntKind.i64 (↑i : Int))]
          [some (Blk.mk false [] (0 : Nat) (0 : Nat) (fun x => []) [] (some fun js => Mem.mk (FD.nl x js) (FD.ad x js) (FD.ln x js) (FD.cp x js) (1 : Nat) fun q => [AV.int IntKind.i64 (FD.z x (q :: js))])),
            some (Blk.mk false [] (8 : Nat) cap (fun r => [AV.int IntKind.i64 (OC.kd o r), AV.part (0 : Nat) [r], AV.int IntKind.i64 (OC.fo o r), AV.int IntKind.i64 (OC.fa o r), AV.int IntKind.i64 (OC.fb o r), AV.int IntKind.i64 (OC.pa o r), AV.int IntKind.i64 (OC.ra o r), AV.int IntKind.i64 (OC.co o r)]) [] none),
            some (Blk.mk true [AV.int IntKind.i64 G, AV.sl (1 : Nat) (0 : Nat) (8 : Nat) (0 : Nat) len cap] (0 : Nat) (0 : Nat) (fun x => []) [] none), some (Blk.mk true [AV.nils] (0 : Nat) (0 : Nat) (fun x => []) [] none), some (Blk.mk true [] (1 : Nat) len (fun j => [AV.bool (p j)]) [] none),
            some (Blk.mk true [AV.sl (4 : Nat) (0 : Nat) (1 : Nat) (0 : Nat) len len] (0 : Nat) (0 : Nat) (fun x => []) [] none),
            some (Blk.mk true [AV.fn (Fn.func (49 : FuncId)) [] [AV.ptr (2 : Nat) (0 : Nat) (0 : Nat) (0 : Nat), AV.ptr (5 : Nat) (0 : Nat) (0 : Nat) (0 : Nat), AV.ptr (3 : Nat) (0 : Nat) (0 : Nat) (0 : Nat), AV.ptr (6 : Nat) (0 : Nat) (0 : Nat) (0 : Nat)]] (0 : Nat) (0 : Nat) (fun x => []) [] none), some (Blk.mk false [] (1 : Nat) C (fun a => [AV.int IntKind.i64 (z a)]) [] none)])) := by
  kernel_rfl

theorem fo_t1 (x : FD) (o : OC) (G : Int) (len cap k n0 : Nat) (p : Nat → Bool) (n c : Nat) (f : Nat → Int) (z : Nat → Int) (L C i : Nat) : T.cut (keepT [4, 42, 43, 44] (acode Try.prog (foE x o G len cap k n0) foC (foLp x o G len cap ⟨p, true, n, c, f⟩ false z L C i))) [2, 2, 2, 0] = 
  T.ite (decide ((↑i : Int) < (↑L : Int)))
    (T.chk (decide ((0 : Int) ≤ (↑i : Int)) && decide ((↑i : Int) < (↑L : Int)))
      (T.chk (decide ((0 : Nat) + Int.toNat (↑i : Int) < C))
        (T.need
          (spIn x o cap
              [some (Blk.mk false [] (0 : Nat) (0 : Nat) (fun x => []) [] (some fun js => Mem.mk (FD.nl x js) (FD.ad x js) (FD.ln x js) (FD.cp x js) (1 : Nat) fun q => [AV.int IntKind.i64 (FD.z x (q :: js))])),
                some (Blk.mk false [] (8 : Nat) cap (fun r => [AV.int IntKind.i64 (OC.kd o r), AV.part (0 : Nat) [r], AV.int IntKind.i64 (OC.fo o r), AV.int IntKind.i64 (OC.fa o r), AV.int IntKind.i64 (OC.fb o r), AV.int IntKind.i64 (OC.pa o r), AV.int IntKind.i64 (OC.ra o r), AV.int IntKind.i64 (OC.co o r)]) [] none),
                some (Blk.mk true [AV.int IntKind.i64 G, AV.sl (1 : Nat) (0 : Nat) (8 : Nat) (0 : Nat) len cap] (0 : Nat) (0 : Nat) (fun x => []) [] none), some (Blk.mk true [AV.sl (7 : Nat) (0 : Nat) (1 : Nat) (0 : Nat) n c] (0 : Nat) (0 : Nat) (fun x => []) [] none), some (Blk.mk true [] (1 : Nat) len (fun j => [AV.bool (p j)]) [] none),
                some (Blk.mk true [AV.sl (4 : Nat) (0 : Nat) (1 : Nat) (0 : Nat) len len] (0 : Nat) (0 : Nat) (fun x => []) [] none),
                some (Blk.mk true [AV.fn (Fn.func (49 : FuncId)) [] [AV.ptr (2 : Nat) (0 : Nat) (0 : Nat) (0 : Nat), AV.ptr (5 : Nat) (0 : Nat) (0 : Nat) (0 : Nat), AV.ptr (3 : Nat) (0 : Nat) (0 : Nat) (0 : Nat), AV.ptr (6 : Nat) (0 : Nat) (0 : Nat) (0 : Nat)]] (0 : Nat) (0 : Nat) (fun x => []) [] none), some (Blk.mk true [] (1 : Nat) c (fun j => [AV.int IntKind.i64 (f j)]) [] none),
                some (Blk.mk false [] (1 : Nat) C (fun a => [AV.int IntKind.i64 (z a)]) [] none)] ∧
            some (Blk.mk true [AV.int IntKind.i64 G, AV.sl (1 : Nat) (0 : Nat) (8 : Nat) (0 : Nat) len cap] (0 : Nat) (0 : Nat) (fun x => []) [] none) = some (Blk.mk true [AV.int IntKind.i64 G, AV.sl (1 : Nat) (0 : Nat) (8 : Nat) (0 : Nat) len cap] (0 : Nat) (0 : Nat) (fun x => []) [] none) ∧
              some (Blk.mk true [AV.sl (4 : Nat) (0 : Nat) (1 : Nat) (0 : Nat) len len] (0 : Nat) (0 : Nat) (fun x => []) [] none) = some (Blk.mk true [AV.sl (4 : Nat) (0 : Nat) (1 : Nat) (0 : Nat) len len] (0 : Nat) (0 : Nat) (fun x => []) [] none) ∧
                some (Blk.mk true [AV.fn (Fn.func (49 : FuncId)) [] [AV.ptr (2 : Nat) (0 : Nat) (0 : Nat) (0 : Nat), AV.ptr (5 : Nat) (0 : Nat) (0 : Nat) (0 : Nat), AV.ptr (3 : Nat) (0 : Nat) (0 : Nat) (0 : Nat), AV.ptr (6 : Nat) (0 : Nat) (0 : Nat) (0 : Nat)]] (0 : Nat) (0 : Nat) (fun x => []) [] none) =
                  some (Blk.mk true [AV.fn (Fn.func (49 : FuncId)) [] [AV.ptr (2 : Nat) (0 : Nat) (0 : Nat) (0 : Nat), AV.ptr (5 : Nat) (0 : Nat) (0 : Nat) (0 : Nat), AV.ptr (3 : Nat) (0 : Nat) (0 : Nat) (0 : Nat), AV.ptr (6 : Nat) (0 : Nat) (0 : Nat) (0 : Nat)]] (0 : Nat) (0 : Nat) (fun x => []) [] none))
          (T.need (BooRow (Blk.mk true [] (1 : Nat) len (fun j => [AV.bool (p j)]) [] none) len)
            (T.need (Blk.mk true [AV.sl (7 : Nat) (0 : Nat) (1 : Nat) (0 : Nat) n c] (0 : Nat) (0 : Nat) (fun x => []) [] none = Blk.mk true [AV.sl (7 : Nat) (0 : Nat) (1 : Nat) (0 : Nat) n c] (0 : Nat) (0 : Nat) (fun x => []) [] none ∧ IsI64 (Blk.mk true [] (1 : Nat) c (fun j => [AV.int IntKind.i64 (f j)]) [] none) c ∧ (7 : Nat) ≤ (7 : Nat))
              (T.chk (decide (cntF (booA (booB true len p)) len < k ∧ n ≤ c ∧ n + cntF (booA (booB true len p)) len ≤ len))
                (T.alf fun c_1 =>
                  T.asm (decide (cntF (truB c_1) len ≤ cntF (booA (booB true len p)) len))
                    (T.all fun c_2 =>
                      T.ite (decide (c_2 = (0 : Nat)))
                        (T.ret
                          (Ex.norm,
                            St.mk [((4 : Nat), AV.ptr (6 : Nat) (0 : Nat) (0 : Nat) (0 : Nat)), ((42 : Nat), AV.sl (8 : Nat) (0 : Nat) (1 : Nat) (0 : Nat) L C), ((43 : Nat), AV.int IntKind.i64 (↑L : Int)), ((44 : Nat), AV.int IntKind.i64 (IntKind.wrap IntKind.i64 ((↑i : Int) + (1 : Int))))]
                              [some (Blk.mk false [] (0 : Nat) (0 : Nat) (fun x => []) [] (some fun js => Mem.mk (FD.nl x js) (FD.ad x js) (FD.ln x js) (FD.cp x js) (1 : Nat) fun q => [AV.int IntKind.i64 (FD.z x (q :: js))])),
                                some (Blk.mk false [] (8 : Nat) cap (fun r => [AV.int IntKind.i64 (OC.kd o r), AV.part (0 : Nat) [r], AV.int IntKind.i64 (OC.fo o r), AV.int IntKind.i64 (OC.fa o r), AV.int IntKind.i64 (OC.fb o r), AV.int IntKind.i64 (OC.pa o r), AV.int IntKind.i64 (OC.ra o r), AV.int IntKind.i64 (OC.co o r)]) [] none),
                                some (Blk.mk true [AV.int IntKind.i64 G, AV.sl (1 : Nat) (0 : Nat) (8 : Nat) (0 : Nat) len cap] (0 : Nat) (0 : Nat) (fun j => []) [] none), some (Blk.mk true [AV.sl (7 : Nat) (0 : Nat) (1 : Nat) (0 : Nat) n c] (0 : Nat) (0 : Nat) (fun j => []) [] none), some (Blk.mk true [] (1 : Nat) len (fun j => [AV.bool (truB c_1 j)]) [] none),
                                some (Blk.mk true [AV.sl (4 : Nat) (0 : Nat) (1 : Nat) (0 : Nat) len len] (0 : Nat) (0 : Nat) (fun j => []) [] none),
                                some (Blk.mk true [AV.fn (Fn.func (49 : FuncId)) [] [AV.ptr (2 : Nat) (0 : Nat) (0 : Nat) (0 : Nat), AV.ptr (5 : Nat) (0 : Nat) (0 : Nat) (0 : Nat), AV.ptr (3 : Nat) (0 : Nat) (0 : Nat) (0 : Nat), AV.ptr (6 : Nat) (0 : Nat) (0 : Nat) (0 : Nat)]] (0 : Nat) (0 : Nat) (fun j => []) [] none), some (Blk.mk true [] (1 : Nat) c (fun j => [AV.int IntKind.i64 (f j)]) [] none),
                                some (Blk.mk false [] (1 : Nat) C (fun a => [AV.int IntKind.i64 (z a)]) [] none)]))
                        (T.all fun c =>
                          T.all fun c_3 =>
                            T.alf fun c_4 =>
                              T.asm (decide (c ≤ c_3 ∧ c + cntF (truB c_1) len ≤ len))
                                (T.ret
                                  (Ex.norm,
                                    St.mk [((4 : Nat), AV.ptr (6 : Nat) (0 : Nat) (0 : Nat) (0 : Nat)), ((42 : Nat), AV.sl (8 : Nat) (0 : Nat) (1 : Nat) (0 : Nat) L C), ((43 : Nat), AV.int IntKind.i64 (↑L : Int)), ((44 : Nat), AV.int IntKind.i64 (IntKind.wrap IntKind.i64 ((↑i : Int) + (1 : Int))))]
                                      [some (Blk.mk false [] (0 : Nat) (0 : Nat) (fun x => []) [] (some fun js => Mem.mk (FD.nl x js) (FD.ad x js) (FD.ln x js) (FD.cp x js) (1 : Nat) fun q => [AV.int IntKind.i64 (FD.z x (q :: js))])),
                                        some (Blk.mk false [] (8 : Nat) cap (fun r => [AV.int IntKind.i64 (OC.kd o r), AV.part (0 : Nat) [r], AV.int IntKind.i64 (OC.fo o r), AV.int IntKind.i64 (OC.fa o r), AV.int IntKind.i64 (OC.fb o r), AV.int IntKind.i64 (OC.pa o r), AV.int IntKind.i64 (OC.ra o r), AV.int IntKind.i64 (OC.co o r)]) [] none),
                                        some (Blk.mk true [AV.int IntKind.i64 G, AV.sl (1 : Nat) (0 : Nat) (8 : Nat) (0 : Nat) len cap] (0 : Nat) (0 : Nat) (fun j => []) [] none), some (Blk.mk true [AV.sl (9 : Nat) (0 : Nat) (1 : Nat) (0 : Nat) c c_3] (0 : Nat) (0 : Nat) (fun j => []) [] none), some (Blk.mk true [] (1 : Nat) len (fun j => [AV.bool (truB c_1 j)]) [] none),
                                        some (Blk.mk true [AV.sl (4 : Nat) (0 : Nat) (1 : Nat) (0 : Nat) len len] (0 : Nat) (0 : Nat) (fun j => []) [] none),
                                        some (Blk.mk true [AV.fn (Fn.func (49 : FuncId)) [] [AV.ptr (2 : Nat) (0 : Nat) (0 : Nat) (0 : Nat), AV.ptr (5 : Nat) (0 : Nat) (0 : Nat) (0 : Nat), AV.ptr (3 : Nat) (0 : Nat) (0 : Nat) (0 : Nat), AV.ptr (6 : Nat) (0 : Nat) (0 : Nat) (0 : Nat)]] (0 : Nat) (0 : Nat) (fun j => []) [] none), none,
                                        some (Blk.mk false [] (1 : Nat) C (fun a => [AV.int IntKind.i64 (z a)]) [] none), some (Blk.mk true [] (1 : Nat) c_3 (fun j => [AV.int IntKind.i64 (c_4 j)]) [] none)])))))))))))
    (T.ret
      (Ex.exit (0 : Nat),
        St.mk [((4 : Nat), AV.ptr (6 : Nat) (0 : Nat) (0 : Nat) (0 : Nat)), ((42 : Nat), AV.sl (8 : Nat) (0 : Nat) (1 : Nat) (0 : Nat) L C), ((43 : Nat), AV.int IntKind.i64 (↑L : Int)), ((44 : Nat), AV.int IntKind.i64 (↑i : Int))]
          [some (Blk.mk false [] (0 : Nat) (0 : Nat) (fun x => []) [] (some fun js => Mem.mk (FD.nl x js) (FD.ad x js) (FD.ln x js) (FD.cp x js) (1 : Nat) fun q => [AV.int IntKind.i64 (FD.z x (q :: js))])),
            some (Blk.mk false [] (8 : Nat) cap (fun r => [AV.int IntKind.i64 (OC.kd o r), AV.part (0 : Nat) [r], AV.int IntKind.i64 (OC.fo o r), AV.int IntKind.i64 (OC.fa o r), AV.int IntKind.i64 (OC.fb o r), AV.int IntKind.i64 (OC.pa o r), AV.int IntKind.i64 (OC.ra o r), AV.int IntKind.i64 (OC.co o r)]) [] none),
            some (Blk.mk true [AV.int IntKind.i64 G, AV.sl (1 : Nat) (0 : Nat) (8 : Nat) (0 : Nat) len cap] (0 : Nat) (0 : Nat) (fun x => []) [] none), some (Blk.mk true [AV.sl (7 : Nat) (0 : Nat) (1 : Nat) (0 : Nat) n c] (0 : Nat) (0 : Nat) (fun x => []) [] none), some (Blk.mk true [] (1 : Nat) len (fun j => [AV.bool (p j)]) [] none),
            some (Blk.mk true [AV.sl (4 : Nat) (0 : Nat) (1 : Nat) (0 : Nat) len len] (0 : Nat) (0 : Nat) (fun x => []) [] none),
            some (Blk.mk true [AV.fn (Fn.func (49 : FuncId)) [] [AV.ptr (2 : Nat) (0 : Nat) (0 : Nat) (0 : Nat), AV.ptr (5 : Nat) (0 : Nat) (0 : Nat) (0 : Nat), AV.ptr (3 : Nat) (0 : Nat) (0 : Nat) (0 : Nat), AV.ptr (6 : Nat) (0 : Nat) (0 : Nat) (0 : Nat)]] (0 : Nat) (0 : Nat) (fun x => []) [] none), some (Blk.mk true [] (1 : Nat) c (fun j => [AV.int IntKind.i64 (f j)]) [] none),
            some (Blk.mk false [] (1 : Nat) C (fun a => [AV.int IntKind.i64 (z a)]) [] none)])) := by
  kernel_rfl

theorem fo_t2 (x : FD) (o : OC) (G : Int) (len cap k n0 : Nat) (p : Nat → Bool) (n c : Nat) (f : Nat → Int) (z : Nat → Int) (L C i : Nat) : T.cut (keepT [4, 42, 43, 44] (acode Try.prog (foE x o G len cap k n0) foC (foLp x o G len cap ⟨p, true, n, c, f⟩ true z L C i))) [2, 2, 2, 0] = 
  T.ite (decide ((↑i : Int) < (↑L : Int)))
    (T.chk (decide ((0 : Int) ≤ (↑i : Int)) && decide ((↑i : Int) < (↑L : Int)))
      (T.chk (decide ((0 : Nat) + Int.toNat (↑i : Int) < C))
        (T.need
          (spIn x o cap
              [some (Blk.mk false [] (0 : Nat) (0 : Nat) (fun x => []) [] (some fun js => Mem.mk (FD.nl x js) (FD.ad x js) (FD.ln x js) (FD.cp x js) (1 : Nat) fun q => [AV.int IntKind.i64 (FD.z x (q :: js))])),
                some (Blk.mk false [] (8 : Nat) cap (fun r => [AV.int IntKind.i64 (OC.kd o r), AV.part (0 : Nat) [r], AV.int IntKind.i64 (OC.fo o r), AV.int IntKind.i64 (OC.fa o r), AV.int IntKind.i64 (OC.fb o r), AV.int IntKind.i64 (OC.pa o r), AV.int IntKind.i64 (OC.ra o r), AV.int IntKind.i64 (OC.co o r)]) [] none),
                some (Blk.mk true [AV.int IntKind.i64 G, AV.sl (1 : Nat) (0 : Nat) (8 : Nat) (0 : Nat) len cap] (0 : Nat) (0 : Nat) (fun x => []) [] none), some (Blk.mk true [AV.sl (8 : Nat) (0 : Nat) (1 : Nat) (0 : Nat) n c] (0 : Nat) (0 : Nat) (fun x => []) [] none), some (Blk.mk true [] (1 : Nat) len (fun j => [AV.bool (p j)]) [] none),
                some (Blk.mk true [AV.sl (4 : Nat) (0 : Nat) (1 : Nat) (0 : Nat) len len] (0 : Nat) (0 : Nat) (fun x => []) [] none),
                some (Blk.mk true [AV.fn (Fn.func (49 : FuncId)) [] [AV.ptr (2 : Nat) (0 : Nat) (0 : Nat) (0 : Nat), AV.ptr (5 : Nat) (0 : Nat) (0 : Nat) (0 : Nat), AV.ptr (3 : Nat) (0 : Nat) (0 : Nat) (0 : Nat), AV.ptr (6 : Nat) (0 : Nat) (0 : Nat) (0 : Nat)]] (0 : Nat) (0 : Nat) (fun x => []) [] none), none, some (Blk.mk true [] (1 : Nat) c (fun j => [AV.int IntKind.i64 (f j)]) [] none),
                some (Blk.mk false [] (1 : Nat) C (fun a => [AV.int IntKind.i64 (z a)]) [] none)] ∧
            some (Blk.mk true [AV.int IntKind.i64 G, AV.sl (1 : Nat) (0 : Nat) (8 : Nat) (0 : Nat) len cap] (0 : Nat) (0 : Nat) (fun x => []) [] none) = some (Blk.mk true [AV.int IntKind.i64 G, AV.sl (1 : Nat) (0 : Nat) (8 : Nat) (0 : Nat) len cap] (0 : Nat) (0 : Nat) (fun x => []) [] none) ∧
              some (Blk.mk true [AV.sl (4 : Nat) (0 : Nat) (1 : Nat) (0 : Nat) len len] (0 : Nat) (0 : Nat) (fun x => []) [] none) = some (Blk.mk true [AV.sl (4 : Nat) (0 : Nat) (1 : Nat) (0 : Nat) len len] (0 : Nat) (0 : Nat) (fun x => []) [] none) ∧
                some (Blk.mk true [AV.fn (Fn.func (49 : FuncId)) [] [AV.ptr (2 : Nat) (0 : Nat) (0 : Nat) (0 : Nat), AV.ptr (5 : Nat) (0 : Nat) (0 : Nat) (0 : Nat), AV.ptr (3 : Nat) (0 : Nat) (0 : Nat) (0 : Nat), AV.ptr (6 : Nat) (0 : Nat) (0 : Nat) (0 : Nat)]] (0 : Nat) (0 : Nat) (fun x => []) [] none) =
                  some (Blk.mk true [AV.fn (Fn.func (49 : FuncId)) [] [AV.ptr (2 : Nat) (0 : Nat) (0 : Nat) (0 : Nat), AV.ptr (5 : Nat) (0 : Nat) (0 : Nat) (0 : Nat), AV.ptr (3 : Nat) (0 : Nat) (0 : Nat) (0 : Nat), AV.ptr (6 : Nat) (0 : Nat) (0 : Nat) (0 : Nat)]] (0 : Nat) (0 : Nat) (fun x => []) [] none))
          (T.need (BooRow (Blk.mk true [] (1 : Nat) len (fun j => [AV.bool (p j)]) [] none) len)
            (T.need (Blk.mk true [AV.sl (8 : Nat) (0 : Nat) (1 : Nat) (0 : Nat) n c] (0 : Nat) (0 : Nat) (fun x => []) [] none = Blk.mk true [AV.sl (8 : Nat) (0 : Nat) (1 : Nat) (0 : Nat) n c] (0 : Nat) (0 : Nat) (fun x => []) [] none ∧ IsI64 (Blk.mk true [] (1 : Nat) c (fun j => [AV.int IntKind.i64 (f j)]) [] none) c ∧ (7 : Nat) ≤ (8 : Nat))
              (T.chk (decide (cntF (booA (booB true len p)) len < k ∧ n ≤ c ∧ n + cntF (booA (booB true len p)) len ≤ len))
                (T.alf fun c_1 =>
                  T.asm (decide (cntF (truB c_1) len ≤ cntF (booA (booB true len p)) len))
                    (T.all fun c_2 =>
                      T.ite (decide (c_2 = (0 : Nat)))
                        (T.ret
                          (Ex.norm,
                            St.mk [((4 : Nat), AV.ptr (6 : Nat) (0 : Nat) (0 : Nat) (0 : Nat)), ((42 : Nat), AV.sl (9 : Nat) (0 : Nat) (1 : Nat) (0 : Nat) L C), ((43 : Nat), AV.int IntKind.i64 (↑L : Int)), ((44 : Nat), AV.int IntKind.i64 (IntKind.wrap IntKind.i64 ((↑i : Int) + (1 : Int))))]
                              [some (Blk.mk false [] (0 : Nat) (0 : Nat) (fun x => []) [] (some fun js => Mem.mk (FD.nl x js) (FD.ad x js) (FD.ln x js) (FD.cp x js) (1 : Nat) fun q => [AV.int IntKind.i64 (FD.z x (q :: js))])),
                                some (Blk.mk false [] (8 : Nat) cap (fun r => [AV.int IntKind.i64 (OC.kd o r), AV.part (0 : Nat) [r], AV.int IntKind.i64 (OC.fo o r), AV.int IntKind.i64 (OC.fa o r), AV.int IntKind.i64 (OC.fb o r), AV.int IntKind.i64 (OC.pa o r), AV.int IntKind.i64 (OC.ra o r), AV.int IntKind.i64 (OC.co o r)]) [] none),
                                some (Blk.mk true [AV.int IntKind.i64 G, AV.sl (1 : Nat) (0 : Nat) (8 : Nat) (0 : Nat) len cap] (0 : Nat) (0 : Nat) (fun j => []) [] none), some (Blk.mk true [AV.sl (8 : Nat) (0 : Nat) (1 : Nat) (0 : Nat) n c] (0 : Nat) (0 : Nat) (fun j => []) [] none), some (Blk.mk true [] (1 : Nat) len (fun j => [AV.bool (truB c_1 j)]) [] none),
                                some (Blk.mk true [AV.sl (4 : Nat) (0 : Nat) (1 : Nat) (0 : Nat) len len] (0 : Nat) (0 : Nat) (fun j => []) [] none),
                                some (Blk.mk true [AV.fn (Fn.func (49 : FuncId)) [] [AV.ptr (2 : Nat) (0 : Nat) (0 : Nat) (0 : Nat), AV.ptr (5 : Nat) (0 : Nat) (0 : Nat) (0 : Nat), AV.ptr (3 : Nat) (0 : Nat) (0 : Nat) (0 : Nat), AV.ptr (6 : Nat) (0 : Nat) (0 : Nat) (0 : Nat)]] (0 : Nat) (0 : Nat) (fun j => []) [] none), none,
                                some (Blk.mk true [] (1 : Nat) c (fun j => [AV.int IntKind.i64 (f j)]) [] none), some (Blk.mk false [] (1 : Nat) C (fun a => [AV.int IntKind.i64 (z a)]) [] none)]))
                        (T.all fun c =>
                          T.all fun c_3 =>
                            T.alf fun c_4 =>
                              T.asm (decide (c ≤ c_3 ∧ c + cntF (truB c_1) len ≤ len))
                                (T.ret
                                  (Ex.norm,
                                    St.mk [((4 : Nat), AV.ptr (6 : Nat) (0 : Nat) (0 : Nat) (0 : Nat)), ((42 : Nat), AV.sl (9 : Nat) (0 : Nat) (1 : Nat) (0 : Nat) L C), ((43 : Nat), AV.int IntKind.i64 (↑L : Int)), ((44 : Nat), AV.int IntKind.i64 (IntKind.wrap IntKind.i64 ((↑i : Int) + (1 : Int))))]
                                      [some (Blk.mk false [] (0 : Nat) (0 : Nat) (fun x => []) [] (some fun js => Mem.mk (FD.nl x js) (FD.ad x js) (FD.ln x js) (FD.cp x js) (1 : Nat) fun q => [AV.int IntKind.i64 (FD.z x (q :: js))])),
                                        some (Blk.mk false [] (8 : Nat) cap (fun r => [AV.int IntKind.i64 (OC.kd o r), AV.part (0 : Nat) [r], AV.int IntKind.i64 (OC.fo o r), AV.int IntKind.i64 (OC.fa o r), AV.int IntKind.i64 (OC.fb o r), AV.int IntKind.i64 (OC.pa o r), AV.int IntKind.i64 (OC.ra o r), AV.int IntKind.i64 (OC.co o r)]) [] none),
                                        some (Blk.mk true [AV.int IntKind.i64 G, AV.sl (1 : Nat) (0 : Nat) (8 : Nat) (0 : Nat) len cap] (0 : Nat) (0 : Nat) (fun j => []) [] none), some (Blk.mk true [AV.sl (10 : Nat) (0 : Nat) (1 : Nat) (0 : Nat) c c_3] (0 : Nat) (0 : Nat) (fun j => []) [] none), some (Blk.mk true [] (1 : Nat) len (fun j => [AV.bool (truB c_1 j)]) [] none),
                                        some (Blk.mk true [AV.sl (4 : Nat) (0 : Nat) (1 : Nat) (0 : Nat) len len] (0 : Nat) (0 : Nat) (fun j => []) [] none),
                                        some (Blk.mk true [AV.fn (Fn.func (49 : FuncId)) [] [AV.ptr (2 : Nat) (0 : Nat) (0 : Nat) (0 : Nat), AV.ptr (5 : Nat) (0 : Nat) (0 : Nat) (0 : Nat), AV.ptr (3 : Nat) (0 : Nat) (0 : Nat) (0 : Nat), AV.ptr (6 : Nat) (0 : Nat) (0 : Nat) (0 : Nat)]] (0 : Nat) (0 : Nat) (fun j => []) [] none), none, none,
                                        some (Blk.mk false [] (1 : Nat) C (fun a => [AV.int IntKind.i64 (z a)]) [] none), some (Blk.mk true [] (1 : Nat) c_3 (fun j => [AV.int IntKind.i64 (c_4 j)]) [] none)])))))))))))
    (T.ret
      (Ex.exit (0 : Nat),
        St.mk [((4 : Nat), AV.ptr (6 : Nat) (0 : Nat) (0 : Nat) (0 : Nat)), ((42 : Nat), AV.sl (9 : Nat) (0 : Nat) (1 : Nat) (0 : Nat) L C), ((43 : Nat), AV.int IntKind.i64 (↑L : Int)), ((44 : Nat), AV.int IntKind.i64 (↑i : Int))]
          [some (Blk.mk false [] (0 : Nat) (0 : Nat) (fun x => []) [] (some fun js => Mem.mk (FD.nl x js) (FD.ad x js) (FD.ln x js) (FD.cp x js) (1 : Nat) fun q => [AV.int IntKind.i64 (FD.z x (q :: js))])),
            some (Blk.mk false [] (8 : Nat) cap (fun r => [AV.int IntKind.i64 (OC.kd o r), AV.part (0 : Nat) [r], AV.int IntKind.i64 (OC.fo o r), AV.int IntKind.i64 (OC.fa o r), AV.int IntKind.i64 (OC.fb o r), AV.int IntKind.i64 (OC.pa o r), AV.int IntKind.i64 (OC.ra o r), AV.int IntKind.i64 (OC.co o r)]) [] none),
            some (Blk.mk true [AV.int IntKind.i64 G, AV.sl (1 : Nat) (0 : Nat) (8 : Nat) (0 : Nat) len cap] (0 : Nat) (0 : Nat) (fun x => []) [] none), some (Blk.mk true [AV.sl (8 : Nat) (0 : Nat) (1 : Nat) (0 : Nat) n c] (0 : Nat) (0 : Nat) (fun x => []) [] none), some (Blk.mk true [] (1 : Nat) len (fun j => [AV.bool (p j)]) [] none),
            some (Blk.mk true [AV.sl (4 : Nat) (0 : Nat) (1 : Nat) (0 : Nat) len len] (0 : Nat) (0 : Nat) (fun x => []) [] none),
            some (Blk.mk true [AV.fn (Fn.func (49 : FuncId)) [] [AV.ptr (2 : Nat) (0 : Nat) (0 : Nat) (0 : Nat), AV.ptr (5 : Nat) (0 : Nat) (0 : Nat) (0 : Nat), AV.ptr (3 : Nat) (0 : Nat) (0 : Nat) (0 : Nat), AV.ptr (6 : Nat) (0 : Nat) (0 : Nat) (0 : Nat)]] (0 : Nat) (0 : Nat) (fun x => []) [] none), none, some (Blk.mk true [] (1 : Nat) c (fun j => [AV.int IntKind.i64 (f j)]) [] none),
            some (Blk.mk false [] (1 : Nat) C (fun a => [AV.int IntKind.i64 (z a)]) [] none)])) := by
  kernel_rfl

theorem fo_ch : chainOf (codeOf Try.f49) = (chainOf (codeOf Try.f49)).take 6 ++ [.block 0 (.loop foC)] := by
  kernel_rfl

theorem fo_res : Try.f49.results.toList = [] := by
  kernel_rfl

end Go.Proofs.Ytnfngaapjodpcaa
