/-
  Layer 20: Order: trees.
-/
import Derived.Test.YtnfngaapjodpcaaHL
namespace Go.Proofs.Ytnfngaapjodpcaa
open Go.Ox
set_option maxRecDepth 100000
set_option maxHeartbeats 4000000
set_option linter.unusedVariables false
set_option linter.unusedSimpArgs false

def scOf : Code → Code
  | .scope c => c
  | _ => .skip

noncomputable def orS : Code := scOf ((chainOf (codeOf Try.f40)).getD 1 .skip)

noncomputable def orR : Code := (findLabel orS 0).getD .skip

noncomputable def orC : Code := loopAt orR 0

noncomputable def orE : Env := { nt := Try.f40.ntmps, n0 := 2, vec := true, fns := openAll [(47, .pure alS)], loop := fun _ _ => .fail }

theorem orE_ok : EnvOK Try.prog orE.fns := EnvOK.open_ (EnvOK.cons alS_ok EnvOK.nil)

def boxS (G : Int) (len cap : Nat) : Blk := Blk.mk true [.int .i64 G, .sl 1 0 8 0 len cap] 0 0 (fun _ => []) [] none

def i64B (c : Nat) (f : Nat → Int) : Blk := Blk.rows true 1 c fun j => [.int .i64 (f j)]

structure OX where
  p : Nat → Bool
  hs : Bool
  n : Nat
  c : Nat
  f : Nat → Int

def orM (x : FD) (o : OC) (G : Int) (len cap : Nat) (y : OX) : AM :=
  match y.hs with
  | false => spM x o cap ++ [some (boxS G len cap), some (booB true len y.p)]
  | true => spM x o cap ++ [some (boxS G len cap), some (booB true len y.p), some (i64B y.c y.f)]

def orA (y : OX) : AV :=
  match y.hs with
  | false => .nils
  | true => .sl 4 0 1 0 y.n y.c

/-- At the label. -/
def orSt (x : FD) (o : OC) (G : Int) (len cap : Nat) (y : OX) : St := ⟨[(1, .ptr 2 0 0 0), (3, orA y), (4, .sl 3 0 1 0 len len)], orM x o G len cap y⟩

/-- Within the loop. -/
def orLp (x : FD) (o : OC) (G : Int) (len cap : Nat) (y : OX) (i : Nat) : St := ⟨[(1, .ptr 2 0 0 0), (3, orA y), (4, .sl 3 0 1 0 len len), (12, .sl 1 0 8 0 len cap), (13, .int .i64 len), (14, .int .i64 i)], orM x o G len cap y⟩

theorem or_0 (x : FD) (o : OC) (G : Int) (len cap : Nat) : T.cut (keepT [1] (acodeL Try.prog orE ((chainOf (codeOf Try.f40)).take 1) ⟨[(0, spA G len cap)], spM x o cap⟩)) [] = 
  T.ret
    (Ex.norm,
      St.mk [((1 : Nat), AV.ptr (2 : Nat) (0 : Nat) (0 : Nat) (0 : Nat))]
        [some (Blk.mk false [] (0 : Nat) (0 : Nat) (fun x => []) [] (some fun js => Mem.mk (FD.nl x js) (FD.ad x js) (FD.ln x js) (FD.cp x js) (1 : Nat) fun q => [AV.int IntKind.i64 (FD.z x (q :: js))])),
          some (Blk.mk false [] (8 : Nat) cap (fun r => [AV.int IntKind.i64 (OC.kd o r), AV.part (0 : Nat) [r], AV.int IntKind.i64 (OC.fo o r), AV.int IntKind.i64 (OC.fa o r), AV.int IntKind.i64 (OC.fb o r), AV.int IntKind.i64 (OC.pa o r), AV.int IntKind.i64 (OC.ra o r), AV.int IntKind.i64 (OC.co o r)]) [] none),
          some (Blk.mk true [AV.int IntKind.i64 G, AV.sl (1 : Nat) (0 : Nat) (8 : Nat) (0 : Nat) len cap] (0 : Nat) (0 : Nat) (fun x => []) [] none)]) := by
  kernel_rfl

theorem or_1 (x : FD) (o : OC) (G : Int) (len cap : Nat) : T.cut (keepT [1, 3, 4, 12, 13, 14] (acodeL Try.prog orE ((chainOf orS).take 4) ⟨[(1, .ptr 2 0 0 0)], spM x o cap ++ [some (boxS G len cap)]⟩)) [] = 
  T.chk (makeOk (1 : Nat) (↑len : Int) (↑len : Int))
    (T.ret
      (Ex.norm,
        St.mk [((1 : Nat), AV.ptr (2 : Nat) (0 : Nat) (0 : Nat) (0 : Nat)), ((3 : Nat), AV.nils), ((4 : Nat), AV.sl (3 : Nat) (0 : Nat) (1 : Nat) (0 : Nat) (Int.toNat (↑len : Int)) (Int.toNat (↑len : Int))), ((12 : Nat), AV.sl (1 : Nat) (0 : Nat) (8 : Nat) (0 : Nat) len cap), ((13 : Nat), AV.int IntKind.i64 (↑len : Int)), ((14 : Nat), AV.int IntKind.i64 (0 : Int))]
          [some (Blk.mk false [] (0 : Nat) (0 : Nat) (fun x => []) [] (some fun js => Mem.mk (FD.nl x js) (FD.ad x js) (FD.ln x js) (FD.cp x js) (1 : Nat) fun q => [AV.int IntKind.i64 (FD.z x (q :: js))])),
            some (Blk.mk false [] (8 : Nat) cap (fun r => [AV.int IntKind.i64 (OC.kd o r), AV.part (0 : Nat) [r], AV.int IntKind.i64 (OC.fo o r), AV.int IntKind.i64 (OC.fa o r), AV.int IntKind.i64 (OC.fb o r), AV.int IntKind.i64 (OC.pa o r), AV.int IntKind.i64 (OC.ra o r), AV.int IntKind.i64 (OC.co o r)]) [] none),
            some (Blk.mk true [AV.int IntKind.i64 G, AV.sl (1 : Nat) (0 : Nat) (8 : Nat) (0 : Nat) len cap] (0 : Nat) (0 : Nat) (fun x => []) [] none), some (Blk.mk true [] (1 : Nat) (Int.toNat (↑len : Int)) (fun x => [AV.ff]) [] none)])) := by
  kernel_rfl

theorem or_r0 (x : FD) (o : OC) (G : Int) (len cap : Nat) (p : Nat → Bool) (n c : Nat) (f : Nat → Int) : T.cut (keepT [1, 3, 4, 12, 13, 14] (acodeL Try.prog orE ((chainOf orR).take 2) (orSt x o G len cap ⟨p, false, n, c, f⟩))) [] = 
  T.ret
    (Ex.norm,
      St.mk [((1 : Nat), AV.ptr (2 : Nat) (0 : Nat) (0 : Nat) (0 : Nat)), ((3 : Nat), AV.nils), ((4 : Nat), AV.sl (3 : Nat) (0 : Nat) (1 : Nat) (0 : Nat) len len), ((12 : Nat), AV.sl (1 : Nat) (0 : Nat) (8 : Nat) (0 : Nat) len cap), ((13 : Nat), AV.int IntKind.i64 (↑len : Int)), ((14 : Nat), AV.int IntKind.i64 (0 : Int))]
        [some (Blk.mk false [] (0 : Nat) (0 : Nat) (fun x => []) [] (some fun js => Mem.mk (FD.nl x js) (FD.ad x js) (FD.ln x js) (FD.cp x js) (1 : Nat) fun q => [AV.int IntKind.i64 (FD.z x (q :: js))])),
          some (Blk.mk false [] (8 : Nat) cap (fun r => [AV.int IntKind.i64 (OC.kd o r), AV.part (0 : Nat) [r], AV.int IntKind.i64 (OC.fo o r), AV.int IntKind.i64 (OC.fa o r), AV.int IntKind.i64 (OC.fb o r), AV.int IntKind.i64 (OC.pa o r), AV.int IntKind.i64 (OC.ra o r), AV.int IntKind.i64 (OC.co o r)]) [] none),
          some (Blk.mk true [AV.int IntKind.i64 G, AV.sl (1 : Nat) (0 : Nat) (8 : Nat) (0 : Nat) len cap] (0 : Nat) (0 : Nat) (fun x => []) [] none), some (Blk.mk true [] (1 : Nat) len (fun j => [AV.bool (p j)]) [] none)]) := by
  kernel_rfl

theorem or_r1 (x : FD) (o : OC) (G : Int) (len cap : Nat) (p : Nat → Bool) (n c : Nat) (f : Nat → Int) : T.cut (keepT [1, 3, 4, 12, 13, 14] (acodeL Try.prog orE ((chainOf orR).take 2) (orSt x o G len cap ⟨p, true, n, c, f⟩))) [] = 
  T.ret
    (Ex.norm,
      St.mk [((1 : Nat), AV.ptr (2 : Nat) (0 : Nat) (0 : Nat) (0 : Nat)), ((3 : Nat), AV.sl (4 : Nat) (0 : Nat) (1 : Nat) (0 : Nat) n c), ((4 : Nat), AV.sl (3 : Nat) (0 : Nat) (1 : Nat) (0 : Nat) len len), ((12 : Nat), AV.sl (1 : Nat) (0 : Nat) (8 : Nat) (0 : Nat) len cap), ((13 : Nat), AV.int IntKind.i64 (↑len : Int)), ((14 : Nat), AV.int IntKind.i64 (0 : Int))]
        [some (Blk.mk false [] (0 : Nat) (0 : Nat) (fun x => []) [] (some fun js => Mem.mk (FD.nl x js) (FD.ad x js) (FD.ln x js) (FD.cp x js) (1 : Nat) fun q => [AV.int IntKind.i64 (FD.z x (q :: js))])),
          some (Blk.mk false [] (8 : Nat) cap (fun r => [AV.int IntKind.i64 (OC.kd o r), AV.part (0 : Nat) [r], AV.int IntKind.i64 (OC.fo o r), AV.int IntKind.i64 (OC.fa o r), AV.int IntKind.i64 (OC.fb o r), AV.int IntKind.i64 (OC.pa o r), AV.int IntKind.i64 (OC.ra o r), AV.int IntKind.i64 (OC.co o r)]) [] none),
          some (Blk.mk true [AV.int IntKind.i64 G, AV.sl (1 : Nat) (0 : Nat) (8 : Nat) (0 : Nat) len cap] (0 : Nat) (0 : Nat) (fun x => []) [] none), some (Blk.mk true [] (1 : Nat) len (fun j => [AV.bool (p j)]) [] none), some (Blk.mk true [] (1 : Nat) c (fun j => [AV.int IntKind.i64 (f j)]) [] none)]) := by
  kernel_rfl

theorem or_t0 (x : FD) (o : OC) (G : Int) (len cap : Nat) (p : Nat → Bool) (n c : Nat) (f : Nat → Int) (i : Nat) : T.cut (keepT [1, 3, 4, 12, 13, 14] (acode Try.prog orE orC (orLp x o G len cap ⟨p, false, n, c, f⟩ i))) [2, 10, 2, 8, 2, 3, 2, 1, 0, 2, 1, 0] = 
  T.ite (decide ((↑i : Int) < (↑len : Int)))
    (T.chk (decide ((0 : Int) ≤ (↑i : Int)) && decide ((↑i : Int) < (↑len : Int)))
      (T.chk (decide ((0 : Nat) + Int.toNat (↑i : Int) < cap))
        (T.chk (decide ((0 : Nat) + Int.toNat (↑i : Int) < cap))
          (T.chk (decide ((0 : Nat) + Int.toNat (↑i : Int) < cap))
            (T.chk (decide ((0 : Nat) + Int.toNat (↑i : Int) < cap))
              (T.chk (decide ((0 : Nat) + Int.toNat (↑i : Int) < cap))
                (T.chk (decide ((0 : Nat) + Int.toNat (↑i : Int) < cap))
                  (T.chk (decide ((0 : Nat) + Int.toNat (↑i : Int) < cap))
                    (T.chk (decide ((0 : Nat) + Int.toNat (↑i : Int) < cap))
                      (T.chk (decide ((0 : Int) ≤ (↑i : Int)) && decide ((↑i : Int) < (↑len : Int)))
                        (T.chk (decide ((0 : Nat) + Int.toNat (↑i : Int) < len))
                          (T.ite (!p ((0 : Nat) + Int.toNat (↑i : Int)))
                            (T.ite (FD.nl x [(0 : Nat) + Int.toNat (↑i : Int)])
                              (T.need True
                                (T.need (BoolRow (Blk.mk true [] (1 : Nat) len (fun j => [AV.bool (p j)]) [] none))
                                  (T.chk true
                                    (T.chk true
                                      (T.chk (decide (len ≤ len))
                                        (T.all fun c =>
                                          T.ite (decide (c = (0 : Nat)))
                                            (T.chk (decide ((0 : Int) ≤ (↑i : Int)) && decide ((↑i : Int) < (↑len : Int)))
                                              (T.chk (decide ((0 : Nat) + Int.toNat (↑i : Int) < len))
                                                (T.chk true
                                                  (@T.chk (Ex × St) true
                                                    (T.chk true
                                                      (T.all fun c =>
                                                        T.asm (decide ((1 : Nat) ≤ c))
                                                          (T.ret
                                                            (Ex.goto (0 : Nat),
                                                              St.mk
                                                                [((1 : Nat), AV.ptr (2 : Nat) (0 : Nat) (0 : Nat) (0 : Nat)), ((3 : Nat), AV.sl (6 : Nat) (0 : Nat) (1 : Nat) (0 : Nat) (1 : Nat) c), ((4 : Nat), AV.sl (3 : Nat) (0 : Nat) (1 : Nat) (0 : Nat) len len), ((12 : Nat), AV.sl (1 : Nat) (0 : Nat) (8 : Nat) (0 : Nat) len cap), ((13 : Nat), AV.int IntKind.i64 (↑len : Int)),
                                                                  ((14 : Nat), AV.int IntKind.i64 (↑i : Int))]
                                                                [some (Blk.mk false [] (0 : Nat) (0 : Nat) (fun x => []) [] (some fun js => Mem.mk (FD.nl x js) (FD.ad x js) (FD.ln x js) (FD.cp x js) (1 : Nat) fun q => [AV.int IntKind.i64 (FD.z x (q :: js))])),
                                                                  some (Blk.mk false [] (8 : Nat) cap (fun r => [AV.int IntKind.i64 (OC.kd o r), AV.part (0 : Nat) [r], AV.int IntKind.i64 (OC.fo o r), AV.int IntKind.i64 (OC.fa o r), AV.int IntKind.i64 (OC.fb o r), AV.int IntKind.i64 (OC.pa o r), AV.int IntKind.i64 (OC.ra o r), AV.int IntKind.i64 (OC.co o r)]) [] none),
                                                                  some (Blk.mk true [AV.int IntKind.i64 G, AV.sl (1 : Nat) (0 : Nat) (8 : Nat) (0 : Nat) len cap] (0 : Nat) (0 : Nat) (fun x => []) [] none), some (Blk.mk true [] (1 : Nat) len (fun i_1 => Blk.setRow ((1 : Nat) == (1 : Nat)) (fun j => [AV.bool (p j)]) ((0 : Nat) + Int.toNat (↑i : Int)) (0 : Nat) AV.tt i_1) [] none),
                                                                  some
                                                                    (Blk.mk true
                                                                      [AV.int IntKind.i64 (OC.kd o ((0 : Nat) + Int.toNat (↑i : Int))), AV.part (0 : Nat) [(0 : Nat) + Int.toNat (↑i : Int)], AV.int IntKind.i64 (OC.fo o ((0 : Nat) + Int.toNat (↑i : Int))), AV.int IntKind.i64 (OC.fa o ((0 : Nat) + Int.toNat (↑i : Int))), AV.int IntKind.i64 (OC.fb o ((0 : Nat) + Int.toNat (↑i : Int))),
                                                                        AV.int IntKind.i64 (OC.pa o ((0 : Nat) + Int.toNat (↑i : Int))), AV.int IntKind.i64 (OC.ra o ((0 : Nat) + Int.toNat (↑i : Int))), AV.int IntKind.i64 (OC.co o ((0 : Nat) + Int.toNat (↑i : Int)))]
                                                                      (0 : Nat) (0 : Nat) (fun a => []) [] none),
                                                                  some (Blk.mk true [] (1 : Nat) (1 : Nat) (fun i_1 => [AV.int IntKind.i64 (List.getD [(↑i : Int)] i_1 (0 : Int))]) [] none),
                                                                  some (Blk.mk true [] (1 : Nat) c (fun r => if r < (0 : Nat) then [] else if r < (1 : Nat) then List.map (fun c => Col.at c ((0 : Nat) + (r - (0 : Nat)))) ([] ++ [Col.ints IntKind.i64 [(↑i : Int)]]) else AV.cells (AV.int IntKind.i64 (0 : Int))) [] none)]))))))))
                                            (T.ret
                                              (Ex.norm,
                                                St.mk
                                                  [((1 : Nat), AV.ptr (2 : Nat) (0 : Nat) (0 : Nat) (0 : Nat)), ((3 : Nat), AV.nils), ((4 : Nat), AV.sl (3 : Nat) (0 : Nat) (1 : Nat) (0 : Nat) len len), ((12 : Nat), AV.sl (1 : Nat) (0 : Nat) (8 : Nat) (0 : Nat) len cap), ((13 : Nat), AV.int IntKind.i64 (↑len : Int)),
                                                    ((14 : Nat), AV.int IntKind.i64 (IntKind.wrap IntKind.i64 ((↑i : Int) + (1 : Int))))]
                                                  [some (Blk.mk false [] (0 : Nat) (0 : Nat) (fun x => []) [] (some fun js => Mem.mk (FD.nl x js) (FD.ad x js) (FD.ln x js) (FD.cp x js) (1 : Nat) fun q => [AV.int IntKind.i64 (FD.z x (q :: js))])),
                                                    some (Blk.mk false [] (8 : Nat) cap (fun r => [AV.int IntKind.i64 (OC.kd o r), AV.part (0 : Nat) [r], AV.int IntKind.i64 (OC.fo o r), AV.int IntKind.i64 (OC.fa o r), AV.int IntKind.i64 (OC.fb o r), AV.int IntKind.i64 (OC.pa o r), AV.int IntKind.i64 (OC.ra o r), AV.int IntKind.i64 (OC.co o r)]) [] none),
                                                    some (Blk.mk true [AV.int IntKind.i64 G, AV.sl (1 : Nat) (0 : Nat) (8 : Nat) (0 : Nat) len cap] (0 : Nat) (0 : Nat) (fun x => []) [] none), some (Blk.mk true [] (1 : Nat) len (fun j => [AV.bool (p j)]) [] none),
                                                    some
                                                      (Blk.mk true
                                                        [AV.int IntKind.i64 (OC.kd o ((0 : Nat) + Int.toNat (↑i : Int))), AV.part (0 : Nat) [(0 : Nat) + Int.toNat (↑i : Int)], AV.int IntKind.i64 (OC.fo o ((0 : Nat) + Int.toNat (↑i : Int))), AV.int IntKind.i64 (OC.fa o ((0 : Nat) + Int.toNat (↑i : Int))), AV.int IntKind.i64 (OC.fb o ((0 : Nat) + Int.toNat (↑i : Int))),
                                                          AV.int IntKind.i64 (OC.pa o ((0 : Nat) + Int.toNat (↑i : Int))), AV.int IntKind.i64 (OC.ra o ((0 : Nat) + Int.toNat (↑i : Int))), AV.int IntKind.i64 (OC.co o ((0 : Nat) + Int.toNat (↑i : Int)))]
                                                        (0 : Nat) (0 : Nat) (fun a => []) [] none)]))))))))
                              (T.need (IntRow IntKind.i64 (Blk.mk false [] (1 : Nat) (FD.cp x [(0 : Nat) + Int.toNat (↑i : Int)]) (fun a => [AV.int IntKind.i64 (FD.z x [a, (0 : Nat) + Int.toNat (↑i : Int)])]) [] none))
                                (T.need (BoolRow (Blk.mk true [] (1 : Nat) len (fun j => [AV.bool (p j)]) [] none))
                                  (T.chk (decide ((0 : Nat) + FD.ln x [(0 : Nat) + Int.toNat (↑i : Int)] ≤ FD.cp x [(0 : Nat) + Int.toNat (↑i : Int)]))
                                    (T.chk (decide (FD.ln x [(0 : Nat) + Int.toNat (↑i : Int)] ≤ (9223372036854775807 : Nat)))
                                      (T.chk (decide (len ≤ len))
                                        (T.all fun c =>
                                          T.ite (decide (c = (0 : Nat)))
                                            (T.chk (decide ((0 : Int) ≤ (↑i : Int)) && decide ((↑i : Int) < (↑len : Int)))
                                              (T.chk (decide ((0 : Nat) + Int.toNat (↑i : Int) < len))
                                                (T.chk true
                                                  (@T.chk (Ex × St) true
                                                    (T.chk true
                                                      (T.all fun c =>
                                                        T.asm (decide ((1 : Nat) ≤ c))
                                                          (T.ret
                                                            (Ex.goto (0 : Nat),
                                                              St.mk
                                                                [((1 : Nat), AV.ptr (2 : Nat) (0 : Nat) (0 : Nat) (0 : Nat)), ((3 : Nat), AV.sl (7 : Nat) (0 : Nat) (1 : Nat) (0 : Nat) (1 : Nat) c), ((4 : Nat), AV.sl (3 : Nat) (0 : Nat) (1 : Nat) (0 : Nat) len len), ((12 : Nat), AV.sl (1 : Nat) (0 : Nat) (8 : Nat) (0 : Nat) len cap), ((13 : Nat), AV.int IntKind.i64 (↑len : Int)),
                                                                  ((14 : Nat), AV.int IntKind.i64 (↑i : Int))]
                                                                [some (Blk.mk false [] (0 : Nat) (0 : Nat) (fun x => []) [] (some fun js => Mem.mk (FD.nl x js) (FD.ad x js) (FD.ln x js) (FD.cp x js) (1 : Nat) fun q => [AV.int IntKind.i64 (FD.z x (q :: js))])),
                                                                  some (Blk.mk false [] (8 : Nat) cap (fun r => [AV.int IntKind.i64 (OC.kd o r), AV.part (0 : Nat) [r], AV.int IntKind.i64 (OC.fo o r), AV.int IntKind.i64 (OC.fa o r), AV.int IntKind.i64 (OC.fb o r), AV.int IntKind.i64 (OC.pa o r), AV.int IntKind.i64 (OC.ra o r), AV.int IntKind.i64 (OC.co o r)]) [] none),
                                                                  some (Blk.mk true [AV.int IntKind.i64 G, AV.sl (1 : Nat) (0 : Nat) (8 : Nat) (0 : Nat) len cap] (0 : Nat) (0 : Nat) (fun x => []) [] none), some (Blk.mk true [] (1 : Nat) len (fun i_1 => Blk.setRow ((1 : Nat) == (1 : Nat)) (fun j => [AV.bool (p j)]) ((0 : Nat) + Int.toNat (↑i : Int)) (0 : Nat) AV.tt i_1) [] none),
                                                                  some
                                                                    (Blk.mk true
                                                                      [AV.int IntKind.i64 (OC.kd o ((0 : Nat) + Int.toNat (↑i : Int))), AV.part (0 : Nat) [(0 : Nat) + Int.toNat (↑i : Int)], AV.int IntKind.i64 (OC.fo o ((0 : Nat) + Int.toNat (↑i : Int))), AV.int IntKind.i64 (OC.fa o ((0 : Nat) + Int.toNat (↑i : Int))), AV.int IntKind.i64 (OC.fb o ((0 : Nat) + Int.toNat (↑i : Int))),
                                                                        AV.int IntKind.i64 (OC.pa o ((0 : Nat) + Int.toNat (↑i : Int))), AV.int IntKind.i64 (OC.ra o ((0 : Nat) + Int.toNat (↑i : Int))), AV.int IntKind.i64 (OC.co o ((0 : Nat) + Int.toNat (↑i : Int)))]
                                                                      (0 : Nat) (0 : Nat) (fun a => []) [] none),
                                                                  some (Blk.mk false [] (1 : Nat) (FD.cp x [(0 : Nat) + Int.toNat (↑i : Int)]) (fun a => [AV.int IntKind.i64 (FD.z x [a, (0 : Nat) + Int.toNat (↑i : Int)])]) [] none), some (Blk.mk true [] (1 : Nat) (1 : Nat) (fun i_1 => [AV.int IntKind.i64 (List.getD [(↑i : Int)] i_1 (0 : Int))]) [] none),
                                                                  some (Blk.mk true [] (1 : Nat) c (fun r => if r < (0 : Nat) then [] else if r < (1 : Nat) then List.map (fun c => Col.at c ((0 : Nat) + (r - (0 : Nat)))) ([] ++ [Col.ints IntKind.i64 [(↑i : Int)]]) else AV.cells (AV.int IntKind.i64 (0 : Int))) [] none)]))))))))
                                            (T.ret
                                              (Ex.norm,
                                                St.mk
                                                  [((1 : Nat), AV.ptr (2 : Nat) (0 : Nat) (0 : Nat) (0 : Nat)), ((3 : Nat), AV.nils), ((4 : Nat), AV.sl (3 : Nat) (0 : Nat) (1 : Nat) (0 : Nat) len len), ((12 : Nat), AV.sl (1 : Nat) (0 : Nat) (8 : Nat) (0 : Nat) len cap), ((13 : Nat), AV.int IntKind.i64 (↑len : Int)),
                                                    ((14 : Nat), AV.int IntKind.i64 (IntKind.wrap IntKind.i64 ((↑i : Int) + (1 : Int))))]
                                                  [some (Blk.mk false [] (0 : Nat) (0 : Nat) (fun x => []) [] (some fun js => Mem.mk (FD.nl x js) (FD.ad x js) (FD.ln x js) (FD.cp x js) (1 : Nat) fun q => [AV.int IntKind.i64 (FD.z x (q :: js))])),
                                                    some (Blk.mk false [] (8 : Nat) cap (fun r => [AV.int IntKind.i64 (OC.kd o r), AV.part (0 : Nat) [r], AV.int IntKind.i64 (OC.fo o r), AV.int IntKind.i64 (OC.fa o r), AV.int IntKind.i64 (OC.fb o r), AV.int IntKind.i64 (OC.pa o r), AV.int IntKind.i64 (OC.ra o r), AV.int IntKind.i64 (OC.co o r)]) [] none),
                                                    some (Blk.mk true [AV.int IntKind.i64 G, AV.sl (1 : Nat) (0 : Nat) (8 : Nat) (0 : Nat) len cap] (0 : Nat) (0 : Nat) (fun x => []) [] none), some (Blk.mk true [] (1 : Nat) len (fun j => [AV.bool (p j)]) [] none),
                                                    some
                                                      (Blk.mk true
                                                        [AV.int IntKind.i64 (OC.kd o ((0 : Nat) + Int.toNat (↑i : Int))), AV.part (0 : Nat) [(0 : Nat) + Int.toNat (↑i : Int)], AV.int IntKind.i64 (OC.fo o ((0 : Nat) + Int.toNat (↑i : Int))), AV.int IntKind.i64 (OC.fa o ((0 : Nat) + Int.toNat (↑i : Int))), AV.int IntKind.i64 (OC.fb o ((0 : Nat) + Int.toNat (↑i : Int))),
                                                          AV.int IntKind.i64 (OC.pa o ((0 : Nat) + Int.toNat (↑i : Int))), AV.int IntKind.i64 (OC.ra o ((0 : Nat) + Int.toNat (↑i : Int))), AV.int IntKind.i64 (OC.co o ((0 : Nat) + Int.toNat (↑i : Int)))]
                                                        (0 : Nat) (0 : Nat) (fun a => []) [] none),
                                                    some (Blk.mk false [] (1 : Nat) (FD.cp x [(0 : Nat) + Int.toNat (↑i : Int)]) (fun a => [AV.int IntKind.i64 (FD.z x [a, (0 : Nat) + Int.toNat (↑i : Int)])]) [] none)])))))))))
                            (T.ret
                              (Ex.norm,
                                St.mk [((1 : Nat), AV.ptr (2 : Nat) (0 : Nat) (0 : Nat) (0 : Nat)), ((3 : Nat), AV.nils), ((4 : Nat), AV.sl (3 : Nat) (0 : Nat) (1 : Nat) (0 : Nat) len len), ((12 : Nat), AV.sl (1 : Nat) (0 : Nat) (8 : Nat) (0 : Nat) len cap), ((13 : Nat), AV.int IntKind.i64 (↑len : Int)), ((14 : Nat), AV.int IntKind.i64 (IntKind.wrap IntKind.i64 ((↑i : Int) + (1 : Int))))]
                                  [some (Blk.mk false [] (0 : Nat) (0 : Nat) (fun x => []) [] (some fun js => Mem.mk (FD.nl x js) (FD.ad x js) (FD.ln x js) (FD.cp x js) (1 : Nat) fun q => [AV.int IntKind.i64 (FD.z x (q :: js))])),
                                    some (Blk.mk false [] (8 : Nat) cap (fun r => [AV.int IntKind.i64 (OC.kd o r), AV.part (0 : Nat) [r], AV.int IntKind.i64 (OC.fo o r), AV.int IntKind.i64 (OC.fa o r), AV.int IntKind.i64 (OC.fb o r), AV.int IntKind.i64 (OC.pa o r), AV.int IntKind.i64 (OC.ra o r), AV.int IntKind.i64 (OC.co o r)]) [] none),
                                    some (Blk.mk true [AV.int IntKind.i64 G, AV.sl (1 : Nat) (0 : Nat) (8 : Nat) (0 : Nat) len cap] (0 : Nat) (0 : Nat) (fun x => []) [] none), some (Blk.mk true [] (1 : Nat) len (fun j => [AV.bool (p j)]) [] none),
                                    some
                                      (Blk.mk true
                                        [AV.int IntKind.i64 (OC.kd o ((0 : Nat) + Int.toNat (↑i : Int))), AV.part (0 : Nat) [(0 : Nat) + Int.toNat (↑i : Int)], AV.int IntKind.i64 (OC.fo o ((0 : Nat) + Int.toNat (↑i : Int))), AV.int IntKind.i64 (OC.fa o ((0 : Nat) + Int.toNat (↑i : Int))), AV.int IntKind.i64 (OC.fb o ((0 : Nat) + Int.toNat (↑i : Int))),
                                          AV.int IntKind.i64 (OC.pa o ((0 : Nat) + Int.toNat (↑i : Int))), AV.int IntKind.i64 (OC.ra o ((0 : Nat) + Int.toNat (↑i : Int))), AV.int IntKind.i64 (OC.co o ((0 : Nat) + Int.toNat (↑i : Int)))]
                                        (0 : Nat) (0 : Nat) (fun a => []) [] none)]))))))))))))))
    (T.ret
      (Ex.exit (0 : Nat),
        St.mk [((1 : Nat), AV.ptr (2 : Nat) (0 : Nat) (0 : Nat) (0 : Nat)), ((3 : Nat), AV.nils), ((4 : Nat), AV.sl (3 : Nat) (0 : Nat) (1 : Nat) (0 : Nat) len len), ((12 : Nat), AV.sl (1 : Nat) (0 : Nat) (8 : Nat) (0 : Nat) len cap), ((13 : Nat), AV.int IntKind.i64 (↑len : Int)), ((14 : Nat), AV.int IntKind.i64 (↑i : Int))]
          [some (Blk.mk false [] (0 : Nat) (0 : Nat) (fun x => []) [] (some fun js => Mem.mk (FD.nl x js) (FD.ad x js) (FD.ln x js) (FD.cp x js) (1 : Nat) fun q => [AV.int IntKind.i64 (FD.z x (q :: js))])),
            some (Blk.mk false [] (8 : Nat) cap (fun r => [AV.int IntKind.i64 (OC.kd o r), AV.part (0 : Nat) [r], AV.int IntKind.i64 (OC.fo o r), AV.int IntKind.i64 (OC.fa o r), AV.int IntKind.i64 (OC.fb o r), AV.int IntKind.i64 (OC.pa o r), AV.int IntKind.i64 (OC.ra o r), AV.int IntKind.i64 (OC.co o r)]) [] none),
            some (Blk.mk true [AV.int IntKind.i64 G, AV.sl (1 : Nat) (0 : Nat) (8 : Nat) (0 : Nat) len cap] (0 : Nat) (0 : Nat) (fun x => []) [] none), some (Blk.mk true [] (1 : Nat) len (fun j => [AV.bool (p j)]) [] none)])) := by
  kernel_rfl

theorem or_t1 (x : FD) (o : OC) (G : Int) (len cap : Nat) (p : Nat → Bool) (n c : Nat) (f : Nat → Int) (i : Nat) : T.cut (keepT [1, 3, 4, 12, 13, 14] (acode Try.prog orE orC (orLp x o G len cap ⟨p, true, n, c, f⟩ i))) [2, 8, 2, 6, 2, 2, 2, 0, 2, 0] = 
  T.ite (decide ((↑i : Int) < (↑len : Int)))
    (T.chk (decide ((0 : Int) ≤ (↑i : Int)) && decide ((↑i : Int) < (↑len : Int)))
      (T.chk (decide ((0 : Nat) + Int.toNat (↑i : Int) < cap))
        (T.chk (decide ((0 : Nat) + Int.toNat (↑i : Int) < cap))
          (T.chk (decide ((0 : Nat) + Int.toNat (↑i : Int) < cap))
            (T.chk (decide ((0 : Nat) + Int.toNat (↑i : Int) < cap))
              (T.chk (decide ((0 : Nat) + Int.toNat (↑i : Int) < cap))
                (T.chk (decide ((0 : Nat) + Int.toNat (↑i : Int) < cap))
                  (T.chk (decide ((0 : Nat) + Int.toNat (↑i : Int) < cap))
                    (T.chk (decide ((0 : Nat) + Int.toNat (↑i : Int) < cap))
                      (T.chk (decide ((0 : Int) ≤ (↑i : Int)) && decide ((↑i : Int) < (↑len : Int)))
                        (T.chk (decide ((0 : Nat) + Int.toNat (↑i : Int) < len))
                          (T.ite (!p ((0 : Nat) + Int.toNat (↑i : Int)))
                            (T.ite (FD.nl x [(0 : Nat) + Int.toNat (↑i : Int)])
                              (T.need True
                                (T.need (BoolRow (Blk.mk true [] (1 : Nat) len (fun j => [AV.bool (p j)]) [] none))
                                  (T.chk true
                                    (T.chk true
                                      (T.chk (decide (len ≤ len))
                                        (T.all fun c_1 =>
                                          T.ite (decide (c_1 = (0 : Nat)))
                                            (T.chk (decide ((0 : Int) ≤ (↑i : Int)) && decide ((↑i : Int) < (↑len : Int)))
                                              (T.chk (decide ((0 : Nat) + Int.toNat (↑i : Int) < len))
                                                (T.chk true
                                                  (T.chk (decide ((0 : Nat) + c ≤ c))
                                                    (T.chk (decide (n ≤ c))
                                                      (T.chk (decide (n + (1 : Nat) ≤ (4294967296 : Nat)))
                                                        (T.all fun c_2 =>
                                                          T.all fun c_3 =>
                                                            T.asm (decide (n + (1 : Nat) ≤ c_2 ∧ (c_3 = (0 : Nat) ∨ c_2 = c)))
                                                              (T.ret
                                                                (Ex.goto (0 : Nat),
                                                                  St.mk
                                                                    [((1 : Nat), AV.ptr (2 : Nat) (0 : Nat) (0 : Nat) (0 : Nat)), ((3 : Nat), AV.sl (7 : Nat) (0 : Nat) (1 : Nat) (0 : Nat) (n + (1 : Nat)) c_2), ((4 : Nat), AV.sl (3 : Nat) (0 : Nat) (1 : Nat) (0 : Nat) len len), ((12 : Nat), AV.sl (1 : Nat) (0 : Nat) (8 : Nat) (0 : Nat) len cap), ((13 : Nat), AV.int IntKind.i64 (↑len : Int)),
                                                                      ((14 : Nat), AV.int IntKind.i64 (↑i : Int))]
                                                                    [some (Blk.mk false [] (0 : Nat) (0 : Nat) (fun x => []) [] (some fun js => Mem.mk (FD.nl x js) (FD.ad x js) (FD.ln x js) (FD.cp x js) (1 : Nat) fun q => [AV.int IntKind.i64 (FD.z x (q :: js))])),
                                                                      some (Blk.mk false [] (8 : Nat) cap (fun r => [AV.int IntKind.i64 (OC.kd o r), AV.part (0 : Nat) [r], AV.int IntKind.i64 (OC.fo o r), AV.int IntKind.i64 (OC.fa o r), AV.int IntKind.i64 (OC.fb o r), AV.int IntKind.i64 (OC.pa o r), AV.int IntKind.i64 (OC.ra o r), AV.int IntKind.i64 (OC.co o r)]) [] none),
                                                                      some (Blk.mk true [AV.int IntKind.i64 G, AV.sl (1 : Nat) (0 : Nat) (8 : Nat) (0 : Nat) len cap] (0 : Nat) (0 : Nat) (fun x => []) [] none), some (Blk.mk true [] (1 : Nat) len (fun i_1 => Blk.setRow ((1 : Nat) == (1 : Nat)) (fun j => [AV.bool (p j)]) ((0 : Nat) + Int.toNat (↑i : Int)) (0 : Nat) AV.tt i_1) [] none), none,
                                                                      some
                                                                        (Blk.mk true
                                                                          [AV.int IntKind.i64 (OC.kd o ((0 : Nat) + Int.toNat (↑i : Int))), AV.part (0 : Nat) [(0 : Nat) + Int.toNat (↑i : Int)], AV.int IntKind.i64 (OC.fo o ((0 : Nat) + Int.toNat (↑i : Int))), AV.int IntKind.i64 (OC.fa o ((0 : Nat) + Int.toNat (↑i : Int))), AV.int IntKind.i64 (OC.fb o ((0 : Nat) + Int.toNat (↑i : Int))),
                                                                            AV.int IntKind.i64 (OC.pa o ((0 : Nat) + Int.toNat (↑i : Int))), AV.int IntKind.i64 (OC.ra o ((0 : Nat) + Int.toNat (↑i : Int))), AV.int IntKind.i64 (OC.co o ((0 : Nat) + Int.toNat (↑i : Int)))]
                                                                          (0 : Nat) (0 : Nat) (fun a => []) [] none),
                                                                      some (Blk.mk true [] (1 : Nat) (1 : Nat) (fun i_1 => [AV.int IntKind.i64 (List.getD [(↑i : Int)] i_1 (0 : Int))]) [] none),
                                                                      some
                                                                        (Blk.mk true [] (1 : Nat) c_2
                                                                          (fun r => if r < n then [AV.int IntKind.i64 (f ((0 : Nat) + r))] else if r < n + (1 : Nat) then List.map (fun c => Col.at c ((0 : Nat) + (r - n))) ([] ++ [Col.ints IntKind.i64 [(↑i : Int)]]) else if c_3 = (0 : Nat) then AV.cells (AV.int IntKind.i64 (0 : Int)) else [AV.int IntKind.i64 (f ((0 : Nat) + r))]) [] none)])))))))))
                                            (T.ret
                                              (Ex.norm,
                                                St.mk
                                                  [((1 : Nat), AV.ptr (2 : Nat) (0 : Nat) (0 : Nat) (0 : Nat)), ((3 : Nat), AV.sl (4 : Nat) (0 : Nat) (1 : Nat) (0 : Nat) n c), ((4 : Nat), AV.sl (3 : Nat) (0 : Nat) (1 : Nat) (0 : Nat) len len), ((12 : Nat), AV.sl (1 : Nat) (0 : Nat) (8 : Nat) (0 : Nat) len cap), ((13 : Nat), AV.int IntKind.i64 (↑len : Int)),
                                                    ((14 : Nat), AV.int IntKind.i64 (IntKind.wrap IntKind.i64 ((↑i : Int) + (1 : Int))))]
                                                  [some (Blk.mk false [] (0 : Nat) (0 : Nat) (fun x => []) [] (some fun js => Mem.mk (FD.nl x js) (FD.ad x js) (FD.ln x js) (FD.cp x js) (1 : Nat) fun q => [AV.int IntKind.i64 (FD.z x (q :: js))])),
                                                    some (Blk.mk false [] (8 : Nat) cap (fun r => [AV.int IntKind.i64 (OC.kd o r), AV.part (0 : Nat) [r], AV.int IntKind.i64 (OC.fo o r), AV.int IntKind.i64 (OC.fa o r), AV.int IntKind.i64 (OC.fb o r), AV.int IntKind.i64 (OC.pa o r), AV.int IntKind.i64 (OC.ra o r), AV.int IntKind.i64 (OC.co o r)]) [] none),
                                                    some (Blk.mk true [AV.int IntKind.i64 G, AV.sl (1 : Nat) (0 : Nat) (8 : Nat) (0 : Nat) len cap] (0 : Nat) (0 : Nat) (fun x => []) [] none), some (Blk.mk true [] (1 : Nat) len (fun j => [AV.bool (p j)]) [] none), some (Blk.mk true [] (1 : Nat) c (fun j => [AV.int IntKind.i64 (f j)]) [] none),
                                                    some
                                                      (Blk.mk true
                                                        [AV.int IntKind.i64 (OC.kd o ((0 : Nat) + Int.toNat (↑i : Int))), AV.part (0 : Nat) [(0 : Nat) + Int.toNat (↑i : Int)], AV.int IntKind.i64 (OC.fo o ((0 : Nat) + Int.toNat (↑i : Int))), AV.int IntKind.i64 (OC.fa o ((0 : Nat) + Int.toNat (↑i : Int))), AV.int IntKind.i64 (OC.fb o ((0 : Nat) + Int.toNat (↑i : Int))),
                                                          AV.int IntKind.i64 (OC.pa o ((0 : Nat) + Int.toNat (↑i : Int))), AV.int IntKind.i64 (OC.ra o ((0 : Nat) + Int.toNat (↑i : Int))), AV.int IntKind.i64 (OC.co o ((0 : Nat) + Int.toNat (↑i : Int)))]
                                                        (0 : Nat) (0 : Nat) (fun a => []) [] none)]))))))))
                              (T.need (IntRow IntKind.i64 (Blk.mk false [] (1 : Nat) (FD.cp x [(0 : Nat) + Int.toNat (↑i : Int)]) (fun a => [AV.int IntKind.i64 (FD.z x [a, (0 : Nat) + Int.toNat (↑i : Int)])]) [] none))
                                (T.need (BoolRow (Blk.mk true [] (1 : Nat) len (fun j => [AV.bool (p j)]) [] none))
                                  (T.chk (decide ((0 : Nat) + FD.ln x [(0 : Nat) + Int.toNat (↑i : Int)] ≤ FD.cp x [(0 : Nat) + Int.toNat (↑i : Int)]))
                                    (T.chk (decide (FD.ln x [(0 : Nat) + Int.toNat (↑i : Int)] ≤ (9223372036854775807 : Nat)))
                                      (T.chk (decide (len ≤ len))
                                        (T.all fun c_1 =>
                                          T.ite (decide (c_1 = (0 : Nat)))
                                            (T.chk (decide ((0 : Int) ≤ (↑i : Int)) && decide ((↑i : Int) < (↑len : Int)))
                                              (T.chk (decide ((0 : Nat) + Int.toNat (↑i : Int) < len))
                                                (T.chk true
                                                  (T.chk (decide ((0 : Nat) + c ≤ c))
                                                    (T.chk (decide (n ≤ c))
                                                      (T.chk (decide (n + (1 : Nat) ≤ (4294967296 : Nat)))
                                                        (T.all fun c_2 =>
                                                          T.all fun c_3 =>
                                                            T.asm (decide (n + (1 : Nat) ≤ c_2 ∧ (c_3 = (0 : Nat) ∨ c_2 = c)))
                                                              (T.ret
                                                                (Ex.goto (0 : Nat),
                                                                  St.mk
                                                                    [((1 : Nat), AV.ptr (2 : Nat) (0 : Nat) (0 : Nat) (0 : Nat)), ((3 : Nat), AV.sl (8 : Nat) (0 : Nat) (1 : Nat) (0 : Nat) (n + (1 : Nat)) c_2), ((4 : Nat), AV.sl (3 : Nat) (0 : Nat) (1 : Nat) (0 : Nat) len len), ((12 : Nat), AV.sl (1 : Nat) (0 : Nat) (8 : Nat) (0 : Nat) len cap), ((13 : Nat), AV.int IntKind.i64 (↑len : Int)),
                                                                      ((14 : Nat), AV.int IntKind.i64 (↑i : Int))]
                                                                    [some (Blk.mk false [] (0 : Nat) (0 : Nat) (fun x => []) [] (some fun js => Mem.mk (FD.nl x js) (FD.ad x js) (FD.ln x js) (FD.cp x js) (1 : Nat) fun q => [AV.int IntKind.i64 (FD.z x (q :: js))])),
                                                                      some (Blk.mk false [] (8 : Nat) cap (fun r => [AV.int IntKind.i64 (OC.kd o r), AV.part (0 : Nat) [r], AV.int IntKind.i64 (OC.fo o r), AV.int IntKind.i64 (OC.fa o r), AV.int IntKind.i64 (OC.fb o r), AV.int IntKind.i64 (OC.pa o r), AV.int IntKind.i64 (OC.ra o r), AV.int IntKind.i64 (OC.co o r)]) [] none),
                                                                      some (Blk.mk true [AV.int IntKind.i64 G, AV.sl (1 : Nat) (0 : Nat) (8 : Nat) (0 : Nat) len cap] (0 : Nat) (0 : Nat) (fun x => []) [] none), some (Blk.mk true [] (1 : Nat) len (fun i_1 => Blk.setRow ((1 : Nat) == (1 : Nat)) (fun j => [AV.bool (p j)]) ((0 : Nat) + Int.toNat (↑i : Int)) (0 : Nat) AV.tt i_1) [] none), none,
                                                                      some
                                                                        (Blk.mk true
                                                                          [AV.int IntKind.i64 (OC.kd o ((0 : Nat) + Int.toNat (↑i : Int))), AV.part (0 : Nat) [(0 : Nat) + Int.toNat (↑i : Int)], AV.int IntKind.i64 (OC.fo o ((0 : Nat) + Int.toNat (↑i : Int))), AV.int IntKind.i64 (OC.fa o ((0 : Nat) + Int.toNat (↑i : Int))), AV.int IntKind.i64 (OC.fb o ((0 : Nat) + Int.toNat (↑i : Int))),
                                                                            AV.int IntKind.i64 (OC.pa o ((0 : Nat) + Int.toNat (↑i : Int))), AV.int IntKind.i64 (OC.ra o ((0 : Nat) + Int.toNat (↑i : Int))), AV.int IntKind.i64 (OC.co o ((0 : Nat) + Int.toNat (↑i : Int)))]
                                                                          (0 : Nat) (0 : Nat) (fun a => []) [] none),
                                                                      some (Blk.mk false [] (1 : Nat) (FD.cp x [(0 : Nat) + Int.toNat (↑i : Int)]) (fun a => [AV.int IntKind.i64 (FD.z x [a, (0 : Nat) + Int.toNat (↑i : Int)])]) [] none), some (Blk.mk true [] (1 : Nat) (1 : Nat) (fun i_1 => [AV.int IntKind.i64 (List.getD [(↑i : Int)] i_1 (0 : Int))]) [] none),
                                                                      some
                                                                        (Blk.mk true [] (1 : Nat) c_2
                                                                          (fun r => if r < n then [AV.int IntKind.i64 (f ((0 : Nat) + r))] else if r < n + (1 : Nat) then List.map (fun c => Col.at c ((0 : Nat) + (r - n))) ([] ++ [Col.ints IntKind.i64 [(↑i : Int)]]) else if c_3 = (0 : Nat) then AV.cells (AV.int IntKind.i64 (0 : Int)) else [AV.int IntKind.i64 (f ((0 : Nat) + r))]) [] none)])))))))))
                                            (T.ret
                                              (Ex.norm,
                                                St.mk
                                                  [((1 : Nat), AV.ptr (2 : Nat) (0 : Nat) (0 : Nat) (0 : Nat)), ((3 : Nat), AV.sl (4 : Nat) (0 : Nat) (1 : Nat) (0 : Nat) n c), ((4 : Nat), AV.sl (3 : Nat) (0 : Nat) (1 : Nat) (0 : Nat) len len), ((12 : Nat), AV.sl (1 : Nat) (0 : Nat) (8 : Nat) (0 : Nat) len cap), ((13 : Nat), AV.int IntKind.i64 (↑len : Int)),
                                                    ((14 : Nat), AV.int IntKind.i64 (IntKind.wrap IntKind.i64 ((↑i : Int) + (1 : Int))))]
                                                  [some (Blk.mk false [] (0 : Nat) (0 : Nat) (fun x => []) [] (some fun js => Mem.mk (FD.nl x js) (FD.ad x js) (FD.ln x js) (FD.cp x js) (1 : Nat) fun q => [AV.int IntKind.i64 (FD.z x (q :: js))])),
                                                    some (Blk.mk false [] (8 : Nat) cap (fun r => [AV.int IntKind.i64 (OC.kd o r), AV.part (0 : Nat) [r], AV.int IntKind.i64 (OC.fo o r), AV.int IntKind.i64 (OC.fa o r), AV.int IntKind.i64 (OC.fb o r), AV.int IntKind.i64 (OC.pa o r), AV.int IntKind.i64 (OC.ra o r), AV.int IntKind.i64 (OC.co o r)]) [] none),
                                                    some (Blk.mk true [AV.int IntKind.i64 G, AV.sl (1 : Nat) (0 : Nat) (8 : Nat) (0 : Nat) len cap] (0 : Nat) (0 : Nat) (fun x => []) [] none), some (Blk.mk true [] (1 : Nat) len (fun j => [AV.bool (p j)]) [] none), some (Blk.mk true [] (1 : Nat) c (fun j => [AV.int IntKind.i64 (f j)]) [] none),
                                                    some
                                                      (Blk.mk true
                                                        [AV.int IntKind.i64 (OC.kd o ((0 : Nat) + Int.toNat (↑i : Int))), AV.part (0 : Nat) [(0 : Nat) + Int.toNat (↑i : Int)], AV.int IntKind.i64 (OC.fo o ((0 : Nat) + Int.toNat (↑i : Int))), AV.int IntKind.i64 (OC.fa o ((0 : Nat) + Int.toNat (↑i : Int))), AV.int IntKind.i64 (OC.fb o ((0 : Nat) + Int.toNat (↑i : Int))),
                                                          AV.int IntKind.i64 (OC.pa o ((0 : Nat) + Int.toNat (↑i : Int))), AV.int IntKind.i64 (OC.ra o ((0 : Nat) + Int.toNat (↑i : Int))), AV.int IntKind.i64 (OC.co o ((0 : Nat) + Int.toNat (↑i : Int)))]
                                                        (0 : Nat) (0 : Nat) (fun a => []) [] none),
                                                    some (Blk.mk false [] (1 : Nat) (FD.cp x [(0 : Nat) + Int.toNat (↑i : Int)]) (fun a => [AV.int IntKind.i64 (FD.z x [a, (0 : Nat) + Int.toNat (↑i : Int)])]) [] none)])))))))))
                            (T.ret
                              (Ex.norm,
                                St.mk
                                  [((1 : Nat), AV.ptr (2 : Nat) (0 : Nat) (0 : Nat) (0 : Nat)), ((3 : Nat), AV.sl (4 : Nat) (0 : Nat) (1 : Nat) (0 : Nat) n c), ((4 : Nat), AV.sl (3 : Nat) (0 : Nat) (1 : Nat) (0 : Nat) len len), ((12 : Nat), AV.sl (1 : Nat) (0 : Nat) (8 : Nat) (0 : Nat) len cap), ((13 : Nat), AV.int IntKind.i64 (↑len : Int)),
                                    ((14 : Nat), AV.int IntKind.i64 (IntKind.wrap IntKind.i64 ((↑i : Int) + (1 : Int))))]
                                  [some (Blk.mk false [] (0 : Nat) (0 : Nat) (fun x => []) [] (some fun js => Mem.mk (FD.nl x js) (FD.ad x js) (FD.ln x js) (FD.cp x js) (1 : Nat) fun q => [AV.int IntKind.i64 (FD.z x (q :: js))])),
                                    some (Blk.mk false [] (8 : Nat) cap (fun r => [AV.int IntKind.i64 (OC.kd o r), AV.part (0 : Nat) [r], AV.int IntKind.i64 (OC.fo o r), AV.int IntKind.i64 (OC.fa o r), AV.int IntKind.i64 (OC.fb o r), AV.int IntKind.i64 (OC.pa o r), AV.int IntKind.i64 (OC.ra o r), AV.int IntKind.i64 (OC.co o r)]) [] none),
                                    some (Blk.mk true [AV.int IntKind.i64 G, AV.sl (1 : Nat) (0 : Nat) (8 : Nat) (0 : Nat) len cap] (0 : Nat) (0 : Nat) (fun x => []) [] none), some (Blk.mk true [] (1 : Nat) len (fun j => [AV.bool (p j)]) [] none), some (Blk.mk true [] (1 : Nat) c (fun j => [AV.int IntKind.i64 (f j)]) [] none),
                                    some
                                      (Blk.mk true
                                        [AV.int IntKind.i64 (OC.kd o ((0 : Nat) + Int.toNat (↑i : Int))), AV.part (0 : Nat) [(0 : Nat) + Int.toNat (↑i : Int)], AV.int IntKind.i64 (OC.fo o ((0 : Nat) + Int.toNat (↑i : Int))), AV.int IntKind.i64 (OC.fa o ((0 : Nat) + Int.toNat (↑i : Int))), AV.int IntKind.i64 (OC.fb o ((0 : Nat) + Int.toNat (↑i : Int))),
                                          AV.int IntKind.i64 (OC.pa o ((0 : Nat) + Int.toNat (↑i : Int))), AV.int IntKind.i64 (OC.ra o ((0 : Nat) + Int.toNat (↑i : Int))), AV.int IntKind.i64 (OC.co o ((0 : Nat) + Int.toNat (↑i : Int)))]
                                        (0 : Nat) (0 : Nat) (fun a => []) [] none)]))))))))))))))
    (T.ret
      (Ex.exit (0 : Nat),
        St.mk [((1 : Nat), AV.ptr (2 : Nat) (0 : Nat) (0 : Nat) (0 : Nat)), ((3 : Nat), AV.sl (4 : Nat) (0 : Nat) (1 : Nat) (0 : Nat) n c), ((4 : Nat), AV.sl (3 : Nat) (0 : Nat) (1 : Nat) (0 : Nat) len len), ((12 : Nat), AV.sl (1 : Nat) (0 : Nat) (8 : Nat) (0 : Nat) len cap), ((13 : Nat), AV.int IntKind.i64 (↑len : Int)), ((14 : Nat), AV.int IntKind.i64 (↑i : Int))]
          [some (Blk.mk false [] (0 : Nat) (0 : Nat) (fun x => []) [] (some fun js => Mem.mk (FD.nl x js) (FD.ad x js) (FD.ln x js) (FD.cp x js) (1 : Nat) fun q => [AV.int IntKind.i64 (FD.z x (q :: js))])),
            some (Blk.mk false [] (8 : Nat) cap (fun r => [AV.int IntKind.i64 (OC.kd o r), AV.part (0 : Nat) [r], AV.int IntKind.i64 (OC.fo o r), AV.int IntKind.i64 (OC.fa o r), AV.int IntKind.i64 (OC.fb o r), AV.int IntKind.i64 (OC.pa o r), AV.int IntKind.i64 (OC.ra o r), AV.int IntKind.i64 (OC.co o r)]) [] none),
            some (Blk.mk true [AV.int IntKind.i64 G, AV.sl (1 : Nat) (0 : Nat) (8 : Nat) (0 : Nat) len cap] (0 : Nat) (0 : Nat) (fun x => []) [] none), some (Blk.mk true [] (1 : Nat) len (fun j => [AV.bool (p j)]) [] none), some (Blk.mk true [] (1 : Nat) c (fun j => [AV.int IntKind.i64 (f j)]) [] none)])) := by
  kernel_rfl

theorem or_z0 (x : FD) (o : OC) (G : Int) (len cap : Nat) (p : Nat → Bool) (n c : Nat) (f : Nat → Int) (i : Nat) : T.cut (keepT [2] (acodeL Try.prog orE ((chainOf orR).drop 3) (orLp x o G len cap ⟨p, false, n, c, f⟩ i))) [] = 
  T.ret
    (Ex.ret,
      St.mk [((2 : Nat), AV.nils)]
        [some (Blk.mk false [] (0 : Nat) (0 : Nat) (fun x => []) [] (some fun js => Mem.mk (FD.nl x js) (FD.ad x js) (FD.ln x js) (FD.cp x js) (1 : Nat) fun q => [AV.int IntKind.i64 (FD.z x (q :: js))])),
          some (Blk.mk false [] (8 : Nat) cap (fun r => [AV.int IntKind.i64 (OC.kd o r), AV.part (0 : Nat) [r], AV.int IntKind.i64 (OC.fo o r), AV.int IntKind.i64 (OC.fa o r), AV.int IntKind.i64 (OC.fb o r), AV.int IntKind.i64 (OC.pa o r), AV.int IntKind.i64 (OC.ra o r), AV.int IntKind.i64 (OC.co o r)]) [] none),
          some (Blk.mk true [AV.int IntKind.i64 G, AV.sl (1 : Nat) (0 : Nat) (8 : Nat) (0 : Nat) len cap] (0 : Nat) (0 : Nat) (fun x => []) [] none), some (Blk.mk true [] (1 : Nat) len (fun j => [AV.bool (p j)]) [] none)]) := by
  kernel_rfl

theorem or_z1 (x : FD) (o : OC) (G : Int) (len cap : Nat) (p : Nat → Bool) (n c : Nat) (f : Nat → Int) (i : Nat) : T.cut (keepT [2] (acodeL Try.prog orE ((chainOf orR).drop 3) (orLp x o G len cap ⟨p, true, n, c, f⟩ i))) [] = 
  T.ret
    (Ex.ret,
      St.mk [((2 : Nat), AV.sl (4 : Nat) (0 : Nat) (1 : Nat) (0 : Nat) n c)]
        [some (Blk.mk false [] (0 : Nat) (0 : Nat) (fun x => []) [] (some fun js => Mem.mk (FD.nl x js) (FD.ad x js) (FD.ln x js) (FD.cp x js) (1 : Nat) fun q => [AV.int IntKind.i64 (FD.z x (q :: js))])),
          some (Blk.mk false [] (8 : Nat) cap (fun r => [AV.int IntKind.i64 (OC.kd o r), AV.part (0 : Nat) [r], AV.int IntKind.i64 (OC.fo o r), AV.int IntKind.i64 (OC.fa o r), AV.int IntKind.i64 (OC.fb o r), AV.int IntKind.i64 (OC.pa o r), AV.int IntKind.i64 (OC.ra o r), AV.int IntKind.i64 (OC.co o r)]) [] none),
          some (Blk.mk true [AV.int IntKind.i64 G, AV.sl (1 : Nat) (0 : Nat) (8 : Nat) (0 : Nat) len cap] (0 : Nat) (0 : Nat) (fun x => []) [] none), some (Blk.mk true [] (1 : Nat) len (fun j => [AV.bool (p j)]) [] none), some (Blk.mk true [] (1 : Nat) c (fun j => [AV.int IntKind.i64 (f j)]) [] none)]) := by
  kernel_rfl

theorem or_bS : (chainOf orS).drop 4 = .block 0 (.loop orC) :: (chainOf orR).drop 3 := by
  kernel_rfl

theorem or_bR : (chainOf orR).drop 2 = .block 0 (.loop orC) :: (chainOf orR).drop 3 := by
  kernel_rfl

theorem or_fl : findLabel orS 0 = some orR := by
  kernel_rfl

theorem or_ch : chainOf (codeOf Try.f40) = (chainOf (codeOf Try.f40)).take 1 ++ [.scope orS] := by
  kernel_rfl

theorem or_res : Try.f40.results.toList = [.tmp 2] := by
  kernel_rfl

end Go.Proofs.Ytnfngaapjodpcaa
