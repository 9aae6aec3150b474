/-
  Layer 20: mixed: trees.
-/
import Derived.Test.YtnfngaapjodpcaaHY
namespace Go.Proofs.Ytnfngaapjodpcaa
open Go.Ox

set_option maxRecDepth 100000
set_option maxHeartbeats 4000000
set_option linter.unusedVariables false
set_option linter.unusedSimpArgs false

noncomputable def miF (x : FD) (o : OC) (G : Int) (len cap : Nat) : List (Nat × Summ) := [(48, .eff (roS x o G len cap)), (43, .pure ixN)]

noncomputable def miL : List (Nat × Func) := [(36, Try.f36)]

theorem miL_ok : InlOK Try.prog miL := ⟨⟨fun args w => Try.call36 args w, Try.func36, rfl, by kernel_rfl⟩, trivial⟩

noncomputable def miE (x : FD) (o : OC) (G : Int) (len cap n0 : Nat) : Env := { nt := Try.f41.ntmps, n0 := n0, vec := true, fns := openAll (inl Try.prog (miF x o G len cap) miL), loop := fun _ _ => .fail }

theorem miE_ok (x : FD) (o : OC) (G : Int) (len cap n0 : Nat) (h : spOK x len cap) (h12 : len ≤ 12) : EnvOK Try.prog (miE x o G len cap n0).fns := EnvOK.open_ (inl_ok (EnvOK.cons (roS_ok x o G len cap h h12) (EnvOK.cons ixN_ok EnvOK.nil)) miL miL_ok)

noncomputable def miC : Code := loopAt (codeOf Try.f41) 0

noncomputable def miB : Code := inBlk ((chainOf miC).getD 2 .skip)

noncomputable def miD : Code := loopAt miB 0

structure MX where
  hs : Bool
  n : Nat
  c : Nat
  f : Nat → Int

def miM (x : FD) (o : OC) (G : Int) (len cap : Nat) (z : Nat → Int) (C : Nat) (y : MX) : AM :=
  match y.hs with
  | false => spM x o cap ++ [some (inB C z), some (boxS G len cap)]
  | true => spM x o cap ++ [some (inB C z), some (boxS G len cap), some (i64B y.c y.f)]

def miA (y : MX) : AV :=
  match y.hs with
  | false => .nils
  | true => .sl 4 0 1 0 y.n y.c

def miK (y : MX) : Nat :=
  match y.hs with
  | false => 4
  | true => 5

def miSt (x : FD) (o : OC) (G : Int) (len cap : Nat) (z : Nat → Int) (C L : Nat) (t : MX × Nat) : St := ⟨[(2, .ptr 3 0 0 0), (5, miA t.1), (10, .sl 2 0 1 0 L C), (11, .int .i64 L), (12, .int .i64 t.2)], miM x o G len cap z C t.1⟩

def miIn (x : FD) (o : OC) (G : Int) (len cap : Nat) (z : Nat → Int) (C L i m mc : Nat) (g : Nat → Int) (t : MX × Nat) : St := ⟨[(2, .ptr 3 0 0 0), (5, miA t.1), (10, .sl 2 0 1 0 L C), (11, .int .i64 L), (12, .int .i64 i), (18, .sl (miK t.1) 0 1 0 m mc), (19, .int .i64 m), (20, .int .i64 t.2)], miM x o G len cap z C t.1 ++ [some (i64B mc g)]⟩

theorem mi_a (x : FD) (o : OC) (G : Int) (len cap : Nat) (z : Nat → Int) (C L : Nat) : T.cut (keepT [2, 5, 10, 11, 12] (acodeL Try.prog (miE x o G len cap 3) ((chainOf (codeOf Try.f41)).take 3) ⟨[(0, spA G len cap), (1, .sl 2 0 1 0 L C)], spM x o cap ++ [some (inB C z)]⟩)) [] = 
  T.ret
    (Ex.norm,
      St.mk [((2 : Nat), AV.ptr (3 : Nat) (0 : Nat) (0 : Nat) (0 : Nat)), ((5 : Nat), AV.nils), ((10 : Nat), AV.sl (2 : Nat) (0 : Nat) (1 : Nat) (0 : Nat) L C), ((11 : Nat), AV.int IntKind.i64 (↑L : Int)), ((12 : Nat), AV.int IntKind.i64 (0 : Int))]
        [some (Blk.mk false [] (0 : Nat) (0 : Nat) (fun x => []) [] (some fun js => Mem.mk (FD.nl x js) (FD.ad x js) (FD.ln x js) (FD.cp x js) (1 : Nat) fun q => [AV.int IntKind.i64 (FD.z x (q :: js))])),
          some (Blk.mk false [] (8 : Nat) cap (fun r => [AV.int IntKind.i64 (OC.kd o r), AV.part (0 : Nat) [r], AV.int IntKind.i64 (OC.fo o r), AV.int IntKind.i64 (OC.fa o r), AV.int IntKind.i64 (OC.fb o r), AV.int IntKind.i64 (OC.pa o r), AV.int IntKind.i64 (OC.ra o r), AV.int IntKind.i64 (OC.co o r)]) [] none), some (Blk.mk false [] (1 : Nat) C (fun a => [AV.int IntKind.i64 (z a)]) [] none),
          some (Blk.mk true [AV.int IntKind.i64 G, AV.sl (1 : Nat) (0 : Nat) (8 : Nat) (0 : Nat) len cap] (0 : Nat) (0 : Nat) (fun x => []) [] none)]) := by
  kernel_rfl

theorem mi_b0 (x : FD) (o : OC) (G : Int) (len cap : Nat) (z : Nat → Int) (C L n c : Nat) (f : Nat → Int) (i : Nat) : T.cut (keepT [2, 5, 10, 11, 12] (acodeL Try.prog (miE x o G len cap 3) ((chainOf miC).take 2) (miSt x o G len cap z C L (⟨false, n, c, f⟩, i)))) [2, 0] = 
  T.ite (decide ((↑i : Int) < (↑L : Int)))
    (T.ret
      (Ex.norm,
        St.mk [((2 : Nat), AV.ptr (3 : Nat) (0 : Nat) (0 : Nat) (0 : Nat)), ((5 : Nat), AV.nils), ((10 : Nat), AV.sl (2 : Nat) (0 : Nat) (1 : Nat) (0 : Nat) L C), ((11 : Nat), AV.int IntKind.i64 (↑L : Int)), ((12 : Nat), AV.int IntKind.i64 (↑i : Int))]
          [some (Blk.mk false [] (0 : Nat) (0 : Nat) (fun x => []) [] (some fun js => Mem.mk (FD.nl x js) (FD.ad x js) (FD.ln x js) (FD.cp x js) (1 : Nat) fun q => [AV.int IntKind.i64 (FD.z x (q :: js))])),
            some (Blk.mk false [] (8 : Nat) cap (fun r => [AV.int IntKind.i64 (OC.kd o r), AV.part (0 : Nat) [r], AV.int IntKind.i64 (OC.fo o r), AV.int IntKind.i64 (OC.fa o r), AV.int IntKind.i64 (OC.fb o r), AV.int IntKind.i64 (OC.pa o r), AV.int IntKind.i64 (OC.ra o r), AV.int IntKind.i64 (OC.co o r)]) [] none), some (Blk.mk false [] (1 : Nat) C (fun a => [AV.int IntKind.i64 (z a)]) [] none),
            some (Blk.mk true [AV.int IntKind.i64 G, AV.sl (1 : Nat) (0 : Nat) (8 : Nat) (0 : Nat) len cap] (0 : Nat) (0 : Nat) (fun x => []) [] none)]))
    (T.ret
      (Ex.exit (0 : Nat),
        St.mk [((2 : Nat), AV.ptr (3 : Nat) (0 : Nat) (0 : Nat) (0 : Nat)), ((5 : Nat), AV.nils), ((10 : Nat), AV.sl (2 : Nat) (0 : Nat) (1 : Nat) (0 : Nat) L C), ((11 : Nat), AV.int IntKind.i64 (↑L : Int)), ((12 : Nat), AV.int IntKind.i64 (↑i : Int))]
          [some (Blk.mk false [] (0 : Nat) (0 : Nat) (fun x => []) [] (some fun js => Mem.mk (FD.nl x js) (FD.ad x js) (FD.ln x js) (FD.cp x js) (1 : Nat) fun q => [AV.int IntKind.i64 (FD.z x (q :: js))])),
            some (Blk.mk false [] (8 : Nat) cap (fun r => [AV.int IntKind.i64 (OC.kd o r), AV.part (0 : Nat) [r], AV.int IntKind.i64 (OC.fo o r), AV.int IntKind.i64 (OC.fa o r), AV.int IntKind.i64 (OC.fb o r), AV.int IntKind.i64 (OC.pa o r), AV.int IntKind.i64 (OC.ra o r), AV.int IntKind.i64 (OC.co o r)]) [] none), some (Blk.mk false [] (1 : Nat) C (fun a => [AV.int IntKind.i64 (z a)]) [] none),
            some (Blk.mk true [AV.int IntKind.i64 G, AV.sl (1 : Nat) (0 : Nat) (8 : Nat) (0 : Nat) len cap] (0 : Nat) (0 : Nat) (fun x => []) [] none)])) := by
  kernel_rfl

theorem mi_b1 (x : FD) (o : OC) (G : Int) (len cap : Nat) (z : Nat → Int) (C L n c : Nat) (f : Nat → Int) (i : Nat) : T.cut (keepT [2, 5, 10, 11, 12] (acodeL Try.prog (miE x o G len cap 3) ((chainOf miC).take 2) (miSt x o G len cap z C L (⟨true, n, c, f⟩, i)))) [2, 0] = 
  T.ite (decide ((↑i : Int) < (↑L : Int)))
    (T.ret
      (Ex.norm,
        St.mk [((2 : Nat), AV.ptr (3 : Nat) (0 : Nat) (0 : Nat) (0 : Nat)), ((5 : Nat), AV.sl (4 : Nat) (0 : Nat) (1 : Nat) (0 : Nat) n c), ((10 : Nat), AV.sl (2 : Nat) (0 : Nat) (1 : Nat) (0 : Nat) L C), ((11 : Nat), AV.int IntKind.i64 (↑L : Int)), ((12 : Nat), AV.int IntKind.i64 (↑i : Int))]
          [some (Blk.mk false [] (0 : Nat) (0 : Nat) (fun x => []) [] (some fun js => Mem.mk (FD.nl x js) (FD.ad x js) (FD.ln x js) (FD.cp x js) (1 : Nat) fun q => [AV.int IntKind.i64 (FD.z x (q :: js))])),
            some (Blk.mk false [] (8 : Nat) cap (fun r => [AV.int IntKind.i64 (OC.kd o r), AV.part (0 : Nat) [r], AV.int IntKind.i64 (OC.fo o r), AV.int IntKind.i64 (OC.fa o r), AV.int IntKind.i64 (OC.fb o r), AV.int IntKind.i64 (OC.pa o r), AV.int IntKind.i64 (OC.ra o r), AV.int IntKind.i64 (OC.co o r)]) [] none), some (Blk.mk false [] (1 : Nat) C (fun a => [AV.int IntKind.i64 (z a)]) [] none),
            some (Blk.mk true [AV.int IntKind.i64 G, AV.sl (1 : Nat) (0 : Nat) (8 : Nat) (0 : Nat) len cap] (0 : Nat) (0 : Nat) (fun x => []) [] none), some (Blk.mk true [] (1 : Nat) c (fun j => [AV.int IntKind.i64 (f j)]) [] none)]))
    (T.ret
      (Ex.exit (0 : Nat),
        St.mk [((2 : Nat), AV.ptr (3 : Nat) (0 : Nat) (0 : Nat) (0 : Nat)), ((5 : Nat), AV.sl (4 : Nat) (0 : Nat) (1 : Nat) (0 : Nat) n c), ((10 : Nat), AV.sl (2 : Nat) (0 : Nat) (1 : Nat) (0 : Nat) L C), ((11 : Nat), AV.int IntKind.i64 (↑L : Int)), ((12 : Nat), AV.int IntKind.i64 (↑i : Int))]
          [some (Blk.mk false [] (0 : Nat) (0 : Nat) (fun x => []) [] (some fun js => Mem.mk (FD.nl x js) (FD.ad x js) (FD.ln x js) (FD.cp x js) (1 : Nat) fun q => [AV.int IntKind.i64 (FD.z x (q :: js))])),
            some (Blk.mk false [] (8 : Nat) cap (fun r => [AV.int IntKind.i64 (OC.kd o r), AV.part (0 : Nat) [r], AV.int IntKind.i64 (OC.fo o r), AV.int IntKind.i64 (OC.fa o r), AV.int IntKind.i64 (OC.fb o r), AV.int IntKind.i64 (OC.pa o r), AV.int IntKind.i64 (OC.ra o r), AV.int IntKind.i64 (OC.co o r)]) [] none), some (Blk.mk false [] (1 : Nat) C (fun a => [AV.int IntKind.i64 (z a)]) [] none),
            some (Blk.mk true [AV.int IntKind.i64 G, AV.sl (1 : Nat) (0 : Nat) (8 : Nat) (0 : Nat) len cap] (0 : Nat) (0 : Nat) (fun x => []) [] none), some (Blk.mk true [] (1 : Nat) c (fun j => [AV.int IntKind.i64 (f j)]) [] none)])) := by
  kernel_rfl

theorem mi_c0 (x : FD) (o : OC) (G : Int) (len cap : Nat) (z : Nat → Int) (C L n c : Nat) (f : Nat → Int) (i : Nat) : T.cut (keepT [2, 5, 10, 11, 12, 18, 19, 20] (acodeL Try.prog (miE x o G len cap 3) ((chainOf miB).take 2) (miSt x o G len cap z C L (⟨false, n, c, f⟩, i)))) [2, 0] = 
  T.chk (decide ((0 : Int) ≤ (↑i : Int)) && decide ((↑i : Int) < (↑L : Int)))
    (T.chk (decide ((0 : Nat) + Int.toNat (↑i : Int) < C))
      (T.need (G = G ∧ len = len ∧ cap = cap)
        (T.need
          (spIn x o cap
            [some (Blk.mk false [] (0 : Nat) (0 : Nat) (fun x => []) [] (some fun js => Mem.mk (FD.nl x js) (FD.ad x js) (FD.ln x js) (FD.cp x js) (1 : Nat) fun q => [AV.int IntKind.i64 (FD.z x (q :: js))])),
              some (Blk.mk false [] (8 : Nat) cap (fun r => [AV.int IntKind.i64 (OC.kd o r), AV.part (0 : Nat) [r], AV.int IntKind.i64 (OC.fo o r), AV.int IntKind.i64 (OC.fa o r), AV.int IntKind.i64 (OC.fb o r), AV.int IntKind.i64 (OC.pa o r), AV.int IntKind.i64 (OC.ra o r), AV.int IntKind.i64 (OC.co o r)]) [] none), some (Blk.mk false [] (1 : Nat) C (fun a => [AV.int IntKind.i64 (z a)]) [] none),
              some (Blk.mk true [AV.int IntKind.i64 G, AV.sl (1 : Nat) (0 : Nat) (8 : Nat) (0 : Nat) len cap] (0 : Nat) (0 : Nat) (fun x => []) [] none)])
          (T.all fun c =>
            T.ite (decide (c = (0 : Nat)))
              (T.ret
                (Ex.norm,
                  St.mk [((2 : Nat), AV.ptr (3 : Nat) (0 : Nat) (0 : Nat) (0 : Nat)), ((5 : Nat), AV.nils), ((10 : Nat), AV.sl (2 : Nat) (0 : Nat) (1 : Nat) (0 : Nat) L C), ((11 : Nat), AV.int IntKind.i64 (↑L : Int)), ((12 : Nat), AV.int IntKind.i64 (↑i : Int)), ((18 : Nat), AV.nils), ((19 : Nat), AV.int IntKind.i64 (0 : Int)), ((20 : Nat), AV.int IntKind.i64 (0 : Int))]
                    [some (Blk.mk false [] (0 : Nat) (0 : Nat) (fun x => []) [] (some fun js => Mem.mk (FD.nl x js) (FD.ad x js) (FD.ln x js) (FD.cp x js) (1 : Nat) fun q => [AV.int IntKind.i64 (FD.z x (q :: js))])),
                      some (Blk.mk false [] (8 : Nat) cap (fun r => [AV.int IntKind.i64 (OC.kd o r), AV.part (0 : Nat) [r], AV.int IntKind.i64 (OC.fo o r), AV.int IntKind.i64 (OC.fa o r), AV.int IntKind.i64 (OC.fb o r), AV.int IntKind.i64 (OC.pa o r), AV.int IntKind.i64 (OC.ra o r), AV.int IntKind.i64 (OC.co o r)]) [] none),
                      some (Blk.mk false [] (1 : Nat) C (fun a => [AV.int IntKind.i64 (z a)]) [] none), some (Blk.mk true [AV.int IntKind.i64 G, AV.sl (1 : Nat) (0 : Nat) (8 : Nat) (0 : Nat) len cap] (0 : Nat) (0 : Nat) (fun x => []) [] none)]))
              (T.all fun c =>
                T.asm (decide (c ≤ len))
                  (T.all fun c_1 =>
                    T.asm (decide (c ≤ c_1))
                      (T.alf fun c_2 =>
                        T.ret
                          (Ex.norm,
                            St.mk
                              [((2 : Nat), AV.ptr (3 : Nat) (0 : Nat) (0 : Nat) (0 : Nat)), ((5 : Nat), AV.nils), ((10 : Nat), AV.sl (2 : Nat) (0 : Nat) (1 : Nat) (0 : Nat) L C), ((11 : Nat), AV.int IntKind.i64 (↑L : Int)), ((12 : Nat), AV.int IntKind.i64 (↑i : Int)), ((18 : Nat), AV.sl (4 : Nat) (0 : Nat) (1 : Nat) (0 : Nat) c c_1), ((19 : Nat), AV.int IntKind.i64 (↑c : Int)),
                                ((20 : Nat), AV.int IntKind.i64 (0 : Int))]
                              [some (Blk.mk false [] (0 : Nat) (0 : Nat) (fun x => []) [] (some fun js => Mem.mk (FD.nl x js) (FD.ad x js) (FD.ln x js) (FD.cp x js) (1 : Nat) fun q => [AV.int IntKind.i64 (FD.z x (q :: js))])),
                                some (Blk.mk false [] (8 : Nat) cap (fun r => [AV.int IntKind.i64 (OC.kd o r), AV.part (0 : Nat) [r], AV.int IntKind.i64 (OC.fo o r), AV.int IntKind.i64 (OC.fa o r), AV.int IntKind.i64 (OC.fb o r), AV.int IntKind.i64 (OC.pa o r), AV.int IntKind.i64 (OC.ra o r), AV.int IntKind.i64 (OC.co o r)]) [] none),
                                some (Blk.mk false [] (1 : Nat) C (fun a => [AV.int IntKind.i64 (z a)]) [] none), some (Blk.mk true [AV.int IntKind.i64 G, AV.sl (1 : Nat) (0 : Nat) (8 : Nat) (0 : Nat) len cap] (0 : Nat) (0 : Nat) (fun x => []) [] none), some (Blk.mk true [] (1 : Nat) c_1 (fun j => [AV.int IntKind.i64 (c_2 j)]) [] none)])))))))) := by
  kernel_rfl

theorem mi_c1 (x : FD) (o : OC) (G : Int) (len cap : Nat) (z : Nat → Int) (C L n c : Nat) (f : Nat → Int) (i : Nat) : T.cut (keepT [2, 5, 10, 11, 12, 18, 19, 20] (acodeL Try.prog (miE x o G len cap 3) ((chainOf miB).take 2) (miSt x o G len cap z C L (⟨true, n, c, f⟩, i)))) [2, 0] = 
  T.chk (decide ((0 : Int) ≤ (↑i : Int)) && decide ((↑i : Int) < (↑L : Int)))
    (T.chk (decide ((0 : Nat) + Int.toNat (↑i : Int) < C))
      (T.need (G = G ∧ len = len ∧ cap = cap)
        (T.need
          (spIn x o cap
            [some (Blk.mk false [] (0 : Nat) (0 : Nat) (fun x => []) [] (some fun js => Mem.mk (FD.nl x js) (FD.ad x js) (FD.ln x js) (FD.cp x js) (1 : Nat) fun q => [AV.int IntKind.i64 (FD.z x (q :: js))])),
              some (Blk.mk false [] (8 : Nat) cap (fun r => [AV.int IntKind.i64 (OC.kd o r), AV.part (0 : Nat) [r], AV.int IntKind.i64 (OC.fo o r), AV.int IntKind.i64 (OC.fa o r), AV.int IntKind.i64 (OC.fb o r), AV.int IntKind.i64 (OC.pa o r), AV.int IntKind.i64 (OC.ra o r), AV.int IntKind.i64 (OC.co o r)]) [] none), some (Blk.mk false [] (1 : Nat) C (fun a => [AV.int IntKind.i64 (z a)]) [] none),
              some (Blk.mk true [AV.int IntKind.i64 G, AV.sl (1 : Nat) (0 : Nat) (8 : Nat) (0 : Nat) len cap] (0 : Nat) (0 : Nat) (fun x => []) [] none), some (Blk.mk true [] (1 : Nat) c (fun j => [AV.int IntKind.i64 (f j)]) [] none)])
          (T.all fun c_1 =>
            T.ite (decide (c_1 = (0 : Nat)))
              (T.ret
                (Ex.norm,
                  St.mk
                    [((2 : Nat), AV.ptr (3 : Nat) (0 : Nat) (0 : Nat) (0 : Nat)), ((5 : Nat), AV.sl (4 : Nat) (0 : Nat) (1 : Nat) (0 : Nat) n c), ((10 : Nat), AV.sl (2 : Nat) (0 : Nat) (1 : Nat) (0 : Nat) L C), ((11 : Nat), AV.int IntKind.i64 (↑L : Int)), ((12 : Nat), AV.int IntKind.i64 (↑i : Int)), ((18 : Nat), AV.nils), ((19 : Nat), AV.int IntKind.i64 (0 : Int)),
                      ((20 : Nat), AV.int IntKind.i64 (0 : Int))]
                    [some (Blk.mk false [] (0 : Nat) (0 : Nat) (fun x => []) [] (some fun js => Mem.mk (FD.nl x js) (FD.ad x js) (FD.ln x js) (FD.cp x js) (1 : Nat) fun q => [AV.int IntKind.i64 (FD.z x (q :: js))])),
                      some (Blk.mk false [] (8 : Nat) cap (fun r => [AV.int IntKind.i64 (OC.kd o r), AV.part (0 : Nat) [r], AV.int IntKind.i64 (OC.fo o r), AV.int IntKind.i64 (OC.fa o r), AV.int IntKind.i64 (OC.fb o r), AV.int IntKind.i64 (OC.pa o r), AV.int IntKind.i64 (OC.ra o r), AV.int IntKind.i64 (OC.co o r)]) [] none),
                      some (Blk.mk false [] (1 : Nat) C (fun a => [AV.int IntKind.i64 (z a)]) [] none), some (Blk.mk true [AV.int IntKind.i64 G, AV.sl (1 : Nat) (0 : Nat) (8 : Nat) (0 : Nat) len cap] (0 : Nat) (0 : Nat) (fun x => []) [] none), some (Blk.mk true [] (1 : Nat) c (fun j => [AV.int IntKind.i64 (f j)]) [] none)]))
              (T.all fun c_2 =>
                T.asm (decide (c_2 ≤ len))
                  (T.all fun c_3 =>
                    T.asm (decide (c_2 ≤ c_3))
                      (T.alf fun c_4 =>
                        T.ret
                          (Ex.norm,
                            St.mk
                              [((2 : Nat), AV.ptr (3 : Nat) (0 : Nat) (0 : Nat) (0 : Nat)), ((5 : Nat), AV.sl (4 : Nat) (0 : Nat) (1 : Nat) (0 : Nat) n c), ((10 : Nat), AV.sl (2 : Nat) (0 : Nat) (1 : Nat) (0 : Nat) L C), ((11 : Nat), AV.int IntKind.i64 (↑L : Int)), ((12 : Nat), AV.int IntKind.i64 (↑i : Int)), ((18 : Nat), AV.sl (5 : Nat) (0 : Nat) (1 : Nat) (0 : Nat) c_2 c_3),
                                ((19 : Nat), AV.int IntKind.i64 (↑c_2 : Int)), ((20 : Nat), AV.int IntKind.i64 (0 : Int))]
                              [some (Blk.mk false [] (0 : Nat) (0 : Nat) (fun x => []) [] (some fun js => Mem.mk (FD.nl x js) (FD.ad x js) (FD.ln x js) (FD.cp x js) (1 : Nat) fun q => [AV.int IntKind.i64 (FD.z x (q :: js))])),
                                some (Blk.mk false [] (8 : Nat) cap (fun r => [AV.int IntKind.i64 (OC.kd o r), AV.part (0 : Nat) [r], AV.int IntKind.i64 (OC.fo o r), AV.int IntKind.i64 (OC.fa o r), AV.int IntKind.i64 (OC.fb o r), AV.int IntKind.i64 (OC.pa o r), AV.int IntKind.i64 (OC.ra o r), AV.int IntKind.i64 (OC.co o r)]) [] none),
                                some (Blk.mk false [] (1 : Nat) C (fun a => [AV.int IntKind.i64 (z a)]) [] none), some (Blk.mk true [AV.int IntKind.i64 G, AV.sl (1 : Nat) (0 : Nat) (8 : Nat) (0 : Nat) len cap] (0 : Nat) (0 : Nat) (fun x => []) [] none), some (Blk.mk true [] (1 : Nat) c (fun j => [AV.int IntKind.i64 (f j)]) [] none),
                                some (Blk.mk true [] (1 : Nat) c_3 (fun j => [AV.int IntKind.i64 (c_4 j)]) [] none)])))))))) := by
  kernel_rfl

theorem mi_d0 (x : FD) (o : OC) (G : Int) (len cap : Nat) (z : Nat → Int) (C L i m mc : Nat) (g : Nat → Int) (n c : Nat) (f : Nat → Int) (j : Nat) : T.cut (keepT [2, 4, 5, 10, 11, 12, 18, 19, 20] (acode Try.prog (miE x o G len cap 3) miD (miIn x o G len cap z C L i m mc g (⟨false, n, c, f⟩, j)))) [2, 2, 0, 0] = 
  T.ite (decide ((↑j : Int) < (↑m : Int)))
    (T.chk (decide ((0 : Int) ≤ (↑j : Int)) && decide ((↑j : Int) < (↑m : Int)))
      (T.chk (decide ((0 : Nat) + Int.toNat (↑j : Int) < mc))
        (T.need True
          (T.chk true
            (T.chk true
              (@T.chk (Ex × St) true
                (T.chk true
                  (@T.chk (Ex × St) true
                    (T.chk true
                      (T.all fun c =>
                        T.asm (decide ((1 : Nat) ≤ c))
                          (T.ret
                            (Ex.norm,
                              St.mk
                                [((2 : Nat), AV.ptr (3 : Nat) (0 : Nat) (0 : Nat) (0 : Nat)), ((5 : Nat), AV.sl (6 : Nat) (0 : Nat) (1 : Nat) (0 : Nat) (1 : Nat) c), ((10 : Nat), AV.sl (2 : Nat) (0 : Nat) (1 : Nat) (0 : Nat) L C), ((11 : Nat), AV.int IntKind.i64 (↑L : Int)), ((12 : Nat), AV.int IntKind.i64 (↑i : Int)), ((18 : Nat), AV.sl (4 : Nat) (0 : Nat) (1 : Nat) (0 : Nat) m mc),
                                  ((19 : Nat), AV.int IntKind.i64 (↑m : Int)), ((20 : Nat), AV.int IntKind.i64 (IntKind.wrap IntKind.i64 ((↑j : Int) + (1 : Int))))]
                                [some (Blk.mk false [] (0 : Nat) (0 : Nat) (fun x => []) [] (some fun js => Mem.mk (FD.nl x js) (FD.ad x js) (FD.ln x js) (FD.cp x js) (1 : Nat) fun q => [AV.int IntKind.i64 (FD.z x (q :: js))])),
                                  some (Blk.mk false [] (8 : Nat) cap (fun r => [AV.int IntKind.i64 (OC.kd o r), AV.part (0 : Nat) [r], AV.int IntKind.i64 (OC.fo o r), AV.int IntKind.i64 (OC.fa o r), AV.int IntKind.i64 (OC.fb o r), AV.int IntKind.i64 (OC.pa o r), AV.int IntKind.i64 (OC.ra o r), AV.int IntKind.i64 (OC.co o r)]) [] none),
                                  some (Blk.mk false [] (1 : Nat) C (fun a => [AV.int IntKind.i64 (z a)]) [] none), some (Blk.mk true [AV.int IntKind.i64 G, AV.sl (1 : Nat) (0 : Nat) (8 : Nat) (0 : Nat) len cap] (0 : Nat) (0 : Nat) (fun x => []) [] none), some (Blk.mk true [] (1 : Nat) mc (fun j => [AV.int IntKind.i64 (g j)]) [] none),
                                  some (Blk.mk true [] (1 : Nat) (1 : Nat) (fun i => [AV.int IntKind.i64 (List.getD [g ((0 : Nat) + Int.toNat (↑j : Int))] i (0 : Int))]) [] none),
                                  some (Blk.mk true [] (1 : Nat) c (fun r => if r < (0 : Nat) then [] else if r < (1 : Nat) then List.map (fun c => Col.at c ((0 : Nat) + (r - (0 : Nat)))) ([] ++ [Col.ints IntKind.i64 [g ((0 : Nat) + Int.toNat (↑j : Int))]]) else AV.cells (AV.int IntKind.i64 (0 : Int))) [] none)]))))))))))))
    (T.ret
      (Ex.exit (2 : Nat),
        St.mk
          [((2 : Nat), AV.ptr (3 : Nat) (0 : Nat) (0 : Nat) (0 : Nat)), ((5 : Nat), AV.nils), ((10 : Nat), AV.sl (2 : Nat) (0 : Nat) (1 : Nat) (0 : Nat) L C), ((11 : Nat), AV.int IntKind.i64 (↑L : Int)), ((12 : Nat), AV.int IntKind.i64 (↑i : Int)), ((18 : Nat), AV.sl (4 : Nat) (0 : Nat) (1 : Nat) (0 : Nat) m mc), ((19 : Nat), AV.int IntKind.i64 (↑m : Int)),
            ((20 : Nat), AV.int IntKind.i64 (↑j : Int))]
          [some (Blk.mk false [] (0 : Nat) (0 : Nat) (fun x => []) [] (some fun js => Mem.mk (FD.nl x js) (FD.ad x js) (FD.ln x js) (FD.cp x js) (1 : Nat) fun q => [AV.int IntKind.i64 (FD.z x (q :: js))])),
            some (Blk.mk false [] (8 : Nat) cap (fun r => [AV.int IntKind.i64 (OC.kd o r), AV.part (0 : Nat) [r], AV.int IntKind.i64 (OC.fo o r), AV.int IntKind.i64 (OC.fa o r), AV.int IntKind.i64 (OC.fb o r), AV.int IntKind.i64 (OC.pa o r), AV.int IntKind.i64 (OC.ra o r), AV.int IntKind.i64 (OC.co o r)]) [] none), some (Blk.mk false [] (1 : Nat) C (fun a => [AV.int IntKind.i64 (z a)]) [] none),
            some (Blk.mk true [AV.int IntKind.i64 G, AV.sl (1 : Nat) (0 : Nat) (8 : Nat) (0 : Nat) len cap] (0 : Nat) (0 : Nat) (fun x => []) [] none), some (Blk.mk true [] (1 : Nat) mc (fun j => [AV.int IntKind.i64 (g j)]) [] none)])) := by
  kernel_rfl

theorem mi_d1 (x : FD) (o : OC) (G : Int) (len cap : Nat) (z : Nat → Int) (C L i m mc : Nat) (g : Nat → Int) (n c : Nat) (f : Nat → Int) (j : Nat) : T.cut (keepT [2, 4, 5, 10, 11, 12, 18, 19, 20] (acode Try.prog (miE x o G len cap 3) miD (miIn x o G len cap z C L i m mc g (⟨true, n, c, f⟩, j)))) [2, 2, 2, 0] = 
  T.ite (decide ((↑j : Int) < (↑m : Int)))
    (T.chk (decide ((0 : Int) ≤ (↑j : Int)) && decide ((↑j : Int) < (↑m : Int)))
      (T.chk (decide ((0 : Nat) + Int.toNat (↑j : Int) < mc))
        (T.need (IntRow IntKind.i64 (Blk.mk true [] (1 : Nat) c (fun j => [AV.int IntKind.i64 (f j)]) [] none))
          (T.chk (decide ((0 : Nat) + n ≤ c))
            (T.chk (decide (n ≤ (9223372036854775807 : Nat)))
              (T.ite (decide (ixR (fun i => f ((0 : Nat) + i)) (g ((0 : Nat) + Int.toNat (↑j : Int))) (0 : Nat) n ≥ (0 : Int)))
                (T.ret
                  (Ex.ret,
                    St.mk
                      [((2 : Nat), AV.ptr (3 : Nat) (0 : Nat) (0 : Nat) (0 : Nat)), ((4 : Nat), AV.tt), ((5 : Nat), AV.sl (4 : Nat) (0 : Nat) (1 : Nat) (0 : Nat) n c), ((10 : Nat), AV.sl (2 : Nat) (0 : Nat) (1 : Nat) (0 : Nat) L C), ((11 : Nat), AV.int IntKind.i64 (↑L : Int)), ((12 : Nat), AV.int IntKind.i64 (↑i : Int)), ((18 : Nat), AV.sl (5 : Nat) (0 : Nat) (1 : Nat) (0 : Nat) m mc),
                        ((19 : Nat), AV.int IntKind.i64 (↑m : Int)), ((20 : Nat), AV.int IntKind.i64 (↑j : Int))]
                      [some (Blk.mk false [] (0 : Nat) (0 : Nat) (fun x => []) [] (some fun js => Mem.mk (FD.nl x js) (FD.ad x js) (FD.ln x js) (FD.cp x js) (1 : Nat) fun q => [AV.int IntKind.i64 (FD.z x (q :: js))])),
                        some (Blk.mk false [] (8 : Nat) cap (fun r => [AV.int IntKind.i64 (OC.kd o r), AV.part (0 : Nat) [r], AV.int IntKind.i64 (OC.fo o r), AV.int IntKind.i64 (OC.fa o r), AV.int IntKind.i64 (OC.fb o r), AV.int IntKind.i64 (OC.pa o r), AV.int IntKind.i64 (OC.ra o r), AV.int IntKind.i64 (OC.co o r)]) [] none),
                        some (Blk.mk false [] (1 : Nat) C (fun a => [AV.int IntKind.i64 (z a)]) [] none), some (Blk.mk true [AV.int IntKind.i64 G, AV.sl (1 : Nat) (0 : Nat) (8 : Nat) (0 : Nat) len cap] (0 : Nat) (0 : Nat) (fun x => []) [] none), some (Blk.mk true [] (1 : Nat) c (fun j => [AV.int IntKind.i64 (f j)]) [] none),
                        some (Blk.mk true [] (1 : Nat) mc (fun j => [AV.int IntKind.i64 (g j)]) [] none)]))
                (T.chk true
                  (T.chk (decide ((0 : Nat) + c ≤ c))
                    (T.chk (decide (n ≤ c))
                      (T.chk (decide (n + (1 : Nat) ≤ (4294967296 : Nat)))
                        (T.all fun c_1 =>
                          T.all fun c_2 =>
                            T.asm (decide (n + (1 : Nat) ≤ c_1 ∧ (c_2 = (0 : Nat) ∨ c_1 = c)))
                              (T.ret
                                (Ex.norm,
                                  St.mk
                                    [((2 : Nat), AV.ptr (3 : Nat) (0 : Nat) (0 : Nat) (0 : Nat)), ((5 : Nat), AV.sl (7 : Nat) (0 : Nat) (1 : Nat) (0 : Nat) (n + (1 : Nat)) c_1), ((10 : Nat), AV.sl (2 : Nat) (0 : Nat) (1 : Nat) (0 : Nat) L C), ((11 : Nat), AV.int IntKind.i64 (↑L : Int)), ((12 : Nat), AV.int IntKind.i64 (↑i : Int)), ((18 : Nat), AV.sl (5 : Nat) (0 : Nat) (1 : Nat) (0 : Nat) m mc),
                                      ((19 : Nat), AV.int IntKind.i64 (↑m : Int)), ((20 : Nat), AV.int IntKind.i64 (IntKind.wrap IntKind.i64 ((↑j : Int) + (1 : Int))))]
                                    [some (Blk.mk false [] (0 : Nat) (0 : Nat) (fun x => []) [] (some fun js => Mem.mk (FD.nl x js) (FD.ad x js) (FD.ln x js) (FD.cp x js) (1 : Nat) fun q => [AV.int IntKind.i64 (FD.z x (q :: js))])),
                                      some (Blk.mk false [] (8 : Nat) cap (fun r => [AV.int IntKind.i64 (OC.kd o r), AV.part (0 : Nat) [r], AV.int IntKind.i64 (OC.fo o r), AV.int IntKind.i64 (OC.fa o r), AV.int IntKind.i64 (OC.fb o r), AV.int IntKind.i64 (OC.pa o r), AV.int IntKind.i64 (OC.ra o r), AV.int IntKind.i64 (OC.co o r)]) [] none),
                                      some (Blk.mk false [] (1 : Nat) C (fun a => [AV.int IntKind.i64 (z a)]) [] none), some (Blk.mk true [AV.int IntKind.i64 G, AV.sl (1 : Nat) (0 : Nat) (8 : Nat) (0 : Nat) len cap] (0 : Nat) (0 : Nat) (fun x => []) [] none), none, some (Blk.mk true [] (1 : Nat) mc (fun j => [AV.int IntKind.i64 (g j)]) [] none),
                                      some (Blk.mk true [] (1 : Nat) (1 : Nat) (fun i => [AV.int IntKind.i64 (List.getD [g ((0 : Nat) + Int.toNat (↑j : Int))] i (0 : Int))]) [] none),
                                      some
                                        (Blk.mk true [] (1 : Nat) c_1 (fun r => if r < n then [AV.int IntKind.i64 (f ((0 : Nat) + r))] else if r < n + (1 : Nat) then List.map (fun c => Col.at c ((0 : Nat) + (r - n))) ([] ++ [Col.ints IntKind.i64 [g ((0 : Nat) + Int.toNat (↑j : Int))]]) else if c_2 = (0 : Nat) then AV.cells (AV.int IntKind.i64 (0 : Int)) else [AV.int IntKind.i64 (f ((0 : Nat) + r))])
                                          [] none)])))))))))))))
    (T.ret
      (Ex.exit (2 : Nat),
        St.mk
          [((2 : Nat), AV.ptr (3 : Nat) (0 : Nat) (0 : Nat) (0 : Nat)), ((5 : Nat), AV.sl (4 : Nat) (0 : Nat) (1 : Nat) (0 : Nat) n c), ((10 : Nat), AV.sl (2 : Nat) (0 : Nat) (1 : Nat) (0 : Nat) L C), ((11 : Nat), AV.int IntKind.i64 (↑L : Int)), ((12 : Nat), AV.int IntKind.i64 (↑i : Int)), ((18 : Nat), AV.sl (5 : Nat) (0 : Nat) (1 : Nat) (0 : Nat) m mc), ((19 : Nat), AV.int IntKind.i64 (↑m : Int)),
            ((20 : Nat), AV.int IntKind.i64 (↑j : Int))]
          [some (Blk.mk false [] (0 : Nat) (0 : Nat) (fun x => []) [] (some fun js => Mem.mk (FD.nl x js) (FD.ad x js) (FD.ln x js) (FD.cp x js) (1 : Nat) fun q => [AV.int IntKind.i64 (FD.z x (q :: js))])),
            some (Blk.mk false [] (8 : Nat) cap (fun r => [AV.int IntKind.i64 (OC.kd o r), AV.part (0 : Nat) [r], AV.int IntKind.i64 (OC.fo o r), AV.int IntKind.i64 (OC.fa o r), AV.int IntKind.i64 (OC.fb o r), AV.int IntKind.i64 (OC.pa o r), AV.int IntKind.i64 (OC.ra o r), AV.int IntKind.i64 (OC.co o r)]) [] none), some (Blk.mk false [] (1 : Nat) C (fun a => [AV.int IntKind.i64 (z a)]) [] none),
            some (Blk.mk true [AV.int IntKind.i64 G, AV.sl (1 : Nat) (0 : Nat) (8 : Nat) (0 : Nat) len cap] (0 : Nat) (0 : Nat) (fun x => []) [] none), some (Blk.mk true [] (1 : Nat) c (fun j => [AV.int IntKind.i64 (f j)]) [] none), some (Blk.mk true [] (1 : Nat) mc (fun j => [AV.int IntKind.i64 (g j)]) [] none)])) := by
  kernel_rfl

theorem mi_n (x : FD) (o : OC) (G : Int) (len cap : Nat) (a : AV) (L C i : Nat) (m : AM) : T.cut (keepT [2, 5, 10, 11, 12] (acode Try.prog (miE x o G len cap 3) miD ⟨[(2, .ptr 3 0 0 0), (5, a), (10, .sl 2 0 1 0 L C), (11, .int .i64 L), (12, .int .i64 i), (19, .int .i64 0), (20, .int .i64 0)], m⟩)) [0] = 
  @T.chk (Ex × St) true (T.ret (Ex.exit (2 : Nat), St.mk [((2 : Nat), AV.ptr (3 : Nat) (0 : Nat) (0 : Nat) (0 : Nat)), ((5 : Nat), a), ((10 : Nat), AV.sl (2 : Nat) (0 : Nat) (1 : Nat) (0 : Nat) L C), ((11 : Nat), AV.int IntKind.i64 (↑L : Int)), ((12 : Nat), AV.int IntKind.i64 (↑i : Int))] m)) := by
  kernel_rfl

theorem mi_e0 (x : FD) (o : OC) (G : Int) (len cap : Nat) (z : Nat → Int) (C L n c : Nat) (f : Nat → Int) (i : Nat) : T.cut (keepT [2, 5, 10, 11, 12] (acodeL Try.prog (miE x o G len cap 3) ((chainOf miC).drop 3) (miSt x o G len cap z C L (⟨false, n, c, f⟩, i)))) [] = 
  T.ret
    (Ex.norm,
      St.mk [((2 : Nat), AV.ptr (3 : Nat) (0 : Nat) (0 : Nat) (0 : Nat)), ((5 : Nat), AV.nils), ((10 : Nat), AV.sl (2 : Nat) (0 : Nat) (1 : Nat) (0 : Nat) L C), ((11 : Nat), AV.int IntKind.i64 (↑L : Int)), ((12 : Nat), AV.int IntKind.i64 (IntKind.wrap IntKind.i64 ((↑i : Int) + (1 : Int))))]
        [some (Blk.mk false [] (0 : Nat) (0 : Nat) (fun x => []) [] (some fun js => Mem.mk (FD.nl x js) (FD.ad x js) (FD.ln x js) (FD.cp x js) (1 : Nat) fun q => [AV.int IntKind.i64 (FD.z x (q :: js))])),
          some (Blk.mk false [] (8 : Nat) cap (fun r => [AV.int IntKind.i64 (OC.kd o r), AV.part (0 : Nat) [r], AV.int IntKind.i64 (OC.fo o r), AV.int IntKind.i64 (OC.fa o r), AV.int IntKind.i64 (OC.fb o r), AV.int IntKind.i64 (OC.pa o r), AV.int IntKind.i64 (OC.ra o r), AV.int IntKind.i64 (OC.co o r)]) [] none), some (Blk.mk false [] (1 : Nat) C (fun a => [AV.int IntKind.i64 (z a)]) [] none),
          some (Blk.mk true [AV.int IntKind.i64 G, AV.sl (1 : Nat) (0 : Nat) (8 : Nat) (0 : Nat) len cap] (0 : Nat) (0 : Nat) (fun x => []) [] none)]) := by
  kernel_rfl

theorem mi_e1 (x : FD) (o : OC) (G : Int) (len cap : Nat) (z : Nat → Int) (C L n c : Nat) (f : Nat → Int) (i : Nat) : T.cut (keepT [2, 5, 10, 11, 12] (acodeL Try.prog (miE x o G len cap 3) ((chainOf miC).drop 3) (miSt x o G len cap z C L (⟨true, n, c, f⟩, i)))) [] = 
  T.ret
    (Ex.norm,
      St.mk [((2 : Nat), AV.ptr (3 : Nat) (0 : Nat) (0 : Nat) (0 : Nat)), ((5 : Nat), AV.sl (4 : Nat) (0 : Nat) (1 : Nat) (0 : Nat) n c), ((10 : Nat), AV.sl (2 : Nat) (0 : Nat) (1 : Nat) (0 : Nat) L C), ((11 : Nat), AV.int IntKind.i64 (↑L : Int)), ((12 : Nat), AV.int IntKind.i64 (IntKind.wrap IntKind.i64 ((↑i : Int) + (1 : Int))))]
        [some (Blk.mk false [] (0 : Nat) (0 : Nat) (fun x => []) [] (some fun js => Mem.mk (FD.nl x js) (FD.ad x js) (FD.ln x js) (FD.cp x js) (1 : Nat) fun q => [AV.int IntKind.i64 (FD.z x (q :: js))])),
          some (Blk.mk false [] (8 : Nat) cap (fun r => [AV.int IntKind.i64 (OC.kd o r), AV.part (0 : Nat) [r], AV.int IntKind.i64 (OC.fo o r), AV.int IntKind.i64 (OC.fa o r), AV.int IntKind.i64 (OC.fb o r), AV.int IntKind.i64 (OC.pa o r), AV.int IntKind.i64 (OC.ra o r), AV.int IntKind.i64 (OC.co o r)]) [] none), some (Blk.mk false [] (1 : Nat) C (fun a => [AV.int IntKind.i64 (z a)]) [] none),
          some (Blk.mk true [AV.int IntKind.i64 G, AV.sl (1 : Nat) (0 : Nat) (8 : Nat) (0 : Nat) len cap] (0 : Nat) (0 : Nat) (fun x => []) [] none), some (Blk.mk true [] (1 : Nat) c (fun j => [AV.int IntKind.i64 (f j)]) [] none)]) := by
  kernel_rfl

theorem mi_z (x : FD) (o : OC) (G : Int) (len cap : Nat) (m : AM) : T.cut (keepT [4] (acodeL Try.prog (miE x o G len cap 3) ((chainOf (codeOf Try.f41)).drop 4) ⟨[], m⟩)) [] = 
  T.ret (Ex.ret, St.mk [((4 : Nat), AV.ff)] m) := by
  kernel_rfl

theorem mi_k0 : (chainOf (codeOf Try.f41)).drop 3 = .block 0 (.loop miC) :: (chainOf (codeOf Try.f41)).drop 4 := by
  kernel_rfl

theorem mi_k1 : (chainOf miC).drop 2 = .block 1 miB :: (chainOf miC).drop 3 := by
  kernel_rfl

theorem mi_k2 : chainOf miB = (chainOf miB).take 2 ++ [.block 2 (.loop miD)] := by
  kernel_rfl

theorem mi_res : Try.f41.results.toList = [.tmp 4] := by
  kernel_rfl



set_option maxRecDepth 100000
set_option maxHeartbeats 4000000
set_option linter.unusedVariables false
set_option linter.unusedSimpArgs false

theorem mi_blk0 (x : FD) (o : OC) (G : Int) (len cap : Nat) (z : Nat → Int) (C : Nat) (y : MX) (n0 : Nat) (hn : n0 ≤ 3) (l : AM) : Sub n0 id (miM x o G len cap z C y ++ l) (miM x o G len cap z C y) := by
  obtain ⟨hs, n, c, f⟩ := y
  cases hs
  · exact Sub.of ⟨⟨_, rfl, x.ok⟩, ⟨_, rfl, ops_ok rfl (Nat.succ_pos _)⟩, ⟨_, rfl, in_ok⟩, ⟨_, rfl, box_ok rfl (by simp [miM, spM])⟩, trivial⟩ (fun _ _ _ _ h => h) (fun _ _ => rfl) (by simp [miM, spM]; omega)
  · exact Sub.of ⟨⟨_, rfl, x.ok⟩, ⟨_, rfl, ops_ok rfl (Nat.succ_pos _)⟩, ⟨_, rfl, in_ok⟩, ⟨_, rfl, box_ok rfl (by simp [miM, spM])⟩, ⟨_, rfl, i64_same⟩, trivial⟩ (fun _ _ _ _ h => h) (fun _ _ => rfl) (by simp [miM, spM]; omega)

theorem mi_sub (x : FD) (o : OC) (G : Int) (len cap : Nat) (z : Nat → Int) (C : Nat) (y : MX) {fr' fr : List (Nat × AV)} (l : AM) (hf : SubFr (miM x o G len cap z C y).length id fr' fr) : SubSt 3 id ⟨fr', miM x o G len cap z C y ++ l⟩ ⟨fr, miM x o G len cap z C y⟩ :=
  SubSt.mk hf (mi_blk0 x o G len cap z C y 3 (Nat.le_refl _) l)

/-- Any memory of mixed has what was lent. -/
theorem mi_lent (x : FD) (o : OC) (G : Int) (len cap : Nat) (z : Nat → Int) (C : Nat) (y : MX) (l : AM) : Sub 3 id (miM x o G len cap z C y ++ l) (spM x o cap ++ [some (inB C z)]) := by
  obtain ⟨hs, n, c, f⟩ := y
  cases hs
  · exact Sub.of ⟨⟨_, rfl, x.ok⟩, ⟨_, rfl, ops_ok rfl (Nat.succ_pos _)⟩, ⟨_, rfl, in_ok⟩, trivial⟩ (fun _ _ _ _ h => h) (fun _ _ => rfl) (by simp [spM])
  · exact Sub.of ⟨⟨_, rfl, x.ok⟩, ⟨_, rfl, ops_ok rfl (Nat.succ_pos _)⟩, ⟨_, rfl, in_ok⟩, trivial⟩ (fun _ _ _ _ h => h) (fun _ _ => rfl) (by simp [spM])

def miR (x : FD) (o : OC) (cap : Nat) (z : Nat → Int) (C : Nat) (b : Bool) : St := ⟨[(4, .bool b)], spM x o cap ++ [some (inB C z)]⟩

def miOk (y : MX) (N : Nat) : Prop := y.hs = true → y.n ≤ y.c ∧ y.n ≤ N

theorem miOk.mono {y : MX} {N N' : Nat} (h : miOk y N) (hn : N ≤ N') : miOk y N' := fun hs => ⟨(h hs).1, Nat.le_trans (h hs).2 hn⟩

theorem mi_rd0 (x : FD) (o : OC) (G : Int) (len cap : Nat) (hk0 : spOK x len cap) (h12 : len ≤ 12) (z : Nat → Int) (C L i m mc : Nat) (g : Nat → Int) (hm : m ≤ mc) (hm12 : m ≤ 12) (hL : i < 12) (n c : Nat) (f : Nat → Int) (j : Nat) (hj : j ≤ m) (hy : miOk ⟨false, n, c, f⟩ (12 * i + j)) {Q : Ex × St → Prop} (HR : Q (.ret, miR x o cap z C true)) (HX : Q (.exit 2, miIn x o G len cap z C L i m mc g (⟨false, n, c, f⟩, j))) :
    AWp Try.prog (miE x o G len cap 3) miD (miIn x o G len cap z C L i m mc g (⟨false, n, c, f⟩, j)) (Round (miE x o G len cap 3) (miIn x o G len cap z C L i m mc g) (fun t => miOk t.1 (12 * i + t.2) ∧ t.2 ≤ m) (fun t => m - t.2) (fun _ => .asm false .fail) Q (⟨false, n, c, f⟩, j)) := by
  refine code_sound (miE_ok x o G len cap 3 hk0 h12) _ (noLoops (by kernel_rfl)) _ _ (round_keep [2, 4, 5, 10, 11, 12, 18, 19, 20] (T.cut_eq (mi_d0 x o G len cap z C L i m mc g n c f j) ?_))
  refine T.hiteP (fun hi => ?_) (fun hi => T.hret (Round.any (.exit 2) (miIn x o G len cap z C L i m mc g (⟨false, n, c, f⟩, j)) (rhoL [0, 1, 2, 3, 4]) (subStL [0, 1, 2, 3, 4] rfl rfl rfl (Nat.le_of_ble_eq_true rfl) (by simp [miIn, miA, miK, miM, spM, SubFr, slotAt, ren, below, rhoL]) ⟨⟨_, rfl, x.ok⟩, ⟨_, rfl, ops_ok rfl (Nat.succ_pos _)⟩, ⟨_, rfl, in_ok⟩, ⟨_, rfl, box_ok rfl (by simp [miIn, miM, spM])⟩, ⟨_, rfl, i64_same⟩, trivial⟩) HX))
  have hw : IntKind.wrap IntKind.i64 ((j : Int) + 1) = ((j + 1 : Nat) : Int) := by rw [IntWalk.i64_in _ (by omega)]; omega
  refine T.hchk (by simp only [Bool.and_eq_true, decide_eq_true_eq]; omega) (T.hchk (decide_eq_true (by omega)) (T.hneed trivial (T.hchkT (T.hchkT (T.hchkT (T.hchkT (T.hchkT (T.hchkT (T.hall fun c' => T.hasmP fun hc => T.hret ?_)))))))))
  exact Round.go (⟨true, 1, c', _⟩, j + 1) (rhoL [0, 1, 2, 3, 6, 4]) ⟨fun _ => ⟨hc, by dsimp only; omega⟩, by dsimp only; omega⟩ (by dsimp only; omega) (subStL [0, 1, 2, 3, 6, 4] rfl rfl rfl (Nat.le_of_ble_eq_true rfl) (by simp [miIn, miA, miK, miM, spM, SubFr, slotAt, ren, below, rhoL, hw]) ⟨⟨_, rfl, x.ok⟩, ⟨_, rfl, ops_ok rfl (Nat.succ_pos _)⟩, ⟨_, rfl, in_ok⟩, ⟨_, rfl, box_ok rfl (by simp [miIn, miM, spM])⟩, ⟨_, rfl, i64_ok⟩, ⟨_, rfl, i64_same⟩, trivial⟩) any_ff

theorem mi_rd1 (x : FD) (o : OC) (G : Int) (len cap : Nat) (hk0 : spOK x len cap) (h12 : len ≤ 12) (z : Nat → Int) (C L i m mc : Nat) (g : Nat → Int) (hm : m ≤ mc) (hm12 : m ≤ 12) (hL : i < 12) (n c : Nat) (f : Nat → Int) (j : Nat) (hj : j ≤ m) (hy : miOk ⟨true, n, c, f⟩ (12 * i + j)) {Q : Ex × St → Prop} (HR : Q (.ret, miR x o cap z C true)) (HX : Q (.exit 2, miIn x o G len cap z C L i m mc g (⟨true, n, c, f⟩, j))) :
    AWp Try.prog (miE x o G len cap 3) miD (miIn x o G len cap z C L i m mc g (⟨true, n, c, f⟩, j)) (Round (miE x o G len cap 3) (miIn x o G len cap z C L i m mc g) (fun t => miOk t.1 (12 * i + t.2) ∧ t.2 ≤ m) (fun t => m - t.2) (fun _ => .asm false .fail) Q (⟨true, n, c, f⟩, j)) := by
  refine code_sound (miE_ok x o G len cap 3 hk0 h12) _ (noLoops (by kernel_rfl)) _ _ (round_keep [2, 4, 5, 10, 11, 12, 18, 19, 20] (T.cut_eq (mi_d1 x o G len cap z C L i m mc g n c f j) ?_))
  refine T.hiteP (fun hi => ?_) (fun hi => T.hret (Round.any (.exit 2) (miIn x o G len cap z C L i m mc g (⟨true, n, c, f⟩, j)) (rhoL [0, 1, 2, 3, 4, 5]) (subStL [0, 1, 2, 3, 4, 5] rfl rfl rfl (Nat.le_of_ble_eq_true rfl) (by simp [miIn, miA, miK, miM, spM, SubFr, slotAt, ren, below, rhoL]) ⟨⟨_, rfl, x.ok⟩, ⟨_, rfl, ops_ok rfl (Nat.succ_pos _)⟩, ⟨_, rfl, in_ok⟩, ⟨_, rfl, box_ok rfl (by simp [miIn, miM, spM])⟩, ⟨_, rfl, i64_same⟩, ⟨_, rfl, i64_same⟩, trivial⟩) HX))
  have hw : IntKind.wrap IntKind.i64 ((j : Int) + 1) = ((j + 1 : Nat) : Int) := by rw [IntWalk.i64_in _ (by omega)]; omega
  obtain ⟨hn, hN⟩ := hy rfl
  dsimp only at hn hN
  refine T.hchk (by simp only [Bool.and_eq_true, decide_eq_true_eq]; omega) (T.hchk (decide_eq_true (by omega)) (T.hneed IntRow.rows (T.hchk (decide_eq_true (by omega)) (T.hchk (decide_eq_true (by omega)) (T.hiteP (fun hh => T.hret ?_) (fun hh => ?_))))))
  · exact Round.any .ret (miR x o cap z C true) id (SubSt.mk (by simp [miR, spM, SubFr, slotAt, ren, below]) (mi_lent x o G len cap z C ⟨true, n, c, f⟩ _)) HR
  · refine T.hchkT (T.hchk (decide_eq_true (by omega)) (T.hchk (decide_eq_true hn) (T.hchk (decide_eq_true (by omega)) (T.hall fun c' => T.hall fun d => T.hasmP fun hc => T.hret ?_))))
    exact Round.go (⟨true, n + 1, c', _⟩, j + 1) (rhoL [0, 1, 2, 3, 7, 5]) ⟨fun _ => ⟨hc.1, by dsimp only; omega⟩, by dsimp only; omega⟩ (by dsimp only; omega) (subStL [0, 1, 2, 3, 7, 5] rfl rfl rfl (Nat.le_of_ble_eq_true rfl) (by simp [miIn, miA, miK, miM, spM, SubFr, slotAt, ren, below, rhoL, hw]) ⟨⟨_, rfl, x.ok⟩, ⟨_, rfl, ops_ok rfl (Nat.succ_pos _)⟩, ⟨_, rfl, in_ok⟩, ⟨_, rfl, box_ok rfl (by simp [miIn, miM, spM])⟩, ⟨_, rfl, i64_ok⟩, ⟨_, rfl, i64_same⟩, trivial⟩) any_ff

theorem mi_inner (x : FD) (o : OC) (G : Int) (len cap : Nat) (hk0 : spOK x len cap) (h12 : len ≤ 12) (z : Nat → Int) (C L i m mc : Nat) (g : Nat → Int) (hm : m ≤ mc) (hm12 : m ≤ 12) (hL : i < 12) (y : MX) (hy : miOk y (12 * i)) {Q : Ex × St → Prop} (HR : Q (.ret, miR x o cap z C true)) (HX : ∀ y j, miOk y (12 * i + 12) → Q (.exit 2, miIn x o G len cap z C L i m mc g (y, j))) :
    AWp Try.prog (miE x o G len cap 3) (.loop miD) (miIn x o G len cap z C L i m mc g (y, 0)) Q := by
  refine loop_free (miIn x o G len cap z C L i m mc g) (fun t => miOk t.1 (12 * i + t.2) ∧ t.2 ≤ m) (fun t => m - t.2) (fun t ht => ?_) (y, 0) ⟨hy, Nat.zero_le _⟩
  obtain ⟨⟨hs, n, c, f⟩, j⟩ := t
  obtain ⟨h1, h2⟩ := ht
  dsimp only at h1 h2
  cases hs
  · exact mi_rd0 x o G len cap hk0 h12 z C L i m mc g hm hm12 hL n c f j h2 h1 HR (HX _ _ (h1.mono (by omega)))
  · exact mi_rd1 x o G len cap hk0 h12 z C L i m mc g hm hm12 hL n c f j h2 h1 HR (HX _ _ (h1.mono (by omega)))

theorem mi_step (x : FD) (o : OC) (G : Int) (len cap : Nat) (hk0 : spOK x len cap) (h12 : len ≤ 12) (z : Nat → Int) (C L i : Nat) (hL : L ≤ 12) (hi : i < L) (y0 y : MX) (hy : miOk y (12 * i + 12)) (Q : Ex × St → Prop) {D : List Code} (hD : D = (chainOf miC).drop 3) (hl : ∀ x' ∈ D, ∀ c' ∈ loopsIn x', LoopOK Try.prog (miE x o G len cap 3) c') :
    AWpL Try.prog (miE x o G len cap 3) D (miSt x o G len cap z C L (y, i)) (Round (miE x o G len cap 3) (miSt x o G len cap z C L) (fun t => miOk t.1 (12 * t.2) ∧ t.2 ≤ L) (fun t => L - t.2) (fun _ => .asm false .fail) Q (y0, i)) := by
  have e0 := mi_e0 x o G len cap z C L
  have e1 := mi_e1 x o G len cap z C L
  rw [← hD] at e0 e1
  have hw : IntKind.wrap IntKind.i64 ((i : Int) + 1) = ((i + 1 : Nat) : Int) := by rw [IntWalk.i64_in _ (by omega)]; omega
  have hE := miE_ok x o G len cap 3 hk0 h12
  have fin : ∀ fr, SubFr (miM x o G len cap z C y).length id fr (miSt x o G len cap z C L (y, i + 1)).fr → Weak (miE x o G len cap 3) (Round (miE x o G len cap 3) (miSt x o G len cap z C L) (fun t => miOk t.1 (12 * t.2) ∧ t.2 ≤ L) (fun t => L - t.2) (fun _ => .asm false .fail) Q (y0, i)) (.norm, ⟨fr, miM x o G len cap z C y⟩) := fun fr hf => by
    have s1 := mi_sub x o G len cap z C y (fr' := fr) (fr := (miSt x o G len cap z C L (y, i + 1)).fr) [] hf
    have s2 := mi_sub x o G len cap z C y (fr' := (miSt x o G len cap z C L (y, i + 1)).fr) (fr := (miSt x o G len cap z C L (y, i + 1)).fr) [] (by obtain ⟨hs, n, c, f⟩ := y; cases hs <;> simp [miSt, miA, miM, spM, SubFr, slotAt, ren, below])
    rw [List.append_nil] at s1 s2
    exact ⟨id, _, s1, Round.go (y, i + 1) id ⟨hy.mono (by dsimp only; omega), by dsimp only; omega⟩ (by dsimp only; omega) s2 any_ff⟩
  obtain ⟨hs, n, c, f⟩ := y
  cases hs
  · exact awpl_end hE hl (weak_keep [2, 5, 10, 11, 12] (T.cut_eq (e0 n c f i) (T.hret (fin _ (by simp [miSt, miA, miM, spM, SubFr, slotAt, ren, below, hw])))))
  · exact awpl_end hE hl (weak_keep [2, 5, 10, 11, 12] (T.cut_eq (e1 n c f i) (T.hret (fin _ (by simp [miSt, miA, miM, spM, SubFr, slotAt, ren, below, hw])))))

theorem mi_mid (x : FD) (o : OC) (G : Int) (len cap : Nat) (hk0 : spOK x len cap) (h12 : len ≤ 12) (z : Nat → Int) (C L i : Nat) (hC : L ≤ C) (hL : L ≤ 12) (hi : i < L) (y : MX) (hy : miOk y (12 * i)) {Q : Ex × St → Prop} {B : List Code} (hB : B = chainOf miB) (HR : Q (.ret, miR x o cap z C true)) (HX : ∀ y, miOk y (12 * i + 12) → Q (.norm, miSt x o G len cap z C L (y, i))) :
    AWpL Try.prog (miE x o G len cap 3) B (miSt x o G len cap z C L (y, i)) Q := by
  have hE := miE_ok x o G len cap 3 hk0 h12
  have c0 := mi_c0 x o G len cap z C L
  have c1 := mi_c1 x o G len cap z C L
  have hl2 : ∀ x' ∈ (chainOf miB).take 2, ∀ c' ∈ loopsIn x', LoopOK Try.prog (miE x o G len cap 3) c' := noLoopsL_ok (by kernel_rfl)
  rw [hB, mi_k2]
  generalize (chainOf miB).take 2 = B0 at c0 c1 hl2 ⊢
  have self : ∀ (y : MX) {fr : List (Nat × AV)} (l : AM), SubFr (miM x o G len cap z C y).length id fr (miSt x o G len cap z C L (y, i)).fr → SubSt 3 id ⟨fr, miM x o G len cap z C y ++ l⟩ (miSt x o G len cap z C L (y, i)) := fun y fr l hf => mi_sub x o G len cap z C y l hf
  have go : ∀ m mc g, m ≤ mc → m ≤ 12 → AWpL Try.prog (miE x o G len cap 3) [.block 2 (.loop miD)] (miIn x o G len cap z C L i m mc g (y, 0)) Q := fun m mc g h1 h2 => by
    refine awpl_block (awpl_one (mi_inner x o G len cap hk0 h12 z C L i m mc g h1 h2 (by omega) y hy ?_ fun y' j hy' => ?_))
    · exact HR
    · show AWpL Try.prog (miE x o G len cap 3) [] (miIn x o G len cap z C L i m mc g (y', j)) Q
      have s := self y' (fr := (miIn x o G len cap z C L i m mc g (y', j)).fr) [some (i64B mc g)] (by obtain ⟨hs, n, c, f⟩ := y'; cases hs <;> simp [miSt, miIn, miA, miM, spM, SubFr, slotAt, ren, below])
      exact AWpL.sub (E := miE x o G len cap 3) s fun w0 X loc0 loc a w h => ⟨loc, _, HX y' hy', h⟩
  have nil : AWpL Try.prog (miE x o G len cap 3) [.block 2 (.loop miD)] ⟨[(2, .ptr 3 0 0 0), (5, miA y), (10, .sl 2 0 1 0 L C), (11, .int .i64 L), (12, .int .i64 i), (19, .int .i64 0), (20, .int .i64 0)], miM x o G len cap z C y⟩ Q := by
    refine awpl_block (awpl_one (loop_free (fun _ : Unit => ⟨[(2, .ptr 3 0 0 0), (5, miA y), (10, .sl 2 0 1 0 L C), (11, .int .i64 L), (12, .int .i64 i), (19, .int .i64 0), (20, .int .i64 0)], miM x o G len cap z C y⟩) (fun _ => True) (fun _ => 0) (fun t ht => ?_) () trivial))
    refine code_sound hE _ (noLoops (by kernel_rfl)) _ _ (round_keep [2, 5, 10, 11, 12] (T.cut_eq (mi_n x o G len cap (miA y) L C i _) (T.hchkT (T.hret ?_))))
    have s := self y (fr := (miSt x o G len cap z C L (y, i)).fr) [] (by obtain ⟨hs, n, c, f⟩ := y; cases hs <;> simp [miSt, miA, miM, spM, SubFr, slotAt, ren, below])
    rw [List.append_nil] at s
    refine Round.any (.exit 2) (miSt x o G len cap z C L (y, i)) id s ?_
    show AWpL Try.prog (miE x o G len cap 3) [] (miSt x o G len cap z C L (y, i)) Q
    exact fun w0 X loc0 loc a w h => ⟨loc, _, HX y (hy.mono (by omega)), h⟩
  generalize [Code.block 2 (.loop miD)] = B2 at go nil ⊢
  obtain ⟨hs, n, c, f⟩ := y
  cases hs
  · refine awpl_app (l2 := B2) (awpl_end hE hl2 (weak_keep [2, 5, 10, 11, 12, 18, 19, 20] (T.cut_eq (c0 n c f i) (T.hchk (by simp only [Bool.and_eq_true, decide_eq_true_eq]; omega) (T.hchk (decide_eq_true (by omega)) (T.hneed ⟨rfl, rfl, rfl⟩ (T.hneed ⟨rfl, rfl⟩ (T.hall fun k => T.hiteP (fun hk => T.hret ?_) (fun hk => T.hall fun m => T.hasmP fun hm => T.hall fun mc => T.hasmP fun hmc => T.half fun g => T.hret ?_)))))))))
    · have s := mi_sub x o G len cap z C ⟨false, n, c, f⟩ (fr' := [(2, .ptr 3 0 0 0), (5, miA ⟨false, n, c, f⟩), (10, .sl 2 0 1 0 L C), (11, .int .i64 L), (12, .int .i64 i), (18, .nils), (19, .int .i64 0), (20, .int .i64 0)]) (fr := [(2, .ptr 3 0 0 0), (5, miA ⟨false, n, c, f⟩), (10, .sl 2 0 1 0 L C), (11, .int .i64 L), (12, .int .i64 i), (19, .int .i64 0), (20, .int .i64 0)]) [] (by simp [miA, miM, spM, SubFr, slotAt, ren, below])
      rw [List.append_nil] at s
      exact ⟨id, _, s, nil⟩
    · exact ⟨rhoL [0, 1, 2, 3, 4], miIn x o G len cap z C L i m mc g (⟨false, n, c, f⟩, 0), subStL [0, 1, 2, 3, 4] rfl rfl rfl (Nat.le_of_ble_eq_true rfl) (by simp [miIn, miA, miK, miM, spM, SubFr, slotAt, ren, below, rhoL]) ⟨⟨_, rfl, x.ok⟩, ⟨_, rfl, ops_ok rfl (Nat.succ_pos _)⟩, ⟨_, rfl, in_ok⟩, ⟨_, rfl, box_ok rfl (by simp [miIn, miM, spM])⟩, ⟨_, rfl, i64_same⟩, trivial⟩, go m mc g hmc (by omega)⟩
  · refine awpl_app (l2 := B2) (awpl_end hE hl2 (weak_keep [2, 5, 10, 11, 12, 18, 19, 20] (T.cut_eq (c1 n c f i) (T.hchk (by simp only [Bool.and_eq_true, decide_eq_true_eq]; omega) (T.hchk (decide_eq_true (by omega)) (T.hneed ⟨rfl, rfl, rfl⟩ (T.hneed ⟨rfl, rfl⟩ (T.hall fun k => T.hiteP (fun hk => T.hret ?_) (fun hk => T.hall fun m => T.hasmP fun hm => T.hall fun mc => T.hasmP fun hmc => T.half fun g => T.hret ?_)))))))))
    · have s := mi_sub x o G len cap z C ⟨true, n, c, f⟩ (fr' := [(2, .ptr 3 0 0 0), (5, miA ⟨true, n, c, f⟩), (10, .sl 2 0 1 0 L C), (11, .int .i64 L), (12, .int .i64 i), (18, .nils), (19, .int .i64 0), (20, .int .i64 0)]) (fr := [(2, .ptr 3 0 0 0), (5, miA ⟨true, n, c, f⟩), (10, .sl 2 0 1 0 L C), (11, .int .i64 L), (12, .int .i64 i), (19, .int .i64 0), (20, .int .i64 0)]) [] (by simp [miA, miM, spM, SubFr, slotAt, ren, below])
      rw [List.append_nil] at s
      exact ⟨id, _, s, nil⟩
    · exact ⟨rhoL [0, 1, 2, 3, 4, 5], miIn x o G len cap z C L i m mc g (⟨true, n, c, f⟩, 0), subStL [0, 1, 2, 3, 4, 5] rfl rfl rfl (Nat.le_of_ble_eq_true rfl) (by simp [miIn, miA, miK, miM, spM, SubFr, slotAt, ren, below, rhoL]) ⟨⟨_, rfl, x.ok⟩, ⟨_, rfl, ops_ok rfl (Nat.succ_pos _)⟩, ⟨_, rfl, in_ok⟩, ⟨_, rfl, box_ok rfl (by simp [miIn, miM, spM])⟩, ⟨_, rfl, i64_same⟩, ⟨_, rfl, i64_same⟩, trivial⟩, go m mc g hmc (by omega)⟩

theorem mi_round (x : FD) (o : OC) (G : Int) (len cap : Nat) (hk0 : spOK x len cap) (h12 : len ≤ 12) (z : Nat → Int) (C L : Nat) (hC : L ≤ C) (hL : L ≤ 12) (y : MX) (i : Nat) (hi : i ≤ L) (hy : miOk y (12 * i)) {Q : Ex × St → Prop} (HR : Q (.ret, miR x o cap z C true)) (HX : ∀ y, Q (.exit 0, miSt x o G len cap z C L (y, L))) :
    AWp Try.prog (miE x o G len cap 3) miC (miSt x o G len cap z C L (y, i)) (Round (miE x o G len cap 3) (miSt x o G len cap z C L) (fun t => miOk t.1 (12 * t.2) ∧ t.2 ≤ L) (fun t => L - t.2) (fun _ => .asm false .fail) Q (y, i)) := by
  have hE := miE_ok x o G len cap 3 hk0 h12
  have b0 := mi_b0 x o G len cap z C L
  have b1 := mi_b1 x o G len cap z C L
  have k1 := mi_k1
  have hl1 : ∀ x' ∈ (chainOf miC).take 2, ∀ c' ∈ loopsIn x', LoopOK Try.prog (miE x o G len cap 3) c' := noLoopsL_ok (by kernel_rfl)
  have hl3 : ∀ x' ∈ (chainOf miC).drop 3, ∀ c' ∈ loopsIn x', LoopOK Try.prog (miE x o G len cap 3) c' := noLoopsL_ok (by kernel_rfl)
  refine awp_chain ?_
  have go : i < L → AWpL Try.prog (miE x o G len cap 3) (.block 1 miB :: (chainOf miC).drop 3) (miSt x o G len cap z C L (y, i)) (Round (miE x o G len cap 3) (miSt x o G len cap z C L) (fun t => miOk t.1 (12 * t.2) ∧ t.2 ≤ L) (fun t => L - t.2) (fun _ => .asm false .fail) Q (y, i)) := fun hi => by
    generalize hD : (chainOf miC).drop 3 = D at hl3 ⊢
    refine awpl_block (mi_mid x o G len cap hk0 h12 z C L i hC hL hi y hy rfl ?_ fun y' hy' => ?_)
    · exact ⟨id, miR x o cap z C true, SubSt.mk (by simp [miR, spM, SubFr, slotAt, ren, below]) (Sub.of ⟨⟨_, rfl, x.ok⟩, ⟨_, rfl, ops_ok rfl (Nat.succ_pos _)⟩, ⟨_, rfl, in_ok⟩, trivial⟩ (fun _ _ _ _ h => h) (fun _ _ => rfl) (by simp [miR, spM, miE])), HR⟩
    · exact mi_step x o G len cap hk0 h12 z C L i hL hi y y' hy' Q hD.symm hl3
  rw [← k1] at go
  generalize chainOf miC = CC at b0 b1 hl1 go ⊢
  have self : ∀ (y : MX) {fr : List (Nat × AV)} (i' : Nat), SubFr (miM x o G len cap z C y).length id fr (miSt x o G len cap z C L (y, i')).fr → SubSt 3 id ⟨fr, miM x o G len cap z C y⟩ (miSt x o G len cap z C L (y, i')) := fun y fr i' hf => by
    have := mi_sub x o G len cap z C y (fr := (miSt x o G len cap z C L (y, i')).fr) [] hf
    rwa [List.append_nil] at this
  obtain ⟨hs, n, c, f⟩ := y
  cases hs
  · refine awpl_cut (E := miE x o G len cap 3) hE 2 hl1 (weak_keep [2, 5, 10, 11, 12] (T.cut_eq (b0 n c f i) (T.hiteP (fun hi => T.hret ⟨id, miSt x o G len cap z C L (⟨false, n, c, f⟩, i), self ⟨false, n, c, f⟩ i (by simp [miSt, miA, miM, spM, SubFr, slotAt, ren, below]), go (by omega)⟩) (fun hi' => T.hret ?_))))
    have ei : i = L := by omega
    subst ei
    exact ⟨id, miSt x o G len cap z C i (⟨false, n, c, f⟩, i), self ⟨false, n, c, f⟩ i (by simp [miSt, miA, miM, spM, SubFr, slotAt, ren, below]), ⟨id, miSt x o G len cap z C i (⟨false, n, c, f⟩, i), self ⟨false, n, c, f⟩ i (by simp [miSt, miA, miM, spM, SubFr, slotAt, ren, below]), HX _⟩⟩
  · refine awpl_cut (E := miE x o G len cap 3) hE 2 hl1 (weak_keep [2, 5, 10, 11, 12] (T.cut_eq (b1 n c f i) (T.hiteP (fun hi => T.hret ⟨id, miSt x o G len cap z C L (⟨true, n, c, f⟩, i), self ⟨true, n, c, f⟩ i (by simp [miSt, miA, miM, spM, SubFr, slotAt, ren, below]), go (by omega)⟩) (fun hi' => T.hret ?_))))
    have ei : i = L := by omega
    subst ei
    exact ⟨id, miSt x o G len cap z C i (⟨true, n, c, f⟩, i), self ⟨true, n, c, f⟩ i (by simp [miSt, miA, miM, spM, SubFr, slotAt, ren, below]), ⟨id, miSt x o G len cap z C i (⟨true, n, c, f⟩, i), self ⟨true, n, c, f⟩ i (by simp [miSt, miA, miM, spM, SubFr, slotAt, ren, below]), HX _⟩⟩

/-- Mixed: any answer. -/
theorem mi_eff (x : FD) (o : OC) (G : Int) (len cap : Nat) (hk0 : spOK x len cap) (h12 : len ≤ 12) (z : Nat → Int) (C L : Nat) (hC : L ≤ C) (hL : L ≤ 12) :
    EffAt Try.prog 41 [spA G len cap, .sl 2 0 1 0 L C] (spM x o cap ++ [some (inB C z)]) (.all fun r => .ret (.bool (decide (r = 0)), spM x o cap ++ [some (inB C z)])) := by
  refine fn_okA (E := miE x o G len cap 3) (c := codeOf Try.f41) Try.func41 rfl rfl rfl (Nat.le_of_ble_eq_true (by kernel_rfl)) fun Q hq => ?_
  have hE := miE_ok x o G len cap 3 hk0 h12
  have ea := mi_a x o G len cap z C L
  have ez := mi_z x o G len cap
  have k0 := mi_k0
  have hl0 : ∀ x' ∈ (chainOf (codeOf Try.f41)).take 3, ∀ c' ∈ loopsIn x', LoopOK Try.prog (miE x o G len cap 3) c' := noLoopsL_ok (by kernel_rfl)
  have hl4 : ∀ x' ∈ (chainOf (codeOf Try.f41)).drop 4, ∀ c' ∈ loopsIn x', LoopOK Try.prog (miE x o G len cap 3) c' := noLoopsL_ok (by kernel_rfl)
  have R : ∀ b, FnPost Try.prog Try.f41 3 Q (.ret, miR x o cap z C b) := fun b => by
    unfold FnPost
    rw [mi_res]
    have q : Q (.bool b, spM x o cap ++ [some (inB C z)]) := by
      cases b
      · exact hq 1
      · exact hq 0
    exact ⟨id, .bool b, _, q, by simp [oneOf, ren], by simp [below], Sub.of ⟨⟨_, rfl, x.ok⟩, ⟨_, rfl, ops_ok rfl (Nat.succ_pos _)⟩, ⟨_, rfl, in_ok⟩, trivial⟩ (fun _ _ _ _ h => h) (fun _ _ => rfl) (by simp [spM])⟩
  generalize (chainOf (codeOf Try.f41)).drop 4 = D at ez k0 hl4
  generalize chainOf (codeOf Try.f41) = CC at ea k0 hl0 ⊢
  refine awpl_cut (E := miE x o G len cap 3) hE 3 hl0 (weak_keep [2, 5, 10, 11, 12] (T.cut_eq ea (T.hret ⟨id, miSt x o G len cap z C L (⟨false, 0, 0, fun _ => 0⟩, 0), ?_, ?_⟩)))
  · have := mi_sub x o G len cap z C ⟨false, 0, 0, fun _ => 0⟩ (fr' := [(2, .ptr 3 0 0 0), (5, .nils), (10, .sl 2 0 1 0 L C), (11, .int .i64 L), (12, .int .i64 0)]) (fr := (miSt x o G len cap z C L (⟨false, 0, 0, fun _ => 0⟩, 0)).fr) [] (by simp [miSt, miA, miM, spM, SubFr, slotAt, ren, below])
    exact this
  rw [k0]
  refine awpl_block (awpl_one (loop_free (miSt x o G len cap z C L) (fun t => miOk t.1 (12 * t.2) ∧ t.2 ≤ L) (fun t => L - t.2) (fun t ht => mi_round x o G len cap hk0 h12 z C L hC hL t.1 t.2 ht.2 ht.1 ?_ fun y => ?_) (⟨false, 0, 0, fun _ => 0⟩, 0) ⟨(fun h => by cases h), Nat.zero_le _⟩))
  · exact R true
  · show AWpL Try.prog (miE x o G len cap 3) D (miSt x o G len cap z C L (y, L)) _
    have s : SubSt 3 id (miSt x o G len cap z C L (y, L)) ⟨[], miM x o G len cap z C y⟩ := by
      have := mi_sub x o G len cap z C y (fr' := (miSt x o G len cap z C L (y, L)).fr) (fr := []) [] (by simp [SubFr])
      rw [List.append_nil] at this
      exact this
    refine AWpL.sub (E := miE x o G len cap 3) s (awpl_end hE hl4 (weak_keep [4] (T.cut_eq (ez _) (T.hret ⟨id, miR x o cap z C false, SubSt.mk (by simp [miR, spM, SubFr, slotAt, ren, below]) ?_, R false⟩))))
    have := mi_lent x o G len cap z C y []
    rw [List.append_nil] at this
    exact this

end Go.Proofs.Ytnfngaapjodpcaa
