/-
  Layer 20: Check: trees.
-/
import Derived.Test.YtnfngaapjodpcaaHZE
namespace Go.Proofs.Ytnfngaapjodpcaa
open Go.Ox

set_option maxRecDepth 100000
set_option maxHeartbeats 4000000
set_option linter.unusedVariables false
set_option linter.unusedSimpArgs false

noncomputable def ckF : Code := codeOf Try.f22

noncomputable def ckE0 (n0 : Nat) : Env := { nt := Try.f22.ntmps, n0 := n0, vec := true, fns := [], loop := fun _ _ => .fail }

noncomputable def ckB (x : FD) (o : OC) (G : Int) (len cap : Nat) : List (Nat × Summ) := [(39, .eff (coS x o G len cap)), (18, .eff (usS x o G len cap)), (40, .eff (orQ x o G len cap)), (41, .pure (miS x o G len cap))]

noncomputable def ckE (x : FD) (o : OC) (G : Int) (len cap : Nat) : Env := { nt := Try.f22.ntmps, n0 := 2, vec := true, fns := openAll (ckB x o G len cap), loop := fun _ _ => .fail }

theorem ckE_ok (x : FD) (o : OC) (G : Int) (len cap : Nat) (h : spOK x len cap) (h12 : len ≤ 12) : EnvOK Try.prog (ckE x o G len cap).fns := EnvOK.open_ (EnvOK.cons (coS_ok x o G len cap h h12) (EnvOK.cons (usS_ok x o G len cap h) (EnvOK.cons (orQ_ok x o G len cap h) (EnvOK.cons (miS_ok x o G len cap h h12) EnvOK.nil))))

noncomputable def ckC1 : Code := loopAt ckF 0

noncomputable def ckC2 : Code := loopAt ckF 1

noncomputable def ckC3 : Code := loopAt ckF 2

def ckM (x : FD) (o : OC) (G : Int) (len cap : Nat) : AM := spM x o cap ++ [some (boxS G len cap)]

def ckS1 (x : FD) (o : OC) (G : Int) (len cap i : Nat) : St := ⟨[(1, .ptr 2 0 0 0), (30, .int .i64 len), (31, .int .i64 i)], ckM x o G len cap⟩

def ckS2 (x : FD) (o : OC) (G : Int) (len cap i : Nat) : St := ⟨[(1, .ptr 2 0 0 0), (42, .sl 1 0 8 0 len cap), (43, .int .i64 len), (44, .int .i64 i)], ckM x o G len cap⟩

def ckS3 (x : FD) (o : OC) (G : Int) (len cap i : Nat) : St := ⟨[(1, .ptr 2 0 0 0), (68, .sl 1 0 8 0 len cap), (69, .int .i64 len), (70, .int .i64 i)], ckM x o G len cap⟩

def ckS0 (x : FD) (o : OC) (G : Int) (len cap : Nat) : St := ⟨[(1, .ptr 2 0 0 0)], ckM x o G len cap⟩

theorem ck_n (G : Int) : T.cut (afn Try.prog (ckE0 0) Try.f22 (codeOf Try.f22) [.agg [.int .i64 G, .nils]] []) [2, 0, 2, 0, 1] = 
  T.ite (decide (G < (1 : Int))) (T.ret (AV.int IntKind.i64 (1 : Int), [some (Blk.mk true [AV.int IntKind.i64 G, AV.nils] (0 : Nat) (0 : Nat) (fun x => []) [] none)]))
    (T.ite (decide (G > (64 : Int))) (T.ret (AV.int IntKind.i64 (1 : Int), [some (Blk.mk true [AV.int IntKind.i64 G, AV.nils] (0 : Nat) (0 : Nat) (fun x => []) [] none)])) (@T.chk (AV × AM) true (T.ret (AV.int IntKind.i64 (3 : Int), [some (Blk.mk true [AV.int IntKind.i64 G, AV.nils] (0 : Nat) (0 : Nat) (fun x => []) [] none)])))) := by
  kernel_rfl

theorem ck_0 (x : FD) (o : OC) (G : Int) (len cap : Nat) : T.cut (keepT [1, 2] (acodeL Try.prog (ckE0 2) ((chainOf ckF).take 5) ⟨[(0, spA G len cap)], spM x o cap⟩)) [2, 0, 2, 0, 2, 0, 2, 0] = 
  T.ite (decide (G < (1 : Int)))
    (T.ret
      (Ex.ret,
        St.mk [((1 : Nat), AV.ptr (2 : Nat) (0 : Nat) (0 : Nat) (0 : Nat)), ((2 : Nat), AV.int IntKind.i64 (1 : Int))]
          [some (Blk.mk false [] (0 : Nat) (0 : Nat) (fun x => []) [] (some fun js => Mem.mk (FD.nl x js) (FD.ad x js) (FD.ln x js) (FD.cp x js) (1 : Nat) fun q => [AV.int IntKind.i64 (FD.z x (q :: js))])),
            some (Blk.mk false [] (8 : Nat) cap (fun r => [AV.int IntKind.i64 (OC.kd o r), AV.part (0 : Nat) [r], AV.int IntKind.i64 (OC.fo o r), AV.int IntKind.i64 (OC.fa o r), AV.int IntKind.i64 (OC.fb o r), AV.int IntKind.i64 (OC.pa o r), AV.int IntKind.i64 (OC.ra o r), AV.int IntKind.i64 (OC.co o r)]) [] none),
            some (Blk.mk true [AV.int IntKind.i64 G, AV.sl (1 : Nat) (0 : Nat) (8 : Nat) (0 : Nat) len cap] (0 : Nat) (0 : Nat) (fun x => []) [] none)]))
    (T.ite (decide (G > (64 : Int)))
      (T.ret
        (Ex.ret,
          St.mk [((1 : Nat), AV.ptr (2 : Nat) (0 : Nat) (0 : Nat) (0 : Nat)), ((2 : Nat), AV.int IntKind.i64 (1 : Int))]
            [some (Blk.mk false [] (0 : Nat) (0 : Nat) (fun x => []) [] (some fun js => Mem.mk (FD.nl x js) (FD.ad x js) (FD.ln x js) (FD.cp x js) (1 : Nat) fun q => [AV.int IntKind.i64 (FD.z x (q :: js))])),
              some (Blk.mk false [] (8 : Nat) cap (fun r => [AV.int IntKind.i64 (OC.kd o r), AV.part (0 : Nat) [r], AV.int IntKind.i64 (OC.fo o r), AV.int IntKind.i64 (OC.fa o r), AV.int IntKind.i64 (OC.fb o r), AV.int IntKind.i64 (OC.pa o r), AV.int IntKind.i64 (OC.ra o r), AV.int IntKind.i64 (OC.co o r)]) [] none),
              some (Blk.mk true [AV.int IntKind.i64 G, AV.sl (1 : Nat) (0 : Nat) (8 : Nat) (0 : Nat) len cap] (0 : Nat) (0 : Nat) (fun x => []) [] none)]))
      (T.ite (decide ((↑len : Int) < (1 : Int)))
        (T.ret
          (Ex.ret,
            St.mk [((1 : Nat), AV.ptr (2 : Nat) (0 : Nat) (0 : Nat) (0 : Nat)), ((2 : Nat), AV.int IntKind.i64 (3 : Int))]
              [some (Blk.mk false [] (0 : Nat) (0 : Nat) (fun x => []) [] (some fun js => Mem.mk (FD.nl x js) (FD.ad x js) (FD.ln x js) (FD.cp x js) (1 : Nat) fun q => [AV.int IntKind.i64 (FD.z x (q :: js))])),
                some (Blk.mk false [] (8 : Nat) cap (fun r => [AV.int IntKind.i64 (OC.kd o r), AV.part (0 : Nat) [r], AV.int IntKind.i64 (OC.fo o r), AV.int IntKind.i64 (OC.fa o r), AV.int IntKind.i64 (OC.fb o r), AV.int IntKind.i64 (OC.pa o r), AV.int IntKind.i64 (OC.ra o r), AV.int IntKind.i64 (OC.co o r)]) [] none),
                some (Blk.mk true [AV.int IntKind.i64 G, AV.sl (1 : Nat) (0 : Nat) (8 : Nat) (0 : Nat) len cap] (0 : Nat) (0 : Nat) (fun x => []) [] none)]))
        (T.ite (decide ((↑len : Int) > (12 : Int)))
          (T.ret
            (Ex.ret,
              St.mk [((1 : Nat), AV.ptr (2 : Nat) (0 : Nat) (0 : Nat) (0 : Nat)), ((2 : Nat), AV.int IntKind.i64 (3 : Int))]
                [some (Blk.mk false [] (0 : Nat) (0 : Nat) (fun x => []) [] (some fun js => Mem.mk (FD.nl x js) (FD.ad x js) (FD.ln x js) (FD.cp x js) (1 : Nat) fun q => [AV.int IntKind.i64 (FD.z x (q :: js))])),
                  some (Blk.mk false [] (8 : Nat) cap (fun r => [AV.int IntKind.i64 (OC.kd o r), AV.part (0 : Nat) [r], AV.int IntKind.i64 (OC.fo o r), AV.int IntKind.i64 (OC.fa o r), AV.int IntKind.i64 (OC.fb o r), AV.int IntKind.i64 (OC.pa o r), AV.int IntKind.i64 (OC.ra o r), AV.int IntKind.i64 (OC.co o r)]) [] none),
                  some (Blk.mk true [AV.int IntKind.i64 G, AV.sl (1 : Nat) (0 : Nat) (8 : Nat) (0 : Nat) len cap] (0 : Nat) (0 : Nat) (fun x => []) [] none)]))
          (T.ret
            (Ex.norm,
              St.mk [((1 : Nat), AV.ptr (2 : Nat) (0 : Nat) (0 : Nat) (0 : Nat)), ((2 : Nat), AV.int IntKind.i64 (0 : Int))]
                [some (Blk.mk false [] (0 : Nat) (0 : Nat) (fun x => []) [] (some fun js => Mem.mk (FD.nl x js) (FD.ad x js) (FD.ln x js) (FD.cp x js) (1 : Nat) fun q => [AV.int IntKind.i64 (FD.z x (q :: js))])),
                  some (Blk.mk false [] (8 : Nat) cap (fun r => [AV.int IntKind.i64 (OC.kd o r), AV.part (0 : Nat) [r], AV.int IntKind.i64 (OC.fo o r), AV.int IntKind.i64 (OC.fa o r), AV.int IntKind.i64 (OC.fb o r), AV.int IntKind.i64 (OC.pa o r), AV.int IntKind.i64 (OC.ra o r), AV.int IntKind.i64 (OC.co o r)]) [] none),
                  some (Blk.mk true [AV.int IntKind.i64 G, AV.sl (1 : Nat) (0 : Nat) (8 : Nat) (0 : Nat) len cap] (0 : Nat) (0 : Nat) (fun x => []) [] none)]))))) := by
  kernel_rfl

theorem ck_5 (x : FD) (o : OC) (G : Int) (len cap : Nat) : T.cut (keepT [1, 30, 31] (acodeL Try.prog (ckE x o G len cap) (((chainOf ckF).drop 5).take 1) (ckS0 x o G len cap))) [] = 
  T.ret
    (Ex.norm,
      St.mk [((1 : Nat), AV.ptr (2 : Nat) (0 : Nat) (0 : Nat) (0 : Nat)), ((30 : Nat), AV.int IntKind.i64 (↑len : Int)), ((31 : Nat), AV.int IntKind.i64 (0 : Int))]
        [some (Blk.mk false [] (0 : Nat) (0 : Nat) (fun x => []) [] (some fun js => Mem.mk (FD.nl x js) (FD.ad x js) (FD.ln x js) (FD.cp x js) (1 : Nat) fun q => [AV.int IntKind.i64 (FD.z x (q :: js))])),
          some (Blk.mk false [] (8 : Nat) cap (fun r => [AV.int IntKind.i64 (OC.kd o r), AV.part (0 : Nat) [r], AV.int IntKind.i64 (OC.fo o r), AV.int IntKind.i64 (OC.fa o r), AV.int IntKind.i64 (OC.fb o r), AV.int IntKind.i64 (OC.pa o r), AV.int IntKind.i64 (OC.ra o r), AV.int IntKind.i64 (OC.co o r)]) [] none),
          some (Blk.mk true [AV.int IntKind.i64 G, AV.sl (1 : Nat) (0 : Nat) (8 : Nat) (0 : Nat) len cap] (0 : Nat) (0 : Nat) (fun x => []) [] none)]) := by
  kernel_rfl

theorem ck_l1 (x : FD) (o : OC) (G : Int) (len cap i : Nat) : T.cut (keepT [1, 2, 30, 31] (acode Try.prog (ckE x o G len cap) ckC1 (ckS1 x o G len cap i))) [2, 2, 2, 0] = 
  T.ite (decide ((↑i : Int) < (↑len : Int)))
    (T.need (G = G ∧ len = len ∧ cap = cap)
      (T.need
        (spIn x o cap
          [some (Blk.mk false [] (0 : Nat) (0 : Nat) (fun x => []) [] (some fun js => Mem.mk (FD.nl x js) (FD.ad x js) (FD.ln x js) (FD.cp x js) (1 : Nat) fun q => [AV.int IntKind.i64 (FD.z x (q :: js))])),
            some (Blk.mk false [] (8 : Nat) cap (fun r => [AV.int IntKind.i64 (OC.kd o r), AV.part (0 : Nat) [r], AV.int IntKind.i64 (OC.fo o r), AV.int IntKind.i64 (OC.fa o r), AV.int IntKind.i64 (OC.fb o r), AV.int IntKind.i64 (OC.pa o r), AV.int IntKind.i64 (OC.ra o r), AV.int IntKind.i64 (OC.co o r)]) [] none),
            some (Blk.mk true [AV.int IntKind.i64 G, AV.sl (1 : Nat) (0 : Nat) (8 : Nat) (0 : Nat) len cap] (0 : Nat) (0 : Nat) (fun x => []) [] none)])
        (T.chk (decide ((0 : Int) ≤ (↑i : Int) ∧ (↑i : Int) < (↑len : Int)))
          (T.all fun c =>
            T.asm (decide (c ≠ (0 : Nat) ∨ coP x o len (Int.toNat (↑i : Int))))
              (T.ite ((↑c : Int) != (0 : Int))
                (T.ret
                  (Ex.ret,
                    St.mk [((1 : Nat), AV.ptr (2 : Nat) (0 : Nat) (0 : Nat) (0 : Nat)), ((2 : Nat), AV.int IntKind.i64 (↑c : Int)), ((30 : Nat), AV.int IntKind.i64 (↑len : Int)), ((31 : Nat), AV.int IntKind.i64 (↑i : Int))]
                      [some (Blk.mk false [] (0 : Nat) (0 : Nat) (fun x => []) [] (some fun js => Mem.mk (FD.nl x js) (FD.ad x js) (FD.ln x js) (FD.cp x js) (1 : Nat) fun q => [AV.int IntKind.i64 (FD.z x (q :: js))])),
                        some (Blk.mk false [] (8 : Nat) cap (fun r => [AV.int IntKind.i64 (OC.kd o r), AV.part (0 : Nat) [r], AV.int IntKind.i64 (OC.fo o r), AV.int IntKind.i64 (OC.fa o r), AV.int IntKind.i64 (OC.fb o r), AV.int IntKind.i64 (OC.pa o r), AV.int IntKind.i64 (OC.ra o r), AV.int IntKind.i64 (OC.co o r)]) [] none),
                        some (Blk.mk true [AV.int IntKind.i64 G, AV.sl (1 : Nat) (0 : Nat) (8 : Nat) (0 : Nat) len cap] (0 : Nat) (0 : Nat) (fun x => []) [] none)]))
                (T.ret
                  (Ex.norm,
                    St.mk [((1 : Nat), AV.ptr (2 : Nat) (0 : Nat) (0 : Nat) (0 : Nat)), ((30 : Nat), AV.int IntKind.i64 (↑len : Int)), ((31 : Nat), AV.int IntKind.i64 (IntKind.wrap IntKind.i64 ((↑i : Int) + (1 : Int))))]
                      [some (Blk.mk false [] (0 : Nat) (0 : Nat) (fun x => []) [] (some fun js => Mem.mk (FD.nl x js) (FD.ad x js) (FD.ln x js) (FD.cp x js) (1 : Nat) fun q => [AV.int IntKind.i64 (FD.z x (q :: js))])),
                        some (Blk.mk false [] (8 : Nat) cap (fun r => [AV.int IntKind.i64 (OC.kd o r), AV.part (0 : Nat) [r], AV.int IntKind.i64 (OC.fo o r), AV.int IntKind.i64 (OC.fa o r), AV.int IntKind.i64 (OC.fb o r), AV.int IntKind.i64 (OC.pa o r), AV.int IntKind.i64 (OC.ra o r), AV.int IntKind.i64 (OC.co o r)]) [] none),
                        some (Blk.mk true [AV.int IntKind.i64 G, AV.sl (1 : Nat) (0 : Nat) (8 : Nat) (0 : Nat) len cap] (0 : Nat) (0 : Nat) (fun x => []) [] none)])))))))
    (T.ret
      (Ex.exit (0 : Nat),
        St.mk [((1 : Nat), AV.ptr (2 : Nat) (0 : Nat) (0 : Nat) (0 : Nat)), ((30 : Nat), AV.int IntKind.i64 (↑len : Int)), ((31 : Nat), AV.int IntKind.i64 (↑i : Int))]
          [some (Blk.mk false [] (0 : Nat) (0 : Nat) (fun x => []) [] (some fun js => Mem.mk (FD.nl x js) (FD.ad x js) (FD.ln x js) (FD.cp x js) (1 : Nat) fun q => [AV.int IntKind.i64 (FD.z x (q :: js))])),
            some (Blk.mk false [] (8 : Nat) cap (fun r => [AV.int IntKind.i64 (OC.kd o r), AV.part (0 : Nat) [r], AV.int IntKind.i64 (OC.fo o r), AV.int IntKind.i64 (OC.fa o r), AV.int IntKind.i64 (OC.fb o r), AV.int IntKind.i64 (OC.pa o r), AV.int IntKind.i64 (OC.ra o r), AV.int IntKind.i64 (OC.co o r)]) [] none),
            some (Blk.mk true [AV.int IntKind.i64 G, AV.sl (1 : Nat) (0 : Nat) (8 : Nat) (0 : Nat) len cap] (0 : Nat) (0 : Nat) (fun x => []) [] none)])) := by
  kernel_rfl

theorem ck_7 (x : FD) (o : OC) (G : Int) (len cap : Nat) : T.cut (keepT [1, 42, 43, 44] (acodeL Try.prog (ckE x o G len cap) (((chainOf ckF).drop 7).take 1) (ckS0 x o G len cap))) [] = 
  T.ret
    (Ex.norm,
      St.mk [((1 : Nat), AV.ptr (2 : Nat) (0 : Nat) (0 : Nat) (0 : Nat)), ((42 : Nat), AV.sl (1 : Nat) (0 : Nat) (8 : Nat) (0 : Nat) len cap), ((43 : Nat), AV.int IntKind.i64 (↑len : Int)), ((44 : Nat), AV.int IntKind.i64 (0 : Int))]
        [some (Blk.mk false [] (0 : Nat) (0 : Nat) (fun x => []) [] (some fun js => Mem.mk (FD.nl x js) (FD.ad x js) (FD.ln x js) (FD.cp x js) (1 : Nat) fun q => [AV.int IntKind.i64 (FD.z x (q :: js))])),
          some (Blk.mk false [] (8 : Nat) cap (fun r => [AV.int IntKind.i64 (OC.kd o r), AV.part (0 : Nat) [r], AV.int IntKind.i64 (OC.fo o r), AV.int IntKind.i64 (OC.fa o r), AV.int IntKind.i64 (OC.fb o r), AV.int IntKind.i64 (OC.pa o r), AV.int IntKind.i64 (OC.ra o r), AV.int IntKind.i64 (OC.co o r)]) [] none),
          some (Blk.mk true [AV.int IntKind.i64 G, AV.sl (1 : Nat) (0 : Nat) (8 : Nat) (0 : Nat) len cap] (0 : Nat) (0 : Nat) (fun x => []) [] none)]) := by
  kernel_rfl

theorem ck_l2 (x : FD) (o : OC) (G : Int) (len cap i : Nat) : T.cut (keepT [1, 2, 42, 43, 44] (acode Try.prog (ckE x o G len cap) ckC2 (ckS2 x o G len cap i))) [2, 6, 2, 2, 2, 0, 2, 0] = 
  T.ite (decide ((↑i : Int) < (↑len : Int)))
    (T.chk (decide ((0 : Int) ≤ (↑i : Int)) && decide ((↑i : Int) < (↑len : Int)))
      (T.chk (decide ((0 : Nat) + Int.toNat (↑i : Int) < cap))
        (T.chk (decide ((0 : Nat) + Int.toNat (↑i : Int) < cap))
          (T.chk (decide ((0 : Nat) + Int.toNat (↑i : Int) < cap))
            (T.chk (decide ((0 : Nat) + Int.toNat (↑i : Int) < cap))
              (T.chk (decide ((0 : Nat) + Int.toNat (↑i : Int) < cap))
                (T.chk (decide ((0 : Nat) + Int.toNat (↑i : Int) < cap))
                  (T.chk (decide ((0 : Nat) + Int.toNat (↑i : Int) < cap))
                    (T.chk (decide ((0 : Nat) + Int.toNat (↑i : Int) < cap))
                      (T.need (G = G ∧ len = len ∧ cap = cap)
                        (T.need
                          (spIn x o cap
                            [some (Blk.mk false [] (0 : Nat) (0 : Nat) (fun x => []) [] (some fun js => Mem.mk (FD.nl x js) (FD.ad x js) (FD.ln x js) (FD.cp x js) (1 : Nat) fun q => [AV.int IntKind.i64 (FD.z x (q :: js))])),
                              some (Blk.mk false [] (8 : Nat) cap (fun r => [AV.int IntKind.i64 (OC.kd o r), AV.part (0 : Nat) [r], AV.int IntKind.i64 (OC.fo o r), AV.int IntKind.i64 (OC.fa o r), AV.int IntKind.i64 (OC.fb o r), AV.int IntKind.i64 (OC.pa o r), AV.int IntKind.i64 (OC.ra o r), AV.int IntKind.i64 (OC.co o r)]) [] none),
                              some (Blk.mk true [AV.int IntKind.i64 G, AV.sl (1 : Nat) (0 : Nat) (8 : Nat) (0 : Nat) len cap] (0 : Nat) (0 : Nat) (fun x => []) [] none),
                              some
                                (Blk.mk true
                                  [AV.int IntKind.i64 (OC.kd o ((0 : Nat) + Int.toNat (↑i : Int))), AV.part (0 : Nat) [(0 : Nat) + Int.toNat (↑i : Int)], AV.int IntKind.i64 (OC.fo o ((0 : Nat) + Int.toNat (↑i : Int))), AV.int IntKind.i64 (OC.fa o ((0 : Nat) + Int.toNat (↑i : Int))), AV.int IntKind.i64 (OC.fb o ((0 : Nat) + Int.toNat (↑i : Int))),
                                    AV.int IntKind.i64 (OC.pa o ((0 : Nat) + Int.toNat (↑i : Int))), AV.int IntKind.i64 (OC.ra o ((0 : Nat) + Int.toNat (↑i : Int))), AV.int IntKind.i64 (OC.co o ((0 : Nat) + Int.toNat (↑i : Int)))]
                                  (0 : Nat) (0 : Nat) (fun a => []) [] none)])
                          (T.ite (decide (List.length (usL x len (↑i : Int)) = (0 : Nat)))
                            (T.ite (decide ((0 : Int) > (0 : Int)) == (OC.kd o ((0 : Nat) + Int.toNat (↑i : Int)) == (8 : Int)))
                              (T.ret
                                (Ex.ret,
                                  St.mk [((1 : Nat), AV.ptr (2 : Nat) (0 : Nat) (0 : Nat) (0 : Nat)), ((2 : Nat), AV.int IntKind.i64 (8 : Int)), ((42 : Nat), AV.sl (1 : Nat) (0 : Nat) (8 : Nat) (0 : Nat) len cap), ((43 : Nat), AV.int IntKind.i64 (↑len : Int)), ((44 : Nat), AV.int IntKind.i64 (↑i : Int))]
                                    [some (Blk.mk false [] (0 : Nat) (0 : Nat) (fun x => []) [] (some fun js => Mem.mk (FD.nl x js) (FD.ad x js) (FD.ln x js) (FD.cp x js) (1 : Nat) fun q => [AV.int IntKind.i64 (FD.z x (q :: js))])),
                                      some (Blk.mk false [] (8 : Nat) cap (fun r => [AV.int IntKind.i64 (OC.kd o r), AV.part (0 : Nat) [r], AV.int IntKind.i64 (OC.fo o r), AV.int IntKind.i64 (OC.fa o r), AV.int IntKind.i64 (OC.fb o r), AV.int IntKind.i64 (OC.pa o r), AV.int IntKind.i64 (OC.ra o r), AV.int IntKind.i64 (OC.co o r)]) [] none),
                                      some (Blk.mk true [AV.int IntKind.i64 G, AV.sl (1 : Nat) (0 : Nat) (8 : Nat) (0 : Nat) len cap] (0 : Nat) (0 : Nat) (fun x => []) [] none),
                                      some
                                        (Blk.mk true
                                          [AV.int IntKind.i64 (OC.kd o ((0 : Nat) + Int.toNat (↑i : Int))), AV.part (0 : Nat) [(0 : Nat) + Int.toNat (↑i : Int)], AV.int IntKind.i64 (OC.fo o ((0 : Nat) + Int.toNat (↑i : Int))), AV.int IntKind.i64 (OC.fa o ((0 : Nat) + Int.toNat (↑i : Int))), AV.int IntKind.i64 (OC.fb o ((0 : Nat) + Int.toNat (↑i : Int))),
                                            AV.int IntKind.i64 (OC.pa o ((0 : Nat) + Int.toNat (↑i : Int))), AV.int IntKind.i64 (OC.ra o ((0 : Nat) + Int.toNat (↑i : Int))), AV.int IntKind.i64 (OC.co o ((0 : Nat) + Int.toNat (↑i : Int)))]
                                          (0 : Nat) (0 : Nat) (fun a => []) [] none)]))
                              (T.ret
                                (Ex.norm,
                                  St.mk [((1 : Nat), AV.ptr (2 : Nat) (0 : Nat) (0 : Nat) (0 : Nat)), ((42 : Nat), AV.sl (1 : Nat) (0 : Nat) (8 : Nat) (0 : Nat) len cap), ((43 : Nat), AV.int IntKind.i64 (↑len : Int)), ((44 : Nat), AV.int IntKind.i64 (IntKind.wrap IntKind.i64 ((↑i : Int) + (1 : Int))))]
                                    [some (Blk.mk false [] (0 : Nat) (0 : Nat) (fun x => []) [] (some fun js => Mem.mk (FD.nl x js) (FD.ad x js) (FD.ln x js) (FD.cp x js) (1 : Nat) fun q => [AV.int IntKind.i64 (FD.z x (q :: js))])),
                                      some (Blk.mk false [] (8 : Nat) cap (fun r => [AV.int IntKind.i64 (OC.kd o r), AV.part (0 : Nat) [r], AV.int IntKind.i64 (OC.fo o r), AV.int IntKind.i64 (OC.fa o r), AV.int IntKind.i64 (OC.fb o r), AV.int IntKind.i64 (OC.pa o r), AV.int IntKind.i64 (OC.ra o r), AV.int IntKind.i64 (OC.co o r)]) [] none),
                                      some (Blk.mk true [AV.int IntKind.i64 G, AV.sl (1 : Nat) (0 : Nat) (8 : Nat) (0 : Nat) len cap] (0 : Nat) (0 : Nat) (fun x => []) [] none),
                                      some
                                        (Blk.mk true
                                          [AV.int IntKind.i64 (OC.kd o ((0 : Nat) + Int.toNat (↑i : Int))), AV.part (0 : Nat) [(0 : Nat) + Int.toNat (↑i : Int)], AV.int IntKind.i64 (OC.fo o ((0 : Nat) + Int.toNat (↑i : Int))), AV.int IntKind.i64 (OC.fa o ((0 : Nat) + Int.toNat (↑i : Int))), AV.int IntKind.i64 (OC.fb o ((0 : Nat) + Int.toNat (↑i : Int))),
                                            AV.int IntKind.i64 (OC.pa o ((0 : Nat) + Int.toNat (↑i : Int))), AV.int IntKind.i64 (OC.ra o ((0 : Nat) + Int.toNat (↑i : Int))), AV.int IntKind.i64 (OC.co o ((0 : Nat) + Int.toNat (↑i : Int)))]
                                          (0 : Nat) (0 : Nat) (fun a => []) [] none)])))
                            (T.all fun c =>
                              T.asm (decide (List.length (usL x len (↑i : Int)) ≤ c))
                                (T.ite (decide ((↑(List.length (usL x len (↑i : Int))) : Int) > (0 : Int)) == (OC.kd o ((0 : Nat) + Int.toNat (↑i : Int)) == (8 : Int)))
                                  (T.ret
                                    (Ex.ret,
                                      St.mk [((1 : Nat), AV.ptr (2 : Nat) (0 : Nat) (0 : Nat) (0 : Nat)), ((2 : Nat), AV.int IntKind.i64 (8 : Int)), ((42 : Nat), AV.sl (1 : Nat) (0 : Nat) (8 : Nat) (0 : Nat) len cap), ((43 : Nat), AV.int IntKind.i64 (↑len : Int)), ((44 : Nat), AV.int IntKind.i64 (↑i : Int))]
                                        [some (Blk.mk false [] (0 : Nat) (0 : Nat) (fun x => []) [] (some fun js => Mem.mk (FD.nl x js) (FD.ad x js) (FD.ln x js) (FD.cp x js) (1 : Nat) fun q => [AV.int IntKind.i64 (FD.z x (q :: js))])),
                                          some (Blk.mk false [] (8 : Nat) cap (fun r => [AV.int IntKind.i64 (OC.kd o r), AV.part (0 : Nat) [r], AV.int IntKind.i64 (OC.fo o r), AV.int IntKind.i64 (OC.fa o r), AV.int IntKind.i64 (OC.fb o r), AV.int IntKind.i64 (OC.pa o r), AV.int IntKind.i64 (OC.ra o r), AV.int IntKind.i64 (OC.co o r)]) [] none),
                                          some (Blk.mk true [AV.int IntKind.i64 G, AV.sl (1 : Nat) (0 : Nat) (8 : Nat) (0 : Nat) len cap] (0 : Nat) (0 : Nat) (fun x => []) [] none),
                                          some
                                            (Blk.mk true
                                              [AV.int IntKind.i64 (OC.kd o ((0 : Nat) + Int.toNat (↑i : Int))), AV.part (0 : Nat) [(0 : Nat) + Int.toNat (↑i : Int)], AV.int IntKind.i64 (OC.fo o ((0 : Nat) + Int.toNat (↑i : Int))), AV.int IntKind.i64 (OC.fa o ((0 : Nat) + Int.toNat (↑i : Int))), AV.int IntKind.i64 (OC.fb o ((0 : Nat) + Int.toNat (↑i : Int))),
                                                AV.int IntKind.i64 (OC.pa o ((0 : Nat) + Int.toNat (↑i : Int))), AV.int IntKind.i64 (OC.ra o ((0 : Nat) + Int.toNat (↑i : Int))), AV.int IntKind.i64 (OC.co o ((0 : Nat) + Int.toNat (↑i : Int)))]
                                              (0 : Nat) (0 : Nat) (fun a => []) [] none),
                                          some (Blk.mk true [] (1 : Nat) c (fun j => [AV.int IntKind.i64 (if j < List.length (usL x len (↑i : Int)) then usG x len (↑i : Int) j else (0 : Int))]) [] none)]))
                                  (T.ret
                                    (Ex.norm,
                                      St.mk [((1 : Nat), AV.ptr (2 : Nat) (0 : Nat) (0 : Nat) (0 : Nat)), ((42 : Nat), AV.sl (1 : Nat) (0 : Nat) (8 : Nat) (0 : Nat) len cap), ((43 : Nat), AV.int IntKind.i64 (↑len : Int)), ((44 : Nat), AV.int IntKind.i64 (IntKind.wrap IntKind.i64 ((↑i : Int) + (1 : Int))))]
                                        [some (Blk.mk false [] (0 : Nat) (0 : Nat) (fun x => []) [] (some fun js => Mem.mk (FD.nl x js) (FD.ad x js) (FD.ln x js) (FD.cp x js) (1 : Nat) fun q => [AV.int IntKind.i64 (FD.z x (q :: js))])),
                                          some (Blk.mk false [] (8 : Nat) cap (fun r => [AV.int IntKind.i64 (OC.kd o r), AV.part (0 : Nat) [r], AV.int IntKind.i64 (OC.fo o r), AV.int IntKind.i64 (OC.fa o r), AV.int IntKind.i64 (OC.fb o r), AV.int IntKind.i64 (OC.pa o r), AV.int IntKind.i64 (OC.ra o r), AV.int IntKind.i64 (OC.co o r)]) [] none),
                                          some (Blk.mk true [AV.int IntKind.i64 G, AV.sl (1 : Nat) (0 : Nat) (8 : Nat) (0 : Nat) len cap] (0 : Nat) (0 : Nat) (fun x => []) [] none),
                                          some
                                            (Blk.mk true
                                              [AV.int IntKind.i64 (OC.kd o ((0 : Nat) + Int.toNat (↑i : Int))), AV.part (0 : Nat) [(0 : Nat) + Int.toNat (↑i : Int)], AV.int IntKind.i64 (OC.fo o ((0 : Nat) + Int.toNat (↑i : Int))), AV.int IntKind.i64 (OC.fa o ((0 : Nat) + Int.toNat (↑i : Int))), AV.int IntKind.i64 (OC.fb o ((0 : Nat) + Int.toNat (↑i : Int))),
                                                AV.int IntKind.i64 (OC.pa o ((0 : Nat) + Int.toNat (↑i : Int))), AV.int IntKind.i64 (OC.ra o ((0 : Nat) + Int.toNat (↑i : Int))), AV.int IntKind.i64 (OC.co o ((0 : Nat) + Int.toNat (↑i : Int)))]
                                              (0 : Nat) (0 : Nat) (fun a => []) [] none),
                                          some (Blk.mk true [] (1 : Nat) c (fun j => [AV.int IntKind.i64 (if j < List.length (usL x len (↑i : Int)) then usG x len (↑i : Int) j else (0 : Int))]) [] none)]))))))))))))))))
    (T.ret
      (Ex.exit (2 : Nat),
        St.mk [((1 : Nat), AV.ptr (2 : Nat) (0 : Nat) (0 : Nat) (0 : Nat)), ((42 : Nat), AV.sl (1 : Nat) (0 : Nat) (8 : Nat) (0 : Nat) len cap), ((43 : Nat), AV.int IntKind.i64 (↑len : Int)), ((44 : Nat), AV.int IntKind.i64 (↑i : Int))]
          [some (Blk.mk false [] (0 : Nat) (0 : Nat) (fun x => []) [] (some fun js => Mem.mk (FD.nl x js) (FD.ad x js) (FD.ln x js) (FD.cp x js) (1 : Nat) fun q => [AV.int IntKind.i64 (FD.z x (q :: js))])),
            some (Blk.mk false [] (8 : Nat) cap (fun r => [AV.int IntKind.i64 (OC.kd o r), AV.part (0 : Nat) [r], AV.int IntKind.i64 (OC.fo o r), AV.int IntKind.i64 (OC.fa o r), AV.int IntKind.i64 (OC.fb o r), AV.int IntKind.i64 (OC.pa o r), AV.int IntKind.i64 (OC.ra o r), AV.int IntKind.i64 (OC.co o r)]) [] none),
            some (Blk.mk true [AV.int IntKind.i64 G, AV.sl (1 : Nat) (0 : Nat) (8 : Nat) (0 : Nat) len cap] (0 : Nat) (0 : Nat) (fun x => []) [] none)])) := by
  kernel_rfl

theorem ck_9 (x : FD) (o : OC) (G : Int) (len cap : Nat) : T.cut (keepT [1, 2, 68, 69, 70] (acodeL Try.prog (ckE x o G len cap) (((chainOf ckF).drop 9).take 3) (ckS0 x o G len cap))) [2, 2, 2, 0, 2, 0] = 
  T.need (G = G ∧ len = len ∧ cap = cap)
    (T.need
      (spIn x o cap
        [some (Blk.mk false [] (0 : Nat) (0 : Nat) (fun x => []) [] (some fun js => Mem.mk (FD.nl x js) (FD.ad x js) (FD.ln x js) (FD.cp x js) (1 : Nat) fun q => [AV.int IntKind.i64 (FD.z x (q :: js))])),
          some (Blk.mk false [] (8 : Nat) cap (fun r => [AV.int IntKind.i64 (OC.kd o r), AV.part (0 : Nat) [r], AV.int IntKind.i64 (OC.fo o r), AV.int IntKind.i64 (OC.fa o r), AV.int IntKind.i64 (OC.fb o r), AV.int IntKind.i64 (OC.pa o r), AV.int IntKind.i64 (OC.ra o r), AV.int IntKind.i64 (OC.co o r)]) [] none),
          some (Blk.mk true [AV.int IntKind.i64 G, AV.sl (1 : Nat) (0 : Nat) (8 : Nat) (0 : Nat) len cap] (0 : Nat) (0 : Nat) (fun x => []) [] none)])
      (T.all fun c =>
        T.ite (decide (c = (0 : Nat)))
          (T.need (AV.int IntKind.i64 (↑len : Int) = AV.int IntKind.i64 (↑len : Int))
            (T.need (AV.sl (1 : Nat) (0 : Nat) (8 : Nat) (0 : Nat) len cap = AV.sl (1 : Nat) (0 : Nat) (8 : Nat) (0 : Nat) len cap)
              (T.ite (decide ((0 : Int) < (↑len : Int)))
                (T.ret
                  (Ex.ret,
                    St.mk [((1 : Nat), AV.ptr (2 : Nat) (0 : Nat) (0 : Nat) (0 : Nat)), ((2 : Nat), AV.int IntKind.i64 (9 : Int))]
                      [some (Blk.mk false [] (0 : Nat) (0 : Nat) (fun x => []) [] (some fun js => Mem.mk (FD.nl x js) (FD.ad x js) (FD.ln x js) (FD.cp x js) (1 : Nat) fun q => [AV.int IntKind.i64 (FD.z x (q :: js))])),
                        some (Blk.mk false [] (8 : Nat) cap (fun r => [AV.int IntKind.i64 (OC.kd o r), AV.part (0 : Nat) [r], AV.int IntKind.i64 (OC.fo o r), AV.int IntKind.i64 (OC.fa o r), AV.int IntKind.i64 (OC.fb o r), AV.int IntKind.i64 (OC.pa o r), AV.int IntKind.i64 (OC.ra o r), AV.int IntKind.i64 (OC.co o r)]) [] none),
                        some (Blk.mk true [AV.int IntKind.i64 G, AV.sl (1 : Nat) (0 : Nat) (8 : Nat) (0 : Nat) len cap] (0 : Nat) (0 : Nat) (fun x => []) [] none)]))
                (T.ret
                  (Ex.norm,
                    St.mk [((1 : Nat), AV.ptr (2 : Nat) (0 : Nat) (0 : Nat) (0 : Nat)), ((68 : Nat), AV.sl (1 : Nat) (0 : Nat) (8 : Nat) (0 : Nat) len cap), ((69 : Nat), AV.int IntKind.i64 (↑len : Int)), ((70 : Nat), AV.int IntKind.i64 (0 : Int))]
                      [some (Blk.mk false [] (0 : Nat) (0 : Nat) (fun x => []) [] (some fun js => Mem.mk (FD.nl x js) (FD.ad x js) (FD.ln x js) (FD.cp x js) (1 : Nat) fun q => [AV.int IntKind.i64 (FD.z x (q :: js))])),
                        some (Blk.mk false [] (8 : Nat) cap (fun r => [AV.int IntKind.i64 (OC.kd o r), AV.part (0 : Nat) [r], AV.int IntKind.i64 (OC.fo o r), AV.int IntKind.i64 (OC.fa o r), AV.int IntKind.i64 (OC.fb o r), AV.int IntKind.i64 (OC.pa o r), AV.int IntKind.i64 (OC.ra o r), AV.int IntKind.i64 (OC.co o r)]) [] none),
                        some (Blk.mk true [AV.int IntKind.i64 G, AV.sl (1 : Nat) (0 : Nat) (8 : Nat) (0 : Nat) len cap] (0 : Nat) (0 : Nat) (fun x => []) [] none)])))))
          (T.all fun c =>
            T.asm (decide (c ≤ len))
              (T.all fun c_1 =>
                T.asm (decide (c ≤ c_1))
                  (T.need (AV.int IntKind.i64 (↑len : Int) = AV.int IntKind.i64 (↑len : Int))
                    (T.need (AV.sl (1 : Nat) (0 : Nat) (8 : Nat) (0 : Nat) len cap = AV.sl (1 : Nat) (0 : Nat) (8 : Nat) (0 : Nat) len cap)
                      (T.ite (decide ((↑c : Int) < (↑len : Int)))
                        (T.ret
                          (Ex.ret,
                            St.mk [((1 : Nat), AV.ptr (2 : Nat) (0 : Nat) (0 : Nat) (0 : Nat)), ((2 : Nat), AV.int IntKind.i64 (9 : Int))]
                              [some (Blk.mk false [] (0 : Nat) (0 : Nat) (fun x => []) [] (some fun js => Mem.mk (FD.nl x js) (FD.ad x js) (FD.ln x js) (FD.cp x js) (1 : Nat) fun q => [AV.int IntKind.i64 (FD.z x (q :: js))])),
                                some (Blk.mk false [] (8 : Nat) cap (fun r => [AV.int IntKind.i64 (OC.kd o r), AV.part (0 : Nat) [r], AV.int IntKind.i64 (OC.fo o r), AV.int IntKind.i64 (OC.fa o r), AV.int IntKind.i64 (OC.fb o r), AV.int IntKind.i64 (OC.pa o r), AV.int IntKind.i64 (OC.ra o r), AV.int IntKind.i64 (OC.co o r)]) [] none),
                                some (Blk.mk true [AV.int IntKind.i64 G, AV.sl (1 : Nat) (0 : Nat) (8 : Nat) (0 : Nat) len cap] (0 : Nat) (0 : Nat) (fun x => []) [] none), none]))
                        (T.ret
                          (Ex.norm,
                            St.mk [((1 : Nat), AV.ptr (2 : Nat) (0 : Nat) (0 : Nat) (0 : Nat)), ((68 : Nat), AV.sl (1 : Nat) (0 : Nat) (8 : Nat) (0 : Nat) len cap), ((69 : Nat), AV.int IntKind.i64 (↑len : Int)), ((70 : Nat), AV.int IntKind.i64 (0 : Int))]
                              [some (Blk.mk false [] (0 : Nat) (0 : Nat) (fun x => []) [] (some fun js => Mem.mk (FD.nl x js) (FD.ad x js) (FD.ln x js) (FD.cp x js) (1 : Nat) fun q => [AV.int IntKind.i64 (FD.z x (q :: js))])),
                                some (Blk.mk false [] (8 : Nat) cap (fun r => [AV.int IntKind.i64 (OC.kd o r), AV.part (0 : Nat) [r], AV.int IntKind.i64 (OC.fo o r), AV.int IntKind.i64 (OC.fa o r), AV.int IntKind.i64 (OC.fb o r), AV.int IntKind.i64 (OC.pa o r), AV.int IntKind.i64 (OC.ra o r), AV.int IntKind.i64 (OC.co o r)]) [] none),
                                some (Blk.mk true [AV.int IntKind.i64 G, AV.sl (1 : Nat) (0 : Nat) (8 : Nat) (0 : Nat) len cap] (0 : Nat) (0 : Nat) (fun x => []) [] none), none]))))))))) := by
  kernel_rfl

theorem ck_l3 (x : FD) (o : OC) (G : Int) (len cap i : Nat) : T.cut (keepT [1, 2, 68, 69, 70] (acode Try.prog (ckE x o G len cap) ckC3 (ckS3 x o G len cap i))) [2, 6, 2, 4, 2, 0, 2, 0] = 
  T.ite (decide ((↑i : Int) < (↑len : Int)))
    (T.chk (decide ((0 : Int) ≤ (↑i : Int)) && decide ((↑i : Int) < (↑len : Int)))
      (T.chk (decide ((0 : Nat) + Int.toNat (↑i : Int) < cap))
        (T.chk (decide ((0 : Nat) + Int.toNat (↑i : Int) < cap))
          (T.chk (decide ((0 : Nat) + Int.toNat (↑i : Int) < cap))
            (T.chk (decide ((0 : Nat) + Int.toNat (↑i : Int) < cap))
              (T.chk (decide ((0 : Nat) + Int.toNat (↑i : Int) < cap))
                (T.chk (decide ((0 : Nat) + Int.toNat (↑i : Int) < cap))
                  (T.chk (decide ((0 : Nat) + Int.toNat (↑i : Int) < cap))
                    (T.chk (decide ((0 : Nat) + Int.toNat (↑i : Int) < cap))
                      (T.ite (OC.kd o ((0 : Nat) + Int.toNat (↑i : Int)) == (7 : Int))
                        (T.ite (FD.nl x [(0 : Nat) + Int.toNat (↑i : Int)]) T.fail
                          (T.need (G = G ∧ len = len ∧ cap = cap)
                            (T.need
                              (spIn x o cap
                                [some (Blk.mk false [] (0 : Nat) (0 : Nat) (fun x => []) [] (some fun js => Mem.mk (FD.nl x js) (FD.ad x js) (FD.ln x js) (FD.cp x js) (1 : Nat) fun q => [AV.int IntKind.i64 (FD.z x (q :: js))])),
                                  some (Blk.mk false [] (8 : Nat) cap (fun r => [AV.int IntKind.i64 (OC.kd o r), AV.part (0 : Nat) [r], AV.int IntKind.i64 (OC.fo o r), AV.int IntKind.i64 (OC.fa o r), AV.int IntKind.i64 (OC.fb o r), AV.int IntKind.i64 (OC.pa o r), AV.int IntKind.i64 (OC.ra o r), AV.int IntKind.i64 (OC.co o r)]) [] none),
                                  some (Blk.mk true [AV.int IntKind.i64 G, AV.sl (1 : Nat) (0 : Nat) (8 : Nat) (0 : Nat) len cap] (0 : Nat) (0 : Nat) (fun x => []) [] none),
                                  some
                                    (Blk.mk true
                                      [AV.int IntKind.i64 (OC.kd o ((0 : Nat) + Int.toNat (↑i : Int))), AV.part (0 : Nat) [(0 : Nat) + Int.toNat (↑i : Int)], AV.int IntKind.i64 (OC.fo o ((0 : Nat) + Int.toNat (↑i : Int))), AV.int IntKind.i64 (OC.fa o ((0 : Nat) + Int.toNat (↑i : Int))), AV.int IntKind.i64 (OC.fb o ((0 : Nat) + Int.toNat (↑i : Int))),
                                        AV.int IntKind.i64 (OC.pa o ((0 : Nat) + Int.toNat (↑i : Int))), AV.int IntKind.i64 (OC.ra o ((0 : Nat) + Int.toNat (↑i : Int))), AV.int IntKind.i64 (OC.co o ((0 : Nat) + Int.toNat (↑i : Int)))]
                                      (0 : Nat) (0 : Nat) (fun a => []) [] none),
                                  some (Blk.mk false [] (1 : Nat) (FD.cp x [(0 : Nat) + Int.toNat (↑i : Int)]) (fun a => [AV.int IntKind.i64 (FD.z x [a, (0 : Nat) + Int.toNat (↑i : Int)])]) [] none)])
                              (T.need (IntRow IntKind.i64 (Blk.mk false [] (1 : Nat) (FD.cp x [(0 : Nat) + Int.toNat (↑i : Int)]) (fun a => [AV.int IntKind.i64 (FD.z x [a, (0 : Nat) + Int.toNat (↑i : Int)])]) [] none) ∧ FD.cp x [(0 : Nat) + Int.toNat (↑i : Int)] = FD.cp x [(0 : Nat) + Int.toNat (↑i : Int)])
                                (T.chk (decide (FD.ln x [(0 : Nat) + Int.toNat (↑i : Int)] ≤ FD.cp x [(0 : Nat) + Int.toNat (↑i : Int)] ∧ FD.ln x [(0 : Nat) + Int.toNat (↑i : Int)] ≤ (12 : Nat)))
                                  (T.all fun c =>
                                    T.ite (decide (c = (0 : Nat)))
                                      (T.ret
                                        (Ex.ret,
                                          St.mk [((1 : Nat), AV.ptr (2 : Nat) (0 : Nat) (0 : Nat) (0 : Nat)), ((2 : Nat), AV.int IntKind.i64 (10 : Int)), ((68 : Nat), AV.sl (1 : Nat) (0 : Nat) (8 : Nat) (0 : Nat) len cap), ((69 : Nat), AV.int IntKind.i64 (↑len : Int)), ((70 : Nat), AV.int IntKind.i64 (↑i : Int))]
                                            [some (Blk.mk false [] (0 : Nat) (0 : Nat) (fun x => []) [] (some fun js => Mem.mk (FD.nl x js) (FD.ad x js) (FD.ln x js) (FD.cp x js) (1 : Nat) fun q => [AV.int IntKind.i64 (FD.z x (q :: js))])),
                                              some (Blk.mk false [] (8 : Nat) cap (fun r => [AV.int IntKind.i64 (OC.kd o r), AV.part (0 : Nat) [r], AV.int IntKind.i64 (OC.fo o r), AV.int IntKind.i64 (OC.fa o r), AV.int IntKind.i64 (OC.fb o r), AV.int IntKind.i64 (OC.pa o r), AV.int IntKind.i64 (OC.ra o r), AV.int IntKind.i64 (OC.co o r)]) [] none),
                                              some (Blk.mk true [AV.int IntKind.i64 G, AV.sl (1 : Nat) (0 : Nat) (8 : Nat) (0 : Nat) len cap] (0 : Nat) (0 : Nat) (fun x => []) [] none),
                                              some
                                                (Blk.mk true
                                                  [AV.int IntKind.i64 (OC.kd o ((0 : Nat) + Int.toNat (↑i : Int))), AV.part (0 : Nat) [(0 : Nat) + Int.toNat (↑i : Int)], AV.int IntKind.i64 (OC.fo o ((0 : Nat) + Int.toNat (↑i : Int))), AV.int IntKind.i64 (OC.fa o ((0 : Nat) + Int.toNat (↑i : Int))), AV.int IntKind.i64 (OC.fb o ((0 : Nat) + Int.toNat (↑i : Int))),
                                                    AV.int IntKind.i64 (OC.pa o ((0 : Nat) + Int.toNat (↑i : Int))), AV.int IntKind.i64 (OC.ra o ((0 : Nat) + Int.toNat (↑i : Int))), AV.int IntKind.i64 (OC.co o ((0 : Nat) + Int.toNat (↑i : Int)))]
                                                  (0 : Nat) (0 : Nat) (fun a => []) [] none),
                                              some (Blk.mk false [] (1 : Nat) (FD.cp x [(0 : Nat) + Int.toNat (↑i : Int)]) (fun a => [AV.int IntKind.i64 (FD.z x [a, (0 : Nat) + Int.toNat (↑i : Int)])]) [] none)]))
                                      (T.ret
                                        (Ex.norm,
                                          St.mk [((1 : Nat), AV.ptr (2 : Nat) (0 : Nat) (0 : Nat) (0 : Nat)), ((68 : Nat), AV.sl (1 : Nat) (0 : Nat) (8 : Nat) (0 : Nat) len cap), ((69 : Nat), AV.int IntKind.i64 (↑len : Int)), ((70 : Nat), AV.int IntKind.i64 (IntKind.wrap IntKind.i64 ((↑i : Int) + (1 : Int))))]
                                            [some (Blk.mk false [] (0 : Nat) (0 : Nat) (fun x => []) [] (some fun js => Mem.mk (FD.nl x js) (FD.ad x js) (FD.ln x js) (FD.cp x js) (1 : Nat) fun q => [AV.int IntKind.i64 (FD.z x (q :: js))])),
                                              some (Blk.mk false [] (8 : Nat) cap (fun r => [AV.int IntKind.i64 (OC.kd o r), AV.part (0 : Nat) [r], AV.int IntKind.i64 (OC.fo o r), AV.int IntKind.i64 (OC.fa o r), AV.int IntKind.i64 (OC.fb o r), AV.int IntKind.i64 (OC.pa o r), AV.int IntKind.i64 (OC.ra o r), AV.int IntKind.i64 (OC.co o r)]) [] none),
                                              some (Blk.mk true [AV.int IntKind.i64 G, AV.sl (1 : Nat) (0 : Nat) (8 : Nat) (0 : Nat) len cap] (0 : Nat) (0 : Nat) (fun x => []) [] none),
                                              some
                                                (Blk.mk true
                                                  [AV.int IntKind.i64 (OC.kd o ((0 : Nat) + Int.toNat (↑i : Int))), AV.part (0 : Nat) [(0 : Nat) + Int.toNat (↑i : Int)], AV.int IntKind.i64 (OC.fo o ((0 : Nat) + Int.toNat (↑i : Int))), AV.int IntKind.i64 (OC.fa o ((0 : Nat) + Int.toNat (↑i : Int))), AV.int IntKind.i64 (OC.fb o ((0 : Nat) + Int.toNat (↑i : Int))),
                                                    AV.int IntKind.i64 (OC.pa o ((0 : Nat) + Int.toNat (↑i : Int))), AV.int IntKind.i64 (OC.ra o ((0 : Nat) + Int.toNat (↑i : Int))), AV.int IntKind.i64 (OC.co o ((0 : Nat) + Int.toNat (↑i : Int)))]
                                                  (0 : Nat) (0 : Nat) (fun a => []) [] none),
                                              some (Blk.mk false [] (1 : Nat) (FD.cp x [(0 : Nat) + Int.toNat (↑i : Int)]) (fun a => [AV.int IntKind.i64 (FD.z x [a, (0 : Nat) + Int.toNat (↑i : Int)])]) [] none)]))))))))
                        (T.ret
                          (Ex.norm,
                            St.mk [((1 : Nat), AV.ptr (2 : Nat) (0 : Nat) (0 : Nat) (0 : Nat)), ((68 : Nat), AV.sl (1 : Nat) (0 : Nat) (8 : Nat) (0 : Nat) len cap), ((69 : Nat), AV.int IntKind.i64 (↑len : Int)), ((70 : Nat), AV.int IntKind.i64 (IntKind.wrap IntKind.i64 ((↑i : Int) + (1 : Int))))]
                              [some (Blk.mk false [] (0 : Nat) (0 : Nat) (fun x => []) [] (some fun js => Mem.mk (FD.nl x js) (FD.ad x js) (FD.ln x js) (FD.cp x js) (1 : Nat) fun q => [AV.int IntKind.i64 (FD.z x (q :: js))])),
                                some (Blk.mk false [] (8 : Nat) cap (fun r => [AV.int IntKind.i64 (OC.kd o r), AV.part (0 : Nat) [r], AV.int IntKind.i64 (OC.fo o r), AV.int IntKind.i64 (OC.fa o r), AV.int IntKind.i64 (OC.fb o r), AV.int IntKind.i64 (OC.pa o r), AV.int IntKind.i64 (OC.ra o r), AV.int IntKind.i64 (OC.co o r)]) [] none),
                                some (Blk.mk true [AV.int IntKind.i64 G, AV.sl (1 : Nat) (0 : Nat) (8 : Nat) (0 : Nat) len cap] (0 : Nat) (0 : Nat) (fun x => []) [] none),
                                some
                                  (Blk.mk true
                                    [AV.int IntKind.i64 (OC.kd o ((0 : Nat) + Int.toNat (↑i : Int))), AV.part (0 : Nat) [(0 : Nat) + Int.toNat (↑i : Int)], AV.int IntKind.i64 (OC.fo o ((0 : Nat) + Int.toNat (↑i : Int))), AV.int IntKind.i64 (OC.fa o ((0 : Nat) + Int.toNat (↑i : Int))), AV.int IntKind.i64 (OC.fb o ((0 : Nat) + Int.toNat (↑i : Int))),
                                      AV.int IntKind.i64 (OC.pa o ((0 : Nat) + Int.toNat (↑i : Int))), AV.int IntKind.i64 (OC.ra o ((0 : Nat) + Int.toNat (↑i : Int))), AV.int IntKind.i64 (OC.co o ((0 : Nat) + Int.toNat (↑i : Int)))]
                                    (0 : Nat) (0 : Nat) (fun a => []) [] none)]))))))))))))
    (T.ret
      (Ex.exit (4 : Nat),
        St.mk [((1 : Nat), AV.ptr (2 : Nat) (0 : Nat) (0 : Nat) (0 : Nat)), ((68 : Nat), AV.sl (1 : Nat) (0 : Nat) (8 : Nat) (0 : Nat) len cap), ((69 : Nat), AV.int IntKind.i64 (↑len : Int)), ((70 : Nat), AV.int IntKind.i64 (↑i : Int))]
          [some (Blk.mk false [] (0 : Nat) (0 : Nat) (fun x => []) [] (some fun js => Mem.mk (FD.nl x js) (FD.ad x js) (FD.ln x js) (FD.cp x js) (1 : Nat) fun q => [AV.int IntKind.i64 (FD.z x (q :: js))])),
            some (Blk.mk false [] (8 : Nat) cap (fun r => [AV.int IntKind.i64 (OC.kd o r), AV.part (0 : Nat) [r], AV.int IntKind.i64 (OC.fo o r), AV.int IntKind.i64 (OC.fa o r), AV.int IntKind.i64 (OC.fb o r), AV.int IntKind.i64 (OC.pa o r), AV.int IntKind.i64 (OC.ra o r), AV.int IntKind.i64 (OC.co o r)]) [] none),
            some (Blk.mk true [AV.int IntKind.i64 G, AV.sl (1 : Nat) (0 : Nat) (8 : Nat) (0 : Nat) len cap] (0 : Nat) (0 : Nat) (fun x => []) [] none)])) := by
  kernel_rfl

theorem ck_13 (x : FD) (o : OC) (G : Int) (len cap : Nat) : T.cut (keepT [2] (acodeL Try.prog (ckE x o G len cap) ((chainOf ckF).drop 13) (ckS0 x o G len cap))) [] = 
  T.ret
    (Ex.ret,
      St.mk [((2 : Nat), AV.int IntKind.i64 (0 : Int))]
        [some (Blk.mk false [] (0 : Nat) (0 : Nat) (fun x => []) [] (some fun js => Mem.mk (FD.nl x js) (FD.ad x js) (FD.ln x js) (FD.cp x js) (1 : Nat) fun q => [AV.int IntKind.i64 (FD.z x (q :: js))])),
          some (Blk.mk false [] (8 : Nat) cap (fun r => [AV.int IntKind.i64 (OC.kd o r), AV.part (0 : Nat) [r], AV.int IntKind.i64 (OC.fo o r), AV.int IntKind.i64 (OC.fa o r), AV.int IntKind.i64 (OC.fb o r), AV.int IntKind.i64 (OC.pa o r), AV.int IntKind.i64 (OC.ra o r), AV.int IntKind.i64 (OC.co o r)]) [] none),
          some (Blk.mk true [AV.int IntKind.i64 G, AV.sl (1 : Nat) (0 : Nat) (8 : Nat) (0 : Nat) len cap] (0 : Nat) (0 : Nat) (fun x => []) [] none)]) := by
  kernel_rfl

theorem ck_k6 : (chainOf ckF).drop 6 = .block 0 (.loop ckC1) :: (chainOf ckF).drop 7 := by
  kernel_rfl

theorem ck_k8 : (chainOf ckF).drop 8 = .block 2 (.loop ckC2) :: (chainOf ckF).drop 9 := by
  kernel_rfl

theorem ck_k12 : (chainOf ckF).drop 12 = .block 4 (.loop ckC3) :: (chainOf ckF).drop 13 := by
  kernel_rfl

theorem ck_res : Try.f22.results.toList = [.tmp 2] := by
  kernel_rfl



set_option maxRecDepth 100000
set_option maxHeartbeats 4000000
set_option linter.unusedVariables false
set_option linter.unusedSimpArgs false

def ckP (x : FD) (o : OC) (G : Int) (len : Nat) : Prop := (1 ≤ G ∧ G ≤ 64) ∧ (1 ≤ len ∧ len ≤ 12) ∧ ∀ i : Nat, i < len → o.kd i = 8 → (usL x len i).length = 0

noncomputable instance (x : FD) (o : OC) (G : Int) (len : Nat) : Decidable (ckP x o G len) := Classical.propDecidable _

noncomputable def ckT (x : FD) (o : OC) (G : Int) (len cap : Nat) : T (AV × AM) := .all fun r => .asm (decide (r ≠ 0 ∨ ckP x o G len)) (.ret (.int .i64 r, spM x o cap))

def ckR (x : FD) (o : OC) (cap : Nat) (r : Nat) : St := ⟨[(2, .int .i64 r)], spM x o cap⟩

theorem ck_ret (x : FD) (o : OC) (cap : Nat) (r : Nat) {fr : List (Nat × AV)} (l : AM) (hs : slotAt fr 2 = some (.int .i64 r)) : SubSt 2 id ⟨fr, spM x o cap ++ l⟩ (ckR x o cap r) :=
  SubSt.mk (by simp [ckR, SubFr, hs, ren, below]) (spM_sub x o cap (Nat.le_refl _))

theorem ck_mem (x : FD) (o : OC) (G : Int) (len cap : Nat) {fr' fr : List (Nat × AV)} (l : AM) (hf : SubFr 3 id fr' fr) : SubSt 2 id ⟨fr', ckM x o G len cap ++ l⟩ ⟨fr, ckM x o G len cap⟩ :=
  SubSt.mk hf (Sub.of ⟨⟨_, rfl, x.ok⟩, ⟨_, rfl, ops_ok rfl (Nat.succ_pos _)⟩, ⟨_, rfl, box_ok rfl (by simp [ckM, spM])⟩, trivial⟩ (fun _ _ _ _ h => h) (fun _ _ => rfl) (by simp [ckM, spM]))

theorem ck_loop1 (x : FD) (o : OC) (G : Int) (len cap : Nat) (hk0 : spOK x len cap) (h12 : len ≤ 12) {Q : Ex × St → Prop} (HR : ∀ r : Nat, r ≠ 0 → Q (.ret, ckR x o cap r)) (HX : (∀ j, j < len → coP x o len j) → Q (.exit 0, ckS0 x o G len cap)) :
    AWp Try.prog (ckE x o G len cap) (.loop ckC1) (ckS1 x o G len cap 0) Q := by
  refine loop_free (ckS1 x o G len cap) (fun i => i ≤ len ∧ ∀ j, j < i → coP x o len j) (fun i => len - i) (fun i hi => ?_) 0 ⟨Nat.zero_le _, fun j hj => absurd hj (Nat.not_lt_zero _)⟩
  obtain ⟨h1, h2⟩ := hi
  refine code_sound (ckE_ok x o G len cap hk0 h12) _ (noLoops (by kernel_rfl)) _ _ (round_keep [1, 2, 30, 31] (T.cut_eq (ck_l1 x o G len cap i) ?_))
  refine T.hiteP (fun hi => ?_) (fun hi => T.hret ?_)
  · refine T.hneed ⟨rfl, rfl, rfl⟩ (T.hneed ⟨rfl, rfl⟩ (T.hchk (decide_eq_true (by omega)) (T.hall fun r => T.hasmP fun hr => T.hite (fun hn => T.hret ?_) (fun hn => T.hret ?_))))
    · exact Round.any .ret (ckR x o cap r) id (ck_ret x o cap r _ rfl) (HR r (by intro e; subst e; simp at hn))
    · have hn : r = 0 := by have := (by simpa using hn : (r : Int) = 0); omega
      have hw : IntKind.wrap IntKind.i64 ((i : Int) + 1) = ((i + 1 : Nat) : Int) := by rw [IntWalk.i64_in _ (by omega)]; omega
      rw [Int.toNat_natCast] at hr
      exact Round.go (i + 1) id ⟨by omega, fun j hj => by
        rcases Nat.lt_or_ge j i with h | h
        · exact h2 j h
        · have : j = i := by omega
          subst this
          rcases hr with hr | hr
          · exact absurd hn hr
          · exact hr⟩ (by omega) (ck_mem x o G len cap [] (by simp [ckS1, SubFr, slotAt, ren, below, hw])) any_ff
  · exact Round.any (.exit 0) (ckS0 x o G len cap) id (ck_mem x o G len cap [] (by simp [SubFr, slotAt, ren, below])) (HX fun j hj => h2 j (by omega))

theorem ck_loop2 (x : FD) (o : OC) (G : Int) (len cap : Nat) (hk0 : spOK x len cap) (h12 : len ≤ 12) {Q : Ex × St → Prop} (HR : ∀ r : Nat, r ≠ 0 → Q (.ret, ckR x o cap r)) (HX : (∀ j : Nat, j < len → o.kd j = 8 → (usL x len j).length = 0) → Q (.exit 2, ckS0 x o G len cap)) :
    AWp Try.prog (ckE x o G len cap) (.loop ckC2) (ckS2 x o G len cap 0) Q := by
  refine loop_free (ckS2 x o G len cap) (fun i => i ≤ len ∧ ∀ j : Nat, j < i → o.kd j = 8 → (usL x len j).length = 0) (fun i => len - i) (fun i hi => ?_) 0 ⟨Nat.zero_le _, fun j hj => absurd hj (Nat.not_lt_zero _)⟩
  obtain ⟨h1, h2⟩ := hi
  refine code_sound (ckE_ok x o G len cap hk0 h12) _ (noLoops (by kernel_rfl)) _ _ (round_keep [1, 2, 42, 43, 44] (T.cut_eq (ck_l2 x o G len cap i) ?_))
  have hl := hk0.2.1
  refine T.hiteP (fun hi => ?_) (fun hi => T.hret ?_)
  · have hw : IntKind.wrap IntKind.i64 ((i : Int) + 1) = ((i + 1 : Nat) : Int) := by rw [IntWalk.i64_in _ (by omega)]; omega
    have ei : 0 + Int.toNat (i : Int) = i := by omega
    have hi' : 0 + Int.toNat (i : Int) < cap := by omega
    refine T.hchk (by simp only [Bool.and_eq_true, decide_eq_true_eq]; omega) ?_
    iterate 8 refine T.hchk (decide_eq_true hi') ?_
    have bad : ∀ fr l, slotAt fr 2 = some (.int .i64 ((8 : Nat) : Int)) → Round (ckE x o G len cap) (ckS2 x o G len cap) (fun i => i ≤ len ∧ ∀ j : Nat, j < i → o.kd j = 8 → (usL x len j).length = 0) (fun i => len - i) (fun _ => .asm false .fail) Q i (.ret, ⟨fr, spM x o cap ++ l⟩) := fun fr l hs => Round.any .ret (ckR x o cap 8) id (ck_ret x o cap 8 l hs) (HR 8 (by decide))
    have go : ∀ l, (o.kd i = 8 → (usL x len i).length = 0) → Round (ckE x o G len cap) (ckS2 x o G len cap) (fun i => i ≤ len ∧ ∀ j : Nat, j < i → o.kd j = 8 → (usL x len j).length = 0) (fun i => len - i) (fun _ => .asm false .fail) Q i (.norm, ⟨[(1, .ptr 2 0 0 0), (42, .sl 1 0 8 0 len cap), (43, .int .i64 len), (44, .int .i64 (IntKind.wrap IntKind.i64 ((i : Int) + 1)))], ckM x o G len cap ++ l⟩) := fun l h =>
      Round.go (i + 1) id ⟨by omega, fun j hj => by
        rcases Nat.lt_or_ge j i with h' | h'
        · exact h2 j h'
        · have : j = i := by omega
          subst this
          exact h⟩ (by omega) (ck_mem x o G len cap l (by simp [ckS2, SubFr, slotAt, ren, below, hw])) any_ff
    refine T.hneed ⟨rfl, rfl, rfl⟩ (T.hneed ⟨rfl, rfl⟩ (T.hiteP (fun h3 => ?_) (fun h3 => ?_)))
    · exact T.hite (fun _ => T.hret (bad _ _ rfl)) (fun _ => T.hret (go _ fun _ => h3))
    · refine T.hall fun c => T.hasmP fun hc => T.hite (fun _ => T.hret (bad _ _ rfl)) (fun hn => T.hret (go _ fun hk => ?_))
      rw [ei, hk] at hn
      have : decide (((usL x len i).length : Int) > 0) = true := decide_eq_true (by omega)
      rw [this] at hn
      simp at hn
  · exact Round.any (.exit 2) (ckS0 x o G len cap) id (ck_mem x o G len cap [] (by simp [SubFr, slotAt, ren, below])) (HX fun j hj => h2 j (by omega))

theorem ck_loop3 (x : FD) (o : OC) (G : Int) (len cap : Nat) (hk0 : spOK x len cap) (h12 : len ≤ 12) (hP : ∀ j, j < len → coP x o len j) {Q : Ex × St → Prop} (HR : ∀ r : Nat, r ≠ 0 → Q (.ret, ckR x o cap r)) (HX : Q (.exit 4, ckS0 x o G len cap)) :
    AWp Try.prog (ckE x o G len cap) (.loop ckC3) (ckS3 x o G len cap 0) Q := by
  refine loop_free (ckS3 x o G len cap) (fun i => i ≤ len) (fun i => len - i) (fun i h1 => ?_) 0 (Nat.zero_le _)
  refine code_sound (ckE_ok x o G len cap hk0 h12) _ (noLoops (by kernel_rfl)) _ _ (round_keep [1, 2, 68, 69, 70] (T.cut_eq (ck_l3 x o G len cap i) ?_))
  have hl := hk0.2.1
  refine T.hiteP (fun hi => ?_) (fun hi => T.hret ?_)
  · have hw : IntKind.wrap IntKind.i64 ((i : Int) + 1) = ((i + 1 : Nat) : Int) := by rw [IntWalk.i64_in _ (by omega)]; omega
    have ei : 0 + Int.toNat (i : Int) = i := by omega
    have hi' : 0 + Int.toNat (i : Int) < cap := by omega
    refine T.hchk (by simp only [Bool.and_eq_true, decide_eq_true_eq]; omega) ?_
    iterate 8 refine T.hchk (decide_eq_true hi') ?_
    have go : ∀ l, Round (ckE x o G len cap) (ckS3 x o G len cap) (fun i => i ≤ len) (fun i => len - i) (fun _ => .asm false .fail) Q i (.norm, ⟨[(1, .ptr 2 0 0 0), (68, .sl 1 0 8 0 len cap), (69, .int .i64 len), (70, .int .i64 (IntKind.wrap IntKind.i64 ((i : Int) + 1)))], ckM x o G len cap ++ l⟩) := fun l =>
      Round.go (i + 1) id (by omega) (by omega) (ck_mem x o G len cap l (by simp [ckS3, SubFr, slotAt, ren, below, hw])) any_ff
    obtain ⟨p1, p2⟩ := hP i (by omega)
    have hle := hk0.1.le [i]
    refine T.hiteE (fun h7 => ?_) (fun h7 => T.hret (go _))
    rw [ei] at h7
    refine T.hite (fun hn => ?_) (fun hn => ?_)
    · exfalso
      rw [ei] at hn
      have := (hk0.1.nil _ hn).1
      omega
    · refine T.hneed ⟨rfl, rfl, rfl⟩ (T.hneed ⟨rfl, rfl⟩ (T.hneed ⟨IntRow.rows, rfl⟩ (T.hchk (decide_eq_true (by rw [ei]; omega)) (T.hall fun r => T.hiteP (fun hr => T.hret ?_) (fun hr => T.hret (go _))))))
      exact Round.any .ret (ckR x o cap 10) id (ck_ret x o cap 10 _ rfl) (HR 10 (by decide))
  · exact Round.any (.exit 4) (ckS0 x o G len cap) id (ck_mem x o G len cap [] (by simp [SubFr, slotAt, ren, below])) HX

theorem ck_j6 : ((chainOf ckF).drop 5).drop 1 = .block 0 (.loop ckC1) :: (chainOf ckF).drop 7 := by
  kernel_rfl

theorem ck_j8 : ((chainOf ckF).drop 7).drop 1 = .block 2 (.loop ckC2) :: (chainOf ckF).drop 9 := by
  kernel_rfl

theorem ck_j12 : ((chainOf ckF).drop 9).drop 3 = .block 4 (.loop ckC3) :: (chainOf ckF).drop 13 := by
  kernel_rfl

theorem ckE_nt (x : FD) (o : OC) (G : Int) (len cap : Nat) : (ckE x o G len cap).nt = (ckE0 2).nt := rfl

theorem ckE_n0 (x : FD) (o : OC) (G : Int) (len cap : Nat) : (ckE x o G len cap).n0 = (ckE0 2).n0 := rfl

theorem ck_p3 (x : FD) (o : OC) (G : Int) (len cap : Nat) (hk0 : spOK x len cap) (h12 : len ≤ 12) (hP : ∀ j, j < len → coP x o len j) {Q : Ex × St → Prop} (HR : ∀ r : Nat, r ≠ 0 → Q (.ret, ckR x o cap r)) (H0 : Q (.ret, ckR x o cap 0)) {C : List Code} (hC : C = (chainOf ckF).drop 9) :
    AWpL Try.prog (ckE x o G len cap) C (ckS0 x o G len cap) Q := by
  have e9 := ck_9 x o G len cap
  have e13 := ck_13 x o G len cap
  have j := ck_j12
  have hE := ckE_ok x o G len cap hk0 h12
  have hl3 : ∀ x' ∈ ((chainOf ckF).drop 9).take 3, ∀ c' ∈ loopsIn x', LoopOK Try.prog (ckE x o G len cap) c' := noLoopsL_ok (by kernel_rfl)
  have hl13 : ∀ x' ∈ (chainOf ckF).drop 13, ∀ c' ∈ loopsIn x', LoopOK Try.prog (ckE x o G len cap) c' := noLoopsL_ok (by kernel_rfl)
  have go : AWpL Try.prog (ckE x o G len cap) (.block 4 (.loop ckC3) :: (chainOf ckF).drop 13) (ckS3 x o G len cap 0) Q := by
    generalize (chainOf ckF).drop 13 = D at e13 hl13 ⊢
    refine awpl_block (awpl_one (ck_loop3 x o G len cap hk0 h12 hP (fun r hr => ?_) ?_))
    · exact HR r hr
    · show AWpL Try.prog (ckE x o G len cap) D (ckS0 x o G len cap) Q
      exact awpl_end hE hl13 (weak_keep [2] (T.cut_eq e13 (T.hret ⟨id, ckR x o cap 0, ck_ret x o cap 0 [some (boxS G len cap)] rfl, H0⟩)))
  rw [← j] at go
  rw [← hC] at e9 hl3 go
  refine awpl_cut hE 3 hl3 (weak_keep [1, 2, 68, 69, 70] (T.cut_eq e9 (T.hneed ⟨rfl, rfl, rfl⟩ (T.hneed ⟨rfl, rfl⟩ (T.hall fun k => T.hiteP (fun hk => ?_) (fun hk => ?_))))))
  · refine T.hneed rfl (T.hneed rfl (T.hite (fun _ => T.hret ⟨id, ckR x o cap 9, ck_ret x o cap 9 [some (boxS G len cap)] rfl, HR 9 (by decide)⟩) (fun _ => T.hret ⟨id, ckS3 x o G len cap 0, ?_, go⟩)))
    exact ck_mem x o G len cap [] (by simp [ckS3, SubFr, slotAt, ren, below])
  · refine T.hall fun n => T.hasmP fun hn => T.hall fun c => T.hasmP fun hc => T.hneed rfl (T.hneed rfl (T.hite (fun _ => T.hret ⟨id, ckR x o cap 9, ck_ret x o cap 9 [some (boxS G len cap), none] rfl, HR 9 (by decide)⟩) (fun _ => T.hret ⟨id, ckS3 x o G len cap 0, ?_, go⟩)))
    exact ck_mem x o G len cap [none] (by simp [ckS3, SubFr, slotAt, ren, below])

theorem ck_p2 (x : FD) (o : OC) (G : Int) (len cap : Nat) (hk0 : spOK x len cap) (h12 : len ≤ 12) (hP : ∀ j, j < len → coP x o len j) {Q : Ex × St → Prop} (HR : ∀ r : Nat, r ≠ 0 → Q (.ret, ckR x o cap r)) (H0 : (∀ j : Nat, j < len → o.kd j = 8 → (usL x len j).length = 0) → Q (.ret, ckR x o cap 0)) {C : List Code} (hC : C = (chainOf ckF).drop 7) :
    AWpL Try.prog (ckE x o G len cap) C (ckS0 x o G len cap) Q := by
  have e7 := ck_7 x o G len cap
  have j := ck_j8
  have hE := ckE_ok x o G len cap hk0 h12
  have hl1 : ∀ x' ∈ ((chainOf ckF).drop 7).take 1, ∀ c' ∈ loopsIn x', LoopOK Try.prog (ckE x o G len cap) c' := noLoopsL_ok (by kernel_rfl)
  have go : AWpL Try.prog (ckE x o G len cap) (.block 2 (.loop ckC2) :: (chainOf ckF).drop 9) (ckS2 x o G len cap 0) Q := by
    generalize hD : (chainOf ckF).drop 9 = D
    refine awpl_block (awpl_one (ck_loop2 x o G len cap hk0 h12 (fun r hr => ?_) fun hu => ?_))
    · exact HR r hr
    · show AWpL Try.prog (ckE x o G len cap) D (ckS0 x o G len cap) Q
      exact ck_p3 x o G len cap hk0 h12 hP HR (H0 hu) hD.symm
  rw [← j] at go
  rw [← hC] at e7 hl1 go
  refine awpl_cut hE 1 hl1 (weak_keep [1, 42, 43, 44] (T.cut_eq e7 (T.hret ⟨id, ckS2 x o G len cap 0, ck_mem x o G len cap [] (by simp [ckS2, SubFr, slotAt, ren, below]), go⟩)))

theorem ck_p1 (x : FD) (o : OC) (G : Int) (len cap : Nat) (hk0 : spOK x len cap) (h12 : len ≤ 12) {Q : Ex × St → Prop} (HR : ∀ r : Nat, r ≠ 0 → Q (.ret, ckR x o cap r)) (H0 : (∀ j : Nat, j < len → o.kd j = 8 → (usL x len j).length = 0) → Q (.ret, ckR x o cap 0)) {C : List Code} (hC : C = (chainOf ckF).drop 5) :
    AWpL Try.prog (ckE x o G len cap) C (ckS0 x o G len cap) Q := by
  have e5 := ck_5 x o G len cap
  have j := ck_j6
  have hE := ckE_ok x o G len cap hk0 h12
  have hl1 : ∀ x' ∈ ((chainOf ckF).drop 5).take 1, ∀ c' ∈ loopsIn x', LoopOK Try.prog (ckE x o G len cap) c' := noLoopsL_ok (by kernel_rfl)
  have go : AWpL Try.prog (ckE x o G len cap) (.block 0 (.loop ckC1) :: (chainOf ckF).drop 7) (ckS1 x o G len cap 0) Q := by
    generalize hD : (chainOf ckF).drop 7 = D
    refine awpl_block (awpl_one (ck_loop1 x o G len cap hk0 h12 (fun r hr => ?_) fun hp => ?_))
    · exact HR r hr
    · show AWpL Try.prog (ckE x o G len cap) D (ckS0 x o G len cap) Q
      exact ck_p2 x o G len cap hk0 h12 hp HR H0 hD.symm
  rw [← j] at go
  rw [← hC] at e5 hl1 go
  refine awpl_cut hE 1 hl1 (weak_keep [1, 30, 31] (T.cut_eq e5 (T.hret ⟨id, ckS1 x o G len cap 0, ck_mem x o G len cap [] (by simp [ckS1, SubFr, slotAt, ren, below]), go⟩)))

theorem ck_eff (x : FD) (o : OC) (G : Int) (len cap : Nat) (hw : x.wf .i64) (hl : len ≤ cap) :
    EffAt Try.prog 22 [spA G len cap] (spM x o cap) (ckT x o G len cap) := by
  refine fn_okA (E := ckE0 2) (c := ckF) Try.func22 rfl rfl rfl (Nat.le_of_ble_eq_true (by kernel_rfl)) fun Q hq => ?_
  have e0 := ck_0 x o G len cap
  have hl0 : ∀ x' ∈ (chainOf ckF).take 5, ∀ c' ∈ loopsIn x', LoopOK Try.prog (ckE0 2) c' := noLoopsL_ok (by kernel_rfl)
  have R : ∀ r : Nat, (r ≠ 0 ∨ ckP x o G len) → FnPost Try.prog Try.f22 2 Q (.ret, ckR x o cap r) := fun r hr => by
    unfold FnPost
    rw [ck_res]
    exact ⟨id, .int .i64 r, _, hq r (decide_eq_true hr), by simp [oneOf, ren], by simp [below], by have := spM_sub x o cap (n := 2) (l := []) (Nat.le_refl _); rwa [List.append_nil] at this⟩
  have go : 1 ≤ G ∧ G ≤ 64 → 1 ≤ len ∧ len ≤ 12 → AWpL Try.prog (ckE0 2) ((chainOf ckF).drop 5) (ckS0 x o G len cap) (FnPost Try.prog Try.f22 2 Q) := fun h1 h2 => by
    have hk0 : spOK x len cap := ⟨hw, hl, by omega, fun r hr => Nat.le_trans (hw.le [r]) (hw.max [r])⟩
    exact AWpL.env' (ckE_nt x o G len cap) (ckE_n0 x o G len cap) (ck_p1 x o G len cap hk0 h2.2 (fun r hr => R r (.inl hr)) (fun hu => R 0 (.inr ⟨h1, h2, hu⟩)) rfl)
  generalize chainOf ckF = C at e0 hl0 go ⊢
  refine awpl_cut (E := ckE0 2) EnvOK.nil 5 hl0 (weak_keep [1, 2] (T.cut_eq e0 ?_))
  have bad : ∀ (r : Nat) fr {K : St → Prop}, r ≠ 0 → slotAt fr 2 = some (.int .i64 r) → Weak (ckE0 2) (Then (FnPost Try.prog Try.f22 2 Q) K) (.ret, ⟨fr, spM x o cap ++ [some (boxS G len cap)]⟩) := fun r fr K hr hs => ⟨id, ckR x o cap r, ck_ret x o cap r _ hs, R r (.inl hr)⟩
  refine T.hiteP (fun g1 => T.hret (bad 1 _ (by decide) rfl)) (fun g1 => T.hiteP (fun g2 => T.hret (bad 1 _ (by decide) rfl)) (fun g2 => T.hiteP (fun g3 => T.hret (bad 3 _ (by decide) rfl)) (fun g3 => T.hiteP (fun g4 => T.hret (bad 3 _ (by decide) rfl)) (fun g4 => T.hret ⟨id, ckS0 x o G len cap, ck_mem x o G len cap [] (by simp [SubFr, slotAt, ren, below]), go (by omega) (by omega)⟩))))

theorem ck_effN (G : Int) : EffAt Try.prog 22 [.agg [.int .i64 G, .nils]] [] (.all fun r => .asm (decide (r ≠ 0)) (.ret (.int .i64 r, []))) := by
  refine fn_ok (E := ckE0 0) (c := codeOf Try.f22) Try.func22 rfl EnvOK.nil (fun c' _ st Q h => h.elim) rfl rfl fun Q hq => T.cut_eq (ck_n G) ?_
  have fin : ∀ (r : Nat) l, r ≠ 0 → Leaf 0 Q (.int .i64 r, l) := fun r l h => ⟨id, .int .i64 r, _, hq r (decide_eq_true h), by simp [ren], by simp [below], Sub.nil _ _⟩
  exact T.hite (fun _ => T.hret (fin 1 _ (by decide))) (fun _ => T.hite (fun _ => T.hret (fin 1 _ (by decide))) (fun _ => T.hchkT (T.hret (fin 3 _ (by decide)))))

noncomputable def ckS (x : FD) (o : OC) (G : Int) (len cap : Nat) : List AV → AM → T (AV × AM)
  | [.agg [.int .i64 G', .sl 1 0 8 0 len' cap']], m => .need (G' = G ∧ len' = len ∧ cap' = cap) (.need (spIn x o cap m) (lift [0, 1] m (spM x o cap) (ckT x o G len cap)))
  | _, _ => .fail

theorem ckS_ok (x : FD) (o : OC) (G : Int) (len cap : Nat) (hw : x.wf .i64) (hl : len ≤ cap) : SummOK Try.prog 22 (.eff (ckS x o G len cap)) := by
  refine ⟨fun args w => Try.call22 args w, ?_⟩
  intro args m Q hq
  unfold ckS at hq
  split at hq
  · rename_i G' len' cap'
    obtain ⟨⟨rfl, rfl, rfl⟩, ⟨m0, m1⟩, hq⟩ := hq
    have hsub : SubBlks 2 (Ox.out [0, 1] m.length) m 0 (spM x o cap') := ⟨⟨_, m0, x.ok⟩, ⟨_, m1, ops_ok rfl (Nat.succ_pos _)⟩, trivial⟩
    refine lift_ok (ck_eff x o G' len' cap' hw hl) [0, 1] rfl (by simp [AM.get_lt m0, AM.get_lt m1]) (Sub.ro hsub (spIn_ro (l := []) (fun _ _ h => by cases h))) (by simp [belowL, below, spA, spM, AV.scalar]) (by simp [renL, ren, spA, Ox.out]) Q hq
  · exact hq.elim

def ckN : List AV → T AV
  | [.agg [.int .i64 G, .nils]] => .all fun r => .asm (decide (r ≠ 0)) (.ret (.int .i64 r))
  | _ => .fail

theorem ckN_ok : SummOK Try.prog 22 (.pure fun args _ => ckN args) := by
  refine pure_ok (fun args w => Try.call22 args w) fun args Q hq => ?_
  unfold ckN at hq ⊢
  split at hq
  · rename_i G
    exact ⟨by simp [plainL, plain, AV.scalar], fun r h => by simp [plain, T.holds], ck_effN G⟩
  · exact hq.elim

end Go.Proofs.Ytnfngaapjodpcaa
