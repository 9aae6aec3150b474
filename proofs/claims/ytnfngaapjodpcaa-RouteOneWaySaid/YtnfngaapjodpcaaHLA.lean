/-
  Layer 20: Alike: trees.
-/
import Derived.Test.YtnfngaapjodpcaaHRC
namespace Go.Proofs.Ytnfngaapjodpcaa
open Go.Ox
set_option maxRecDepth 100000
set_option maxHeartbeats 4000000
set_option linter.unusedVariables false
set_option linter.unusedSimpArgs false

noncomputable def akF : Code := codeOf Try.f5

noncomputable def akB1 (x : FD) (o : OC) (G : Int) (len cap : Nat) : List (Nat × Summ) := [(8, .eff (rgS x o G len cap)), (9, .pure yesS)]

noncomputable def akE1 (x : FD) (o : OC) (G : Int) (len cap : Nat) : Env := { nt := Try.f5.ntmps, n0 := 3, vec := true, fns := openAll (akB1 x o G len cap), loop := fun _ _ => .fail }

theorem akE1_ok (x : FD) (o : OC) (G : Int) (len cap : Nat) (hw : x.wf .i64) (hl : len ≤ cap) : EnvOK Try.prog (akE1 x o G len cap).fns := EnvOK.open_ (EnvOK.cons (rgS_ok x o G len cap hw hl) (EnvOK.cons wk_ok EnvOK.nil))

noncomputable def akB2 (x : FD) (o : OC) (G : Int) (len cap : Nat) : List (Nat × Summ) := [(12, .eff (tgS x o G len cap)), (9, .pure yesS)]

noncomputable def akE2 (x : FD) (o : OC) (G : Int) (len cap : Nat) : Env := { nt := Try.f5.ntmps, n0 := 3, vec := true, fns := openAll (akB2 x o G len cap), loop := fun _ _ => .fail }

theorem akE2_ok (x : FD) (o : OC) (G : Int) (len cap : Nat) (hk0 : spOK x len cap) : EnvOK Try.prog (akE2 x o G len cap).fns := EnvOK.open_ (EnvOK.cons (tgS_ok x o G len cap hk0) (EnvOK.cons wk_ok EnvOK.nil))

noncomputable def akC : Code := loopAt akF 0

noncomputable def akB : Code := inBlk ((chainOf akC).getD 2 .skip)

noncomputable def akD : Code := loopAt akB 0

def akS0 (x : FD) (o : OC) (G key op op2 : Int) (len cap : Nat) (pr : Nat → Int) (np pc : Nat) : St := ⟨[(1, .sl 2 0 1 0 np pc), (2, .int .i64 op), (3, .int .i64 op2), (4, .int .i64 key), (5, .ptr 3 0 0 0)], tgM x o cap pr pc ++ [some (boxS G len cap)]⟩

def akM1 (x : FD) (o : OC) (cap : Nat) (pr : Nat → Int) (pc : Nat) (u U : Nat → Int) (un c : Nat) : AM := tgM x o cap pr pc ++ [some (ap2 u U un c)]

def akM2 (x : FD) (o : OC) (cap : Nat) (pr : Nat → Int) (pc : Nat) (u U : Nat → Int) (un c : Nat) (v V : Nat → Int) (vn d : Nat) : AM := tgM x o cap pr pc ++ [some (ap2 u U un c), some (ap2 v V vn d)]

def akO1 (x : FD) (o : OC) (cap : Nat) (pr : Nat → Int) (np pc : Nat) (u U : Nat → Int) (un c i : Nat) : St := ⟨[(1, .sl 2 0 1 0 np pc), (11, .sl 3 0 2 0 un c), (12, .nils), (13, .int .i64 i)], akM1 x o cap pr pc u U un c⟩

def akO2 (x : FD) (o : OC) (cap : Nat) (pr : Nat → Int) (np pc : Nat) (u U : Nat → Int) (un c : Nat) (v V : Nat → Int) (vn d i : Nat) : St := ⟨[(1, .sl 2 0 1 0 np pc), (11, .sl 3 0 2 0 un c), (12, .sl 4 0 2 0 vn d), (13, .int .i64 i)], akM2 x o cap pr pc u U un c v V vn d⟩

def akI2 (x : FD) (o : OC) (cap : Nat) (pr : Nat → Int) (np pc : Nat) (u U : Nat → Int) (un c : Nat) (v V : Nat → Int) (vn d i k : Nat) : St := ⟨[(1, .sl 2 0 1 0 np pc), (11, .sl 3 0 2 0 un c), (12, .sl 4 0 2 0 vn d), (13, .int .i64 i), (14, .int .i64 k)], akM2 x o cap pr pc u U un c v V vn d⟩

theorem ak_a (x : FD) (o : OC) (G key op op2 : Int) (len cap : Nat) (pr : Nat → Int) (np pc : Nat) : T.cut (keepT [1, 2, 3, 4, 5, 10] (acodeL Try.prog (akE1 x o G len cap) ((chainOf akF).take 3) ⟨[(0, spA G len cap), (1, .sl 2 0 1 0 np pc), (2, .int .i64 op), (3, .int .i64 op2), (4, .int .i64 key)], tgM x o cap pr pc⟩)) [2, 0, 2, 0] = 
  T.need (G = G ∧ len = len ∧ cap = cap)
    (T.need
      (spIn x o cap
        [some (Blk.mk false [] (0 : Nat) (0 : Nat) (fun x => []) [] (some fun js => Mem.mk (FD.nl x js) (FD.ad x js) (FD.ln x js) (FD.cp x js) (1 : Nat) fun q => [AV.int IntKind.i64 (FD.z x (q :: js))])),
          some (Blk.mk false [] (8 : Nat) cap (fun r => [AV.int IntKind.i64 (OC.kd o r), AV.part (0 : Nat) [r], AV.int IntKind.i64 (OC.fo o r), AV.int IntKind.i64 (OC.fa o r), AV.int IntKind.i64 (OC.fb o r), AV.int IntKind.i64 (OC.pa o r), AV.int IntKind.i64 (OC.ra o r), AV.int IntKind.i64 (OC.co o r)]) [] none), some (Blk.mk false [] (1 : Nat) pc (fun a => [AV.int IntKind.i64 (pr a)]) [] none),
          some (Blk.mk true [AV.int IntKind.i64 G, AV.sl (1 : Nat) (0 : Nat) (8 : Nat) (0 : Nat) len cap] (0 : Nat) (0 : Nat) (fun x => []) [] none)])
      (T.need (IntRow IntKind.i64 (Blk.mk false [] (1 : Nat) pc (fun a => [AV.int IntKind.i64 (pr a)]) [] none) ∧ pc = pc ∧ np ≤ pc)
        (T.all fun c =>
          T.asm (decide (c ≠ (0 : Nat) ∨ rgP x o G op len pr np))
            (T.ite (!decide (c = (0 : Nat)))
              (T.ret
                (Ex.ret,
                  St.mk [((1 : Nat), AV.sl (2 : Nat) (0 : Nat) (1 : Nat) (0 : Nat) np pc), ((2 : Nat), AV.int IntKind.i64 op), ((3 : Nat), AV.int IntKind.i64 op2), ((4 : Nat), AV.int IntKind.i64 key), ((5 : Nat), AV.ptr (3 : Nat) (0 : Nat) (0 : Nat) (0 : Nat)), ((10 : Nat), AV.bool true)]
                    [some (Blk.mk false [] (0 : Nat) (0 : Nat) (fun x => []) [] (some fun js => Mem.mk (FD.nl x js) (FD.ad x js) (FD.ln x js) (FD.cp x js) (1 : Nat) fun q => [AV.int IntKind.i64 (FD.z x (q :: js))])),
                      some (Blk.mk false [] (8 : Nat) cap (fun r => [AV.int IntKind.i64 (OC.kd o r), AV.part (0 : Nat) [r], AV.int IntKind.i64 (OC.fo o r), AV.int IntKind.i64 (OC.fa o r), AV.int IntKind.i64 (OC.fb o r), AV.int IntKind.i64 (OC.pa o r), AV.int IntKind.i64 (OC.ra o r), AV.int IntKind.i64 (OC.co o r)]) [] none),
                      some (Blk.mk false [] (1 : Nat) pc (fun a => [AV.int IntKind.i64 (pr a)]) [] none), some (Blk.mk true [AV.int IntKind.i64 G, AV.sl (1 : Nat) (0 : Nat) (8 : Nat) (0 : Nat) len cap] (0 : Nat) (0 : Nat) (fun x => []) [] none)]))
              (T.need (G = G ∧ len = len ∧ cap = cap)
                (T.need
                  (spIn x o cap
                    [some (Blk.mk false [] (0 : Nat) (0 : Nat) (fun x => []) [] (some fun js => Mem.mk (FD.nl x js) (FD.ad x js) (FD.ln x js) (FD.cp x js) (1 : Nat) fun q => [AV.int IntKind.i64 (FD.z x (q :: js))])),
                      some (Blk.mk false [] (8 : Nat) cap (fun r => [AV.int IntKind.i64 (OC.kd o r), AV.part (0 : Nat) [r], AV.int IntKind.i64 (OC.fo o r), AV.int IntKind.i64 (OC.fa o r), AV.int IntKind.i64 (OC.fb o r), AV.int IntKind.i64 (OC.pa o r), AV.int IntKind.i64 (OC.ra o r), AV.int IntKind.i64 (OC.co o r)]) [] none),
                      some (Blk.mk false [] (1 : Nat) pc (fun a => [AV.int IntKind.i64 (pr a)]) [] none), some (Blk.mk true [AV.int IntKind.i64 G, AV.sl (1 : Nat) (0 : Nat) (8 : Nat) (0 : Nat) len cap] (0 : Nat) (0 : Nat) (fun x => []) [] none)])
                  (T.need (IntRow IntKind.i64 (Blk.mk false [] (1 : Nat) pc (fun a => [AV.int IntKind.i64 (pr a)]) [] none) ∧ pc = pc ∧ np ≤ pc)
                    (T.all fun c =>
                      T.asm (decide (c ≠ (0 : Nat) ∨ rgP x o G op2 len pr np))
                        (T.ite (!decide (c = (0 : Nat)))
                          (T.ret
                            (Ex.ret,
                              St.mk [((1 : Nat), AV.sl (2 : Nat) (0 : Nat) (1 : Nat) (0 : Nat) np pc), ((2 : Nat), AV.int IntKind.i64 op), ((3 : Nat), AV.int IntKind.i64 op2), ((4 : Nat), AV.int IntKind.i64 key), ((5 : Nat), AV.ptr (3 : Nat) (0 : Nat) (0 : Nat) (0 : Nat)), ((10 : Nat), AV.bool true)]
                                [some (Blk.mk false [] (0 : Nat) (0 : Nat) (fun x => []) [] (some fun js => Mem.mk (FD.nl x js) (FD.ad x js) (FD.ln x js) (FD.cp x js) (1 : Nat) fun q => [AV.int IntKind.i64 (FD.z x (q :: js))])),
                                  some (Blk.mk false [] (8 : Nat) cap (fun r => [AV.int IntKind.i64 (OC.kd o r), AV.part (0 : Nat) [r], AV.int IntKind.i64 (OC.fo o r), AV.int IntKind.i64 (OC.fa o r), AV.int IntKind.i64 (OC.fb o r), AV.int IntKind.i64 (OC.pa o r), AV.int IntKind.i64 (OC.ra o r), AV.int IntKind.i64 (OC.co o r)]) [] none),
                                  some (Blk.mk false [] (1 : Nat) pc (fun a => [AV.int IntKind.i64 (pr a)]) [] none), some (Blk.mk true [AV.int IntKind.i64 G, AV.sl (1 : Nat) (0 : Nat) (8 : Nat) (0 : Nat) len cap] (0 : Nat) (0 : Nat) (fun x => []) [] none)]))
                          (T.ret
                            (Ex.norm,
                              St.mk [((1 : Nat), AV.sl (2 : Nat) (0 : Nat) (1 : Nat) (0 : Nat) np pc), ((2 : Nat), AV.int IntKind.i64 op), ((3 : Nat), AV.int IntKind.i64 op2), ((4 : Nat), AV.int IntKind.i64 key), ((5 : Nat), AV.ptr (3 : Nat) (0 : Nat) (0 : Nat) (0 : Nat)), ((10 : Nat), AV.ff)]
                                [some (Blk.mk false [] (0 : Nat) (0 : Nat) (fun x => []) [] (some fun js => Mem.mk (FD.nl x js) (FD.ad x js) (FD.ln x js) (FD.cp x js) (1 : Nat) fun q => [AV.int IntKind.i64 (FD.z x (q :: js))])),
                                  some (Blk.mk false [] (8 : Nat) cap (fun r => [AV.int IntKind.i64 (OC.kd o r), AV.part (0 : Nat) [r], AV.int IntKind.i64 (OC.fo o r), AV.int IntKind.i64 (OC.fa o r), AV.int IntKind.i64 (OC.fb o r), AV.int IntKind.i64 (OC.pa o r), AV.int IntKind.i64 (OC.ra o r), AV.int IntKind.i64 (OC.co o r)]) [] none),
                                  some (Blk.mk false [] (1 : Nat) pc (fun a => [AV.int IntKind.i64 (pr a)]) [] none), some (Blk.mk true [AV.int IntKind.i64 G, AV.sl (1 : Nat) (0 : Nat) (8 : Nat) (0 : Nat) len cap] (0 : Nat) (0 : Nat) (fun x => []) [] none)]))))))))))) := by
  kernel_rfl

theorem ak_b (x : FD) (o : OC) (G key op op2 : Int) (len cap : Nat) (pr : Nat → Int) (np pc : Nat) : T.cut (keepT [1, 11, 12, 13] (acodeL Try.prog (akE2 x o G len cap) (((chainOf akF).drop 3).take 3) (akS0 x o G key op op2 len cap pr np pc))) [2, 2, 2, 0, 2, 0] = 
  T.need (G = G ∧ len = len ∧ cap = cap)
    (T.need
      (spIn x o cap
        [some (Blk.mk false [] (0 : Nat) (0 : Nat) (fun x => []) [] (some fun js => Mem.mk (FD.nl x js) (FD.ad x js) (FD.ln x js) (FD.cp x js) (1 : Nat) fun q => [AV.int IntKind.i64 (FD.z x (q :: js))])),
          some (Blk.mk false [] (8 : Nat) cap (fun r => [AV.int IntKind.i64 (OC.kd o r), AV.part (0 : Nat) [r], AV.int IntKind.i64 (OC.fo o r), AV.int IntKind.i64 (OC.fa o r), AV.int IntKind.i64 (OC.fb o r), AV.int IntKind.i64 (OC.pa o r), AV.int IntKind.i64 (OC.ra o r), AV.int IntKind.i64 (OC.co o r)]) [] none), some (Blk.mk false [] (1 : Nat) pc (fun a => [AV.int IntKind.i64 (pr a)]) [] none),
          some (Blk.mk true [AV.int IntKind.i64 G, AV.sl (1 : Nat) (0 : Nat) (8 : Nat) (0 : Nat) len cap] (0 : Nat) (0 : Nat) (fun x => []) [] none)])
      (T.need (IntRow IntKind.i64 (Blk.mk false [] (1 : Nat) pc (fun a => [AV.int IntKind.i64 (pr a)]) [] none) ∧ pc = pc ∧ np ≤ pc ∧ (2 : Nat) ≠ (0 : Nat) ∧ (2 : Nat) ≠ (1 : Nat))
        (T.need (tgU np (usG x len op) (List.length (usL x len op)))
          (T.ite (decide (List.length (usL x len op) = (0 : Nat)))
            (T.need (G = G ∧ len = len ∧ cap = cap)
              (T.need
                (spIn x o cap
                  [some (Blk.mk false [] (0 : Nat) (0 : Nat) (fun x => []) [] (some fun js => Mem.mk (FD.nl x js) (FD.ad x js) (FD.ln x js) (FD.cp x js) (1 : Nat) fun q => [AV.int IntKind.i64 (FD.z x (q :: js))])),
                    some (Blk.mk false [] (8 : Nat) cap (fun r => [AV.int IntKind.i64 (OC.kd o r), AV.part (0 : Nat) [r], AV.int IntKind.i64 (OC.fo o r), AV.int IntKind.i64 (OC.fa o r), AV.int IntKind.i64 (OC.fb o r), AV.int IntKind.i64 (OC.pa o r), AV.int IntKind.i64 (OC.ra o r), AV.int IntKind.i64 (OC.co o r)]) [] none),
                    some (Blk.mk false [] (1 : Nat) pc (fun a => [AV.int IntKind.i64 (pr a)]) [] none), some (Blk.mk true [AV.int IntKind.i64 G, AV.sl (1 : Nat) (0 : Nat) (8 : Nat) (0 : Nat) len cap] (0 : Nat) (0 : Nat) (fun x => []) [] none)])
                (T.need (IntRow IntKind.i64 (Blk.mk false [] (1 : Nat) pc (fun a => [AV.int IntKind.i64 (pr a)]) [] none) ∧ pc = pc ∧ np ≤ pc ∧ (2 : Nat) ≠ (0 : Nat) ∧ (2 : Nat) ≠ (1 : Nat))
                  (T.need (tgU np (usG x len op2) (List.length (usL x len op2)))
                    (T.ite (decide (List.length (usL x len op2) = (0 : Nat)))
                      (T.ret
                        (Ex.norm,
                          St.mk [((1 : Nat), AV.sl (2 : Nat) (0 : Nat) (1 : Nat) (0 : Nat) np pc), ((11 : Nat), AV.nils), ((12 : Nat), AV.nils), ((13 : Nat), AV.int IntKind.i64 (0 : Int))]
                            [some (Blk.mk false [] (0 : Nat) (0 : Nat) (fun x => []) [] (some fun js => Mem.mk (FD.nl x js) (FD.ad x js) (FD.ln x js) (FD.cp x js) (1 : Nat) fun q => [AV.int IntKind.i64 (FD.z x (q :: js))])),
                              some (Blk.mk false [] (8 : Nat) cap (fun r => [AV.int IntKind.i64 (OC.kd o r), AV.part (0 : Nat) [r], AV.int IntKind.i64 (OC.fo o r), AV.int IntKind.i64 (OC.fa o r), AV.int IntKind.i64 (OC.fb o r), AV.int IntKind.i64 (OC.pa o r), AV.int IntKind.i64 (OC.ra o r), AV.int IntKind.i64 (OC.co o r)]) [] none),
                              some (Blk.mk false [] (1 : Nat) pc (fun a => [AV.int IntKind.i64 (pr a)]) [] none), some (Blk.mk true [AV.int IntKind.i64 G, AV.sl (1 : Nat) (0 : Nat) (8 : Nat) (0 : Nat) len cap] (0 : Nat) (0 : Nat) (fun x => []) [] none)]))
                      (T.all fun c =>
                        T.asm (decide (List.length (usL x len op2) ≤ c))
                          (T.ret
                            (Ex.norm,
                              St.mk [((1 : Nat), AV.sl (2 : Nat) (0 : Nat) (1 : Nat) (0 : Nat) np pc), ((11 : Nat), AV.nils), ((12 : Nat), AV.sl (4 : Nat) (0 : Nat) (2 : Nat) (0 : Nat) (List.length (usL x len op2)) c), ((13 : Nat), AV.int IntKind.i64 (0 : Int))]
                                [some (Blk.mk false [] (0 : Nat) (0 : Nat) (fun x => []) [] (some fun js => Mem.mk (FD.nl x js) (FD.ad x js) (FD.ln x js) (FD.cp x js) (1 : Nat) fun q => [AV.int IntKind.i64 (FD.z x (q :: js))])),
                                  some (Blk.mk false [] (8 : Nat) cap (fun r => [AV.int IntKind.i64 (OC.kd o r), AV.part (0 : Nat) [r], AV.int IntKind.i64 (OC.fo o r), AV.int IntKind.i64 (OC.fa o r), AV.int IntKind.i64 (OC.fb o r), AV.int IntKind.i64 (OC.pa o r), AV.int IntKind.i64 (OC.ra o r), AV.int IntKind.i64 (OC.co o r)]) [] none),
                                  some (Blk.mk false [] (1 : Nat) pc (fun a => [AV.int IntKind.i64 (pr a)]) [] none), some (Blk.mk true [AV.int IntKind.i64 G, AV.sl (1 : Nat) (0 : Nat) (8 : Nat) (0 : Nat) len cap] (0 : Nat) (0 : Nat) (fun x => []) [] none),
                                  some (Blk.mk true [] (2 : Nat) c (fun j => [AV.int IntKind.i64 (if j < List.length (usL x len op2) then usG x len op2 j else (0 : Int)), AV.int IntKind.i64 (if j < List.length (usL x len op2) then owAt G key pr (usG x len op2) j else (0 : Int))]) [] none)]))))))))
            (T.all fun c =>
              T.asm (decide (List.length (usL x len op) ≤ c))
                (T.need (G = G ∧ len = len ∧ cap = cap)
                  (T.need
                    (spIn x o cap
                      [some (Blk.mk false [] (0 : Nat) (0 : Nat) (fun x => []) [] (some fun js => Mem.mk (FD.nl x js) (FD.ad x js) (FD.ln x js) (FD.cp x js) (1 : Nat) fun q => [AV.int IntKind.i64 (FD.z x (q :: js))])),
                        some (Blk.mk false [] (8 : Nat) cap (fun r => [AV.int IntKind.i64 (OC.kd o r), AV.part (0 : Nat) [r], AV.int IntKind.i64 (OC.fo o r), AV.int IntKind.i64 (OC.fa o r), AV.int IntKind.i64 (OC.fb o r), AV.int IntKind.i64 (OC.pa o r), AV.int IntKind.i64 (OC.ra o r), AV.int IntKind.i64 (OC.co o r)]) [] none),
                        some (Blk.mk false [] (1 : Nat) pc (fun a => [AV.int IntKind.i64 (pr a)]) [] none), some (Blk.mk true [AV.int IntKind.i64 G, AV.sl (1 : Nat) (0 : Nat) (8 : Nat) (0 : Nat) len cap] (0 : Nat) (0 : Nat) (fun x => []) [] none),
                        some (Blk.mk true [] (2 : Nat) c (fun j => [AV.int IntKind.i64 (if j < List.length (usL x len op) then usG x len op j else (0 : Int)), AV.int IntKind.i64 (if j < List.length (usL x len op) then owAt G key pr (usG x len op) j else (0 : Int))]) [] none)])
                    (T.need (IntRow IntKind.i64 (Blk.mk false [] (1 : Nat) pc (fun a => [AV.int IntKind.i64 (pr a)]) [] none) ∧ pc = pc ∧ np ≤ pc ∧ (2 : Nat) ≠ (0 : Nat) ∧ (2 : Nat) ≠ (1 : Nat))
                      (T.need (tgU np (usG x len op2) (List.length (usL x len op2)))
                        (T.ite (decide (List.length (usL x len op2) = (0 : Nat)))
                          (T.ret
                            (Ex.norm,
                              St.mk [((1 : Nat), AV.sl (2 : Nat) (0 : Nat) (1 : Nat) (0 : Nat) np pc), ((11 : Nat), AV.sl (4 : Nat) (0 : Nat) (2 : Nat) (0 : Nat) (List.length (usL x len op)) c), ((12 : Nat), AV.nils), ((13 : Nat), AV.int IntKind.i64 (0 : Int))]
                                [some (Blk.mk false [] (0 : Nat) (0 : Nat) (fun x => []) [] (some fun js => Mem.mk (FD.nl x js) (FD.ad x js) (FD.ln x js) (FD.cp x js) (1 : Nat) fun q => [AV.int IntKind.i64 (FD.z x (q :: js))])),
                                  some (Blk.mk false [] (8 : Nat) cap (fun r => [AV.int IntKind.i64 (OC.kd o r), AV.part (0 : Nat) [r], AV.int IntKind.i64 (OC.fo o r), AV.int IntKind.i64 (OC.fa o r), AV.int IntKind.i64 (OC.fb o r), AV.int IntKind.i64 (OC.pa o r), AV.int IntKind.i64 (OC.ra o r), AV.int IntKind.i64 (OC.co o r)]) [] none),
                                  some (Blk.mk false [] (1 : Nat) pc (fun a => [AV.int IntKind.i64 (pr a)]) [] none), some (Blk.mk true [AV.int IntKind.i64 G, AV.sl (1 : Nat) (0 : Nat) (8 : Nat) (0 : Nat) len cap] (0 : Nat) (0 : Nat) (fun x => []) [] none),
                                  some (Blk.mk true [] (2 : Nat) c (fun j => [AV.int IntKind.i64 (if j < List.length (usL x len op) then usG x len op j else (0 : Int)), AV.int IntKind.i64 (if j < List.length (usL x len op) then owAt G key pr (usG x len op) j else (0 : Int))]) [] none)]))
                          (T.all fun c_1 =>
                            T.asm (decide (List.length (usL x len op2) ≤ c_1))
                              (T.ret
                                (Ex.norm,
                                  St.mk [((1 : Nat), AV.sl (2 : Nat) (0 : Nat) (1 : Nat) (0 : Nat) np pc), ((11 : Nat), AV.sl (4 : Nat) (0 : Nat) (2 : Nat) (0 : Nat) (List.length (usL x len op)) c), ((12 : Nat), AV.sl (5 : Nat) (0 : Nat) (2 : Nat) (0 : Nat) (List.length (usL x len op2)) c_1), ((13 : Nat), AV.int IntKind.i64 (0 : Int))]
                                    [some (Blk.mk false [] (0 : Nat) (0 : Nat) (fun x => []) [] (some fun js => Mem.mk (FD.nl x js) (FD.ad x js) (FD.ln x js) (FD.cp x js) (1 : Nat) fun q => [AV.int IntKind.i64 (FD.z x (q :: js))])),
                                      some (Blk.mk false [] (8 : Nat) cap (fun r => [AV.int IntKind.i64 (OC.kd o r), AV.part (0 : Nat) [r], AV.int IntKind.i64 (OC.fo o r), AV.int IntKind.i64 (OC.fa o r), AV.int IntKind.i64 (OC.fb o r), AV.int IntKind.i64 (OC.pa o r), AV.int IntKind.i64 (OC.ra o r), AV.int IntKind.i64 (OC.co o r)]) [] none),
                                      some (Blk.mk false [] (1 : Nat) pc (fun a => [AV.int IntKind.i64 (pr a)]) [] none), some (Blk.mk true [AV.int IntKind.i64 G, AV.sl (1 : Nat) (0 : Nat) (8 : Nat) (0 : Nat) len cap] (0 : Nat) (0 : Nat) (fun x => []) [] none),
                                      some (Blk.mk true [] (2 : Nat) c (fun j => [AV.int IntKind.i64 (if j < List.length (usL x len op) then usG x len op j else (0 : Int)), AV.int IntKind.i64 (if j < List.length (usL x len op) then owAt G key pr (usG x len op) j else (0 : Int))]) [] none),
                                      some (Blk.mk true [] (2 : Nat) c_1 (fun j => [AV.int IntKind.i64 (if j < List.length (usL x len op2) then usG x len op2 j else (0 : Int)), AV.int IntKind.i64 (if j < List.length (usL x len op2) then owAt G key pr (usG x len op2) j else (0 : Int))]) [] none)]))))))))))))) := by
  kernel_rfl

theorem ak_n (x : FD) (o : OC) (G : Int) (len cap : Nat) (m : AM) : T.cut (keepT [] (acodeL Try.prog (akE2 x o G len cap) ((chainOf akC).take 2) ⟨[(11, .nils), (13, .int .i64 0)], m⟩)) [0] = 
  @T.chk (Ex × St) true (T.ret (Ex.exit (0 : Nat), St.mk [] m)) := by
  kernel_rfl

theorem ak_c1 (x : FD) (o : OC) (G : Int) (len cap : Nat) (pr : Nat → Int) (np pc : Nat) (u U : Nat → Int) (un c i : Nat) : T.cut (keepT [1, 11, 12, 13] (acodeL Try.prog (akE2 x o G len cap) ((chainOf akC).take 2) (akO1 x o cap pr np pc u U un c i))) [2, 0] = 
  T.ite (decide ((↑i : Int) < (↑un : Int)))
    (T.ret
      (Ex.norm,
        St.mk [((1 : Nat), AV.sl (2 : Nat) (0 : Nat) (1 : Nat) (0 : Nat) np pc), ((11 : Nat), AV.sl (3 : Nat) (0 : Nat) (2 : Nat) (0 : Nat) un c), ((12 : Nat), AV.nils), ((13 : Nat), AV.int IntKind.i64 (↑i : Int))]
          [some (Blk.mk false [] (0 : Nat) (0 : Nat) (fun x => []) [] (some fun js => Mem.mk (FD.nl x js) (FD.ad x js) (FD.ln x js) (FD.cp x js) (1 : Nat) fun q => [AV.int IntKind.i64 (FD.z x (q :: js))])),
            some (Blk.mk false [] (8 : Nat) cap (fun r => [AV.int IntKind.i64 (OC.kd o r), AV.part (0 : Nat) [r], AV.int IntKind.i64 (OC.fo o r), AV.int IntKind.i64 (OC.fa o r), AV.int IntKind.i64 (OC.fb o r), AV.int IntKind.i64 (OC.pa o r), AV.int IntKind.i64 (OC.ra o r), AV.int IntKind.i64 (OC.co o r)]) [] none), some (Blk.mk false [] (1 : Nat) pc (fun a => [AV.int IntKind.i64 (pr a)]) [] none),
            some (Blk.mk true [] (2 : Nat) c (fun j => [AV.int IntKind.i64 (if j < un then u j else (0 : Int)), AV.int IntKind.i64 (if j < un then U j else (0 : Int))]) [] none)]))
    (T.ret
      (Ex.exit (0 : Nat),
        St.mk [((1 : Nat), AV.sl (2 : Nat) (0 : Nat) (1 : Nat) (0 : Nat) np pc), ((11 : Nat), AV.sl (3 : Nat) (0 : Nat) (2 : Nat) (0 : Nat) un c), ((12 : Nat), AV.nils), ((13 : Nat), AV.int IntKind.i64 (↑i : Int))]
          [some (Blk.mk false [] (0 : Nat) (0 : Nat) (fun x => []) [] (some fun js => Mem.mk (FD.nl x js) (FD.ad x js) (FD.ln x js) (FD.cp x js) (1 : Nat) fun q => [AV.int IntKind.i64 (FD.z x (q :: js))])),
            some (Blk.mk false [] (8 : Nat) cap (fun r => [AV.int IntKind.i64 (OC.kd o r), AV.part (0 : Nat) [r], AV.int IntKind.i64 (OC.fo o r), AV.int IntKind.i64 (OC.fa o r), AV.int IntKind.i64 (OC.fb o r), AV.int IntKind.i64 (OC.pa o r), AV.int IntKind.i64 (OC.ra o r), AV.int IntKind.i64 (OC.co o r)]) [] none), some (Blk.mk false [] (1 : Nat) pc (fun a => [AV.int IntKind.i64 (pr a)]) [] none),
            some (Blk.mk true [] (2 : Nat) c (fun j => [AV.int IntKind.i64 (if j < un then u j else (0 : Int)), AV.int IntKind.i64 (if j < un then U j else (0 : Int))]) [] none)])) := by
  kernel_rfl

theorem ak_c2 (x : FD) (o : OC) (G : Int) (len cap : Nat) (pr : Nat → Int) (np pc : Nat) (u U : Nat → Int) (un c : Nat) (v V : Nat → Int) (vn d i : Nat) : T.cut (keepT [1, 11, 12, 13] (acodeL Try.prog (akE2 x o G len cap) ((chainOf akC).take 2) (akO2 x o cap pr np pc u U un c v V vn d i))) [2, 0] = 
  T.ite (decide ((↑i : Int) < (↑un : Int)))
    (T.ret
      (Ex.norm,
        St.mk [((1 : Nat), AV.sl (2 : Nat) (0 : Nat) (1 : Nat) (0 : Nat) np pc), ((11 : Nat), AV.sl (3 : Nat) (0 : Nat) (2 : Nat) (0 : Nat) un c), ((12 : Nat), AV.sl (4 : Nat) (0 : Nat) (2 : Nat) (0 : Nat) vn d), ((13 : Nat), AV.int IntKind.i64 (↑i : Int))]
          [some (Blk.mk false [] (0 : Nat) (0 : Nat) (fun x => []) [] (some fun js => Mem.mk (FD.nl x js) (FD.ad x js) (FD.ln x js) (FD.cp x js) (1 : Nat) fun q => [AV.int IntKind.i64 (FD.z x (q :: js))])),
            some (Blk.mk false [] (8 : Nat) cap (fun r => [AV.int IntKind.i64 (OC.kd o r), AV.part (0 : Nat) [r], AV.int IntKind.i64 (OC.fo o r), AV.int IntKind.i64 (OC.fa o r), AV.int IntKind.i64 (OC.fb o r), AV.int IntKind.i64 (OC.pa o r), AV.int IntKind.i64 (OC.ra o r), AV.int IntKind.i64 (OC.co o r)]) [] none), some (Blk.mk false [] (1 : Nat) pc (fun a => [AV.int IntKind.i64 (pr a)]) [] none),
            some (Blk.mk true [] (2 : Nat) c (fun j => [AV.int IntKind.i64 (if j < un then u j else (0 : Int)), AV.int IntKind.i64 (if j < un then U j else (0 : Int))]) [] none), some (Blk.mk true [] (2 : Nat) d (fun j => [AV.int IntKind.i64 (if j < vn then v j else (0 : Int)), AV.int IntKind.i64 (if j < vn then V j else (0 : Int))]) [] none)]))
    (T.ret
      (Ex.exit (0 : Nat),
        St.mk [((1 : Nat), AV.sl (2 : Nat) (0 : Nat) (1 : Nat) (0 : Nat) np pc), ((11 : Nat), AV.sl (3 : Nat) (0 : Nat) (2 : Nat) (0 : Nat) un c), ((12 : Nat), AV.sl (4 : Nat) (0 : Nat) (2 : Nat) (0 : Nat) vn d), ((13 : Nat), AV.int IntKind.i64 (↑i : Int))]
          [some (Blk.mk false [] (0 : Nat) (0 : Nat) (fun x => []) [] (some fun js => Mem.mk (FD.nl x js) (FD.ad x js) (FD.ln x js) (FD.cp x js) (1 : Nat) fun q => [AV.int IntKind.i64 (FD.z x (q :: js))])),
            some (Blk.mk false [] (8 : Nat) cap (fun r => [AV.int IntKind.i64 (OC.kd o r), AV.part (0 : Nat) [r], AV.int IntKind.i64 (OC.fo o r), AV.int IntKind.i64 (OC.fa o r), AV.int IntKind.i64 (OC.fb o r), AV.int IntKind.i64 (OC.pa o r), AV.int IntKind.i64 (OC.ra o r), AV.int IntKind.i64 (OC.co o r)]) [] none), some (Blk.mk false [] (1 : Nat) pc (fun a => [AV.int IntKind.i64 (pr a)]) [] none),
            some (Blk.mk true [] (2 : Nat) c (fun j => [AV.int IntKind.i64 (if j < un then u j else (0 : Int)), AV.int IntKind.i64 (if j < un then U j else (0 : Int))]) [] none), some (Blk.mk true [] (2 : Nat) d (fun j => [AV.int IntKind.i64 (if j < vn then v j else (0 : Int)), AV.int IntKind.i64 (if j < vn then V j else (0 : Int))]) [] none)])) := by
  kernel_rfl

theorem ak_e1 (x : FD) (o : OC) (G : Int) (len cap : Nat) (pr : Nat → Int) (np pc : Nat) (u U : Nat → Int) (un c i : Nat) : T.cut (keepT [1, 11, 12, 13, 14] (acodeL Try.prog (akE2 x o G len cap) ((chainOf akB).take 1) (akO1 x o cap pr np pc u U un c i))) [] = 
  T.ret
    (Ex.norm,
      St.mk [((1 : Nat), AV.sl (2 : Nat) (0 : Nat) (1 : Nat) (0 : Nat) np pc), ((11 : Nat), AV.sl (3 : Nat) (0 : Nat) (2 : Nat) (0 : Nat) un c), ((12 : Nat), AV.nils), ((13 : Nat), AV.int IntKind.i64 (↑i : Int)), ((14 : Nat), AV.int IntKind.i64 (0 : Int))]
        [some (Blk.mk false [] (0 : Nat) (0 : Nat) (fun x => []) [] (some fun js => Mem.mk (FD.nl x js) (FD.ad x js) (FD.ln x js) (FD.cp x js) (1 : Nat) fun q => [AV.int IntKind.i64 (FD.z x (q :: js))])),
          some (Blk.mk false [] (8 : Nat) cap (fun r => [AV.int IntKind.i64 (OC.kd o r), AV.part (0 : Nat) [r], AV.int IntKind.i64 (OC.fo o r), AV.int IntKind.i64 (OC.fa o r), AV.int IntKind.i64 (OC.fb o r), AV.int IntKind.i64 (OC.pa o r), AV.int IntKind.i64 (OC.ra o r), AV.int IntKind.i64 (OC.co o r)]) [] none), some (Blk.mk false [] (1 : Nat) pc (fun a => [AV.int IntKind.i64 (pr a)]) [] none),
          some (Blk.mk true [] (2 : Nat) c (fun j => [AV.int IntKind.i64 (if j < un then u j else (0 : Int)), AV.int IntKind.i64 (if j < un then U j else (0 : Int))]) [] none)]) := by
  kernel_rfl

theorem ak_e2 (x : FD) (o : OC) (G : Int) (len cap : Nat) (pr : Nat → Int) (np pc : Nat) (u U : Nat → Int) (un c : Nat) (v V : Nat → Int) (vn d i : Nat) : T.cut (keepT [1, 11, 12, 13, 14] (acodeL Try.prog (akE2 x o G len cap) ((chainOf akB).take 1) (akO2 x o cap pr np pc u U un c v V vn d i))) [] = 
  T.ret
    (Ex.norm,
      St.mk [((1 : Nat), AV.sl (2 : Nat) (0 : Nat) (1 : Nat) (0 : Nat) np pc), ((11 : Nat), AV.sl (3 : Nat) (0 : Nat) (2 : Nat) (0 : Nat) un c), ((12 : Nat), AV.sl (4 : Nat) (0 : Nat) (2 : Nat) (0 : Nat) vn d), ((13 : Nat), AV.int IntKind.i64 (↑i : Int)), ((14 : Nat), AV.int IntKind.i64 (0 : Int))]
        [some (Blk.mk false [] (0 : Nat) (0 : Nat) (fun x => []) [] (some fun js => Mem.mk (FD.nl x js) (FD.ad x js) (FD.ln x js) (FD.cp x js) (1 : Nat) fun q => [AV.int IntKind.i64 (FD.z x (q :: js))])),
          some (Blk.mk false [] (8 : Nat) cap (fun r => [AV.int IntKind.i64 (OC.kd o r), AV.part (0 : Nat) [r], AV.int IntKind.i64 (OC.fo o r), AV.int IntKind.i64 (OC.fa o r), AV.int IntKind.i64 (OC.fb o r), AV.int IntKind.i64 (OC.pa o r), AV.int IntKind.i64 (OC.ra o r), AV.int IntKind.i64 (OC.co o r)]) [] none), some (Blk.mk false [] (1 : Nat) pc (fun a => [AV.int IntKind.i64 (pr a)]) [] none),
          some (Blk.mk true [] (2 : Nat) c (fun j => [AV.int IntKind.i64 (if j < un then u j else (0 : Int)), AV.int IntKind.i64 (if j < un then U j else (0 : Int))]) [] none), some (Blk.mk true [] (2 : Nat) d (fun j => [AV.int IntKind.i64 (if j < vn then v j else (0 : Int)), AV.int IntKind.i64 (if j < vn then V j else (0 : Int))]) [] none)]) := by
  kernel_rfl

theorem ak_d1 (x : FD) (o : OC) (G : Int) (len cap : Nat) (pr : Nat → Int) (np pc : Nat) (u U : Nat → Int) (un c i : Nat) : T.cut (keepT [1, 11, 12, 13] (acode Try.prog (akE2 x o G len cap) akD ⟨[(1, .sl 2 0 1 0 np pc), (11, .sl 3 0 2 0 un c), (12, .nils), (13, .int .i64 i), (14, .int .i64 0)], akM1 x o cap pr pc u U un c⟩)) [0] = 
  @T.chk (Ex × St) true
    (T.ret
      (Ex.exit (2 : Nat),
        St.mk [((1 : Nat), AV.sl (2 : Nat) (0 : Nat) (1 : Nat) (0 : Nat) np pc), ((11 : Nat), AV.sl (3 : Nat) (0 : Nat) (2 : Nat) (0 : Nat) un c), ((12 : Nat), AV.nils), ((13 : Nat), AV.int IntKind.i64 (↑i : Int))]
          [some (Blk.mk false [] (0 : Nat) (0 : Nat) (fun x => []) [] (some fun js => Mem.mk (FD.nl x js) (FD.ad x js) (FD.ln x js) (FD.cp x js) (1 : Nat) fun q => [AV.int IntKind.i64 (FD.z x (q :: js))])),
            some (Blk.mk false [] (8 : Nat) cap (fun r => [AV.int IntKind.i64 (OC.kd o r), AV.part (0 : Nat) [r], AV.int IntKind.i64 (OC.fo o r), AV.int IntKind.i64 (OC.fa o r), AV.int IntKind.i64 (OC.fb o r), AV.int IntKind.i64 (OC.pa o r), AV.int IntKind.i64 (OC.ra o r), AV.int IntKind.i64 (OC.co o r)]) [] none), some (Blk.mk false [] (1 : Nat) pc (fun a => [AV.int IntKind.i64 (pr a)]) [] none),
            some (Blk.mk true [] (2 : Nat) c (fun j => [AV.int IntKind.i64 (if j < un then u j else (0 : Int)), AV.int IntKind.i64 (if j < un then U j else (0 : Int))]) [] none)])) := by
  kernel_rfl

theorem ak_d2 (x : FD) (o : OC) (G : Int) (len cap : Nat) (pr : Nat → Int) (np pc : Nat) (u U : Nat → Int) (un c : Nat) (v V : Nat → Int) (vn d i k : Nat) : T.cut (keepT [1, 10, 11, 12, 13, 14] (acode Try.prog (akE2 x o G len cap) akD (akI2 x o cap pr np pc u U un c v V vn d i k))) [2, 4, 2, 2, 2, 0] = 
  T.ite (decide ((↑k : Int) < (↑vn : Int)))
    (T.chk (decide ((0 : Int) ≤ (↑i : Int)) && decide ((↑i : Int) < (↑un : Int)))
      (T.chk (decide ((0 : Nat) + Int.toNat (↑i : Int) < c))
        (T.chk (decide ((0 : Int) ≤ if (0 : Nat) + Int.toNat (↑i : Int) < un then u ((0 : Nat) + Int.toNat (↑i : Int)) else (0 : Int)) && decide ((if (0 : Nat) + Int.toNat (↑i : Int) < un then u ((0 : Nat) + Int.toNat (↑i : Int)) else (0 : Int)) < (↑np : Int)))
          (T.chk (decide ((0 : Nat) + Int.toNat (if (0 : Nat) + Int.toNat (↑i : Int) < un then u ((0 : Nat) + Int.toNat (↑i : Int)) else (0 : Int)) < pc))
            (T.chk (decide ((0 : Int) ≤ (↑k : Int)) && decide ((↑k : Int) < (↑vn : Int)))
              (T.chk (decide ((0 : Nat) + Int.toNat (↑k : Int) < d))
                (T.chk (decide ((0 : Int) ≤ if (0 : Nat) + Int.toNat (↑k : Int) < vn then v ((0 : Nat) + Int.toNat (↑k : Int)) else (0 : Int)) && decide ((if (0 : Nat) + Int.toNat (↑k : Int) < vn then v ((0 : Nat) + Int.toNat (↑k : Int)) else (0 : Int)) < (↑np : Int)))
                  (T.chk (decide ((0 : Nat) + Int.toNat (if (0 : Nat) + Int.toNat (↑k : Int) < vn then v ((0 : Nat) + Int.toNat (↑k : Int)) else (0 : Int)) < pc))
                    (T.ite (pr ((0 : Nat) + Int.toNat (if (0 : Nat) + Int.toNat (↑i : Int) < un then u ((0 : Nat) + Int.toNat (↑i : Int)) else (0 : Int))) == pr ((0 : Nat) + Int.toNat (if (0 : Nat) + Int.toNat (↑k : Int) < vn then v ((0 : Nat) + Int.toNat (↑k : Int)) else (0 : Int))))
                      (T.chk (decide ((0 : Int) ≤ (↑i : Int)) && decide ((↑i : Int) < (↑un : Int)))
                        (T.chk (decide ((0 : Nat) + Int.toNat (↑i : Int) < c))
                          (T.chk (decide ((0 : Int) ≤ (↑k : Int)) && decide ((↑k : Int) < (↑vn : Int)))
                            (T.chk (decide ((0 : Nat) + Int.toNat (↑k : Int) < d))
                              (T.ite ((if (0 : Nat) + Int.toNat (↑i : Int) < un then U ((0 : Nat) + Int.toNat (↑i : Int)) else (0 : Int)) != if (0 : Nat) + Int.toNat (↑k : Int) < vn then V ((0 : Nat) + Int.toNat (↑k : Int)) else (0 : Int))
                                (T.ret
                                  (Ex.ret,
                                    St.mk [((1 : Nat), AV.sl (2 : Nat) (0 : Nat) (1 : Nat) (0 : Nat) np pc), ((10 : Nat), AV.ff), ((11 : Nat), AV.sl (3 : Nat) (0 : Nat) (2 : Nat) (0 : Nat) un c), ((12 : Nat), AV.sl (4 : Nat) (0 : Nat) (2 : Nat) (0 : Nat) vn d), ((13 : Nat), AV.int IntKind.i64 (↑i : Int)), ((14 : Nat), AV.int IntKind.i64 (↑k : Int))]
                                      [some (Blk.mk false [] (0 : Nat) (0 : Nat) (fun x => []) [] (some fun js => Mem.mk (FD.nl x js) (FD.ad x js) (FD.ln x js) (FD.cp x js) (1 : Nat) fun q => [AV.int IntKind.i64 (FD.z x (q :: js))])),
                                        some (Blk.mk false [] (8 : Nat) cap (fun r => [AV.int IntKind.i64 (OC.kd o r), AV.part (0 : Nat) [r], AV.int IntKind.i64 (OC.fo o r), AV.int IntKind.i64 (OC.fa o r), AV.int IntKind.i64 (OC.fb o r), AV.int IntKind.i64 (OC.pa o r), AV.int IntKind.i64 (OC.ra o r), AV.int IntKind.i64 (OC.co o r)]) [] none),
                                        some (Blk.mk false [] (1 : Nat) pc (fun a => [AV.int IntKind.i64 (pr a)]) [] none), some (Blk.mk true [] (2 : Nat) c (fun j => [AV.int IntKind.i64 (if j < un then u j else (0 : Int)), AV.int IntKind.i64 (if j < un then U j else (0 : Int))]) [] none),
                                        some (Blk.mk true [] (2 : Nat) d (fun j => [AV.int IntKind.i64 (if j < vn then v j else (0 : Int)), AV.int IntKind.i64 (if j < vn then V j else (0 : Int))]) [] none)]))
                                (T.ret
                                  (Ex.norm,
                                    St.mk [((1 : Nat), AV.sl (2 : Nat) (0 : Nat) (1 : Nat) (0 : Nat) np pc), ((11 : Nat), AV.sl (3 : Nat) (0 : Nat) (2 : Nat) (0 : Nat) un c), ((12 : Nat), AV.sl (4 : Nat) (0 : Nat) (2 : Nat) (0 : Nat) vn d), ((13 : Nat), AV.int IntKind.i64 (↑i : Int)), ((14 : Nat), AV.int IntKind.i64 (IntKind.wrap IntKind.i64 ((↑k : Int) + (1 : Int))))]
                                      [some (Blk.mk false [] (0 : Nat) (0 : Nat) (fun x => []) [] (some fun js => Mem.mk (FD.nl x js) (FD.ad x js) (FD.ln x js) (FD.cp x js) (1 : Nat) fun q => [AV.int IntKind.i64 (FD.z x (q :: js))])),
                                        some (Blk.mk false [] (8 : Nat) cap (fun r => [AV.int IntKind.i64 (OC.kd o r), AV.part (0 : Nat) [r], AV.int IntKind.i64 (OC.fo o r), AV.int IntKind.i64 (OC.fa o r), AV.int IntKind.i64 (OC.fb o r), AV.int IntKind.i64 (OC.pa o r), AV.int IntKind.i64 (OC.ra o r), AV.int IntKind.i64 (OC.co o r)]) [] none),
                                        some (Blk.mk false [] (1 : Nat) pc (fun a => [AV.int IntKind.i64 (pr a)]) [] none), some (Blk.mk true [] (2 : Nat) c (fun j => [AV.int IntKind.i64 (if j < un then u j else (0 : Int)), AV.int IntKind.i64 (if j < un then U j else (0 : Int))]) [] none),
                                        some (Blk.mk true [] (2 : Nat) d (fun j => [AV.int IntKind.i64 (if j < vn then v j else (0 : Int)), AV.int IntKind.i64 (if j < vn then V j else (0 : Int))]) [] none)])))))))
                      (T.ret
                        (Ex.norm,
                          St.mk [((1 : Nat), AV.sl (2 : Nat) (0 : Nat) (1 : Nat) (0 : Nat) np pc), ((11 : Nat), AV.sl (3 : Nat) (0 : Nat) (2 : Nat) (0 : Nat) un c), ((12 : Nat), AV.sl (4 : Nat) (0 : Nat) (2 : Nat) (0 : Nat) vn d), ((13 : Nat), AV.int IntKind.i64 (↑i : Int)), ((14 : Nat), AV.int IntKind.i64 (IntKind.wrap IntKind.i64 ((↑k : Int) + (1 : Int))))]
                            [some (Blk.mk false [] (0 : Nat) (0 : Nat) (fun x => []) [] (some fun js => Mem.mk (FD.nl x js) (FD.ad x js) (FD.ln x js) (FD.cp x js) (1 : Nat) fun q => [AV.int IntKind.i64 (FD.z x (q :: js))])),
                              some (Blk.mk false [] (8 : Nat) cap (fun r => [AV.int IntKind.i64 (OC.kd o r), AV.part (0 : Nat) [r], AV.int IntKind.i64 (OC.fo o r), AV.int IntKind.i64 (OC.fa o r), AV.int IntKind.i64 (OC.fb o r), AV.int IntKind.i64 (OC.pa o r), AV.int IntKind.i64 (OC.ra o r), AV.int IntKind.i64 (OC.co o r)]) [] none),
                              some (Blk.mk false [] (1 : Nat) pc (fun a => [AV.int IntKind.i64 (pr a)]) [] none), some (Blk.mk true [] (2 : Nat) c (fun j => [AV.int IntKind.i64 (if j < un then u j else (0 : Int)), AV.int IntKind.i64 (if j < un then U j else (0 : Int))]) [] none),
                              some (Blk.mk true [] (2 : Nat) d (fun j => [AV.int IntKind.i64 (if j < vn then v j else (0 : Int)), AV.int IntKind.i64 (if j < vn then V j else (0 : Int))]) [] none)])))))))))))
    (T.ret
      (Ex.exit (2 : Nat),
        St.mk [((1 : Nat), AV.sl (2 : Nat) (0 : Nat) (1 : Nat) (0 : Nat) np pc), ((11 : Nat), AV.sl (3 : Nat) (0 : Nat) (2 : Nat) (0 : Nat) un c), ((12 : Nat), AV.sl (4 : Nat) (0 : Nat) (2 : Nat) (0 : Nat) vn d), ((13 : Nat), AV.int IntKind.i64 (↑i : Int)), ((14 : Nat), AV.int IntKind.i64 (↑k : Int))]
          [some (Blk.mk false [] (0 : Nat) (0 : Nat) (fun x => []) [] (some fun js => Mem.mk (FD.nl x js) (FD.ad x js) (FD.ln x js) (FD.cp x js) (1 : Nat) fun q => [AV.int IntKind.i64 (FD.z x (q :: js))])),
            some (Blk.mk false [] (8 : Nat) cap (fun r => [AV.int IntKind.i64 (OC.kd o r), AV.part (0 : Nat) [r], AV.int IntKind.i64 (OC.fo o r), AV.int IntKind.i64 (OC.fa o r), AV.int IntKind.i64 (OC.fb o r), AV.int IntKind.i64 (OC.pa o r), AV.int IntKind.i64 (OC.ra o r), AV.int IntKind.i64 (OC.co o r)]) [] none), some (Blk.mk false [] (1 : Nat) pc (fun a => [AV.int IntKind.i64 (pr a)]) [] none),
            some (Blk.mk true [] (2 : Nat) c (fun j => [AV.int IntKind.i64 (if j < un then u j else (0 : Int)), AV.int IntKind.i64 (if j < un then U j else (0 : Int))]) [] none), some (Blk.mk true [] (2 : Nat) d (fun j => [AV.int IntKind.i64 (if j < vn then v j else (0 : Int)), AV.int IntKind.i64 (if j < vn then V j else (0 : Int))]) [] none)])) := by
  kernel_rfl

theorem ak_g1 (x : FD) (o : OC) (G : Int) (len cap : Nat) (pr : Nat → Int) (np pc : Nat) (u U : Nat → Int) (un c i : Nat) : T.cut (keepT [1, 11, 12, 13] (acodeL Try.prog (akE2 x o G len cap) ((chainOf akC).drop 3) (akO1 x o cap pr np pc u U un c i))) [] = 
  T.ret
    (Ex.norm,
      St.mk [((1 : Nat), AV.sl (2 : Nat) (0 : Nat) (1 : Nat) (0 : Nat) np pc), ((11 : Nat), AV.sl (3 : Nat) (0 : Nat) (2 : Nat) (0 : Nat) un c), ((12 : Nat), AV.nils), ((13 : Nat), AV.int IntKind.i64 (IntKind.wrap IntKind.i64 ((↑i : Int) + (1 : Int))))]
        [some (Blk.mk false [] (0 : Nat) (0 : Nat) (fun x => []) [] (some fun js => Mem.mk (FD.nl x js) (FD.ad x js) (FD.ln x js) (FD.cp x js) (1 : Nat) fun q => [AV.int IntKind.i64 (FD.z x (q :: js))])),
          some (Blk.mk false [] (8 : Nat) cap (fun r => [AV.int IntKind.i64 (OC.kd o r), AV.part (0 : Nat) [r], AV.int IntKind.i64 (OC.fo o r), AV.int IntKind.i64 (OC.fa o r), AV.int IntKind.i64 (OC.fb o r), AV.int IntKind.i64 (OC.pa o r), AV.int IntKind.i64 (OC.ra o r), AV.int IntKind.i64 (OC.co o r)]) [] none), some (Blk.mk false [] (1 : Nat) pc (fun a => [AV.int IntKind.i64 (pr a)]) [] none),
          some (Blk.mk true [] (2 : Nat) c (fun j => [AV.int IntKind.i64 (if j < un then u j else (0 : Int)), AV.int IntKind.i64 (if j < un then U j else (0 : Int))]) [] none)]) := by
  kernel_rfl

theorem ak_g2 (x : FD) (o : OC) (G : Int) (len cap : Nat) (pr : Nat → Int) (np pc : Nat) (u U : Nat → Int) (un c : Nat) (v V : Nat → Int) (vn d i : Nat) : T.cut (keepT [1, 11, 12, 13] (acodeL Try.prog (akE2 x o G len cap) ((chainOf akC).drop 3) (akO2 x o cap pr np pc u U un c v V vn d i))) [] = 
  T.ret
    (Ex.norm,
      St.mk [((1 : Nat), AV.sl (2 : Nat) (0 : Nat) (1 : Nat) (0 : Nat) np pc), ((11 : Nat), AV.sl (3 : Nat) (0 : Nat) (2 : Nat) (0 : Nat) un c), ((12 : Nat), AV.sl (4 : Nat) (0 : Nat) (2 : Nat) (0 : Nat) vn d), ((13 : Nat), AV.int IntKind.i64 (IntKind.wrap IntKind.i64 ((↑i : Int) + (1 : Int))))]
        [some (Blk.mk false [] (0 : Nat) (0 : Nat) (fun x => []) [] (some fun js => Mem.mk (FD.nl x js) (FD.ad x js) (FD.ln x js) (FD.cp x js) (1 : Nat) fun q => [AV.int IntKind.i64 (FD.z x (q :: js))])),
          some (Blk.mk false [] (8 : Nat) cap (fun r => [AV.int IntKind.i64 (OC.kd o r), AV.part (0 : Nat) [r], AV.int IntKind.i64 (OC.fo o r), AV.int IntKind.i64 (OC.fa o r), AV.int IntKind.i64 (OC.fb o r), AV.int IntKind.i64 (OC.pa o r), AV.int IntKind.i64 (OC.ra o r), AV.int IntKind.i64 (OC.co o r)]) [] none), some (Blk.mk false [] (1 : Nat) pc (fun a => [AV.int IntKind.i64 (pr a)]) [] none),
          some (Blk.mk true [] (2 : Nat) c (fun j => [AV.int IntKind.i64 (if j < un then u j else (0 : Int)), AV.int IntKind.i64 (if j < un then U j else (0 : Int))]) [] none), some (Blk.mk true [] (2 : Nat) d (fun j => [AV.int IntKind.i64 (if j < vn then v j else (0 : Int)), AV.int IntKind.i64 (if j < vn then V j else (0 : Int))]) [] none)]) := by
  kernel_rfl

theorem ak_z (x : FD) (o : OC) (G : Int) (len cap : Nat) (m : AM) : T.cut (keepT [10] (acodeL Try.prog (akE2 x o G len cap) ((chainOf akF).drop 7) ⟨[], m⟩)) [] = 
  T.ret (Ex.ret, St.mk [((10 : Nat), AV.bool true)] m) := by
  kernel_rfl

theorem ak_k0 : ((chainOf akF).drop 3).drop 3 = .block 0 (.loop akC) :: (chainOf akF).drop 7 := by
  kernel_rfl

theorem ak_k1 : (chainOf akC).drop 2 = .block 1 akB :: (chainOf akC).drop 3 := by
  kernel_rfl

theorem ak_k2 : chainOf akB = (chainOf akB).take 1 ++ [.block 2 (.loop akD)] := by
  kernel_rfl

theorem ak_res : Try.f5.results.toList = [.tmp 10] := by
  kernel_rfl

end Go.Proofs.Ytnfngaapjodpcaa
