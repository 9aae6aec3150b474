/-
  Layer 20: OneWay: trees.
-/
import Derived.Test.YtnfngaapjodpcaaHLD
import Derived.Test.YtnfngaapjodpcaaHQS
namespace Go.Proofs.Ytnfngaapjodpcaa
open Go.Ox
set_option maxRecDepth 100000
set_option maxHeartbeats 4000000
set_option linter.unusedVariables false
set_option linter.unusedSimpArgs false

noncomputable def wyF : Code := codeOf Try.f4

noncomputable def wyE1 (x : FD) (o : OC) (G : Int) (len cap : Nat) : Env := { nt := Try.f4.ntmps, n0 := 3, vec := true, fns := openAll (akB1 x o G len cap), loop := fun _ _ => .fail }

theorem wyE1_ok (x : FD) (o : OC) (G : Int) (len cap : Nat) (hw : x.wf .i64) (hl : len ≤ cap) : EnvOK Try.prog (wyE1 x o G len cap).fns := EnvOK.open_ (EnvOK.cons (rgS_ok x o G len cap hw hl) (EnvOK.cons wk_ok EnvOK.nil))

noncomputable def wyB (x : FD) (o : OC) (G : Int) (len cap : Nat) : List (Nat × Summ) := [(12, .eff (tgS x o G len cap)), (18, .eff (usS x o G len cap)), (19, .pure fun args _ => ofS args), (20, .pure fun args _ => raS args), (13, .pure sameRS), (9, .pure yesS)]

noncomputable def wyE2 (x : FD) (o : OC) (G : Int) (len cap : Nat) : Env := { nt := Try.f4.ntmps, n0 := 3, vec := true, fns := openAll (wyB x o G len cap), loop := fun _ _ => .fail }

theorem wyE2_ok (x : FD) (o : OC) (G : Int) (len cap : Nat) (hk0 : spOK x len cap) : EnvOK Try.prog (wyE2 x o G len cap).fns := EnvOK.open_ (EnvOK.cons (tgS_ok x o G len cap hk0) (EnvOK.cons (usS_ok x o G len cap hk0) (EnvOK.cons of_ok (EnvOK.cons ra_ok (EnvOK.cons sr_ok (EnvOK.cons wk_ok EnvOK.nil))))))

noncomputable def wyF0 (n0 : Nat) : Env := { nt := Try.f4.ntmps, n0 := n0, vec := true, fns := openAll (inl Try.prog akN0 akL0), loop := fun _ _ => .fail }

theorem wyF0_ok (n0 : Nat) : EnvOK Try.prog (wyF0 n0).fns := EnvOK.open_ (inl_ok akN0_ok akL0 akL0_ok)

noncomputable def wyF1 (x : FD) (o : OC) (G : Int) (len cap : Nat) : Env := { nt := Try.f4.ntmps, n0 := 2, vec := true, fns := openAll (inl Try.prog (akN1 x o G len cap) akL1), loop := fun _ _ => .fail }

theorem wyF1_ok (x : FD) (o : OC) (G : Int) (len cap : Nat) (hw : x.wf .i64) (hl : len ≤ cap) : EnvOK Try.prog (wyF1 x o G len cap).fns := EnvOK.open_ (inl_ok (akN1_ok x o G len cap hw hl) akL1 akL1_ok)

noncomputable def wyC : Code := loopAt wyF 0

def wyS0 (x : FD) (o : OC) (G key other op : Int) (len cap : Nat) (pr : Nat → Int) (np pc : Nat) : St := ⟨[(1, .sl 2 0 1 0 np pc), (2, .int .i64 op), (3, .int .i64 key), (4, .int .i64 other), (5, .ptr 3 0 0 0)], tgM x o cap pr pc ++ [some (boxS G len cap)]⟩

def wySn (x : FD) (o : OC) (G g other op : Int) (len cap : Nat) (pr : Nat → Int) (np pc : Nat) : St := ⟨[(1, .sl 2 0 1 0 np pc), (2, .int .i64 op), (4, .int .i64 other), (5, .ptr 3 0 0 0), (11, .nils), (13, .int .i64 g), (14, .int .i64 0)], tgM x o cap pr pc ++ [some (boxS G len cap)]⟩

def wySy (x : FD) (o : OC) (G g other op : Int) (len cap : Nat) (pr : Nat → Int) (np pc : Nat) (u U : Nat → Int) (un c d i : Nat) : St := ⟨[(1, .sl 2 0 1 0 np pc), (2, .int .i64 op), (4, .int .i64 other), (5, .ptr 3 0 0 0), (11, .sl 4 0 2 0 un c), (12, .sl 5 0 1 0 un d), (13, .int .i64 g), (14, .int .i64 i)], tgM x o cap pr pc ++ [some (boxS G len cap), some (ap2 u U un c), some (apRow .i64 u un d)]⟩

theorem wy_0n (G op key other : Int) : T.cut (keepT [10] (acodeL Try.prog (wyF0 0) ((chainOf wyF).take 3) ⟨[(0, .agg [.int .i64 G, .nils]), (1, .nils), (2, .int .i64 op), (3, .int .i64 key), (4, .int .i64 other)], []⟩)) [2, 0] = 
  T.all fun c => T.asm (decide (c ≠ (0 : Nat))) (T.ite ((↑c : Int) == (0 : Int)) T.fail (T.ret (Ex.ret, St.mk [((10 : Nat), AV.bool true)] [some (Blk.mk true [AV.int IntKind.i64 G, AV.nils] (0 : Nat) (0 : Nat) (fun x => []) [] none), some (Blk.mk true [AV.int IntKind.i64 G, AV.nils] (0 : Nat) (0 : Nat) (fun x => []) [] none)]))) := by
  kernel_rfl

theorem wy_0p (G op key other : Int) (pr : Nat → Int) (np pc : Nat) : T.cut (keepT [10] (acodeL Try.prog (wyF0 1) ((chainOf wyF).take 3) ⟨[(0, .agg [.int .i64 G, .nils]), (1, .sl 0 0 1 0 np pc), (2, .int .i64 op), (3, .int .i64 key), (4, .int .i64 other)], [some (inB pc pr)]⟩)) [2, 0] = 
  T.all fun c =>
    T.asm (decide (c ≠ (0 : Nat))) (T.ite ((↑c : Int) == (0 : Int)) T.fail (T.ret (Ex.ret, St.mk [((10 : Nat), AV.bool true)] [some (Blk.mk false [] (1 : Nat) pc (fun a => [AV.int IntKind.i64 (pr a)]) [] none), some (Blk.mk true [AV.int IntKind.i64 G, AV.nils] (0 : Nat) (0 : Nat) (fun x => []) [] none), some (Blk.mk true [AV.int IntKind.i64 G, AV.nils] (0 : Nat) (0 : Nat) (fun x => []) [] none)]))) := by
  kernel_rfl

theorem wy_1n (x : FD) (o : OC) (G op key other : Int) (len cap : Nat) : T.cut (keepT [10] (acodeL Try.prog (wyF1 x o G len cap) ((chainOf wyF).take 3) ⟨[(0, spA G len cap), (1, .nils), (2, .int .i64 op), (3, .int .i64 key), (4, .int .i64 other)], spM x o cap⟩)) [2, 7, 2, 0, 0, 2, 2, 2, 0] = 
  T.need (G = G ∧ len = len ∧ cap = cap)
    (T.need
      (spIn x o cap
        [some (Blk.mk false [] (0 : Nat) (0 : Nat) (fun x => []) [] (some fun js => Mem.mk (FD.nl x js) (FD.ad x js) (FD.ln x js) (FD.cp x js) (1 : Nat) fun q => [AV.int IntKind.i64 (FD.z x (q :: js))])),
          some (Blk.mk false [] (8 : Nat) cap (fun r => [AV.int IntKind.i64 (OC.kd o r), AV.part (0 : Nat) [r], AV.int IntKind.i64 (OC.fo o r), AV.int IntKind.i64 (OC.fa o r), AV.int IntKind.i64 (OC.fb o r), AV.int IntKind.i64 (OC.pa o r), AV.int IntKind.i64 (OC.ra o r), AV.int IntKind.i64 (OC.co o r)]) [] none),
          some (Blk.mk true [AV.int IntKind.i64 G, AV.sl (1 : Nat) (0 : Nat) (8 : Nat) (0 : Nat) len cap] (0 : Nat) (0 : Nat) (fun x => []) [] none), some (Blk.mk true [AV.int IntKind.i64 G, AV.sl (1 : Nat) (0 : Nat) (8 : Nat) (0 : Nat) len cap] (0 : Nat) (0 : Nat) (fun x => []) [] none)])
      (T.all fun c =>
        T.asm (decide (c ≠ (0 : Nat) ∨ ckP x o G len))
          (T.ite ((↑c : Int) == (0 : Int))
            (T.ite ((0 : Int) != (↑len : Int))
              (T.ret
                (Ex.ret,
                  St.mk [((10 : Nat), AV.bool true)]
                    [some (Blk.mk false [] (0 : Nat) (0 : Nat) (fun x => []) [] (some fun js => Mem.mk (FD.nl x js) (FD.ad x js) (FD.ln x js) (FD.cp x js) (1 : Nat) fun q => [AV.int IntKind.i64 (FD.z x (q :: js))])),
                      some (Blk.mk false [] (8 : Nat) cap (fun r => [AV.int IntKind.i64 (OC.kd o r), AV.part (0 : Nat) [r], AV.int IntKind.i64 (OC.fo o r), AV.int IntKind.i64 (OC.fa o r), AV.int IntKind.i64 (OC.fb o r), AV.int IntKind.i64 (OC.pa o r), AV.int IntKind.i64 (OC.ra o r), AV.int IntKind.i64 (OC.co o r)]) [] none),
                      some (Blk.mk true [AV.int IntKind.i64 G, AV.sl (1 : Nat) (0 : Nat) (8 : Nat) (0 : Nat) len cap] (0 : Nat) (0 : Nat) (fun x => []) [] none), some (Blk.mk true [AV.int IntKind.i64 G, AV.sl (1 : Nat) (0 : Nat) (8 : Nat) (0 : Nat) len cap] (0 : Nat) (0 : Nat) (fun x => []) [] none),
                      some (Blk.mk true [AV.int IntKind.i64 G, AV.sl (1 : Nat) (0 : Nat) (8 : Nat) (0 : Nat) len cap] (0 : Nat) (0 : Nat) (fun x => []) [] none)]))
              (@T.chk (Ex × St) true
                (T.ite (decide (op ≥ (0 : Int)))
                  (T.ite (!decide (op < (↑len : Int)))
                    (T.ret
                      (Ex.ret,
                        St.mk [((10 : Nat), AV.bool true)]
                          [some (Blk.mk false [] (0 : Nat) (0 : Nat) (fun x => []) [] (some fun js => Mem.mk (FD.nl x js) (FD.ad x js) (FD.ln x js) (FD.cp x js) (1 : Nat) fun q => [AV.int IntKind.i64 (FD.z x (q :: js))])),
                            some (Blk.mk false [] (8 : Nat) cap (fun r => [AV.int IntKind.i64 (OC.kd o r), AV.part (0 : Nat) [r], AV.int IntKind.i64 (OC.fo o r), AV.int IntKind.i64 (OC.fa o r), AV.int IntKind.i64 (OC.fb o r), AV.int IntKind.i64 (OC.pa o r), AV.int IntKind.i64 (OC.ra o r), AV.int IntKind.i64 (OC.co o r)]) [] none),
                            some (Blk.mk true [AV.int IntKind.i64 G, AV.sl (1 : Nat) (0 : Nat) (8 : Nat) (0 : Nat) len cap] (0 : Nat) (0 : Nat) (fun x => []) [] none), some (Blk.mk true [AV.int IntKind.i64 G, AV.sl (1 : Nat) (0 : Nat) (8 : Nat) (0 : Nat) len cap] (0 : Nat) (0 : Nat) (fun x => []) [] none),
                            some (Blk.mk true [AV.int IntKind.i64 G, AV.sl (1 : Nat) (0 : Nat) (8 : Nat) (0 : Nat) len cap] (0 : Nat) (0 : Nat) (fun x => []) [] none)]))
                    (T.ret
                      (Ex.norm,
                        St.mk [((10 : Nat), AV.ff)]
                          [some (Blk.mk false [] (0 : Nat) (0 : Nat) (fun x => []) [] (some fun js => Mem.mk (FD.nl x js) (FD.ad x js) (FD.ln x js) (FD.cp x js) (1 : Nat) fun q => [AV.int IntKind.i64 (FD.z x (q :: js))])),
                            some (Blk.mk false [] (8 : Nat) cap (fun r => [AV.int IntKind.i64 (OC.kd o r), AV.part (0 : Nat) [r], AV.int IntKind.i64 (OC.fo o r), AV.int IntKind.i64 (OC.fa o r), AV.int IntKind.i64 (OC.fb o r), AV.int IntKind.i64 (OC.pa o r), AV.int IntKind.i64 (OC.ra o r), AV.int IntKind.i64 (OC.co o r)]) [] none),
                            some (Blk.mk true [AV.int IntKind.i64 G, AV.sl (1 : Nat) (0 : Nat) (8 : Nat) (0 : Nat) len cap] (0 : Nat) (0 : Nat) (fun x => []) [] none), some (Blk.mk true [AV.int IntKind.i64 G, AV.sl (1 : Nat) (0 : Nat) (8 : Nat) (0 : Nat) len cap] (0 : Nat) (0 : Nat) (fun x => []) [] none),
                            some (Blk.mk true [AV.int IntKind.i64 G, AV.sl (1 : Nat) (0 : Nat) (8 : Nat) (0 : Nat) len cap] (0 : Nat) (0 : Nat) (fun x => []) [] none)])))
                  (T.ret
                    (Ex.ret,
                      St.mk [((10 : Nat), AV.bool true)]
                        [some (Blk.mk false [] (0 : Nat) (0 : Nat) (fun x => []) [] (some fun js => Mem.mk (FD.nl x js) (FD.ad x js) (FD.ln x js) (FD.cp x js) (1 : Nat) fun q => [AV.int IntKind.i64 (FD.z x (q :: js))])),
                          some (Blk.mk false [] (8 : Nat) cap (fun r => [AV.int IntKind.i64 (OC.kd o r), AV.part (0 : Nat) [r], AV.int IntKind.i64 (OC.fo o r), AV.int IntKind.i64 (OC.fa o r), AV.int IntKind.i64 (OC.fb o r), AV.int IntKind.i64 (OC.pa o r), AV.int IntKind.i64 (OC.ra o r), AV.int IntKind.i64 (OC.co o r)]) [] none),
                          some (Blk.mk true [AV.int IntKind.i64 G, AV.sl (1 : Nat) (0 : Nat) (8 : Nat) (0 : Nat) len cap] (0 : Nat) (0 : Nat) (fun x => []) [] none), some (Blk.mk true [AV.int IntKind.i64 G, AV.sl (1 : Nat) (0 : Nat) (8 : Nat) (0 : Nat) len cap] (0 : Nat) (0 : Nat) (fun x => []) [] none),
                          some (Blk.mk true [AV.int IntKind.i64 G, AV.sl (1 : Nat) (0 : Nat) (8 : Nat) (0 : Nat) len cap] (0 : Nat) (0 : Nat) (fun x => []) [] none)])))))
            (T.ret
              (Ex.ret,
                St.mk [((10 : Nat), AV.bool true)]
                  [some (Blk.mk false [] (0 : Nat) (0 : Nat) (fun x => []) [] (some fun js => Mem.mk (FD.nl x js) (FD.ad x js) (FD.ln x js) (FD.cp x js) (1 : Nat) fun q => [AV.int IntKind.i64 (FD.z x (q :: js))])),
                    some (Blk.mk false [] (8 : Nat) cap (fun r => [AV.int IntKind.i64 (OC.kd o r), AV.part (0 : Nat) [r], AV.int IntKind.i64 (OC.fo o r), AV.int IntKind.i64 (OC.fa o r), AV.int IntKind.i64 (OC.fb o r), AV.int IntKind.i64 (OC.pa o r), AV.int IntKind.i64 (OC.ra o r), AV.int IntKind.i64 (OC.co o r)]) [] none),
                    some (Blk.mk true [AV.int IntKind.i64 G, AV.sl (1 : Nat) (0 : Nat) (8 : Nat) (0 : Nat) len cap] (0 : Nat) (0 : Nat) (fun x => []) [] none), some (Blk.mk true [AV.int IntKind.i64 G, AV.sl (1 : Nat) (0 : Nat) (8 : Nat) (0 : Nat) len cap] (0 : Nat) (0 : Nat) (fun x => []) [] none)]))))) := by
  kernel_rfl

theorem wy_a (x : FD) (o : OC) (G key other op : Int) (len cap : Nat) (pr : Nat → Int) (np pc : Nat) : T.cut (keepT [1, 2, 3, 4, 5, 10] (acodeL Try.prog (wyE1 x o G len cap) ((chainOf wyF).take 3) ⟨[(0, spA G len cap), (1, .sl 2 0 1 0 np pc), (2, .int .i64 op), (3, .int .i64 key), (4, .int .i64 other)], tgM x o cap pr pc⟩)) [2, 0] = 
  T.need (G = G ∧ len = len ∧ cap = cap)
    (T.need
      (spIn x o cap
        [some (Blk.mk false [] (0 : Nat) (0 : Nat) (fun x => []) [] (some fun js => Mem.mk (FD.nl x js) (FD.ad x js) (FD.ln x js) (FD.cp x js) (1 : Nat) fun q => [AV.int IntKind.i64 (FD.z x (q :: js))])),
          some (Blk.mk false [] (8 : Nat) cap (fun r => [AV.int IntKind.i64 (OC.kd o r), AV.part (0 : Nat) [r], AV.int IntKind.i64 (OC.fo o r), AV.int IntKind.i64 (OC.fa o r), AV.int IntKind.i64 (OC.fb o r), AV.int IntKind.i64 (OC.pa o r), AV.int IntKind.i64 (OC.ra o r), AV.int IntKind.i64 (OC.co o r)]) [] none), some (Blk.mk false [] (1 : Nat) pc (fun a => [AV.int IntKind.i64 (pr a)]) [] none),
          some (Blk.mk true [AV.int IntKind.i64 G, AV.sl (1 : Nat) (0 : Nat) (8 : Nat) (0 : Nat) len cap] (0 : Nat) (0 : Nat) (fun x => []) [] none)])
      (T.need (IntRow IntKind.i64 (Blk.mk false [] (1 : Nat) pc (fun a => [AV.int IntKind.i64 (pr a)]) [] none) ∧ pc = pc ∧ np ≤ pc)
        (T.all fun c =>
          T.asm (decide (c ≠ (0 : Nat) ∨ rgP x o G op len pr np))
            (T.ite (!decide (c = (0 : Nat)))
              (T.ret
                (Ex.ret,
                  St.mk [((1 : Nat), AV.sl (2 : Nat) (0 : Nat) (1 : Nat) (0 : Nat) np pc), ((2 : Nat), AV.int IntKind.i64 op), ((3 : Nat), AV.int IntKind.i64 key), ((4 : Nat), AV.int IntKind.i64 other), ((5 : Nat), AV.ptr (3 : Nat) (0 : Nat) (0 : Nat) (0 : Nat)), ((10 : Nat), AV.bool true)]
                    [some (Blk.mk false [] (0 : Nat) (0 : Nat) (fun x => []) [] (some fun js => Mem.mk (FD.nl x js) (FD.ad x js) (FD.ln x js) (FD.cp x js) (1 : Nat) fun q => [AV.int IntKind.i64 (FD.z x (q :: js))])),
                      some (Blk.mk false [] (8 : Nat) cap (fun r => [AV.int IntKind.i64 (OC.kd o r), AV.part (0 : Nat) [r], AV.int IntKind.i64 (OC.fo o r), AV.int IntKind.i64 (OC.fa o r), AV.int IntKind.i64 (OC.fb o r), AV.int IntKind.i64 (OC.pa o r), AV.int IntKind.i64 (OC.ra o r), AV.int IntKind.i64 (OC.co o r)]) [] none),
                      some (Blk.mk false [] (1 : Nat) pc (fun a => [AV.int IntKind.i64 (pr a)]) [] none), some (Blk.mk true [AV.int IntKind.i64 G, AV.sl (1 : Nat) (0 : Nat) (8 : Nat) (0 : Nat) len cap] (0 : Nat) (0 : Nat) (fun x => []) [] none)]))
              (T.ret
                (Ex.norm,
                  St.mk [((1 : Nat), AV.sl (2 : Nat) (0 : Nat) (1 : Nat) (0 : Nat) np pc), ((2 : Nat), AV.int IntKind.i64 op), ((3 : Nat), AV.int IntKind.i64 key), ((4 : Nat), AV.int IntKind.i64 other), ((5 : Nat), AV.ptr (3 : Nat) (0 : Nat) (0 : Nat) (0 : Nat)), ((10 : Nat), AV.ff)]
                    [some (Blk.mk false [] (0 : Nat) (0 : Nat) (fun x => []) [] (some fun js => Mem.mk (FD.nl x js) (FD.ad x js) (FD.ln x js) (FD.cp x js) (1 : Nat) fun q => [AV.int IntKind.i64 (FD.z x (q :: js))])),
                      some (Blk.mk false [] (8 : Nat) cap (fun r => [AV.int IntKind.i64 (OC.kd o r), AV.part (0 : Nat) [r], AV.int IntKind.i64 (OC.fo o r), AV.int IntKind.i64 (OC.fa o r), AV.int IntKind.i64 (OC.fb o r), AV.int IntKind.i64 (OC.pa o r), AV.int IntKind.i64 (OC.ra o r), AV.int IntKind.i64 (OC.co o r)]) [] none),
                      some (Blk.mk false [] (1 : Nat) pc (fun a => [AV.int IntKind.i64 (pr a)]) [] none), some (Blk.mk true [AV.int IntKind.i64 G, AV.sl (1 : Nat) (0 : Nat) (8 : Nat) (0 : Nat) len cap] (0 : Nat) (0 : Nat) (fun x => []) [] none)])))))) := by
  kernel_rfl

theorem wy_b (x : FD) (o : OC) (G key other op : Int) (len cap : Nat) (pr : Nat → Int) (np pc : Nat) : T.cut (keepT [1, 2, 4, 5, 10, 11, 12, 13, 14] (acodeL Try.prog (wyE2 x o G len cap) (((chainOf wyF).drop 3).take 6) (wyS0 x o G key other op len cap pr np pc))) [2, 11, 2, 4, 0, 2, 1, 0, 2, 0, 2, 1, 0, 2, 6, 2, 0, 2, 2, 2, 0, 2, 0, 2, 2, 2, 0] = 
  T.need (G = G ∧ len = len ∧ cap = cap)
    (T.need
      (spIn x o cap
        [some (Blk.mk false [] (0 : Nat) (0 : Nat) (fun x => []) [] (some fun js => Mem.mk (FD.nl x js) (FD.ad x js) (FD.ln x js) (FD.cp x js) (1 : Nat) fun q => [AV.int IntKind.i64 (FD.z x (q :: js))])),
          some (Blk.mk false [] (8 : Nat) cap (fun r => [AV.int IntKind.i64 (OC.kd o r), AV.part (0 : Nat) [r], AV.int IntKind.i64 (OC.fo o r), AV.int IntKind.i64 (OC.fa o r), AV.int IntKind.i64 (OC.fb o r), AV.int IntKind.i64 (OC.pa o r), AV.int IntKind.i64 (OC.ra o r), AV.int IntKind.i64 (OC.co o r)]) [] none), some (Blk.mk false [] (1 : Nat) pc (fun a => [AV.int IntKind.i64 (pr a)]) [] none),
          some (Blk.mk true [AV.int IntKind.i64 G, AV.sl (1 : Nat) (0 : Nat) (8 : Nat) (0 : Nat) len cap] (0 : Nat) (0 : Nat) (fun x => []) [] none)])
      (T.need (IntRow IntKind.i64 (Blk.mk false [] (1 : Nat) pc (fun a => [AV.int IntKind.i64 (pr a)]) [] none) ∧ pc = pc ∧ np ≤ pc ∧ (2 : Nat) ≠ (0 : Nat) ∧ (2 : Nat) ≠ (1 : Nat))
        (T.need (tgU np (usG x len op) (List.length (usL x len op)))
          (T.ite (decide (List.length (usL x len op) = (0 : Nat)))
            (T.need (G = G ∧ len = len ∧ cap = cap)
              (T.need
                (spIn x o cap
                  [some (Blk.mk false [] (0 : Nat) (0 : Nat) (fun x => []) [] (some fun js => Mem.mk (FD.nl x js) (FD.ad x js) (FD.ln x js) (FD.cp x js) (1 : Nat) fun q => [AV.int IntKind.i64 (FD.z x (q :: js))])),
                    some (Blk.mk false [] (8 : Nat) cap (fun r => [AV.int IntKind.i64 (OC.kd o r), AV.part (0 : Nat) [r], AV.int IntKind.i64 (OC.fo o r), AV.int IntKind.i64 (OC.fa o r), AV.int IntKind.i64 (OC.fb o r), AV.int IntKind.i64 (OC.pa o r), AV.int IntKind.i64 (OC.ra o r), AV.int IntKind.i64 (OC.co o r)]) [] none),
                    some (Blk.mk false [] (1 : Nat) pc (fun a => [AV.int IntKind.i64 (pr a)]) [] none), some (Blk.mk true [AV.int IntKind.i64 G, AV.sl (1 : Nat) (0 : Nat) (8 : Nat) (0 : Nat) len cap] (0 : Nat) (0 : Nat) (fun x => []) [] none)])
                (T.ite (decide (List.length (usL x len op) = (0 : Nat)))
                  (@T.chk (Ex × St) true
                    (T.chk (decide ((0 : Int) ≤ op) && decide (op < (↑len : Int)))
                      (T.chk (decide ((0 : Nat) + Int.toNat op < cap))
                        (T.ite (OC.kd o ((0 : Nat) + Int.toNat op) == (8 : Int))
                          (@T.chk (Ex × St) true
                            (T.ret
                              (Ex.norm,
                                St.mk [((1 : Nat), AV.sl (2 : Nat) (0 : Nat) (1 : Nat) (0 : Nat) np pc), ((2 : Nat), AV.int IntKind.i64 op), ((4 : Nat), AV.int IntKind.i64 other), ((5 : Nat), AV.ptr (3 : Nat) (0 : Nat) (0 : Nat) (0 : Nat)), ((11 : Nat), AV.nils), ((12 : Nat), AV.nils), ((13 : Nat), AV.int IntKind.i64 (ofG key G)), ((14 : Nat), AV.int IntKind.i64 (0 : Int))]
                                  [some (Blk.mk false [] (0 : Nat) (0 : Nat) (fun x => []) [] (some fun js => Mem.mk (FD.nl x js) (FD.ad x js) (FD.ln x js) (FD.cp x js) (1 : Nat) fun q => [AV.int IntKind.i64 (FD.z x (q :: js))])),
                                    some (Blk.mk false [] (8 : Nat) cap (fun r => [AV.int IntKind.i64 (OC.kd o r), AV.part (0 : Nat) [r], AV.int IntKind.i64 (OC.fo o r), AV.int IntKind.i64 (OC.fa o r), AV.int IntKind.i64 (OC.fb o r), AV.int IntKind.i64 (OC.pa o r), AV.int IntKind.i64 (OC.ra o r), AV.int IntKind.i64 (OC.co o r)]) [] none),
                                    some (Blk.mk false [] (1 : Nat) pc (fun a => [AV.int IntKind.i64 (pr a)]) [] none), some (Blk.mk true [AV.int IntKind.i64 G, AV.sl (1 : Nat) (0 : Nat) (8 : Nat) (0 : Nat) len cap] (0 : Nat) (0 : Nat) (fun x => []) [] none)])))
                          (T.ret
                            (Ex.norm,
                              St.mk [((1 : Nat), AV.sl (2 : Nat) (0 : Nat) (1 : Nat) (0 : Nat) np pc), ((2 : Nat), AV.int IntKind.i64 op), ((4 : Nat), AV.int IntKind.i64 other), ((5 : Nat), AV.ptr (3 : Nat) (0 : Nat) (0 : Nat) (0 : Nat)), ((11 : Nat), AV.nils), ((12 : Nat), AV.nils), ((13 : Nat), AV.int IntKind.i64 (ofG key G)), ((14 : Nat), AV.int IntKind.i64 (0 : Int))]
                                [some (Blk.mk false [] (0 : Nat) (0 : Nat) (fun x => []) [] (some fun js => Mem.mk (FD.nl x js) (FD.ad x js) (FD.ln x js) (FD.cp x js) (1 : Nat) fun q => [AV.int IntKind.i64 (FD.z x (q :: js))])),
                                  some (Blk.mk false [] (8 : Nat) cap (fun r => [AV.int IntKind.i64 (OC.kd o r), AV.part (0 : Nat) [r], AV.int IntKind.i64 (OC.fo o r), AV.int IntKind.i64 (OC.fa o r), AV.int IntKind.i64 (OC.fb o r), AV.int IntKind.i64 (OC.pa o r), AV.int IntKind.i64 (OC.ra o r), AV.int IntKind.i64 (OC.co o r)]) [] none),
                                  some (Blk.mk false [] (1 : Nat) pc (fun a => [AV.int IntKind.i64 (pr a)]) [] none), some (Blk.mk true [AV.int IntKind.i64 G, AV.sl (1 : Nat) (0 : Nat) (8 : Nat) (0 : Nat) len cap] (0 : Nat) (0 : Nat) (fun x => []) [] none)]))))))
                  (T.all fun c =>
                    T.asm (decide (List.length (usL x len op) ≤ c))
                      (T.ite ((0 : Int) != (↑(List.length (usL x len op)) : Int))
                        (T.ret
                          (Ex.ret,
                            St.mk [((1 : Nat), AV.sl (2 : Nat) (0 : Nat) (1 : Nat) (0 : Nat) np pc), ((2 : Nat), AV.int IntKind.i64 op), ((4 : Nat), AV.int IntKind.i64 other), ((5 : Nat), AV.ptr (3 : Nat) (0 : Nat) (0 : Nat) (0 : Nat)), ((10 : Nat), AV.ff), ((11 : Nat), AV.nils), ((12 : Nat), AV.sl (4 : Nat) (0 : Nat) (1 : Nat) (0 : Nat) (List.length (usL x len op)) c)]
                              [some (Blk.mk false [] (0 : Nat) (0 : Nat) (fun x => []) [] (some fun js => Mem.mk (FD.nl x js) (FD.ad x js) (FD.ln x js) (FD.cp x js) (1 : Nat) fun q => [AV.int IntKind.i64 (FD.z x (q :: js))])),
                                some (Blk.mk false [] (8 : Nat) cap (fun r => [AV.int IntKind.i64 (OC.kd o r), AV.part (0 : Nat) [r], AV.int IntKind.i64 (OC.fo o r), AV.int IntKind.i64 (OC.fa o r), AV.int IntKind.i64 (OC.fb o r), AV.int IntKind.i64 (OC.pa o r), AV.int IntKind.i64 (OC.ra o r), AV.int IntKind.i64 (OC.co o r)]) [] none),
                                some (Blk.mk false [] (1 : Nat) pc (fun a => [AV.int IntKind.i64 (pr a)]) [] none), some (Blk.mk true [AV.int IntKind.i64 G, AV.sl (1 : Nat) (0 : Nat) (8 : Nat) (0 : Nat) len cap] (0 : Nat) (0 : Nat) (fun x => []) [] none),
                                some (Blk.mk true [] (1 : Nat) c (fun j => [AV.int IntKind.i64 (if j < List.length (usL x len op) then usG x len op j else (0 : Int))]) [] none)]))
                        (T.chk (decide ((0 : Int) ≤ op) && decide (op < (↑len : Int)))
                          (T.chk (decide ((0 : Nat) + Int.toNat op < cap))
                            (T.ite (OC.kd o ((0 : Nat) + Int.toNat op) == (8 : Int))
                              (@T.chk (Ex × St) true
                                (T.ret
                                  (Ex.norm,
                                    St.mk
                                      [((1 : Nat), AV.sl (2 : Nat) (0 : Nat) (1 : Nat) (0 : Nat) np pc), ((2 : Nat), AV.int IntKind.i64 op), ((4 : Nat), AV.int IntKind.i64 other), ((5 : Nat), AV.ptr (3 : Nat) (0 : Nat) (0 : Nat) (0 : Nat)), ((11 : Nat), AV.nils), ((12 : Nat), AV.sl (4 : Nat) (0 : Nat) (1 : Nat) (0 : Nat) (List.length (usL x len op)) c), ((13 : Nat), AV.int IntKind.i64 (ofG key G)),
                                        ((14 : Nat), AV.int IntKind.i64 (0 : Int))]
                                      [some (Blk.mk false [] (0 : Nat) (0 : Nat) (fun x => []) [] (some fun js => Mem.mk (FD.nl x js) (FD.ad x js) (FD.ln x js) (FD.cp x js) (1 : Nat) fun q => [AV.int IntKind.i64 (FD.z x (q :: js))])),
                                        some (Blk.mk false [] (8 : Nat) cap (fun r => [AV.int IntKind.i64 (OC.kd o r), AV.part (0 : Nat) [r], AV.int IntKind.i64 (OC.fo o r), AV.int IntKind.i64 (OC.fa o r), AV.int IntKind.i64 (OC.fb o r), AV.int IntKind.i64 (OC.pa o r), AV.int IntKind.i64 (OC.ra o r), AV.int IntKind.i64 (OC.co o r)]) [] none),
                                        some (Blk.mk false [] (1 : Nat) pc (fun a => [AV.int IntKind.i64 (pr a)]) [] none), some (Blk.mk true [AV.int IntKind.i64 G, AV.sl (1 : Nat) (0 : Nat) (8 : Nat) (0 : Nat) len cap] (0 : Nat) (0 : Nat) (fun x => []) [] none),
                                        some (Blk.mk true [] (1 : Nat) c (fun j => [AV.int IntKind.i64 (if j < List.length (usL x len op) then usG x len op j else (0 : Int))]) [] none)])))
                              (T.ret
                                (Ex.norm,
                                  St.mk
                                    [((1 : Nat), AV.sl (2 : Nat) (0 : Nat) (1 : Nat) (0 : Nat) np pc), ((2 : Nat), AV.int IntKind.i64 op), ((4 : Nat), AV.int IntKind.i64 other), ((5 : Nat), AV.ptr (3 : Nat) (0 : Nat) (0 : Nat) (0 : Nat)), ((11 : Nat), AV.nils), ((12 : Nat), AV.sl (4 : Nat) (0 : Nat) (1 : Nat) (0 : Nat) (List.length (usL x len op)) c), ((13 : Nat), AV.int IntKind.i64 (ofG key G)),
                                      ((14 : Nat), AV.int IntKind.i64 (0 : Int))]
                                    [some (Blk.mk false [] (0 : Nat) (0 : Nat) (fun x => []) [] (some fun js => Mem.mk (FD.nl x js) (FD.ad x js) (FD.ln x js) (FD.cp x js) (1 : Nat) fun q => [AV.int IntKind.i64 (FD.z x (q :: js))])),
                                      some (Blk.mk false [] (8 : Nat) cap (fun r => [AV.int IntKind.i64 (OC.kd o r), AV.part (0 : Nat) [r], AV.int IntKind.i64 (OC.fo o r), AV.int IntKind.i64 (OC.fa o r), AV.int IntKind.i64 (OC.fb o r), AV.int IntKind.i64 (OC.pa o r), AV.int IntKind.i64 (OC.ra o r), AV.int IntKind.i64 (OC.co o r)]) [] none),
                                      some (Blk.mk false [] (1 : Nat) pc (fun a => [AV.int IntKind.i64 (pr a)]) [] none), some (Blk.mk true [AV.int IntKind.i64 G, AV.sl (1 : Nat) (0 : Nat) (8 : Nat) (0 : Nat) len cap] (0 : Nat) (0 : Nat) (fun x => []) [] none),
                                      some (Blk.mk true [] (1 : Nat) c (fun j => [AV.int IntKind.i64 (if j < List.length (usL x len op) then usG x len op j else (0 : Int))]) [] none)]))))))))))
            (T.all fun c =>
              T.asm (decide (List.length (usL x len op) ≤ c))
                (T.need (G = G ∧ len = len ∧ cap = cap)
                  (T.need
                    (spIn x o cap
                      [some (Blk.mk false [] (0 : Nat) (0 : Nat) (fun x => []) [] (some fun js => Mem.mk (FD.nl x js) (FD.ad x js) (FD.ln x js) (FD.cp x js) (1 : Nat) fun q => [AV.int IntKind.i64 (FD.z x (q :: js))])),
                        some (Blk.mk false [] (8 : Nat) cap (fun r => [AV.int IntKind.i64 (OC.kd o r), AV.part (0 : Nat) [r], AV.int IntKind.i64 (OC.fo o r), AV.int IntKind.i64 (OC.fa o r), AV.int IntKind.i64 (OC.fb o r), AV.int IntKind.i64 (OC.pa o r), AV.int IntKind.i64 (OC.ra o r), AV.int IntKind.i64 (OC.co o r)]) [] none),
                        some (Blk.mk false [] (1 : Nat) pc (fun a => [AV.int IntKind.i64 (pr a)]) [] none), some (Blk.mk true [AV.int IntKind.i64 G, AV.sl (1 : Nat) (0 : Nat) (8 : Nat) (0 : Nat) len cap] (0 : Nat) (0 : Nat) (fun x => []) [] none),
                        some (Blk.mk true [] (2 : Nat) c (fun j => [AV.int IntKind.i64 (if j < List.length (usL x len op) then usG x len op j else (0 : Int)), AV.int IntKind.i64 (if j < List.length (usL x len op) then owAt G key pr (usG x len op) j else (0 : Int))]) [] none)])
                    (T.ite (decide (List.length (usL x len op) = (0 : Nat)))
                      (T.ite ((↑(List.length (usL x len op)) : Int) != (0 : Int))
                        (T.ret
                          (Ex.ret,
                            St.mk [((1 : Nat), AV.sl (2 : Nat) (0 : Nat) (1 : Nat) (0 : Nat) np pc), ((2 : Nat), AV.int IntKind.i64 op), ((4 : Nat), AV.int IntKind.i64 other), ((5 : Nat), AV.ptr (3 : Nat) (0 : Nat) (0 : Nat) (0 : Nat)), ((10 : Nat), AV.ff), ((11 : Nat), AV.sl (4 : Nat) (0 : Nat) (2 : Nat) (0 : Nat) (List.length (usL x len op)) c), ((12 : Nat), AV.nils)]
                              [some (Blk.mk false [] (0 : Nat) (0 : Nat) (fun x => []) [] (some fun js => Mem.mk (FD.nl x js) (FD.ad x js) (FD.ln x js) (FD.cp x js) (1 : Nat) fun q => [AV.int IntKind.i64 (FD.z x (q :: js))])),
                                some (Blk.mk false [] (8 : Nat) cap (fun r => [AV.int IntKind.i64 (OC.kd o r), AV.part (0 : Nat) [r], AV.int IntKind.i64 (OC.fo o r), AV.int IntKind.i64 (OC.fa o r), AV.int IntKind.i64 (OC.fb o r), AV.int IntKind.i64 (OC.pa o r), AV.int IntKind.i64 (OC.ra o r), AV.int IntKind.i64 (OC.co o r)]) [] none),
                                some (Blk.mk false [] (1 : Nat) pc (fun a => [AV.int IntKind.i64 (pr a)]) [] none), some (Blk.mk true [AV.int IntKind.i64 G, AV.sl (1 : Nat) (0 : Nat) (8 : Nat) (0 : Nat) len cap] (0 : Nat) (0 : Nat) (fun x => []) [] none),
                                some (Blk.mk true [] (2 : Nat) c (fun j => [AV.int IntKind.i64 (if j < List.length (usL x len op) then usG x len op j else (0 : Int)), AV.int IntKind.i64 (if j < List.length (usL x len op) then owAt G key pr (usG x len op) j else (0 : Int))]) [] none)]))
                        (T.chk (decide ((0 : Int) ≤ op) && decide (op < (↑len : Int)))
                          (T.chk (decide ((0 : Nat) + Int.toNat op < cap))
                            (T.ite (OC.kd o ((0 : Nat) + Int.toNat op) == (8 : Int))
                              (T.ite ((↑(List.length (usL x len op)) : Int) != (0 : Int))
                                (T.ret
                                  (Ex.ret,
                                    St.mk [((1 : Nat), AV.sl (2 : Nat) (0 : Nat) (1 : Nat) (0 : Nat) np pc), ((2 : Nat), AV.int IntKind.i64 op), ((4 : Nat), AV.int IntKind.i64 other), ((5 : Nat), AV.ptr (3 : Nat) (0 : Nat) (0 : Nat) (0 : Nat)), ((10 : Nat), AV.ff), ((11 : Nat), AV.sl (4 : Nat) (0 : Nat) (2 : Nat) (0 : Nat) (List.length (usL x len op)) c), ((12 : Nat), AV.nils)]
                                      [some (Blk.mk false [] (0 : Nat) (0 : Nat) (fun x => []) [] (some fun js => Mem.mk (FD.nl x js) (FD.ad x js) (FD.ln x js) (FD.cp x js) (1 : Nat) fun q => [AV.int IntKind.i64 (FD.z x (q :: js))])),
                                        some (Blk.mk false [] (8 : Nat) cap (fun r => [AV.int IntKind.i64 (OC.kd o r), AV.part (0 : Nat) [r], AV.int IntKind.i64 (OC.fo o r), AV.int IntKind.i64 (OC.fa o r), AV.int IntKind.i64 (OC.fb o r), AV.int IntKind.i64 (OC.pa o r), AV.int IntKind.i64 (OC.ra o r), AV.int IntKind.i64 (OC.co o r)]) [] none),
                                        some (Blk.mk false [] (1 : Nat) pc (fun a => [AV.int IntKind.i64 (pr a)]) [] none), some (Blk.mk true [AV.int IntKind.i64 G, AV.sl (1 : Nat) (0 : Nat) (8 : Nat) (0 : Nat) len cap] (0 : Nat) (0 : Nat) (fun x => []) [] none),
                                        some (Blk.mk true [] (2 : Nat) c (fun j => [AV.int IntKind.i64 (if j < List.length (usL x len op) then usG x len op j else (0 : Int)), AV.int IntKind.i64 (if j < List.length (usL x len op) then owAt G key pr (usG x len op) j else (0 : Int))]) [] none)]))
                                (T.ret
                                  (Ex.norm,
                                    St.mk
                                      [((1 : Nat), AV.sl (2 : Nat) (0 : Nat) (1 : Nat) (0 : Nat) np pc), ((2 : Nat), AV.int IntKind.i64 op), ((4 : Nat), AV.int IntKind.i64 other), ((5 : Nat), AV.ptr (3 : Nat) (0 : Nat) (0 : Nat) (0 : Nat)), ((11 : Nat), AV.sl (4 : Nat) (0 : Nat) (2 : Nat) (0 : Nat) (List.length (usL x len op)) c), ((12 : Nat), AV.nils), ((13 : Nat), AV.int IntKind.i64 (ofG key G)),
                                        ((14 : Nat), AV.int IntKind.i64 (0 : Int))]
                                      [some (Blk.mk false [] (0 : Nat) (0 : Nat) (fun x => []) [] (some fun js => Mem.mk (FD.nl x js) (FD.ad x js) (FD.ln x js) (FD.cp x js) (1 : Nat) fun q => [AV.int IntKind.i64 (FD.z x (q :: js))])),
                                        some (Blk.mk false [] (8 : Nat) cap (fun r => [AV.int IntKind.i64 (OC.kd o r), AV.part (0 : Nat) [r], AV.int IntKind.i64 (OC.fo o r), AV.int IntKind.i64 (OC.fa o r), AV.int IntKind.i64 (OC.fb o r), AV.int IntKind.i64 (OC.pa o r), AV.int IntKind.i64 (OC.ra o r), AV.int IntKind.i64 (OC.co o r)]) [] none),
                                        some (Blk.mk false [] (1 : Nat) pc (fun a => [AV.int IntKind.i64 (pr a)]) [] none), some (Blk.mk true [AV.int IntKind.i64 G, AV.sl (1 : Nat) (0 : Nat) (8 : Nat) (0 : Nat) len cap] (0 : Nat) (0 : Nat) (fun x => []) [] none),
                                        some (Blk.mk true [] (2 : Nat) c (fun j => [AV.int IntKind.i64 (if j < List.length (usL x len op) then usG x len op j else (0 : Int)), AV.int IntKind.i64 (if j < List.length (usL x len op) then owAt G key pr (usG x len op) j else (0 : Int))]) [] none)])))
                              (T.ret
                                (Ex.norm,
                                  St.mk
                                    [((1 : Nat), AV.sl (2 : Nat) (0 : Nat) (1 : Nat) (0 : Nat) np pc), ((2 : Nat), AV.int IntKind.i64 op), ((4 : Nat), AV.int IntKind.i64 other), ((5 : Nat), AV.ptr (3 : Nat) (0 : Nat) (0 : Nat) (0 : Nat)), ((11 : Nat), AV.sl (4 : Nat) (0 : Nat) (2 : Nat) (0 : Nat) (List.length (usL x len op)) c), ((12 : Nat), AV.nils), ((13 : Nat), AV.int IntKind.i64 (ofG key G)),
                                      ((14 : Nat), AV.int IntKind.i64 (0 : Int))]
                                    [some (Blk.mk false [] (0 : Nat) (0 : Nat) (fun x => []) [] (some fun js => Mem.mk (FD.nl x js) (FD.ad x js) (FD.ln x js) (FD.cp x js) (1 : Nat) fun q => [AV.int IntKind.i64 (FD.z x (q :: js))])),
                                      some (Blk.mk false [] (8 : Nat) cap (fun r => [AV.int IntKind.i64 (OC.kd o r), AV.part (0 : Nat) [r], AV.int IntKind.i64 (OC.fo o r), AV.int IntKind.i64 (OC.fa o r), AV.int IntKind.i64 (OC.fb o r), AV.int IntKind.i64 (OC.pa o r), AV.int IntKind.i64 (OC.ra o r), AV.int IntKind.i64 (OC.co o r)]) [] none),
                                      some (Blk.mk false [] (1 : Nat) pc (fun a => [AV.int IntKind.i64 (pr a)]) [] none), some (Blk.mk true [AV.int IntKind.i64 G, AV.sl (1 : Nat) (0 : Nat) (8 : Nat) (0 : Nat) len cap] (0 : Nat) (0 : Nat) (fun x => []) [] none),
                                      some (Blk.mk true [] (2 : Nat) c (fun j => [AV.int IntKind.i64 (if j < List.length (usL x len op) then usG x len op j else (0 : Int)), AV.int IntKind.i64 (if j < List.length (usL x len op) then owAt G key pr (usG x len op) j else (0 : Int))]) [] none)]))))))
                      (T.all fun c_1 =>
                        T.asm (decide (List.length (usL x len op) ≤ c_1))
                          (T.ite ((↑(List.length (usL x len op)) : Int) != (↑(List.length (usL x len op)) : Int))
                            (T.ret
                              (Ex.ret,
                                St.mk
                                  [((1 : Nat), AV.sl (2 : Nat) (0 : Nat) (1 : Nat) (0 : Nat) np pc), ((2 : Nat), AV.int IntKind.i64 op), ((4 : Nat), AV.int IntKind.i64 other), ((5 : Nat), AV.ptr (3 : Nat) (0 : Nat) (0 : Nat) (0 : Nat)), ((10 : Nat), AV.ff), ((11 : Nat), AV.sl (4 : Nat) (0 : Nat) (2 : Nat) (0 : Nat) (List.length (usL x len op)) c),
                                    ((12 : Nat), AV.sl (5 : Nat) (0 : Nat) (1 : Nat) (0 : Nat) (List.length (usL x len op)) c_1)]
                                  [some (Blk.mk false [] (0 : Nat) (0 : Nat) (fun x => []) [] (some fun js => Mem.mk (FD.nl x js) (FD.ad x js) (FD.ln x js) (FD.cp x js) (1 : Nat) fun q => [AV.int IntKind.i64 (FD.z x (q :: js))])),
                                    some (Blk.mk false [] (8 : Nat) cap (fun r => [AV.int IntKind.i64 (OC.kd o r), AV.part (0 : Nat) [r], AV.int IntKind.i64 (OC.fo o r), AV.int IntKind.i64 (OC.fa o r), AV.int IntKind.i64 (OC.fb o r), AV.int IntKind.i64 (OC.pa o r), AV.int IntKind.i64 (OC.ra o r), AV.int IntKind.i64 (OC.co o r)]) [] none),
                                    some (Blk.mk false [] (1 : Nat) pc (fun a => [AV.int IntKind.i64 (pr a)]) [] none), some (Blk.mk true [AV.int IntKind.i64 G, AV.sl (1 : Nat) (0 : Nat) (8 : Nat) (0 : Nat) len cap] (0 : Nat) (0 : Nat) (fun x => []) [] none),
                                    some (Blk.mk true [] (2 : Nat) c (fun j => [AV.int IntKind.i64 (if j < List.length (usL x len op) then usG x len op j else (0 : Int)), AV.int IntKind.i64 (if j < List.length (usL x len op) then owAt G key pr (usG x len op) j else (0 : Int))]) [] none),
                                    some (Blk.mk true [] (1 : Nat) c_1 (fun j => [AV.int IntKind.i64 (if j < List.length (usL x len op) then usG x len op j else (0 : Int))]) [] none)]))
                            (T.chk (decide ((0 : Int) ≤ op) && decide (op < (↑len : Int)))
                              (T.chk (decide ((0 : Nat) + Int.toNat op < cap))
                                (T.ite (OC.kd o ((0 : Nat) + Int.toNat op) == (8 : Int))
                                  (T.ite ((↑(List.length (usL x len op)) : Int) != (0 : Int))
                                    (T.ret
                                      (Ex.ret,
                                        St.mk
                                          [((1 : Nat), AV.sl (2 : Nat) (0 : Nat) (1 : Nat) (0 : Nat) np pc), ((2 : Nat), AV.int IntKind.i64 op), ((4 : Nat), AV.int IntKind.i64 other), ((5 : Nat), AV.ptr (3 : Nat) (0 : Nat) (0 : Nat) (0 : Nat)), ((10 : Nat), AV.ff), ((11 : Nat), AV.sl (4 : Nat) (0 : Nat) (2 : Nat) (0 : Nat) (List.length (usL x len op)) c),
                                            ((12 : Nat), AV.sl (5 : Nat) (0 : Nat) (1 : Nat) (0 : Nat) (List.length (usL x len op)) c_1)]
                                          [some (Blk.mk false [] (0 : Nat) (0 : Nat) (fun x => []) [] (some fun js => Mem.mk (FD.nl x js) (FD.ad x js) (FD.ln x js) (FD.cp x js) (1 : Nat) fun q => [AV.int IntKind.i64 (FD.z x (q :: js))])),
                                            some (Blk.mk false [] (8 : Nat) cap (fun r => [AV.int IntKind.i64 (OC.kd o r), AV.part (0 : Nat) [r], AV.int IntKind.i64 (OC.fo o r), AV.int IntKind.i64 (OC.fa o r), AV.int IntKind.i64 (OC.fb o r), AV.int IntKind.i64 (OC.pa o r), AV.int IntKind.i64 (OC.ra o r), AV.int IntKind.i64 (OC.co o r)]) [] none),
                                            some (Blk.mk false [] (1 : Nat) pc (fun a => [AV.int IntKind.i64 (pr a)]) [] none), some (Blk.mk true [AV.int IntKind.i64 G, AV.sl (1 : Nat) (0 : Nat) (8 : Nat) (0 : Nat) len cap] (0 : Nat) (0 : Nat) (fun x => []) [] none),
                                            some (Blk.mk true [] (2 : Nat) c (fun j => [AV.int IntKind.i64 (if j < List.length (usL x len op) then usG x len op j else (0 : Int)), AV.int IntKind.i64 (if j < List.length (usL x len op) then owAt G key pr (usG x len op) j else (0 : Int))]) [] none),
                                            some (Blk.mk true [] (1 : Nat) c_1 (fun j => [AV.int IntKind.i64 (if j < List.length (usL x len op) then usG x len op j else (0 : Int))]) [] none)]))
                                    (T.ret
                                      (Ex.norm,
                                        St.mk
                                          [((1 : Nat), AV.sl (2 : Nat) (0 : Nat) (1 : Nat) (0 : Nat) np pc), ((2 : Nat), AV.int IntKind.i64 op), ((4 : Nat), AV.int IntKind.i64 other), ((5 : Nat), AV.ptr (3 : Nat) (0 : Nat) (0 : Nat) (0 : Nat)), ((11 : Nat), AV.sl (4 : Nat) (0 : Nat) (2 : Nat) (0 : Nat) (List.length (usL x len op)) c),
                                            ((12 : Nat), AV.sl (5 : Nat) (0 : Nat) (1 : Nat) (0 : Nat) (List.length (usL x len op)) c_1), ((13 : Nat), AV.int IntKind.i64 (ofG key G)), ((14 : Nat), AV.int IntKind.i64 (0 : Int))]
                                          [some (Blk.mk false [] (0 : Nat) (0 : Nat) (fun x => []) [] (some fun js => Mem.mk (FD.nl x js) (FD.ad x js) (FD.ln x js) (FD.cp x js) (1 : Nat) fun q => [AV.int IntKind.i64 (FD.z x (q :: js))])),
                                            some (Blk.mk false [] (8 : Nat) cap (fun r => [AV.int IntKind.i64 (OC.kd o r), AV.part (0 : Nat) [r], AV.int IntKind.i64 (OC.fo o r), AV.int IntKind.i64 (OC.fa o r), AV.int IntKind.i64 (OC.fb o r), AV.int IntKind.i64 (OC.pa o r), AV.int IntKind.i64 (OC.ra o r), AV.int IntKind.i64 (OC.co o r)]) [] none),
                                            some (Blk.mk false [] (1 : Nat) pc (fun a => [AV.int IntKind.i64 (pr a)]) [] none), some (Blk.mk true [AV.int IntKind.i64 G, AV.sl (1 : Nat) (0 : Nat) (8 : Nat) (0 : Nat) len cap] (0 : Nat) (0 : Nat) (fun x => []) [] none),
                                            some (Blk.mk true [] (2 : Nat) c (fun j => [AV.int IntKind.i64 (if j < List.length (usL x len op) then usG x len op j else (0 : Int)), AV.int IntKind.i64 (if j < List.length (usL x len op) then owAt G key pr (usG x len op) j else (0 : Int))]) [] none),
                                            some (Blk.mk true [] (1 : Nat) c_1 (fun j => [AV.int IntKind.i64 (if j < List.length (usL x len op) then usG x len op j else (0 : Int))]) [] none)])))
                                  (T.ret
                                    (Ex.norm,
                                      St.mk
                                        [((1 : Nat), AV.sl (2 : Nat) (0 : Nat) (1 : Nat) (0 : Nat) np pc), ((2 : Nat), AV.int IntKind.i64 op), ((4 : Nat), AV.int IntKind.i64 other), ((5 : Nat), AV.ptr (3 : Nat) (0 : Nat) (0 : Nat) (0 : Nat)), ((11 : Nat), AV.sl (4 : Nat) (0 : Nat) (2 : Nat) (0 : Nat) (List.length (usL x len op)) c),
                                          ((12 : Nat), AV.sl (5 : Nat) (0 : Nat) (1 : Nat) (0 : Nat) (List.length (usL x len op)) c_1), ((13 : Nat), AV.int IntKind.i64 (ofG key G)), ((14 : Nat), AV.int IntKind.i64 (0 : Int))]
                                        [some (Blk.mk false [] (0 : Nat) (0 : Nat) (fun x => []) [] (some fun js => Mem.mk (FD.nl x js) (FD.ad x js) (FD.ln x js) (FD.cp x js) (1 : Nat) fun q => [AV.int IntKind.i64 (FD.z x (q :: js))])),
                                          some (Blk.mk false [] (8 : Nat) cap (fun r => [AV.int IntKind.i64 (OC.kd o r), AV.part (0 : Nat) [r], AV.int IntKind.i64 (OC.fo o r), AV.int IntKind.i64 (OC.fa o r), AV.int IntKind.i64 (OC.fb o r), AV.int IntKind.i64 (OC.pa o r), AV.int IntKind.i64 (OC.ra o r), AV.int IntKind.i64 (OC.co o r)]) [] none),
                                          some (Blk.mk false [] (1 : Nat) pc (fun a => [AV.int IntKind.i64 (pr a)]) [] none), some (Blk.mk true [AV.int IntKind.i64 G, AV.sl (1 : Nat) (0 : Nat) (8 : Nat) (0 : Nat) len cap] (0 : Nat) (0 : Nat) (fun x => []) [] none),
                                          some (Blk.mk true [] (2 : Nat) c (fun j => [AV.int IntKind.i64 (if j < List.length (usL x len op) then usG x len op j else (0 : Int)), AV.int IntKind.i64 (if j < List.length (usL x len op) then owAt G key pr (usG x len op) j else (0 : Int))]) [] none),
                                          some (Blk.mk true [] (1 : Nat) c_1 (fun j => [AV.int IntKind.i64 (if j < List.length (usL x len op) then usG x len op j else (0 : Int))]) [] none)]))))))))))))))) := by
  kernel_rfl

theorem wy_n (x : FD) (o : OC) (G g other op : Int) (len cap : Nat) (pr : Nat → Int) (np pc : Nat) : T.cut (keepT [1, 2, 4, 5, 11, 13, 14] (acode Try.prog (wyE2 x o G len cap) wyC (wySn x o G g other op len cap pr np pc))) [0] = 
  @T.chk (Ex × St) true
    (T.ret
      (Ex.exit (0 : Nat),
        St.mk [((1 : Nat), AV.sl (2 : Nat) (0 : Nat) (1 : Nat) (0 : Nat) np pc), ((2 : Nat), AV.int IntKind.i64 op), ((4 : Nat), AV.int IntKind.i64 other), ((5 : Nat), AV.ptr (3 : Nat) (0 : Nat) (0 : Nat) (0 : Nat)), ((11 : Nat), AV.nils), ((13 : Nat), AV.int IntKind.i64 g), ((14 : Nat), AV.int IntKind.i64 (0 : Int))]
          [some (Blk.mk false [] (0 : Nat) (0 : Nat) (fun x => []) [] (some fun js => Mem.mk (FD.nl x js) (FD.ad x js) (FD.ln x js) (FD.cp x js) (1 : Nat) fun q => [AV.int IntKind.i64 (FD.z x (q :: js))])),
            some (Blk.mk false [] (8 : Nat) cap (fun r => [AV.int IntKind.i64 (OC.kd o r), AV.part (0 : Nat) [r], AV.int IntKind.i64 (OC.fo o r), AV.int IntKind.i64 (OC.fa o r), AV.int IntKind.i64 (OC.fb o r), AV.int IntKind.i64 (OC.pa o r), AV.int IntKind.i64 (OC.ra o r), AV.int IntKind.i64 (OC.co o r)]) [] none), some (Blk.mk false [] (1 : Nat) pc (fun a => [AV.int IntKind.i64 (pr a)]) [] none),
            some (Blk.mk true [AV.int IntKind.i64 G, AV.sl (1 : Nat) (0 : Nat) (8 : Nat) (0 : Nat) len cap] (0 : Nat) (0 : Nat) (fun x => []) [] none)])) := by
  kernel_rfl

theorem wy_t (x : FD) (o : OC) (G g other op : Int) (len cap : Nat) (pr : Nat → Int) (np pc : Nat) (u U : Nat → Int) (un c d i : Nat) : T.cut (keepT [1, 2, 4, 5, 10, 11, 12, 13, 14] (acode Try.prog (wyE2 x o G len cap) wyC (wySy x o G g other op len cap pr np pc u U un c d i))) [2, 10, 2, 0, 2, 0, 2, 0, 2, 0, 2, 0] = 
  T.ite (decide ((↑i : Int) < (↑un : Int)))
    (T.chk (decide ((0 : Int) ≤ (↑i : Int)) && decide ((↑i : Int) < (↑un : Int)))
      (T.chk (decide ((0 : Nat) + Int.toNat (↑i : Int) < c))
        (T.chk (decide ((0 : Int) ≤ (↑i : Int)) && decide ((↑i : Int) < (↑un : Int)))
          (T.chk (decide ((0 : Nat) + Int.toNat (↑i : Int) < d))
            (T.ite ((if (0 : Nat) + Int.toNat (↑i : Int) < un then u ((0 : Nat) + Int.toNat (↑i : Int)) else (0 : Int)) != if (0 : Nat) + Int.toNat (↑i : Int) < un then u ((0 : Nat) + Int.toNat (↑i : Int)) else (0 : Int))
              (T.ret
                (Ex.ret,
                  St.mk
                    [((1 : Nat), AV.sl (2 : Nat) (0 : Nat) (1 : Nat) (0 : Nat) np pc), ((2 : Nat), AV.int IntKind.i64 op), ((4 : Nat), AV.int IntKind.i64 other), ((5 : Nat), AV.ptr (3 : Nat) (0 : Nat) (0 : Nat) (0 : Nat)), ((10 : Nat), AV.ff), ((11 : Nat), AV.sl (4 : Nat) (0 : Nat) (2 : Nat) (0 : Nat) un c), ((12 : Nat), AV.sl (5 : Nat) (0 : Nat) (1 : Nat) (0 : Nat) un d),
                      ((13 : Nat), AV.int IntKind.i64 g), ((14 : Nat), AV.int IntKind.i64 (↑i : Int))]
                    [some (Blk.mk false [] (0 : Nat) (0 : Nat) (fun x => []) [] (some fun js => Mem.mk (FD.nl x js) (FD.ad x js) (FD.ln x js) (FD.cp x js) (1 : Nat) fun q => [AV.int IntKind.i64 (FD.z x (q :: js))])),
                      some (Blk.mk false [] (8 : Nat) cap (fun r => [AV.int IntKind.i64 (OC.kd o r), AV.part (0 : Nat) [r], AV.int IntKind.i64 (OC.fo o r), AV.int IntKind.i64 (OC.fa o r), AV.int IntKind.i64 (OC.fb o r), AV.int IntKind.i64 (OC.pa o r), AV.int IntKind.i64 (OC.ra o r), AV.int IntKind.i64 (OC.co o r)]) [] none),
                      some (Blk.mk false [] (1 : Nat) pc (fun a => [AV.int IntKind.i64 (pr a)]) [] none), some (Blk.mk true [AV.int IntKind.i64 G, AV.sl (1 : Nat) (0 : Nat) (8 : Nat) (0 : Nat) len cap] (0 : Nat) (0 : Nat) (fun x => []) [] none),
                      some (Blk.mk true [] (2 : Nat) c (fun j => [AV.int IntKind.i64 (if j < un then u j else (0 : Int)), AV.int IntKind.i64 (if j < un then U j else (0 : Int))]) [] none), some (Blk.mk true [] (1 : Nat) d (fun r => [AV.int IntKind.i64 (if r < un then u r else (0 : Int))]) [] none)]))
              (T.chk (decide ((0 : Int) ≤ (↑i : Int)) && decide ((↑i : Int) < (↑un : Int)))
                (T.chk (decide ((0 : Nat) + Int.toNat (↑i : Int) < c))
                  (T.ite (decide ((if (0 : Nat) + Int.toNat (↑i : Int) < un then U ((0 : Nat) + Int.toNat (↑i : Int)) else (0 : Int)) < (0 : Int)))
                    (T.ret
                      (Ex.ret,
                        St.mk
                          [((1 : Nat), AV.sl (2 : Nat) (0 : Nat) (1 : Nat) (0 : Nat) np pc), ((2 : Nat), AV.int IntKind.i64 op), ((4 : Nat), AV.int IntKind.i64 other), ((5 : Nat), AV.ptr (3 : Nat) (0 : Nat) (0 : Nat) (0 : Nat)), ((10 : Nat), AV.ff), ((11 : Nat), AV.sl (4 : Nat) (0 : Nat) (2 : Nat) (0 : Nat) un c), ((12 : Nat), AV.sl (5 : Nat) (0 : Nat) (1 : Nat) (0 : Nat) un d),
                            ((13 : Nat), AV.int IntKind.i64 g), ((14 : Nat), AV.int IntKind.i64 (↑i : Int))]
                          [some (Blk.mk false [] (0 : Nat) (0 : Nat) (fun x => []) [] (some fun js => Mem.mk (FD.nl x js) (FD.ad x js) (FD.ln x js) (FD.cp x js) (1 : Nat) fun q => [AV.int IntKind.i64 (FD.z x (q :: js))])),
                            some (Blk.mk false [] (8 : Nat) cap (fun r => [AV.int IntKind.i64 (OC.kd o r), AV.part (0 : Nat) [r], AV.int IntKind.i64 (OC.fo o r), AV.int IntKind.i64 (OC.fa o r), AV.int IntKind.i64 (OC.fb o r), AV.int IntKind.i64 (OC.pa o r), AV.int IntKind.i64 (OC.ra o r), AV.int IntKind.i64 (OC.co o r)]) [] none),
                            some (Blk.mk false [] (1 : Nat) pc (fun a => [AV.int IntKind.i64 (pr a)]) [] none), some (Blk.mk true [AV.int IntKind.i64 G, AV.sl (1 : Nat) (0 : Nat) (8 : Nat) (0 : Nat) len cap] (0 : Nat) (0 : Nat) (fun x => []) [] none),
                            some (Blk.mk true [] (2 : Nat) c (fun j => [AV.int IntKind.i64 (if j < un then u j else (0 : Int)), AV.int IntKind.i64 (if j < un then U j else (0 : Int))]) [] none), some (Blk.mk true [] (1 : Nat) d (fun r => [AV.int IntKind.i64 (if r < un then u r else (0 : Int))]) [] none)]))
                    (T.chk (decide ((0 : Int) ≤ (↑i : Int)) && decide ((↑i : Int) < (↑un : Int)))
                      (T.chk (decide ((0 : Nat) + Int.toNat (↑i : Int) < c))
                        (T.chk (decide ((0 : Int) ≤ (↑i : Int)) && decide ((↑i : Int) < (↑un : Int)))
                          (T.chk (decide ((0 : Nat) + Int.toNat (↑i : Int) < d))
                            (T.chk (decide ((0 : Int) ≤ if (0 : Nat) + Int.toNat (↑i : Int) < un then u ((0 : Nat) + Int.toNat (↑i : Int)) else (0 : Int)) && decide ((if (0 : Nat) + Int.toNat (↑i : Int) < un then u ((0 : Nat) + Int.toNat (↑i : Int)) else (0 : Int)) < (↑np : Int)))
                              (T.chk (decide ((0 : Nat) + Int.toNat (if (0 : Nat) + Int.toNat (↑i : Int) < un then u ((0 : Nat) + Int.toNat (↑i : Int)) else (0 : Int)) < pc))
                                (T.ite (decide ((if (0 : Nat) + Int.toNat (↑i : Int) < un then U ((0 : Nat) + Int.toNat (↑i : Int)) else (0 : Int)) ≥ pr ((0 : Nat) + Int.toNat (if (0 : Nat) + Int.toNat (↑i : Int) < un then u ((0 : Nat) + Int.toNat (↑i : Int)) else (0 : Int)))))
                                  (T.ret
                                    (Ex.ret,
                                      St.mk
                                        [((1 : Nat), AV.sl (2 : Nat) (0 : Nat) (1 : Nat) (0 : Nat) np pc), ((2 : Nat), AV.int IntKind.i64 op), ((4 : Nat), AV.int IntKind.i64 other), ((5 : Nat), AV.ptr (3 : Nat) (0 : Nat) (0 : Nat) (0 : Nat)), ((10 : Nat), AV.ff), ((11 : Nat), AV.sl (4 : Nat) (0 : Nat) (2 : Nat) (0 : Nat) un c), ((12 : Nat), AV.sl (5 : Nat) (0 : Nat) (1 : Nat) (0 : Nat) un d),
                                          ((13 : Nat), AV.int IntKind.i64 g), ((14 : Nat), AV.int IntKind.i64 (↑i : Int))]
                                        [some (Blk.mk false [] (0 : Nat) (0 : Nat) (fun x => []) [] (some fun js => Mem.mk (FD.nl x js) (FD.ad x js) (FD.ln x js) (FD.cp x js) (1 : Nat) fun q => [AV.int IntKind.i64 (FD.z x (q :: js))])),
                                          some (Blk.mk false [] (8 : Nat) cap (fun r => [AV.int IntKind.i64 (OC.kd o r), AV.part (0 : Nat) [r], AV.int IntKind.i64 (OC.fo o r), AV.int IntKind.i64 (OC.fa o r), AV.int IntKind.i64 (OC.fb o r), AV.int IntKind.i64 (OC.pa o r), AV.int IntKind.i64 (OC.ra o r), AV.int IntKind.i64 (OC.co o r)]) [] none),
                                          some (Blk.mk false [] (1 : Nat) pc (fun a => [AV.int IntKind.i64 (pr a)]) [] none), some (Blk.mk true [AV.int IntKind.i64 G, AV.sl (1 : Nat) (0 : Nat) (8 : Nat) (0 : Nat) len cap] (0 : Nat) (0 : Nat) (fun x => []) [] none),
                                          some (Blk.mk true [] (2 : Nat) c (fun j => [AV.int IntKind.i64 (if j < un then u j else (0 : Int)), AV.int IntKind.i64 (if j < un then U j else (0 : Int))]) [] none), some (Blk.mk true [] (1 : Nat) d (fun r => [AV.int IntKind.i64 (if r < un then u r else (0 : Int))]) [] none)]))
                                  (T.chk (decide ((0 : Int) ≤ (↑i : Int)) && decide ((↑i : Int) < (↑un : Int)))
                                    (T.chk (decide ((0 : Nat) + Int.toNat (↑i : Int) < c))
                                      (T.chk (decide ((0 : Int) ≤ (↑i : Int)) && decide ((↑i : Int) < (↑un : Int)))
                                        (T.chk (decide ((0 : Nat) + Int.toNat (↑i : Int) < d))
                                          (T.chk (decide ((0 : Int) ≤ if (0 : Nat) + Int.toNat (↑i : Int) < un then u ((0 : Nat) + Int.toNat (↑i : Int)) else (0 : Int)) && decide ((if (0 : Nat) + Int.toNat (↑i : Int) < un then u ((0 : Nat) + Int.toNat (↑i : Int)) else (0 : Int)) < (↑np : Int)))
                                            (T.chk (decide ((0 : Nat) + Int.toNat (if (0 : Nat) + Int.toNat (↑i : Int) < un then u ((0 : Nat) + Int.toNat (↑i : Int)) else (0 : Int)) < pc))
                                              (T.ite (decide (g < rlo (if (0 : Nat) + Int.toNat (↑i : Int) < un then U ((0 : Nat) + Int.toNat (↑i : Int)) else (0 : Int)) (pr ((0 : Nat) + Int.toNat (if (0 : Nat) + Int.toNat (↑i : Int) < un then u ((0 : Nat) + Int.toNat (↑i : Int)) else (0 : Int)))) G))
                                                (T.ret
                                                  (Ex.ret,
                                                    St.mk
                                                      [((1 : Nat), AV.sl (2 : Nat) (0 : Nat) (1 : Nat) (0 : Nat) np pc), ((2 : Nat), AV.int IntKind.i64 op), ((4 : Nat), AV.int IntKind.i64 other), ((5 : Nat), AV.ptr (3 : Nat) (0 : Nat) (0 : Nat) (0 : Nat)), ((10 : Nat), AV.ff), ((11 : Nat), AV.sl (4 : Nat) (0 : Nat) (2 : Nat) (0 : Nat) un c),
                                                        ((12 : Nat), AV.sl (5 : Nat) (0 : Nat) (1 : Nat) (0 : Nat) un d), ((13 : Nat), AV.int IntKind.i64 g), ((14 : Nat), AV.int IntKind.i64 (↑i : Int))]
                                                      [some (Blk.mk false [] (0 : Nat) (0 : Nat) (fun x => []) [] (some fun js => Mem.mk (FD.nl x js) (FD.ad x js) (FD.ln x js) (FD.cp x js) (1 : Nat) fun q => [AV.int IntKind.i64 (FD.z x (q :: js))])),
                                                        some (Blk.mk false [] (8 : Nat) cap (fun r => [AV.int IntKind.i64 (OC.kd o r), AV.part (0 : Nat) [r], AV.int IntKind.i64 (OC.fo o r), AV.int IntKind.i64 (OC.fa o r), AV.int IntKind.i64 (OC.fb o r), AV.int IntKind.i64 (OC.pa o r), AV.int IntKind.i64 (OC.ra o r), AV.int IntKind.i64 (OC.co o r)]) [] none),
                                                        some (Blk.mk false [] (1 : Nat) pc (fun a => [AV.int IntKind.i64 (pr a)]) [] none), some (Blk.mk true [AV.int IntKind.i64 G, AV.sl (1 : Nat) (0 : Nat) (8 : Nat) (0 : Nat) len cap] (0 : Nat) (0 : Nat) (fun x => []) [] none),
                                                        some (Blk.mk true [] (2 : Nat) c (fun j => [AV.int IntKind.i64 (if j < un then u j else (0 : Int)), AV.int IntKind.i64 (if j < un then U j else (0 : Int))]) [] none), some (Blk.mk true [] (1 : Nat) d (fun r => [AV.int IntKind.i64 (if r < un then u r else (0 : Int))]) [] none)]))
                                                (T.ite (decide (g ≥ rhi (if (0 : Nat) + Int.toNat (↑i : Int) < un then U ((0 : Nat) + Int.toNat (↑i : Int)) else (0 : Int)) (pr ((0 : Nat) + Int.toNat (if (0 : Nat) + Int.toNat (↑i : Int) < un then u ((0 : Nat) + Int.toNat (↑i : Int)) else (0 : Int)))) G))
                                                  (T.ret
                                                    (Ex.ret,
                                                      St.mk
                                                        [((1 : Nat), AV.sl (2 : Nat) (0 : Nat) (1 : Nat) (0 : Nat) np pc), ((2 : Nat), AV.int IntKind.i64 op), ((4 : Nat), AV.int IntKind.i64 other), ((5 : Nat), AV.ptr (3 : Nat) (0 : Nat) (0 : Nat) (0 : Nat)), ((10 : Nat), AV.ff), ((11 : Nat), AV.sl (4 : Nat) (0 : Nat) (2 : Nat) (0 : Nat) un c),
                                                          ((12 : Nat), AV.sl (5 : Nat) (0 : Nat) (1 : Nat) (0 : Nat) un d), ((13 : Nat), AV.int IntKind.i64 g), ((14 : Nat), AV.int IntKind.i64 (↑i : Int))]
                                                        [some (Blk.mk false [] (0 : Nat) (0 : Nat) (fun x => []) [] (some fun js => Mem.mk (FD.nl x js) (FD.ad x js) (FD.ln x js) (FD.cp x js) (1 : Nat) fun q => [AV.int IntKind.i64 (FD.z x (q :: js))])),
                                                          some (Blk.mk false [] (8 : Nat) cap (fun r => [AV.int IntKind.i64 (OC.kd o r), AV.part (0 : Nat) [r], AV.int IntKind.i64 (OC.fo o r), AV.int IntKind.i64 (OC.fa o r), AV.int IntKind.i64 (OC.fb o r), AV.int IntKind.i64 (OC.pa o r), AV.int IntKind.i64 (OC.ra o r), AV.int IntKind.i64 (OC.co o r)]) [] none),
                                                          some (Blk.mk false [] (1 : Nat) pc (fun a => [AV.int IntKind.i64 (pr a)]) [] none), some (Blk.mk true [AV.int IntKind.i64 G, AV.sl (1 : Nat) (0 : Nat) (8 : Nat) (0 : Nat) len cap] (0 : Nat) (0 : Nat) (fun x => []) [] none),
                                                          some (Blk.mk true [] (2 : Nat) c (fun j => [AV.int IntKind.i64 (if j < un then u j else (0 : Int)), AV.int IntKind.i64 (if j < un then U j else (0 : Int))]) [] none), some (Blk.mk true [] (1 : Nat) d (fun r => [AV.int IntKind.i64 (if r < un then u r else (0 : Int))]) [] none)]))
                                                  (T.ret
                                                    (Ex.norm,
                                                      St.mk
                                                        [((1 : Nat), AV.sl (2 : Nat) (0 : Nat) (1 : Nat) (0 : Nat) np pc), ((2 : Nat), AV.int IntKind.i64 op), ((4 : Nat), AV.int IntKind.i64 other), ((5 : Nat), AV.ptr (3 : Nat) (0 : Nat) (0 : Nat) (0 : Nat)), ((11 : Nat), AV.sl (4 : Nat) (0 : Nat) (2 : Nat) (0 : Nat) un c), ((12 : Nat), AV.sl (5 : Nat) (0 : Nat) (1 : Nat) (0 : Nat) un d),
                                                          ((13 : Nat), AV.int IntKind.i64 g), ((14 : Nat), AV.int IntKind.i64 (IntKind.wrap IntKind.i64 ((↑i : Int) + (1 : Int))))]
                                                        [some (Blk.mk false [] (0 : Nat) (0 : Nat) (fun x => []) [] (some fun js => Mem.mk (FD.nl x js) (FD.ad x js) (FD.ln x js) (FD.cp x js) (1 : Nat) fun q => [AV.int IntKind.i64 (FD.z x (q :: js))])),
                                                          some (Blk.mk false [] (8 : Nat) cap (fun r => [AV.int IntKind.i64 (OC.kd o r), AV.part (0 : Nat) [r], AV.int IntKind.i64 (OC.fo o r), AV.int IntKind.i64 (OC.fa o r), AV.int IntKind.i64 (OC.fb o r), AV.int IntKind.i64 (OC.pa o r), AV.int IntKind.i64 (OC.ra o r), AV.int IntKind.i64 (OC.co o r)]) [] none),
                                                          some (Blk.mk false [] (1 : Nat) pc (fun a => [AV.int IntKind.i64 (pr a)]) [] none), some (Blk.mk true [AV.int IntKind.i64 G, AV.sl (1 : Nat) (0 : Nat) (8 : Nat) (0 : Nat) len cap] (0 : Nat) (0 : Nat) (fun x => []) [] none),
                                                          some (Blk.mk true [] (2 : Nat) c (fun j => [AV.int IntKind.i64 (if j < un then u j else (0 : Int)), AV.int IntKind.i64 (if j < un then U j else (0 : Int))]) [] none), some (Blk.mk true [] (1 : Nat) d (fun r => [AV.int IntKind.i64 (if r < un then u r else (0 : Int))]) [] none)])))))))))))))))))))))))))
    (T.ret
      (Ex.exit (0 : Nat),
        St.mk
          [((1 : Nat), AV.sl (2 : Nat) (0 : Nat) (1 : Nat) (0 : Nat) np pc), ((2 : Nat), AV.int IntKind.i64 op), ((4 : Nat), AV.int IntKind.i64 other), ((5 : Nat), AV.ptr (3 : Nat) (0 : Nat) (0 : Nat) (0 : Nat)), ((11 : Nat), AV.sl (4 : Nat) (0 : Nat) (2 : Nat) (0 : Nat) un c), ((12 : Nat), AV.sl (5 : Nat) (0 : Nat) (1 : Nat) (0 : Nat) un d), ((13 : Nat), AV.int IntKind.i64 g),
            ((14 : Nat), AV.int IntKind.i64 (↑i : Int))]
          [some (Blk.mk false [] (0 : Nat) (0 : Nat) (fun x => []) [] (some fun js => Mem.mk (FD.nl x js) (FD.ad x js) (FD.ln x js) (FD.cp x js) (1 : Nat) fun q => [AV.int IntKind.i64 (FD.z x (q :: js))])),
            some (Blk.mk false [] (8 : Nat) cap (fun r => [AV.int IntKind.i64 (OC.kd o r), AV.part (0 : Nat) [r], AV.int IntKind.i64 (OC.fo o r), AV.int IntKind.i64 (OC.fa o r), AV.int IntKind.i64 (OC.fb o r), AV.int IntKind.i64 (OC.pa o r), AV.int IntKind.i64 (OC.ra o r), AV.int IntKind.i64 (OC.co o r)]) [] none), some (Blk.mk false [] (1 : Nat) pc (fun a => [AV.int IntKind.i64 (pr a)]) [] none),
            some (Blk.mk true [AV.int IntKind.i64 G, AV.sl (1 : Nat) (0 : Nat) (8 : Nat) (0 : Nat) len cap] (0 : Nat) (0 : Nat) (fun x => []) [] none), some (Blk.mk true [] (2 : Nat) c (fun j => [AV.int IntKind.i64 (if j < un then u j else (0 : Int)), AV.int IntKind.i64 (if j < un then U j else (0 : Int))]) [] none),
            some (Blk.mk true [] (1 : Nat) d (fun r => [AV.int IntKind.i64 (if r < un then u r else (0 : Int))]) [] none)])) := by
  kernel_rfl

theorem wy_zn (x : FD) (o : OC) (G g other op : Int) (len cap : Nat) (pr : Nat → Int) (np pc : Nat) : T.cut (keepT [10] (acodeL Try.prog (wyE2 x o G len cap) ((chainOf wyF).drop 10) (wySn x o G g other op len cap pr np pc))) [2, 0, 2, 1, 1, 1] = 
  T.ite (ofG other G != g)
    (T.ret
      (Ex.ret,
        St.mk [((10 : Nat), AV.bool true)]
          [some (Blk.mk false [] (0 : Nat) (0 : Nat) (fun x => []) [] (some fun js => Mem.mk (FD.nl x js) (FD.ad x js) (FD.ln x js) (FD.cp x js) (1 : Nat) fun q => [AV.int IntKind.i64 (FD.z x (q :: js))])),
            some (Blk.mk false [] (8 : Nat) cap (fun r => [AV.int IntKind.i64 (OC.kd o r), AV.part (0 : Nat) [r], AV.int IntKind.i64 (OC.fo o r), AV.int IntKind.i64 (OC.fa o r), AV.int IntKind.i64 (OC.fb o r), AV.int IntKind.i64 (OC.pa o r), AV.int IntKind.i64 (OC.ra o r), AV.int IntKind.i64 (OC.co o r)]) [] none), some (Blk.mk false [] (1 : Nat) pc (fun a => [AV.int IntKind.i64 (pr a)]) [] none),
            some (Blk.mk true [AV.int IntKind.i64 G, AV.sl (1 : Nat) (0 : Nat) (8 : Nat) (0 : Nat) len cap] (0 : Nat) (0 : Nat) (fun x => []) [] none)]))
    (T.need (G = G ∧ len = len ∧ cap = cap)
      (T.need
        (spIn x o cap
          [some (Blk.mk false [] (0 : Nat) (0 : Nat) (fun x => []) [] (some fun js => Mem.mk (FD.nl x js) (FD.ad x js) (FD.ln x js) (FD.cp x js) (1 : Nat) fun q => [AV.int IntKind.i64 (FD.z x (q :: js))])),
            some (Blk.mk false [] (8 : Nat) cap (fun r => [AV.int IntKind.i64 (OC.kd o r), AV.part (0 : Nat) [r], AV.int IntKind.i64 (OC.fo o r), AV.int IntKind.i64 (OC.fa o r), AV.int IntKind.i64 (OC.fb o r), AV.int IntKind.i64 (OC.pa o r), AV.int IntKind.i64 (OC.ra o r), AV.int IntKind.i64 (OC.co o r)]) [] none), some (Blk.mk false [] (1 : Nat) pc (fun a => [AV.int IntKind.i64 (pr a)]) [] none),
            some (Blk.mk true [AV.int IntKind.i64 G, AV.sl (1 : Nat) (0 : Nat) (8 : Nat) (0 : Nat) len cap] (0 : Nat) (0 : Nat) (fun x => []) [] none)])
        (T.need (IntRow IntKind.i64 (Blk.mk false [] (1 : Nat) pc (fun a => [AV.int IntKind.i64 (pr a)]) [] none) ∧ pc = pc ∧ np ≤ pc ∧ (2 : Nat) ≠ (0 : Nat) ∧ (2 : Nat) ≠ (1 : Nat))
          (T.need (tgU np (usG x len op) (List.length (usL x len op)))
            (T.ite (decide (List.length (usL x len op) = (0 : Nat)))
              (@T.chk (Ex × St) true
                (T.ret
                  (Ex.ret,
                    St.mk [((10 : Nat), AV.bool true)]
                      [some (Blk.mk false [] (0 : Nat) (0 : Nat) (fun x => []) [] (some fun js => Mem.mk (FD.nl x js) (FD.ad x js) (FD.ln x js) (FD.cp x js) (1 : Nat) fun q => [AV.int IntKind.i64 (FD.z x (q :: js))])),
                        some (Blk.mk false [] (8 : Nat) cap (fun r => [AV.int IntKind.i64 (OC.kd o r), AV.part (0 : Nat) [r], AV.int IntKind.i64 (OC.fo o r), AV.int IntKind.i64 (OC.fa o r), AV.int IntKind.i64 (OC.fb o r), AV.int IntKind.i64 (OC.pa o r), AV.int IntKind.i64 (OC.ra o r), AV.int IntKind.i64 (OC.co o r)]) [] none),
                        some (Blk.mk false [] (1 : Nat) pc (fun a => [AV.int IntKind.i64 (pr a)]) [] none), some (Blk.mk true [AV.int IntKind.i64 G, AV.sl (1 : Nat) (0 : Nat) (8 : Nat) (0 : Nat) len cap] (0 : Nat) (0 : Nat) (fun x => []) [] none)])))
              (T.all fun c =>
                T.asm (decide (List.length (usL x len op) ≤ c))
                  (T.need (PairRow (Blk.mk true [] (2 : Nat) c (fun j => [AV.int IntKind.i64 (if j < List.length (usL x len op) then usG x len op j else (0 : Int)), AV.int IntKind.i64 (if j < List.length (usL x len op) then owAt G other pr (usG x len op) j else (0 : Int))]) [] none))
                    (T.chk (decide (List.length (usL x len op) = (0 : Nat)))
                      (@T.chk (Ex × St) true
                        (T.ret
                          (Ex.ret,
                            St.mk [((10 : Nat), AV.bool true)]
                              [some (Blk.mk false [] (0 : Nat) (0 : Nat) (fun x => []) [] (some fun js => Mem.mk (FD.nl x js) (FD.ad x js) (FD.ln x js) (FD.cp x js) (1 : Nat) fun q => [AV.int IntKind.i64 (FD.z x (q :: js))])),
                                some (Blk.mk false [] (8 : Nat) cap (fun r => [AV.int IntKind.i64 (OC.kd o r), AV.part (0 : Nat) [r], AV.int IntKind.i64 (OC.fo o r), AV.int IntKind.i64 (OC.fa o r), AV.int IntKind.i64 (OC.fb o r), AV.int IntKind.i64 (OC.pa o r), AV.int IntKind.i64 (OC.ra o r), AV.int IntKind.i64 (OC.co o r)]) [] none),
                                some (Blk.mk false [] (1 : Nat) pc (fun a => [AV.int IntKind.i64 (pr a)]) [] none), some (Blk.mk true [AV.int IntKind.i64 G, AV.sl (1 : Nat) (0 : Nat) (8 : Nat) (0 : Nat) len cap] (0 : Nat) (0 : Nat) (fun x => []) [] none),
                                some (Blk.mk true [] (2 : Nat) c (fun j => [AV.int IntKind.i64 (if j < List.length (usL x len op) then usG x len op j else (0 : Int)), AV.int IntKind.i64 (if j < List.length (usL x len op) then owAt G other pr (usG x len op) j else (0 : Int))]) [] none)]))))))))))) := by
  kernel_rfl

theorem wy_zy (x : FD) (o : OC) (G g other op : Int) (len cap : Nat) (pr : Nat → Int) (np pc : Nat) (u U : Nat → Int) (un c d i : Nat) : T.cut (keepT [10] (acodeL Try.prog (wyE2 x o G len cap) ((chainOf wyF).drop 10) (wySy x o G g other op len cap pr np pc u U un c d i))) [2, 0, 2, 1, 1, 1] = 
  T.ite (ofG other G != g)
    (T.ret
      (Ex.ret,
        St.mk [((10 : Nat), AV.bool true)]
          [some (Blk.mk false [] (0 : Nat) (0 : Nat) (fun x => []) [] (some fun js => Mem.mk (FD.nl x js) (FD.ad x js) (FD.ln x js) (FD.cp x js) (1 : Nat) fun q => [AV.int IntKind.i64 (FD.z x (q :: js))])),
            some (Blk.mk false [] (8 : Nat) cap (fun r => [AV.int IntKind.i64 (OC.kd o r), AV.part (0 : Nat) [r], AV.int IntKind.i64 (OC.fo o r), AV.int IntKind.i64 (OC.fa o r), AV.int IntKind.i64 (OC.fb o r), AV.int IntKind.i64 (OC.pa o r), AV.int IntKind.i64 (OC.ra o r), AV.int IntKind.i64 (OC.co o r)]) [] none), some (Blk.mk false [] (1 : Nat) pc (fun a => [AV.int IntKind.i64 (pr a)]) [] none),
            some (Blk.mk true [AV.int IntKind.i64 G, AV.sl (1 : Nat) (0 : Nat) (8 : Nat) (0 : Nat) len cap] (0 : Nat) (0 : Nat) (fun x => []) [] none), some (Blk.mk true [] (2 : Nat) c (fun j => [AV.int IntKind.i64 (if j < un then u j else (0 : Int)), AV.int IntKind.i64 (if j < un then U j else (0 : Int))]) [] none),
            some (Blk.mk true [] (1 : Nat) d (fun r => [AV.int IntKind.i64 (if r < un then u r else (0 : Int))]) [] none)]))
    (T.need (G = G ∧ len = len ∧ cap = cap)
      (T.need
        (spIn x o cap
          [some (Blk.mk false [] (0 : Nat) (0 : Nat) (fun x => []) [] (some fun js => Mem.mk (FD.nl x js) (FD.ad x js) (FD.ln x js) (FD.cp x js) (1 : Nat) fun q => [AV.int IntKind.i64 (FD.z x (q :: js))])),
            some (Blk.mk false [] (8 : Nat) cap (fun r => [AV.int IntKind.i64 (OC.kd o r), AV.part (0 : Nat) [r], AV.int IntKind.i64 (OC.fo o r), AV.int IntKind.i64 (OC.fa o r), AV.int IntKind.i64 (OC.fb o r), AV.int IntKind.i64 (OC.pa o r), AV.int IntKind.i64 (OC.ra o r), AV.int IntKind.i64 (OC.co o r)]) [] none), some (Blk.mk false [] (1 : Nat) pc (fun a => [AV.int IntKind.i64 (pr a)]) [] none),
            some (Blk.mk true [AV.int IntKind.i64 G, AV.sl (1 : Nat) (0 : Nat) (8 : Nat) (0 : Nat) len cap] (0 : Nat) (0 : Nat) (fun x => []) [] none), some (Blk.mk true [] (2 : Nat) c (fun j => [AV.int IntKind.i64 (if j < un then u j else (0 : Int)), AV.int IntKind.i64 (if j < un then U j else (0 : Int))]) [] none),
            some (Blk.mk true [] (1 : Nat) d (fun r => [AV.int IntKind.i64 (if r < un then u r else (0 : Int))]) [] none)])
        (T.need (IntRow IntKind.i64 (Blk.mk false [] (1 : Nat) pc (fun a => [AV.int IntKind.i64 (pr a)]) [] none) ∧ pc = pc ∧ np ≤ pc ∧ (2 : Nat) ≠ (0 : Nat) ∧ (2 : Nat) ≠ (1 : Nat))
          (T.need (tgU np (usG x len op) (List.length (usL x len op)))
            (T.ite (decide (List.length (usL x len op) = (0 : Nat)))
              (T.need (PairRow (Blk.mk true [] (2 : Nat) c (fun j => [AV.int IntKind.i64 (if j < un then u j else (0 : Int)), AV.int IntKind.i64 (if j < un then U j else (0 : Int))]) [] none))
                (T.chk (decide (un = (0 : Nat)))
                  (@T.chk (Ex × St) true
                    (T.ret
                      (Ex.ret,
                        St.mk [((10 : Nat), AV.bool true)]
                          [some (Blk.mk false [] (0 : Nat) (0 : Nat) (fun x => []) [] (some fun js => Mem.mk (FD.nl x js) (FD.ad x js) (FD.ln x js) (FD.cp x js) (1 : Nat) fun q => [AV.int IntKind.i64 (FD.z x (q :: js))])),
                            some (Blk.mk false [] (8 : Nat) cap (fun r => [AV.int IntKind.i64 (OC.kd o r), AV.part (0 : Nat) [r], AV.int IntKind.i64 (OC.fo o r), AV.int IntKind.i64 (OC.fa o r), AV.int IntKind.i64 (OC.fb o r), AV.int IntKind.i64 (OC.pa o r), AV.int IntKind.i64 (OC.ra o r), AV.int IntKind.i64 (OC.co o r)]) [] none),
                            some (Blk.mk false [] (1 : Nat) pc (fun a => [AV.int IntKind.i64 (pr a)]) [] none), some (Blk.mk true [AV.int IntKind.i64 G, AV.sl (1 : Nat) (0 : Nat) (8 : Nat) (0 : Nat) len cap] (0 : Nat) (0 : Nat) (fun x => []) [] none),
                            some (Blk.mk true [] (2 : Nat) c (fun j => [AV.int IntKind.i64 (if j < un then u j else (0 : Int)), AV.int IntKind.i64 (if j < un then U j else (0 : Int))]) [] none), some (Blk.mk true [] (1 : Nat) d (fun r => [AV.int IntKind.i64 (if r < un then u r else (0 : Int))]) [] none)])))))
              (T.all fun c_1 =>
                T.asm (decide (List.length (usL x len op) ≤ c_1))
                  (T.need (PairRow (Blk.mk true [] (2 : Nat) c_1 (fun j => [AV.int IntKind.i64 (if j < List.length (usL x len op) then usG x len op j else (0 : Int)), AV.int IntKind.i64 (if j < List.length (usL x len op) then owAt G other pr (usG x len op) j else (0 : Int))]) [] none))
                    (T.need (PairRow (Blk.mk true [] (2 : Nat) c (fun j => [AV.int IntKind.i64 (if j < un then u j else (0 : Int)), AV.int IntKind.i64 (if j < un then U j else (0 : Int))]) [] none))
                      (T.chk (decide ((0 : Nat) + List.length (usL x len op) ≤ c_1))
                        (T.chk (decide ((0 : Nat) + List.length (usL x len op) ≤ c))
                          (T.chk (decide (List.length (usL x len op) ≤ (4611686018427387904 : Nat)))
                            (T.chk (decide (List.length (usL x len op) = un))
                              (T.need
                                (PairEq (Blk.mk true [] (2 : Nat) c_1 (fun j => [AV.int IntKind.i64 (if j < List.length (usL x len op) then usG x len op j else (0 : Int)), AV.int IntKind.i64 (if j < List.length (usL x len op) then owAt G other pr (usG x len op) j else (0 : Int))]) [] none) (0 : Nat)
                                  (Blk.mk true [] (2 : Nat) c (fun j => [AV.int IntKind.i64 (if j < un then u j else (0 : Int)), AV.int IntKind.i64 (if j < un then U j else (0 : Int))]) [] none) (0 : Nat) (List.length (usL x len op)))
                                (@T.chk (Ex × St) true
                                  (T.ret
                                    (Ex.ret,
                                      St.mk [((10 : Nat), AV.bool true)]
                                        [some (Blk.mk false [] (0 : Nat) (0 : Nat) (fun x => []) [] (some fun js => Mem.mk (FD.nl x js) (FD.ad x js) (FD.ln x js) (FD.cp x js) (1 : Nat) fun q => [AV.int IntKind.i64 (FD.z x (q :: js))])),
                                          some (Blk.mk false [] (8 : Nat) cap (fun r => [AV.int IntKind.i64 (OC.kd o r), AV.part (0 : Nat) [r], AV.int IntKind.i64 (OC.fo o r), AV.int IntKind.i64 (OC.fa o r), AV.int IntKind.i64 (OC.fb o r), AV.int IntKind.i64 (OC.pa o r), AV.int IntKind.i64 (OC.ra o r), AV.int IntKind.i64 (OC.co o r)]) [] none),
                                          some (Blk.mk false [] (1 : Nat) pc (fun a => [AV.int IntKind.i64 (pr a)]) [] none), some (Blk.mk true [AV.int IntKind.i64 G, AV.sl (1 : Nat) (0 : Nat) (8 : Nat) (0 : Nat) len cap] (0 : Nat) (0 : Nat) (fun x => []) [] none),
                                          some (Blk.mk true [] (2 : Nat) c (fun j => [AV.int IntKind.i64 (if j < un then u j else (0 : Int)), AV.int IntKind.i64 (if j < un then U j else (0 : Int))]) [] none), some (Blk.mk true [] (1 : Nat) d (fun r => [AV.int IntKind.i64 (if r < un then u r else (0 : Int))]) [] none),
                                          some (Blk.mk true [] (2 : Nat) c_1 (fun j => [AV.int IntKind.i64 (if j < List.length (usL x len op) then usG x len op j else (0 : Int)), AV.int IntKind.i64 (if j < List.length (usL x len op) then owAt G other pr (usG x len op) j else (0 : Int))]) [] none)])))))))))))))))) := by
  kernel_rfl

theorem wy_k0 : ((chainOf wyF).drop 3).drop 6 = .block 0 (.loop wyC) :: (chainOf wyF).drop 10 := by
  kernel_rfl

theorem wy_res : Try.f4.results.toList = [.tmp 10] := by
  kernel_rfl

end Go.Proofs.Ytnfngaapjodpcaa
