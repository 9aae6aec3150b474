/-
  Layer 20: Halves: trees.
-/
import Derived.Test.YtnfngaapjodpcaaHLD
namespace Go.Proofs.Ytnfngaapjodpcaa
open Go.Ox
set_option maxRecDepth 100000
set_option maxHeartbeats 4000000
set_option linter.unusedVariables false
set_option linter.unusedSimpArgs false

noncomputable def hvF : Code := codeOf Try.f6

noncomputable def hvE1 (x : FD) (o : OC) (G : Int) (len cap : Nat) : Env := { nt := Try.f6.ntmps, n0 := 3, vec := true, fns := openAll (akB1 x o G len cap), loop := fun _ _ => .fail }

theorem hvE1_ok (x : FD) (o : OC) (G : Int) (len cap : Nat) (hw : x.wf .i64) (hl : len ≤ cap) : EnvOK Try.prog (hvE1 x o G len cap).fns := EnvOK.open_ (EnvOK.cons (rgS_ok x o G len cap hw hl) (EnvOK.cons wk_ok EnvOK.nil))

noncomputable def hvE2 (x : FD) (o : OC) (G : Int) (len cap : Nat) : Env := { nt := Try.f6.ntmps, n0 := 3, vec := true, fns := openAll (akB2 x o G len cap), loop := fun _ _ => .fail }

theorem hvE2_ok (x : FD) (o : OC) (G : Int) (len cap : Nat) (hk0 : spOK x len cap) : EnvOK Try.prog (hvE2 x o G len cap).fns := EnvOK.open_ (EnvOK.cons (tgS_ok x o G len cap hk0) (EnvOK.cons wk_ok EnvOK.nil))

noncomputable def hvF0 (n0 : Nat) : Env := { nt := Try.f6.ntmps, n0 := n0, vec := true, fns := openAll (inl Try.prog akN0 akL0), loop := fun _ _ => .fail }

theorem hvF0_ok (n0 : Nat) : EnvOK Try.prog (hvF0 n0).fns := EnvOK.open_ (inl_ok akN0_ok akL0 akL0_ok)

noncomputable def hvF1 (x : FD) (o : OC) (G : Int) (len cap : Nat) : Env := { nt := Try.f6.ntmps, n0 := 2, vec := true, fns := openAll (inl Try.prog (akN1 x o G len cap) akL1), loop := fun _ _ => .fail }

theorem hvF1_ok (x : FD) (o : OC) (G : Int) (len cap : Nat) (hw : x.wf .i64) (hl : len ≤ cap) : EnvOK Try.prog (hvF1 x o G len cap).fns := EnvOK.open_ (inl_ok (akN1_ok x o G len cap hw hl) akL1 akL1_ok)

noncomputable def hvC : Code := loopAt hvF 0

noncomputable def hvD : Code := loopAt hvF 1

def hf (G : Int) (pr : Nat → Int) (j : Nat) : Int := if 2 * pr j ≤ G ∧ 2 * pr j ≤ 8 then 2 * pr j else pr j

structure HX where
  i : Nat
  hs : Bool
  c : Nat

def hvSt (x : FD) (o : OC) (G key op : Int) (len cap : Nat) (pr : Nat → Int) (np pc : Nat) (y : HX) : St :=
  match y.hs with
  | false => ⟨[(1, .sl 2 0 1 0 np pc), (2, .int .i64 op), (3, .int .i64 key), (4, .ptr 3 0 0 0), (9, .nils), (10, .int .i64 y.i)], tgM x o cap pr pc ++ [some (boxS G len cap)]⟩
  | true => ⟨[(1, .sl 2 0 1 0 np pc), (2, .int .i64 op), (3, .int .i64 key), (4, .ptr 3 0 0 0), (9, .sl 4 0 1 0 y.i y.c), (10, .int .i64 y.i)], tgM x o cap pr pc ++ [some (boxS G len cap), some (apRow .i64 (hf G pr) y.i y.c)]⟩

def hvM (x : FD) (o : OC) (G : Int) (cap : Nat) (pr : Nat → Int) (np pc c : Nat) (u U : Nat → Int) (un d : Nat) (V : Nat → Int) (e : Nat) : AM := tgM x o cap pr pc ++ [some (apRow .i64 (hf G pr) np c), some (ap2 u U un d), some (ap2 u V un e)]

def hvO (x : FD) (o : OC) (G : Int) (cap : Nat) (pr : Nat → Int) (np pc c : Nat) (u U : Nat → Int) (un d : Nat) (V : Nat → Int) (e i : Nat) : St := ⟨[(1, .sl 2 0 1 0 np pc), (9, .sl 3 0 1 0 np c), (12, .sl 4 0 2 0 un d), (13, .sl 5 0 2 0 un e), (14, .int .i64 i)], hvM x o G cap pr np pc c u U un d V e⟩

theorem hv_0n (G op key : Int) : T.cut (keepT [8] (acodeL Try.prog (hvF0 0) ((chainOf hvF).take 3) ⟨[(0, .agg [.int .i64 G, .nils]), (1, .nils), (2, .int .i64 op), (3, .int .i64 key)], []⟩)) [2, 0] = 
  T.all fun c => T.asm (decide (c ≠ (0 : Nat))) (T.ite ((↑c : Int) == (0 : Int)) T.fail (T.ret (Ex.ret, St.mk [((8 : Nat), AV.bool true)] [some (Blk.mk true [AV.int IntKind.i64 G, AV.nils] (0 : Nat) (0 : Nat) (fun x => []) [] none), some (Blk.mk true [AV.int IntKind.i64 G, AV.nils] (0 : Nat) (0 : Nat) (fun x => []) [] none)]))) := by
  kernel_rfl

theorem hv_0p (G op key : Int) (pr : Nat → Int) (np pc : Nat) : T.cut (keepT [8] (acodeL Try.prog (hvF0 1) ((chainOf hvF).take 3) ⟨[(0, .agg [.int .i64 G, .nils]), (1, .sl 0 0 1 0 np pc), (2, .int .i64 op), (3, .int .i64 key)], [some (inB pc pr)]⟩)) [2, 0] = 
  T.all fun c =>
    T.asm (decide (c ≠ (0 : Nat))) (T.ite ((↑c : Int) == (0 : Int)) T.fail (T.ret (Ex.ret, St.mk [((8 : Nat), AV.bool true)] [some (Blk.mk false [] (1 : Nat) pc (fun a => [AV.int IntKind.i64 (pr a)]) [] none), some (Blk.mk true [AV.int IntKind.i64 G, AV.nils] (0 : Nat) (0 : Nat) (fun x => []) [] none), some (Blk.mk true [AV.int IntKind.i64 G, AV.nils] (0 : Nat) (0 : Nat) (fun x => []) [] none)]))) := by
  kernel_rfl

theorem hv_1n (x : FD) (o : OC) (G op key : Int) (len cap : Nat) : T.cut (keepT [8] (acodeL Try.prog (hvF1 x o G len cap) ((chainOf hvF).take 3) ⟨[(0, spA G len cap), (1, .nils), (2, .int .i64 op), (3, .int .i64 key)], spM x o cap⟩)) [2, 7, 2, 0, 0, 2, 2, 2, 0] = 
  T.need (G = G ∧ len = len ∧ cap = cap)
    (T.need
      (spIn x o cap
        [some (Blk.mk false [] (0 : Nat) (0 : Nat) (fun x => []) [] (some fun js => Mem.mk (FD.nl x js) (FD.ad x js) (FD.ln x js) (FD.cp x js) (1 : Nat) fun q => [AV.int IntKind.i64 (FD.z x (q :: js))])),
          some (Blk.mk false [] (8 : Nat) cap (fun r => [AV.int IntKind.i64 (OC.kd o r), AV.part (0 : Nat) [r], AV.int IntKind.i64 (OC.fo o r), AV.int IntKind.i64 (OC.fa o r), AV.int IntKind.i64 (OC.fb o r), AV.int IntKind.i64 (OC.pa o r), AV.int IntKind.i64 (OC.ra o r), AV.int IntKind.i64 (OC.co o r)]) [] none),
          some (Blk.mk true [AV.int IntKind.i64 G, AV.sl (1 : Nat) (0 : Nat) (8 : Nat) (0 : Nat) len cap] (0 : Nat) (0 : Nat) (fun x => []) [] none), some (Blk.mk true [AV.int IntKind.i64 G, AV.sl (1 : Nat) (0 : Nat) (8 : Nat) (0 : Nat) len cap] (0 : Nat) (0 : Nat) (fun x => []) [] none)])
      (T.all fun c =>
        T.asm (decide (c ≠ (0 : Nat) ∨ ckP x o G len))
          (T.ite ((↑c : Int) == (0 : Int))
            (T.ite ((0 : Int) != (↑len : Int))
              (T.ret
                (Ex.ret,
                  St.mk [((8 : Nat), AV.bool true)]
                    [some (Blk.mk false [] (0 : Nat) (0 : Nat) (fun x => []) [] (some fun js => Mem.mk (FD.nl x js) (FD.ad x js) (FD.ln x js) (FD.cp x js) (1 : Nat) fun q => [AV.int IntKind.i64 (FD.z x (q :: js))])),
                      some (Blk.mk false [] (8 : Nat) cap (fun r => [AV.int IntKind.i64 (OC.kd o r), AV.part (0 : Nat) [r], AV.int IntKind.i64 (OC.fo o r), AV.int IntKind.i64 (OC.fa o r), AV.int IntKind.i64 (OC.fb o r), AV.int IntKind.i64 (OC.pa o r), AV.int IntKind.i64 (OC.ra o r), AV.int IntKind.i64 (OC.co o r)]) [] none),
                      some (Blk.mk true [AV.int IntKind.i64 G, AV.sl (1 : Nat) (0 : Nat) (8 : Nat) (0 : Nat) len cap] (0 : Nat) (0 : Nat) (fun x => []) [] none), some (Blk.mk true [AV.int IntKind.i64 G, AV.sl (1 : Nat) (0 : Nat) (8 : Nat) (0 : Nat) len cap] (0 : Nat) (0 : Nat) (fun x => []) [] none),
                      some (Blk.mk true [AV.int IntKind.i64 G, AV.sl (1 : Nat) (0 : Nat) (8 : Nat) (0 : Nat) len cap] (0 : Nat) (0 : Nat) (fun x => []) [] none)]))
              (@T.chk (Ex × St) true
                (T.ite (decide (op ≥ (0 : Int)))
                  (T.ite (!decide (op < (↑len : Int)))
                    (T.ret
                      (Ex.ret,
                        St.mk [((8 : Nat), AV.bool true)]
                          [some (Blk.mk false [] (0 : Nat) (0 : Nat) (fun x => []) [] (some fun js => Mem.mk (FD.nl x js) (FD.ad x js) (FD.ln x js) (FD.cp x js) (1 : Nat) fun q => [AV.int IntKind.i64 (FD.z x (q :: js))])),
                            some (Blk.mk false [] (8 : Nat) cap (fun r => [AV.int IntKind.i64 (OC.kd o r), AV.part (0 : Nat) [r], AV.int IntKind.i64 (OC.fo o r), AV.int IntKind.i64 (OC.fa o r), AV.int IntKind.i64 (OC.fb o r), AV.int IntKind.i64 (OC.pa o r), AV.int IntKind.i64 (OC.ra o r), AV.int IntKind.i64 (OC.co o r)]) [] none),
                            some (Blk.mk true [AV.int IntKind.i64 G, AV.sl (1 : Nat) (0 : Nat) (8 : Nat) (0 : Nat) len cap] (0 : Nat) (0 : Nat) (fun x => []) [] none), some (Blk.mk true [AV.int IntKind.i64 G, AV.sl (1 : Nat) (0 : Nat) (8 : Nat) (0 : Nat) len cap] (0 : Nat) (0 : Nat) (fun x => []) [] none),
                            some (Blk.mk true [AV.int IntKind.i64 G, AV.sl (1 : Nat) (0 : Nat) (8 : Nat) (0 : Nat) len cap] (0 : Nat) (0 : Nat) (fun x => []) [] none)]))
                    (T.ret
                      (Ex.norm,
                        St.mk [((8 : Nat), AV.ff)]
                          [some (Blk.mk false [] (0 : Nat) (0 : Nat) (fun x => []) [] (some fun js => Mem.mk (FD.nl x js) (FD.ad x js) (FD.ln x js) (FD.cp x js) (1 : Nat) fun q => [AV.int IntKind.i64 (FD.z x (q :: js))])),
                            some (Blk.mk false [] (8 : Nat) cap (fun r => [AV.int IntKind.i64 (OC.kd o r), AV.part (0 : Nat) [r], AV.int IntKind.i64 (OC.fo o r), AV.int IntKind.i64 (OC.fa o r), AV.int IntKind.i64 (OC.fb o r), AV.int IntKind.i64 (OC.pa o r), AV.int IntKind.i64 (OC.ra o r), AV.int IntKind.i64 (OC.co o r)]) [] none),
                            some (Blk.mk true [AV.int IntKind.i64 G, AV.sl (1 : Nat) (0 : Nat) (8 : Nat) (0 : Nat) len cap] (0 : Nat) (0 : Nat) (fun x => []) [] none), some (Blk.mk true [AV.int IntKind.i64 G, AV.sl (1 : Nat) (0 : Nat) (8 : Nat) (0 : Nat) len cap] (0 : Nat) (0 : Nat) (fun x => []) [] none),
                            some (Blk.mk true [AV.int IntKind.i64 G, AV.sl (1 : Nat) (0 : Nat) (8 : Nat) (0 : Nat) len cap] (0 : Nat) (0 : Nat) (fun x => []) [] none)])))
                  (T.ret
                    (Ex.ret,
                      St.mk [((8 : Nat), AV.bool true)]
                        [some (Blk.mk false [] (0 : Nat) (0 : Nat) (fun x => []) [] (some fun js => Mem.mk (FD.nl x js) (FD.ad x js) (FD.ln x js) (FD.cp x js) (1 : Nat) fun q => [AV.int IntKind.i64 (FD.z x (q :: js))])),
                          some (Blk.mk false [] (8 : Nat) cap (fun r => [AV.int IntKind.i64 (OC.kd o r), AV.part (0 : Nat) [r], AV.int IntKind.i64 (OC.fo o r), AV.int IntKind.i64 (OC.fa o r), AV.int IntKind.i64 (OC.fb o r), AV.int IntKind.i64 (OC.pa o r), AV.int IntKind.i64 (OC.ra o r), AV.int IntKind.i64 (OC.co o r)]) [] none),
                          some (Blk.mk true [AV.int IntKind.i64 G, AV.sl (1 : Nat) (0 : Nat) (8 : Nat) (0 : Nat) len cap] (0 : Nat) (0 : Nat) (fun x => []) [] none), some (Blk.mk true [AV.int IntKind.i64 G, AV.sl (1 : Nat) (0 : Nat) (8 : Nat) (0 : Nat) len cap] (0 : Nat) (0 : Nat) (fun x => []) [] none),
                          some (Blk.mk true [AV.int IntKind.i64 G, AV.sl (1 : Nat) (0 : Nat) (8 : Nat) (0 : Nat) len cap] (0 : Nat) (0 : Nat) (fun x => []) [] none)])))))
            (T.ret
              (Ex.ret,
                St.mk [((8 : Nat), AV.bool true)]
                  [some (Blk.mk false [] (0 : Nat) (0 : Nat) (fun x => []) [] (some fun js => Mem.mk (FD.nl x js) (FD.ad x js) (FD.ln x js) (FD.cp x js) (1 : Nat) fun q => [AV.int IntKind.i64 (FD.z x (q :: js))])),
                    some (Blk.mk false [] (8 : Nat) cap (fun r => [AV.int IntKind.i64 (OC.kd o r), AV.part (0 : Nat) [r], AV.int IntKind.i64 (OC.fo o r), AV.int IntKind.i64 (OC.fa o r), AV.int IntKind.i64 (OC.fb o r), AV.int IntKind.i64 (OC.pa o r), AV.int IntKind.i64 (OC.ra o r), AV.int IntKind.i64 (OC.co o r)]) [] none),
                    some (Blk.mk true [AV.int IntKind.i64 G, AV.sl (1 : Nat) (0 : Nat) (8 : Nat) (0 : Nat) len cap] (0 : Nat) (0 : Nat) (fun x => []) [] none), some (Blk.mk true [AV.int IntKind.i64 G, AV.sl (1 : Nat) (0 : Nat) (8 : Nat) (0 : Nat) len cap] (0 : Nat) (0 : Nat) (fun x => []) [] none)]))))) := by
  kernel_rfl

theorem hv_a (x : FD) (o : OC) (G key op : Int) (len cap : Nat) (pr : Nat → Int) (np pc : Nat) : T.cut (keepT [1, 2, 3, 4, 8, 9, 10] (acodeL Try.prog (hvE1 x o G len cap) ((chainOf hvF).take 5) ⟨[(0, spA G len cap), (1, .sl 2 0 1 0 np pc), (2, .int .i64 op), (3, .int .i64 key)], tgM x o cap pr pc⟩)) [2, 0] = 
  T.need (G = G ∧ len = len ∧ cap = cap)
    (T.need
      (spIn x o cap
        [some (Blk.mk false [] (0 : Nat) (0 : Nat) (fun x => []) [] (some fun js => Mem.mk (FD.nl x js) (FD.ad x js) (FD.ln x js) (FD.cp x js) (1 : Nat) fun q => [AV.int IntKind.i64 (FD.z x (q :: js))])),
          some (Blk.mk false [] (8 : Nat) cap (fun r => [AV.int IntKind.i64 (OC.kd o r), AV.part (0 : Nat) [r], AV.int IntKind.i64 (OC.fo o r), AV.int IntKind.i64 (OC.fa o r), AV.int IntKind.i64 (OC.fb o r), AV.int IntKind.i64 (OC.pa o r), AV.int IntKind.i64 (OC.ra o r), AV.int IntKind.i64 (OC.co o r)]) [] none), some (Blk.mk false [] (1 : Nat) pc (fun a => [AV.int IntKind.i64 (pr a)]) [] none),
          some (Blk.mk true [AV.int IntKind.i64 G, AV.sl (1 : Nat) (0 : Nat) (8 : Nat) (0 : Nat) len cap] (0 : Nat) (0 : Nat) (fun x => []) [] none)])
      (T.need (IntRow IntKind.i64 (Blk.mk false [] (1 : Nat) pc (fun a => [AV.int IntKind.i64 (pr a)]) [] none) ∧ pc = pc ∧ np ≤ pc)
        (T.all fun c =>
          T.asm (decide (c ≠ (0 : Nat) ∨ rgP x o G op len pr np))
            (T.ite (!decide (c = (0 : Nat)))
              (T.ret
                (Ex.ret,
                  St.mk [((1 : Nat), AV.sl (2 : Nat) (0 : Nat) (1 : Nat) (0 : Nat) np pc), ((2 : Nat), AV.int IntKind.i64 op), ((3 : Nat), AV.int IntKind.i64 key), ((4 : Nat), AV.ptr (3 : Nat) (0 : Nat) (0 : Nat) (0 : Nat)), ((8 : Nat), AV.bool true)]
                    [some (Blk.mk false [] (0 : Nat) (0 : Nat) (fun x => []) [] (some fun js => Mem.mk (FD.nl x js) (FD.ad x js) (FD.ln x js) (FD.cp x js) (1 : Nat) fun q => [AV.int IntKind.i64 (FD.z x (q :: js))])),
                      some (Blk.mk false [] (8 : Nat) cap (fun r => [AV.int IntKind.i64 (OC.kd o r), AV.part (0 : Nat) [r], AV.int IntKind.i64 (OC.fo o r), AV.int IntKind.i64 (OC.fa o r), AV.int IntKind.i64 (OC.fb o r), AV.int IntKind.i64 (OC.pa o r), AV.int IntKind.i64 (OC.ra o r), AV.int IntKind.i64 (OC.co o r)]) [] none),
                      some (Blk.mk false [] (1 : Nat) pc (fun a => [AV.int IntKind.i64 (pr a)]) [] none), some (Blk.mk true [AV.int IntKind.i64 G, AV.sl (1 : Nat) (0 : Nat) (8 : Nat) (0 : Nat) len cap] (0 : Nat) (0 : Nat) (fun x => []) [] none)]))
              (T.ret
                (Ex.norm,
                  St.mk [((1 : Nat), AV.sl (2 : Nat) (0 : Nat) (1 : Nat) (0 : Nat) np pc), ((2 : Nat), AV.int IntKind.i64 op), ((3 : Nat), AV.int IntKind.i64 key), ((4 : Nat), AV.ptr (3 : Nat) (0 : Nat) (0 : Nat) (0 : Nat)), ((8 : Nat), AV.ff), ((9 : Nat), AV.nils), ((10 : Nat), AV.int IntKind.i64 (0 : Int))]
                    [some (Blk.mk false [] (0 : Nat) (0 : Nat) (fun x => []) [] (some fun js => Mem.mk (FD.nl x js) (FD.ad x js) (FD.ln x js) (FD.cp x js) (1 : Nat) fun q => [AV.int IntKind.i64 (FD.z x (q :: js))])),
                      some (Blk.mk false [] (8 : Nat) cap (fun r => [AV.int IntKind.i64 (OC.kd o r), AV.part (0 : Nat) [r], AV.int IntKind.i64 (OC.fo o r), AV.int IntKind.i64 (OC.fa o r), AV.int IntKind.i64 (OC.fb o r), AV.int IntKind.i64 (OC.pa o r), AV.int IntKind.i64 (OC.ra o r), AV.int IntKind.i64 (OC.co o r)]) [] none),
                      some (Blk.mk false [] (1 : Nat) pc (fun a => [AV.int IntKind.i64 (pr a)]) [] none), some (Blk.mk true [AV.int IntKind.i64 G, AV.sl (1 : Nat) (0 : Nat) (8 : Nat) (0 : Nat) len cap] (0 : Nat) (0 : Nat) (fun x => []) [] none)])))))) := by
  kernel_rfl

theorem hv_t0 (x : FD) (o : OC) (G key op : Int) (len cap : Nat) (pr : Nat → Int) (np pc i c : Nat) : T.cut (keepT [1, 2, 3, 4, 9, 10] (acode Try.prog (hvE2 x o G len cap) hvC (hvSt x o G key op len cap pr np pc ⟨i, false, c⟩))) [2, 7, 2, 4, 2, 1, 0, 0, 0] = 
  T.ite (decide ((↑i : Int) < (↑np : Int)))
    (T.chk (decide ((0 : Int) ≤ (↑i : Int)) && decide ((↑i : Int) < (↑np : Int)))
      (T.chk (decide ((0 : Nat) + Int.toNat (↑i : Int) < pc))
        (T.ite (decide (IntKind.wrap IntKind.i64 ((2 : Int) * pr ((0 : Nat) + Int.toNat (↑i : Int))) ≤ G))
          (T.ite (decide (IntKind.wrap IntKind.i64 ((2 : Int) * pr ((0 : Nat) + Int.toNat (↑i : Int))) ≤ (8 : Int)))
            (T.chk true
              (@T.chk (Ex × St) true
                (T.chk true
                  (T.all fun c =>
                    T.asm (decide ((1 : Nat) ≤ c))
                      (T.ret
                        (Ex.norm,
                          St.mk [((1 : Nat), AV.sl (2 : Nat) (0 : Nat) (1 : Nat) (0 : Nat) np pc), ((2 : Nat), AV.int IntKind.i64 op), ((3 : Nat), AV.int IntKind.i64 key), ((4 : Nat), AV.ptr (3 : Nat) (0 : Nat) (0 : Nat) (0 : Nat)), ((9 : Nat), AV.sl (5 : Nat) (0 : Nat) (1 : Nat) (0 : Nat) (1 : Nat) c), ((10 : Nat), AV.int IntKind.i64 (IntKind.wrap IntKind.i64 ((↑i : Int) + (1 : Int))))]
                            [some (Blk.mk false [] (0 : Nat) (0 : Nat) (fun x => []) [] (some fun js => Mem.mk (FD.nl x js) (FD.ad x js) (FD.ln x js) (FD.cp x js) (1 : Nat) fun q => [AV.int IntKind.i64 (FD.z x (q :: js))])),
                              some (Blk.mk false [] (8 : Nat) cap (fun r => [AV.int IntKind.i64 (OC.kd o r), AV.part (0 : Nat) [r], AV.int IntKind.i64 (OC.fo o r), AV.int IntKind.i64 (OC.fa o r), AV.int IntKind.i64 (OC.fb o r), AV.int IntKind.i64 (OC.pa o r), AV.int IntKind.i64 (OC.ra o r), AV.int IntKind.i64 (OC.co o r)]) [] none),
                              some (Blk.mk false [] (1 : Nat) pc (fun a => [AV.int IntKind.i64 (pr a)]) [] none), some (Blk.mk true [AV.int IntKind.i64 G, AV.sl (1 : Nat) (0 : Nat) (8 : Nat) (0 : Nat) len cap] (0 : Nat) (0 : Nat) (fun x => []) [] none),
                              some (Blk.mk true [] (1 : Nat) (1 : Nat) (fun i_1 => [AV.int IntKind.i64 (List.getD [IntKind.wrap IntKind.i64 ((2 : Int) * pr ((0 : Nat) + Int.toNat (↑i : Int)))] i_1 (0 : Int))]) [] none),
                              some (Blk.mk true [] (1 : Nat) c (fun r => if r < (0 : Nat) then [] else if r < (1 : Nat) then List.map (fun c => Col.at c ((0 : Nat) + (r - (0 : Nat)))) ([] ++ [Col.ints IntKind.i64 [IntKind.wrap IntKind.i64 ((2 : Int) * pr ((0 : Nat) + Int.toNat (↑i : Int)))]]) else AV.cells (AV.int IntKind.i64 (0 : Int))) [] none)]))))))
            (T.chk true
              (@T.chk (Ex × St) true
                (T.chk true
                  (T.all fun c =>
                    T.asm (decide ((1 : Nat) ≤ c))
                      (T.ret
                        (Ex.norm,
                          St.mk [((1 : Nat), AV.sl (2 : Nat) (0 : Nat) (1 : Nat) (0 : Nat) np pc), ((2 : Nat), AV.int IntKind.i64 op), ((3 : Nat), AV.int IntKind.i64 key), ((4 : Nat), AV.ptr (3 : Nat) (0 : Nat) (0 : Nat) (0 : Nat)), ((9 : Nat), AV.sl (5 : Nat) (0 : Nat) (1 : Nat) (0 : Nat) (1 : Nat) c), ((10 : Nat), AV.int IntKind.i64 (IntKind.wrap IntKind.i64 ((↑i : Int) + (1 : Int))))]
                            [some (Blk.mk false [] (0 : Nat) (0 : Nat) (fun x => []) [] (some fun js => Mem.mk (FD.nl x js) (FD.ad x js) (FD.ln x js) (FD.cp x js) (1 : Nat) fun q => [AV.int IntKind.i64 (FD.z x (q :: js))])),
                              some (Blk.mk false [] (8 : Nat) cap (fun r => [AV.int IntKind.i64 (OC.kd o r), AV.part (0 : Nat) [r], AV.int IntKind.i64 (OC.fo o r), AV.int IntKind.i64 (OC.fa o r), AV.int IntKind.i64 (OC.fb o r), AV.int IntKind.i64 (OC.pa o r), AV.int IntKind.i64 (OC.ra o r), AV.int IntKind.i64 (OC.co o r)]) [] none),
                              some (Blk.mk false [] (1 : Nat) pc (fun a => [AV.int IntKind.i64 (pr a)]) [] none), some (Blk.mk true [AV.int IntKind.i64 G, AV.sl (1 : Nat) (0 : Nat) (8 : Nat) (0 : Nat) len cap] (0 : Nat) (0 : Nat) (fun x => []) [] none),
                              some (Blk.mk true [] (1 : Nat) (1 : Nat) (fun i_1 => [AV.int IntKind.i64 (List.getD [pr ((0 : Nat) + Int.toNat (↑i : Int))] i_1 (0 : Int))]) [] none),
                              some (Blk.mk true [] (1 : Nat) c (fun r => if r < (0 : Nat) then [] else if r < (1 : Nat) then List.map (fun c => Col.at c ((0 : Nat) + (r - (0 : Nat)))) ([] ++ [Col.ints IntKind.i64 [pr ((0 : Nat) + Int.toNat (↑i : Int))]]) else AV.cells (AV.int IntKind.i64 (0 : Int))) [] none)])))))))
          (T.chk true
            (@T.chk (Ex × St) true
              (T.chk true
                (T.all fun c =>
                  T.asm (decide ((1 : Nat) ≤ c))
                    (T.ret
                      (Ex.norm,
                        St.mk [((1 : Nat), AV.sl (2 : Nat) (0 : Nat) (1 : Nat) (0 : Nat) np pc), ((2 : Nat), AV.int IntKind.i64 op), ((3 : Nat), AV.int IntKind.i64 key), ((4 : Nat), AV.ptr (3 : Nat) (0 : Nat) (0 : Nat) (0 : Nat)), ((9 : Nat), AV.sl (5 : Nat) (0 : Nat) (1 : Nat) (0 : Nat) (1 : Nat) c), ((10 : Nat), AV.int IntKind.i64 (IntKind.wrap IntKind.i64 ((↑i : Int) + (1 : Int))))]
                          [some (Blk.mk false [] (0 : Nat) (0 : Nat) (fun x => []) [] (some fun js => Mem.mk (FD.nl x js) (FD.ad x js) (FD.ln x js) (FD.cp x js) (1 : Nat) fun q => [AV.int IntKind.i64 (FD.z x (q :: js))])),
                            some (Blk.mk false [] (8 : Nat) cap (fun r => [AV.int IntKind.i64 (OC.kd o r), AV.part (0 : Nat) [r], AV.int IntKind.i64 (OC.fo o r), AV.int IntKind.i64 (OC.fa o r), AV.int IntKind.i64 (OC.fb o r), AV.int IntKind.i64 (OC.pa o r), AV.int IntKind.i64 (OC.ra o r), AV.int IntKind.i64 (OC.co o r)]) [] none),
                            some (Blk.mk false [] (1 : Nat) pc (fun a => [AV.int IntKind.i64 (pr a)]) [] none), some (Blk.mk true [AV.int IntKind.i64 G, AV.sl (1 : Nat) (0 : Nat) (8 : Nat) (0 : Nat) len cap] (0 : Nat) (0 : Nat) (fun x => []) [] none), some (Blk.mk true [] (1 : Nat) (1 : Nat) (fun i_1 => [AV.int IntKind.i64 (List.getD [pr ((0 : Nat) + Int.toNat (↑i : Int))] i_1 (0 : Int))]) [] none),
                            some (Blk.mk true [] (1 : Nat) c (fun r => if r < (0 : Nat) then [] else if r < (1 : Nat) then List.map (fun c => Col.at c ((0 : Nat) + (r - (0 : Nat)))) ([] ++ [Col.ints IntKind.i64 [pr ((0 : Nat) + Int.toNat (↑i : Int))]]) else AV.cells (AV.int IntKind.i64 (0 : Int))) [] none)])))))))))
    (T.ret
      (Ex.exit (0 : Nat),
        St.mk [((1 : Nat), AV.sl (2 : Nat) (0 : Nat) (1 : Nat) (0 : Nat) np pc), ((2 : Nat), AV.int IntKind.i64 op), ((3 : Nat), AV.int IntKind.i64 key), ((4 : Nat), AV.ptr (3 : Nat) (0 : Nat) (0 : Nat) (0 : Nat)), ((9 : Nat), AV.nils), ((10 : Nat), AV.int IntKind.i64 (↑i : Int))]
          [some (Blk.mk false [] (0 : Nat) (0 : Nat) (fun x => []) [] (some fun js => Mem.mk (FD.nl x js) (FD.ad x js) (FD.ln x js) (FD.cp x js) (1 : Nat) fun q => [AV.int IntKind.i64 (FD.z x (q :: js))])),
            some (Blk.mk false [] (8 : Nat) cap (fun r => [AV.int IntKind.i64 (OC.kd o r), AV.part (0 : Nat) [r], AV.int IntKind.i64 (OC.fo o r), AV.int IntKind.i64 (OC.fa o r), AV.int IntKind.i64 (OC.fb o r), AV.int IntKind.i64 (OC.pa o r), AV.int IntKind.i64 (OC.ra o r), AV.int IntKind.i64 (OC.co o r)]) [] none), some (Blk.mk false [] (1 : Nat) pc (fun a => [AV.int IntKind.i64 (pr a)]) [] none),
            some (Blk.mk true [AV.int IntKind.i64 G, AV.sl (1 : Nat) (0 : Nat) (8 : Nat) (0 : Nat) len cap] (0 : Nat) (0 : Nat) (fun x => []) [] none)])) := by
  kernel_rfl

theorem hv_t1 (x : FD) (o : OC) (G key op : Int) (len cap : Nat) (pr : Nat → Int) (np pc i c : Nat) : T.cut (keepT [1, 2, 3, 4, 9, 10] (acode Try.prog (hvE2 x o G len cap) hvC (hvSt x o G key op len cap pr np pc ⟨i, true, c⟩))) [2, 4, 2, 2, 2, 0] = 
  T.ite (decide ((↑i : Int) < (↑np : Int)))
    (T.chk (decide ((0 : Int) ≤ (↑i : Int)) && decide ((↑i : Int) < (↑np : Int)))
      (T.chk (decide ((0 : Nat) + Int.toNat (↑i : Int) < pc))
        (T.ite (decide (IntKind.wrap IntKind.i64 ((2 : Int) * pr ((0 : Nat) + Int.toNat (↑i : Int))) ≤ G))
          (T.ite (decide (IntKind.wrap IntKind.i64 ((2 : Int) * pr ((0 : Nat) + Int.toNat (↑i : Int))) ≤ (8 : Int)))
            (T.chk true
              (T.chk (decide ((0 : Nat) + c ≤ c))
                (T.chk (decide (i ≤ c))
                  (T.chk (decide (i + (1 : Nat) ≤ (4294967296 : Nat)))
                    (T.all fun c_1 =>
                      T.all fun c_2 =>
                        T.asm (decide (i + (1 : Nat) ≤ c_1 ∧ (c_2 = (0 : Nat) ∨ c_1 = c)))
                          (T.ret
                            (Ex.norm,
                              St.mk [((1 : Nat), AV.sl (2 : Nat) (0 : Nat) (1 : Nat) (0 : Nat) np pc), ((2 : Nat), AV.int IntKind.i64 op), ((3 : Nat), AV.int IntKind.i64 key), ((4 : Nat), AV.ptr (3 : Nat) (0 : Nat) (0 : Nat) (0 : Nat)), ((9 : Nat), AV.sl (6 : Nat) (0 : Nat) (1 : Nat) (0 : Nat) (i + (1 : Nat)) c_1), ((10 : Nat), AV.int IntKind.i64 (IntKind.wrap IntKind.i64 ((↑i : Int) + (1 : Int))))]
                                [some (Blk.mk false [] (0 : Nat) (0 : Nat) (fun x => []) [] (some fun js => Mem.mk (FD.nl x js) (FD.ad x js) (FD.ln x js) (FD.cp x js) (1 : Nat) fun q => [AV.int IntKind.i64 (FD.z x (q :: js))])),
                                  some (Blk.mk false [] (8 : Nat) cap (fun r => [AV.int IntKind.i64 (OC.kd o r), AV.part (0 : Nat) [r], AV.int IntKind.i64 (OC.fo o r), AV.int IntKind.i64 (OC.fa o r), AV.int IntKind.i64 (OC.fb o r), AV.int IntKind.i64 (OC.pa o r), AV.int IntKind.i64 (OC.ra o r), AV.int IntKind.i64 (OC.co o r)]) [] none),
                                  some (Blk.mk false [] (1 : Nat) pc (fun a => [AV.int IntKind.i64 (pr a)]) [] none), some (Blk.mk true [AV.int IntKind.i64 G, AV.sl (1 : Nat) (0 : Nat) (8 : Nat) (0 : Nat) len cap] (0 : Nat) (0 : Nat) (fun x => []) [] none), none,
                                  some (Blk.mk true [] (1 : Nat) (1 : Nat) (fun i_1 => [AV.int IntKind.i64 (List.getD [IntKind.wrap IntKind.i64 ((2 : Int) * pr ((0 : Nat) + Int.toNat (↑i : Int)))] i_1 (0 : Int))]) [] none),
                                  some
                                    (Blk.mk true [] (1 : Nat) c_1
                                      (fun r =>
                                        if r < i then [AV.int IntKind.i64 (if (0 : Nat) + r < i then hf G pr ((0 : Nat) + r) else (0 : Int))]
                                        else if r < i + (1 : Nat) then List.map (fun c => Col.at c ((0 : Nat) + (r - i))) ([] ++ [Col.ints IntKind.i64 [IntKind.wrap IntKind.i64 ((2 : Int) * pr ((0 : Nat) + Int.toNat (↑i : Int)))]]) else if c_2 = (0 : Nat) then AV.cells (AV.int IntKind.i64 (0 : Int)) else [AV.int IntKind.i64 (if (0 : Nat) + r < i then hf G pr ((0 : Nat) + r) else (0 : Int))])
                                      [] none)])))))))
            (T.chk true
              (T.chk (decide ((0 : Nat) + c ≤ c))
                (T.chk (decide (i ≤ c))
                  (T.chk (decide (i + (1 : Nat) ≤ (4294967296 : Nat)))
                    (T.all fun c_1 =>
                      T.all fun c_2 =>
                        T.asm (decide (i + (1 : Nat) ≤ c_1 ∧ (c_2 = (0 : Nat) ∨ c_1 = c)))
                          (T.ret
                            (Ex.norm,
                              St.mk [((1 : Nat), AV.sl (2 : Nat) (0 : Nat) (1 : Nat) (0 : Nat) np pc), ((2 : Nat), AV.int IntKind.i64 op), ((3 : Nat), AV.int IntKind.i64 key), ((4 : Nat), AV.ptr (3 : Nat) (0 : Nat) (0 : Nat) (0 : Nat)), ((9 : Nat), AV.sl (6 : Nat) (0 : Nat) (1 : Nat) (0 : Nat) (i + (1 : Nat)) c_1), ((10 : Nat), AV.int IntKind.i64 (IntKind.wrap IntKind.i64 ((↑i : Int) + (1 : Int))))]
                                [some (Blk.mk false [] (0 : Nat) (0 : Nat) (fun x => []) [] (some fun js => Mem.mk (FD.nl x js) (FD.ad x js) (FD.ln x js) (FD.cp x js) (1 : Nat) fun q => [AV.int IntKind.i64 (FD.z x (q :: js))])),
                                  some (Blk.mk false [] (8 : Nat) cap (fun r => [AV.int IntKind.i64 (OC.kd o r), AV.part (0 : Nat) [r], AV.int IntKind.i64 (OC.fo o r), AV.int IntKind.i64 (OC.fa o r), AV.int IntKind.i64 (OC.fb o r), AV.int IntKind.i64 (OC.pa o r), AV.int IntKind.i64 (OC.ra o r), AV.int IntKind.i64 (OC.co o r)]) [] none),
                                  some (Blk.mk false [] (1 : Nat) pc (fun a => [AV.int IntKind.i64 (pr a)]) [] none), some (Blk.mk true [AV.int IntKind.i64 G, AV.sl (1 : Nat) (0 : Nat) (8 : Nat) (0 : Nat) len cap] (0 : Nat) (0 : Nat) (fun x => []) [] none), none,
                                  some (Blk.mk true [] (1 : Nat) (1 : Nat) (fun i_1 => [AV.int IntKind.i64 (List.getD [pr ((0 : Nat) + Int.toNat (↑i : Int))] i_1 (0 : Int))]) [] none),
                                  some
                                    (Blk.mk true [] (1 : Nat) c_1
                                      (fun r =>
                                        if r < i then [AV.int IntKind.i64 (if (0 : Nat) + r < i then hf G pr ((0 : Nat) + r) else (0 : Int))]
                                        else if r < i + (1 : Nat) then List.map (fun c => Col.at c ((0 : Nat) + (r - i))) ([] ++ [Col.ints IntKind.i64 [pr ((0 : Nat) + Int.toNat (↑i : Int))]]) else if c_2 = (0 : Nat) then AV.cells (AV.int IntKind.i64 (0 : Int)) else [AV.int IntKind.i64 (if (0 : Nat) + r < i then hf G pr ((0 : Nat) + r) else (0 : Int))])
                                      [] none)]))))))))
          (T.chk true
            (T.chk (decide ((0 : Nat) + c ≤ c))
              (T.chk (decide (i ≤ c))
                (T.chk (decide (i + (1 : Nat) ≤ (4294967296 : Nat)))
                  (T.all fun c_1 =>
                    T.all fun c_2 =>
                      T.asm (decide (i + (1 : Nat) ≤ c_1 ∧ (c_2 = (0 : Nat) ∨ c_1 = c)))
                        (T.ret
                          (Ex.norm,
                            St.mk [((1 : Nat), AV.sl (2 : Nat) (0 : Nat) (1 : Nat) (0 : Nat) np pc), ((2 : Nat), AV.int IntKind.i64 op), ((3 : Nat), AV.int IntKind.i64 key), ((4 : Nat), AV.ptr (3 : Nat) (0 : Nat) (0 : Nat) (0 : Nat)), ((9 : Nat), AV.sl (6 : Nat) (0 : Nat) (1 : Nat) (0 : Nat) (i + (1 : Nat)) c_1), ((10 : Nat), AV.int IntKind.i64 (IntKind.wrap IntKind.i64 ((↑i : Int) + (1 : Int))))]
                              [some (Blk.mk false [] (0 : Nat) (0 : Nat) (fun x => []) [] (some fun js => Mem.mk (FD.nl x js) (FD.ad x js) (FD.ln x js) (FD.cp x js) (1 : Nat) fun q => [AV.int IntKind.i64 (FD.z x (q :: js))])),
                                some (Blk.mk false [] (8 : Nat) cap (fun r => [AV.int IntKind.i64 (OC.kd o r), AV.part (0 : Nat) [r], AV.int IntKind.i64 (OC.fo o r), AV.int IntKind.i64 (OC.fa o r), AV.int IntKind.i64 (OC.fb o r), AV.int IntKind.i64 (OC.pa o r), AV.int IntKind.i64 (OC.ra o r), AV.int IntKind.i64 (OC.co o r)]) [] none),
                                some (Blk.mk false [] (1 : Nat) pc (fun a => [AV.int IntKind.i64 (pr a)]) [] none), some (Blk.mk true [AV.int IntKind.i64 G, AV.sl (1 : Nat) (0 : Nat) (8 : Nat) (0 : Nat) len cap] (0 : Nat) (0 : Nat) (fun x => []) [] none), none,
                                some (Blk.mk true [] (1 : Nat) (1 : Nat) (fun i_1 => [AV.int IntKind.i64 (List.getD [pr ((0 : Nat) + Int.toNat (↑i : Int))] i_1 (0 : Int))]) [] none),
                                some
                                  (Blk.mk true [] (1 : Nat) c_1
                                    (fun r =>
                                      if r < i then [AV.int IntKind.i64 (if (0 : Nat) + r < i then hf G pr ((0 : Nat) + r) else (0 : Int))]
                                      else if r < i + (1 : Nat) then List.map (fun c => Col.at c ((0 : Nat) + (r - i))) ([] ++ [Col.ints IntKind.i64 [pr ((0 : Nat) + Int.toNat (↑i : Int))]]) else if c_2 = (0 : Nat) then AV.cells (AV.int IntKind.i64 (0 : Int)) else [AV.int IntKind.i64 (if (0 : Nat) + r < i then hf G pr ((0 : Nat) + r) else (0 : Int))])
                                    [] none)]))))))))))
    (T.ret
      (Ex.exit (0 : Nat),
        St.mk [((1 : Nat), AV.sl (2 : Nat) (0 : Nat) (1 : Nat) (0 : Nat) np pc), ((2 : Nat), AV.int IntKind.i64 op), ((3 : Nat), AV.int IntKind.i64 key), ((4 : Nat), AV.ptr (3 : Nat) (0 : Nat) (0 : Nat) (0 : Nat)), ((9 : Nat), AV.sl (4 : Nat) (0 : Nat) (1 : Nat) (0 : Nat) i c), ((10 : Nat), AV.int IntKind.i64 (↑i : Int))]
          [some (Blk.mk false [] (0 : Nat) (0 : Nat) (fun x => []) [] (some fun js => Mem.mk (FD.nl x js) (FD.ad x js) (FD.ln x js) (FD.cp x js) (1 : Nat) fun q => [AV.int IntKind.i64 (FD.z x (q :: js))])),
            some (Blk.mk false [] (8 : Nat) cap (fun r => [AV.int IntKind.i64 (OC.kd o r), AV.part (0 : Nat) [r], AV.int IntKind.i64 (OC.fo o r), AV.int IntKind.i64 (OC.fa o r), AV.int IntKind.i64 (OC.fb o r), AV.int IntKind.i64 (OC.pa o r), AV.int IntKind.i64 (OC.ra o r), AV.int IntKind.i64 (OC.co o r)]) [] none), some (Blk.mk false [] (1 : Nat) pc (fun a => [AV.int IntKind.i64 (pr a)]) [] none),
            some (Blk.mk true [AV.int IntKind.i64 G, AV.sl (1 : Nat) (0 : Nat) (8 : Nat) (0 : Nat) len cap] (0 : Nat) (0 : Nat) (fun x => []) [] none), some (Blk.mk true [] (1 : Nat) c (fun r => [AV.int IntKind.i64 (if r < i then hf G pr r else (0 : Int))]) [] none)])) := by
  kernel_rfl

theorem hv_b (x : FD) (o : OC) (G key op : Int) (len cap : Nat) (pr : Nat → Int) (np pc c : Nat) : T.cut (keepT [1, 8, 9, 12, 13, 14] (acodeL Try.prog (hvE2 x o G len cap) (((chainOf hvF).drop 6).take 5) (hvSt x o G key op len cap pr np pc ⟨np, true, c⟩))) [2, 5, 2, 1, 0, 2, 0, 2, 2, 2, 0, 2, 0] = 
  T.need (G = G ∧ len = len ∧ cap = cap)
    (T.need
      (spIn x o cap
        [some (Blk.mk false [] (0 : Nat) (0 : Nat) (fun x => []) [] (some fun js => Mem.mk (FD.nl x js) (FD.ad x js) (FD.ln x js) (FD.cp x js) (1 : Nat) fun q => [AV.int IntKind.i64 (FD.z x (q :: js))])),
          some (Blk.mk false [] (8 : Nat) cap (fun r => [AV.int IntKind.i64 (OC.kd o r), AV.part (0 : Nat) [r], AV.int IntKind.i64 (OC.fo o r), AV.int IntKind.i64 (OC.fa o r), AV.int IntKind.i64 (OC.fb o r), AV.int IntKind.i64 (OC.pa o r), AV.int IntKind.i64 (OC.ra o r), AV.int IntKind.i64 (OC.co o r)]) [] none), some (Blk.mk false [] (1 : Nat) pc (fun a => [AV.int IntKind.i64 (pr a)]) [] none),
          some (Blk.mk true [AV.int IntKind.i64 G, AV.sl (1 : Nat) (0 : Nat) (8 : Nat) (0 : Nat) len cap] (0 : Nat) (0 : Nat) (fun x => []) [] none), some (Blk.mk true [] (1 : Nat) c (fun r => [AV.int IntKind.i64 (if r < np then hf G pr r else (0 : Int))]) [] none)])
      (T.need (IntRow IntKind.i64 (Blk.mk false [] (1 : Nat) pc (fun a => [AV.int IntKind.i64 (pr a)]) [] none) ∧ pc = pc ∧ np ≤ pc ∧ (2 : Nat) ≠ (0 : Nat) ∧ (2 : Nat) ≠ (1 : Nat))
        (T.need (tgU np (usG x len op) (List.length (usL x len op)))
          (T.ite (decide (List.length (usL x len op) = (0 : Nat)))
            (T.need (G = G ∧ len = len ∧ cap = cap)
              (T.need
                (spIn x o cap
                  [some (Blk.mk false [] (0 : Nat) (0 : Nat) (fun x => []) [] (some fun js => Mem.mk (FD.nl x js) (FD.ad x js) (FD.ln x js) (FD.cp x js) (1 : Nat) fun q => [AV.int IntKind.i64 (FD.z x (q :: js))])),
                    some (Blk.mk false [] (8 : Nat) cap (fun r => [AV.int IntKind.i64 (OC.kd o r), AV.part (0 : Nat) [r], AV.int IntKind.i64 (OC.fo o r), AV.int IntKind.i64 (OC.fa o r), AV.int IntKind.i64 (OC.fb o r), AV.int IntKind.i64 (OC.pa o r), AV.int IntKind.i64 (OC.ra o r), AV.int IntKind.i64 (OC.co o r)]) [] none),
                    some (Blk.mk false [] (1 : Nat) pc (fun a => [AV.int IntKind.i64 (pr a)]) [] none), some (Blk.mk true [AV.int IntKind.i64 G, AV.sl (1 : Nat) (0 : Nat) (8 : Nat) (0 : Nat) len cap] (0 : Nat) (0 : Nat) (fun x => []) [] none), some (Blk.mk true [] (1 : Nat) c (fun r => [AV.int IntKind.i64 (if r < np then hf G pr r else (0 : Int))]) [] none)])
                (T.need (IntRow IntKind.i64 (Blk.mk true [] (1 : Nat) c (fun r => [AV.int IntKind.i64 (if r < np then hf G pr r else (0 : Int))]) [] none) ∧ c = c ∧ np ≤ c ∧ (4 : Nat) ≠ (0 : Nat) ∧ (4 : Nat) ≠ (1 : Nat))
                  (T.need (tgU np (usG x len op) (List.length (usL x len op)))
                    (T.ite (decide (List.length (usL x len op) = (0 : Nat)))
                      (@T.chk (Ex × St) true
                        (T.ret
                          (Ex.norm,
                            St.mk [((1 : Nat), AV.sl (2 : Nat) (0 : Nat) (1 : Nat) (0 : Nat) np pc), ((9 : Nat), AV.sl (4 : Nat) (0 : Nat) (1 : Nat) (0 : Nat) np c), ((12 : Nat), AV.nils), ((13 : Nat), AV.nils), ((14 : Nat), AV.int IntKind.i64 (0 : Int))]
                              [some (Blk.mk false [] (0 : Nat) (0 : Nat) (fun x => []) [] (some fun js => Mem.mk (FD.nl x js) (FD.ad x js) (FD.ln x js) (FD.cp x js) (1 : Nat) fun q => [AV.int IntKind.i64 (FD.z x (q :: js))])),
                                some (Blk.mk false [] (8 : Nat) cap (fun r => [AV.int IntKind.i64 (OC.kd o r), AV.part (0 : Nat) [r], AV.int IntKind.i64 (OC.fo o r), AV.int IntKind.i64 (OC.fa o r), AV.int IntKind.i64 (OC.fb o r), AV.int IntKind.i64 (OC.pa o r), AV.int IntKind.i64 (OC.ra o r), AV.int IntKind.i64 (OC.co o r)]) [] none),
                                some (Blk.mk false [] (1 : Nat) pc (fun a => [AV.int IntKind.i64 (pr a)]) [] none), some (Blk.mk true [AV.int IntKind.i64 G, AV.sl (1 : Nat) (0 : Nat) (8 : Nat) (0 : Nat) len cap] (0 : Nat) (0 : Nat) (fun x => []) [] none), some (Blk.mk true [] (1 : Nat) c (fun r => [AV.int IntKind.i64 (if r < np then hf G pr r else (0 : Int))]) [] none)])))
                      (T.all fun c_1 =>
                        T.asm (decide (List.length (usL x len op) ≤ c_1))
                          (T.ite ((0 : Int) != (↑(List.length (usL x len op)) : Int))
                            (T.ret
                              (Ex.ret,
                                St.mk [((1 : Nat), AV.sl (2 : Nat) (0 : Nat) (1 : Nat) (0 : Nat) np pc), ((8 : Nat), AV.ff), ((9 : Nat), AV.sl (4 : Nat) (0 : Nat) (1 : Nat) (0 : Nat) np c), ((12 : Nat), AV.nils), ((13 : Nat), AV.sl (5 : Nat) (0 : Nat) (2 : Nat) (0 : Nat) (List.length (usL x len op)) c_1)]
                                  [some (Blk.mk false [] (0 : Nat) (0 : Nat) (fun x => []) [] (some fun js => Mem.mk (FD.nl x js) (FD.ad x js) (FD.ln x js) (FD.cp x js) (1 : Nat) fun q => [AV.int IntKind.i64 (FD.z x (q :: js))])),
                                    some (Blk.mk false [] (8 : Nat) cap (fun r => [AV.int IntKind.i64 (OC.kd o r), AV.part (0 : Nat) [r], AV.int IntKind.i64 (OC.fo o r), AV.int IntKind.i64 (OC.fa o r), AV.int IntKind.i64 (OC.fb o r), AV.int IntKind.i64 (OC.pa o r), AV.int IntKind.i64 (OC.ra o r), AV.int IntKind.i64 (OC.co o r)]) [] none),
                                    some (Blk.mk false [] (1 : Nat) pc (fun a => [AV.int IntKind.i64 (pr a)]) [] none), some (Blk.mk true [AV.int IntKind.i64 G, AV.sl (1 : Nat) (0 : Nat) (8 : Nat) (0 : Nat) len cap] (0 : Nat) (0 : Nat) (fun x => []) [] none), some (Blk.mk true [] (1 : Nat) c (fun r => [AV.int IntKind.i64 (if r < np then hf G pr r else (0 : Int))]) [] none),
                                    some (Blk.mk true [] (2 : Nat) c_1 (fun j => [AV.int IntKind.i64 (if j < List.length (usL x len op) then usG x len op j else (0 : Int)), AV.int IntKind.i64 (if j < List.length (usL x len op) then owAt G key (fun j => if j < np then hf G pr j else (0 : Int)) (usG x len op) j else (0 : Int))]) [] none)]))
                            (T.ret
                              (Ex.norm,
                                St.mk [((1 : Nat), AV.sl (2 : Nat) (0 : Nat) (1 : Nat) (0 : Nat) np pc), ((9 : Nat), AV.sl (4 : Nat) (0 : Nat) (1 : Nat) (0 : Nat) np c), ((12 : Nat), AV.nils), ((13 : Nat), AV.sl (5 : Nat) (0 : Nat) (2 : Nat) (0 : Nat) (List.length (usL x len op)) c_1), ((14 : Nat), AV.int IntKind.i64 (0 : Int))]
                                  [some (Blk.mk false [] (0 : Nat) (0 : Nat) (fun x => []) [] (some fun js => Mem.mk (FD.nl x js) (FD.ad x js) (FD.ln x js) (FD.cp x js) (1 : Nat) fun q => [AV.int IntKind.i64 (FD.z x (q :: js))])),
                                    some (Blk.mk false [] (8 : Nat) cap (fun r => [AV.int IntKind.i64 (OC.kd o r), AV.part (0 : Nat) [r], AV.int IntKind.i64 (OC.fo o r), AV.int IntKind.i64 (OC.fa o r), AV.int IntKind.i64 (OC.fb o r), AV.int IntKind.i64 (OC.pa o r), AV.int IntKind.i64 (OC.ra o r), AV.int IntKind.i64 (OC.co o r)]) [] none),
                                    some (Blk.mk false [] (1 : Nat) pc (fun a => [AV.int IntKind.i64 (pr a)]) [] none), some (Blk.mk true [AV.int IntKind.i64 G, AV.sl (1 : Nat) (0 : Nat) (8 : Nat) (0 : Nat) len cap] (0 : Nat) (0 : Nat) (fun x => []) [] none), some (Blk.mk true [] (1 : Nat) c (fun r => [AV.int IntKind.i64 (if r < np then hf G pr r else (0 : Int))]) [] none),
                                    some (Blk.mk true [] (2 : Nat) c_1 (fun j => [AV.int IntKind.i64 (if j < List.length (usL x len op) then usG x len op j else (0 : Int)), AV.int IntKind.i64 (if j < List.length (usL x len op) then owAt G key (fun j => if j < np then hf G pr j else (0 : Int)) (usG x len op) j else (0 : Int))]) [] none)])))))))))
            (T.all fun c_1 =>
              T.asm (decide (List.length (usL x len op) ≤ c_1))
                (T.need (G = G ∧ len = len ∧ cap = cap)
                  (T.need
                    (spIn x o cap
                      [some (Blk.mk false [] (0 : Nat) (0 : Nat) (fun x => []) [] (some fun js => Mem.mk (FD.nl x js) (FD.ad x js) (FD.ln x js) (FD.cp x js) (1 : Nat) fun q => [AV.int IntKind.i64 (FD.z x (q :: js))])),
                        some (Blk.mk false [] (8 : Nat) cap (fun r => [AV.int IntKind.i64 (OC.kd o r), AV.part (0 : Nat) [r], AV.int IntKind.i64 (OC.fo o r), AV.int IntKind.i64 (OC.fa o r), AV.int IntKind.i64 (OC.fb o r), AV.int IntKind.i64 (OC.pa o r), AV.int IntKind.i64 (OC.ra o r), AV.int IntKind.i64 (OC.co o r)]) [] none),
                        some (Blk.mk false [] (1 : Nat) pc (fun a => [AV.int IntKind.i64 (pr a)]) [] none), some (Blk.mk true [AV.int IntKind.i64 G, AV.sl (1 : Nat) (0 : Nat) (8 : Nat) (0 : Nat) len cap] (0 : Nat) (0 : Nat) (fun x => []) [] none), some (Blk.mk true [] (1 : Nat) c (fun r => [AV.int IntKind.i64 (if r < np then hf G pr r else (0 : Int))]) [] none),
                        some (Blk.mk true [] (2 : Nat) c_1 (fun j => [AV.int IntKind.i64 (if j < List.length (usL x len op) then usG x len op j else (0 : Int)), AV.int IntKind.i64 (if j < List.length (usL x len op) then owAt G key pr (usG x len op) j else (0 : Int))]) [] none)])
                    (T.need (IntRow IntKind.i64 (Blk.mk true [] (1 : Nat) c (fun r => [AV.int IntKind.i64 (if r < np then hf G pr r else (0 : Int))]) [] none) ∧ c = c ∧ np ≤ c ∧ (4 : Nat) ≠ (0 : Nat) ∧ (4 : Nat) ≠ (1 : Nat))
                      (T.need (tgU np (usG x len op) (List.length (usL x len op)))
                        (T.ite (decide (List.length (usL x len op) = (0 : Nat)))
                          (T.ite ((↑(List.length (usL x len op)) : Int) != (0 : Int))
                            (T.ret
                              (Ex.ret,
                                St.mk [((1 : Nat), AV.sl (2 : Nat) (0 : Nat) (1 : Nat) (0 : Nat) np pc), ((8 : Nat), AV.ff), ((9 : Nat), AV.sl (4 : Nat) (0 : Nat) (1 : Nat) (0 : Nat) np c), ((12 : Nat), AV.sl (5 : Nat) (0 : Nat) (2 : Nat) (0 : Nat) (List.length (usL x len op)) c_1), ((13 : Nat), AV.nils)]
                                  [some (Blk.mk false [] (0 : Nat) (0 : Nat) (fun x => []) [] (some fun js => Mem.mk (FD.nl x js) (FD.ad x js) (FD.ln x js) (FD.cp x js) (1 : Nat) fun q => [AV.int IntKind.i64 (FD.z x (q :: js))])),
                                    some (Blk.mk false [] (8 : Nat) cap (fun r => [AV.int IntKind.i64 (OC.kd o r), AV.part (0 : Nat) [r], AV.int IntKind.i64 (OC.fo o r), AV.int IntKind.i64 (OC.fa o r), AV.int IntKind.i64 (OC.fb o r), AV.int IntKind.i64 (OC.pa o r), AV.int IntKind.i64 (OC.ra o r), AV.int IntKind.i64 (OC.co o r)]) [] none),
                                    some (Blk.mk false [] (1 : Nat) pc (fun a => [AV.int IntKind.i64 (pr a)]) [] none), some (Blk.mk true [AV.int IntKind.i64 G, AV.sl (1 : Nat) (0 : Nat) (8 : Nat) (0 : Nat) len cap] (0 : Nat) (0 : Nat) (fun x => []) [] none), some (Blk.mk true [] (1 : Nat) c (fun r => [AV.int IntKind.i64 (if r < np then hf G pr r else (0 : Int))]) [] none),
                                    some (Blk.mk true [] (2 : Nat) c_1 (fun j => [AV.int IntKind.i64 (if j < List.length (usL x len op) then usG x len op j else (0 : Int)), AV.int IntKind.i64 (if j < List.length (usL x len op) then owAt G key pr (usG x len op) j else (0 : Int))]) [] none)]))
                            (T.ret
                              (Ex.norm,
                                St.mk [((1 : Nat), AV.sl (2 : Nat) (0 : Nat) (1 : Nat) (0 : Nat) np pc), ((9 : Nat), AV.sl (4 : Nat) (0 : Nat) (1 : Nat) (0 : Nat) np c), ((12 : Nat), AV.sl (5 : Nat) (0 : Nat) (2 : Nat) (0 : Nat) (List.length (usL x len op)) c_1), ((13 : Nat), AV.nils), ((14 : Nat), AV.int IntKind.i64 (0 : Int))]
                                  [some (Blk.mk false [] (0 : Nat) (0 : Nat) (fun x => []) [] (some fun js => Mem.mk (FD.nl x js) (FD.ad x js) (FD.ln x js) (FD.cp x js) (1 : Nat) fun q => [AV.int IntKind.i64 (FD.z x (q :: js))])),
                                    some (Blk.mk false [] (8 : Nat) cap (fun r => [AV.int IntKind.i64 (OC.kd o r), AV.part (0 : Nat) [r], AV.int IntKind.i64 (OC.fo o r), AV.int IntKind.i64 (OC.fa o r), AV.int IntKind.i64 (OC.fb o r), AV.int IntKind.i64 (OC.pa o r), AV.int IntKind.i64 (OC.ra o r), AV.int IntKind.i64 (OC.co o r)]) [] none),
                                    some (Blk.mk false [] (1 : Nat) pc (fun a => [AV.int IntKind.i64 (pr a)]) [] none), some (Blk.mk true [AV.int IntKind.i64 G, AV.sl (1 : Nat) (0 : Nat) (8 : Nat) (0 : Nat) len cap] (0 : Nat) (0 : Nat) (fun x => []) [] none), some (Blk.mk true [] (1 : Nat) c (fun r => [AV.int IntKind.i64 (if r < np then hf G pr r else (0 : Int))]) [] none),
                                    some (Blk.mk true [] (2 : Nat) c_1 (fun j => [AV.int IntKind.i64 (if j < List.length (usL x len op) then usG x len op j else (0 : Int)), AV.int IntKind.i64 (if j < List.length (usL x len op) then owAt G key pr (usG x len op) j else (0 : Int))]) [] none)])))
                          (T.all fun c_2 =>
                            T.asm (decide (List.length (usL x len op) ≤ c_2))
                              (T.ite ((↑(List.length (usL x len op)) : Int) != (↑(List.length (usL x len op)) : Int))
                                (T.ret
                                  (Ex.ret,
                                    St.mk [((1 : Nat), AV.sl (2 : Nat) (0 : Nat) (1 : Nat) (0 : Nat) np pc), ((8 : Nat), AV.ff), ((9 : Nat), AV.sl (4 : Nat) (0 : Nat) (1 : Nat) (0 : Nat) np c), ((12 : Nat), AV.sl (5 : Nat) (0 : Nat) (2 : Nat) (0 : Nat) (List.length (usL x len op)) c_1), ((13 : Nat), AV.sl (6 : Nat) (0 : Nat) (2 : Nat) (0 : Nat) (List.length (usL x len op)) c_2)]
                                      [some (Blk.mk false [] (0 : Nat) (0 : Nat) (fun x => []) [] (some fun js => Mem.mk (FD.nl x js) (FD.ad x js) (FD.ln x js) (FD.cp x js) (1 : Nat) fun q => [AV.int IntKind.i64 (FD.z x (q :: js))])),
                                        some (Blk.mk false [] (8 : Nat) cap (fun r => [AV.int IntKind.i64 (OC.kd o r), AV.part (0 : Nat) [r], AV.int IntKind.i64 (OC.fo o r), AV.int IntKind.i64 (OC.fa o r), AV.int IntKind.i64 (OC.fb o r), AV.int IntKind.i64 (OC.pa o r), AV.int IntKind.i64 (OC.ra o r), AV.int IntKind.i64 (OC.co o r)]) [] none),
                                        some (Blk.mk false [] (1 : Nat) pc (fun a => [AV.int IntKind.i64 (pr a)]) [] none), some (Blk.mk true [AV.int IntKind.i64 G, AV.sl (1 : Nat) (0 : Nat) (8 : Nat) (0 : Nat) len cap] (0 : Nat) (0 : Nat) (fun x => []) [] none), some (Blk.mk true [] (1 : Nat) c (fun r => [AV.int IntKind.i64 (if r < np then hf G pr r else (0 : Int))]) [] none),
                                        some (Blk.mk true [] (2 : Nat) c_1 (fun j => [AV.int IntKind.i64 (if j < List.length (usL x len op) then usG x len op j else (0 : Int)), AV.int IntKind.i64 (if j < List.length (usL x len op) then owAt G key pr (usG x len op) j else (0 : Int))]) [] none),
                                        some (Blk.mk true [] (2 : Nat) c_2 (fun j => [AV.int IntKind.i64 (if j < List.length (usL x len op) then usG x len op j else (0 : Int)), AV.int IntKind.i64 (if j < List.length (usL x len op) then owAt G key (fun j => if j < np then hf G pr j else (0 : Int)) (usG x len op) j else (0 : Int))]) [] none)]))
                                (T.ret
                                  (Ex.norm,
                                    St.mk
                                      [((1 : Nat), AV.sl (2 : Nat) (0 : Nat) (1 : Nat) (0 : Nat) np pc), ((9 : Nat), AV.sl (4 : Nat) (0 : Nat) (1 : Nat) (0 : Nat) np c), ((12 : Nat), AV.sl (5 : Nat) (0 : Nat) (2 : Nat) (0 : Nat) (List.length (usL x len op)) c_1), ((13 : Nat), AV.sl (6 : Nat) (0 : Nat) (2 : Nat) (0 : Nat) (List.length (usL x len op)) c_2), ((14 : Nat), AV.int IntKind.i64 (0 : Int))]
                                      [some (Blk.mk false [] (0 : Nat) (0 : Nat) (fun x => []) [] (some fun js => Mem.mk (FD.nl x js) (FD.ad x js) (FD.ln x js) (FD.cp x js) (1 : Nat) fun q => [AV.int IntKind.i64 (FD.z x (q :: js))])),
                                        some (Blk.mk false [] (8 : Nat) cap (fun r => [AV.int IntKind.i64 (OC.kd o r), AV.part (0 : Nat) [r], AV.int IntKind.i64 (OC.fo o r), AV.int IntKind.i64 (OC.fa o r), AV.int IntKind.i64 (OC.fb o r), AV.int IntKind.i64 (OC.pa o r), AV.int IntKind.i64 (OC.ra o r), AV.int IntKind.i64 (OC.co o r)]) [] none),
                                        some (Blk.mk false [] (1 : Nat) pc (fun a => [AV.int IntKind.i64 (pr a)]) [] none), some (Blk.mk true [AV.int IntKind.i64 G, AV.sl (1 : Nat) (0 : Nat) (8 : Nat) (0 : Nat) len cap] (0 : Nat) (0 : Nat) (fun x => []) [] none), some (Blk.mk true [] (1 : Nat) c (fun r => [AV.int IntKind.i64 (if r < np then hf G pr r else (0 : Int))]) [] none),
                                        some (Blk.mk true [] (2 : Nat) c_1 (fun j => [AV.int IntKind.i64 (if j < List.length (usL x len op) then usG x len op j else (0 : Int)), AV.int IntKind.i64 (if j < List.length (usL x len op) then owAt G key pr (usG x len op) j else (0 : Int))]) [] none),
                                        some (Blk.mk true [] (2 : Nat) c_2 (fun j => [AV.int IntKind.i64 (if j < List.length (usL x len op) then usG x len op j else (0 : Int)), AV.int IntKind.i64 (if j < List.length (usL x len op) then owAt G key (fun j => if j < np then hf G pr j else (0 : Int)) (usG x len op) j else (0 : Int))]) [] none)])))))))))))))) := by
  kernel_rfl

theorem hv_n (x : FD) (o : OC) (G : Int) (len cap : Nat) (m : AM) : T.cut (keepT [] (acode Try.prog (hvE2 x o G len cap) hvD ⟨[(12, .nils), (14, .int .i64 0)], m⟩)) [0] = 
  @T.chk (Ex × St) true (T.ret (Ex.exit (2 : Nat), St.mk [] m)) := by
  kernel_rfl

theorem hv_d (x : FD) (o : OC) (G : Int) (len cap : Nat) (pr : Nat → Int) (np pc c : Nat) (u U : Nat → Int) (un d : Nat) (V : Nat → Int) (e i : Nat) : T.cut (keepT [1, 8, 9, 12, 13, 14] (acode Try.prog (hvE2 x o G len cap) hvD (hvO x o G cap pr np pc c u U un d V e i))) [2, 12, 2, 0, 2, 0, 2, 0, 2, 2, 2, 0, 2, 0] = 
  T.ite (decide ((↑i : Int) < (↑un : Int)))
    (T.chk (decide ((0 : Int) ≤ (↑i : Int)) && decide ((↑i : Int) < (↑un : Int)))
      (T.chk (decide ((0 : Nat) + Int.toNat (↑i : Int) < d))
        (T.chk (decide ((0 : Int) ≤ (↑i : Int)) && decide ((↑i : Int) < (↑un : Int)))
          (T.chk (decide ((0 : Nat) + Int.toNat (↑i : Int) < e))
            (T.ite ((if (0 : Nat) + Int.toNat (↑i : Int) < un then u ((0 : Nat) + Int.toNat (↑i : Int)) else (0 : Int)) != if (0 : Nat) + Int.toNat (↑i : Int) < un then u ((0 : Nat) + Int.toNat (↑i : Int)) else (0 : Int))
              (T.ret
                (Ex.ret,
                  St.mk [((1 : Nat), AV.sl (2 : Nat) (0 : Nat) (1 : Nat) (0 : Nat) np pc), ((8 : Nat), AV.ff), ((9 : Nat), AV.sl (3 : Nat) (0 : Nat) (1 : Nat) (0 : Nat) np c), ((12 : Nat), AV.sl (4 : Nat) (0 : Nat) (2 : Nat) (0 : Nat) un d), ((13 : Nat), AV.sl (5 : Nat) (0 : Nat) (2 : Nat) (0 : Nat) un e), ((14 : Nat), AV.int IntKind.i64 (↑i : Int))]
                    [some (Blk.mk false [] (0 : Nat) (0 : Nat) (fun x => []) [] (some fun js => Mem.mk (FD.nl x js) (FD.ad x js) (FD.ln x js) (FD.cp x js) (1 : Nat) fun q => [AV.int IntKind.i64 (FD.z x (q :: js))])),
                      some (Blk.mk false [] (8 : Nat) cap (fun r => [AV.int IntKind.i64 (OC.kd o r), AV.part (0 : Nat) [r], AV.int IntKind.i64 (OC.fo o r), AV.int IntKind.i64 (OC.fa o r), AV.int IntKind.i64 (OC.fb o r), AV.int IntKind.i64 (OC.pa o r), AV.int IntKind.i64 (OC.ra o r), AV.int IntKind.i64 (OC.co o r)]) [] none),
                      some (Blk.mk false [] (1 : Nat) pc (fun a => [AV.int IntKind.i64 (pr a)]) [] none), some (Blk.mk true [] (1 : Nat) c (fun r => [AV.int IntKind.i64 (if r < np then hf G pr r else (0 : Int))]) [] none), some (Blk.mk true [] (2 : Nat) d (fun j => [AV.int IntKind.i64 (if j < un then u j else (0 : Int)), AV.int IntKind.i64 (if j < un then U j else (0 : Int))]) [] none),
                      some (Blk.mk true [] (2 : Nat) e (fun j => [AV.int IntKind.i64 (if j < un then u j else (0 : Int)), AV.int IntKind.i64 (if j < un then V j else (0 : Int))]) [] none)]))
              (T.chk (decide ((0 : Int) ≤ (↑i : Int)) && decide ((↑i : Int) < (↑un : Int)))
                (T.chk (decide ((0 : Nat) + Int.toNat (↑i : Int) < d))
                  (T.ite (decide ((if (0 : Nat) + Int.toNat (↑i : Int) < un then u ((0 : Nat) + Int.toNat (↑i : Int)) else (0 : Int)) < (0 : Int)))
                    (T.ret
                      (Ex.ret,
                        St.mk [((1 : Nat), AV.sl (2 : Nat) (0 : Nat) (1 : Nat) (0 : Nat) np pc), ((8 : Nat), AV.ff), ((9 : Nat), AV.sl (3 : Nat) (0 : Nat) (1 : Nat) (0 : Nat) np c), ((12 : Nat), AV.sl (4 : Nat) (0 : Nat) (2 : Nat) (0 : Nat) un d), ((13 : Nat), AV.sl (5 : Nat) (0 : Nat) (2 : Nat) (0 : Nat) un e), ((14 : Nat), AV.int IntKind.i64 (↑i : Int))]
                          [some (Blk.mk false [] (0 : Nat) (0 : Nat) (fun x => []) [] (some fun js => Mem.mk (FD.nl x js) (FD.ad x js) (FD.ln x js) (FD.cp x js) (1 : Nat) fun q => [AV.int IntKind.i64 (FD.z x (q :: js))])),
                            some (Blk.mk false [] (8 : Nat) cap (fun r => [AV.int IntKind.i64 (OC.kd o r), AV.part (0 : Nat) [r], AV.int IntKind.i64 (OC.fo o r), AV.int IntKind.i64 (OC.fa o r), AV.int IntKind.i64 (OC.fb o r), AV.int IntKind.i64 (OC.pa o r), AV.int IntKind.i64 (OC.ra o r), AV.int IntKind.i64 (OC.co o r)]) [] none),
                            some (Blk.mk false [] (1 : Nat) pc (fun a => [AV.int IntKind.i64 (pr a)]) [] none), some (Blk.mk true [] (1 : Nat) c (fun r => [AV.int IntKind.i64 (if r < np then hf G pr r else (0 : Int))]) [] none), some (Blk.mk true [] (2 : Nat) d (fun j => [AV.int IntKind.i64 (if j < un then u j else (0 : Int)), AV.int IntKind.i64 (if j < un then U j else (0 : Int))]) [] none),
                            some (Blk.mk true [] (2 : Nat) e (fun j => [AV.int IntKind.i64 (if j < un then u j else (0 : Int)), AV.int IntKind.i64 (if j < un then V j else (0 : Int))]) [] none)]))
                    (T.chk (decide ((0 : Int) ≤ (↑i : Int)) && decide ((↑i : Int) < (↑un : Int)))
                      (T.chk (decide ((0 : Nat) + Int.toNat (↑i : Int) < d))
                        (T.ite (decide ((if (0 : Nat) + Int.toNat (↑i : Int) < un then u ((0 : Nat) + Int.toNat (↑i : Int)) else (0 : Int)) ≥ (↑np : Int)))
                          (T.ret
                            (Ex.ret,
                              St.mk [((1 : Nat), AV.sl (2 : Nat) (0 : Nat) (1 : Nat) (0 : Nat) np pc), ((8 : Nat), AV.ff), ((9 : Nat), AV.sl (3 : Nat) (0 : Nat) (1 : Nat) (0 : Nat) np c), ((12 : Nat), AV.sl (4 : Nat) (0 : Nat) (2 : Nat) (0 : Nat) un d), ((13 : Nat), AV.sl (5 : Nat) (0 : Nat) (2 : Nat) (0 : Nat) un e), ((14 : Nat), AV.int IntKind.i64 (↑i : Int))]
                                [some (Blk.mk false [] (0 : Nat) (0 : Nat) (fun x => []) [] (some fun js => Mem.mk (FD.nl x js) (FD.ad x js) (FD.ln x js) (FD.cp x js) (1 : Nat) fun q => [AV.int IntKind.i64 (FD.z x (q :: js))])),
                                  some (Blk.mk false [] (8 : Nat) cap (fun r => [AV.int IntKind.i64 (OC.kd o r), AV.part (0 : Nat) [r], AV.int IntKind.i64 (OC.fo o r), AV.int IntKind.i64 (OC.fa o r), AV.int IntKind.i64 (OC.fb o r), AV.int IntKind.i64 (OC.pa o r), AV.int IntKind.i64 (OC.ra o r), AV.int IntKind.i64 (OC.co o r)]) [] none),
                                  some (Blk.mk false [] (1 : Nat) pc (fun a => [AV.int IntKind.i64 (pr a)]) [] none), some (Blk.mk true [] (1 : Nat) c (fun r => [AV.int IntKind.i64 (if r < np then hf G pr r else (0 : Int))]) [] none), some (Blk.mk true [] (2 : Nat) d (fun j => [AV.int IntKind.i64 (if j < un then u j else (0 : Int)), AV.int IntKind.i64 (if j < un then U j else (0 : Int))]) [] none),
                                  some (Blk.mk true [] (2 : Nat) e (fun j => [AV.int IntKind.i64 (if j < un then u j else (0 : Int)), AV.int IntKind.i64 (if j < un then V j else (0 : Int))]) [] none)]))
                          (T.chk (decide ((0 : Int) ≤ (↑i : Int)) && decide ((↑i : Int) < (↑un : Int)))
                            (T.chk (decide ((0 : Nat) + Int.toNat (↑i : Int) < e))
                              (T.chk (decide ((0 : Int) ≤ (↑i : Int)) && decide ((↑i : Int) < (↑un : Int)))
                                (T.chk (decide ((0 : Nat) + Int.toNat (↑i : Int) < d))
                                  (T.chk (decide ((0 : Int) ≤ if (0 : Nat) + Int.toNat (↑i : Int) < un then u ((0 : Nat) + Int.toNat (↑i : Int)) else (0 : Int)) && decide ((if (0 : Nat) + Int.toNat (↑i : Int) < un then u ((0 : Nat) + Int.toNat (↑i : Int)) else (0 : Int)) < (↑np : Int)))
                                    (T.chk (decide ((0 : Nat) + Int.toNat (if (0 : Nat) + Int.toNat (↑i : Int) < un then u ((0 : Nat) + Int.toNat (↑i : Int)) else (0 : Int)) < c))
                                      (T.chk (decide ((0 : Int) ≤ (↑i : Int)) && decide ((↑i : Int) < (↑un : Int)))
                                        (T.chk (decide ((0 : Nat) + Int.toNat (↑i : Int) < d))
                                          (T.chk (decide ((0 : Int) ≤ if (0 : Nat) + Int.toNat (↑i : Int) < un then u ((0 : Nat) + Int.toNat (↑i : Int)) else (0 : Int)) && decide ((if (0 : Nat) + Int.toNat (↑i : Int) < un then u ((0 : Nat) + Int.toNat (↑i : Int)) else (0 : Int)) < (↑np : Int)))
                                            (T.chk (decide ((0 : Nat) + Int.toNat (if (0 : Nat) + Int.toNat (↑i : Int) < un then u ((0 : Nat) + Int.toNat (↑i : Int)) else (0 : Int)) < pc))
                                              (T.ite
                                                ((if (0 : Nat) + Int.toNat (if (0 : Nat) + Int.toNat (↑i : Int) < un then u ((0 : Nat) + Int.toNat (↑i : Int)) else (0 : Int)) < np then hf G pr ((0 : Nat) + Int.toNat (if (0 : Nat) + Int.toNat (↑i : Int) < un then u ((0 : Nat) + Int.toNat (↑i : Int)) else (0 : Int))) else (0 : Int)) !=
                                                  pr ((0 : Nat) + Int.toNat (if (0 : Nat) + Int.toNat (↑i : Int) < un then u ((0 : Nat) + Int.toNat (↑i : Int)) else (0 : Int))))
                                                (T.chk true
                                                  (T.chk (decide ((0 : Int) ≤ (↑i : Int)) && decide ((↑i : Int) < (↑un : Int)))
                                                    (T.chk (decide ((0 : Nat) + Int.toNat (↑i : Int) < d))
                                                      (T.ite (IntKind.wrap IntKind.i64 (Int.tdiv (if (0 : Nat) + Int.toNat (↑i : Int) < un then V ((0 : Nat) + Int.toNat (↑i : Int)) else (0 : Int)) (2 : Int)) != if (0 : Nat) + Int.toNat (↑i : Int) < un then U ((0 : Nat) + Int.toNat (↑i : Int)) else (0 : Int))
                                                        (T.ret
                                                          (Ex.ret,
                                                            St.mk [((1 : Nat), AV.sl (2 : Nat) (0 : Nat) (1 : Nat) (0 : Nat) np pc), ((8 : Nat), AV.ff), ((9 : Nat), AV.sl (3 : Nat) (0 : Nat) (1 : Nat) (0 : Nat) np c), ((12 : Nat), AV.sl (4 : Nat) (0 : Nat) (2 : Nat) (0 : Nat) un d), ((13 : Nat), AV.sl (5 : Nat) (0 : Nat) (2 : Nat) (0 : Nat) un e), ((14 : Nat), AV.int IntKind.i64 (↑i : Int))]
                                                              [some (Blk.mk false [] (0 : Nat) (0 : Nat) (fun x => []) [] (some fun js => Mem.mk (FD.nl x js) (FD.ad x js) (FD.ln x js) (FD.cp x js) (1 : Nat) fun q => [AV.int IntKind.i64 (FD.z x (q :: js))])),
                                                                some (Blk.mk false [] (8 : Nat) cap (fun r => [AV.int IntKind.i64 (OC.kd o r), AV.part (0 : Nat) [r], AV.int IntKind.i64 (OC.fo o r), AV.int IntKind.i64 (OC.fa o r), AV.int IntKind.i64 (OC.fb o r), AV.int IntKind.i64 (OC.pa o r), AV.int IntKind.i64 (OC.ra o r), AV.int IntKind.i64 (OC.co o r)]) [] none),
                                                                some (Blk.mk false [] (1 : Nat) pc (fun a => [AV.int IntKind.i64 (pr a)]) [] none), some (Blk.mk true [] (1 : Nat) c (fun r => [AV.int IntKind.i64 (if r < np then hf G pr r else (0 : Int))]) [] none),
                                                                some (Blk.mk true [] (2 : Nat) d (fun j => [AV.int IntKind.i64 (if j < un then u j else (0 : Int)), AV.int IntKind.i64 (if j < un then U j else (0 : Int))]) [] none), some (Blk.mk true [] (2 : Nat) e (fun j => [AV.int IntKind.i64 (if j < un then u j else (0 : Int)), AV.int IntKind.i64 (if j < un then V j else (0 : Int))]) [] none)]))
                                                        (T.ret
                                                          (Ex.norm,
                                                            St.mk
                                                              [((1 : Nat), AV.sl (2 : Nat) (0 : Nat) (1 : Nat) (0 : Nat) np pc), ((9 : Nat), AV.sl (3 : Nat) (0 : Nat) (1 : Nat) (0 : Nat) np c), ((12 : Nat), AV.sl (4 : Nat) (0 : Nat) (2 : Nat) (0 : Nat) un d), ((13 : Nat), AV.sl (5 : Nat) (0 : Nat) (2 : Nat) (0 : Nat) un e),
                                                                ((14 : Nat), AV.int IntKind.i64 (IntKind.wrap IntKind.i64 ((↑i : Int) + (1 : Int))))]
                                                              [some (Blk.mk false [] (0 : Nat) (0 : Nat) (fun x => []) [] (some fun js => Mem.mk (FD.nl x js) (FD.ad x js) (FD.ln x js) (FD.cp x js) (1 : Nat) fun q => [AV.int IntKind.i64 (FD.z x (q :: js))])),
                                                                some (Blk.mk false [] (8 : Nat) cap (fun r => [AV.int IntKind.i64 (OC.kd o r), AV.part (0 : Nat) [r], AV.int IntKind.i64 (OC.fo o r), AV.int IntKind.i64 (OC.fa o r), AV.int IntKind.i64 (OC.fb o r), AV.int IntKind.i64 (OC.pa o r), AV.int IntKind.i64 (OC.ra o r), AV.int IntKind.i64 (OC.co o r)]) [] none),
                                                                some (Blk.mk false [] (1 : Nat) pc (fun a => [AV.int IntKind.i64 (pr a)]) [] none), some (Blk.mk true [] (1 : Nat) c (fun r => [AV.int IntKind.i64 (if r < np then hf G pr r else (0 : Int))]) [] none),
                                                                some (Blk.mk true [] (2 : Nat) d (fun j => [AV.int IntKind.i64 (if j < un then u j else (0 : Int)), AV.int IntKind.i64 (if j < un then U j else (0 : Int))]) [] none),
                                                                some (Blk.mk true [] (2 : Nat) e (fun j => [AV.int IntKind.i64 (if j < un then u j else (0 : Int)), AV.int IntKind.i64 (if j < un then V j else (0 : Int))]) [] none)]))))))
                                                (T.chk (decide ((0 : Int) ≤ (↑i : Int)) && decide ((↑i : Int) < (↑un : Int)))
                                                  (T.chk (decide ((0 : Nat) + Int.toNat (↑i : Int) < d))
                                                    (T.ite ((if (0 : Nat) + Int.toNat (↑i : Int) < un then V ((0 : Nat) + Int.toNat (↑i : Int)) else (0 : Int)) != if (0 : Nat) + Int.toNat (↑i : Int) < un then U ((0 : Nat) + Int.toNat (↑i : Int)) else (0 : Int))
                                                      (T.ret
                                                        (Ex.ret,
                                                          St.mk [((1 : Nat), AV.sl (2 : Nat) (0 : Nat) (1 : Nat) (0 : Nat) np pc), ((8 : Nat), AV.ff), ((9 : Nat), AV.sl (3 : Nat) (0 : Nat) (1 : Nat) (0 : Nat) np c), ((12 : Nat), AV.sl (4 : Nat) (0 : Nat) (2 : Nat) (0 : Nat) un d), ((13 : Nat), AV.sl (5 : Nat) (0 : Nat) (2 : Nat) (0 : Nat) un e), ((14 : Nat), AV.int IntKind.i64 (↑i : Int))]
                                                            [some (Blk.mk false [] (0 : Nat) (0 : Nat) (fun x => []) [] (some fun js => Mem.mk (FD.nl x js) (FD.ad x js) (FD.ln x js) (FD.cp x js) (1 : Nat) fun q => [AV.int IntKind.i64 (FD.z x (q :: js))])),
                                                              some (Blk.mk false [] (8 : Nat) cap (fun r => [AV.int IntKind.i64 (OC.kd o r), AV.part (0 : Nat) [r], AV.int IntKind.i64 (OC.fo o r), AV.int IntKind.i64 (OC.fa o r), AV.int IntKind.i64 (OC.fb o r), AV.int IntKind.i64 (OC.pa o r), AV.int IntKind.i64 (OC.ra o r), AV.int IntKind.i64 (OC.co o r)]) [] none),
                                                              some (Blk.mk false [] (1 : Nat) pc (fun a => [AV.int IntKind.i64 (pr a)]) [] none), some (Blk.mk true [] (1 : Nat) c (fun r => [AV.int IntKind.i64 (if r < np then hf G pr r else (0 : Int))]) [] none),
                                                              some (Blk.mk true [] (2 : Nat) d (fun j => [AV.int IntKind.i64 (if j < un then u j else (0 : Int)), AV.int IntKind.i64 (if j < un then U j else (0 : Int))]) [] none), some (Blk.mk true [] (2 : Nat) e (fun j => [AV.int IntKind.i64 (if j < un then u j else (0 : Int)), AV.int IntKind.i64 (if j < un then V j else (0 : Int))]) [] none)]))
                                                      (T.ret
                                                        (Ex.norm,
                                                          St.mk
                                                            [((1 : Nat), AV.sl (2 : Nat) (0 : Nat) (1 : Nat) (0 : Nat) np pc), ((9 : Nat), AV.sl (3 : Nat) (0 : Nat) (1 : Nat) (0 : Nat) np c), ((12 : Nat), AV.sl (4 : Nat) (0 : Nat) (2 : Nat) (0 : Nat) un d), ((13 : Nat), AV.sl (5 : Nat) (0 : Nat) (2 : Nat) (0 : Nat) un e),
                                                              ((14 : Nat), AV.int IntKind.i64 (IntKind.wrap IntKind.i64 ((↑i : Int) + (1 : Int))))]
                                                            [some (Blk.mk false [] (0 : Nat) (0 : Nat) (fun x => []) [] (some fun js => Mem.mk (FD.nl x js) (FD.ad x js) (FD.ln x js) (FD.cp x js) (1 : Nat) fun q => [AV.int IntKind.i64 (FD.z x (q :: js))])),
                                                              some (Blk.mk false [] (8 : Nat) cap (fun r => [AV.int IntKind.i64 (OC.kd o r), AV.part (0 : Nat) [r], AV.int IntKind.i64 (OC.fo o r), AV.int IntKind.i64 (OC.fa o r), AV.int IntKind.i64 (OC.fb o r), AV.int IntKind.i64 (OC.pa o r), AV.int IntKind.i64 (OC.ra o r), AV.int IntKind.i64 (OC.co o r)]) [] none),
                                                              some (Blk.mk false [] (1 : Nat) pc (fun a => [AV.int IntKind.i64 (pr a)]) [] none), some (Blk.mk true [] (1 : Nat) c (fun r => [AV.int IntKind.i64 (if r < np then hf G pr r else (0 : Int))]) [] none),
                                                              some (Blk.mk true [] (2 : Nat) d (fun j => [AV.int IntKind.i64 (if j < un then u j else (0 : Int)), AV.int IntKind.i64 (if j < un then U j else (0 : Int))]) [] none),
                                                              some (Blk.mk true [] (2 : Nat) e (fun j => [AV.int IntKind.i64 (if j < un then u j else (0 : Int)), AV.int IntKind.i64 (if j < un then V j else (0 : Int))]) [] none)])))))))))))))))))))))))))))
    (T.ret
      (Ex.exit (2 : Nat),
        St.mk [((1 : Nat), AV.sl (2 : Nat) (0 : Nat) (1 : Nat) (0 : Nat) np pc), ((9 : Nat), AV.sl (3 : Nat) (0 : Nat) (1 : Nat) (0 : Nat) np c), ((12 : Nat), AV.sl (4 : Nat) (0 : Nat) (2 : Nat) (0 : Nat) un d), ((13 : Nat), AV.sl (5 : Nat) (0 : Nat) (2 : Nat) (0 : Nat) un e), ((14 : Nat), AV.int IntKind.i64 (↑i : Int))]
          [some (Blk.mk false [] (0 : Nat) (0 : Nat) (fun x => []) [] (some fun js => Mem.mk (FD.nl x js) (FD.ad x js) (FD.ln x js) (FD.cp x js) (1 : Nat) fun q => [AV.int IntKind.i64 (FD.z x (q :: js))])),
            some (Blk.mk false [] (8 : Nat) cap (fun r => [AV.int IntKind.i64 (OC.kd o r), AV.part (0 : Nat) [r], AV.int IntKind.i64 (OC.fo o r), AV.int IntKind.i64 (OC.fa o r), AV.int IntKind.i64 (OC.fb o r), AV.int IntKind.i64 (OC.pa o r), AV.int IntKind.i64 (OC.ra o r), AV.int IntKind.i64 (OC.co o r)]) [] none), some (Blk.mk false [] (1 : Nat) pc (fun a => [AV.int IntKind.i64 (pr a)]) [] none),
            some (Blk.mk true [] (1 : Nat) c (fun r => [AV.int IntKind.i64 (if r < np then hf G pr r else (0 : Int))]) [] none), some (Blk.mk true [] (2 : Nat) d (fun j => [AV.int IntKind.i64 (if j < un then u j else (0 : Int)), AV.int IntKind.i64 (if j < un then U j else (0 : Int))]) [] none),
            some (Blk.mk true [] (2 : Nat) e (fun j => [AV.int IntKind.i64 (if j < un then u j else (0 : Int)), AV.int IntKind.i64 (if j < un then V j else (0 : Int))]) [] none)])) := by
  kernel_rfl

theorem hv_z (x : FD) (o : OC) (G : Int) (len cap : Nat) (m : AM) : T.cut (keepT [8] (acodeL Try.prog (hvE2 x o G len cap) ((chainOf hvF).drop 12) ⟨[], m⟩)) [] = 
  T.ret (Ex.ret, St.mk [((8 : Nat), AV.bool true)] m) := by
  kernel_rfl

theorem hv_k0 : (chainOf hvF).drop 5 = .block 0 (.loop hvC) :: (chainOf hvF).drop 6 := by
  kernel_rfl

theorem hv_k1 : ((chainOf hvF).drop 6).drop 5 = .block 2 (.loop hvD) :: (chainOf hvF).drop 12 := by
  kernel_rfl

theorem hv_res : Try.f6.results.toList = [.tmp 8] := by
  kernel_rfl

end Go.Proofs.Ytnfngaapjodpcaa
