/-
  Layer 20: Targets: trees.
-/
import Derived.Test.YtnfngaapjodpcaaHGB
import Derived.Test.YtnfngaapjodpcaaProg
import Derived.Test.YtnfngaapjodpcaaHOxY
namespace Go.Proofs.Ytnfngaapjodpcaa
open Go.Ox

set_option maxRecDepth 100000
set_option maxHeartbeats 4000000
set_option linter.unusedVariables false
set_option linter.unusedSimpArgs false

noncomputable def tgF (x : FD) (o : OC) (G : Int) (len cap : Nat) : List (Nat × Summ) := [(18, .eff (usS x o G len cap)), (19, .pure fun args _ => ofS args), (27, .pure fun args _ => owS args)]

noncomputable def tgL : List (Nat × Func) := [(26, Try.f26)]

theorem tgL_ok : InlOK Try.prog tgL := ⟨⟨fun args w => Try.call26 args w, Try.func26, rfl, by kernel_rfl⟩, trivial⟩

noncomputable def tgE (x : FD) (o : OC) (G : Int) (len cap n0 : Nat) : Env := { nt := Try.f12.ntmps, n0 := n0, vec := true, fns := openAll (inl Try.prog (tgF x o G len cap) tgL), loop := fun _ _ => .fail }

theorem tgE_ok (x : FD) (o : OC) (G : Int) (len cap n0 : Nat) (h : spOK x len cap) : EnvOK Try.prog (tgE x o G len cap n0).fns := EnvOK.open_ (inl_ok (EnvOK.cons (usS_ok x o G len cap h) (EnvOK.cons of_ok (EnvOK.cons ow_ok EnvOK.nil))) tgL tgL_ok)

noncomputable def tgC : Code := loopAt (codeOf Try.f12) 0

def owAt (G key : Int) (pr : Nat → Int) (u : Nat → Int) (j : Nat) : Int := owG (ofG key G) (pr (u j).toNat) G

def ap2 (F H : Nat → Int) (i c : Nat) : Blk := Blk.rows true 2 c fun j => [.int .i64 (if j < i then F j else 0), .int .i64 (if j < i then H j else 0)]

structure TX where
  i : Nat
  hs : Bool
  c : Nat

def tgSt (x : FD) (o : OC) (G key : Int) (len cap : Nat) (pr : Nat → Int) (np pc : Nat) (u : Nat → Int) (un uc : Nat) (y : TX) : St :=
  match y.hs with
  | false => ⟨[(1, .sl 2 0 1 0 np pc), (4, .ptr 3 0 0 0), (9, .int .i64 (ofG key G)), (10, .nils), (19, .sl 4 0 1 0 un uc), (20, .int .i64 un), (21, .int .i64 y.i)], spM x o cap ++ [some (inB pc pr), some (boxS G len cap), some (apRow .i64 u un uc)]⟩
  | true => ⟨[(1, .sl 2 0 1 0 np pc), (4, .ptr 3 0 0 0), (9, .int .i64 (ofG key G)), (10, .sl 5 0 2 0 y.i y.c), (19, .sl 4 0 1 0 un uc), (20, .int .i64 un), (21, .int .i64 y.i)], spM x o cap ++ [some (inB pc pr), some (boxS G len cap), some (apRow .i64 u un uc), some (ap2 u (owAt G key pr u) y.i y.c)]⟩

theorem tg_a (x : FD) (o : OC) (G key op : Int) (len cap : Nat) (pr : Nat → Int) (np pc : Nat) : T.cut (keepT [1, 4, 9, 10, 19, 20, 21] (acodeL Try.prog (tgE x o G len cap 3) ((chainOf (codeOf Try.f12)).take 4) ⟨[(0, spA G len cap), (1, .sl 2 0 1 0 np pc), (2, .int .i64 op), (3, .int .i64 key)], spM x o cap ++ [some (inB pc pr)]⟩)) [2, 0] = 
  T.need (G = G ∧ len = len ∧ cap = cap)
    (T.need
      (spIn x o cap
        [some (Blk.mk false [] (0 : Nat) (0 : Nat) (fun x => []) [] (some fun js => Mem.mk (FD.nl x js) (FD.ad x js) (FD.ln x js) (FD.cp x js) (1 : Nat) fun q => [AV.int IntKind.i64 (FD.z x (q :: js))])),
          some (Blk.mk false [] (8 : Nat) cap (fun r => [AV.int IntKind.i64 (OC.kd o r), AV.part (0 : Nat) [r], AV.int IntKind.i64 (OC.fo o r), AV.int IntKind.i64 (OC.fa o r), AV.int IntKind.i64 (OC.fb o r), AV.int IntKind.i64 (OC.pa o r), AV.int IntKind.i64 (OC.ra o r), AV.int IntKind.i64 (OC.co o r)]) [] none), some (Blk.mk false [] (1 : Nat) pc (fun a => [AV.int IntKind.i64 (pr a)]) [] none),
          some (Blk.mk true [AV.int IntKind.i64 G, AV.sl (1 : Nat) (0 : Nat) (8 : Nat) (0 : Nat) len cap] (0 : Nat) (0 : Nat) (fun x => []) [] none)])
      (T.ite (decide (List.length (usL x len op) = (0 : Nat)))
        (T.ret
          (Ex.norm,
            St.mk [((1 : Nat), AV.sl (2 : Nat) (0 : Nat) (1 : Nat) (0 : Nat) np pc), ((4 : Nat), AV.ptr (3 : Nat) (0 : Nat) (0 : Nat) (0 : Nat)), ((9 : Nat), AV.int IntKind.i64 (ofG key G)), ((10 : Nat), AV.nils), ((19 : Nat), AV.nils), ((20 : Nat), AV.int IntKind.i64 (0 : Int)), ((21 : Nat), AV.int IntKind.i64 (0 : Int))]
              [some (Blk.mk false [] (0 : Nat) (0 : Nat) (fun x => []) [] (some fun js => Mem.mk (FD.nl x js) (FD.ad x js) (FD.ln x js) (FD.cp x js) (1 : Nat) fun q => [AV.int IntKind.i64 (FD.z x (q :: js))])),
                some (Blk.mk false [] (8 : Nat) cap (fun r => [AV.int IntKind.i64 (OC.kd o r), AV.part (0 : Nat) [r], AV.int IntKind.i64 (OC.fo o r), AV.int IntKind.i64 (OC.fa o r), AV.int IntKind.i64 (OC.fb o r), AV.int IntKind.i64 (OC.pa o r), AV.int IntKind.i64 (OC.ra o r), AV.int IntKind.i64 (OC.co o r)]) [] none),
                some (Blk.mk false [] (1 : Nat) pc (fun a => [AV.int IntKind.i64 (pr a)]) [] none), some (Blk.mk true [AV.int IntKind.i64 G, AV.sl (1 : Nat) (0 : Nat) (8 : Nat) (0 : Nat) len cap] (0 : Nat) (0 : Nat) (fun x => []) [] none)]))
        (T.all fun c =>
          T.asm (decide (List.length (usL x len op) ≤ c))
            (T.ret
              (Ex.norm,
                St.mk
                  [((1 : Nat), AV.sl (2 : Nat) (0 : Nat) (1 : Nat) (0 : Nat) np pc), ((4 : Nat), AV.ptr (3 : Nat) (0 : Nat) (0 : Nat) (0 : Nat)), ((9 : Nat), AV.int IntKind.i64 (ofG key G)), ((10 : Nat), AV.nils), ((19 : Nat), AV.sl (4 : Nat) (0 : Nat) (1 : Nat) (0 : Nat) (List.length (usL x len op)) c), ((20 : Nat), AV.int IntKind.i64 (↑(List.length (usL x len op)) : Int)),
                    ((21 : Nat), AV.int IntKind.i64 (0 : Int))]
                  [some (Blk.mk false [] (0 : Nat) (0 : Nat) (fun x => []) [] (some fun js => Mem.mk (FD.nl x js) (FD.ad x js) (FD.ln x js) (FD.cp x js) (1 : Nat) fun q => [AV.int IntKind.i64 (FD.z x (q :: js))])),
                    some (Blk.mk false [] (8 : Nat) cap (fun r => [AV.int IntKind.i64 (OC.kd o r), AV.part (0 : Nat) [r], AV.int IntKind.i64 (OC.fo o r), AV.int IntKind.i64 (OC.fa o r), AV.int IntKind.i64 (OC.fb o r), AV.int IntKind.i64 (OC.pa o r), AV.int IntKind.i64 (OC.ra o r), AV.int IntKind.i64 (OC.co o r)]) [] none),
                    some (Blk.mk false [] (1 : Nat) pc (fun a => [AV.int IntKind.i64 (pr a)]) [] none), some (Blk.mk true [AV.int IntKind.i64 G, AV.sl (1 : Nat) (0 : Nat) (8 : Nat) (0 : Nat) len cap] (0 : Nat) (0 : Nat) (fun x => []) [] none), some (Blk.mk true [] (1 : Nat) c (fun j => [AV.int IntKind.i64 (if j < List.length (usL x len op) then usG x len op j else (0 : Int))]) [] none)]))))) := by
  kernel_rfl

theorem tg_t0 (x : FD) (o : OC) (G key : Int) (len cap : Nat) (pr : Nat → Int) (np pc : Nat) (u : Nat → Int) (un uc i c : Nat) : T.cut (keepT [1, 4, 9, 10, 19, 20, 21] (acode Try.prog (tgE x o G len cap 3) tgC (tgSt x o G key len cap pr np pc u un uc ⟨i, false, c⟩))) [2, 3, 2, 1, 0] = 
  T.ite (decide ((↑i : Int) < (↑un : Int)))
    (T.chk (decide ((0 : Int) ≤ (↑i : Int)) && decide ((↑i : Int) < (↑un : Int)))
      (T.chk (decide ((0 : Nat) + Int.toNat (↑i : Int) < uc))
        (T.ite (decide ((if (0 : Nat) + Int.toNat (↑i : Int) < un then u ((0 : Nat) + Int.toNat (↑i : Int)) else (0 : Int)) < (↑np : Int)))
          (T.chk (decide ((0 : Int) ≤ if (0 : Nat) + Int.toNat (↑i : Int) < un then u ((0 : Nat) + Int.toNat (↑i : Int)) else (0 : Int)) && decide ((if (0 : Nat) + Int.toNat (↑i : Int) < un then u ((0 : Nat) + Int.toNat (↑i : Int)) else (0 : Int)) < (↑np : Int)))
            (T.chk (decide ((0 : Nat) + Int.toNat (if (0 : Nat) + Int.toNat (↑i : Int) < un then u ((0 : Nat) + Int.toNat (↑i : Int)) else (0 : Int)) < pc))
              (T.need (AV.int IntKind.i64 (owG (ofG key G) (pr ((0 : Nat) + Int.toNat (if (0 : Nat) + Int.toNat (↑i : Int) < un then u ((0 : Nat) + Int.toNat (↑i : Int)) else (0 : Int)))) G) = AV.int IntKind.i64 (owG (ofG key G) (pr ((0 : Nat) + Int.toNat (if (0 : Nat) + Int.toNat (↑i : Int) < un then u ((0 : Nat) + Int.toNat (↑i : Int)) else (0 : Int)))) G))
                (T.need (AV.int IntKind.i64 G = AV.int IntKind.i64 G)
                  (T.chk (decide ((0 : Nat) + Int.toNat (if (0 : Nat) + Int.toNat (↑i : Int) < un then u ((0 : Nat) + Int.toNat (↑i : Int)) else (0 : Int)) < pc))
                    (T.need (AV.int IntKind.i64 (pr ((0 : Nat) + Int.toNat (if (0 : Nat) + Int.toNat (↑i : Int) < un then u ((0 : Nat) + Int.toNat (↑i : Int)) else (0 : Int)))) = AV.int IntKind.i64 (pr ((0 : Nat) + Int.toNat (if (0 : Nat) + Int.toNat (↑i : Int) < un then u ((0 : Nat) + Int.toNat (↑i : Int)) else (0 : Int)))))
                      (T.chk true
                        (@T.chk (Ex × St) true
                          (T.chk true
                            (T.all fun c =>
                              T.asm (decide ((1 : Nat) ≤ c))
                                (T.need (AV.int IntKind.i64 G = AV.int IntKind.i64 G)
                                  (T.chk (decide ((0 : Nat) + Int.toNat (if (0 : Nat) + Int.toNat (↑i : Int) < un then u ((0 : Nat) + Int.toNat (↑i : Int)) else (0 : Int)) < pc))
                                    (T.need (AV.int IntKind.i64 (pr ((0 : Nat) + Int.toNat (if (0 : Nat) + Int.toNat (↑i : Int) < un then u ((0 : Nat) + Int.toNat (↑i : Int)) else (0 : Int)))) = AV.int IntKind.i64 (pr ((0 : Nat) + Int.toNat (if (0 : Nat) + Int.toNat (↑i : Int) < un then u ((0 : Nat) + Int.toNat (↑i : Int)) else (0 : Int)))))
                                      (T.ret
                                        (Ex.norm,
                                          St.mk
                                            [((1 : Nat), AV.sl (2 : Nat) (0 : Nat) (1 : Nat) (0 : Nat) np pc), ((4 : Nat), AV.ptr (3 : Nat) (0 : Nat) (0 : Nat) (0 : Nat)), ((9 : Nat), AV.int IntKind.i64 (ofG key G)), ((10 : Nat), AV.sl (6 : Nat) (0 : Nat) (2 : Nat) (0 : Nat) (1 : Nat) c), ((19 : Nat), AV.sl (4 : Nat) (0 : Nat) (1 : Nat) (0 : Nat) un uc), ((20 : Nat), AV.int IntKind.i64 (↑un : Int)),
                                              ((21 : Nat), AV.int IntKind.i64 (IntKind.wrap IntKind.i64 ((↑i : Int) + (1 : Int))))]
                                            [some (Blk.mk false [] (0 : Nat) (0 : Nat) (fun x => []) [] (some fun js => Mem.mk (FD.nl x js) (FD.ad x js) (FD.ln x js) (FD.cp x js) (1 : Nat) fun q => [AV.int IntKind.i64 (FD.z x (q :: js))])),
                                              some (Blk.mk false [] (8 : Nat) cap (fun r => [AV.int IntKind.i64 (OC.kd o r), AV.part (0 : Nat) [r], AV.int IntKind.i64 (OC.fo o r), AV.int IntKind.i64 (OC.fa o r), AV.int IntKind.i64 (OC.fb o r), AV.int IntKind.i64 (OC.pa o r), AV.int IntKind.i64 (OC.ra o r), AV.int IntKind.i64 (OC.co o r)]) [] none),
                                              some (Blk.mk false [] (1 : Nat) pc (fun a => [AV.int IntKind.i64 (pr a)]) [] none), some (Blk.mk true [AV.int IntKind.i64 G, AV.sl (1 : Nat) (0 : Nat) (8 : Nat) (0 : Nat) len cap] (0 : Nat) (0 : Nat) (fun x => []) [] none), some (Blk.mk true [] (1 : Nat) uc (fun r => [AV.int IntKind.i64 (if r < un then u r else (0 : Int))]) [] none),
                                              some
                                                (Blk.mk true [] (2 : Nat) (1 : Nat)
                                                  (fun i_1 =>
                                                    [AV.int IntKind.i64 (List.getD [if (0 : Nat) + Int.toNat (↑i : Int) < un then u ((0 : Nat) + Int.toNat (↑i : Int)) else (0 : Int)] i_1 (0 : Int)), AV.int IntKind.i64 (List.getD [owG (ofG key G) (pr ((0 : Nat) + Int.toNat (if (0 : Nat) + Int.toNat (↑i : Int) < un then u ((0 : Nat) + Int.toNat (↑i : Int)) else (0 : Int)))) G] i_1 (0 : Int))])
                                                  [] none),
                                              some
                                                (Blk.mk true [] (2 : Nat) c
                                                  (fun r =>
                                                    if r < (0 : Nat) then []
                                                    else
                                                      if r < (1 : Nat) then
                                                        List.map (fun c => Col.at c ((0 : Nat) + (r - (0 : Nat))))
                                                          ([] ++ [Col.ints IntKind.i64 [if (0 : Nat) + Int.toNat (↑i : Int) < un then u ((0 : Nat) + Int.toNat (↑i : Int)) else (0 : Int)]] ++ [Col.ints IntKind.i64 [owG (ofG key G) (pr ((0 : Nat) + Int.toNat (if (0 : Nat) + Int.toNat (↑i : Int) < un then u ((0 : Nat) + Int.toNat (↑i : Int)) else (0 : Int)))) G]])
                                                      else AV.cells (AV.agg (List.reverse [AV.int IntKind.i64 (0 : Int), AV.int IntKind.i64 (0 : Int)])))
                                                  [] none)])))))))))))))))
          (T.ret
            (Ex.norm,
              St.mk
                [((1 : Nat), AV.sl (2 : Nat) (0 : Nat) (1 : Nat) (0 : Nat) np pc), ((4 : Nat), AV.ptr (3 : Nat) (0 : Nat) (0 : Nat) (0 : Nat)), ((9 : Nat), AV.int IntKind.i64 (ofG key G)), ((10 : Nat), AV.nils), ((19 : Nat), AV.sl (4 : Nat) (0 : Nat) (1 : Nat) (0 : Nat) un uc), ((20 : Nat), AV.int IntKind.i64 (↑un : Int)),
                  ((21 : Nat), AV.int IntKind.i64 (IntKind.wrap IntKind.i64 ((↑i : Int) + (1 : Int))))]
                [some (Blk.mk false [] (0 : Nat) (0 : Nat) (fun x => []) [] (some fun js => Mem.mk (FD.nl x js) (FD.ad x js) (FD.ln x js) (FD.cp x js) (1 : Nat) fun q => [AV.int IntKind.i64 (FD.z x (q :: js))])),
                  some (Blk.mk false [] (8 : Nat) cap (fun r => [AV.int IntKind.i64 (OC.kd o r), AV.part (0 : Nat) [r], AV.int IntKind.i64 (OC.fo o r), AV.int IntKind.i64 (OC.fa o r), AV.int IntKind.i64 (OC.fb o r), AV.int IntKind.i64 (OC.pa o r), AV.int IntKind.i64 (OC.ra o r), AV.int IntKind.i64 (OC.co o r)]) [] none),
                  some (Blk.mk false [] (1 : Nat) pc (fun a => [AV.int IntKind.i64 (pr a)]) [] none), some (Blk.mk true [AV.int IntKind.i64 G, AV.sl (1 : Nat) (0 : Nat) (8 : Nat) (0 : Nat) len cap] (0 : Nat) (0 : Nat) (fun x => []) [] none), some (Blk.mk true [] (1 : Nat) uc (fun r => [AV.int IntKind.i64 (if r < un then u r else (0 : Int))]) [] none)])))))
    (T.ret
      (Ex.exit (0 : Nat),
        St.mk [((1 : Nat), AV.sl (2 : Nat) (0 : Nat) (1 : Nat) (0 : Nat) np pc), ((4 : Nat), AV.ptr (3 : Nat) (0 : Nat) (0 : Nat) (0 : Nat)), ((9 : Nat), AV.int IntKind.i64 (ofG key G)), ((10 : Nat), AV.nils), ((19 : Nat), AV.sl (4 : Nat) (0 : Nat) (1 : Nat) (0 : Nat) un uc), ((20 : Nat), AV.int IntKind.i64 (↑un : Int)), ((21 : Nat), AV.int IntKind.i64 (↑i : Int))]
          [some (Blk.mk false [] (0 : Nat) (0 : Nat) (fun x => []) [] (some fun js => Mem.mk (FD.nl x js) (FD.ad x js) (FD.ln x js) (FD.cp x js) (1 : Nat) fun q => [AV.int IntKind.i64 (FD.z x (q :: js))])),
            some (Blk.mk false [] (8 : Nat) cap (fun r => [AV.int IntKind.i64 (OC.kd o r), AV.part (0 : Nat) [r], AV.int IntKind.i64 (OC.fo o r), AV.int IntKind.i64 (OC.fa o r), AV.int IntKind.i64 (OC.fb o r), AV.int IntKind.i64 (OC.pa o r), AV.int IntKind.i64 (OC.ra o r), AV.int IntKind.i64 (OC.co o r)]) [] none), some (Blk.mk false [] (1 : Nat) pc (fun a => [AV.int IntKind.i64 (pr a)]) [] none),
            some (Blk.mk true [AV.int IntKind.i64 G, AV.sl (1 : Nat) (0 : Nat) (8 : Nat) (0 : Nat) len cap] (0 : Nat) (0 : Nat) (fun x => []) [] none), some (Blk.mk true [] (1 : Nat) uc (fun r => [AV.int IntKind.i64 (if r < un then u r else (0 : Int))]) [] none)])) := by
  kernel_rfl

theorem tg_t1 (x : FD) (o : OC) (G key : Int) (len cap : Nat) (pr : Nat → Int) (np pc : Nat) (u : Nat → Int) (un uc i c : Nat) : T.cut (keepT [1, 4, 9, 10, 19, 20, 21] (acode Try.prog (tgE x o G len cap 3) tgC (tgSt x o G key len cap pr np pc u un uc ⟨i, true, c⟩))) [2, 2, 2, 0] = 
  T.ite (decide ((↑i : Int) < (↑un : Int)))
    (T.chk (decide ((0 : Int) ≤ (↑i : Int)) && decide ((↑i : Int) < (↑un : Int)))
      (T.chk (decide ((0 : Nat) + Int.toNat (↑i : Int) < uc))
        (T.ite (decide ((if (0 : Nat) + Int.toNat (↑i : Int) < un then u ((0 : Nat) + Int.toNat (↑i : Int)) else (0 : Int)) < (↑np : Int)))
          (T.chk (decide ((0 : Int) ≤ if (0 : Nat) + Int.toNat (↑i : Int) < un then u ((0 : Nat) + Int.toNat (↑i : Int)) else (0 : Int)) && decide ((if (0 : Nat) + Int.toNat (↑i : Int) < un then u ((0 : Nat) + Int.toNat (↑i : Int)) else (0 : Int)) < (↑np : Int)))
            (T.chk (decide ((0 : Nat) + Int.toNat (if (0 : Nat) + Int.toNat (↑i : Int) < un then u ((0 : Nat) + Int.toNat (↑i : Int)) else (0 : Int)) < pc))
              (T.need (AV.int IntKind.i64 (owG (ofG key G) (pr ((0 : Nat) + Int.toNat (if (0 : Nat) + Int.toNat (↑i : Int) < un then u ((0 : Nat) + Int.toNat (↑i : Int)) else (0 : Int)))) G) = AV.int IntKind.i64 (owG (ofG key G) (pr ((0 : Nat) + Int.toNat (if (0 : Nat) + Int.toNat (↑i : Int) < un then u ((0 : Nat) + Int.toNat (↑i : Int)) else (0 : Int)))) G))
                (T.need (AV.int IntKind.i64 G = AV.int IntKind.i64 G)
                  (T.chk (decide ((0 : Nat) + Int.toNat (if (0 : Nat) + Int.toNat (↑i : Int) < un then u ((0 : Nat) + Int.toNat (↑i : Int)) else (0 : Int)) < pc))
                    (T.need (AV.int IntKind.i64 (pr ((0 : Nat) + Int.toNat (if (0 : Nat) + Int.toNat (↑i : Int) < un then u ((0 : Nat) + Int.toNat (↑i : Int)) else (0 : Int)))) = AV.int IntKind.i64 (pr ((0 : Nat) + Int.toNat (if (0 : Nat) + Int.toNat (↑i : Int) < un then u ((0 : Nat) + Int.toNat (↑i : Int)) else (0 : Int)))))
                      (T.chk true
                        (T.chk (decide ((0 : Nat) + c ≤ c))
                          (T.chk (decide (i ≤ c))
                            (T.chk (decide (i + (1 : Nat) ≤ (4294967296 : Nat)))
                              (T.all fun c_1 =>
                                T.all fun c_2 =>
                                  T.asm (decide (i + (1 : Nat) ≤ c_1 ∧ (c_2 = (0 : Nat) ∨ c_1 = c)))
                                    (T.need (AV.int IntKind.i64 G = AV.int IntKind.i64 G)
                                      (T.chk (decide ((0 : Nat) + Int.toNat (if (0 : Nat) + Int.toNat (↑i : Int) < un then u ((0 : Nat) + Int.toNat (↑i : Int)) else (0 : Int)) < pc))
                                        (T.need (AV.int IntKind.i64 (pr ((0 : Nat) + Int.toNat (if (0 : Nat) + Int.toNat (↑i : Int) < un then u ((0 : Nat) + Int.toNat (↑i : Int)) else (0 : Int)))) = AV.int IntKind.i64 (pr ((0 : Nat) + Int.toNat (if (0 : Nat) + Int.toNat (↑i : Int) < un then u ((0 : Nat) + Int.toNat (↑i : Int)) else (0 : Int)))))
                                          (T.ret
                                            (Ex.norm,
                                              St.mk
                                                [((1 : Nat), AV.sl (2 : Nat) (0 : Nat) (1 : Nat) (0 : Nat) np pc), ((4 : Nat), AV.ptr (3 : Nat) (0 : Nat) (0 : Nat) (0 : Nat)), ((9 : Nat), AV.int IntKind.i64 (ofG key G)), ((10 : Nat), AV.sl (7 : Nat) (0 : Nat) (2 : Nat) (0 : Nat) (i + (1 : Nat)) c_1), ((19 : Nat), AV.sl (4 : Nat) (0 : Nat) (1 : Nat) (0 : Nat) un uc),
                                                  ((20 : Nat), AV.int IntKind.i64 (↑un : Int)), ((21 : Nat), AV.int IntKind.i64 (IntKind.wrap IntKind.i64 ((↑i : Int) + (1 : Int))))]
                                                [some (Blk.mk false [] (0 : Nat) (0 : Nat) (fun x => []) [] (some fun js => Mem.mk (FD.nl x js) (FD.ad x js) (FD.ln x js) (FD.cp x js) (1 : Nat) fun q => [AV.int IntKind.i64 (FD.z x (q :: js))])),
                                                  some (Blk.mk false [] (8 : Nat) cap (fun r => [AV.int IntKind.i64 (OC.kd o r), AV.part (0 : Nat) [r], AV.int IntKind.i64 (OC.fo o r), AV.int IntKind.i64 (OC.fa o r), AV.int IntKind.i64 (OC.fb o r), AV.int IntKind.i64 (OC.pa o r), AV.int IntKind.i64 (OC.ra o r), AV.int IntKind.i64 (OC.co o r)]) [] none),
                                                  some (Blk.mk false [] (1 : Nat) pc (fun a => [AV.int IntKind.i64 (pr a)]) [] none), some (Blk.mk true [AV.int IntKind.i64 G, AV.sl (1 : Nat) (0 : Nat) (8 : Nat) (0 : Nat) len cap] (0 : Nat) (0 : Nat) (fun x => []) [] none), some (Blk.mk true [] (1 : Nat) uc (fun r => [AV.int IntKind.i64 (if r < un then u r else (0 : Int))]) [] none), none,
                                                  some
                                                    (Blk.mk true [] (2 : Nat) (1 : Nat)
                                                      (fun i_1 =>
                                                        [AV.int IntKind.i64 (List.getD [if (0 : Nat) + Int.toNat (↑i : Int) < un then u ((0 : Nat) + Int.toNat (↑i : Int)) else (0 : Int)] i_1 (0 : Int)), AV.int IntKind.i64 (List.getD [owG (ofG key G) (pr ((0 : Nat) + Int.toNat (if (0 : Nat) + Int.toNat (↑i : Int) < un then u ((0 : Nat) + Int.toNat (↑i : Int)) else (0 : Int)))) G] i_1 (0 : Int))])
                                                      [] none),
                                                  some
                                                    (Blk.mk true [] (2 : Nat) c_1
                                                      (fun r =>
                                                        if r < i then [AV.int IntKind.i64 (if (0 : Nat) + r < i then u ((0 : Nat) + r) else (0 : Int)), AV.int IntKind.i64 (if (0 : Nat) + r < i then owAt G key pr u ((0 : Nat) + r) else (0 : Int))]
                                                        else
                                                          if r < i + (1 : Nat) then
                                                            List.map (fun c => Col.at c ((0 : Nat) + (r - i)))
                                                              ([] ++ [Col.ints IntKind.i64 [if (0 : Nat) + Int.toNat (↑i : Int) < un then u ((0 : Nat) + Int.toNat (↑i : Int)) else (0 : Int)]] ++ [Col.ints IntKind.i64 [owG (ofG key G) (pr ((0 : Nat) + Int.toNat (if (0 : Nat) + Int.toNat (↑i : Int) < un then u ((0 : Nat) + Int.toNat (↑i : Int)) else (0 : Int)))) G]])
                                                          else if c_2 = (0 : Nat) then AV.cells (AV.agg (List.reverse [AV.int IntKind.i64 (0 : Int), AV.int IntKind.i64 (0 : Int)])) else [AV.int IntKind.i64 (if (0 : Nat) + r < i then u ((0 : Nat) + r) else (0 : Int)), AV.int IntKind.i64 (if (0 : Nat) + r < i then owAt G key pr u ((0 : Nat) + r) else (0 : Int))])
                                                      [] none)]))))))))))))))))
          (T.ret
            (Ex.norm,
              St.mk
                [((1 : Nat), AV.sl (2 : Nat) (0 : Nat) (1 : Nat) (0 : Nat) np pc), ((4 : Nat), AV.ptr (3 : Nat) (0 : Nat) (0 : Nat) (0 : Nat)), ((9 : Nat), AV.int IntKind.i64 (ofG key G)), ((10 : Nat), AV.sl (5 : Nat) (0 : Nat) (2 : Nat) (0 : Nat) i c), ((19 : Nat), AV.sl (4 : Nat) (0 : Nat) (1 : Nat) (0 : Nat) un uc), ((20 : Nat), AV.int IntKind.i64 (↑un : Int)),
                  ((21 : Nat), AV.int IntKind.i64 (IntKind.wrap IntKind.i64 ((↑i : Int) + (1 : Int))))]
                [some (Blk.mk false [] (0 : Nat) (0 : Nat) (fun x => []) [] (some fun js => Mem.mk (FD.nl x js) (FD.ad x js) (FD.ln x js) (FD.cp x js) (1 : Nat) fun q => [AV.int IntKind.i64 (FD.z x (q :: js))])),
                  some (Blk.mk false [] (8 : Nat) cap (fun r => [AV.int IntKind.i64 (OC.kd o r), AV.part (0 : Nat) [r], AV.int IntKind.i64 (OC.fo o r), AV.int IntKind.i64 (OC.fa o r), AV.int IntKind.i64 (OC.fb o r), AV.int IntKind.i64 (OC.pa o r), AV.int IntKind.i64 (OC.ra o r), AV.int IntKind.i64 (OC.co o r)]) [] none),
                  some (Blk.mk false [] (1 : Nat) pc (fun a => [AV.int IntKind.i64 (pr a)]) [] none), some (Blk.mk true [AV.int IntKind.i64 G, AV.sl (1 : Nat) (0 : Nat) (8 : Nat) (0 : Nat) len cap] (0 : Nat) (0 : Nat) (fun x => []) [] none), some (Blk.mk true [] (1 : Nat) uc (fun r => [AV.int IntKind.i64 (if r < un then u r else (0 : Int))]) [] none),
                  some (Blk.mk true [] (2 : Nat) c (fun j => [AV.int IntKind.i64 (if j < i then u j else (0 : Int)), AV.int IntKind.i64 (if j < i then owAt G key pr u j else (0 : Int))]) [] none)])))))
    (T.ret
      (Ex.exit (0 : Nat),
        St.mk
          [((1 : Nat), AV.sl (2 : Nat) (0 : Nat) (1 : Nat) (0 : Nat) np pc), ((4 : Nat), AV.ptr (3 : Nat) (0 : Nat) (0 : Nat) (0 : Nat)), ((9 : Nat), AV.int IntKind.i64 (ofG key G)), ((10 : Nat), AV.sl (5 : Nat) (0 : Nat) (2 : Nat) (0 : Nat) i c), ((19 : Nat), AV.sl (4 : Nat) (0 : Nat) (1 : Nat) (0 : Nat) un uc), ((20 : Nat), AV.int IntKind.i64 (↑un : Int)),
            ((21 : Nat), AV.int IntKind.i64 (↑i : Int))]
          [some (Blk.mk false [] (0 : Nat) (0 : Nat) (fun x => []) [] (some fun js => Mem.mk (FD.nl x js) (FD.ad x js) (FD.ln x js) (FD.cp x js) (1 : Nat) fun q => [AV.int IntKind.i64 (FD.z x (q :: js))])),
            some (Blk.mk false [] (8 : Nat) cap (fun r => [AV.int IntKind.i64 (OC.kd o r), AV.part (0 : Nat) [r], AV.int IntKind.i64 (OC.fo o r), AV.int IntKind.i64 (OC.fa o r), AV.int IntKind.i64 (OC.fb o r), AV.int IntKind.i64 (OC.pa o r), AV.int IntKind.i64 (OC.ra o r), AV.int IntKind.i64 (OC.co o r)]) [] none), some (Blk.mk false [] (1 : Nat) pc (fun a => [AV.int IntKind.i64 (pr a)]) [] none),
            some (Blk.mk true [AV.int IntKind.i64 G, AV.sl (1 : Nat) (0 : Nat) (8 : Nat) (0 : Nat) len cap] (0 : Nat) (0 : Nat) (fun x => []) [] none), some (Blk.mk true [] (1 : Nat) uc (fun r => [AV.int IntKind.i64 (if r < un then u r else (0 : Int))]) [] none),
            some (Blk.mk true [] (2 : Nat) c (fun j => [AV.int IntKind.i64 (if j < i then u j else (0 : Int)), AV.int IntKind.i64 (if j < i then owAt G key pr u j else (0 : Int))]) [] none)])) := by
  kernel_rfl

theorem tg_n (x : FD) (o : OC) (G : Int) (len cap : Nat) (m : AM) : T.cut (keepT [10] (acode Try.prog (tgE x o G len cap 3) tgC ⟨[(10, .nils), (20, .int .i64 0), (21, .int .i64 0)], m⟩)) [0] = 
  @T.chk (Ex × St) true (T.ret (Ex.exit (0 : Nat), St.mk [((10 : Nat), AV.nils)] m)) := by
  kernel_rfl

theorem tg_z0 (x : FD) (o : OC) (G : Int) (len cap : Nat) (m : AM) : T.cut (keepT [8] (acodeL Try.prog (tgE x o G len cap 3) ((chainOf (codeOf Try.f12)).drop 5) ⟨[(10, .nils)], m⟩)) [] = 
  T.ret (Ex.ret, St.mk [((8 : Nat), AV.nils)] m) := by
  kernel_rfl

theorem tg_z1 (x : FD) (o : OC) (G : Int) (len cap : Nat) (k n c : Nat) (m : AM) : T.cut (keepT [8] (acodeL Try.prog (tgE x o G len cap 3) ((chainOf (codeOf Try.f12)).drop 5) ⟨[(10, .sl k 0 2 0 n c)], m⟩)) [] = 
  T.ret (Ex.ret, St.mk [((8 : Nat), AV.sl k (0 : Nat) (2 : Nat) (0 : Nat) n c)] m) := by
  kernel_rfl

theorem tg_k : (chainOf (codeOf Try.f12)).drop 4 = .block 0 (.loop tgC) :: (chainOf (codeOf Try.f12)).drop 5 := by
  kernel_rfl

theorem tg_res : Try.f12.results.toList = [.tmp 8] := by
  kernel_rfl



set_option maxRecDepth 100000
set_option maxHeartbeats 4000000
set_option linter.unusedVariables false
set_option linter.unusedSimpArgs false

noncomputable def wkL : List (Nat × Func) := [(21, Try.f21), (13, Try.f13), (12, Try.f12), (27, Try.f27), (37, Try.f37), (38, Try.f38), (26, Try.f26), (19, Try.f19), (18, Try.f18), (34, Try.f34), (35, Try.f35), (36, Try.f36), (43, Try.f43)]

theorem wkL_ok : InlOK Try.prog wkL := ⟨⟨fun args w => Try.call21 args w, Try.func21, rfl, by kernel_rfl⟩, ⟨fun args w => Try.call13 args w, Try.func13, rfl, by kernel_rfl⟩, ⟨fun args w => Try.call12 args w, Try.func12, rfl, by kernel_rfl⟩, ⟨fun args w => Try.call27 args w, Try.func27, rfl, by kernel_rfl⟩, ⟨fun args w => Try.call37 args w, Try.func37, rfl, by kernel_rfl⟩, ⟨fun args w => Try.call38 args w, Try.func38, rfl, by kernel_rfl⟩, ⟨fun args w => Try.call26 args w, Try.func26, rfl, by kernel_rfl⟩, ⟨fun args w => Try.call19 args w, Try.func19, rfl, by kernel_rfl⟩, ⟨fun args w => Try.call18 args w, Try.func18, rfl, by kernel_rfl⟩, ⟨fun args w => Try.call34 args w, Try.func34, rfl, by kernel_rfl⟩, ⟨fun args w => Try.call35 args w, Try.func35, rfl, by kernel_rfl⟩, ⟨fun args w => Try.call36 args w, Try.func36, rfl, by kernel_rfl⟩, ⟨fun args w => Try.call43 args w, Try.func43, rfl, by kernel_rfl⟩, trivial⟩

theorem wk_fn : T.cut (vfn Try.prog (inlE Try.prog [] wkL Try.f9 0) Try.f9 (codeOf Try.f9) []) [0, 0, 1, 1, 1, 1, 1, 1, 1, 1, 0, 0, 0, 1, 0, 0, 1, 1, 1, 1, 0, 1, 1, 1, 1, 1, 1, 0, 0, 0, 0, 1, 1, 1, 1, 1, 0, 0, 0, 0, 1, 1, 1, 1, 1, 0, 0, 0, 0, 0, 0, 1, 1, 1, 1, 1, 1, 1, 1, 0, 0, 0, 1, 0, 0, 1, 1, 0, 0, 0, 1, 1, 0, 0, 0, 1, 1, 1, 1, 0, 0, 1, 1, 1, 1, 1, 0, 0, 0, 0, 0, 0, 0, 1, 1, 1, 1, 1, 1, 1, 1, 0, 0, 1, 0, 1, 0, 0, 0, 1, 0, 0, 0, 0, 1, 1, 1, 1, 1, 1, 1, 1, 0, 0, 0, 1, 0, 0, 1, 1, 0, 0, 0, 1, 1, 0, 0, 0, 1, 1, 0, 0, 0, 0, 0, 1] = 
  @T.chk AV true (@T.chk AV true (@T.chk AV true (T.chk true (@T.chk AV true (T.chk true (@T.chk AV true (T.chk true (@T.chk AV true (T.chk true (@T.chk AV true (T.chk true (@T.chk AV true (T.chk true (@T.chk AV true (T.chk true (@T.chk AV true (T.chk true (@T.chk AV true (T.chk true (@T.chk AV true (@T.chk AV true (@T.chk AV true (T.chk true (T.chk true (T.chk true (T.chk true (T.chk true (T.chk true (T.chk true (T.chk true (T.chk true (@T.chk AV true (@T.chk AV true (@T.chk AV true (T.chk true (T.chk true (T.chk true (T.chk true (T.chk true (T.chk true (T.chk true (T.chk true (T.chk true (@T.chk AV true (T.chk true (T.chk true (@T.chk AV true (@T.chk AV true (T.chk true (@T.chk AV true (T.chk true (T.all fun c => T.asm (decide ((1 : Nat) ≤ c)) (@T.chk AV true (T.chk true (T.chk true (T.chk true (T.chk true (T.chk true (T.chk true (T.chk true (T.chk true (T.chk true (@T.chk AV true (T.chk true (T.chk true (@T.chk AV true (@T.chk AV true (T.chk true (T.chk (decide ((0 : Nat) + c ≤ c)) (T.chk (decide ((1 : Nat) ≤ c)) (T.chk true (T.all fun c_1 => T.all fun c_2 => T.asm (decide ((2 : Nat) ≤ c_1 ∧ (c_2 = (0 : Nat) ∨ c_1 = c))) (@T.chk AV true (T.chk true (T.chk true (T.chk true (T.chk true (T.chk true (T.chk true (T.chk true (T.chk true (T.chk true (@T.chk AV true (T.chk true (T.chk true (@T.chk AV true (@T.chk AV true (@T.chk AV true (@T.chk AV true (@T.chk AV true (T.chk true (T.chk (decide ((0 : Nat) < c_1)) (@T.chk AV true (T.chk true (T.chk true (@T.chk AV true (@T.chk AV true (@T.chk AV true (@T.chk AV true (@T.chk AV true (@T.chk AV true (T.chk true (T.need (AV.int IntKind.i64 (8 : Int) = AV.int IntKind.i64 (8 : Int)) (T.chk true (T.need (AV.int IntKind.i64 (4 : Int) = AV.int IntKind.i64 (4 : Int)) (T.chk true (@T.chk AV true (T.chk true (T.all fun c => T.asm (decide ((1 : Nat) ≤ c)) (T.need (AV.int IntKind.i64 (8 : Int) = AV.int IntKind.i64 (8 : Int)) (T.chk true (T.need (AV.int IntKind.i64 (4 : Int) = AV.int IntKind.i64 (4 : Int)) (@T.chk AV true (T.chk true (T.chk (decide ((1 : Nat) < c_1)) (@T.chk AV true (T.chk true (T.chk true (@T.chk AV true (@T.chk AV true (@T.chk AV true (@T.chk AV true (@T.chk AV true (@T.chk AV true (T.chk true (T.need (AV.int IntKind.i64 (8 : Int) = AV.int IntKind.i64 (8 : Int)) (T.chk true (T.need (AV.int IntKind.i64 (1 : Int) = AV.int IntKind.i64 (1 : Int)) (T.chk true (T.chk (decide ((0 : Nat) + c ≤ c)) (T.chk (decide ((1 : Nat) ≤ c)) (T.chk true (T.all fun c_3 => T.all fun c_4 => T.asm (decide ((2 : Nat) ≤ c_3 ∧ (c_4 = (0 : Nat) ∨ c_3 = c))) (T.need (AV.int IntKind.i64 (8 : Int) = AV.int IntKind.i64 (8 : Int)) (T.chk true (T.need (AV.int IntKind.i64 (1 : Int) = AV.int IntKind.i64 (1 : Int)) (@T.chk AV true (@T.chk AV true (@T.chk AV true (@T.chk AV true (T.chk true (@T.chk AV true (T.chk true (@T.chk AV true (T.chk true (@T.chk AV true (T.chk true (@T.chk AV true (T.chk true (@T.chk AV true (T.chk true (@T.chk AV true (T.chk true (@T.chk AV true (T.chk true (@T.chk AV true (T.chk true (@T.chk AV true (@T.chk AV true (@T.chk AV true (T.chk true (T.chk true (T.chk true (T.chk true (T.chk true (T.chk true (T.chk true (T.chk true (T.chk true (@T.chk AV true (@T.chk AV true (@T.chk AV true (T.chk true (T.chk true (T.chk true (T.chk true (T.chk true (T.chk true (T.chk true (T.chk true (T.chk true (@T.chk AV true (T.chk true (T.chk true (@T.chk AV true (@T.chk AV true (@T.chk AV true (@T.chk AV true (T.chk true (T.chk true (T.chk true (T.chk true (T.chk true (T.chk true (T.chk true (T.chk true (T.chk true (@T.chk AV true (T.chk true (T.chk true (@T.chk AV true (@T.chk AV true (@T.chk AV true (@T.chk AV true (T.chk true (T.chk true (T.chk true (T.chk true (T.chk true (T.chk true (T.chk true (T.chk true (T.chk true (@T.chk AV true (T.chk true (T.chk true (@T.chk AV true (@T.chk AV true (T.chk true (@T.chk AV true (T.chk true (T.all fun c => T.asm (decide ((1 : Nat) ≤ c)) (@T.chk AV true (@T.chk AV true (T.chk true (T.chk (decide ((0 : Nat) < c)) (@T.chk AV true (T.chk true (T.chk true (@T.chk AV true (@T.chk AV true (@T.chk AV true (@T.chk AV true (@T.chk AV true (@T.chk AV true (T.chk true (T.need (AV.int IntKind.i64 (8 : Int) = AV.int IntKind.i64 (8 : Int)) (T.chk true (T.need (AV.int IntKind.i64 (8 : Int) = AV.int IntKind.i64 (8 : Int)) (T.chk true (@T.chk AV true (T.chk true (T.all fun c => T.asm (decide ((1 : Nat) ≤ c)) (T.need (AV.int IntKind.i64 (8 : Int) = AV.int IntKind.i64 (8 : Int)) (T.chk true (T.need (AV.int IntKind.i64 (8 : Int) = AV.int IntKind.i64 (8 : Int)) (@T.chk AV true (@T.chk AV true (@T.chk AV true (@T.chk AV true (T.chk true (@T.chk AV true (T.chk true (@T.chk AV true (T.chk true (@T.chk AV true (T.chk true (@T.chk AV true (T.chk true (@T.chk AV true (T.chk true (@T.chk AV true (T.chk true (@T.chk AV true (T.chk true (@T.chk AV true (T.chk true (T.chk true (@T.chk AV true (@T.chk AV true (T.chk true (T.chk (decide ((0 : Nat) < c_3)) (T.chk (decide ((0 : Nat) < c_3)) (T.chk true (T.chk true (T.chk true (@T.chk AV true (@T.chk AV true (T.chk true (T.chk (decide ((1 : Nat) < c_3)) (T.chk (decide ((1 : Nat) < c_3)) (T.chk true (T.chk true (T.chk true (@T.chk AV true (@T.chk AV true (@T.chk AV true (@T.chk AV true (T.chk true (T.chk (decide ((0 : Nat) < c)) (T.chk (decide ((0 : Nat) < c)) (T.chk true (T.chk true (T.chk true (@T.chk AV true (@T.chk AV true (@T.chk AV true (@T.chk AV true (@T.chk AV true (T.chk true (@T.chk AV true (T.chk true (@T.chk AV true (T.chk true (@T.chk AV true (T.chk true (@T.chk AV true (T.chk true (@T.chk AV true (T.chk true (@T.chk AV true (T.chk true (@T.chk AV true (T.chk true (@T.chk AV true (T.chk true (@T.chk AV true (@T.chk AV true (@T.chk AV true (T.chk true (T.chk true (T.chk true (T.chk true (T.chk true (T.chk true (T.chk true (T.chk true (T.chk true (@T.chk AV true (@T.chk AV true (@T.chk AV true (T.chk true (T.chk true (T.chk true (T.chk true (T.chk true (T.chk true (T.chk true (T.chk true (T.chk true (@T.chk AV true (T.chk true (T.chk true (@T.chk AV true (@T.chk AV true (@T.chk AV true (@T.chk AV true (T.chk true (T.chk true (T.chk true (T.chk true (T.chk true (T.chk true (T.chk true (T.chk true (T.chk true (@T.chk AV true (T.chk true (T.chk true (@T.chk AV true (@T.chk AV true (@T.chk AV true (@T.chk AV true (T.chk true (T.chk true (T.chk true (T.chk true (T.chk true (T.chk true (T.chk true (T.chk true (T.chk true (@T.chk AV true (T.chk true (T.chk true (@T.chk AV true (@T.chk AV true (@T.chk AV true (@T.chk AV true (@T.chk AV true (@T.chk AV true (T.ret (AV.bool true))))))))))))))))))))))))))))))))))))))))))))))))))))))))))))))))))))))))))))))))))))))))))))))))))))))))))))))))))))))))))))))))))))))))))))))))))))))))))))))))))))))))))))))))))))))))))))))))))))))))))))))))))))))))))))))))))))))))))))))))))))))))))))))))))))))))))))))))))))))))))))))))))))))))))))))))))))))))))))))))))))))))))))))))))))))))))))))))))))))))))))))))))))))))))))))) := by
  kernel_rfl

theorem wk_ok : SummOK Try.prog 9 (.pure yesS) := by
  refine yes_ok EnvOK.nil wkL_ok (fun args w => Try.call9 args w) Try.func9 rfl (by kernel_rfl) (T.cut_eq wk_fn ?_)
  repeat' first | with_reducible refine T.hneed rfl ?_ | with_reducible refine T.hchk rfl ?_ | with_reducible refine T.hall (fun _ => ?_) | with_reducible refine T.half (fun _ => ?_) | with_reducible refine T.hasm (fun _ => ?_) | with_reducible refine T.hite (fun _ => ?_) (fun _ => ?_) | with_reducible refine T.hchk ?_ ?_
  all_goals first | rfl | (simp; done) | (simp at *; omega) | (simp at *; (repeat' split) <;> omega) | (simp at *; simp only [IntKind.wrap_i64] at *; omega) | (simp only [IntKind.wrap_i64] at *; (repeat' split at *) <;> omega)



set_option maxRecDepth 100000
set_option maxHeartbeats 4000000
set_option linter.unusedVariables false
set_option linter.unusedSimpArgs false

noncomputable def rtE (n0 : Nat) : Env := { nt := Try.f23.ntmps, n0 := n0, vec := true, fns := [], loop := fun _ _ => .fail }

noncomputable def rtC : Code := loopAt (codeOf Try.f23) 0

def rtSt (x : FD) (o : OC) (G : Int) (len cap : Nat) (pr : Nat → Int) (np pc i : Nat) : St := ⟨[(1, .sl 2 0 1 0 np pc), (2, .ptr 3 0 0 0), (5, .int .i64 i)], spM x o cap ++ [some (inB pc pr), some (boxS G len cap)]⟩

theorem rt_a (x : FD) (o : OC) (G : Int) (len cap : Nat) (pr : Nat → Int) (np pc : Nat) : T.cut (keepT [1, 2, 4, 5] (acodeL Try.prog (rtE 3) ((chainOf (codeOf Try.f23)).take 4) ⟨[(0, spA G len cap), (1, .sl 2 0 1 0 np pc)], spM x o cap ++ [some (inB pc pr)]⟩)) [2, 0] = 
  T.ite ((↑np : Int) != (↑len : Int))
    (T.ret
      (Ex.ret,
        St.mk [((1 : Nat), AV.sl (2 : Nat) (0 : Nat) (1 : Nat) (0 : Nat) np pc), ((2 : Nat), AV.ptr (3 : Nat) (0 : Nat) (0 : Nat) (0 : Nat)), ((4 : Nat), AV.ff)]
          [some (Blk.mk false [] (0 : Nat) (0 : Nat) (fun x => []) [] (some fun js => Mem.mk (FD.nl x js) (FD.ad x js) (FD.ln x js) (FD.cp x js) (1 : Nat) fun q => [AV.int IntKind.i64 (FD.z x (q :: js))])),
            some (Blk.mk false [] (8 : Nat) cap (fun r => [AV.int IntKind.i64 (OC.kd o r), AV.part (0 : Nat) [r], AV.int IntKind.i64 (OC.fo o r), AV.int IntKind.i64 (OC.fa o r), AV.int IntKind.i64 (OC.fb o r), AV.int IntKind.i64 (OC.pa o r), AV.int IntKind.i64 (OC.ra o r), AV.int IntKind.i64 (OC.co o r)]) [] none), some (Blk.mk false [] (1 : Nat) pc (fun a => [AV.int IntKind.i64 (pr a)]) [] none),
            some (Blk.mk true [AV.int IntKind.i64 G, AV.sl (1 : Nat) (0 : Nat) (8 : Nat) (0 : Nat) len cap] (0 : Nat) (0 : Nat) (fun x => []) [] none)]))
    (T.ret
      (Ex.norm,
        St.mk [((1 : Nat), AV.sl (2 : Nat) (0 : Nat) (1 : Nat) (0 : Nat) np pc), ((2 : Nat), AV.ptr (3 : Nat) (0 : Nat) (0 : Nat) (0 : Nat)), ((4 : Nat), AV.ff), ((5 : Nat), AV.int IntKind.i64 (0 : Int))]
          [some (Blk.mk false [] (0 : Nat) (0 : Nat) (fun x => []) [] (some fun js => Mem.mk (FD.nl x js) (FD.ad x js) (FD.ln x js) (FD.cp x js) (1 : Nat) fun q => [AV.int IntKind.i64 (FD.z x (q :: js))])),
            some (Blk.mk false [] (8 : Nat) cap (fun r => [AV.int IntKind.i64 (OC.kd o r), AV.part (0 : Nat) [r], AV.int IntKind.i64 (OC.fo o r), AV.int IntKind.i64 (OC.fa o r), AV.int IntKind.i64 (OC.fb o r), AV.int IntKind.i64 (OC.pa o r), AV.int IntKind.i64 (OC.ra o r), AV.int IntKind.i64 (OC.co o r)]) [] none), some (Blk.mk false [] (1 : Nat) pc (fun a => [AV.int IntKind.i64 (pr a)]) [] none),
            some (Blk.mk true [AV.int IntKind.i64 G, AV.sl (1 : Nat) (0 : Nat) (8 : Nat) (0 : Nat) len cap] (0 : Nat) (0 : Nat) (fun x => []) [] none)])) := by
  kernel_rfl

theorem rt_t (x : FD) (o : OC) (G : Int) (len cap : Nat) (pr : Nat → Int) (np pc i : Nat) : T.cut (keepT [1, 2, 4, 5] (acode Try.prog (rtE 3) rtC (rtSt x o G len cap pr np pc i))) [2, 6, 2, 0, 2, 0, 2, 0] = 
  T.ite (decide ((↑i : Int) < (↑np : Int)))
    (T.chk (decide ((0 : Int) ≤ (↑i : Int)) && decide ((↑i : Int) < (↑np : Int)))
      (T.chk (decide ((0 : Nat) + Int.toNat (↑i : Int) < pc))
        (T.ite (decide (pr ((0 : Nat) + Int.toNat (↑i : Int)) < (1 : Int)))
          (T.ret
            (Ex.ret,
              St.mk [((1 : Nat), AV.sl (2 : Nat) (0 : Nat) (1 : Nat) (0 : Nat) np pc), ((2 : Nat), AV.ptr (3 : Nat) (0 : Nat) (0 : Nat) (0 : Nat)), ((4 : Nat), AV.ff), ((5 : Nat), AV.int IntKind.i64 (↑i : Int))]
                [some (Blk.mk false [] (0 : Nat) (0 : Nat) (fun x => []) [] (some fun js => Mem.mk (FD.nl x js) (FD.ad x js) (FD.ln x js) (FD.cp x js) (1 : Nat) fun q => [AV.int IntKind.i64 (FD.z x (q :: js))])),
                  some (Blk.mk false [] (8 : Nat) cap (fun r => [AV.int IntKind.i64 (OC.kd o r), AV.part (0 : Nat) [r], AV.int IntKind.i64 (OC.fo o r), AV.int IntKind.i64 (OC.fa o r), AV.int IntKind.i64 (OC.fb o r), AV.int IntKind.i64 (OC.pa o r), AV.int IntKind.i64 (OC.ra o r), AV.int IntKind.i64 (OC.co o r)]) [] none),
                  some (Blk.mk false [] (1 : Nat) pc (fun a => [AV.int IntKind.i64 (pr a)]) [] none), some (Blk.mk true [AV.int IntKind.i64 G, AV.sl (1 : Nat) (0 : Nat) (8 : Nat) (0 : Nat) len cap] (0 : Nat) (0 : Nat) (fun x => []) [] none)]))
          (T.chk (decide ((0 : Int) ≤ (↑i : Int)) && decide ((↑i : Int) < (↑np : Int)))
            (T.chk (decide ((0 : Nat) + Int.toNat (↑i : Int) < pc))
              (T.ite (decide (pr ((0 : Nat) + Int.toNat (↑i : Int)) > (8 : Int)))
                (T.ret
                  (Ex.ret,
                    St.mk [((1 : Nat), AV.sl (2 : Nat) (0 : Nat) (1 : Nat) (0 : Nat) np pc), ((2 : Nat), AV.ptr (3 : Nat) (0 : Nat) (0 : Nat) (0 : Nat)), ((4 : Nat), AV.ff), ((5 : Nat), AV.int IntKind.i64 (↑i : Int))]
                      [some (Blk.mk false [] (0 : Nat) (0 : Nat) (fun x => []) [] (some fun js => Mem.mk (FD.nl x js) (FD.ad x js) (FD.ln x js) (FD.cp x js) (1 : Nat) fun q => [AV.int IntKind.i64 (FD.z x (q :: js))])),
                        some (Blk.mk false [] (8 : Nat) cap (fun r => [AV.int IntKind.i64 (OC.kd o r), AV.part (0 : Nat) [r], AV.int IntKind.i64 (OC.fo o r), AV.int IntKind.i64 (OC.fa o r), AV.int IntKind.i64 (OC.fb o r), AV.int IntKind.i64 (OC.pa o r), AV.int IntKind.i64 (OC.ra o r), AV.int IntKind.i64 (OC.co o r)]) [] none),
                        some (Blk.mk false [] (1 : Nat) pc (fun a => [AV.int IntKind.i64 (pr a)]) [] none), some (Blk.mk true [AV.int IntKind.i64 G, AV.sl (1 : Nat) (0 : Nat) (8 : Nat) (0 : Nat) len cap] (0 : Nat) (0 : Nat) (fun x => []) [] none)]))
                (T.chk (decide ((0 : Int) ≤ (↑i : Int)) && decide ((↑i : Int) < (↑np : Int)))
                  (T.chk (decide ((0 : Nat) + Int.toNat (↑i : Int) < pc))
                    (T.ite (decide (pr ((0 : Nat) + Int.toNat (↑i : Int)) > G))
                      (T.ret
                        (Ex.ret,
                          St.mk [((1 : Nat), AV.sl (2 : Nat) (0 : Nat) (1 : Nat) (0 : Nat) np pc), ((2 : Nat), AV.ptr (3 : Nat) (0 : Nat) (0 : Nat) (0 : Nat)), ((4 : Nat), AV.ff), ((5 : Nat), AV.int IntKind.i64 (↑i : Int))]
                            [some (Blk.mk false [] (0 : Nat) (0 : Nat) (fun x => []) [] (some fun js => Mem.mk (FD.nl x js) (FD.ad x js) (FD.ln x js) (FD.cp x js) (1 : Nat) fun q => [AV.int IntKind.i64 (FD.z x (q :: js))])),
                              some (Blk.mk false [] (8 : Nat) cap (fun r => [AV.int IntKind.i64 (OC.kd o r), AV.part (0 : Nat) [r], AV.int IntKind.i64 (OC.fo o r), AV.int IntKind.i64 (OC.fa o r), AV.int IntKind.i64 (OC.fb o r), AV.int IntKind.i64 (OC.pa o r), AV.int IntKind.i64 (OC.ra o r), AV.int IntKind.i64 (OC.co o r)]) [] none),
                              some (Blk.mk false [] (1 : Nat) pc (fun a => [AV.int IntKind.i64 (pr a)]) [] none), some (Blk.mk true [AV.int IntKind.i64 G, AV.sl (1 : Nat) (0 : Nat) (8 : Nat) (0 : Nat) len cap] (0 : Nat) (0 : Nat) (fun x => []) [] none)]))
                      (T.ret
                        (Ex.norm,
                          St.mk [((1 : Nat), AV.sl (2 : Nat) (0 : Nat) (1 : Nat) (0 : Nat) np pc), ((2 : Nat), AV.ptr (3 : Nat) (0 : Nat) (0 : Nat) (0 : Nat)), ((5 : Nat), AV.int IntKind.i64 (IntKind.wrap IntKind.i64 ((↑i : Int) + (1 : Int))))]
                            [some (Blk.mk false [] (0 : Nat) (0 : Nat) (fun x => []) [] (some fun js => Mem.mk (FD.nl x js) (FD.ad x js) (FD.ln x js) (FD.cp x js) (1 : Nat) fun q => [AV.int IntKind.i64 (FD.z x (q :: js))])),
                              some (Blk.mk false [] (8 : Nat) cap (fun r => [AV.int IntKind.i64 (OC.kd o r), AV.part (0 : Nat) [r], AV.int IntKind.i64 (OC.fo o r), AV.int IntKind.i64 (OC.fa o r), AV.int IntKind.i64 (OC.fb o r), AV.int IntKind.i64 (OC.pa o r), AV.int IntKind.i64 (OC.ra o r), AV.int IntKind.i64 (OC.co o r)]) [] none),
                              some (Blk.mk false [] (1 : Nat) pc (fun a => [AV.int IntKind.i64 (pr a)]) [] none), some (Blk.mk true [AV.int IntKind.i64 G, AV.sl (1 : Nat) (0 : Nat) (8 : Nat) (0 : Nat) len cap] (0 : Nat) (0 : Nat) (fun x => []) [] none)])))))))))))
    (T.ret
      (Ex.exit (0 : Nat),
        St.mk [((1 : Nat), AV.sl (2 : Nat) (0 : Nat) (1 : Nat) (0 : Nat) np pc), ((2 : Nat), AV.ptr (3 : Nat) (0 : Nat) (0 : Nat) (0 : Nat)), ((5 : Nat), AV.int IntKind.i64 (↑i : Int))]
          [some (Blk.mk false [] (0 : Nat) (0 : Nat) (fun x => []) [] (some fun js => Mem.mk (FD.nl x js) (FD.ad x js) (FD.ln x js) (FD.cp x js) (1 : Nat) fun q => [AV.int IntKind.i64 (FD.z x (q :: js))])),
            some (Blk.mk false [] (8 : Nat) cap (fun r => [AV.int IntKind.i64 (OC.kd o r), AV.part (0 : Nat) [r], AV.int IntKind.i64 (OC.fo o r), AV.int IntKind.i64 (OC.fa o r), AV.int IntKind.i64 (OC.fb o r), AV.int IntKind.i64 (OC.pa o r), AV.int IntKind.i64 (OC.ra o r), AV.int IntKind.i64 (OC.co o r)]) [] none), some (Blk.mk false [] (1 : Nat) pc (fun a => [AV.int IntKind.i64 (pr a)]) [] none),
            some (Blk.mk true [AV.int IntKind.i64 G, AV.sl (1 : Nat) (0 : Nat) (8 : Nat) (0 : Nat) len cap] (0 : Nat) (0 : Nat) (fun x => []) [] none)])) := by
  kernel_rfl

theorem rt_z (x : FD) (o : OC) (G : Int) (len cap : Nat) (pr : Nat → Int) (np pc i : Nat) : T.cut (keepT [4] (acodeL Try.prog (rtE 3) ((chainOf (codeOf Try.f23)).drop 5) (rtSt x o G len cap pr np pc i))) [] = 
  T.ret
    (Ex.ret,
      St.mk [((4 : Nat), AV.tt)]
        [some (Blk.mk false [] (0 : Nat) (0 : Nat) (fun x => []) [] (some fun js => Mem.mk (FD.nl x js) (FD.ad x js) (FD.ln x js) (FD.cp x js) (1 : Nat) fun q => [AV.int IntKind.i64 (FD.z x (q :: js))])),
          some (Blk.mk false [] (8 : Nat) cap (fun r => [AV.int IntKind.i64 (OC.kd o r), AV.part (0 : Nat) [r], AV.int IntKind.i64 (OC.fo o r), AV.int IntKind.i64 (OC.fa o r), AV.int IntKind.i64 (OC.fb o r), AV.int IntKind.i64 (OC.pa o r), AV.int IntKind.i64 (OC.ra o r), AV.int IntKind.i64 (OC.co o r)]) [] none), some (Blk.mk false [] (1 : Nat) pc (fun a => [AV.int IntKind.i64 (pr a)]) [] none),
          some (Blk.mk true [AV.int IntKind.i64 G, AV.sl (1 : Nat) (0 : Nat) (8 : Nat) (0 : Nat) len cap] (0 : Nat) (0 : Nat) (fun x => []) [] none)]) := by
  kernel_rfl

theorem rt_k : (chainOf (codeOf Try.f23)).drop 4 = .block 0 (.loop rtC) :: (chainOf (codeOf Try.f23)).drop 5 := by
  kernel_rfl

theorem rt_res : Try.f23.results.toList = [.tmp 4] := by
  kernel_rfl

end Go.Proofs.Ytnfngaapjodpcaa
