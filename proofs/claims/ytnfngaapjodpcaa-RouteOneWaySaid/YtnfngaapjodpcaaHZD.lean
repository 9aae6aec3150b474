/-
  Layer 20: mixed as a contract; inputs: trees.
-/
import Derived.Test.YtnfngaapjodpcaaHZB
namespace Go.Proofs.Ytnfngaapjodpcaa
open Go.Ox

set_option maxRecDepth 100000
set_option maxHeartbeats 4000000
set_option linter.unusedVariables false
set_option linter.unusedSimpArgs false

def miS (x : FD) (o : OC) (G : Int) (len cap : Nat) : List AV → AM → T AV
  | [.agg [.int .i64 G', .sl 1 0 8 0 len' cap'], .sl b 0 1 0 L C], m => T.opt (m.get b) fun B => .need (G' = G ∧ len' = len ∧ cap' = cap) (.need (spIn x o cap m) (.need (IntRow .i64 B ∧ B.n = C) (.chk (decide (L ≤ C ∧ L ≤ 12)) (.all fun r => .ret (.bool (decide (r = 0)))))))
  | _, _ => .fail

theorem miS_ok (x : FD) (o : OC) (G : Int) (len cap : Nat) (h : spOK x len cap) (h12 : len ≤ 12) : SummOK Try.prog 41 (.pure (miS x o G len cap)) := by
  refine ro_ok (fun args w => Try.call41 args w) ?_
  intro args m Q hq
  unfold miS at hq ⊢
  split at hq
  · rename_i G' len' cap' b L C
    obtain ⟨B, hB, hq⟩ := T.holds_opt hq
    obtain ⟨⟨rfl, rfl, rfl⟩, ⟨m0, m1⟩, ⟨k1, k2⟩, k3, hq⟩ := hq
    subst k2
    rw [hB]
    have k3' := of_decide_eq_true k3
    refine ⟨⟨⟨rfl, rfl, rfl⟩, ⟨m0, m1⟩, ⟨k1, rfl⟩, k3, fun r => by simp [plain, T.holds]⟩, ⟨⟨[0, 1, b], [spA G' len' cap', .sl 2 0 1 0 L B.n], spM x o cap' ++ [some (inB B.n (intAt B))], rfl, by simp [AM.get_lt m0, AM.get_lt m1, AM.get_lt hB], ⟨⟨_, m0, x.ok⟩, ⟨_, m1, ops_ok rfl (Nat.succ_pos _)⟩, ⟨_, hB, k1.view _ _⟩, trivial⟩, spIn_ro (by intro id b' hb'; match id, hb' with | 0, hb' => cases hb'; rfl), by simp [belowL, below, spA, spM, AV.scalar], by simp [renL, ren, spA, Ox.out], ?_⟩⟩⟩
    exact (mi_eff x o G' len' cap' h h12 (intAt B) B.n L k3'.1 k3'.2).mono fun Q h => h.2.2.2.2
  · exact hq.elim

noncomputable def npE (n0 : Nat) : Env := { nt := Try.f44.ntmps, n0 := n0, vec := true, fns := openAll (inl Try.prog whB miL), loop := fun _ _ => .fail }

theorem npE_ok (n0 : Nat) : EnvOK Try.prog (npE n0).fns := EnvOK.open_ (inl_ok whB_ok miL miL_ok)

noncomputable def npC : Code := loopAt (codeOf Try.f44) 0

def npSt (x : FD) (o : OC) (G : Int) (len cap i L C : Nat) (z : Nat → Int) (t : Nat) : St := ⟨[(1, .int .i64 i), (2, .ptr 2 0 0 0), (5, .sl 3 0 1 0 L C), (14, .sl 3 0 1 0 L C), (15, .int .i64 L), (16, .int .i64 t)], spM x o cap ++ [some (boxS G len cap), some (inB C z)]⟩

def npS0 (x : FD) (o : OC) (G : Int) (len cap i : Nat) (a : Option Addr) : St := ⟨[(1, .int .i64 i), (2, .ptr 2 0 0 0), (5, .esl a), (14, .esl a), (15, .int .i64 0), (16, .int .i64 0)], spM x o cap ++ [some (boxS G len cap)]⟩

theorem np_a (x : FD) (o : OC) (G : Int) (len cap i : Nat) : T.cut (keepT [1, 2, 5, 14, 15, 16] (acodeL Try.prog (npE 2) ((chainOf (codeOf Try.f44)).take 3) ⟨[(0, spA G len cap), (1, .int .i64 i)], spM x o cap⟩)) [2, 0] = 
  T.chk (decide ((0 : Int) ≤ (↑i : Int)) && decide ((↑i : Int) < (↑len : Int)))
    (T.chk (decide ((0 : Nat) + Int.toNat (↑i : Int) < cap))
      (T.ite (FD.nl x [(0 : Nat) + Int.toNat (↑i : Int)])
        (T.ret
          (Ex.norm,
            St.mk [((1 : Nat), AV.int IntKind.i64 (↑i : Int)), ((2 : Nat), AV.ptr (2 : Nat) (0 : Nat) (0 : Nat) (0 : Nat)), ((5 : Nat), AV.esl (FD.ad x [(0 : Nat) + Int.toNat (↑i : Int)])), ((14 : Nat), AV.esl (FD.ad x [(0 : Nat) + Int.toNat (↑i : Int)])), ((15 : Nat), AV.int IntKind.i64 (0 : Int)), ((16 : Nat), AV.int IntKind.i64 (0 : Int))]
              [some (Blk.mk false [] (0 : Nat) (0 : Nat) (fun x => []) [] (some fun js => Mem.mk (FD.nl x js) (FD.ad x js) (FD.ln x js) (FD.cp x js) (1 : Nat) fun q => [AV.int IntKind.i64 (FD.z x (q :: js))])),
                some (Blk.mk false [] (8 : Nat) cap (fun r => [AV.int IntKind.i64 (OC.kd o r), AV.part (0 : Nat) [r], AV.int IntKind.i64 (OC.fo o r), AV.int IntKind.i64 (OC.fa o r), AV.int IntKind.i64 (OC.fb o r), AV.int IntKind.i64 (OC.pa o r), AV.int IntKind.i64 (OC.ra o r), AV.int IntKind.i64 (OC.co o r)]) [] none),
                some (Blk.mk true [AV.int IntKind.i64 G, AV.sl (1 : Nat) (0 : Nat) (8 : Nat) (0 : Nat) len cap] (0 : Nat) (0 : Nat) (fun x => []) [] none)]))
        (T.ret
          (Ex.norm,
            St.mk
              [((1 : Nat), AV.int IntKind.i64 (↑i : Int)), ((2 : Nat), AV.ptr (2 : Nat) (0 : Nat) (0 : Nat) (0 : Nat)), ((5 : Nat), AV.sl (3 : Nat) (0 : Nat) (1 : Nat) (0 : Nat) (FD.ln x [(0 : Nat) + Int.toNat (↑i : Int)]) (FD.cp x [(0 : Nat) + Int.toNat (↑i : Int)])),
                ((14 : Nat), AV.sl (3 : Nat) (0 : Nat) (1 : Nat) (0 : Nat) (FD.ln x [(0 : Nat) + Int.toNat (↑i : Int)]) (FD.cp x [(0 : Nat) + Int.toNat (↑i : Int)])), ((15 : Nat), AV.int IntKind.i64 (↑(FD.ln x [(0 : Nat) + Int.toNat (↑i : Int)]) : Int)), ((16 : Nat), AV.int IntKind.i64 (0 : Int))]
              [some (Blk.mk false [] (0 : Nat) (0 : Nat) (fun x => []) [] (some fun js => Mem.mk (FD.nl x js) (FD.ad x js) (FD.ln x js) (FD.cp x js) (1 : Nat) fun q => [AV.int IntKind.i64 (FD.z x (q :: js))])),
                some (Blk.mk false [] (8 : Nat) cap (fun r => [AV.int IntKind.i64 (OC.kd o r), AV.part (0 : Nat) [r], AV.int IntKind.i64 (OC.fo o r), AV.int IntKind.i64 (OC.fa o r), AV.int IntKind.i64 (OC.fb o r), AV.int IntKind.i64 (OC.pa o r), AV.int IntKind.i64 (OC.ra o r), AV.int IntKind.i64 (OC.co o r)]) [] none),
                some (Blk.mk true [AV.int IntKind.i64 G, AV.sl (1 : Nat) (0 : Nat) (8 : Nat) (0 : Nat) len cap] (0 : Nat) (0 : Nat) (fun x => []) [] none), some (Blk.mk false [] (1 : Nat) (FD.cp x [(0 : Nat) + Int.toNat (↑i : Int)]) (fun a => [AV.int IntKind.i64 (FD.z x [a, (0 : Nat) + Int.toNat (↑i : Int)])]) [] none)])))) := by
  kernel_rfl

theorem np_t (x : FD) (o : OC) (G : Int) (len cap i L C : Nat) (z : Nat → Int) (t : Nat) : T.cut (keepT [1, 2, 4, 5, 14, 15, 16] (acode Try.prog (npE 2) npC (npSt x o G len cap i L C z t))) [2, 8, 2, 0, 2, 0, 2, 0, 2, 0] = 
  T.ite (decide ((↑t : Int) < (↑L : Int)))
    (T.chk (decide ((0 : Int) ≤ (↑t : Int)) && decide ((↑t : Int) < (↑L : Int)))
      (T.chk (decide ((0 : Nat) + Int.toNat (↑t : Int) < C))
        (T.ite (decide (z ((0 : Nat) + Int.toNat (↑t : Int)) < (0 : Int)))
          (T.ret
            (Ex.ret,
              St.mk [((1 : Nat), AV.int IntKind.i64 (↑i : Int)), ((2 : Nat), AV.ptr (2 : Nat) (0 : Nat) (0 : Nat) (0 : Nat)), ((4 : Nat), AV.ff), ((5 : Nat), AV.sl (3 : Nat) (0 : Nat) (1 : Nat) (0 : Nat) L C), ((14 : Nat), AV.sl (3 : Nat) (0 : Nat) (1 : Nat) (0 : Nat) L C), ((15 : Nat), AV.int IntKind.i64 (↑L : Int)), ((16 : Nat), AV.int IntKind.i64 (↑t : Int))]
                [some (Blk.mk false [] (0 : Nat) (0 : Nat) (fun x => []) [] (some fun js => Mem.mk (FD.nl x js) (FD.ad x js) (FD.ln x js) (FD.cp x js) (1 : Nat) fun q => [AV.int IntKind.i64 (FD.z x (q :: js))])),
                  some (Blk.mk false [] (8 : Nat) cap (fun r => [AV.int IntKind.i64 (OC.kd o r), AV.part (0 : Nat) [r], AV.int IntKind.i64 (OC.fo o r), AV.int IntKind.i64 (OC.fa o r), AV.int IntKind.i64 (OC.fb o r), AV.int IntKind.i64 (OC.pa o r), AV.int IntKind.i64 (OC.ra o r), AV.int IntKind.i64 (OC.co o r)]) [] none),
                  some (Blk.mk true [AV.int IntKind.i64 G, AV.sl (1 : Nat) (0 : Nat) (8 : Nat) (0 : Nat) len cap] (0 : Nat) (0 : Nat) (fun x => []) [] none), some (Blk.mk false [] (1 : Nat) C (fun a => [AV.int IntKind.i64 (z a)]) [] none)]))
          (T.ite (decide (z ((0 : Nat) + Int.toNat (↑t : Int)) ≥ (↑len : Int)))
            (T.ret
              (Ex.ret,
                St.mk [((1 : Nat), AV.int IntKind.i64 (↑i : Int)), ((2 : Nat), AV.ptr (2 : Nat) (0 : Nat) (0 : Nat) (0 : Nat)), ((4 : Nat), AV.ff), ((5 : Nat), AV.sl (3 : Nat) (0 : Nat) (1 : Nat) (0 : Nat) L C), ((14 : Nat), AV.sl (3 : Nat) (0 : Nat) (1 : Nat) (0 : Nat) L C), ((15 : Nat), AV.int IntKind.i64 (↑L : Int)), ((16 : Nat), AV.int IntKind.i64 (↑t : Int))]
                  [some (Blk.mk false [] (0 : Nat) (0 : Nat) (fun x => []) [] (some fun js => Mem.mk (FD.nl x js) (FD.ad x js) (FD.ln x js) (FD.cp x js) (1 : Nat) fun q => [AV.int IntKind.i64 (FD.z x (q :: js))])),
                    some (Blk.mk false [] (8 : Nat) cap (fun r => [AV.int IntKind.i64 (OC.kd o r), AV.part (0 : Nat) [r], AV.int IntKind.i64 (OC.fo o r), AV.int IntKind.i64 (OC.fa o r), AV.int IntKind.i64 (OC.fb o r), AV.int IntKind.i64 (OC.pa o r), AV.int IntKind.i64 (OC.ra o r), AV.int IntKind.i64 (OC.co o r)]) [] none),
                    some (Blk.mk true [AV.int IntKind.i64 G, AV.sl (1 : Nat) (0 : Nat) (8 : Nat) (0 : Nat) len cap] (0 : Nat) (0 : Nat) (fun x => []) [] none), some (Blk.mk false [] (1 : Nat) C (fun a => [AV.int IntKind.i64 (z a)]) [] none)]))
            (T.ite (z ((0 : Nat) + Int.toNat (↑t : Int)) == (↑i : Int))
              (T.ret
                (Ex.ret,
                  St.mk [((1 : Nat), AV.int IntKind.i64 (↑i : Int)), ((2 : Nat), AV.ptr (2 : Nat) (0 : Nat) (0 : Nat) (0 : Nat)), ((4 : Nat), AV.ff), ((5 : Nat), AV.sl (3 : Nat) (0 : Nat) (1 : Nat) (0 : Nat) L C), ((14 : Nat), AV.sl (3 : Nat) (0 : Nat) (1 : Nat) (0 : Nat) L C), ((15 : Nat), AV.int IntKind.i64 (↑L : Int)), ((16 : Nat), AV.int IntKind.i64 (↑t : Int))]
                    [some (Blk.mk false [] (0 : Nat) (0 : Nat) (fun x => []) [] (some fun js => Mem.mk (FD.nl x js) (FD.ad x js) (FD.ln x js) (FD.cp x js) (1 : Nat) fun q => [AV.int IntKind.i64 (FD.z x (q :: js))])),
                      some (Blk.mk false [] (8 : Nat) cap (fun r => [AV.int IntKind.i64 (OC.kd o r), AV.part (0 : Nat) [r], AV.int IntKind.i64 (OC.fo o r), AV.int IntKind.i64 (OC.fa o r), AV.int IntKind.i64 (OC.fb o r), AV.int IntKind.i64 (OC.pa o r), AV.int IntKind.i64 (OC.ra o r), AV.int IntKind.i64 (OC.co o r)]) [] none),
                      some (Blk.mk true [AV.int IntKind.i64 G, AV.sl (1 : Nat) (0 : Nat) (8 : Nat) (0 : Nat) len cap] (0 : Nat) (0 : Nat) (fun x => []) [] none), some (Blk.mk false [] (1 : Nat) C (fun a => [AV.int IntKind.i64 (z a)]) [] none)]))
              (T.chk (decide ((0 : Int) ≤ (↑t : Int)) && decide ((↑t : Int) ≤ (↑C : Int)))
                (T.need (IntRow IntKind.i64 (Blk.mk false [] (1 : Nat) C (fun a => [AV.int IntKind.i64 (z a)]) [] none))
                  (T.chk (decide ((0 : Nat) + Int.toNat (↑t : Int) ≤ C))
                    (T.chk (decide (Int.toNat (↑t : Int) ≤ (9223372036854775807 : Nat)))
                      (T.ite (decide (ixR (fun i => z ((0 : Nat) + i)) (z ((0 : Nat) + Int.toNat (↑t : Int))) (0 : Nat) (Int.toNat (↑t : Int)) ≥ (0 : Int)))
                        (T.ret
                          (Ex.ret,
                            St.mk [((1 : Nat), AV.int IntKind.i64 (↑i : Int)), ((2 : Nat), AV.ptr (2 : Nat) (0 : Nat) (0 : Nat) (0 : Nat)), ((4 : Nat), AV.ff), ((5 : Nat), AV.sl (3 : Nat) (0 : Nat) (1 : Nat) (0 : Nat) L C), ((14 : Nat), AV.sl (3 : Nat) (0 : Nat) (1 : Nat) (0 : Nat) L C), ((15 : Nat), AV.int IntKind.i64 (↑L : Int)), ((16 : Nat), AV.int IntKind.i64 (↑t : Int))]
                              [some (Blk.mk false [] (0 : Nat) (0 : Nat) (fun x => []) [] (some fun js => Mem.mk (FD.nl x js) (FD.ad x js) (FD.ln x js) (FD.cp x js) (1 : Nat) fun q => [AV.int IntKind.i64 (FD.z x (q :: js))])),
                                some (Blk.mk false [] (8 : Nat) cap (fun r => [AV.int IntKind.i64 (OC.kd o r), AV.part (0 : Nat) [r], AV.int IntKind.i64 (OC.fo o r), AV.int IntKind.i64 (OC.fa o r), AV.int IntKind.i64 (OC.fb o r), AV.int IntKind.i64 (OC.pa o r), AV.int IntKind.i64 (OC.ra o r), AV.int IntKind.i64 (OC.co o r)]) [] none),
                                some (Blk.mk true [AV.int IntKind.i64 G, AV.sl (1 : Nat) (0 : Nat) (8 : Nat) (0 : Nat) len cap] (0 : Nat) (0 : Nat) (fun x => []) [] none), some (Blk.mk false [] (1 : Nat) C (fun a => [AV.int IntKind.i64 (z a)]) [] none)]))
                        (T.ret
                          (Ex.norm,
                            St.mk [((1 : Nat), AV.int IntKind.i64 (↑i : Int)), ((2 : Nat), AV.ptr (2 : Nat) (0 : Nat) (0 : Nat) (0 : Nat)), ((5 : Nat), AV.sl (3 : Nat) (0 : Nat) (1 : Nat) (0 : Nat) L C), ((14 : Nat), AV.sl (3 : Nat) (0 : Nat) (1 : Nat) (0 : Nat) L C), ((15 : Nat), AV.int IntKind.i64 (↑L : Int)), ((16 : Nat), AV.int IntKind.i64 (IntKind.wrap IntKind.i64 ((↑t : Int) + (1 : Int))))]
                              [some (Blk.mk false [] (0 : Nat) (0 : Nat) (fun x => []) [] (some fun js => Mem.mk (FD.nl x js) (FD.ad x js) (FD.ln x js) (FD.cp x js) (1 : Nat) fun q => [AV.int IntKind.i64 (FD.z x (q :: js))])),
                                some (Blk.mk false [] (8 : Nat) cap (fun r => [AV.int IntKind.i64 (OC.kd o r), AV.part (0 : Nat) [r], AV.int IntKind.i64 (OC.fo o r), AV.int IntKind.i64 (OC.fa o r), AV.int IntKind.i64 (OC.fb o r), AV.int IntKind.i64 (OC.pa o r), AV.int IntKind.i64 (OC.ra o r), AV.int IntKind.i64 (OC.co o r)]) [] none),
                                some (Blk.mk true [AV.int IntKind.i64 G, AV.sl (1 : Nat) (0 : Nat) (8 : Nat) (0 : Nat) len cap] (0 : Nat) (0 : Nat) (fun x => []) [] none), some (Blk.mk false [] (1 : Nat) C (fun a => [AV.int IntKind.i64 (z a)]) [] none)]))))))))))))
    (T.ret
      (Ex.exit (0 : Nat),
        St.mk [((1 : Nat), AV.int IntKind.i64 (↑i : Int)), ((2 : Nat), AV.ptr (2 : Nat) (0 : Nat) (0 : Nat) (0 : Nat)), ((5 : Nat), AV.sl (3 : Nat) (0 : Nat) (1 : Nat) (0 : Nat) L C), ((14 : Nat), AV.sl (3 : Nat) (0 : Nat) (1 : Nat) (0 : Nat) L C), ((15 : Nat), AV.int IntKind.i64 (↑L : Int)), ((16 : Nat), AV.int IntKind.i64 (↑t : Int))]
          [some (Blk.mk false [] (0 : Nat) (0 : Nat) (fun x => []) [] (some fun js => Mem.mk (FD.nl x js) (FD.ad x js) (FD.ln x js) (FD.cp x js) (1 : Nat) fun q => [AV.int IntKind.i64 (FD.z x (q :: js))])),
            some (Blk.mk false [] (8 : Nat) cap (fun r => [AV.int IntKind.i64 (OC.kd o r), AV.part (0 : Nat) [r], AV.int IntKind.i64 (OC.fo o r), AV.int IntKind.i64 (OC.fa o r), AV.int IntKind.i64 (OC.fb o r), AV.int IntKind.i64 (OC.pa o r), AV.int IntKind.i64 (OC.ra o r), AV.int IntKind.i64 (OC.co o r)]) [] none),
            some (Blk.mk true [AV.int IntKind.i64 G, AV.sl (1 : Nat) (0 : Nat) (8 : Nat) (0 : Nat) len cap] (0 : Nat) (0 : Nat) (fun x => []) [] none), some (Blk.mk false [] (1 : Nat) C (fun a => [AV.int IntKind.i64 (z a)]) [] none)])) := by
  kernel_rfl

theorem np_t0 (x : FD) (o : OC) (G : Int) (len cap i : Nat) (a : Option Addr) : T.cut (keepT [1, 2, 5, 14, 15, 16] (acode Try.prog (npE 2) npC (npS0 x o G len cap i a))) [0] = 
  @T.chk (Ex × St) true
    (T.ret
      (Ex.exit (0 : Nat),
        St.mk [((1 : Nat), AV.int IntKind.i64 (↑i : Int)), ((2 : Nat), AV.ptr (2 : Nat) (0 : Nat) (0 : Nat) (0 : Nat)), ((5 : Nat), AV.esl a), ((14 : Nat), AV.esl a), ((15 : Nat), AV.int IntKind.i64 (0 : Int)), ((16 : Nat), AV.int IntKind.i64 (0 : Int))]
          [some (Blk.mk false [] (0 : Nat) (0 : Nat) (fun x => []) [] (some fun js => Mem.mk (FD.nl x js) (FD.ad x js) (FD.ln x js) (FD.cp x js) (1 : Nat) fun q => [AV.int IntKind.i64 (FD.z x (q :: js))])),
            some (Blk.mk false [] (8 : Nat) cap (fun r => [AV.int IntKind.i64 (OC.kd o r), AV.part (0 : Nat) [r], AV.int IntKind.i64 (OC.fo o r), AV.int IntKind.i64 (OC.fa o r), AV.int IntKind.i64 (OC.fb o r), AV.int IntKind.i64 (OC.pa o r), AV.int IntKind.i64 (OC.ra o r), AV.int IntKind.i64 (OC.co o r)]) [] none),
            some (Blk.mk true [AV.int IntKind.i64 G, AV.sl (1 : Nat) (0 : Nat) (8 : Nat) (0 : Nat) len cap] (0 : Nat) (0 : Nat) (fun x => []) [] none)])) := by
  kernel_rfl

theorem np_z (x : FD) (o : OC) (G : Int) (len cap i L C : Nat) (z : Nat → Int) (t : Nat) : T.cut (keepT [4] (acodeL Try.prog (npE 2) ((chainOf (codeOf Try.f44)).drop 4) (npSt x o G len cap i L C z t))) [2, 0, 2, 0] = 
  T.chk (decide ((0 : Int) ≤ (↑i : Int)) && decide ((↑i : Int) < (↑len : Int)))
    (T.chk (decide ((0 : Nat) + Int.toNat (↑i : Int) < cap))
      (T.ite (OC.kd o ((0 : Nat) + Int.toNat (↑i : Int)) == (1 : Int))
        (T.ret
          (Ex.ret,
            St.mk [((4 : Nat), AV.bool ((↑L : Int) == (0 : Int)))]
              [some (Blk.mk false [] (0 : Nat) (0 : Nat) (fun x => []) [] (some fun js => Mem.mk (FD.nl x js) (FD.ad x js) (FD.ln x js) (FD.cp x js) (1 : Nat) fun q => [AV.int IntKind.i64 (FD.z x (q :: js))])),
                some (Blk.mk false [] (8 : Nat) cap (fun r => [AV.int IntKind.i64 (OC.kd o r), AV.part (0 : Nat) [r], AV.int IntKind.i64 (OC.fo o r), AV.int IntKind.i64 (OC.fa o r), AV.int IntKind.i64 (OC.fb o r), AV.int IntKind.i64 (OC.pa o r), AV.int IntKind.i64 (OC.ra o r), AV.int IntKind.i64 (OC.co o r)]) [] none),
                some (Blk.mk true [AV.int IntKind.i64 G, AV.sl (1 : Nat) (0 : Nat) (8 : Nat) (0 : Nat) len cap] (0 : Nat) (0 : Nat) (fun x => []) [] none), some (Blk.mk false [] (1 : Nat) C (fun a => [AV.int IntKind.i64 (z a)]) [] none)]))
        (T.ite (OC.kd o ((0 : Nat) + Int.toNat (↑i : Int)) == (7 : Int))
          (T.ret
            (Ex.ret,
              St.mk [((4 : Nat), AV.bool (decide ((↑L : Int) ≥ (2 : Int))))]
                [some (Blk.mk false [] (0 : Nat) (0 : Nat) (fun x => []) [] (some fun js => Mem.mk (FD.nl x js) (FD.ad x js) (FD.ln x js) (FD.cp x js) (1 : Nat) fun q => [AV.int IntKind.i64 (FD.z x (q :: js))])),
                  some (Blk.mk false [] (8 : Nat) cap (fun r => [AV.int IntKind.i64 (OC.kd o r), AV.part (0 : Nat) [r], AV.int IntKind.i64 (OC.fo o r), AV.int IntKind.i64 (OC.fa o r), AV.int IntKind.i64 (OC.fb o r), AV.int IntKind.i64 (OC.pa o r), AV.int IntKind.i64 (OC.ra o r), AV.int IntKind.i64 (OC.co o r)]) [] none),
                  some (Blk.mk true [AV.int IntKind.i64 G, AV.sl (1 : Nat) (0 : Nat) (8 : Nat) (0 : Nat) len cap] (0 : Nat) (0 : Nat) (fun x => []) [] none), some (Blk.mk false [] (1 : Nat) C (fun a => [AV.int IntKind.i64 (z a)]) [] none)]))
          (T.ret
            (Ex.ret,
              St.mk [((4 : Nat), AV.bool ((↑L : Int) == (1 : Int)))]
                [some (Blk.mk false [] (0 : Nat) (0 : Nat) (fun x => []) [] (some fun js => Mem.mk (FD.nl x js) (FD.ad x js) (FD.ln x js) (FD.cp x js) (1 : Nat) fun q => [AV.int IntKind.i64 (FD.z x (q :: js))])),
                  some (Blk.mk false [] (8 : Nat) cap (fun r => [AV.int IntKind.i64 (OC.kd o r), AV.part (0 : Nat) [r], AV.int IntKind.i64 (OC.fo o r), AV.int IntKind.i64 (OC.fa o r), AV.int IntKind.i64 (OC.fb o r), AV.int IntKind.i64 (OC.pa o r), AV.int IntKind.i64 (OC.ra o r), AV.int IntKind.i64 (OC.co o r)]) [] none),
                  some (Blk.mk true [AV.int IntKind.i64 G, AV.sl (1 : Nat) (0 : Nat) (8 : Nat) (0 : Nat) len cap] (0 : Nat) (0 : Nat) (fun x => []) [] none), some (Blk.mk false [] (1 : Nat) C (fun a => [AV.int IntKind.i64 (z a)]) [] none)]))))) := by
  kernel_rfl

theorem np_z0 (x : FD) (o : OC) (G : Int) (len cap i : Nat) (a : Option Addr) : T.cut (keepT [4] (acodeL Try.prog (npE 2) ((chainOf (codeOf Try.f44)).drop 4) (npS0 x o G len cap i a))) [2, 0, 2, 0] = 
  T.chk (decide ((0 : Int) ≤ (↑i : Int)) && decide ((↑i : Int) < (↑len : Int)))
    (T.chk (decide ((0 : Nat) + Int.toNat (↑i : Int) < cap))
      (T.ite (OC.kd o ((0 : Nat) + Int.toNat (↑i : Int)) == (1 : Int))
        (T.ret
          (Ex.ret,
            St.mk [((4 : Nat), AV.bool true)]
              [some (Blk.mk false [] (0 : Nat) (0 : Nat) (fun x => []) [] (some fun js => Mem.mk (FD.nl x js) (FD.ad x js) (FD.ln x js) (FD.cp x js) (1 : Nat) fun q => [AV.int IntKind.i64 (FD.z x (q :: js))])),
                some (Blk.mk false [] (8 : Nat) cap (fun r => [AV.int IntKind.i64 (OC.kd o r), AV.part (0 : Nat) [r], AV.int IntKind.i64 (OC.fo o r), AV.int IntKind.i64 (OC.fa o r), AV.int IntKind.i64 (OC.fb o r), AV.int IntKind.i64 (OC.pa o r), AV.int IntKind.i64 (OC.ra o r), AV.int IntKind.i64 (OC.co o r)]) [] none),
                some (Blk.mk true [AV.int IntKind.i64 G, AV.sl (1 : Nat) (0 : Nat) (8 : Nat) (0 : Nat) len cap] (0 : Nat) (0 : Nat) (fun x => []) [] none)]))
        (T.ite (OC.kd o ((0 : Nat) + Int.toNat (↑i : Int)) == (7 : Int))
          (T.ret
            (Ex.ret,
              St.mk [((4 : Nat), AV.bool false)]
                [some (Blk.mk false [] (0 : Nat) (0 : Nat) (fun x => []) [] (some fun js => Mem.mk (FD.nl x js) (FD.ad x js) (FD.ln x js) (FD.cp x js) (1 : Nat) fun q => [AV.int IntKind.i64 (FD.z x (q :: js))])),
                  some (Blk.mk false [] (8 : Nat) cap (fun r => [AV.int IntKind.i64 (OC.kd o r), AV.part (0 : Nat) [r], AV.int IntKind.i64 (OC.fo o r), AV.int IntKind.i64 (OC.fa o r), AV.int IntKind.i64 (OC.fb o r), AV.int IntKind.i64 (OC.pa o r), AV.int IntKind.i64 (OC.ra o r), AV.int IntKind.i64 (OC.co o r)]) [] none),
                  some (Blk.mk true [AV.int IntKind.i64 G, AV.sl (1 : Nat) (0 : Nat) (8 : Nat) (0 : Nat) len cap] (0 : Nat) (0 : Nat) (fun x => []) [] none)]))
          (T.ret
            (Ex.ret,
              St.mk [((4 : Nat), AV.bool false)]
                [some (Blk.mk false [] (0 : Nat) (0 : Nat) (fun x => []) [] (some fun js => Mem.mk (FD.nl x js) (FD.ad x js) (FD.ln x js) (FD.cp x js) (1 : Nat) fun q => [AV.int IntKind.i64 (FD.z x (q :: js))])),
                  some (Blk.mk false [] (8 : Nat) cap (fun r => [AV.int IntKind.i64 (OC.kd o r), AV.part (0 : Nat) [r], AV.int IntKind.i64 (OC.fo o r), AV.int IntKind.i64 (OC.fa o r), AV.int IntKind.i64 (OC.fb o r), AV.int IntKind.i64 (OC.pa o r), AV.int IntKind.i64 (OC.ra o r), AV.int IntKind.i64 (OC.co o r)]) [] none),
                  some (Blk.mk true [AV.int IntKind.i64 G, AV.sl (1 : Nat) (0 : Nat) (8 : Nat) (0 : Nat) len cap] (0 : Nat) (0 : Nat) (fun x => []) [] none)]))))) := by
  kernel_rfl

theorem np_k : (chainOf (codeOf Try.f44)).drop 3 = .block 0 (.loop npC) :: (chainOf (codeOf Try.f44)).drop 4 := by
  kernel_rfl

theorem np_res : Try.f44.results.toList = [.tmp 4] := by
  kernel_rfl



set_option maxRecDepth 100000
set_option maxHeartbeats 4000000
set_option linter.unusedVariables false
set_option linter.unusedSimpArgs false

theorem pigeon : ∀ (n L : Nat) (f : Nat → Nat), (∀ j, j < L → f j < n) → (∀ j j', j < L → j' < j → f j' ≠ f j) → L ≤ n
  | 0, L, f, h, _ => by
    rcases Nat.eq_zero_or_pos L with e | e
    · omega
    · exact absurd (h 0 e) (Nat.not_lt_zero _)
  | n + 1, L, f, h, hd => by
    by_cases hx : ∃ j0, j0 < L ∧ f j0 = n
    · obtain ⟨j0, h0, e0⟩ := hx
      have := pigeon n (L - 1) (fun j => if j < j0 then f j else f (j + 1)) (fun j hj => ?_) (fun j j' hj hjj => ?_)
      · omega
      · show (if j < j0 then f j else f (j + 1)) < n
        split
        · have h1 := h j (by omega)
          have h2 := hd j0 j h0 (by omega)
          omega
        · have h1 := h (j + 1) (by omega)
          have h2 := hd (j + 1) j0 (by omega) (by omega)
          omega
      · show (if j' < j0 then f j' else f (j' + 1)) ≠ (if j < j0 then f j else f (j + 1))
        by_cases a : j' < j0 <;> by_cases b : j < j0
        · rw [if_pos a, if_pos b]; exact hd j j' (by omega) hjj
        · rw [if_pos a, if_neg b]; exact hd (j + 1) j' (by omega) (by omega)
        · omega
        · rw [if_neg a, if_neg b]; exact hd (j + 1) (j' + 1) (by omega) (by omega)
    · have := pigeon n L f (fun j hj => ?_) hd
      · omega
      · have h1 := h j hj
        have h2 : f j ≠ n := fun e => hx ⟨j, hj, e⟩
        omega

def npI (len : Nat) (z : Nat → Int) (L t : Nat) : Prop := t ≤ L ∧ ∀ j, j < t → (0 ≤ z j ∧ z j < len) ∧ ∀ j', j' < j → z j' ≠ z j

theorem npI.le {len : Nat} {z : Nat → Int} {L : Nat} (h : npI len z L L) : L ≤ len :=
  pigeon len L (fun j => (z j).toNat) (fun j hj => by have := (h.2 j hj).1; show (z j).toNat < len; omega) (fun j j' hj hjj => by
    have h1 := (h.2 j hj).1
    have h2 := (h.2 j' (by omega)).1
    have h3 := (h.2 j hj).2 j' hjj
    show (z j').toNat ≠ (z j).toNat
    omega)

def npT (x : FD) (o : OC) (len cap i : Nat) : T (AV × AM) :=
  .all fun r => .asm (decide (r ≠ 0 ∨ x.ln [i] ≤ len ∧ (o.kd i ≠ 7 ∨ 2 ≤ x.ln [i]))) (.ret (.bool (decide (r = 0)), spM x o cap))

theorem np_sub (x : FD) (o : OC) (G : Int) (len cap i L C : Nat) (z : Nat → Int) (t : Nat) {fr : List (Nat × AV)} (hf : SubFr 4 id fr (npSt x o G len cap i L C z t).fr) : SubSt 2 id ⟨fr, spM x o cap ++ [some (boxS G len cap), some (inB C z)]⟩ (npSt x o G len cap i L C z t) :=
  SubSt.mk hf (Sub.of ⟨⟨_, rfl, x.ok⟩, ⟨_, rfl, ops_ok rfl (Nat.succ_pos _)⟩, ⟨_, rfl, box_ok rfl (by simp [npSt, spM])⟩, ⟨_, rfl, in_ok⟩, trivial⟩ (fun _ _ _ _ h => h) (fun _ _ => rfl) (by simp [npSt, spM]))

theorem np_sub0 (x : FD) (o : OC) (G : Int) (len cap i : Nat) (a : Option Addr) {fr : List (Nat × AV)} (hf : SubFr 3 id fr (npS0 x o G len cap i a).fr) : SubSt 2 id ⟨fr, spM x o cap ++ [some (boxS G len cap)]⟩ (npS0 x o G len cap i a) :=
  SubSt.mk hf (Sub.of ⟨⟨_, rfl, x.ok⟩, ⟨_, rfl, ops_ok rfl (Nat.succ_pos _)⟩, ⟨_, rfl, box_ok rfl (by simp [npS0, spM])⟩, trivial⟩ (fun _ _ _ _ h => h) (fun _ _ => rfl) (by simp [npS0, spM]))

theorem np_eff (x : FD) (o : OC) (G : Int) (len cap i : Nat) (hk0 : spOK x len cap) (hi : i < len) (hlen : len ≤ 12) :
    EffAt Try.prog 44 [spA G len cap, .int .i64 i] (spM x o cap) (npT x o len cap i) := by
  refine fn_okA (E := npE 2) (c := codeOf Try.f44) Try.func44 rfl rfl rfl (Nat.le_of_ble_eq_true (by kernel_rfl)) fun Q hq => ?_
  obtain ⟨hw, hl, hb, hm⟩ := hk0
  have hE := npE_ok 2
  have ea := np_a x o G len cap i
  have et := np_t x o G len cap i
  have et0 := np_t0 x o G len cap i
  have ez := np_z x o G len cap i
  have ez0 := np_z0 x o G len cap i
  have k := np_k
  have hl3 : ∀ x' ∈ (chainOf (codeOf Try.f44)).take 3, ∀ c' ∈ loopsIn x', LoopOK Try.prog (npE 2) c' := noLoopsL_ok (by kernel_rfl)
  have hl4 : ∀ x' ∈ (chainOf (codeOf Try.f44)).drop 4, ∀ c' ∈ loopsIn x', LoopOK Try.prog (npE 2) c' := noLoopsL_ok (by kernel_rfl)
  have hlC : ∀ c' ∈ loopsIn npC, LoopOK Try.prog (npE 2) c' := noLoops (by kernel_rfl)
  generalize (chainOf (codeOf Try.f44)).drop 4 = D at ez ez0 k hl4
  generalize chainOf (codeOf Try.f44) = CC at ea k hl3 ⊢
  generalize npC = NC at et et0 k hlC
  have ei : 0 + Int.toNat (i : Int) = i := by omega
  have c1 : (decide ((0 : Int) ≤ (i : Int)) && decide ((i : Int) < (len : Int))) = true := by simp only [Bool.and_eq_true, decide_eq_true_eq]; omega
  have c2 : decide (0 + Int.toNat (i : Int) < cap) = true := decide_eq_true (by omega)
  -- what is told
  have ret : ∀ (v : AV) (b : Bool) (fr : List (Nat × AV)) (l : AM), Ox.Alike v (.bool b) → (b = true → x.ln [i] ≤ len ∧ (o.kd i ≠ 7 ∨ 2 ≤ x.ln [i])) → slotAt fr 4 = some v → FnPost Try.prog Try.f44 2 Q (.ret, ⟨fr, spM x o cap ++ l⟩) := fun v b fr l hv hb hs => by
    unfold FnPost
    rw [np_res]
    simp only [aresults, hs]
    have q : Q (.bool b, spM x o cap) := by
      cases b
      · exact hq 1 (decide_eq_true (.inl (by decide)))
      · exact hq 0 (decide_eq_true (.inr (hb rfl)))
    exact ⟨id, .bool b, _, q, by simpa [oneOf, ren] using hv, by simp [below], spM_sub x o cap (Nat.le_refl _)⟩
  have wk : ∀ (v : AV) (b : Bool) (fr : List (Nat × AV)) (l : AM) {K : St → Prop}, Ox.Alike v (.bool b) → (b = true → x.ln [i] ≤ len ∧ (o.kd i ≠ 7 ∨ 2 ≤ x.ln [i])) → slotAt fr 4 = some v → Weak (npE 2) (FnPost Try.prog Try.f44 2 Q) (.ret, ⟨fr, spM x o cap ++ l⟩) := fun v b fr l K hv hb hs =>
    ⟨id, ⟨[(4, .bool b)], spM x o cap⟩, SubSt.mk (by simp [SubFr, hs, ren, below]; exact hv) (spM_sub x o cap (l := l) (Nat.le_refl _)), by have := ret (.bool b) b [(4, .bool b)] [] (by simp) hb rfl; rwa [List.append_nil] at this⟩
  refine awpl_cut (E := npE 2) hE 3 hl3 (weak_keep [1, 2, 5, 14, 15, 16] (T.cut_eq ea (T.hchk c1 (T.hchk c2 (T.hite (fun hn => T.hret ⟨id, npS0 x o G len cap i (x.ad [0 + Int.toNat (i : Int)]), np_sub0 x o G len cap i _ (by simp [npS0, SubFr, slotAt, ren, below]), ?_⟩) (fun hn => T.hret ⟨id, npSt x o G len cap i (x.ln [0 + Int.toNat (i : Int)]) (x.cp [0 + Int.toNat (i : Int)]) (fun a => x.z [a, 0 + Int.toNat (i : Int)]) 0, np_sub x o G len cap i _ _ _ 0 (by simp [npSt, SubFr, slotAt, ren, below]), ?_⟩))))))
  · rw [k]
    have h0 : x.ln [i] = 0 := by rw [ei] at hn; exact (hw.nil _ hn).1
    generalize x.ad [0 + Int.toNat (i : Int)] = a
    refine awpl_block (awpl_one (loop_free (fun _ : Unit => npS0 x o G len cap i a) (fun _ => True) (fun _ => 0) (fun t ht => ?_) () trivial))
    refine code_sound hE _ hlC _ _ (round_keep [1, 2, 5, 14, 15, 16] (T.cut_eq (et0 a) (T.hchkT (T.hret ?_))))
    refine Round.any (.exit 0) (npS0 x o G len cap i a) id (np_sub0 x o G len cap i a (by simp [npS0, SubFr, slotAt, ren, below])) ?_
    show AWpL Try.prog (npE 2) D (npS0 x o G len cap i a) _
    refine awpl_end hE hl4 (weak_keep [4] (T.cut_eq (ez0 a) (T.hchk c1 (T.hchk c2 (T.hiteE (fun g1 => T.hret ?_) (fun g1 => T.hiteE (fun g2 => T.hret ?_) (fun g2 => T.hret ?_)))))))
    · rw [ei] at g1
      exact wk (K := fun _ => True) _ true _ _ (by simp) (fun _ => ⟨by omega, .inl (by omega)⟩) rfl
    · exact wk (K := fun _ => True) _ false _ _ (by simp) (fun h => by cases h) rfl
    · exact wk (K := fun _ => True) _ false _ _ (by simp) (fun h => by cases h) rfl
  · rw [k]
    have hlc := hw.le [0 + Int.toNat (i : Int)]
    have hml := hm (0 + Int.toNat (i : Int)) (by omega)
    have eL : x.ln [0 + Int.toNat (i : Int)] = x.ln [i] := by rw [ei]
    generalize x.ln [0 + Int.toNat (i : Int)] = L at hlc hml eL ⊢
    generalize x.cp [0 + Int.toNat (i : Int)] = C at hlc ⊢
    generalize (fun a => x.z [a, 0 + Int.toNat (i : Int)]) = z
    refine awpl_block (awpl_one (loop_free (npSt x o G len cap i L C z) (npI len z L) (fun t => L - t) (fun t ht => ?_) 0 ⟨Nat.zero_le _, fun j hj => absurd hj (Nat.not_lt_zero _)⟩))
    obtain ⟨ht1, ht2⟩ := ht
    refine code_sound hE _ hlC _ _ (round_keep [1, 2, 4, 5, 14, 15, 16] (T.cut_eq (et L C z t) ?_))
    have et' : 0 + Int.toNat (t : Int) = t := by omega
    have bx : FnPost Try.prog Try.f44 2 Q (.ret, ⟨[(4, .ff)], spM x o cap⟩) := by
      have := ret .ff false [(4, .ff)] [] (by simp) (fun h => by cases h) rfl
      rwa [List.append_nil] at this
    have bad : ∀ {Q2 : Ex × St → Prop}, Q2 (.ret, ⟨[(4, .ff)], spM x o cap⟩) → ∀ fr, slotAt fr 4 = some .ff → Round (npE 2) (npSt x o G len cap i L C z) (npI len z L) (fun t => L - t) (fun _ => .asm false .fail) Q2 t (.ret, ⟨fr, spM x o cap ++ [some (boxS G len cap), some (inB C z)]⟩) := fun hQ fr hs =>
      Round.any .ret ⟨[(4, .ff)], spM x o cap⟩ id (SubSt.mk (by simp [SubFr, hs, ren, below]) (spM_sub x o cap (Nat.le_refl _))) hQ
    refine T.hiteP (fun g => ?_) (fun g => T.hret ?_)
    · refine T.hchk (by simp only [Bool.and_eq_true, decide_eq_true_eq]; omega) (T.hchk (decide_eq_true (by omega)) (T.hiteP (fun g1 => T.hret (bad bx _ rfl)) (fun g1 => T.hiteP (fun g2 => T.hret (bad bx _ rfl)) (fun g2 => T.hiteE (fun g3 => T.hret (bad bx _ rfl)) (fun g3 => ?_)))))
      refine T.hchk (by simp only [Bool.and_eq_true, decide_eq_true_eq]; omega) (T.hneed IntRow.rows (T.hchk (decide_eq_true (by omega)) (T.hchk (decide_eq_true (by omega)) (T.hiteP (fun g4 => T.hret (bad bx _ rfl)) (fun g4 => T.hret ?_)))))
      have hwr : IntKind.wrap IntKind.i64 ((t : Int) + 1) = ((t + 1 : Nat) : Int) := by rw [IntWalk.i64_in _ (by omega)]; omega
      rw [et'] at g1 g2 g4
      rw [Int.toNat_natCast] at g4
      simp only [Nat.zero_add] at g4
      refine Round.go (t + 1) id ⟨by omega, fun j hj => ?_⟩ (by omega) (np_sub x o G len cap i L C z (t + 1) (by simp [npSt, SubFr, slotAt, ren, below, hwr])) any_ff
      rcases Nat.lt_or_ge j t with hjt | hjt
      · exact ht2 j hjt
      · have : j = t := by omega
        subst this
        refine ⟨by omega, fun j' hj' e => g4 ?_⟩
        exact (ixR_iff z (z j) j 0).2 ⟨j', Nat.zero_le _, by omega, e⟩
    · have : t = L := by omega
      subst this
      have hle := npI.le ⟨ht1, ht2⟩
      refine Round.any (.exit 0) (npSt x o G len cap i t C z t) id (np_sub x o G len cap i t C z t (by simp [npSt, SubFr, slotAt, ren, below])) ?_
      show AWpL Try.prog (npE 2) D (npSt x o G len cap i t C z t) _
      refine awpl_end hE hl4 (weak_keep [4] (T.cut_eq (ez t C z t) (T.hchk c1 (T.hchk c2 (T.hiteE (fun g1 => T.hret ?_) (fun g1 => T.hiteE (fun g2 => T.hret ?_) (fun g2 => T.hret ?_)))))))
      · rw [ei] at g1
        exact wk (K := fun _ => True) _ ((t : Int) == 0) _ _ (by simp) (fun _ => ⟨by omega, .inl (by omega)⟩) rfl
      · exact wk (K := fun _ => True) _ (decide ((t : Int) ≥ 2)) _ _ (by simp) (fun h => ⟨by omega, .inr (by have := of_decide_eq_true h; omega)⟩) rfl
      · rw [ei] at g2
        exact wk (K := fun _ => True) _ ((t : Int) == 1) _ _ (by simp) (fun _ => ⟨by omega, .inl g2⟩) rfl

def npS (x : FD) (o : OC) (G : Int) (len cap : Nat) : List AV → AM → T (AV × AM)
  | [.agg [.int .i64 G', .sl 1 0 8 0 len' cap'], .int .i64 i], m => .need (G' = G ∧ len' = len ∧ cap' = cap) (.need (spIn x o cap m) (.chk (decide (0 ≤ i ∧ i < len)) (lift [0, 1] m (spM x o cap) (npT x o len cap i.toNat))))
  | _, _ => .fail

theorem npS_ok (x : FD) (o : OC) (G : Int) (len cap : Nat) (h : spOK x len cap) (h12 : len ≤ 12) : SummOK Try.prog 44 (.eff (npS x o G len cap)) := by
  refine ⟨fun args w => Try.call44 args w, ?_⟩
  intro args m Q hq
  unfold npS at hq
  split at hq
  · rename_i G' len' cap' i
    obtain ⟨⟨rfl, rfl, rfl⟩, ⟨m0, m1⟩, hd, hq⟩ := hq
    have hd := of_decide_eq_true hd
    obtain ⟨j, rfl⟩ := Int.eq_ofNat_of_zero_le hd.1
    rw [Int.toNat_natCast] at hq
    have hsub : SubBlks 2 (Ox.out [0, 1] m.length) m 0 (spM x o cap') := ⟨⟨_, m0, x.ok⟩, ⟨_, m1, ops_ok rfl (Nat.succ_pos _)⟩, trivial⟩
    refine lift_ok (np_eff x o G' len' cap' j h (by omega) h12) [0, 1] rfl (by simp [AM.get_lt m0, AM.get_lt m1]) (Sub.ro hsub (spIn_ro (l := []) (fun _ _ h => by cases h))) (by simp [belowL, below, spA, spM, AV.scalar]) (by simp [renL, ren, spA, Ox.out]) Q hq
  · exact hq.elim

end Go.Proofs.Ytnfngaapjodpcaa
