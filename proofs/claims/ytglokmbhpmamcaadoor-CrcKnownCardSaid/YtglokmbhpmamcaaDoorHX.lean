/-
  Layer 2: Known.
-/
import Derived.Test.YtglokmbhpmamcaaDoorHV
namespace Go.Proofs.YtglokmbhpmamcaaDoor
open Go.Ox
set_option maxRecDepth 100000
set_option maxHeartbeats 4000000
set_option linter.unusedVariables false
set_option linter.unusedSimpArgs false

structure KN where
  k : Nat
  i : Nat
  c1 : Nat
  c2 : Nat
  has : Bool

def knSt (x : KN) : St :=
  match x.has with
  | false => ⟨[(1, .nils), (2, .nils), (3, .int .i64 x.i)], []⟩
  | true => ⟨[(1, .sl 0 0 1 0 x.k x.c1), (2, .sl 1 0 1 0 x.k x.c2), (3, .int .i64 x.i)], [some (apRow .u8 (fun _ => 0) x.k x.c1), some (apRow .u8 (fun _ => 255) x.k x.c2)]⟩

def knInv (x : KN) : Prop := x.i ≤ 256 ∧ x.k = min x.i 64 ∧ (x.has = false → x.i = 0) ∧ (x.has = true → 1 ≤ x.i ∧ x.k ≤ x.c1 ∧ x.k ≤ x.c2)

def knPick (st : St) : Option KN :=
  match slotAt st.fr 1 with
  | some .nils => some ⟨0, 0, 0, 0, false⟩
  | _ => none

def knEnd (x : KN) : T (Ex × St) := .ret (.exit 0, ⟨[], []⟩)

noncomputable def knB : List (Nat × Summ) := [(3, .pure lsS), (4, .pure lpS), (5, .pure ltS), (17, .eff rowS), (8, .pure yesS)]

theorem knB_ok : EnvOK Tryd.prog knB := EnvOK.cons ls_ok (EnvOK.cons lp_ok (EnvOK.cons lt_ok (EnvOK.cons row_ok (EnvOK.cons wk_ok EnvOK.nil))))

noncomputable def knE : Env := { nt := Tryd.f7.ntmps, n0 := 0, vec := true, fns := knB, loop := fun k => if k = 4 then loopSumm 0 knSt knInv knPick knEnd else fun _ => .fail }

theorem kn_tree0 (k i c1 c2 : Nat) : T.cut (keepT [0, 1, 2, 3] (acode Tryd.prog knE (loopAt (codeOf Tryd.f7) 0) (knSt ⟨k, 0, c1, c2, false⟩))) [1, 0, 1, 0, 0, 0, 0, 0, 0] = 
  @T.chk (Ex × St) true
    (T.chk true
      (T.need (IntRow IntKind.u8 (Blk.mk true [] (1 : Nat) (1 : Nat) (fun i => [AV.int IntKind.u8 (List.getD [IntKind.wrap IntKind.u8 (↑(0 : Nat) : Int)] i (0 : Int))]) []))
        (T.need (InB (intAt (Blk.mk true [] (1 : Nat) (1 : Nat) (fun i => [AV.int IntKind.u8 (List.getD [IntKind.wrap IntKind.u8 (↑(0 : Nat) : Int)] i (0 : Int))]) [])) (1 : Nat))
          (T.chk true
            (T.chk true
              (@T.chk (Ex × St) true
                (@T.chk (Ex × St) true
                  (T.chk true
                    (@T.chk (Ex × St) true
                      (T.chk true
                        (T.all fun c =>
                          T.asm (decide ((1 : Nat) ≤ c))
                            (T.chk true
                              (@T.chk (Ex × St) true
                                (T.chk true
                                  (T.all fun c_1 =>
                                    T.asm (decide ((1 : Nat) ≤ c_1))
                                      (T.need (IntRow IntKind.u8 (Blk.mk true [] (1 : Nat) c (fun r => if r < (0 : Nat) then [] else if r < (1 : Nat) then List.map (fun c => Col.at c ((0 : Nat) + (r - (0 : Nat)))) ([] ++ [Col.ints IntKind.u8 [(0 : Int)]]) else AV.cells (AV.int IntKind.u8 (0 : Int))) []))
                                        (T.need (InB (intAt (Blk.mk true [] (1 : Nat) c (fun r => if r < (0 : Nat) then [] else if r < (1 : Nat) then List.map (fun c => Col.at c ((0 : Nat) + (r - (0 : Nat)))) ([] ++ [Col.ints IntKind.u8 [(0 : Int)]]) else AV.cells (AV.int IntKind.u8 (0 : Int))) [])) c)
                                          (T.chk (decide ((1 : Nat) ≤ c))
                                            (T.chk true
                                              (@T.chk (Ex × St) true
                                                (T.need (IntRow IntKind.u8 (Blk.mk true [] (1 : Nat) c_1 (fun r => if r < (0 : Nat) then [] else if r < (1 : Nat) then List.map (fun c => Col.at c ((0 : Nat) + (r - (0 : Nat)))) ([] ++ [Col.ints IntKind.u8 [(255 : Int)]]) else AV.cells (AV.int IntKind.u8 (0 : Int))) []))
                                                  (T.need (InB (intAt (Blk.mk true [] (1 : Nat) c_1 (fun r => if r < (0 : Nat) then [] else if r < (1 : Nat) then List.map (fun c => Col.at c ((0 : Nat) + (r - (0 : Nat)))) ([] ++ [Col.ints IntKind.u8 [(255 : Int)]]) else AV.cells (AV.int IntKind.u8 (0 : Int))) [])) c_1)
                                                    (T.chk (decide ((1 : Nat) ≤ c_1))
                                                      (T.chk true
                                                        (@T.chk (Ex × St) true
                                                          (T.chk true
                                                            (T.chk true
                                                              (T.need (IntRow IntKind.u8 (Blk.mk true [] (1 : Nat) c_1 (fun r => if r < (0 : Nat) then [] else if r < (1 : Nat) then List.map (fun c => Col.at c ((0 : Nat) + (r - (0 : Nat)))) ([] ++ [Col.ints IntKind.u8 [(255 : Int)]]) else AV.cells (AV.int IntKind.u8 (0 : Int))) []))
                                                                (T.chk (decide ((1 : Nat) ≤ c_1))
                                                                  (T.chk (decide (c_1 ≤ c_1))
                                                                    (@T.chk (Ex × St) true
                                                                      (T.all fun c_2 =>
                                                                        T.asm (decide ((64 : Nat) ≤ c_2))
                                                                          (T.need (IntRow IntKind.u8 (Blk.mk true [] (1 : Nat) c (fun r => if r < (0 : Nat) then [] else if r < (1 : Nat) then List.map (fun c => Col.at c ((0 : Nat) + (r - (0 : Nat)))) ([] ++ [Col.ints IntKind.u8 [(0 : Int)]]) else AV.cells (AV.int IntKind.u8 (0 : Int))) []))
                                                                            (T.need (IntRow IntKind.u8 (Blk.mk true [] (1 : Nat) c_1 (fun r => if r < (0 : Nat) then [] else if r < (1 : Nat) then List.map (fun c => Col.at c ((0 : Nat) + (r - (0 : Nat)))) ([] ++ [Col.ints IntKind.u8 [(255 : Int)]]) else AV.cells (AV.int IntKind.u8 (0 : Int))) []))
                                                                              (T.need (IntRow IntKind.u8 (Blk.mk true [] (1 : Nat) c_2 (fun j => [AV.int IntKind.u8 (if j < (64 : Nat) then rwF j else (0 : Int))]) []))
                                                                                (T.need (InB (intAt (Blk.mk true [] (1 : Nat) c (fun r => if r < (0 : Nat) then [] else if r < (1 : Nat) then List.map (fun c => Col.at c ((0 : Nat) + (r - (0 : Nat)))) ([] ++ [Col.ints IntKind.u8 [(0 : Int)]]) else AV.cells (AV.int IntKind.u8 (0 : Int))) [])) c)
                                                                                  (T.need (InB (intAt (Blk.mk true [] (1 : Nat) c_1 (fun r => if r < (0 : Nat) then [] else if r < (1 : Nat) then List.map (fun c => Col.at c ((0 : Nat) + (r - (0 : Nat)))) ([] ++ [Col.ints IntKind.u8 [(255 : Int)]]) else AV.cells (AV.int IntKind.u8 (0 : Int))) [])) c_1)
                                                                                    (T.need (InB (intAt (Blk.mk true [] (1 : Nat) c_2 (fun j => [AV.int IntKind.u8 (if j < (64 : Nat) then rwF j else (0 : Int))]) [])) c_2)
                                                                                      (T.chk (decide ((1 : Nat) ≤ c))
                                                                                        (T.chk (decide (c ≤ c))
                                                                                          (T.chk (decide ((1 : Nat) ≤ c_1))
                                                                                            (T.chk (decide (c_1 ≤ c_1))
                                                                                              (T.chk (decide ((64 : Nat) ≤ c_2))
                                                                                                (T.chk (decide (c_2 ≤ c_2))
                                                                                                  (@T.chk (Ex × St) true
                                                                                                    (T.ret
                                                                                                      (Ex.norm,
                                                                                                        St.mk [((1 : Nat), AV.sl (2 : Nat) (0 : Nat) (1 : Nat) (0 : Nat) (1 : Nat) c), ((2 : Nat), AV.sl (4 : Nat) (0 : Nat) (1 : Nat) (0 : Nat) (1 : Nat) c_1), ((3 : Nat), AV.int IntKind.i64 (IntKind.wrap IntKind.i64 ((↑(0 : Nat) : Int) + (1 : Int))))]
                                                                                                          [some (Blk.mk true [] (1 : Nat) (1 : Nat) (fun i => [AV.int IntKind.u8 (List.getD [IntKind.wrap IntKind.u8 (↑(0 : Nat) : Int)] i (0 : Int))]) []), some (Blk.mk true [] (1 : Nat) (1 : Nat) (fun i => [AV.int IntKind.u8 (List.getD [(0 : Int)] i (0 : Int))]) []),
                                                                                                            some (Blk.mk true [] (1 : Nat) c (fun r => if r < (0 : Nat) then [] else if r < (1 : Nat) then List.map (fun c => Col.at c ((0 : Nat) + (r - (0 : Nat)))) ([] ++ [Col.ints IntKind.u8 [(0 : Int)]]) else AV.cells (AV.int IntKind.u8 (0 : Int))) []),
                                                                                                            some (Blk.mk true [] (1 : Nat) (1 : Nat) (fun i => [AV.int IntKind.u8 (List.getD [(255 : Int)] i (0 : Int))]) []),
                                                                                                            some (Blk.mk true [] (1 : Nat) c_1 (fun r => if r < (0 : Nat) then [] else if r < (1 : Nat) then List.map (fun c => Col.at c ((0 : Nat) + (r - (0 : Nat)))) ([] ++ [Col.ints IntKind.u8 [(255 : Int)]]) else AV.cells (AV.int IntKind.u8 (0 : Int))) []),
                                                                                                            some (Blk.mk true [] (1 : Nat) c_2 (fun j => [AV.int IntKind.u8 (if j < (64 : Nat) then rwF j else (0 : Int))]) [])]))))))))))))))))))))))))))))))))))))))))))))))) := by
  kernel_rfl

theorem kn_tree1 (k i c1 c2 : Nat) : T.cut (keepT [0, 1, 2, 3] (acode Tryd.prog knE (loopAt (codeOf Tryd.f7) 0) (knSt ⟨k, i, c1, c2, true⟩))) [2, 7, 0, 2, 4, 0, 0, 0, 0] = 
  T.ite (decide ((↑i : Int) < (256 : Int)))
    (T.chk true
      (T.need (IntRow IntKind.u8 (Blk.mk true [] (1 : Nat) (1 : Nat) (fun i_1 => [AV.int IntKind.u8 (List.getD [IntKind.wrap IntKind.u8 (↑i : Int)] i_1 (0 : Int))]) []))
        (T.need (InB (intAt (Blk.mk true [] (1 : Nat) (1 : Nat) (fun i_1 => [AV.int IntKind.u8 (List.getD [IntKind.wrap IntKind.u8 (↑i : Int)] i_1 (0 : Int))]) [])) (1 : Nat))
          (T.chk true
            (T.chk (decide ((0 : Int) ≤ bits BinOp.or IntKind.u32 (IntKind.wrap IntKind.u32 (IntKind.wrap IntKind.u32 (↑i : Int) * (2 : Int) ^ (24 : Nat))) (IntKind.wrap IntKind.u32 (↑i : Int))) && decide (bits BinOp.or IntKind.u32 (IntKind.wrap IntKind.u32 (IntKind.wrap IntKind.u32 (↑i : Int) * (2 : Int) ^ (24 : Nat))) (IntKind.wrap IntKind.u32 (↑i : Int)) < (4294967296 : Int)))
              (@T.chk (Ex × St) true
                (T.ite (decide ((↑i : Int) < (64 : Int)))
                  (T.chk true
                    (T.chk (decide ((0 : Nat) + c1 ≤ c1))
                      (T.chk (decide (k ≤ c1))
                        (T.chk (decide (k + (1 : Nat) ≤ (4294967296 : Nat)))
                          (T.all fun c =>
                            T.all fun c_1 =>
                              T.asm (decide (k + (1 : Nat) ≤ c))
                                (T.chk true
                                  (T.chk (decide ((0 : Nat) + c2 ≤ c2))
                                    (T.chk (decide (k ≤ c2))
                                      (T.chk (decide (k + (1 : Nat) ≤ (4294967296 : Nat)))
                                        (T.all fun c_2 =>
                                          T.all fun c_3 =>
                                            T.asm (decide (k + (1 : Nat) ≤ c_2))
                                              (T.need
                                                (IntRow IntKind.u8
                                                  (Blk.mk true [] (1 : Nat) c
                                                    (fun r =>
                                                      if r < k then [AV.int IntKind.u8 (if (0 : Nat) + r < k then (0 : Int) else (0 : Int))]
                                                      else if r < k + (1 : Nat) then List.map (fun c => Col.at c ((0 : Nat) + (r - k))) ([] ++ [Col.ints IntKind.u8 [(0 : Int)]]) else if c_1 = (0 : Nat) then AV.cells (AV.int IntKind.u8 (0 : Int)) else [AV.int IntKind.u8 (if (0 : Nat) + r < k then (0 : Int) else (0 : Int))])
                                                    []))
                                                (T.need
                                                  (InB
                                                    (intAt
                                                      (Blk.mk true [] (1 : Nat) c
                                                        (fun r =>
                                                          if r < k then [AV.int IntKind.u8 (if (0 : Nat) + r < k then (0 : Int) else (0 : Int))]
                                                          else if r < k + (1 : Nat) then List.map (fun c => Col.at c ((0 : Nat) + (r - k))) ([] ++ [Col.ints IntKind.u8 [(0 : Int)]]) else if c_1 = (0 : Nat) then AV.cells (AV.int IntKind.u8 (0 : Int)) else [AV.int IntKind.u8 (if (0 : Nat) + r < k then (0 : Int) else (0 : Int))])
                                                        []))
                                                    c)
                                                  (T.chk (decide (k + (1 : Nat) ≤ c))
                                                    (T.chk true
                                                      (@T.chk (Ex × St) true
                                                        (T.need
                                                          (IntRow IntKind.u8
                                                            (Blk.mk true [] (1 : Nat) c_2
                                                              (fun r =>
                                                                if r < k then [AV.int IntKind.u8 (if (0 : Nat) + r < k then (255 : Int) else (0 : Int))]
                                                                else if r < k + (1 : Nat) then List.map (fun c => Col.at c ((0 : Nat) + (r - k))) ([] ++ [Col.ints IntKind.u8 [(255 : Int)]]) else if c_3 = (0 : Nat) then AV.cells (AV.int IntKind.u8 (0 : Int)) else [AV.int IntKind.u8 (if (0 : Nat) + r < k then (255 : Int) else (0 : Int))])
                                                              []))
                                                          (T.need
                                                            (InB
                                                              (intAt
                                                                (Blk.mk true [] (1 : Nat) c_2
                                                                  (fun r =>
                                                                    if r < k then [AV.int IntKind.u8 (if (0 : Nat) + r < k then (255 : Int) else (0 : Int))]
                                                                    else if r < k + (1 : Nat) then List.map (fun c => Col.at c ((0 : Nat) + (r - k))) ([] ++ [Col.ints IntKind.u8 [(255 : Int)]]) else if c_3 = (0 : Nat) then AV.cells (AV.int IntKind.u8 (0 : Int)) else [AV.int IntKind.u8 (if (0 : Nat) + r < k then (255 : Int) else (0 : Int))])
                                                                  []))
                                                              c_2)
                                                            (T.chk (decide (k + (1 : Nat) ≤ c_2))
                                                              (T.chk true
                                                                (@T.chk (Ex × St) true
                                                                  (T.chk true
                                                                    (T.chk true
                                                                      (T.need
                                                                        (IntRow IntKind.u8
                                                                          (Blk.mk true [] (1 : Nat) c_2
                                                                            (fun r =>
                                                                              if r < k then [AV.int IntKind.u8 (if (0 : Nat) + r < k then (255 : Int) else (0 : Int))]
                                                                              else if r < k + (1 : Nat) then List.map (fun c => Col.at c ((0 : Nat) + (r - k))) ([] ++ [Col.ints IntKind.u8 [(255 : Int)]]) else if c_3 = (0 : Nat) then AV.cells (AV.int IntKind.u8 (0 : Int)) else [AV.int IntKind.u8 (if (0 : Nat) + r < k then (255 : Int) else (0 : Int))])
                                                                            []))
                                                                        (T.chk (decide (k + (1 : Nat) ≤ c_2))
                                                                          (T.chk (decide (c_2 ≤ c_2))
                                                                            (@T.chk (Ex × St) true
                                                                              (T.all fun c_4 =>
                                                                                T.asm (decide ((64 : Nat) ≤ c_4))
                                                                                  (T.need
                                                                                    (IntRow IntKind.u8
                                                                                      (Blk.mk true [] (1 : Nat) c
                                                                                        (fun r =>
                                                                                          if r < k then [AV.int IntKind.u8 (if (0 : Nat) + r < k then (0 : Int) else (0 : Int))]
                                                                                          else if r < k + (1 : Nat) then List.map (fun c => Col.at c ((0 : Nat) + (r - k))) ([] ++ [Col.ints IntKind.u8 [(0 : Int)]]) else if c_1 = (0 : Nat) then AV.cells (AV.int IntKind.u8 (0 : Int)) else [AV.int IntKind.u8 (if (0 : Nat) + r < k then (0 : Int) else (0 : Int))])
                                                                                        []))
                                                                                    (T.need
                                                                                      (IntRow IntKind.u8
                                                                                        (Blk.mk true [] (1 : Nat) c_2
                                                                                          (fun r =>
                                                                                            if r < k then [AV.int IntKind.u8 (if (0 : Nat) + r < k then (255 : Int) else (0 : Int))]
                                                                                            else if r < k + (1 : Nat) then List.map (fun c => Col.at c ((0 : Nat) + (r - k))) ([] ++ [Col.ints IntKind.u8 [(255 : Int)]]) else if c_3 = (0 : Nat) then AV.cells (AV.int IntKind.u8 (0 : Int)) else [AV.int IntKind.u8 (if (0 : Nat) + r < k then (255 : Int) else (0 : Int))])
                                                                                          []))
                                                                                      (T.need (IntRow IntKind.u8 (Blk.mk true [] (1 : Nat) c_4 (fun j => [AV.int IntKind.u8 (if j < (64 : Nat) then rwF j else (0 : Int))]) []))
                                                                                        (T.need
                                                                                          (InB
                                                                                            (intAt
                                                                                              (Blk.mk true [] (1 : Nat) c
                                                                                                (fun r =>
                                                                                                  if r < k then [AV.int IntKind.u8 (if (0 : Nat) + r < k then (0 : Int) else (0 : Int))]
                                                                                                  else if r < k + (1 : Nat) then List.map (fun c => Col.at c ((0 : Nat) + (r - k))) ([] ++ [Col.ints IntKind.u8 [(0 : Int)]]) else if c_1 = (0 : Nat) then AV.cells (AV.int IntKind.u8 (0 : Int)) else [AV.int IntKind.u8 (if (0 : Nat) + r < k then (0 : Int) else (0 : Int))])
                                                                                                []))
                                                                                            c)
                                                                                          (T.need
                                                                                            (InB
                                                                                              (intAt
                                                                                                (Blk.mk true [] (1 : Nat) c_2
                                                                                                  (fun r =>
                                                                                                    if r < k then [AV.int IntKind.u8 (if (0 : Nat) + r < k then (255 : Int) else (0 : Int))]
                                                                                                    else if r < k + (1 : Nat) then List.map (fun c => Col.at c ((0 : Nat) + (r - k))) ([] ++ [Col.ints IntKind.u8 [(255 : Int)]]) else if c_3 = (0 : Nat) then AV.cells (AV.int IntKind.u8 (0 : Int)) else [AV.int IntKind.u8 (if (0 : Nat) + r < k then (255 : Int) else (0 : Int))])
                                                                                                  []))
                                                                                              c_2)
                                                                                            (T.need (InB (intAt (Blk.mk true [] (1 : Nat) c_4 (fun j => [AV.int IntKind.u8 (if j < (64 : Nat) then rwF j else (0 : Int))]) [])) c_4)
                                                                                              (T.chk (decide (k + (1 : Nat) ≤ c))
                                                                                                (T.chk (decide (c ≤ c))
                                                                                                  (T.chk (decide (k + (1 : Nat) ≤ c_2))
                                                                                                    (T.chk (decide (c_2 ≤ c_2))
                                                                                                      (T.chk (decide ((64 : Nat) ≤ c_4))
                                                                                                        (T.chk (decide (c_4 ≤ c_4))
                                                                                                          (@T.chk (Ex × St) true
                                                                                                            (T.ret
                                                                                                              (Ex.norm,
                                                                                                                St.mk [((1 : Nat), AV.sl (4 : Nat) (0 : Nat) (1 : Nat) (0 : Nat) (k + (1 : Nat)) c), ((2 : Nat), AV.sl (6 : Nat) (0 : Nat) (1 : Nat) (0 : Nat) (k + (1 : Nat)) c_2), ((3 : Nat), AV.int IntKind.i64 (IntKind.wrap IntKind.i64 ((↑i : Int) + (1 : Int))))]
                                                                                                                  [none, none, some (Blk.mk true [] (1 : Nat) (1 : Nat) (fun i_1 => [AV.int IntKind.u8 (List.getD [IntKind.wrap IntKind.u8 (↑i : Int)] i_1 (0 : Int))]) []), some (Blk.mk true [] (1 : Nat) (1 : Nat) (fun i => [AV.int IntKind.u8 (List.getD [(0 : Int)] i (0 : Int))]) []),
                                                                                                                    some
                                                                                                                      (Blk.mk true [] (1 : Nat) c
                                                                                                                        (fun r =>
                                                                                                                          if r < k then [AV.int IntKind.u8 (if (0 : Nat) + r < k then (0 : Int) else (0 : Int))]
                                                                                                                          else if r < k + (1 : Nat) then List.map (fun c => Col.at c ((0 : Nat) + (r - k))) ([] ++ [Col.ints IntKind.u8 [(0 : Int)]]) else if c_1 = (0 : Nat) then AV.cells (AV.int IntKind.u8 (0 : Int)) else [AV.int IntKind.u8 (if (0 : Nat) + r < k then (0 : Int) else (0 : Int))])
                                                                                                                        []),
                                                                                                                    some (Blk.mk true [] (1 : Nat) (1 : Nat) (fun i => [AV.int IntKind.u8 (List.getD [(255 : Int)] i (0 : Int))]) []),
                                                                                                                    some
                                                                                                                      (Blk.mk true [] (1 : Nat) c_2
                                                                                                                        (fun r =>
                                                                                                                          if r < k then [AV.int IntKind.u8 (if (0 : Nat) + r < k then (255 : Int) else (0 : Int))]
                                                                                                                          else if r < k + (1 : Nat) then List.map (fun c => Col.at c ((0 : Nat) + (r - k))) ([] ++ [Col.ints IntKind.u8 [(255 : Int)]]) else if c_3 = (0 : Nat) then AV.cells (AV.int IntKind.u8 (0 : Int)) else [AV.int IntKind.u8 (if (0 : Nat) + r < k then (255 : Int) else (0 : Int))])
                                                                                                                        []),
                                                                                                                    some (Blk.mk true [] (1 : Nat) c_4 (fun j => [AV.int IntKind.u8 (if j < (64 : Nat) then rwF j else (0 : Int))]) [])]))))))))))))))))))))))))))))))))))))))))))
                  (T.ret
                    (Ex.norm,
                      St.mk [((1 : Nat), AV.sl (0 : Nat) (0 : Nat) (1 : Nat) (0 : Nat) k c1), ((2 : Nat), AV.sl (1 : Nat) (0 : Nat) (1 : Nat) (0 : Nat) k c2), ((3 : Nat), AV.int IntKind.i64 (IntKind.wrap IntKind.i64 ((↑i : Int) + (1 : Int))))]
                        [some (Blk.mk true [] (1 : Nat) c1 (fun r => [AV.int IntKind.u8 (if r < k then (0 : Int) else (0 : Int))]) []), some (Blk.mk true [] (1 : Nat) c2 (fun r => [AV.int IntKind.u8 (if r < k then (255 : Int) else (0 : Int))]) []), some (Blk.mk true [] (1 : Nat) (1 : Nat) (fun i_1 => [AV.int IntKind.u8 (List.getD [IntKind.wrap IntKind.u8 (↑i : Int)] i_1 (0 : Int))]) [])])))))))))
    (T.ret
      (Ex.exit (0 : Nat),
        St.mk [((1 : Nat), AV.sl (0 : Nat) (0 : Nat) (1 : Nat) (0 : Nat) k c1), ((2 : Nat), AV.sl (1 : Nat) (0 : Nat) (1 : Nat) (0 : Nat) k c2), ((3 : Nat), AV.int IntKind.i64 (↑i : Int))]
          [some (Blk.mk true [] (1 : Nat) c1 (fun r => [AV.int IntKind.u8 (if r < k then (0 : Int) else (0 : Int))]) []), some (Blk.mk true [] (1 : Nat) c2 (fun r => [AV.int IntKind.u8 (if r < k then (255 : Int) else (0 : Int))]) [])])) := by
  kernel_rfl

theorem kn_fn : afn Tryd.prog knE Tryd.f7 (codeOf Tryd.f7) [] [] = 
  T.need (∃ ρ, SubSt (0 : Nat) ρ (St.mk [((1 : Nat), AV.nils), ((2 : Nat), AV.nils), ((3 : Nat), AV.int IntKind.i64 (0 : Int))] []) (knSt (KN.mk (0 : Nat) (0 : Nat) (0 : Nat) (0 : Nat) false))) (T.need (knInv (KN.mk (0 : Nat) (0 : Nat) (0 : Nat) (0 : Nat) false)) (T.ret (AV.bool true, []))) := by
  kernel_rfl

theorem rowI {c : Nat} {g : Nat → List AV} {H : Nat → Int} (hg : ∀ r, g r = [AV.int .u8 (H r)]) : IntRow .u8 (Blk.mk true [] 1 c g []) ∧ ∀ r, intAt (Blk.mk true [] 1 c g []) r = H r := by
  have e : ∀ r, intAt (Blk.mk true [] 1 c g []) r = H r := fun r => by unfold intAt; dsimp only; rw [hg r]
  exact ⟨⟨rfl, rfl, rfl, fun j _ => by rw [e j]; exact hg j⟩, e⟩

theorem rowB {c n : Nat} {g : Nat → List AV} {H : Nat → Int} (hg : ∀ r, g r = [AV.int .u8 (H r)]) (hh : ∀ r, 0 ≤ H r ∧ H r < 256) : InB (intAt (Blk.mk true [] 1 c g [])) n :=
  fun d _ => by rw [(rowI hg).2 d]; exact hh d

theorem g_first (x : Int) (r : Nat) : (if r < 0 then [] else if r < 1 then List.map (fun c => Col.at c (0 + (r - 0))) ([] ++ [Col.ints .u8 [x]]) else AV.cells (AV.int .u8 0)) = [AV.int .u8 (if r < 1 then x else 0)] := by
  by_cases h : r = 0
  · subst h; simp [Col.at]
  · simp [h, AV.cells]

theorem g_in (x : Int) (k d r : Nat) : (if r < k then [AV.int .u8 (if 0 + r < k then x else 0)] else if r < k + 1 then List.map (fun c => Col.at c (0 + (r - k))) ([] ++ [Col.ints .u8 [x]]) else if d = 0 then AV.cells (AV.int .u8 0) else [AV.int .u8 (if 0 + r < k then x else 0)]) = [AV.int .u8 (if r < k + 1 then x else 0)] := by
  by_cases h : r < k
  · simp [h, show r < k + 1 by omega]
  · by_cases h' : r = k
    · subst h'; simp [Col.at]
    · by_cases hd : d = 0 <;> simp [hd, h, show ¬ r < k + 1 by omega, AV.cells]

theorem wrap8 (x : Int) : 0 ≤ IntKind.wrap .u8 x ∧ IntKind.wrap .u8 x < 256 := by rw [IntKind.wrap_u8]; omega

theorem one_in (x : Int) (r : Nat) : 0 ≤ List.getD [IntKind.wrap .u8 x] r 0 ∧ List.getD [IntKind.wrap .u8 x] r 0 < 256 := by
  cases r with
  | zero => exact wrap8 x
  | succ r => simp

theorem kn_loop : LoopOK Tryd.prog knE (loopAt (codeOf Tryd.f7) 0) := by
  refine loopSumm_ok (E := knE) knB_ok (noLoops (by kernel_rfl)) knSt knInv (fun x => 256 - x.i) knPick knEnd ?_ (by kernel_rfl)
  rintro ⟨k, i, c1, c2, has⟩ ⟨h1, h2, h3, h4⟩ Q hq
  dsimp only at h1 h2 h3 h4
  refine round_keep [0, 1, 2, 3] ?_
  have hw : IntKind.wrap IntKind.i64 ((i : Int) + 1) = ((i + 1 : Nat) : Int) := by rw [IntWalk.i64_in _ (by omega)]; omega
  have z0 : ∀ r n : Nat, 0 ≤ (if r < n then (0 : Int) else 0) ∧ (if r < n then (0 : Int) else 0) < 256 := fun r n => by split <;> omega
  have z255 : ∀ r n : Nat, 0 ≤ (if r < n then (255 : Int) else 0) ∧ (if r < n then (255 : Int) else 0) < 256 := fun r n => by split <;> omega
  have zrw : ∀ r : Nat, 0 ≤ (if r < 64 then rwF r else 0) ∧ (if r < 64 then rwF r else 0) < 256 := fun r => by
    split
    · exact wrap8 _
    · omega
  cases has with
  | false =>
    obtain rfl := h3 rfl
    refine T.cut_eq (kn_tree0 k 0 c1 c2) ?_
    repeat' first | with_reducible refine T.hneed rfl ?_ | with_reducible refine T.hneed trivial ?_ | with_reducible refine T.hall (fun _ => ?_) | with_reducible refine T.hasmP (fun _ => ?_) | with_reducible refine T.hasm (fun _ => ?_) | with_reducible refine T.hchkT ?_ | with_reducible refine T.hiteP (fun _ => ?_) (fun _ => ?_) | with_reducible refine T.hiteE (fun _ => ?_) (fun _ => ?_) | with_reducible refine T.hiteN (fun _ => ?_) (fun _ => ?_) | with_reducible refine T.hiteFP (fun _ => ?_) (fun _ => ?_) | with_reducible refine T.hiteFE (fun _ => ?_) (fun _ => ?_) | with_reducible refine T.hite (fun _ => ?_) (fun _ => ?_) | with_reducible refine T.hchk ?_ ?_ | with_reducible refine T.hneed ?_ ?_ | with_reducible refine T.hret ?_
    all_goals first
      | exact IntRow.rows
      | exact ints_row
      | exact (rowI (g_first 0)).1
      | exact (rowI (g_first 255)).1
      | exact rowB (fun r => rfl) (one_in _)
      | exact rowB (g_first 0) fun r => z0 r 1
      | exact rowB (g_first 255) fun r => z255 r 1
      | exact rowB (fun r => rfl) zrw
      | (simp only [Bool.and_eq_true, decide_eq_true_eq]; omega)
      | skip
    rename_i a1 ha1 a2 ha2 a3 ha3
    exact Round.go ⟨1, 1, a1, a2, true⟩ (rhoL [2, 4]) ⟨by dsimp only; omega, by dsimp only; omega, (fun h => by cases h), fun _ => ⟨Nat.le_refl _, ha1, ha2⟩⟩ (by dsimp only; omega) (subStL _ rfl rfl rfl (Nat.zero_le _) (by simp [knSt, SubFr, slotAt, ren, below, rhoL]; decide) ⟨⟨_, rfl, BlkOK.rows' (fun h => h) fun r _ => apv_first (F := fun _ => 0) rfl⟩, ⟨_, rfl, BlkOK.rows' (fun h => h) fun r _ => apv_first (F := fun _ => 255) rfl⟩, trivial⟩) hq
  | true =>
    obtain ⟨g1, g2, g3⟩ := h4 rfl
    refine T.cut_eq (kn_tree1 k i c1 c2) ?_
    have hor : 0 ≤ bits .or .u32 (IntKind.wrap .u32 (IntKind.wrap .u32 (i : Int) * 2 ^ 24)) (IntKind.wrap .u32 (i : Int)) ∧ bits .or .u32 (IntKind.wrap .u32 (IntKind.wrap .u32 (i : Int) * 2 ^ 24)) (IntKind.wrap .u32 (i : Int)) < 4294967296 := by
      rw [wrapW (IntKind.wrap .u32 (i : Int) * 2 ^ 24), wrapW (i : Int), orW]; exact iW_lt _
    revert hor
    generalize bits .or .u32 (IntKind.wrap .u32 (IntKind.wrap .u32 (i : Int) * 2 ^ 24)) (IntKind.wrap .u32 (i : Int)) = B
    intro hor
    repeat' first | with_reducible refine T.hneed rfl ?_ | with_reducible refine T.hneed trivial ?_ | with_reducible refine T.hall (fun _ => ?_) | with_reducible refine T.hasmP (fun _ => ?_) | with_reducible refine T.hasm (fun _ => ?_) | with_reducible refine T.hchkT ?_ | with_reducible refine T.hiteP (fun _ => ?_) (fun _ => ?_) | with_reducible refine T.hiteE (fun _ => ?_) (fun _ => ?_) | with_reducible refine T.hiteN (fun _ => ?_) (fun _ => ?_) | with_reducible refine T.hiteFP (fun _ => ?_) (fun _ => ?_) | with_reducible refine T.hiteFE (fun _ => ?_) (fun _ => ?_) | with_reducible refine T.hite (fun _ => ?_) (fun _ => ?_) | with_reducible refine T.hchk ?_ ?_ | with_reducible refine T.hneed ?_ ?_ | with_reducible refine T.hret ?_
    all_goals first
      | exact IntRow.rows
      | exact ints_row
      | exact (rowI (g_in 0 k _)).1
      | exact (rowI (g_in 255 k _)).1
      | exact rowB (fun r => rfl) (one_in _)
      | exact rowB (g_in 0 k _) fun r => z0 r (k + 1)
      | exact rowB (g_in 255 k _) fun r => z255 r (k + 1)
      | exact rowB (fun r => rfl) zrw
      | (simp only [Bool.and_eq_true, decide_eq_true_eq]; omega)
      | skip
    · rename_i hi1 hi2 a1 d1 ha1 a2 d2 ha2 a3 ha3
      have hk : k = i := by omega
      subst hk
      exact Round.go ⟨k + 1, k + 1, a1, a2, true⟩ (rhoL [4, 6]) ⟨by dsimp only; omega, by dsimp only; omega, (fun h => by cases h), fun _ => ⟨by dsimp only; omega, ha1, ha2⟩⟩ (by dsimp only; omega) (subStL _ rfl rfl rfl (Nat.zero_le _) (by simp [knSt, SubFr, slotAt, ren, below, rhoL, hw]) ⟨⟨_, rfl, BlkOK.rows' (fun h => h) fun r _ => apv_in (F := fun _ => 0) rfl⟩, ⟨_, rfl, BlkOK.rows' (fun h => h) fun r _ => apv_in (F := fun _ => 255) rfl⟩, trivial⟩) hq
    · rename_i hi1 hi2
      have hk : k = 64 := by omega
      subst hk
      exact Round.go ⟨64, i + 1, c1, c2, true⟩ (rhoL [0, 1]) ⟨by dsimp only; omega, by dsimp only; omega, (fun h => by cases h), fun _ => ⟨by dsimp only; omega, g2, g3⟩⟩ (by dsimp only; omega) (subStL _ rfl rfl rfl (Nat.zero_le _) (by simp [knSt, SubFr, slotAt, ren, below, rhoL, hw]) ⟨⟨_, rfl, ap_refl⟩, ⟨_, rfl, ap_refl⟩, trivial⟩) hq
    · refine Round.out (rhoL []) _ ?_ hq
      exact subStL _ rfl rfl rfl (Nat.le_refl _) (by simp [SubFr]) trivial

theorem kn_law : ∀ args m, ArgsAV [] [] args m → Walks Tryd.prog Tryd.f7 (codeOf Tryd.f7) args m := by
  intro args m h
  obtain ⟨rfl, rfl⟩ := args_nil h
  refine ⟨knE, knB_ok, oneLoop (by kernel_rfl) kn_loop, rfl, rfl, ?_⟩
  rw [kn_fn]
  exact T.hneed ⟨rhoL [], subStL _ rfl rfl rfl (Nat.le_refl _) (by simp [knSt, SubFr, slotAt, ren, below]) trivial⟩ (T.hneed ⟨by decide, by decide, fun _ => rfl, fun h => by cases h⟩ (T.hret rfl))

end Go.Proofs.YtglokmbhpmamcaaDoor
