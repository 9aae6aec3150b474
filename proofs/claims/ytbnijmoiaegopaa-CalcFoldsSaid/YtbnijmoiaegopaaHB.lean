/-
  Layer 10: Fan, as the program and as the document have it.
-/
import Derived.Test.YtbnijmoiaegopaaHR
import Derived.Test.YtbnijmoiaegopaaHOxV
namespace Go.Proofs.Ytbnijmoiaegopaa
open Go.Ox
set_option maxRecDepth 100000
set_option linter.unusedVariables false
set_option linter.unusedSimpArgs false

def fanV (v b : Int) : Nat → Int
  | 0 => v
  | i + 1 => IntKind.wrap .i64 (fanV v b i + b)

structure FA where
  op : Int
  a : Int
  b : Int
  v : Int
  n : Nat
  i : Nat
  cap : Nat
def fanB (op a b : Int) : Blk := ⟨true, [.int .i64 op, .int .i64 a, .int .i64 b], 0, 0, fun _ => [], []⟩
def fa0 (op a b v : Int) (n : Nat) : St := ⟨[(1, .int .i64 v), (2, .ptr 0 0 0 0), (5, .nils), (8, .int .i64 n), (9, .int .i64 0)], [some (fanB op a b)]⟩
def fa1 (op a b v : Int) (n i cap : Nat) : St := ⟨[(1, .int .i64 (fanV v b i)), (2, .ptr 0 0 0 0), (5, .sl 1 0 1 0 i cap), (8, .int .i64 n), (9, .int .i64 i)], [some (fanB op a b), some (apRow .i64 (fanV v b) i cap)]⟩
def rf0 (op a b v : Int) : St := ⟨[(1, .int .i64 v), (2, .ptr 0 0 0 0), (5, .nils)], [some (fanB op a b)]⟩
def rf1 (op a b v : Int) (i cap : Nat) : St := ⟨[(1, .int .i64 (fanV v b i)), (2, .ptr 0 0 0 0), (5, .sl 1 0 1 0 i cap)], [some (fanB op a b), some (apRow .i64 (fanV v b) i cap)]⟩
def faSt (x : FA) : St := if x.i = 0 then fa0 x.op x.a x.b x.v x.n else fa1 x.op x.a x.b x.v x.n x.i x.cap
def rfSt (x : FA) : St := if x.i = 0 then rf0 x.op x.a x.b x.v else rf1 x.op x.a x.b x.v x.i x.cap
def faInv (x : FA) : Prop := x.n ≤ 4 ∧ x.i ≤ x.n ∧ (x.i = 0 ∨ x.i ≤ x.cap)
def rfInv (x : FA) : Prop := x.n ≤ 4 ∧ x.i ≤ x.n ∧ (x.i = 0 ∨ x.i ≤ x.cap) ∧ x.a = x.n
def faPick (st : St) : Option FA :=
  match slotAt st.fr 1, slotAt st.fr 8, AM.get st.m 0 with
  | some (.int _ v), some (.int _ n), some b => match b.pre with
    | [.int _ op, .int _ a, .int _ b] => some ⟨op, a, b, v, n.toNat, 0, 0⟩
    | _ => none
  | _, _, _ => none
def rfPick (st : St) : Option FA :=
  match slotAt st.fr 1, AM.get st.m 0 with
  | some (.int _ v), some b => match b.pre with
    | [.int _ op, .int _ a, .int _ b] => some ⟨op, a, b, v, a.toNat, 0, 0⟩
    | _ => none
  | _, _ => none
def faEnd (x : FA) : T (Ex × St) :=
  .ite (decide (0 < x.n)) (.all fun c => .asm (decide (x.n ≤ c)) (.ret (.exit 0, ⟨[(5, .sl 1 0 1 0 x.n c)], [some (fanB x.op x.a x.b), some (apRow .i64 (fanV x.v x.b) x.n c)]⟩)))
    (.ret (.exit 0, ⟨[(5, .nils)], [some (fanB x.op x.a x.b)]⟩))
noncomputable def faE : Env := { nt := 21, n0 := 0, fns := [], loop := fun k => if k = 3 then loopSumm 0 faSt faInv faPick faEnd else fun _ => .fail }
noncomputable def rfE : Env := { nt := 20, n0 := 0, fns := [], loop := fun k => if k = 2 then loopSumm 0 rfSt rfInv rfPick faEnd else fun _ => .fail }

theorem fa_tree0 (op a b v : Int) (n : Nat) : keepT [1, 2, 5, 8, 9] (acode Try.prog faE (loopAt (codeOf Try.f18) 0) (fa0 op a b v n)) = 
  T.ite (decide ((0 : Int) < (↑n : Int)))
    (T.chk (decide ((1 : Nat) ≤ (1 : Nat)))
      (T.ite false
        (T.ret
          (Ex.norm,
            St.mk [((1 : Nat), AV.int IntKind.i64 (IntKind.wrap IntKind.i64 (v + b))), ((2 : Nat), AV.ptr (0 : Nat) (0 : Nat) (0 : Nat) (0 : Nat)), ((5 : Nat), AV.nils), ((8 : Nat), AV.int IntKind.i64 (↑n : Int)), ((9 : Nat), AV.int IntKind.i64 (1 : Int))]
              [some (Blk.mk true [AV.int IntKind.i64 op, AV.int IntKind.i64 a, AV.int IntKind.i64 b] (0 : Nat) (0 : Nat) (fun x => []) []), some (Blk.mk true [] (1 : Nat) (1 : Nat) (fun i => [AV.int IntKind.i64 (List.getD [v] i (0 : Int))]) [])]))
        (T.chk true
          (T.all fun c =>
            T.asm (decide ((1 : Nat) ≤ c))
              (T.ret
                (Ex.norm,
                  St.mk [((1 : Nat), AV.int IntKind.i64 (IntKind.wrap IntKind.i64 (v + b))), ((2 : Nat), AV.ptr (0 : Nat) (0 : Nat) (0 : Nat) (0 : Nat)), ((5 : Nat), AV.sl (2 : Nat) (0 : Nat) (1 : Nat) (0 : Nat) (1 : Nat) c), ((8 : Nat), AV.int IntKind.i64 (↑n : Int)), ((9 : Nat), AV.int IntKind.i64 (1 : Int))]
                    [some (Blk.mk true [AV.int IntKind.i64 op, AV.int IntKind.i64 a, AV.int IntKind.i64 b] (0 : Nat) (0 : Nat) (fun x => []) []), some (Blk.mk true [] (1 : Nat) (1 : Nat) (fun i => [AV.int IntKind.i64 (List.getD [v] i (0 : Int))]) []),
                      some (Blk.mk true [] (1 : Nat) c (fun r => if r < (0 : Nat) then [] else if r < (1 : Nat) then List.map (fun c => Col.at c ((0 : Nat) + (r - (0 : Nat)))) ([] ++ [Col.ints IntKind.i64 [v]]) else AV.cells (AV.int IntKind.i64 (0 : Int))) [])]))))))
    (T.ret (Ex.exit (0 : Nat), St.mk [((1 : Nat), AV.int IntKind.i64 v), ((2 : Nat), AV.ptr (0 : Nat) (0 : Nat) (0 : Nat) (0 : Nat)), ((5 : Nat), AV.nils), ((8 : Nat), AV.int IntKind.i64 (↑n : Int)), ((9 : Nat), AV.int IntKind.i64 (0 : Int))] [some (Blk.mk true [AV.int IntKind.i64 op, AV.int IntKind.i64 a, AV.int IntKind.i64 b] (0 : Nat) (0 : Nat) (fun x => []) [])])) := by
  kernel_rfl

theorem fa_tree1 (op a b v : Int) (n i cap : Nat) : keepT [1, 2, 5, 8, 9] (acode Try.prog faE (loopAt (codeOf Try.f18) 0) (fa1 op a b v n i cap)) = 
  T.ite (decide ((↑i : Int) < (↑n : Int)))
    (T.chk (decide ((0 : Nat) + i ≤ cap))
      (T.chk (decide ((1 : Nat) ≤ (1 : Nat)))
        (T.ite (decide (i + (1 : Nat) ≤ cap))
          (T.chk (decide ((0 : Nat) + cap ≤ cap))
            (T.ret
              (Ex.norm,
                St.mk [((1 : Nat), AV.int IntKind.i64 (IntKind.wrap IntKind.i64 (fanV v b i + b))), ((2 : Nat), AV.ptr (0 : Nat) (0 : Nat) (0 : Nat) (0 : Nat)), ((5 : Nat), AV.sl (1 : Nat) (0 : Nat) (1 : Nat) (0 : Nat) (i + (1 : Nat)) cap), ((8 : Nat), AV.int IntKind.i64 (↑n : Int)), ((9 : Nat), AV.int IntKind.i64 (IntKind.wrap IntKind.i64 ((↑i : Int) + (1 : Int))))]
                  [some (Blk.mk true [AV.int IntKind.i64 op, AV.int IntKind.i64 a, AV.int IntKind.i64 b] (0 : Nat) (0 : Nat) (fun x => []) []),
                    some (Blk.mk true [] (1 : Nat) cap (fun r => if (0 : Nat) + i ≤ r ∧ r < (0 : Nat) + i + (1 : Nat) then List.map (fun c => Col.at c ((0 : Nat) + (r - ((0 : Nat) + i)))) ([] ++ [Col.ints IntKind.i64 [fanV v b i]]) else [AV.int IntKind.i64 (if r < i then fanV v b r else (0 : Int))]) []),
                    some (Blk.mk true [] (1 : Nat) (1 : Nat) (fun i_1 => [AV.int IntKind.i64 (List.getD [fanV v b i] i_1 (0 : Int))]) [])])))
          (T.chk (decide (i + (1 : Nat) ≤ (4294967296 : Nat)))
            (T.all fun c =>
              T.asm (decide (i + (1 : Nat) ≤ c))
                (T.ret
                  (Ex.norm,
                    St.mk [((1 : Nat), AV.int IntKind.i64 (IntKind.wrap IntKind.i64 (fanV v b i + b))), ((2 : Nat), AV.ptr (0 : Nat) (0 : Nat) (0 : Nat) (0 : Nat)), ((5 : Nat), AV.sl (3 : Nat) (0 : Nat) (1 : Nat) (0 : Nat) (i + (1 : Nat)) c), ((8 : Nat), AV.int IntKind.i64 (↑n : Int)), ((9 : Nat), AV.int IntKind.i64 (IntKind.wrap IntKind.i64 ((↑i : Int) + (1 : Int))))]
                      [some (Blk.mk true [AV.int IntKind.i64 op, AV.int IntKind.i64 a, AV.int IntKind.i64 b] (0 : Nat) (0 : Nat) (fun x => []) []), some (Blk.mk true [] (1 : Nat) cap (fun r => [AV.int IntKind.i64 (if r < i then fanV v b r else (0 : Int))]) []), some (Blk.mk true [] (1 : Nat) (1 : Nat) (fun i_1 => [AV.int IntKind.i64 (List.getD [fanV v b i] i_1 (0 : Int))]) []),
                        some (Blk.mk true [] (1 : Nat) c (fun r => if r < i then [AV.int IntKind.i64 (if (0 : Nat) + r < i then fanV v b ((0 : Nat) + r) else (0 : Int))] else if r < i + (1 : Nat) then List.map (fun c => Col.at c ((0 : Nat) + (r - i))) ([] ++ [Col.ints IntKind.i64 [fanV v b i]]) else AV.cells (AV.int IntKind.i64 (0 : Int))) [])])))))))
    (T.ret
      (Ex.exit (0 : Nat),
        St.mk [((1 : Nat), AV.int IntKind.i64 (fanV v b i)), ((2 : Nat), AV.ptr (0 : Nat) (0 : Nat) (0 : Nat) (0 : Nat)), ((5 : Nat), AV.sl (1 : Nat) (0 : Nat) (1 : Nat) (0 : Nat) i cap), ((8 : Nat), AV.int IntKind.i64 (↑n : Int)), ((9 : Nat), AV.int IntKind.i64 (↑i : Int))]
          [some (Blk.mk true [AV.int IntKind.i64 op, AV.int IntKind.i64 a, AV.int IntKind.i64 b] (0 : Nat) (0 : Nat) (fun x => []) []), some (Blk.mk true [] (1 : Nat) cap (fun r => [AV.int IntKind.i64 (if r < i then fanV v b r else (0 : Int))]) [])])) := by
  kernel_rfl

theorem rf_tree0 (op a b v : Int) : keepT [1, 2, 5] (acode Try.prog rfE (loopAt (codeOf Try.f19) 0) (rf0 op a b v)) = 
  T.ite (decide ((0 : Int) < a))
    (T.chk (decide ((1 : Nat) ≤ (1 : Nat)))
      (T.ite false
        (T.ret
          (Ex.norm,
            St.mk [((1 : Nat), AV.int IntKind.i64 (IntKind.wrap IntKind.i64 (v + b))), ((2 : Nat), AV.ptr (0 : Nat) (0 : Nat) (0 : Nat) (0 : Nat)), ((5 : Nat), AV.nils)]
              [some (Blk.mk true [AV.int IntKind.i64 op, AV.int IntKind.i64 a, AV.int IntKind.i64 b] (0 : Nat) (0 : Nat) (fun x => []) []), some (Blk.mk true [] (1 : Nat) (1 : Nat) (fun i => [AV.int IntKind.i64 (List.getD [v] i (0 : Int))]) [])]))
        (T.chk true
          (T.all fun c =>
            T.asm (decide ((1 : Nat) ≤ c))
              (T.ret
                (Ex.norm,
                  St.mk [((1 : Nat), AV.int IntKind.i64 (IntKind.wrap IntKind.i64 (v + b))), ((2 : Nat), AV.ptr (0 : Nat) (0 : Nat) (0 : Nat) (0 : Nat)), ((5 : Nat), AV.sl (2 : Nat) (0 : Nat) (1 : Nat) (0 : Nat) (1 : Nat) c)]
                    [some (Blk.mk true [AV.int IntKind.i64 op, AV.int IntKind.i64 a, AV.int IntKind.i64 b] (0 : Nat) (0 : Nat) (fun x => []) []), some (Blk.mk true [] (1 : Nat) (1 : Nat) (fun i => [AV.int IntKind.i64 (List.getD [v] i (0 : Int))]) []),
                      some (Blk.mk true [] (1 : Nat) c (fun r => if r < (0 : Nat) then [] else if r < (1 : Nat) then List.map (fun c => Col.at c ((0 : Nat) + (r - (0 : Nat)))) ([] ++ [Col.ints IntKind.i64 [v]]) else AV.cells (AV.int IntKind.i64 (0 : Int))) [])]))))))
    (T.ret (Ex.exit (0 : Nat), St.mk [((1 : Nat), AV.int IntKind.i64 v), ((2 : Nat), AV.ptr (0 : Nat) (0 : Nat) (0 : Nat) (0 : Nat)), ((5 : Nat), AV.nils)] [some (Blk.mk true [AV.int IntKind.i64 op, AV.int IntKind.i64 a, AV.int IntKind.i64 b] (0 : Nat) (0 : Nat) (fun x => []) [])])) := by
  kernel_rfl

theorem rf_tree1 (op a b v : Int) (i cap : Nat) : keepT [1, 2, 5] (acode Try.prog rfE (loopAt (codeOf Try.f19) 0) (rf1 op a b v i cap)) = 
  T.ite (decide ((↑i : Int) < a))
    (T.chk (decide ((0 : Nat) + i ≤ cap))
      (T.chk (decide ((1 : Nat) ≤ (1 : Nat)))
        (T.ite (decide (i + (1 : Nat) ≤ cap))
          (T.chk (decide ((0 : Nat) + cap ≤ cap))
            (T.ret
              (Ex.norm,
                St.mk [((1 : Nat), AV.int IntKind.i64 (IntKind.wrap IntKind.i64 (fanV v b i + b))), ((2 : Nat), AV.ptr (0 : Nat) (0 : Nat) (0 : Nat) (0 : Nat)), ((5 : Nat), AV.sl (1 : Nat) (0 : Nat) (1 : Nat) (0 : Nat) (i + (1 : Nat)) cap)]
                  [some (Blk.mk true [AV.int IntKind.i64 op, AV.int IntKind.i64 a, AV.int IntKind.i64 b] (0 : Nat) (0 : Nat) (fun x => []) []),
                    some (Blk.mk true [] (1 : Nat) cap (fun r => if (0 : Nat) + i ≤ r ∧ r < (0 : Nat) + i + (1 : Nat) then List.map (fun c => Col.at c ((0 : Nat) + (r - ((0 : Nat) + i)))) ([] ++ [Col.ints IntKind.i64 [fanV v b i]]) else [AV.int IntKind.i64 (if r < i then fanV v b r else (0 : Int))]) []),
                    some (Blk.mk true [] (1 : Nat) (1 : Nat) (fun i_1 => [AV.int IntKind.i64 (List.getD [fanV v b i] i_1 (0 : Int))]) [])])))
          (T.chk (decide (i + (1 : Nat) ≤ (4294967296 : Nat)))
            (T.all fun c =>
              T.asm (decide (i + (1 : Nat) ≤ c))
                (T.ret
                  (Ex.norm,
                    St.mk [((1 : Nat), AV.int IntKind.i64 (IntKind.wrap IntKind.i64 (fanV v b i + b))), ((2 : Nat), AV.ptr (0 : Nat) (0 : Nat) (0 : Nat) (0 : Nat)), ((5 : Nat), AV.sl (3 : Nat) (0 : Nat) (1 : Nat) (0 : Nat) (i + (1 : Nat)) c)]
                      [some (Blk.mk true [AV.int IntKind.i64 op, AV.int IntKind.i64 a, AV.int IntKind.i64 b] (0 : Nat) (0 : Nat) (fun x => []) []), some (Blk.mk true [] (1 : Nat) cap (fun r => [AV.int IntKind.i64 (if r < i then fanV v b r else (0 : Int))]) []), some (Blk.mk true [] (1 : Nat) (1 : Nat) (fun i_1 => [AV.int IntKind.i64 (List.getD [fanV v b i] i_1 (0 : Int))]) []),
                        some (Blk.mk true [] (1 : Nat) c (fun r => if r < i then [AV.int IntKind.i64 (if (0 : Nat) + r < i then fanV v b ((0 : Nat) + r) else (0 : Int))] else if r < i + (1 : Nat) then List.map (fun c => Col.at c ((0 : Nat) + (r - i))) ([] ++ [Col.ints IntKind.i64 [fanV v b i]]) else AV.cells (AV.int IntKind.i64 (0 : Int))) [])])))))))
    (T.ret
      (Ex.exit (0 : Nat),
        St.mk [((1 : Nat), AV.int IntKind.i64 (fanV v b i)), ((2 : Nat), AV.ptr (0 : Nat) (0 : Nat) (0 : Nat) (0 : Nat)), ((5 : Nat), AV.sl (1 : Nat) (0 : Nat) (1 : Nat) (0 : Nat) i cap)]
          [some (Blk.mk true [AV.int IntKind.i64 op, AV.int IntKind.i64 a, AV.int IntKind.i64 b] (0 : Nat) (0 : Nat) (fun x => []) []), some (Blk.mk true [] (1 : Nat) cap (fun r => [AV.int IntKind.i64 (if r < i then fanV v b r else (0 : Int))]) [])])) := by
  kernel_rfl

theorem fan_blk {n : Nat} {ρ : Nat → Nat} {op a b : Int} : BlkOK n ρ (fanB op a b) (fanB op a b) := ⟨fun h => h, by simp [fanB, LAlike, ren, below, AV.scalar], rfl, rfl, fun j hj => by simp [fanB] at hj, by simp [fanB, LAlike]⟩

theorem fan_sub {op a b : Int} {m : AM} (h : m.get 0 = some (fanB op a b)) : Sub 0 id m [some (fanB op a b)] := Sub.ofId ⟨⟨_, h, fan_blk⟩, trivial⟩ (by simp)

theorem fa_loop : LoopOK Try.prog faE (loopAt (codeOf Try.f18) 0) := by
  refine loopSumm_ok EnvOK.nil (noLoops (by kernel_rfl)) faSt faInv (fun x => x.n - x.i) faPick faEnd ?_ (by kernel_rfl)
  rintro ⟨op, a, b, v, n, i, cap⟩ ⟨h1, h2, h3⟩ Q hq
  dsimp only at h1 h2 h3
  refine round_keep [1, 2, 5, 8, 9] ?_
  by_cases hi0 : i = 0
  · subst hi0
    rw [show faSt ⟨op, a, b, v, n, 0, cap⟩ = fa0 op a b v n from rfl, fa_tree0]
    refine T.hiteP (fun h => ?_) (fun h => ?_)
    · have h : 0 < n := by omega
      refine T.hchk rfl (T.hite (fun h => by cases h) (fun _ => T.hchk rfl (T.hall fun c => T.hasm fun hc => ?_)))
      have hc : 1 ≤ c := by simpa using hc
      refine Round.go ⟨op, a, b, v, n, 1, c⟩ (fun x => if x = 1 then 2 else x) ⟨h1, by dsimp only; omega, .inr hc⟩ (by dsimp only; omega) (SubSt.mk ?_ (sub_one (Nat.zero_le _) (by omega) rfl fan_blk rfl (ap_first rfl))) hq
      simp [faSt, fa1, SubFr, slotAt, ren, below, fanV]
    · have h : ¬ 0 < n := by omega
      have := hq.2 (by simp; omega)
      exact Round.out id ⟨[(5, .nils)], [some (fanB op a b)]⟩ (SubSt.mk (by simp [SubFr, slotAt, ren, below]) (fan_sub rfl)) this
  · rw [show faSt ⟨op, a, b, v, n, i, cap⟩ = fa1 op a b v n i cap from by simp [faSt, hi0], fa_tree1]
    have h4 : i ≤ cap := by omega
    have hw : IntKind.wrap IntKind.i64 ((i : Int) + 1) = ((i + 1 : Nat) : Int) := by rw [IntWalk.i64_in _ (by omega)]; omega
    refine T.hiteP (fun h => ?_) (fun h => ?_)
    · have h : i < n := by omega
      refine T.hchk (by simp; omega) (T.hchk rfl (T.hiteP (fun hc => T.hchk (by simp) ?_) (fun hc => T.hchk (by simp; omega) (T.hall fun c => T.hasm fun hc => ?_))))
      · refine Round.go ⟨op, a, b, v, n, i + 1, cap⟩ (fun x => if x = 1 then 1 else x) ⟨h1, by dsimp only; omega, .inr (by dsimp only; omega)⟩ (by dsimp only; omega) (SubSt.mk ?_ (sub_one (Nat.zero_le _) (by omega) rfl fan_blk rfl (ap_in rfl))) hq
        simp [faSt, fa1, SubFr, slotAt, ren, below, fanV, hw]
      · have hc : i + 1 ≤ c := by simpa using hc
        refine Round.go ⟨op, a, b, v, n, i + 1, c⟩ (fun x => if x = 1 then 3 else x) ⟨h1, by dsimp only; omega, .inr (by dsimp only; omega)⟩ (by dsimp only; omega) (SubSt.mk ?_ (sub_one (Nat.zero_le _) (by omega) rfl fan_blk rfl (ap_grow rfl))) hq
        simp [faSt, fa1, SubFr, slotAt, ren, below, fanV, hw]
    · have e : n = i := by omega
      subst e
      have := hq.1 (by simp; omega) cap (by simp; omega)
      exact Round.out (fun x => if x = 1 then 1 else x) ⟨[(5, .sl 1 0 1 0 n cap)], [some (fanB op a b), some (apRow .i64 (fanV v b) n cap)]⟩ (SubSt.mk (by simp [SubFr, slotAt, ren, below]) (sub_one (Nat.zero_le _) (by omega) rfl fan_blk rfl ap_refl)) this

theorem rf_loop : LoopOK Try.prog rfE (loopAt (codeOf Try.f19) 0) := by
  refine loopSumm_ok EnvOK.nil (noLoops (by kernel_rfl)) rfSt rfInv (fun x => x.n - x.i) rfPick faEnd ?_ (by kernel_rfl)
  rintro ⟨op, a, b, v, n, i, cap⟩ ⟨h1, h2, h3, ha⟩ Q hq
  dsimp only at h1 h2 h3 ha
  subst ha
  refine round_keep [1, 2, 5] ?_
  by_cases hi0 : i = 0
  · subst hi0
    rw [show rfSt ⟨op, n, b, v, n, 0, cap⟩ = rf0 op n b v from rfl, rf_tree0]
    refine T.hiteP (fun h => ?_) (fun h => ?_)
    · have h : 0 < n := by omega
      refine T.hchk rfl (T.hite (fun h => by cases h) (fun _ => T.hchk rfl (T.hall fun c => T.hasm fun hc => ?_)))
      have hc : 1 ≤ c := by simpa using hc
      refine Round.go ⟨op, n, b, v, n, 1, c⟩ (fun x => if x = 1 then 2 else x) ⟨h1, by dsimp only; omega, .inr hc, rfl⟩ (by dsimp only; omega) (SubSt.mk ?_ (sub_one (Nat.zero_le _) (by omega) rfl fan_blk rfl (ap_first rfl))) hq
      simp [rfSt, rf1, SubFr, slotAt, ren, below, fanV]
    · have h : ¬ 0 < n := by omega
      have := hq.2 (by simp; omega)
      exact Round.out id ⟨[(5, .nils)], [some (fanB op n b)]⟩ (SubSt.mk (by simp [SubFr, slotAt, ren, below]) (fan_sub rfl)) this
  · rw [show rfSt ⟨op, n, b, v, n, i, cap⟩ = rf1 op n b v i cap from by simp [rfSt, hi0], rf_tree1]
    have h4 : i ≤ cap := by omega
    refine T.hiteP (fun h => ?_) (fun h => ?_)
    · have h : i < n := by omega
      refine T.hchk (by simp; omega) (T.hchk rfl (T.hiteP (fun hc => T.hchk (by simp) ?_) (fun hc => T.hchk (by simp; omega) (T.hall fun c => T.hasm fun hc => ?_))))
      · refine Round.go ⟨op, n, b, v, n, i + 1, cap⟩ (fun x => if x = 1 then 1 else x) ⟨h1, by dsimp only; omega, .inr (by dsimp only; omega), rfl⟩ (by dsimp only; omega) (SubSt.mk ?_ (sub_one (Nat.zero_le _) (by omega) rfl fan_blk rfl (ap_in rfl))) hq
        simp [rfSt, rf1, SubFr, slotAt, ren, below, fanV]
      · have hc : i + 1 ≤ c := by simpa using hc
        refine Round.go ⟨op, n, b, v, n, i + 1, c⟩ (fun x => if x = 1 then 3 else x) ⟨h1, by dsimp only; omega, .inr (by dsimp only; omega), rfl⟩ (by dsimp only; omega) (SubSt.mk ?_ (sub_one (Nat.zero_le _) (by omega) rfl fan_blk rfl (ap_grow rfl))) hq
        simp [rfSt, rf1, SubFr, slotAt, ren, below, fanV]
    · have e : n = i := by omega
      subst e
      have := hq.1 (by simp; omega) cap (by simp; omega)
      exact Round.out (fun x => if x = 1 then 1 else x) ⟨[(5, .sl 1 0 1 0 n cap)], [some (fanB op n b), some (apRow .i64 (fanV v b) n cap)]⟩ (SubSt.mk (by simp [SubFr, slotAt, ren, below]) (sub_one (Nat.zero_le _) (by omega) rfl fan_blk rfl ap_refl)) this

theorem fa_fn (op a b v : Int) : afn Try.prog faE Try.f18 (codeOf Try.f18) [fnV op a b, .int .i64 v] [] = 
  T.need
    (∃ ρ,
      SubSt (0 : Nat) ρ (St.mk [((1 : Nat), AV.int IntKind.i64 v), ((2 : Nat), AV.ptr (0 : Nat) (0 : Nat) (0 : Nat) (0 : Nat)), ((5 : Nat), AV.nils), ((8 : Nat), AV.int IntKind.i64 (if (4 : Int) < a then (4 : Int) else a)), ((9 : Nat), AV.int IntKind.i64 (0 : Int))] [some (Blk.mk true [AV.int IntKind.i64 op, AV.int IntKind.i64 a, AV.int IntKind.i64 b] (0 : Nat) (0 : Nat) (fun x => []) [])])
        (faSt (FA.mk op a b v (Int.toNat (if (4 : Int) < a then (4 : Int) else a)) (0 : Nat) (0 : Nat))))
    (T.need (faInv (FA.mk op a b v (Int.toNat (if (4 : Int) < a then (4 : Int) else a)) (0 : Nat) (0 : Nat)))
      (T.ite (decide ((0 : Nat) < Int.toNat (if (4 : Int) < a then (4 : Int) else a)))
        (T.all fun c =>
          T.asm (decide (Int.toNat (if (4 : Int) < a then (4 : Int) else a) ≤ c))
            (T.ret
              (AV.sl (1 : Nat) (0 : Nat) (1 : Nat) (0 : Nat) (Int.toNat (if (4 : Int) < a then (4 : Int) else a)) c,
                [some (Blk.mk true [AV.int IntKind.i64 op, AV.int IntKind.i64 a, AV.int IntKind.i64 b] (0 : Nat) (0 : Nat) (fun x => []) []), some (Blk.mk true [] (1 : Nat) c (fun r => [AV.int IntKind.i64 (if r < Int.toNat (if (4 : Int) < a then (4 : Int) else a) then fanV v b r else (0 : Int))]) [])])))
        (T.ret (AV.nils, [some (Blk.mk true [AV.int IntKind.i64 op, AV.int IntKind.i64 a, AV.int IntKind.i64 b] (0 : Nat) (0 : Nat) (fun x => []) [])])))) := by
  kernel_rfl

theorem rf_fan (op a b v : Int) : afn Try.prog rfE Try.f19 (codeOf Try.f19) [fnV op a b, .int .i64 v] [] = 
  T.need (∃ ρ, SubSt (0 : Nat) ρ (St.mk [((1 : Nat), AV.int IntKind.i64 v), ((2 : Nat), AV.ptr (0 : Nat) (0 : Nat) (0 : Nat) (0 : Nat)), ((5 : Nat), AV.nils)] [some (Blk.mk true [AV.int IntKind.i64 op, AV.int IntKind.i64 a, AV.int IntKind.i64 b] (0 : Nat) (0 : Nat) (fun x => []) [])]) (rfSt (FA.mk op a b v (Int.toNat a) (0 : Nat) (0 : Nat))))
    (T.need (rfInv (FA.mk op a b v (Int.toNat a) (0 : Nat) (0 : Nat)))
      (T.ite (decide ((0 : Nat) < Int.toNat a))
        (T.all fun c => T.asm (decide (Int.toNat a ≤ c)) (T.ret (AV.sl (1 : Nat) (0 : Nat) (1 : Nat) (0 : Nat) (Int.toNat a) c, [some (Blk.mk true [AV.int IntKind.i64 op, AV.int IntKind.i64 a, AV.int IntKind.i64 b] (0 : Nat) (0 : Nat) (fun x => []) []), some (Blk.mk true [] (1 : Nat) c (fun r => [AV.int IntKind.i64 (if r < Int.toNat a then fanV v b r else (0 : Int))]) [])])))
        (T.ret (AV.nils, [some (Blk.mk true [AV.int IntKind.i64 op, AV.int IntKind.i64 a, AV.int IntKind.i64 b] (0 : Nat) (0 : Nat) (fun x => []) [])])))) := by
  kernel_rfl

def fanT (a v b : Int) : T (AV × AM) :=
  .ite (decide (0 < a)) (.all fun c => .asm (decide (a.toNat ≤ c)) (.ret (.sl 0 0 1 0 a.toNat c, [some (apRow .i64 (fanV v b) a.toNat c)]))) (.ret (.nils, []))
def fanS : List AV → T (AV × AM)
  | [.agg [.int .i64 op, .int .i64 a, .int .i64 b], .int .i64 v] => .chk (decide (0 ≤ a)) (.chk (decide (a ≤ 4)) (fanT a v b))
  | _ => .fail

theorem fan_leaf {Q : AV × AM → Prop} {op a b v : Int} {n c : Nat} (h : Q (.sl 0 0 1 0 n c, [some (apRow .i64 (fanV v b) n c)])) : Leaf 0 Q (.sl 1 0 1 0 n c, [some (fanB op a b), some (apRow .i64 (fanV v b) n c)]) :=
  leaf_of (fun x => if x = 0 then 1 else x) h (by simp [ren]) (by simp [below]) (sub_none rfl rfl ap_refl)

theorem fa_ok : SummOK Try.prog 18 (.eff fun args m => lift [] m [] (fanS args)) := by
  refine eff_ok (fun args w => Try.call18 args w) fun args Q hq => ?_
  unfold fanS at hq ⊢
  split at hq
  · rename_i op a b v
    refine ⟨rfl, ?_⟩
    obtain ⟨h1, h2, -⟩ := hq
    have h1 : 0 ≤ a := by simpa using h1
    have h2 : a ≤ 4 := by simpa using h2
    refine fn_ok (E := faE) (c := codeOf Try.f18) Try.func18 rfl EnvOK.nil (oneLoop (by kernel_rfl) fa_loop) rfl rfl fun Q hq => ?_
    obtain ⟨-, -, hq⟩ := hq
    rw [show AV.agg [.int .i64 op, .int .i64 a, .int .i64 b] = fnV op a b from rfl, fa_fn]
    have e : (if (4 : Int) < a then (4 : Int) else a) = a := if_neg (by omega)
    simp only [e]
    refine T.hneed ⟨id, SubSt.mk (by simp [faSt, fa0, SubFr, slotAt, ren, below]; omega) (fan_sub rfl)⟩ (T.hneed ⟨by dsimp only; omega, Nat.zero_le _, .inl rfl⟩ (T.hiteP (fun h => T.hall fun c => T.hasm fun hc => ?_) (fun h => ?_)))
    · exact fan_leaf (hq.1 (by simp; omega) c hc)
    · exact leaf_of id (hq.2 (by simp; omega)) (by simp [ren]) (by simp [below]) (Sub.nil _ _)
  · exact hq.elim

theorem rfan_ok : SummOK Try.prog 19 (.eff fun args m => lift [] m [] (fanS args)) := by
  refine eff_ok (fun args w => Try.call19 args w) fun args Q hq => ?_
  unfold fanS at hq ⊢
  split at hq
  · rename_i op a b v
    refine ⟨rfl, ?_⟩
    obtain ⟨h1, h2, -⟩ := hq
    have h1 : 0 ≤ a := by simpa using h1
    have h2 : a ≤ 4 := by simpa using h2
    refine fn_ok (E := rfE) (c := codeOf Try.f19) Try.func19 rfl EnvOK.nil (oneLoop (by kernel_rfl) rf_loop) rfl rfl fun Q hq => ?_
    obtain ⟨-, -, hq⟩ := hq
    rw [show AV.agg [.int .i64 op, .int .i64 a, .int .i64 b] = fnV op a b from rfl, rf_fan]
    refine T.hneed ⟨id, SubSt.mk (by simp [rfSt, rf0, SubFr, slotAt, ren, below]) (fan_sub rfl)⟩ (T.hneed ⟨by dsimp only; omega, Nat.zero_le _, .inl rfl, by dsimp only; omega⟩ (T.hiteP (fun h => T.hall fun c => T.hasm fun hc => ?_) (fun h => ?_)))
    · exact fan_leaf (hq.1 (by simp; omega) c hc)
    · exact leaf_of id (hq.2 (by simp; omega)) (by simp [ren]) (by simp [below]) (Sub.nil _ _)
  · exact hq.elim

end Go.Proofs.Ytbnijmoiaegopaa
