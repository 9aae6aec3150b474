/-
  Layer 10: Keeps, Fans.
-/
import Derived.Test.YtbnijmoiaegopaaHC
namespace Go.Proofs.Ytbnijmoiaegopaa
open Go.Ox
set_option maxRecDepth 100000
set_option linter.unusedVariables false
set_option linter.unusedSimpArgs false

/-! ### Keeps -/

structure KE where
  a : Int
  x : Int
  v : Int
  b : Nat
def cnt (r b : Int) : Int := if r < b then 1 else 0
def kpB (x v : Int) : Blk := ⟨true, [.int .i64 x, .int .i64 v], 0, 0, fun _ => [], []⟩
def kpSt (k : KE) : St := ⟨[(0, .int .i64 k.a), (3, .ptr 0 0 0 0), (5, .int .i64 (cnt (restV k.v k.a) k.b)), (6, .int .i64 (cnt (restV k.x k.a) k.b)), (7, .int .i64 k.b)], [some (kpB k.x k.v)]⟩
def kpInv (k : KE) : Prop := 1 ≤ k.a ∧ k.a ≤ 100 ∧ (k.b : Int) ≤ k.a ∧ (-9223372036854775808 ≤ k.x ∧ k.x ≤ 9223372036854775807) ∧ (-9223372036854775808 ≤ k.v ∧ k.v ≤ 9223372036854775807)
def kpPick (st : St) : Option KE :=
  match slotAt st.fr 0, AM.get st.m 0 with
  | some (.int _ a), some b => match b.pre with
    | [.int _ x, .int _ v] => some ⟨a, x, v, 0⟩
    | _ => none
  | _, _ => none
def kpEnd (k : KE) : T (Ex × St) := .ret (.exit 0, ⟨[(0, .int .i64 k.a), (3, .ptr 0 0 0 0), (5, .int .i64 1), (6, .int .i64 1)], [some (kpB k.x k.v)]⟩)
noncomputable def kpE : Env := { laE Try.f7.ntmps with loop := fun k => if k = 6 then loopSumm 0 kpSt kpInv kpPick kpEnd else fun _ => .fail }

theorem kp_tree (a x v : Int) (b : Nat) : keepT [0, 3, 5, 6, 7] (acode Try.prog kpE (loopAt (codeOf Try.f7) 0) (kpSt ⟨a, x, v, b⟩)) = 
  T.ite (decide ((↑b : Int) < a))
    (T.ite (keV (2 : Int) a (↑b : Int) x v)
      (T.ite (keV (3 : Int) a (↑b : Int) x v)
        (T.ret
          (Ex.norm,
            St.mk [((0 : Nat), AV.int IntKind.i64 a), ((3 : Nat), AV.ptr (0 : Nat) (0 : Nat) (0 : Nat) (0 : Nat)), ((5 : Nat), AV.int IntKind.i64 (IntKind.wrap IntKind.i64 (cnt (restV v a) (↑b : Int) + (1 : Int)))), ((6 : Nat), AV.int IntKind.i64 (IntKind.wrap IntKind.i64 (cnt (restV x a) (↑b : Int) + (1 : Int)))), ((7 : Nat), AV.int IntKind.i64 (IntKind.wrap IntKind.i64 ((↑b : Int) + (1 : Int))))]
              [some (Blk.mk true [AV.int IntKind.i64 x, AV.int IntKind.i64 v] (0 : Nat) (0 : Nat) (fun x => []) [])]))
        (T.ret
          (Ex.norm,
            St.mk [((0 : Nat), AV.int IntKind.i64 a), ((3 : Nat), AV.ptr (0 : Nat) (0 : Nat) (0 : Nat) (0 : Nat)), ((5 : Nat), AV.int IntKind.i64 (IntKind.wrap IntKind.i64 (cnt (restV v a) (↑b : Int) + (1 : Int)))), ((6 : Nat), AV.int IntKind.i64 (cnt (restV x a) (↑b : Int))), ((7 : Nat), AV.int IntKind.i64 (IntKind.wrap IntKind.i64 ((↑b : Int) + (1 : Int))))]
              [some (Blk.mk true [AV.int IntKind.i64 x, AV.int IntKind.i64 v] (0 : Nat) (0 : Nat) (fun x => []) [])])))
      (T.ite (keV (3 : Int) a (↑b : Int) x v)
        (T.ret
          (Ex.norm,
            St.mk [((0 : Nat), AV.int IntKind.i64 a), ((3 : Nat), AV.ptr (0 : Nat) (0 : Nat) (0 : Nat) (0 : Nat)), ((5 : Nat), AV.int IntKind.i64 (cnt (restV v a) (↑b : Int))), ((6 : Nat), AV.int IntKind.i64 (IntKind.wrap IntKind.i64 (cnt (restV x a) (↑b : Int) + (1 : Int)))), ((7 : Nat), AV.int IntKind.i64 (IntKind.wrap IntKind.i64 ((↑b : Int) + (1 : Int))))]
              [some (Blk.mk true [AV.int IntKind.i64 x, AV.int IntKind.i64 v] (0 : Nat) (0 : Nat) (fun x => []) [])]))
        (T.ret
          (Ex.norm,
            St.mk [((0 : Nat), AV.int IntKind.i64 a), ((3 : Nat), AV.ptr (0 : Nat) (0 : Nat) (0 : Nat) (0 : Nat)), ((5 : Nat), AV.int IntKind.i64 (cnt (restV v a) (↑b : Int))), ((6 : Nat), AV.int IntKind.i64 (cnt (restV x a) (↑b : Int))), ((7 : Nat), AV.int IntKind.i64 (IntKind.wrap IntKind.i64 ((↑b : Int) + (1 : Int))))]
              [some (Blk.mk true [AV.int IntKind.i64 x, AV.int IntKind.i64 v] (0 : Nat) (0 : Nat) (fun x => []) [])]))))
    (T.ret
      (Ex.exit (0 : Nat), St.mk [((0 : Nat), AV.int IntKind.i64 a), ((3 : Nat), AV.ptr (0 : Nat) (0 : Nat) (0 : Nat) (0 : Nat)), ((5 : Nat), AV.int IntKind.i64 (cnt (restV v a) (↑b : Int))), ((6 : Nat), AV.int IntKind.i64 (cnt (restV x a) (↑b : Int))), ((7 : Nat), AV.int IntKind.i64 (↑b : Int))] [some (Blk.mk true [AV.int IntKind.i64 x, AV.int IntKind.i64 v] (0 : Nat) (0 : Nat) (fun x => []) [])])) := by
  kernel_rfl

theorem kp_fn (a x v : Int) : afn Try.prog kpE Try.f7 (codeOf Try.f7) [.int .i64 a, .agg [.int .i64 x, .int .i64 v]] [] = 
  T.ite (decide (a < (1 : Int))) (T.ret (AV.bool true, [some (Blk.mk true [AV.int IntKind.i64 x, AV.int IntKind.i64 v] (0 : Nat) (0 : Nat) (fun x => []) [])]))
    (T.ite (decide (a > (100 : Int))) (T.ret (AV.bool true, [some (Blk.mk true [AV.int IntKind.i64 x, AV.int IntKind.i64 v] (0 : Nat) (0 : Nat) (fun x => []) [])]))
      (T.need
        (∃ ρ, SubSt (0 : Nat) ρ (St.mk [((0 : Nat), AV.int IntKind.i64 a), ((3 : Nat), AV.ptr (0 : Nat) (0 : Nat) (0 : Nat) (0 : Nat)), ((5 : Nat), AV.int IntKind.i64 (0 : Int)), ((6 : Nat), AV.int IntKind.i64 (0 : Int)), ((7 : Nat), AV.int IntKind.i64 (0 : Int))] [some (Blk.mk true [AV.int IntKind.i64 x, AV.int IntKind.i64 v] (0 : Nat) (0 : Nat) (fun x => []) [])]) (kpSt (KE.mk a x v (0 : Nat))))
        (T.need (kpInv (KE.mk a x v (0 : Nat)))
          (T.ite true
            (T.ite true
              (T.ite (keV (2 : Int) a (0 : Int) x v == keV (3 : Int) a (0 : Int) v x)
                (T.ite (keV (1 : Int) a (0 : Int) x v == decide (v < a)) (T.ret (AV.bool true, [some (Blk.mk true [AV.int IntKind.i64 x, AV.int IntKind.i64 v] (0 : Nat) (0 : Nat) (fun x => []) []), some (Blk.mk true [AV.int IntKind.i64 v, AV.int IntKind.i64 x] (0 : Nat) (0 : Nat) (fun a => []) [])]))
                  (T.ret (AV.ff, [some (Blk.mk true [AV.int IntKind.i64 x, AV.int IntKind.i64 v] (0 : Nat) (0 : Nat) (fun x => []) []), some (Blk.mk true [AV.int IntKind.i64 v, AV.int IntKind.i64 x] (0 : Nat) (0 : Nat) (fun a => []) [])])))
                (T.ret (AV.ff, [some (Blk.mk true [AV.int IntKind.i64 x, AV.int IntKind.i64 v] (0 : Nat) (0 : Nat) (fun x => []) []), some (Blk.mk true [AV.int IntKind.i64 v, AV.int IntKind.i64 x] (0 : Nat) (0 : Nat) (fun a => []) [])])))
              (T.ret (AV.ff, [some (Blk.mk true [AV.int IntKind.i64 x, AV.int IntKind.i64 v] (0 : Nat) (0 : Nat) (fun x => []) []), some (Blk.mk true [AV.int IntKind.i64 v, AV.int IntKind.i64 x] (0 : Nat) (0 : Nat) (fun a => []) [])])))
            (T.ret (AV.ff, [some (Blk.mk true [AV.int IntKind.i64 x, AV.int IntKind.i64 v] (0 : Nat) (0 : Nat) (fun x => []) []), some (Blk.mk true [AV.int IntKind.i64 v, AV.int IntKind.i64 x] (0 : Nat) (0 : Nat) (fun a => []) [])])))))) := by
  kernel_rfl

theorem kp_blk {n : Nat} {ρ : Nat → Nat} {x v : Int} : BlkOK n ρ (kpB x v) (kpB x v) := ⟨fun h => h, by simp [kpB, LAlike, ren, below, AV.scalar], rfl, rfl, fun j hj => by simp [kpB] at hj, by simp [kpB, LAlike]⟩

theorem kp_sub {x v : Int} {m : AM} (h : m.get 0 = some (kpB x v)) : Sub 0 id m [some (kpB x v)] := Sub.ofId ⟨⟨_, h, kp_blk⟩, trivial⟩ (by simp)

theorem rest_range {v a : Int} (ha : 1 ≤ a) (h1 : -9223372036854775808 ≤ v ∧ v ≤ 9223372036854775807) (h2 : a ≤ 9223372036854775807) : 0 ≤ restV v a ∧ restV v a < a := by
  have : restV v a = v % a := tmod_rest ha h1 h2
  rw [this]
  exact ⟨Int.emod_nonneg v (by omega), Int.emod_lt_of_pos v (by omega)⟩

theorem kp_loop : LoopOK Try.prog kpE (loopAt (codeOf Try.f7) 0) := by
  refine loopSumm_ok (E := kpE) (laE_ok _) (noLoops (by kernel_rfl)) kpSt kpInv (fun x => x.a.toNat - x.b) kpPick kpEnd ?_ (by kernel_rfl)
  rintro ⟨a, x, v, b⟩ ⟨h1, h2, h3, hx, hv⟩ Q hq
  dsimp only at h1 h2 h3 hx hv
  have rv := rest_range h1 hv (by omega)
  have rx := rest_range h1 hx (by omega)
  refine round_keep [0, 3, 5, 6, 7] ?_
  rw [kp_tree]
  have e2 : keV 2 a b x v = (restV v a == b) := by simp [keV, h1]
  have e3 : keV 3 a b x v = (restV x a == b) := by simp [keV, h1]
  have hw : IntKind.wrap IntKind.i64 ((b : Int) + 1) = ((b + 1 : Nat) : Int) := by rw [IntWalk.i64_in _ (by omega)]; omega
  rw [e2, e3]
  have c1 : ∀ r : Int, r = b → IntKind.wrap IntKind.i64 (cnt r b + 1) = cnt r ((b + 1 : Nat) : Int) := fun r hr => by simp only [cnt, if_neg (show ¬ r < (b : Int) by omega), if_pos (show r < ((b + 1 : Nat) : Int) by omega)]; decide
  have c2 : ∀ r : Int, r ≠ b → cnt r b = cnt r ((b + 1 : Nat) : Int) := fun r hr => by
    by_cases hb : r < b
    · simp only [cnt, if_pos hb, if_pos (show r < ((b + 1 : Nat) : Int) by omega)]
    · simp only [cnt, if_neg hb, if_neg (show ¬ r < ((b + 1 : Nat) : Int) by omega)]
  refine T.hiteP (fun hb => ?_) (fun hb => ?_)
  · have go : ∀ p q : Int, p = cnt (restV v a) ((b + 1 : Nat) : Int) → q = cnt (restV x a) ((b + 1 : Nat) : Int) →
        Round kpE kpSt kpInv (fun x => x.a.toNat - x.b) kpEnd Q ⟨a, x, v, b⟩ (.norm, ⟨[(0, .int .i64 a), (3, .ptr 0 0 0 0), (5, .int .i64 p), (6, .int .i64 q), (7, .int .i64 (IntKind.wrap .i64 ((b : Int) + 1)))], [some (kpB x v)]⟩) := by
      intro p q hp hq'
      exact Round.go ⟨a, x, v, b + 1⟩ id ⟨h1, h2, by dsimp only; omega, hx, hv⟩ (by dsimp only; omega) (SubSt.mk (by simp [kpSt, SubFr, slotAt, ren, below, hw, hp, hq']) (kp_sub rfl)) hq
    refine T.hiteE (fun g => T.hiteE (fun g' => go _ _ (c1 _ g) (c1 _ g')) (fun g' => go _ _ (c1 _ g) (c2 _ g'))) (fun g => T.hiteE (fun g' => go _ _ (c2 _ g) (c1 _ g')) (fun g' => go _ _ (c2 _ g) (c2 _ g')))
  · have e : a = b := by omega
    have d1 : cnt (restV v a) b = 1 := if_pos (by omega)
    have d2 : cnt (restV x a) b = 1 := if_pos (by omega)
    exact Round.out id ⟨[(0, .int .i64 a), (3, .ptr 0 0 0 0), (5, .int .i64 1), (6, .int .i64 1)], [some (kpB x v)]⟩ (SubSt.mk (by simp [SubFr, slotAt, ren, below, d1, d2]) (kp_sub rfl)) hq

theorem ke_holds (a x v : Int) (hx : -9223372036854775808 ≤ x ∧ x ≤ 9223372036854775807) (hv : -9223372036854775808 ≤ v ∧ v ≤ 9223372036854775807) : (afn Try.prog kpE Try.f7 (codeOf Try.f7) [.int .i64 a, .agg [.int .i64 x, .int .i64 v]] []).holds fun r => r.1.yes = true := by
  rw [kp_fn]
  refine T.hiteP (fun _ => rfl) (fun h1 => T.hiteP (fun _ => rfl) (fun h2 => ?_))
  have rv := rest_range (v := v) (show 1 ≤ a by omega) hv (by omega)
  have rx := rest_range (v := x) (show 1 ≤ a by omega) hx (by omega)
  refine T.hneed ⟨id, SubSt.mk ?_ (kp_sub rfl)⟩ (T.hneed ⟨by dsimp only; omega, by dsimp only; omega, by dsimp only; omega, hx, hv⟩ (T.hite (fun _ => T.hite (fun _ => T.hite (fun _ => T.hite (fun _ => rfl) (fun h => ?_)) (fun h => ?_)) (fun h => by cases h)) (fun h => by cases h)))
  · have c0 : ∀ r : Int, 0 ≤ r → cnt r 0 = 0 := fun r hr => if_neg (by omega)
    simp [kpSt, SubFr, slotAt, ren, below, c0 _ rv.1, c0 _ rx.1]
  · simp [keV] at h
  · simp [keV, show 1 ≤ a by omega] at h

theorem ke_law : ∀ args m, ArgsAV [PK.one (CK.int IntKind.i64), PK.agg [CK.int IntKind.i64, CK.int IntKind.i64]] [] args m → Walks Try.prog Try.f7 (codeOf Try.f7) args m := by
  intro args m h
  obtain ⟨a, _, rfl, ha, h⟩ := args_int h
  obtain ⟨_, _, _, rfl, hc, h⟩ := args_agg h
  obtain ⟨x, _, rfl, hx, hc⟩ := cells_int hc
  obtain ⟨v, _, rfl, hv, hc⟩ := cells_int hc
  obtain ⟨rfl, rfl⟩ := cells_nil hc
  obtain ⟨rfl, rfl⟩ := args_nil h
  exact ⟨kpE, laE_ok _, oneLoop (by kernel_rfl) kp_loop, rfl, rfl, ke_holds a x v (bounds_i64 hx) (bounds_i64 hv)⟩

/-! ### Fans -/

structure FN where
  z : Bool
  b : Int
  v : Int
  n : Nat
  cap : Nat
  i : Nat
def fn0 (b v : Int) : St := ⟨[(1, .int .i64 b), (2, .int .i64 v), (7, .nils), (8, .int .i64 1)], []⟩
def fn1 (b v : Int) (n cap i : Nat) : St := ⟨[(1, .int .i64 b), (2, .int .i64 v), (7, .sl 0 0 1 0 n cap), (8, .int .i64 i)], [some (apRow .i64 (fanV v b) n cap)]⟩
def fnSt (x : FN) : St := match x.z with
  | true => fn0 x.b x.v
  | false => fn1 x.b x.v x.n x.cap x.i
def fnInv (x : FN) : Prop := x.n ≤ 4 ∧ x.n ≤ x.cap ∧ 1 ≤ x.i ∧ (x.z = true ∨ x.i ≤ x.n) ∧ (-9223372036854775808 ≤ x.b ∧ x.b ≤ 9223372036854775807)
def fnPick (st : St) : Option FN :=
  match slotAt st.fr 1, slotAt st.fr 2, slotAt st.fr 7 with
  | some (.int _ b), some (.int _ v), some .nils => some ⟨true, b, v, 0, 0, 1⟩
  | some (.int _ b), some (.int _ v), some (.sl _ _ _ _ n cap) => some ⟨false, b, v, n, cap, 1⟩
  | _, _, _ => none
def fnEnd (x : FN) : T (Ex × St) := .ret (.exit 0, ⟨[], []⟩)
noncomputable def fnE : Env := { laE Try.f8.ntmps with loop := fun k => if k = 7 then loopSumm 0 fnSt fnInv fnPick fnEnd else fun _ => .fail }

theorem fn_tree0 (b v : Int) : keepT [1, 2, 7, 8] (acode Try.prog fnE (loopAt (codeOf Try.f8) 0) (fn0 b v)) = 
  T.ite false T.fail (T.ret (Ex.exit (0 : Nat), St.mk [((1 : Nat), AV.int IntKind.i64 b), ((2 : Nat), AV.int IntKind.i64 v), ((7 : Nat), AV.nils), ((8 : Nat), AV.int IntKind.i64 (1 : Int))] [])) := by
  kernel_rfl

theorem fn_tree1 (b v : Int) (n cap i : Nat) : keepT [1, 2, 7, 8] (acode Try.prog fnE (loopAt (codeOf Try.f8) 0) (fn1 b v n cap i)) = 
  T.ite (decide ((↑i : Int) < (↑n : Int)))
    (T.chk (decide ((0 : Int) ≤ (↑i : Int)) && decide ((↑i : Int) < (↑n : Int)))
      (T.chk (decide ((0 : Nat) + Int.toNat (↑i : Int) < cap))
        (T.chk (decide ((0 : Int) ≤ IntKind.wrap IntKind.i64 ((↑i : Int) - (1 : Int))) && decide (IntKind.wrap IntKind.i64 ((↑i : Int) - (1 : Int)) < (↑n : Int)))
          (T.chk (decide ((0 : Nat) + Int.toNat (IntKind.wrap IntKind.i64 ((↑i : Int) - (1 : Int))) < cap))
            (T.ite (IntKind.wrap IntKind.i64 ((if (0 : Nat) + Int.toNat (↑i : Int) < n then fanV v b ((0 : Nat) + Int.toNat (↑i : Int)) else (0 : Int)) - if (0 : Nat) + Int.toNat (IntKind.wrap IntKind.i64 ((↑i : Int) - (1 : Int))) < n then fanV v b ((0 : Nat) + Int.toNat (IntKind.wrap IntKind.i64 ((↑i : Int) - (1 : Int)))) else (0 : Int)) != b)
              (T.ret (Ex.ret, St.mk [((1 : Nat), AV.int IntKind.i64 b), ((2 : Nat), AV.int IntKind.i64 v), ((7 : Nat), AV.sl (0 : Nat) (0 : Nat) (1 : Nat) (0 : Nat) n cap), ((8 : Nat), AV.int IntKind.i64 (↑i : Int))] [some (Blk.mk true [] (1 : Nat) cap (fun r => [AV.int IntKind.i64 (if r < n then fanV v b r else (0 : Int))]) [])]))
              (T.ret (Ex.norm, St.mk [((1 : Nat), AV.int IntKind.i64 b), ((2 : Nat), AV.int IntKind.i64 v), ((7 : Nat), AV.sl (0 : Nat) (0 : Nat) (1 : Nat) (0 : Nat) n cap), ((8 : Nat), AV.int IntKind.i64 (IntKind.wrap IntKind.i64 ((↑i : Int) + (1 : Int))))] [some (Blk.mk true [] (1 : Nat) cap (fun r => [AV.int IntKind.i64 (if r < n then fanV v b r else (0 : Int))]) [])])))))))
    (T.ret (Ex.exit (0 : Nat), St.mk [((1 : Nat), AV.int IntKind.i64 b), ((2 : Nat), AV.int IntKind.i64 v), ((7 : Nat), AV.sl (0 : Nat) (0 : Nat) (1 : Nat) (0 : Nat) n cap), ((8 : Nat), AV.int IntKind.i64 (↑i : Int))] [some (Blk.mk true [] (1 : Nat) cap (fun r => [AV.int IntKind.i64 (if r < n then fanV v b r else (0 : Int))]) [])])) := by
  kernel_rfl

theorem fn_fn (a b v : Int) : afn Try.prog fnE Try.f8 (codeOf Try.f8) [.int .i64 a, .int .i64 b, .int .i64 v] [] = 
  T.ite (decide (a < (0 : Int))) (T.ret (AV.bool true, []))
    (T.ite (decide (a > (4 : Int))) (T.ret (AV.bool true, []))
      (T.chk (decide ((0 : Int) ≤ a))
        (T.chk (decide (a ≤ (4 : Int)))
          (T.ite (decide ((0 : Int) < a))
            (T.all fun c =>
              T.asm (decide (Int.toNat a ≤ c))
                (T.ite ((↑(Int.toNat a) : Int) != a) (T.ret (AV.ff, [some (Blk.mk true [] (1 : Nat) c (fun j => [AV.int IntKind.i64 (if j < Int.toNat a then fanV v b j else (0 : Int))]) [])]))
                  (T.ite (decide (a > (0 : Int)))
                    (T.chk (decide ((0 : Int) ≤ (0 : Int)) && decide ((0 : Int) < (↑(Int.toNat a) : Int)))
                      (T.chk (decide ((0 : Nat) < c))
                        (T.ite ((if (0 : Nat) < Int.toNat a then fanV v b (0 : Nat) else (0 : Int)) != v) (T.ret (AV.ff, [some (Blk.mk true [] (1 : Nat) c (fun j => [AV.int IntKind.i64 (if j < Int.toNat a then fanV v b j else (0 : Int))]) [])]))
                          (T.need
                            (∃ ρ,
                              SubSt (0 : Nat) ρ (St.mk [((1 : Nat), AV.int IntKind.i64 b), ((2 : Nat), AV.int IntKind.i64 v), ((7 : Nat), AV.sl (0 : Nat) (0 : Nat) (1 : Nat) (0 : Nat) (Int.toNat a) c), ((8 : Nat), AV.int IntKind.i64 (1 : Int))] [some (Blk.mk true [] (1 : Nat) c (fun j => [AV.int IntKind.i64 (if j < Int.toNat a then fanV v b j else (0 : Int))]) [])])
                                (fnSt (FN.mk false b v (Int.toNat a) c (1 : Nat))))
                            (T.need (fnInv (FN.mk false b v (Int.toNat a) c (1 : Nat))) (T.ret (AV.bool true, [])))))))
                    (T.need
                      (∃ ρ,
                        SubSt (0 : Nat) ρ (St.mk [((1 : Nat), AV.int IntKind.i64 b), ((2 : Nat), AV.int IntKind.i64 v), ((7 : Nat), AV.sl (0 : Nat) (0 : Nat) (1 : Nat) (0 : Nat) (Int.toNat a) c), ((8 : Nat), AV.int IntKind.i64 (1 : Int))] [some (Blk.mk true [] (1 : Nat) c (fun j => [AV.int IntKind.i64 (if j < Int.toNat a then fanV v b j else (0 : Int))]) [])])
                          (fnSt (FN.mk false b v (Int.toNat a) c (1 : Nat))))
                      (T.need (fnInv (FN.mk false b v (Int.toNat a) c (1 : Nat))) (T.ret (AV.bool true, [])))))))
            (T.ite ((0 : Int) != a) (T.ret (AV.ff, []))
              (T.ite (decide (a > (0 : Int))) T.fail (T.need (∃ ρ, SubSt (0 : Nat) ρ (St.mk [((1 : Nat), AV.int IntKind.i64 b), ((2 : Nat), AV.int IntKind.i64 v), ((7 : Nat), AV.nils), ((8 : Nat), AV.int IntKind.i64 (1 : Int))] []) (fnSt (FN.mk true b v (0 : Nat) (0 : Nat) (1 : Nat)))) (T.need (fnInv (FN.mk true b v (0 : Nat) (0 : Nat) (1 : Nat))) (T.ret (AV.bool true, [])))))))))) := by
  kernel_rfl

theorem fanV_range {v b : Int} (hv : -9223372036854775808 ≤ v ∧ v ≤ 9223372036854775807) : ∀ i, -9223372036854775808 ≤ fanV v b i ∧ fanV v b i ≤ 9223372036854775807
  | 0 => hv
  | i + 1 => by simp only [fanV]; rw [IntKind.wrap_i64]; omega

theorem fn_loop : LoopOK Try.prog fnE (loopAt (codeOf Try.f8) 0) := by
  refine loopSumm_ok (E := fnE) (laE_ok _) (noLoops (by kernel_rfl)) fnSt fnInv (fun x => x.n - x.i) fnPick fnEnd ?_ (by kernel_rfl)
  rintro ⟨z, b, v, n, cap, i⟩ ⟨h1, h2, h3, h4, hb⟩ Q hq
  dsimp only at h1 h2 h3 h4 hb
  refine round_keep [1, 2, 7, 8] ?_
  have out : ∀ st, Round fnE fnSt fnInv (fun x => x.n - x.i) fnEnd Q ⟨z, b, v, n, cap, i⟩ (.exit 0, st) := fun st =>
    Round.out id ⟨[], []⟩ (SubSt.mk trivial (Sub.nil _ _)) hq
  cases z with
  | true =>
    rw [show fnSt ⟨true, b, v, n, cap, i⟩ = fn0 b v from rfl, fn_tree0]
    exact T.hite (fun h => by cases h) (fun _ => out _)
  | false =>
    have h4 : i ≤ n := by simpa using h4
    rw [show fnSt ⟨false, b, v, n, cap, i⟩ = fn1 b v n cap i from rfl, fn_tree1]
    have hw : IntKind.wrap IntKind.i64 ((i : Int) + 1) = ((i + 1 : Nat) : Int) := by rw [IntWalk.i64_in _ (by omega)]; omega
    have hw' : IntKind.wrap IntKind.i64 ((i : Int) - 1) = ((i - 1 : Nat) : Int) := by rw [IntWalk.i64_in _ (by omega)]; omega
    have t1 : Int.toNat (i : Int) = i := by omega
    have t2 : Int.toNat ((i - 1 : Nat) : Int) = i - 1 := by omega
    simp only [hw, hw', t1, t2, Nat.zero_add]
    refine T.hiteP (fun h => ?_) (fun _ => out _)
    have h : i < n := by omega
    rw [if_pos h, if_pos (show i - 1 < n by omega)]
    have e : IntKind.wrap .i64 (fanV v b i - fanV v b (i - 1)) = b := by
      obtain ⟨j, rfl⟩ : ∃ j, i = j + 1 := ⟨i - 1, by omega⟩
      simp only [Nat.add_sub_cancel, fanV]
      rw [IntKind.wrap_i64, IntKind.wrap_i64]
      omega
    rw [e]
    refine T.hchk (by simp; omega) (T.hchk (by simp; omega) (T.hchk (by simp; omega) (T.hchk (by simp; omega) (T.hiteN (fun h => absurd rfl h) (fun _ => ?_)))))
    exact Round.go ⟨false, b, v, n, cap, i + 1⟩ id ⟨h1, h2, by dsimp only; omega, .inr (by dsimp only; omega), hb⟩ (by dsimp only; omega) (SubSt.mk (by simp [fnSt, fn1, SubFr, slotAt, ren, below]) (subInts (Nat.zero_le _))) hq

theorem fn_law : ∀ args m, ArgsAV [PK.one (CK.int IntKind.i64), PK.one (CK.int IntKind.i64), PK.one (CK.int IntKind.i64)] [] args m → Walks Try.prog Try.f8 (codeOf Try.f8) args m := by
  intro args m h
  obtain ⟨a, _, rfl, ha, h⟩ := args_int h
  obtain ⟨b, _, rfl, hb, h⟩ := args_int h
  obtain ⟨v, _, rfl, hv, h⟩ := args_int h
  obtain ⟨rfl, rfl⟩ := args_nil h
  refine ⟨fnE, laE_ok _, oneLoop (by kernel_rfl) fn_loop, rfl, rfl, ?_⟩
  rw [fn_fn]
  refine T.hiteP (fun _ => rfl) (fun h1 => T.hiteP (fun _ => rfl) (fun h2 => T.hchkP (by omega) (T.hchkP (by omega) (T.hiteP (fun h3 => T.hall fun c => T.hasm fun hc => ?_) (fun h3 => ?_)))))
  · have hc : a.toNat ≤ c := by simpa using hc
    refine T.hiteN (fun h => absurd h (by omega)) (fun _ => T.hiteP (fun _ => T.hchk (by simp; omega) (T.hchkP (by omega) (T.hiteN (fun h => absurd h (by simp [fanV]; omega)) (fun _ => ?_)))) (fun h => absurd h (by omega)))
    exact T.hneed ⟨id, SubSt.mk (by simp [fnSt, fn1, SubFr, slotAt, ren, below]) (subInts (Nat.zero_le _))⟩ (T.hneed ⟨by dsimp only; omega, hc, Nat.le_refl _, .inr (by dsimp only; omega), bounds_i64 hb⟩ rfl)
  · have : a = 0 := by omega
    subst this
    refine T.hiteN (fun h => absurd rfl h) (fun _ => T.hiteP (fun h => absurd h (by omega)) (fun _ => ?_))
    exact T.hneed ⟨id, SubSt.mk (by simp [fnSt, fn0, SubFr, slotAt, ren, below]) (Sub.nil _ _)⟩ (T.hneed ⟨Nat.zero_le _, Nat.le_refl _, Nat.le_refl _, .inl rfl, bounds_i64 hb⟩ rfl)

end Go.Proofs.Ytbnijmoiaegopaa
