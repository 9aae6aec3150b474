/-
  Layer 27: some.
-/
import Derived.Test.YtmhlkcboajgigaaHB
namespace Go.Proofs.Ytmhlkcboajgigaa
open Go.Ox
set_option maxRecDepth 100000
set_option linter.unusedVariables false
set_option linter.unusedSimpArgs false

structure SM where
  v : VW
  n : Nat
  i : Nat
def farV : AV := .fn (.func 17) [] [.ptr 0 0 0 0, .ptr 1 0 0 0, .ptr 2 0 0 0]
def smSt (x : SM) : St := ⟨[(1, farV), (6, .int .i64 x.n), (7, .int .i64 x.i)], x.v.mem⟩
def smInv (x : SM) : Prop := x.v.la ≤ x.v.ca ∧ x.v.lb ≤ x.v.cb ∧ x.n ≤ x.v.la ∧ x.n ≤ x.v.lb ∧ x.i ≤ x.n ∧ x.n ≤ 4611686018427387904
def smPick (st : St) : Option SM :=
  match slotAt st.fr 6, vwA st.m 0 1 2 with
  | some (.int _ n), some v => some ⟨v, n.toNat, 0⟩
  | _, _ => none
def anyR (v : VW) : Nat → Nat → Bool
  | _, 0 => false
  | i, k + 1 => faR v (i : Int) || anyR v (i + 1) k
def smEnd (x : SM) : T (Ex × St) := .ite (anyR x.v x.i (x.n - x.i)) (.ret (.ret, ⟨[(4, .tt)], x.v.mem⟩)) (.ret (.exit 0, ⟨[], x.v.mem⟩))
noncomputable def smE : Env := { nt := Try.f19.ntmps, n0 := 6, fns := [(17, .pure farS)], loop := fun k => if k = 2 then loopSumm 6 smSt smInv smPick smEnd else fun _ => .fail }

theorem sm_tree (v : VW) (n i : Nat) : keepT [1, 4, 6, 7] (acode Try.prog smE (loopAt (codeOf Try.f19) 0) (smSt ⟨v, n, i⟩)) = 
  T.ite (decide ((↑i : Int) < (↑n : Int)))
    (T.need
      (vwOK
        [some (Blk.mk false [AV.sl (3 : Nat) (0 : Nat) (1 : Nat) (0 : Nat) (VW.la v) (VW.ca v)] (0 : Nat) (0 : Nat) (fun x => []) [] none), some (Blk.mk false [AV.sl (4 : Nat) (0 : Nat) (1 : Nat) (0 : Nat) (VW.lb v) (VW.cb v)] (0 : Nat) (0 : Nat) (fun x => []) [] none), some (Blk.mk false [AV.ptr (5 : Nat) (0 : Nat) (0 : Nat) (0 : Nat)] (0 : Nat) (0 : Nat) (fun x => []) [] none),
          some (Blk.mk false [] (1 : Nat) (VW.ca v) (fun j => [AV.int IntKind.i64 (VW.f v j)]) [] none), some (Blk.mk false [] (1 : Nat) (VW.cb v) (fun j => [AV.int IntKind.i64 (VW.g v j)]) [] none), some (Blk.mk false [AV.int IntKind.i64 (VW.c v), AV.int IntKind.i64 (VW.s v), AV.int IntKind.i64 (VW.l v), AV.bool (VW.d v)] (0 : Nat) (0 : Nat) (fun x => []) [] none)]
        (0 : Nat) (1 : Nat) (2 : Nat) (VW.mk (3 : Nat) (4 : Nat) (5 : Nat) (VW.la v) (VW.ca v) (VW.lb v) (VW.cb v) (VW.f v) (VW.g v) (VW.c v) (VW.s v) (VW.l v) (VW.d v)))
      (T.chk (decide ((0 : Int) ≤ (↑i : Int)) && (decide ((↑i : Int) < (↑(VW.la v) : Int)) && decide ((↑i : Int) < (↑(VW.lb v) : Int))))
        (T.ite (faR (VW.mk (3 : Nat) (4 : Nat) (5 : Nat) (VW.la v) (VW.ca v) (VW.lb v) (VW.cb v) (VW.f v) (VW.g v) (VW.c v) (VW.s v) (VW.l v) (VW.d v)) (↑i : Int))
          (T.ret
            (Ex.ret,
              St.mk [((1 : Nat), AV.fn (Fn.func (17 : FuncId)) [] [AV.ptr (0 : Nat) (0 : Nat) (0 : Nat) (0 : Nat), AV.ptr (1 : Nat) (0 : Nat) (0 : Nat) (0 : Nat), AV.ptr (2 : Nat) (0 : Nat) (0 : Nat) (0 : Nat)]), ((4 : Nat), AV.tt), ((6 : Nat), AV.int IntKind.i64 (↑n : Int)), ((7 : Nat), AV.int IntKind.i64 (↑i : Int))]
                [some (Blk.mk false [AV.sl (3 : Nat) (0 : Nat) (1 : Nat) (0 : Nat) (VW.la v) (VW.ca v)] (0 : Nat) (0 : Nat) (fun x => []) [] none), some (Blk.mk false [AV.sl (4 : Nat) (0 : Nat) (1 : Nat) (0 : Nat) (VW.lb v) (VW.cb v)] (0 : Nat) (0 : Nat) (fun x => []) [] none), some (Blk.mk false [AV.ptr (5 : Nat) (0 : Nat) (0 : Nat) (0 : Nat)] (0 : Nat) (0 : Nat) (fun x => []) [] none),
                  some (Blk.mk false [] (1 : Nat) (VW.ca v) (fun j => [AV.int IntKind.i64 (VW.f v j)]) [] none), some (Blk.mk false [] (1 : Nat) (VW.cb v) (fun j => [AV.int IntKind.i64 (VW.g v j)]) [] none), some (Blk.mk false [AV.int IntKind.i64 (VW.c v), AV.int IntKind.i64 (VW.s v), AV.int IntKind.i64 (VW.l v), AV.bool (VW.d v)] (0 : Nat) (0 : Nat) (fun x => []) [] none)]))
          (T.ret
            (Ex.norm,
              St.mk [((1 : Nat), AV.fn (Fn.func (17 : FuncId)) [] [AV.ptr (0 : Nat) (0 : Nat) (0 : Nat) (0 : Nat), AV.ptr (1 : Nat) (0 : Nat) (0 : Nat) (0 : Nat), AV.ptr (2 : Nat) (0 : Nat) (0 : Nat) (0 : Nat)]), ((6 : Nat), AV.int IntKind.i64 (↑n : Int)), ((7 : Nat), AV.int IntKind.i64 (IntKind.wrap IntKind.i64 ((↑i : Int) + (1 : Int))))]
                [some (Blk.mk false [AV.sl (3 : Nat) (0 : Nat) (1 : Nat) (0 : Nat) (VW.la v) (VW.ca v)] (0 : Nat) (0 : Nat) (fun x => []) [] none), some (Blk.mk false [AV.sl (4 : Nat) (0 : Nat) (1 : Nat) (0 : Nat) (VW.lb v) (VW.cb v)] (0 : Nat) (0 : Nat) (fun x => []) [] none), some (Blk.mk false [AV.ptr (5 : Nat) (0 : Nat) (0 : Nat) (0 : Nat)] (0 : Nat) (0 : Nat) (fun x => []) [] none),
                  some (Blk.mk false [] (1 : Nat) (VW.ca v) (fun j => [AV.int IntKind.i64 (VW.f v j)]) [] none), some (Blk.mk false [] (1 : Nat) (VW.cb v) (fun j => [AV.int IntKind.i64 (VW.g v j)]) [] none), some (Blk.mk false [AV.int IntKind.i64 (VW.c v), AV.int IntKind.i64 (VW.s v), AV.int IntKind.i64 (VW.l v), AV.bool (VW.d v)] (0 : Nat) (0 : Nat) (fun x => []) [] none)])))))
    (T.ret
      (Ex.exit (0 : Nat),
        St.mk [((1 : Nat), AV.fn (Fn.func (17 : FuncId)) [] [AV.ptr (0 : Nat) (0 : Nat) (0 : Nat) (0 : Nat), AV.ptr (1 : Nat) (0 : Nat) (0 : Nat) (0 : Nat), AV.ptr (2 : Nat) (0 : Nat) (0 : Nat) (0 : Nat)]), ((6 : Nat), AV.int IntKind.i64 (↑n : Int)), ((7 : Nat), AV.int IntKind.i64 (↑i : Int))]
          [some (Blk.mk false [AV.sl (3 : Nat) (0 : Nat) (1 : Nat) (0 : Nat) (VW.la v) (VW.ca v)] (0 : Nat) (0 : Nat) (fun x => []) [] none), some (Blk.mk false [AV.sl (4 : Nat) (0 : Nat) (1 : Nat) (0 : Nat) (VW.lb v) (VW.cb v)] (0 : Nat) (0 : Nat) (fun x => []) [] none), some (Blk.mk false [AV.ptr (5 : Nat) (0 : Nat) (0 : Nat) (0 : Nat)] (0 : Nat) (0 : Nat) (fun x => []) [] none),
            some (Blk.mk false [] (1 : Nat) (VW.ca v) (fun j => [AV.int IntKind.i64 (VW.f v j)]) [] none), some (Blk.mk false [] (1 : Nat) (VW.cb v) (fun j => [AV.int IntKind.i64 (VW.g v j)]) [] none), some (Blk.mk false [AV.int IntKind.i64 (VW.c v), AV.int IntKind.i64 (VW.s v), AV.int IntKind.i64 (VW.l v), AV.bool (VW.d v)] (0 : Nat) (0 : Nat) (fun x => []) [] none)])) := by
  kernel_rfl

theorem sm_fn (v : VW) (n : Int) : afn Try.prog smE Try.f19 (codeOf Try.f19) [.int .i64 n, farV] v.mem = 
  T.need
    (∃ ρ,
      SubSt (6 : Nat) ρ
        (St.mk [((1 : Nat), AV.fn (Fn.func (17 : FuncId)) [] [AV.ptr (0 : Nat) (0 : Nat) (0 : Nat) (0 : Nat), AV.ptr (1 : Nat) (0 : Nat) (0 : Nat) (0 : Nat), AV.ptr (2 : Nat) (0 : Nat) (0 : Nat) (0 : Nat)]), ((6 : Nat), AV.int IntKind.i64 n), ((7 : Nat), AV.int IntKind.i64 (0 : Int))]
          [some (Blk.mk false [AV.sl (3 : Nat) (0 : Nat) (1 : Nat) (0 : Nat) (VW.la v) (VW.ca v)] (0 : Nat) (0 : Nat) (fun x => []) [] none), some (Blk.mk false [AV.sl (4 : Nat) (0 : Nat) (1 : Nat) (0 : Nat) (VW.lb v) (VW.cb v)] (0 : Nat) (0 : Nat) (fun x => []) [] none), some (Blk.mk false [AV.ptr (5 : Nat) (0 : Nat) (0 : Nat) (0 : Nat)] (0 : Nat) (0 : Nat) (fun x => []) [] none),
            some (Blk.mk false [] (1 : Nat) (VW.ca v) (fun j => [AV.int IntKind.i64 (VW.f v j)]) [] none), some (Blk.mk false [] (1 : Nat) (VW.cb v) (fun j => [AV.int IntKind.i64 (VW.g v j)]) [] none), some (Blk.mk false [AV.int IntKind.i64 (VW.c v), AV.int IntKind.i64 (VW.s v), AV.int IntKind.i64 (VW.l v), AV.bool (VW.d v)] (0 : Nat) (0 : Nat) (fun x => []) [] none)])
        (smSt (SM.mk (VW.mk (3 : Nat) (4 : Nat) (5 : Nat) (VW.la v) (VW.ca v) (VW.lb v) (VW.cb v) (VW.f v) (VW.g v) (VW.c v) (VW.s v) (VW.l v) (VW.d v)) (Int.toNat n) (0 : Nat))))
    (T.need (smInv (SM.mk (VW.mk (3 : Nat) (4 : Nat) (5 : Nat) (VW.la v) (VW.ca v) (VW.lb v) (VW.cb v) (VW.f v) (VW.g v) (VW.c v) (VW.s v) (VW.l v) (VW.d v)) (Int.toNat n) (0 : Nat)))
      (T.ite (anyR (VW.mk (3 : Nat) (4 : Nat) (5 : Nat) (VW.la v) (VW.ca v) (VW.lb v) (VW.cb v) (VW.f v) (VW.g v) (VW.c v) (VW.s v) (VW.l v) (VW.d v)) (0 : Nat) (Int.toNat n - (0 : Nat)))
        (T.ret
          (AV.tt,
            [some (Blk.mk false [AV.sl (3 : Nat) (0 : Nat) (1 : Nat) (0 : Nat) (VW.la v) (VW.ca v)] (0 : Nat) (0 : Nat) (fun x => []) [] none), some (Blk.mk false [AV.sl (4 : Nat) (0 : Nat) (1 : Nat) (0 : Nat) (VW.lb v) (VW.cb v)] (0 : Nat) (0 : Nat) (fun x => []) [] none), some (Blk.mk false [AV.ptr (5 : Nat) (0 : Nat) (0 : Nat) (0 : Nat)] (0 : Nat) (0 : Nat) (fun x => []) [] none),
              some (Blk.mk false [] (1 : Nat) (VW.ca v) (fun j => [AV.int IntKind.i64 (VW.f v j)]) [] none), some (Blk.mk false [] (1 : Nat) (VW.cb v) (fun j => [AV.int IntKind.i64 (VW.g v j)]) [] none), some (Blk.mk false [AV.int IntKind.i64 (VW.c v), AV.int IntKind.i64 (VW.s v), AV.int IntKind.i64 (VW.l v), AV.bool (VW.d v)] (0 : Nat) (0 : Nat) (fun x => []) [] none)]))
        (T.ret
          (AV.ff,
            [some (Blk.mk false [AV.sl (3 : Nat) (0 : Nat) (1 : Nat) (0 : Nat) (VW.la v) (VW.ca v)] (0 : Nat) (0 : Nat) (fun x => []) [] none), some (Blk.mk false [AV.sl (4 : Nat) (0 : Nat) (1 : Nat) (0 : Nat) (VW.lb v) (VW.cb v)] (0 : Nat) (0 : Nat) (fun x => []) [] none), some (Blk.mk false [AV.ptr (5 : Nat) (0 : Nat) (0 : Nat) (0 : Nat)] (0 : Nat) (0 : Nat) (fun x => []) [] none),
              some (Blk.mk false [] (1 : Nat) (VW.ca v) (fun j => [AV.int IntKind.i64 (VW.f v j)]) [] none), some (Blk.mk false [] (1 : Nat) (VW.cb v) (fun j => [AV.int IntKind.i64 (VW.g v j)]) [] none), some (Blk.mk false [AV.int IntKind.i64 (VW.c v), AV.int IntKind.i64 (VW.s v), AV.int IntKind.i64 (VW.l v), AV.bool (VW.d v)] (0 : Nat) (0 : Nat) (fun x => []) [] none)])))) := by
  kernel_rfl

theorem vw_ok (v : VW) (h1 : v.la ≤ v.ca) (h2 : v.lb ≤ v.cb) : vwOK v.mem 0 1 2 { v with i1 := 3, i2 := 4, i3 := 5 } := by
  refine ⟨h1, h2, by simp [VW.mem, faM], ⟨⟨_, rfl, ?_⟩, ⟨_, rfl, ?_⟩, ⟨_, rfl, ?_⟩, ⟨_, rfl, BlkOK.rows' (fun h => h) fun j _ => LAlike.ints rfl⟩, ⟨_, rfl, BlkOK.rows' (fun h => h) fun j _ => LAlike.ints rfl⟩, ⟨_, rfl, ?_⟩, trivial⟩⟩
  all_goals exact ⟨fun h => h, by simp [cellB, polR, LAlike, ren, below, AV.scalar, VW.mem, faM, out], rfl, rfl, (fun j hj => absurd hj (Nat.not_lt_zero _)), trivial, trivial⟩

theorem anyR_can (v : VW) (a b c : Nat) : ∀ k i, anyR { v with i1 := a, i2 := b, i3 := c } i k = anyR v i k
  | 0, _ => rfl
  | k + 1, i => by simp only [anyR, anyR_can v a b c k (i + 1)]; rfl
theorem anyR_iff (v : VW) : ∀ k i, anyR v i k = true ↔ ∃ j, i ≤ j ∧ j < i + k ∧ faR v (j : Int) = true
  | 0, i => by simp only [anyR, Bool.false_eq_true, false_iff]; rintro ⟨j, h1, h2, _⟩; omega
  | k + 1, i => by
    simp only [anyR, Bool.or_eq_true, anyR_iff v k (i + 1)]
    constructor
    · rintro (h | ⟨j, h1, h2, h3⟩)
      · exact ⟨i, Nat.le_refl _, by omega, h⟩
      · exact ⟨j, by omega, by omega, h3⟩
    · rintro ⟨j, h1, h2, h3⟩
      by_cases e : j = i
      · subst e; exact .inl h3
      · exact .inr ⟨j, by omega, by omega, h3⟩

theorem sm_loop : LoopOK Try.prog smE (loopAt (codeOf Try.f19) 0) := by
  refine loopSumm_ok (E := smE) (EnvOK.cons far_ok EnvOK.nil) (noLoops (by kernel_rfl)) smSt smInv (fun x => x.n - x.i) smPick smEnd ?_ (by kernel_rfl)
  rintro ⟨v, n, i⟩ ⟨h1, h2, h3, h4, h5, h6⟩ Q hq
  dsimp only at h1 h2 h3 h4 h5 h6
  refine round_keep [1, 4, 6, 7] ?_
  rw [sm_tree]
  obtain ⟨hq1, hq2⟩ := hq
  dsimp only at hq1 hq2
  have hh := fa_same v
  refine T.hiteP (fun hi => ?_) (fun hi => ?_)
  · have hi : i < n := by omega
    have e : n - i = (n - (i + 1)) + 1 := by omega
    rw [e] at hq1 hq2
    have hw : IntKind.wrap IntKind.i64 ((i : Int) + 1) = ((i + 1 : Nat) : Int) := by rw [IntWalk.i64_in _ (by omega)]; omega
    refine T.hneed (vw_ok v h1 h2) (T.hchk (by simp; omega) (T.hite (fun hx => ?_) (fun hx => ?_)))
    · have hx : faR v (i : Int) = true := hx
      exact Round.back id ⟨[(4, .tt)], v.mem⟩ (SubSt.mk (by simp [SubFr, slotAt, ren, below]) (by exact hh)) (hq1 (by simp [anyR, hx]))
    · have hx : faR v (i : Int) = false := hx
      refine Round.go ⟨v, n, i + 1⟩ id ⟨h1, h2, h3, h4, by dsimp only; omega, h6⟩ (by dsimp only; omega) (SubSt.mk (by simp [smSt, farV, SubFr, slotAt, ren, renL, below, belowL, hw, VW.mem, faM]) (by exact hh)) ⟨fun h => hq1 ?_, fun h => hq2 ?_⟩
      · simpa [anyR, hx] using h
      · simpa [anyR, hx] using h
  · exact Round.out id ⟨[], v.mem⟩ (SubSt.mk (by simp [SubFr]) (by exact hh)) (hq2 (by rw [show n - i = 0 from by omega]; rfl))

end Go.Proofs.Ytmhlkcboajgigaa
