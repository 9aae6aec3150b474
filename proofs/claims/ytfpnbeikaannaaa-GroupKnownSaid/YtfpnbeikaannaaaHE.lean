/-
  Layer 8: GroupParts.
-/
import Derived.Test.YtfpnbeikaannaaaHD
namespace Go.Proofs.Ytfpnbeikaannaaa
open Go.Ox
set_option maxRecDepth 100000
set_option linter.unusedVariables false
set_option linter.unusedSimpArgs false

/-- The inner loop: of tasks i, groups from b on. -/
def gp2 (x : Int × Int × Int × Int) : St :=
  ⟨[(0, .int .i64 x.1), (1, .int .i64 x.2.1), (8, .int .i64 x.2.2.1), (9, .int .i64 (loG x.2.2.1 x.1 x.2.1)), (10, .int .i64 (loG (x.2.2.1 + 1) x.1 x.2.1)), (11, .int .i64 x.2.2.2)], []⟩
def gp1 (x : Int × Int × Nat) : St :=
  ⟨[(0, .int .i64 x.1), (1, .int .i64 x.2.1), (7, .int .i64 (loG x.2.2 x.1 x.2.1)), (8, .int .i64 x.2.2)], []⟩
def gpOk (p g i : Int) : Prop := (1 ≤ g ∧ g ≤ 64) ∧ (1 ≤ p ∧ p ≤ g) ∧ (0 ≤ i ∧ i < p)
def gpI2 (x : Int × Int × Int × Int) : Prop := gpOk x.1 x.2.1 x.2.2.1 ∧ loG x.2.2.1 x.1 x.2.1 ≤ x.2.2.2 ∧ x.2.2.2 ≤ loG (x.2.2.1 + 1) x.1 x.2.1
def gpI1 (x : Int × Int × Nat) : Prop := (1 ≤ x.2.1 ∧ x.2.1 ≤ 64) ∧ (1 ≤ x.1 ∧ x.1 ≤ x.2.1) ∧ (x.2.2 : Int) ≤ x.1
def gpP2 (st : St) : Option (Int × Int × Int × Int) :=
  match slotAt st.fr 0, slotAt st.fr 1, slotAt st.fr 8, slotAt st.fr 11 with
  | some (.int _ p), some (.int _ g), some (.int _ i), some (.int _ b) => some (p, g, i, b)
  | _, _, _, _ => none
def gpP1 (st : St) : Option (Int × Int × Nat) :=
  match slotAt st.fr 0, slotAt st.fr 1 with
  | some (.int _ p), some (.int _ g) => some (p, g, 0)
  | _, _ => none
def gpX2 (x : Int × Int × Int × Int) : T (Ex × St) := .ret (.exit 2, ⟨[(0, .int .i64 x.1), (1, .int .i64 x.2.1), (8, .int .i64 x.2.2.1), (10, .int .i64 (loG (x.2.2.1 + 1) x.1 x.2.1))], []⟩)
def gpX1 (x : Int × Int × Nat) : T (Ex × St) := .ret (.exit 0, ⟨[(1, .int .i64 x.2.1), (7, .int .i64 x.2.1)], []⟩)
noncomputable def gpE : Env := { inE with nt := Try.f4.ntmps, loop := fun k => if k = 12 then loopSumm 0 gp2 gpI2 gpP2 gpX2 else if k = 6 then loopSumm 0 gp1 gpI1 gpP1 gpX1 else fun _ => .fail }

theorem gp2_tree (p g i b : Int) : keepT [0, 1, 8, 9, 10, 11] (acode Try.prog gpE (loopAt (loopAt (codeOf Try.f4) 0) 0) (gp2 (p, g, i, b))) = 
  T.ite (decide (b < loG (i + (1 : Int)) p g))
    (T.ite (owG b p g != i) (T.ret (Ex.ret, St.mk [((0 : Nat), AV.int IntKind.i64 p), ((1 : Nat), AV.int IntKind.i64 g), ((8 : Nat), AV.int IntKind.i64 i), ((9 : Nat), AV.int IntKind.i64 (loG i p g)), ((10 : Nat), AV.int IntKind.i64 (loG (i + (1 : Int)) p g)), ((11 : Nat), AV.int IntKind.i64 b)] []))
      (T.ret (Ex.norm, St.mk [((0 : Nat), AV.int IntKind.i64 p), ((1 : Nat), AV.int IntKind.i64 g), ((8 : Nat), AV.int IntKind.i64 i), ((9 : Nat), AV.int IntKind.i64 (loG i p g)), ((10 : Nat), AV.int IntKind.i64 (loG (i + (1 : Int)) p g)), ((11 : Nat), AV.int IntKind.i64 (IntKind.wrap IntKind.i64 (b + (1 : Int))))] [])))
    (T.ret (Ex.exit (2 : Nat), St.mk [((0 : Nat), AV.int IntKind.i64 p), ((1 : Nat), AV.int IntKind.i64 g), ((8 : Nat), AV.int IntKind.i64 i), ((9 : Nat), AV.int IntKind.i64 (loG i p g)), ((10 : Nat), AV.int IntKind.i64 (loG (i + (1 : Int)) p g)), ((11 : Nat), AV.int IntKind.i64 b)] [])) := by
  kernel_rfl

theorem gp1_tree (p g : Int) (i : Nat) : keepT [0, 1, 7, 8] (acode Try.prog gpE (loopAt (codeOf Try.f4) 0) (gp1 (p, g, i))) = 
  T.ite (decide ((↑i : Int) < p))
    (T.ite (rlo (↑i : Int) p g != loG (↑i : Int) p g) (T.ret (Ex.ret, St.mk [((0 : Nat), AV.int IntKind.i64 p), ((1 : Nat), AV.int IntKind.i64 g), ((7 : Nat), AV.int IntKind.i64 (loG (↑i : Int) p g)), ((8 : Nat), AV.int IntKind.i64 (↑i : Int))] []))
      (T.chk (!p == (0 : Int))
        (T.ite (decide (IntKind.wrap IntKind.i64 (rhi (↑i : Int) p g - rlo (↑i : Int) p g) < IntKind.wrap IntKind.i64 (Int.tdiv g p))) (T.ret (Ex.ret, St.mk [((0 : Nat), AV.int IntKind.i64 p), ((1 : Nat), AV.int IntKind.i64 g), ((7 : Nat), AV.int IntKind.i64 (loG (↑i : Int) p g)), ((8 : Nat), AV.int IntKind.i64 (↑i : Int))] []))
          (T.chk (!p == (0 : Int))
            (T.ite (decide (IntKind.wrap IntKind.i64 (rhi (↑i : Int) p g - rlo (↑i : Int) p g) > IntKind.wrap IntKind.i64 (IntKind.wrap IntKind.i64 (Int.tdiv g p) + (1 : Int)))) (T.ret (Ex.ret, St.mk [((0 : Nat), AV.int IntKind.i64 p), ((1 : Nat), AV.int IntKind.i64 g), ((7 : Nat), AV.int IntKind.i64 (loG (↑i : Int) p g)), ((8 : Nat), AV.int IntKind.i64 (↑i : Int))] []))
              (T.ite (decide (rhi (↑i : Int) p g ≤ rlo (↑i : Int) p g)) (T.ret (Ex.ret, St.mk [((0 : Nat), AV.int IntKind.i64 p), ((1 : Nat), AV.int IntKind.i64 g), ((7 : Nat), AV.int IntKind.i64 (loG (↑i : Int) p g)), ((8 : Nat), AV.int IntKind.i64 (↑i : Int))] []))
                (T.need (∃ ρ, SubSt (0 : Nat) ρ (St.mk [((0 : Nat), AV.int IntKind.i64 p), ((1 : Nat), AV.int IntKind.i64 g), ((8 : Nat), AV.int IntKind.i64 (↑i : Int)), ((9 : Nat), AV.int IntKind.i64 (rlo (↑i : Int) p g)), ((10 : Nat), AV.int IntKind.i64 (rhi (↑i : Int) p g)), ((11 : Nat), AV.int IntKind.i64 (rlo (↑i : Int) p g))] []) (gp2 (p, g, (↑i : Int), rlo (↑i : Int) p g)))
                  (T.need (gpI2 (p, g, (↑i : Int), rlo (↑i : Int) p g)) (T.ret (Ex.norm, St.mk [((0 : Nat), AV.int IntKind.i64 p), ((1 : Nat), AV.int IntKind.i64 g), ((7 : Nat), AV.int IntKind.i64 (loG ((↑i : Int) + (1 : Int)) p g)), ((8 : Nat), AV.int IntKind.i64 (IntKind.wrap IntKind.i64 ((↑i : Int) + (1 : Int))))] []))))))))))
    (T.ret (Ex.exit (0 : Nat), St.mk [((0 : Nat), AV.int IntKind.i64 p), ((1 : Nat), AV.int IntKind.i64 g), ((7 : Nat), AV.int IntKind.i64 (loG (↑i : Int) p g)), ((8 : Nat), AV.int IntKind.i64 (↑i : Int))] [])) := by
  kernel_rfl

theorem gp_fn (p g : Int) : afn Try.prog gpE Try.f4 (codeOf Try.f4) [.int .i64 p, .int .i64 g] [] = 
  T.ite (decide (g < (1 : Int))) (T.ite (rlo (0 : Int) p g == (0 : Int)) (T.ite (rhi (0 : Int) p g == (0 : Int)) (T.ret (AV.bool true, [])) (T.ret (AV.ff, []))) (T.ret (AV.ff, [])))
    (T.ite (decide (g > (64 : Int))) (T.ite (rlo (0 : Int) p g == (0 : Int)) (T.ite (rhi (0 : Int) p g == (0 : Int)) (T.ret (AV.bool true, [])) (T.ret (AV.ff, []))) (T.ret (AV.ff, [])))
      (T.ite (decide (p < (1 : Int))) (T.ite (rlo (0 : Int) p g == (0 : Int)) (T.ite (rhi (0 : Int) p g == (0 : Int)) (T.ret (AV.bool true, [])) (T.ret (AV.ff, []))) (T.ret (AV.ff, [])))
        (T.ite (decide (p > g)) (T.ite (rlo (0 : Int) p g == (0 : Int)) (T.ite (rhi (0 : Int) p g == (0 : Int)) (T.ret (AV.bool true, [])) (T.ret (AV.ff, []))) (T.ret (AV.ff, [])))
          (T.need (∃ ρ, SubSt (0 : Nat) ρ (St.mk [((0 : Nat), AV.int IntKind.i64 p), ((1 : Nat), AV.int IntKind.i64 g), ((7 : Nat), AV.int IntKind.i64 (0 : Int)), ((8 : Nat), AV.int IntKind.i64 (0 : Int))] []) (gp1 (p, g, (0 : Nat)))) (T.need (gpI1 (p, g, (0 : Nat))) (T.ite (g == g) (T.ret (AV.bool true, [])) (T.ret (AV.ff, [])))))))) := by
  kernel_rfl

theorem lo_step {p g i : Int} (h : gpOk p g i) : g / p ≤ loG (i + 1) p g - loG i p g ∧ loG (i + 1) p g - loG i p g ≤ g / p + 1 ∧ loG i p g < loG (i + 1) p g ∧ 0 ≤ loG i p g ∧ loG (i + 1) p g ≤ g ∧ 0 ≤ g / p ∧ g / p ≤ g := by
  obtain ⟨⟨h1, h2⟩, ⟨h3, h4⟩, ⟨h5, h6⟩⟩ := h
  have hp : 0 < p := by omega
  have a1 := (lo_le (i := i) (g := g) hp).1 (Int.le_refl (loG i p g))
  have a2 : ¬ i * g ≤ (loG i p g - 1) * p := fun hh => by have := (lo_le (i := i) (g := g) (x := loG i p g - 1) hp).2 hh; omega
  have a3 := (lo_le (i := i + 1) (g := g) hp).1 (Int.le_refl (loG (i + 1) p g))
  have a4 : ¬ (i + 1) * g ≤ (loG (i + 1) p g - 1) * p := fun hh => by have := (lo_le (i := i + 1) (g := g) (x := loG (i + 1) p g - 1) hp).2 hh; omega
  have a5 : loG (i + 1) p g ≤ g := (lo_le hp).2 (by rw [Int.mul_comm g p]; exact Int.mul_le_mul_of_nonneg_right (by omega) (by omega))
  have a6 : 0 ≤ loG i p g := by
    unfold loG
    have := Int.mul_nonneg h5 (show 0 ≤ g by omega)
    exact Int.ediv_nonneg (by omega) (by omega)
  have d1 := Int.mul_ediv_add_emod g p
  have d2 := Int.emod_nonneg g (show p ≠ 0 by omega)
  have d3 := Int.emod_lt_of_pos g hp
  have d4 : 1 ≤ g / p := (Int.le_ediv_iff_mul_le hp).2 (by omega)
  have d5 : g / p ≤ g := Int.ediv_le_self _ (by omega)
  generalize loG i p g = L at *
  generalize loG (i + 1) p g = H at *
  generalize g / p = d at *
  generalize g % p = r at *
  rw [Int.sub_mul, Int.one_mul] at a2 a4
  rw [Int.add_mul, Int.one_mul] at a3 a4
  rw [Int.mul_comm p d] at d1
  have k1 : d ≤ H - L := by
    rcases (show H - L < d ∨ d ≤ H - L by omega) with hh | hh
    · have := Int.mul_le_mul_of_nonneg_right (show H ≤ L + d - 1 by omega) (show 0 ≤ p by omega)
      rw [Int.sub_mul, Int.add_mul, Int.one_mul] at this
      omega
    · exact hh
  have k2 : H - L ≤ d + 1 := by
    rcases (show d + 1 < H - L ∨ H - L ≤ d + 1 by omega) with hh | hh
    · have := Int.mul_le_mul_of_nonneg_right (show L + d + 1 ≤ H - 1 by omega) (show 0 ≤ p by omega)
      rw [Int.sub_mul, Int.add_mul, Int.add_mul, Int.one_mul] at this
      omega
    · exact hh
  exact ⟨k1, k2, by omega, a6, a5, by omega, d5⟩

theorem gpE_ok : EnvOK Try.prog gpE.fns := inE_ok

theorem gp2_loop : LoopOK Try.prog gpE (loopAt (loopAt (codeOf Try.f4) 0) 0) := by
  refine loopSumm_ok (E := gpE) gpE_ok (noLoops (by kernel_rfl)) gp2 gpI2 (fun x => (loG (x.2.2.1 + 1) x.1 x.2.1 - x.2.2.2).toNat) gpP2 gpX2 ?_ (by kernel_rfl)
  rintro ⟨p, g, i, b⟩ ⟨hok, h1, h2⟩ Q hq
  dsimp only at hok h1 h2
  refine round_keep [0, 1, 8, 9, 10, 11] ?_
  rw [gp2_tree]
  have hs := lo_step hok
  obtain ⟨⟨g1, g2⟩, ⟨g3, g4⟩, ⟨g5, g6⟩⟩ := hok
  refine T.hite (fun h => ?_) (fun h => ?_)
  · have h : b < loG (i + 1) p g := by simpa using h
    have ho := (own_iff (i := i) (x := b) (show 0 < p by omega) (show 0 < g by omega)).1 ⟨h1, h⟩
    have he := owG_eq (x := b) (p := p) (g := g) (by omega) (by omega) (by omega) (by omega) (by omega)
    have hw : IntKind.wrap IntKind.i64 (b + 1) = b + 1 := IntWalk.i64_in _ (by omega)
    rw [he, ho, hw]
    refine T.hite (fun h => by simp at h) (fun _ => ?_)
    exact Round.go (p, g, i, b + 1) id ⟨⟨⟨g1, g2⟩, ⟨g3, g4⟩, ⟨g5, g6⟩⟩, by dsimp only; omega, by dsimp only; omega⟩ (by dsimp only; omega) (SubSt.mk (by simp [gp2, SubFr, slotAt, ren, below]) (Sub.nil _ _)) hq
  · exact Round.out id ⟨[(0, .int .i64 p), (1, .int .i64 g), (8, .int .i64 i), (10, .int .i64 (loG (i + 1) p g))], []⟩ (SubSt.mk (by simp [SubFr, slotAt, ren, below]) (Sub.nil _ _)) hq

theorem gp1_loop : LoopOK Try.prog gpE (loopAt (codeOf Try.f4) 0) := by
  refine loopSumm_ok (E := gpE) gpE_ok (oneLoop (by kernel_rfl) gp2_loop) gp1 gpI1 (fun x => x.1.toNat - x.2.2) gpP1 gpX1 ?_ (by kernel_rfl)
  rintro ⟨p, g, i⟩ ⟨⟨h1, h2⟩, ⟨h3, h4⟩, h5⟩ Q hq
  dsimp only at h1 h2 h3 h4 h5
  refine round_keep [0, 1, 7, 8] ?_
  rw [gp1_tree]
  refine T.hite (fun h => ?_) (fun h => ?_)
  · have h : (i : Int) < p := by simpa using h
    have hok : gpOk p g i := ⟨⟨h1, h2⟩, ⟨h3, h4⟩, ⟨by omega, h⟩⟩
    have hk : raG i p g = true := by simp [raG, okG]; omega
    obtain ⟨s1, s2, s3, s4, s5, s6, s7⟩ := lo_step hok
    have w1 : IntKind.wrap IntKind.i64 ((i : Int) + 1) = (i : Int) + 1 := IntWalk.i64_in _ (by omega)
    have w2 : IntKind.wrap IntKind.i64 (Int.tdiv g p) = g / p := by rw [Int.tdiv_eq_ediv_of_nonneg (by omega), IntWalk.i64_in _ (by omega)]
    have w3 : IntKind.wrap IntKind.i64 (g / p + 1) = g / p + 1 := IntWalk.i64_in _ (by omega)
    have w4 : IntKind.wrap IntKind.i64 (loG (i + 1) p g - loG i p g) = loG (i + 1) p g - loG i p g := IntWalk.i64_in _ (by omega)
    simp only [rlo, rhi, hk, if_true, w1, w2, w3, w4]
    refine T.hite (fun h => by simp at h) (fun _ => T.hchk (by simp; omega) (T.hite (fun h => absurd h (by rw [decide_eq_true_eq]; omega)) (fun _ => T.hchk (by simp; omega) (T.hite (fun h => absurd h (by rw [decide_eq_true_eq]; omega)) (fun _ => T.hite (fun h => absurd h (by rw [decide_eq_true_eq]; omega)) (fun _ => ?_))))))
    refine T.hneed ⟨id, SubSt.mk (by simp [gp2, SubFr, slotAt, ren, below]) (Sub.nil _ _)⟩ (T.hneed ⟨hok, Int.le_refl _, by dsimp only; omega⟩ ?_)
    exact Round.go (p, g, i + 1) id ⟨⟨h1, h2⟩, ⟨h3, h4⟩, by dsimp only; omega⟩ (by dsimp only; omega) (SubSt.mk (by simp [gp1, SubFr, slotAt, ren, below]) (Sub.nil _ _)) hq
  · have hi : (i : Int) = p := by have := (by simpa using h : ¬ (i : Int) < p); omega
    have hl : loG p p g = g := by
      have l1 : loG p p g ≤ g := (lo_le (by omega)).2 (by rw [Int.mul_comm p g]; exact Int.le_refl _)
      have l2 : ¬ loG p p g ≤ g - 1 := fun hh => by
        have := (lo_le (show 0 < p by omega)).1 hh
        rw [Int.sub_mul, Int.mul_comm p g, Int.one_mul] at this
        omega
      omega
    rw [hi, hl]
    exact Round.out id ⟨[(1, .int .i64 g), (7, .int .i64 g)], []⟩ (SubSt.mk (by simp [SubFr, slotAt, ren, below]) (Sub.nil _ _)) hq

theorem gp_law (p g : Int) (w : World) : Calls Try.prog 4 #[.int .i64 p, .int .i64 g] w fun e w' => e = .returned (.bool true) ∧ RowKit.Grown w w' := by
  refine law_walk (E := gpE) (c := codeOf Try.f4) Try.func4 rfl gpE_ok (oneLoop (by kernel_rfl) gp1_loop) rfl rfl [.int .i64 p, .int .i64 g] rfl (by simp [concL, conc]) ?_ w
  rw [gp_fn]
  have hy : (AV.bool true, ([] : AM)).1.yes = true := rfl
  by_cases hg : okG p g = true
  · have hk := okG_iff.1 hg
    refine T.hite (fun h => absurd h (by rw [decide_eq_true_eq]; omega)) (fun _ => T.hite (fun h => absurd h (by rw [decide_eq_true_eq]; omega)) (fun _ => T.hite (fun h => absurd h (by rw [decide_eq_true_eq]; omega)) (fun _ => T.hite (fun h => absurd h (by rw [decide_eq_true_eq]; omega)) (fun _ => ?_))))
    have hl : loG 0 p g = 0 := by
      unfold loG; rw [Int.zero_mul, Int.ediv_eq_zero_of_lt (by omega) (by omega)]
    exact T.hneed ⟨id, SubSt.mk (by simp [gp1, SubFr, slotAt, ren, below, hl]) (Sub.nil _ _)⟩ (T.hneed ⟨⟨by dsimp only; omega, by dsimp only; omega⟩, ⟨by dsimp only; omega, by dsimp only; omega⟩, by dsimp only; omega⟩ (T.hite (fun _ => hy) (fun h => by simp at h)))
  · have hr : raG 0 p g = false := by simp [raG, hg]
    have r1 : rlo 0 p g = 0 := by simp [rlo, hr]
    have r2 : rhi 0 p g = 0 := by simp [rhi, hr]
    have hn : ¬ (1 ≤ g ∧ g ≤ 64 ∧ 1 ≤ p ∧ p ≤ g) := fun h => hg (okG_iff.2 h)
    rw [r1, r2]
    have hb : (T.ite ((0 : Int) == 0) (T.ite ((0 : Int) == 0) (T.ret (AV.bool true, [])) (T.ret (AV.ff, []))) (T.ret (AV.ff, [])) : T (AV × AM)).holds fun r => r.1.yes = true := by simp [T.holds, AV.yes]
    refine T.hite (fun _ => hb) (fun a1 => T.hite (fun _ => hb) (fun a2 => T.hite (fun _ => hb) (fun a3 => T.hite (fun _ => hb) (fun a4 => ?_))))
    simp only [decide_eq_false_iff_not] at a1 a2 a3 a4
    exact absurd ⟨by omega, by omega, by omega, by omega⟩ hn

end Go.Proofs.Ytfpnbeikaannaaa
