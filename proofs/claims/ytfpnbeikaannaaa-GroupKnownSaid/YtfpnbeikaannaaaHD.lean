/-
  Layer 8: GroupOwns, GroupParts.
-/
import Derived.Test.YtfpnbeikaannaaaHC
namespace Go.Proofs.Ytfpnbeikaannaaa
open Go.Ox
set_option maxRecDepth 100000
set_option linter.unusedVariables false
set_option linter.unusedSimpArgs false

theorem lo_le {i p g x : Int} (hp : 0 < p) : loG i p g ≤ x ↔ i * g ≤ x * p := by
  unfold loG
  rw [← Int.lt_add_one_iff, Int.ediv_lt_iff_lt_mul hp, Int.add_mul, Int.one_mul]
  omega
theorem own_iff {i p g x : Int} (hp : 0 < p) (hg : 0 < g) : (loG i p g ≤ x ∧ x < loG (i + 1) p g) ↔ x * p / g = i := by
  rw [← Int.not_le, lo_le hp, lo_le hp, Int.not_le]
  constructor
  · rintro ⟨h1, h2⟩
    exact Int.le_antisymm (Int.lt_add_one_iff.1 ((Int.ediv_lt_iff_lt_mul hg).2 h2)) ((Int.le_ediv_iff_mul_le hg).2 h1)
  · rintro rfl
    exact ⟨(Int.le_ediv_iff_mul_le hg).1 (Int.le_refl _), (Int.ediv_lt_iff_lt_mul hg).1 (Int.lt_add_one_iff.2 (Int.le_refl _))⟩

/-! GroupOwns -/
def gwSt (x : Int × Int × Int × Nat) : St :=
  ⟨[(1, .int .i64 x.2.1), (2, .int .i64 x.2.2.1), (7, .int .i64 x.1), (8, .int .i64 (if x.1 * x.2.1 / x.2.2.1 < x.2.2.2 then 1 else 0)), (9, .int .i64 x.2.2.2)], []⟩
def gwInv (x : Int × Int × Int × Nat) : Prop := (1 ≤ x.2.2.1 ∧ x.2.2.1 ≤ 64) ∧ (1 ≤ x.2.1 ∧ x.2.1 ≤ x.2.2.1) ∧ (0 ≤ x.1 ∧ x.1 < x.2.2.1) ∧ (x.2.2.2 : Int) ≤ x.2.1
def gwPick (st : St) : Option (Int × Int × Int × Nat) :=
  match slotAt st.fr 7, slotAt st.fr 1, slotAt st.fr 2 with
  | some (.int _ x), some (.int _ p), some (.int _ g) => some (x, p, g, 0)
  | _, _, _ => none
def gwEnd (x : Int × Int × Int × Nat) : T (Ex × St) := .ret (.exit 0, ⟨[(8, .int .i64 1)], []⟩)
noncomputable def gwE : Env := { inE with nt := Try.f8.ntmps, loop := fun k => if k = 6 then loopSumm 0 gwSt gwInv gwPick gwEnd else fun _ => .fail }

theorem gw_tree (x p g : Int) (i : Nat) : keepT [1, 2, 7, 8, 9] (acode Try.prog gwE (loopAt (codeOf Try.f8) 0) (gwSt (x, p, g, i))) = 
  T.ite (decide ((↑i : Int) < p))
    (T.ite (decide (x ≥ rlo (↑i : Int) p g))
      (T.ite (decide (x < rhi (↑i : Int) p g)) (T.ret (Ex.norm, St.mk [((1 : Nat), AV.int IntKind.i64 p), ((2 : Nat), AV.int IntKind.i64 g), ((7 : Nat), AV.int IntKind.i64 x), ((8 : Nat), AV.int IntKind.i64 (IntKind.wrap IntKind.i64 ((if x * p / g < (↑i : Int) then (1 : Int) else (0 : Int)) + (1 : Int)))), ((9 : Nat), AV.int IntKind.i64 (IntKind.wrap IntKind.i64 ((↑i : Int) + (1 : Int))))] []))
        (T.ret (Ex.norm, St.mk [((1 : Nat), AV.int IntKind.i64 p), ((2 : Nat), AV.int IntKind.i64 g), ((7 : Nat), AV.int IntKind.i64 x), ((8 : Nat), AV.int IntKind.i64 (if x * p / g < (↑i : Int) then (1 : Int) else (0 : Int))), ((9 : Nat), AV.int IntKind.i64 (IntKind.wrap IntKind.i64 ((↑i : Int) + (1 : Int))))] [])))
      (T.ret (Ex.norm, St.mk [((1 : Nat), AV.int IntKind.i64 p), ((2 : Nat), AV.int IntKind.i64 g), ((7 : Nat), AV.int IntKind.i64 x), ((8 : Nat), AV.int IntKind.i64 (if x * p / g < (↑i : Int) then (1 : Int) else (0 : Int))), ((9 : Nat), AV.int IntKind.i64 (IntKind.wrap IntKind.i64 ((↑i : Int) + (1 : Int))))] [])))
    (T.ret (Ex.exit (0 : Nat), St.mk [((1 : Nat), AV.int IntKind.i64 p), ((2 : Nat), AV.int IntKind.i64 g), ((7 : Nat), AV.int IntKind.i64 x), ((8 : Nat), AV.int IntKind.i64 (if x * p / g < (↑i : Int) then (1 : Int) else (0 : Int))), ((9 : Nat), AV.int IntKind.i64 (↑i : Int))] [])) := by
  kernel_rfl

theorem gw_fn (k p g : Int) : afn Try.prog gwE Try.f8 (codeOf Try.f8) [.int .i64 k, .int .i64 p, .int .i64 g] [] = 
  T.ite (decide (g < (1 : Int))) (T.ret (AV.bool true, []))
    (T.ite (decide (g > (64 : Int))) (T.ret (AV.bool true, []))
      (T.ite (decide (p < (1 : Int))) (T.ret (AV.bool true, []))
        (T.ite (decide (p > g)) (T.ret (AV.bool true, []))
          (T.need (∃ ρ, SubSt (0 : Nat) ρ (St.mk [((1 : Nat), AV.int IntKind.i64 p), ((2 : Nat), AV.int IntKind.i64 g), ((7 : Nat), AV.int IntKind.i64 (ofG k g)), ((8 : Nat), AV.int IntKind.i64 (0 : Int)), ((9 : Nat), AV.int IntKind.i64 (0 : Int))] []) (gwSt (ofG k g, p, g, (0 : Nat)))) (T.need (gwInv (ofG k g, p, g, (0 : Nat))) (T.ite true (T.ret (AV.bool true, [])) (T.ret (AV.ff, [])))))))) := by
  kernel_rfl

theorem gwE_ok : EnvOK Try.prog gwE.fns := inE_ok

theorem gw_loop : LoopOK Try.prog gwE (loopAt (codeOf Try.f8) 0) := by
  refine loopSumm_ok (E := gwE) gwE_ok (noLoops (by kernel_rfl)) gwSt gwInv (fun x => x.2.1.toNat - x.2.2.2) gwPick gwEnd ?_ (by kernel_rfl)
  rintro ⟨x, p, g, i⟩ ⟨⟨h1, h2⟩, ⟨h3, h4⟩, ⟨h5, h6⟩, h7⟩ Q hq
  dsimp only at h1 h2 h3 h4 h5 h6 h7
  refine round_keep [1, 2, 7, 8, 9] ?_
  rw [gw_tree]
  have hx0 : 0 ≤ x * p := Int.mul_nonneg (by omega) (by omega)
  have hi1 : x * p / g < p := (Int.ediv_lt_iff_lt_mul (by omega)).2 (by rw [Int.mul_comm p g]; exact Int.mul_lt_mul_of_pos_right (by omega) (by omega))
  refine T.hite (fun hi => ?_) (fun hi => ?_)
  · have hi : (i : Int) < p := by simpa using hi
    have hk : raG i p g = true := by simp [raG, okG]; omega
    have ho := own_iff (i := i) (x := x) (show 0 < p by omega) (show 0 < g by omega)
    have hw : IntKind.wrap IntKind.i64 ((i : Int) + 1) = ((i + 1 : Nat) : Int) := by rw [IntWalk.i64_in _ (by omega)]; omega
    simp only [rlo, rhi, hk, if_true, hw]
    have hgo : ∀ n : Int, n = (if x * p / g < ((i + 1 : Nat) : Int) then 1 else 0) → Round gwE gwSt gwInv (fun x => x.2.1.toNat - x.2.2.2) gwEnd Q (x, p, g, i) (.norm, ⟨[(1, .int .i64 p), (2, .int .i64 g), (7, .int .i64 x), (8, .int .i64 n), (9, .int .i64 ((i + 1 : Nat) : Int))], []⟩) := fun n hn => by
      subst hn
      exact Round.go (x, p, g, i + 1) id ⟨⟨h1, h2⟩, ⟨h3, h4⟩, ⟨h5, h6⟩, by dsimp only; omega⟩ (by dsimp only; omega) (SubSt.mk (by simp [gwSt, SubFr, slotAt, ren, below]) (Sub.nil _ _)) hq
    generalize x * p / g = q at *
    refine T.hite (fun a1 => T.hite (fun a2 => hgo _ ?_) (fun a2 => hgo _ ?_)) (fun a1 => hgo _ ?_)
    all_goals simp only [decide_eq_true_eq, decide_eq_false_iff_not, ge_iff_le] at a1
    · simp only [decide_eq_true_eq] at a2
      have := ho.1 ⟨a1, a2⟩
      rw [if_neg (by omega), if_pos (by omega)]; decide
    · simp only [decide_eq_false_iff_not] at a2
      have : ¬ q = i := fun h => a2 (ho.2 h).2
      by_cases hq : q < i
      · rw [if_pos hq, if_pos (by omega)]
      · rw [if_neg hq, if_neg (by omega)]
    · have : ¬ q = i := fun h => a1 (ho.2 h).1
      by_cases hq : q < i
      · rw [if_pos hq, if_pos (by omega)]
      · rw [if_neg hq, if_neg (by omega)]
  · have hi : (i : Int) = p := by have := (by simpa using hi : ¬ (i : Int) < p); omega
    rw [hi, if_pos hi1]
    exact Round.out id ⟨[(8, .int .i64 1)], []⟩ (SubSt.mk (by simp [SubFr, slotAt, ren, below]) (Sub.nil _ _)) hq

theorem ofG_range {k g : Int} (h1 : 1 ≤ g) (h2 : g ≤ 64) : 0 ≤ ofG k g ∧ ofG k g < g := by
  have h : ofG k g = fnvO k 8 % g := by simp [ofG, h1, h2]
  rw [h]
  exact ⟨Int.emod_nonneg _ (by omega), Int.emod_lt_of_pos _ (by omega)⟩

theorem gw_law (k p g : Int) (w : World) : Calls Try.prog 8 #[.int .i64 k, .int .i64 p, .int .i64 g] w fun e w' => e = .returned (.bool true) ∧ RowKit.Grown w w' := by
  refine law_walk (E := gwE) (c := codeOf Try.f8) Try.func8 rfl gwE_ok (oneLoop (by kernel_rfl) gw_loop) rfl rfl [.int .i64 k, .int .i64 p, .int .i64 g] rfl (by simp [concL, conc]) ?_ w
  rw [gw_fn]
  have hy : (AV.bool true, ([] : AM)).1.yes = true := rfl
  refine T.hite (fun _ => hy) (fun a1 => T.hite (fun _ => hy) (fun a2 => T.hite (fun _ => hy) (fun a3 => T.hite (fun _ => hy) (fun a4 => ?_))))
  simp only [decide_eq_false_iff_not] at a1 a2 a3 a4
  have hr := ofG_range (k := k) (g := g) (by omega) (by omega)
  have hq : 0 ≤ ofG k g * p / g := Int.ediv_nonneg (Int.mul_nonneg (by omega) (by omega)) (by omega)
  have hq' : ¬ ofG k g * p / g < 0 := by omega
  refine T.hneed ⟨id, SubSt.mk (by simp [gwSt, SubFr, slotAt, ren, below, hq']) (Sub.nil _ _)⟩ (T.hneed ⟨⟨by dsimp only; omega, by dsimp only; omega⟩, ⟨by dsimp only; omega, by dsimp only; omega⟩, hr, by dsimp only; omega⟩ (T.hite (fun _ => hy) (fun h => by cases h)))

end Go.Proofs.Ytfpnbeikaannaaa
