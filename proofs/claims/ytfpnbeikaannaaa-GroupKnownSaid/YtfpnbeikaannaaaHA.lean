/-
  Layer 8: valid, first, Range, Owner.
-/
import Derived.Test.YtfpnbeikaannaaaProg
import Derived.Test.YtfpnbeikaannaaaHOxP
namespace Go.Proofs.Ytfpnbeikaannaaa
open Go.Ox
set_option maxRecDepth 100000
set_option linter.unusedVariables false
set_option linter.unusedSimpArgs false

noncomputable def vaE : Env := { nt := Try.f17.ntmps, n0 := 0, fns := [], loop := fun _ _ => .fail }
noncomputable def fiE : Env := { nt := Try.f18.ntmps, n0 := 0, fns := [], loop := fun _ _ => .fail }

theorem va_fn (p g : Int) : afn Try.prog vaE Try.f17 (codeOf Try.f17) [.int .i64 p, .int .i64 g] [] = 
  T.ite (decide (g ≥ (1 : Int))) (T.ite (decide (g ≤ (64 : Int))) (T.ite (decide (p ≥ (1 : Int))) (T.ret (AV.bool (decide (p ≤ g)), [])) (T.ret (AV.ff, []))) (T.ret (AV.ff, []))) (T.ret (AV.ff, [])) := by
  kernel_rfl

theorem fi_fn (t p g : Int) : afn Try.prog fiE Try.f18 (codeOf Try.f18) [.int .i64 t, .int .i64 p, .int .i64 g] [] = 
  T.chk (!p == (0 : Int)) (T.ret (AV.int IntKind.i64 (IntKind.wrap IntKind.i64 (Int.tdiv (IntKind.wrap IntKind.i64 (IntKind.wrap IntKind.i64 (IntKind.wrap IntKind.i64 (t * g) + p) - (1 : Int))) p)), [])) := by
  kernel_rfl

/-- Whether so many tasks may have so many groups. -/
def okG (p g : Int) : Bool := decide (1 ≤ g) && decide (g ≤ 64) && decide (1 ≤ p) && decide (p ≤ g)
theorem okG_iff {p g : Int} : okG p g = true ↔ 1 ≤ g ∧ g ≤ 64 ∧ 1 ≤ p ∧ p ≤ g := by simp [okG, and_assoc]
def loG (t p g : Int) : Int := (t * g + p - 1) / p

def vaS : List AV → T AV
  | [.int .i64 p, .int .i64 g] => .ret (.bool (okG p g))
  | _ => .fail
def fiS : List AV → T AV
  | [.int .i64 t, .int .i64 p, .int .i64 g] => .chk (okG p g && decide (0 ≤ t) && decide (t ≤ p)) (.ret (.int .i64 (loG t p g)))
  | _ => .fail
noncomputable def raE : Env := { nt := Try.f10.ntmps, n0 := 0, fns := [(17, .pure fun args _ => vaS args), (18, .pure fun args _ => fiS args)], loop := fun _ _ => .fail }
noncomputable def owE : Env := { nt := Try.f14.ntmps, n0 := 0, fns := [(17, .pure fun args _ => vaS args), (18, .pure fun args _ => fiS args)], loop := fun _ _ => .fail }

theorem ra_fn (t p g : Int) : afn Try.prog raE Try.f10 (codeOf Try.f10) [.int .i64 t, .int .i64 p, .int .i64 g] [] = 
  T.ite (!okG p g) (T.ret (AV.tup [AV.int IntKind.i64 (0 : Int), AV.int IntKind.i64 (0 : Int)], []))
    (T.ite (decide (t < (0 : Int))) (T.ret (AV.tup [AV.int IntKind.i64 (0 : Int), AV.int IntKind.i64 (0 : Int)], []))
      (T.ite (decide (t ≥ p)) (T.ret (AV.tup [AV.int IntKind.i64 (0 : Int), AV.int IntKind.i64 (0 : Int)], []))
        (T.chk (okG p g && decide ((0 : Int) ≤ t) && decide (t ≤ p)) (T.chk (okG p g && decide ((0 : Int) ≤ IntKind.wrap IntKind.i64 (t + (1 : Int))) && decide (IntKind.wrap IntKind.i64 (t + (1 : Int)) ≤ p)) (T.ret (AV.tup [AV.int IntKind.i64 (loG t p g), AV.int IntKind.i64 (loG (IntKind.wrap IntKind.i64 (t + (1 : Int))) p g)], [])))))) := by
  kernel_rfl

theorem ow_fn (x p g : Int) : afn Try.prog owE Try.f14 (codeOf Try.f14) [.int .i64 x, .int .i64 p, .int .i64 g] [] = 
  T.ite (!okG p g) (T.ret (AV.int IntKind.i64 (0 : Int), [])) (T.ite (decide (x < (0 : Int))) (T.ret (AV.int IntKind.i64 (0 : Int), [])) (T.ite (decide (x ≥ g)) (T.ret (AV.int IntKind.i64 (0 : Int), [])) (T.chk (!g == (0 : Int)) (T.ret (AV.int IntKind.i64 (IntKind.wrap IntKind.i64 (Int.tdiv (IntKind.wrap IntKind.i64 (x * p)) g)), []))))) := by
  kernel_rfl

theorem va_ok : SummOK Try.prog 17 (.pure fun args _ => vaS args) := by
  refine pure_ok (fun args w => Try.call17 args w) ?_
  intro args Q hq
  unfold vaS at hq ⊢
  split at hq
  · rename_i p g
    refine ⟨by simp [plainL, plain], by simp [plain, T.holds], fn_ok (E := vaE) (c := codeOf Try.f17) Try.func17 rfl EnvOK.nil (noLoops (by kernel_rfl)) rfl rfl fun Q hq => ?_⟩
    have hq : Q (AV.bool (okG p g), []) := hq
    have hl : ∀ v : AV, Ox.Alike v (.bool (okG p g)) → Leaf 0 Q (v, []) := fun v hv => leaf_of id hq (by simpa [ren] using hv) (by simp [below]) (Sub.nil _ _)
    rw [va_fn]
    refine T.hite (fun h1 => T.hite (fun h2 => T.hite (fun h3 => hl _ ?_) (fun h3 => hl _ ?_)) (fun h2 => hl _ ?_)) (fun h1 => hl _ ?_)
    all_goals simp only [decide_eq_true_eq, decide_eq_false_iff_not, ge_iff_le] at *
    · simp [okG, h1, h2, h3, Ox.Alike]
    · simp [okG, h3, Ox.Alike, conc]
    · simp [okG, h2, Ox.Alike, conc]
    · simp [okG, h1, Ox.Alike, conc]
  · exact hq.elim

theorem fi_ok : SummOK Try.prog 18 (.pure fun args _ => fiS args) := by
  refine pure_fn (E := fiE) (c := codeOf Try.f18) (fun args w => Try.call18 args w) Try.func18 rfl EnvOK.nil (noLoops (by kernel_rfl)) rfl rfl ?_
  intro args Q hq
  unfold fiS at hq ⊢
  split at hq
  · rename_i t p g
    obtain ⟨hk, -⟩ := hq
    refine ⟨by simp [plainL, plain], ⟨hk, by simp [plain, T.holds]⟩, fun Q hq => ?_⟩
    obtain ⟨-, hq⟩ := hq
    have hk := hk
    simp only [Bool.and_eq_true, decide_eq_true_eq, okG_iff] at hk
    rw [fi_fn]
    have m0 : 0 ≤ t * g := Int.mul_nonneg (by omega) (by omega)
    have m1 : t * g ≤ 64 * 64 := Int.mul_le_mul (by omega) (by omega) (by omega) (by omega)
    rw [IntWalk.i64_in (t * g) (by omega), IntWalk.i64_in (t * g + p) (by omega), IntWalk.i64_in (t * g + p - 1) (by omega), Int.tdiv_eq_ediv_of_nonneg (by omega)]
    have d0 : 0 ≤ (t * g + p - 1) / p := Int.ediv_nonneg (by omega) (by omega)
    have d1 : (t * g + p - 1) / p ≤ t * g + p - 1 := Int.ediv_le_self _ (by omega)
    rw [IntWalk.i64_in ((t * g + p - 1) / p) (by omega)]
    refine T.hchk (by simp; omega) ⟨by simp [plain], hq⟩
  · exact hq.elim

theorem raE_ok : EnvOK Try.prog raE.fns := EnvOK.cons va_ok (EnvOK.cons fi_ok EnvOK.nil)

def raG (t p g : Int) : Bool := okG p g && decide (0 ≤ t) && decide (t < p)
def rlo (t p g : Int) : Int := if raG t p g = true then loG t p g else 0
def rhi (t p g : Int) : Int := if raG t p g = true then loG (t + 1) p g else 0
def owG (x p g : Int) : Int := if (okG p g && decide (0 ≤ x) && decide (x < g)) = true then x * p / g else 0
def raS : List AV → T AV
  | [.int .i64 t, .int .i64 p, .int .i64 g] => .ret (.tup [.int .i64 (rlo t p g), .int .i64 (rhi t p g)])
  | _ => .fail
def owS : List AV → T AV
  | [.int .i64 x, .int .i64 p, .int .i64 g] => .ret (.int .i64 (owG x p g))
  | _ => .fail

theorem ra_ok : SummOK Try.prog 10 (.pure fun args _ => raS args) := by
  refine pure_fn (E := raE) (c := codeOf Try.f10) (fun args w => Try.call10 args w) Try.func10 rfl raE_ok (noLoops (by kernel_rfl)) rfl rfl ?_
  intro args Q hq
  unfold raS at hq ⊢
  split at hq
  · rename_i t p g
    refine ⟨by simp [plainL, plain], by simp [plain, plainL, T.holds], fun Q hq => ?_⟩
    have hq : Q (AV.tup [.int .i64 (rlo t p g), .int .i64 (rhi t p g)]) := hq
    rw [ra_fn]
    by_cases h : raG t p g = true
    · have hk := h
      simp only [raG, Bool.and_eq_true, decide_eq_true_eq] at hk
      have hg := okG_iff.1 hk.1.1
      have hw : IntKind.wrap IntKind.i64 (t + 1) = t + 1 := IntWalk.i64_in _ (by omega)
      rw [hw]
      simp only [rlo, rhi, h, if_true] at hq
      refine T.hite (fun h1 => by simp [hk.1.1] at h1) (fun _ => T.hite (fun h1 => by simp at h1; omega) (fun _ => T.hite (fun h1 => by simp at h1; omega) (fun _ => ?_)))
      exact T.hchk (by simp [hk.1.1]; omega) (T.hchk (by simp [hk.1.1]; omega) ⟨by simp [plain, plainL], hq⟩)
    · have hq : Q (AV.tup [.int .i64 0, .int .i64 0]) := by simpa [rlo, rhi, h] using hq
      have hr : plain (AV.tup [AV.int IntKind.i64 0, AV.int IntKind.i64 0]) = true ∧ Q (AV.tup [.int .i64 0, .int .i64 0]) := ⟨by simp [plain, plainL], hq⟩
      refine T.hite (fun h1 => hr) (fun h0 => T.hite (fun h1 => hr) (fun h1 => T.hite (fun h2 => hr) (fun h2 => ?_)))
      exfalso
      simp only [raG, Bool.and_eq_true, decide_eq_true_eq] at h
      simp at h0 h1 h2
      exact h ⟨⟨h0, h1⟩, h2⟩
  · exact hq.elim

theorem ow_ok : SummOK Try.prog 14 (.pure fun args _ => owS args) := by
  refine pure_fn (E := owE) (c := codeOf Try.f14) (fun args w => Try.call14 args w) Try.func14 rfl raE_ok (noLoops (by kernel_rfl)) rfl rfl ?_
  intro args Q hq
  unfold owS at hq ⊢
  split at hq
  · rename_i t p g
    refine ⟨by simp [plainL, plain], by simp [plain, plainL, T.holds], fun Q hq => ?_⟩
    have hq : Q (AV.int .i64 (owG t p g)) := hq
    rw [ow_fn]
    by_cases h : (okG p g && decide (0 ≤ t) && decide (t < g)) = true
    · have hk := h
      simp only [Bool.and_eq_true, decide_eq_true_eq] at hk
      have hg := okG_iff.1 hk.1.1
      have m0 : 0 ≤ t * p := Int.mul_nonneg (by omega) (by omega)
      have m1 : t * p ≤ 64 * 64 := Int.mul_le_mul (by omega) (by omega) (by omega) (by omega)
      have d0 : 0 ≤ t * p / g := Int.ediv_nonneg (by omega) (by omega)
      have d1 : t * p / g ≤ t * p := Int.ediv_le_self _ (by omega)
      rw [IntWalk.i64_in (t * p) (by omega), Int.tdiv_eq_ediv_of_nonneg (by omega), IntWalk.i64_in (t * p / g) (by omega)]
      simp only [owG, h, if_true] at hq
      refine T.hite (fun h1 => by simp [hk.1.1] at h1) (fun _ => T.hite (fun h1 => by simp at h1; omega) (fun _ => T.hite (fun h1 => by simp at h1; omega) (fun _ => ?_)))
      exact T.hchk (by simp; omega) ⟨by simp [plain, plainL], hq⟩
    · have hq : Q (AV.int .i64 0) := by simpa [owG, h] using hq
      have hr : plain (AV.int IntKind.i64 0) = true ∧ Q (AV.int .i64 0) := ⟨by simp [plain, plainL], hq⟩
      refine T.hite (fun h1 => hr) (fun h0 => T.hite (fun h1 => hr) (fun h1 => T.hite (fun h2 => hr) (fun h2 => ?_)))
      exfalso
      simp only [Bool.and_eq_true, decide_eq_true_eq] at h
      simp at h0 h1 h2
      exact h ⟨⟨h0, h1⟩, h2⟩
  · exact hq.elim

end Go.Proofs.Ytfpnbeikaannaaa
