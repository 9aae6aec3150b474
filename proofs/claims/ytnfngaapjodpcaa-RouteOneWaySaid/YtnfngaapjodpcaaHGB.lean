/-
  Layer 20 (out of layer 8): valid, first, Range, Owner.
-/
import Derived.Test.YtnfngaapjodpcaaHZG
namespace Go.Proofs.Ytnfngaapjodpcaa
open Go.Ox

set_option maxRecDepth 100000
set_option linter.unusedVariables false
set_option linter.unusedSimpArgs false

noncomputable def vaE : Env := { nt := Try.f37.ntmps, n0 := 0, fns := [], loop := fun _ _ => .fail }
noncomputable def fiE : Env := { nt := Try.f38.ntmps, n0 := 0, fns := [], loop := fun _ _ => .fail }

theorem va_fn (p g : Int) : afn Try.prog vaE Try.f37 (codeOf Try.f37) [.int .i64 p, .int .i64 g] [] = 
  T.ite (decide (g ≥ (1 : Int))) (T.ite (decide (g ≤ (64 : Int))) (T.ite (decide (p ≥ (1 : Int))) (T.ret (AV.bool (decide (p ≤ g)), [])) (T.ret (AV.ff, []))) (T.ret (AV.ff, []))) (T.ret (AV.ff, [])) := by
  kernel_rfl

theorem fi_fn (t p g : Int) : afn Try.prog fiE Try.f38 (codeOf Try.f38) [.int .i64 t, .int .i64 p, .int .i64 g] [] = 
  T.chk (!p == (0 : Int)) (T.ret (AV.int IntKind.i64 (IntKind.wrap IntKind.i64 (Int.tdiv (IntKind.wrap IntKind.i64 (IntKind.wrap IntKind.i64 (IntKind.wrap IntKind.i64 (t * g) + p) - (1 : Int))) p)), [])) := by
  kernel_rfl

/-- Whether so many tasks may have so many groups. -/
def okG (p g : Int) : Bool := decide (1 ≤ g) && decide (g ≤ 64) && decide (1 ≤ p) && decide (p ≤ g)
theorem okG_iff {p g : Int} : okG p g = true ↔ 1 ≤ g ∧ g ≤ 64 ∧ 1 ≤ p ∧ p ≤ g := by simp [okG, and_assoc]
def loG (t p g : Int) : Int := (t * g + p - 1) / p

def vaS : List AV → T AV
  | [.int .i64 p, .int .i64 g] => .ret (.bool (okG p g))
  | _ => .fail
def fiS : List AV → T AV
  | [.int .i64 t, .int .i64 p, .int .i64 g] => .chk (okG p g && decide (0 ≤ t) && decide (t ≤ p)) (.ret (.int .i64 (loG t p g)))
  | _ => .fail
noncomputable def raE : Env := { nt := Try.f20.ntmps, n0 := 0, fns := [(37, .pure fun args _ => vaS args), (38, .pure fun args _ => fiS args)], loop := fun _ _ => .fail }
noncomputable def owE : Env := { nt := Try.f27.ntmps, n0 := 0, fns := [(37, .pure fun args _ => vaS args), (38, .pure fun args _ => fiS args)], loop := fun _ _ => .fail }

theorem ra_fn (t p g : Int) : afn Try.prog raE Try.f20 (codeOf Try.f20) [.int .i64 t, .int .i64 p, .int .i64 g] [] = 
  T.ite (!okG p g) (T.ret (AV.tup [AV.int IntKind.i64 (0 : Int), AV.int IntKind.i64 (0 : Int)], []))
    (T.ite (decide (t < (0 : Int))) (T.ret (AV.tup [AV.int IntKind.i64 (0 : Int), AV.int IntKind.i64 (0 : Int)], []))
      (T.ite (decide (t ≥ p)) (T.ret (AV.tup [AV.int IntKind.i64 (0 : Int), AV.int IntKind.i64 (0 : Int)], []))
        (T.chk (okG p g && decide ((0 : Int) ≤ t) && decide (t ≤ p)) (T.chk (okG p g && decide ((0 : Int) ≤ IntKind.wrap IntKind.i64 (t + (1 : Int))) && decide (IntKind.wrap IntKind.i64 (t + (1 : Int)) ≤ p)) (T.ret (AV.tup [AV.int IntKind.i64 (loG t p g), AV.int IntKind.i64 (loG (IntKind.wrap IntKind.i64 (t + (1 : Int))) p g)], [])))))) := by
  kernel_rfl

theorem ow_fn (x p g : Int) : afn Try.prog owE Try.f27 (codeOf Try.f27) [.int .i64 x, .int .i64 p, .int .i64 g] [] = 
  T.ite (!okG p g) (T.ret (AV.int IntKind.i64 (0 : Int), [])) (T.ite (decide (x < (0 : Int))) (T.ret (AV.int IntKind.i64 (0 : Int), [])) (T.ite (decide (x ≥ g)) (T.ret (AV.int IntKind.i64 (0 : Int), [])) (T.chk (!g == (0 : Int)) (T.ret (AV.int IntKind.i64 (IntKind.wrap IntKind.i64 (Int.tdiv (IntKind.wrap IntKind.i64 (x * p)) g)), []))))) := by
  kernel_rfl

theorem va_ok : SummOK Try.prog 37 (.pure fun args _ => vaS args) := by
  refine pure_ok (fun args w => Try.call37 args w) ?_
  intro args Q hq
  unfold vaS at hq ⊢
  split at hq
  · rename_i p g
    refine ⟨by simp [plainL, plain], by simp [plain, T.holds], fn_ok (E := vaE) (c := codeOf Try.f37) Try.func37 rfl EnvOK.nil (noLoops (by kernel_rfl)) rfl rfl fun Q hq => ?_⟩
    have hq : Q (AV.bool (okG p g), []) := hq
    have hl : ∀ v : AV, Ox.Alike v (.bool (okG p g)) → Leaf 0 Q (v, []) := fun v hv => leaf_of id hq (by simpa [ren] using hv) (by simp [below]) (Sub.nil _ _)
    rw [va_fn]
    refine T.hite (fun h1 => T.hite (fun h2 => T.hite (fun h3 => hl _ ?_) (fun h3 => hl _ ?_)) (fun h2 => hl _ ?_)) (fun h1 => hl _ ?_)
    all_goals simp only [decide_eq_true_eq, decide_eq_false_iff_not, ge_iff_le] at *
    · simp [okG, h1, h2, h3, Ox.Alike]
    · simp [okG, h3, Ox.Alike, conc]
    · simp [okG, h2, Ox.Alike, conc]
    · simp [okG, h1, Ox.Alike, conc]
  · exact hq.elim

theorem fi_ok : SummOK Try.prog 38 (.pure fun args _ => fiS args) := by
  refine pure_fn (E := fiE) (c := codeOf Try.f38) (fun args w => Try.call38 args w) Try.func38 rfl EnvOK.nil (noLoops (by kernel_rfl)) rfl rfl ?_
  intro args Q hq
  unfold fiS at hq ⊢
  split at hq
  · rename_i t p g
    obtain ⟨hk, -⟩ := hq
    refine ⟨by simp [plainL, plain], ⟨hk, by simp [plain, T.holds]⟩, fun Q hq => ?_⟩
    obtain ⟨-, hq⟩ := hq
    have hk := hk
    simp only [Bool.and_eq_true, decide_eq_true_eq, okG_iff] at hk
    rw [fi_fn]
    have m0 : 0 ≤ t * g := Int.mul_nonneg (by omega) (by omega)
    have m1 : t * g ≤ 64 * 64 := Int.mul_le_mul (by omega) (by omega) (by omega) (by omega)
    rw [IntWalk.i64_in (t * g) (by omega), IntWalk.i64_in (t * g + p) (by omega), IntWalk.i64_in (t * g + p - 1) (by omega), Int.tdiv_eq_ediv_of_nonneg (by omega)]
    have d0 : 0 ≤ (t * g + p - 1) / p := Int.ediv_nonneg (by omega) (by omega)
    have d1 : (t * g + p - 1) / p ≤ t * g + p - 1 := Int.ediv_le_self _ (by omega)
    rw [IntWalk.i64_in ((t * g + p - 1) / p) (by omega)]
    refine T.hchk (by simp; omega) ⟨by simp [plain], hq⟩
  · exact hq.elim

theorem raE_ok : EnvOK Try.prog raE.fns := EnvOK.cons va_ok (EnvOK.cons fi_ok EnvOK.nil)

def raG (t p g : Int) : Bool := okG p g && decide (0 ≤ t) && decide (t < p)
def rlo (t p g : Int) : Int := if raG t p g = true then loG t p g else 0
def rhi (t p g : Int) : Int := if raG t p g = true then loG (t + 1) p g else 0
def owG (x p g : Int) : Int := if (okG p g && decide (0 ≤ x) && decide (x < g)) = true then x * p / g else 0
def raS : List AV → T AV
  | [.int .i64 t, .int .i64 p, .int .i64 g] => .ret (.tup [.int .i64 (rlo t p g), .int .i64 (rhi t p g)])
  | _ => .fail
def owS : List AV → T AV
  | [.int .i64 x, .int .i64 p, .int .i64 g] => .ret (.int .i64 (owG x p g))
  | _ => .fail

theorem ra_ok : SummOK Try.prog 20 (.pure fun args _ => raS args) := by
  refine pure_fn (E := raE) (c := codeOf Try.f20) (fun args w => Try.call20 args w) Try.func20 rfl raE_ok (noLoops (by kernel_rfl)) rfl rfl ?_
  intro args Q hq
  unfold raS at hq ⊢
  split at hq
  · rename_i t p g
    refine ⟨by simp [plainL, plain], by simp [plain, plainL, T.holds], fun Q hq => ?_⟩
    have hq : Q (AV.tup [.int .i64 (rlo t p g), .int .i64 (rhi t p g)]) := hq
    rw [ra_fn]
    by_cases h : raG t p g = true
    · have hk := h
      simp only [raG, Bool.and_eq_true, decide_eq_true_eq] at hk
      have hg := okG_iff.1 hk.1.1
      have hw : IntKind.wrap IntKind.i64 (t + 1) = t + 1 := IntWalk.i64_in _ (by omega)
      rw [hw]
      simp only [rlo, rhi, h, if_true] at hq
      refine T.hite (fun h1 => by simp [hk.1.1] at h1) (fun _ => T.hite (fun h1 => by simp at h1; omega) (fun _ => T.hite (fun h1 => by simp at h1; omega) (fun _ => ?_)))
      exact T.hchk (by simp [hk.1.1]; omega) (T.hchk (by simp [hk.1.1]; omega) ⟨by simp [plain, plainL], hq⟩)
    · have hq : Q (AV.tup [.int .i64 0, .int .i64 0]) := by simpa [rlo, rhi, h] using hq
      have hr : plain (AV.tup [AV.int IntKind.i64 0, AV.int IntKind.i64 0]) = true ∧ Q (AV.tup [.int .i64 0, .int .i64 0]) := ⟨by simp [plain, plainL], hq⟩
      refine T.hite (fun h1 => hr) (fun h0 => T.hite (fun h1 => hr) (fun h1 => T.hite (fun h2 => hr) (fun h2 => ?_)))
      exfalso
      simp only [raG, Bool.and_eq_true, decide_eq_true_eq] at h
      simp at h0 h1 h2
      exact h ⟨⟨h0, h1⟩, h2⟩
  · exact hq.elim

theorem ow_ok : SummOK Try.prog 27 (.pure fun args _ => owS args) := by
  refine pure_fn (E := owE) (c := codeOf Try.f27) (fun args w => Try.call27 args w) Try.func27 rfl raE_ok (noLoops (by kernel_rfl)) rfl rfl ?_
  intro args Q hq
  unfold owS at hq ⊢
  split at hq
  · rename_i t p g
    refine ⟨by simp [plainL, plain], by simp [plain, plainL, T.holds], fun Q hq => ?_⟩
    have hq : Q (AV.int .i64 (owG t p g)) := hq
    rw [ow_fn]
    by_cases h : (okG p g && decide (0 ≤ t) && decide (t < g)) = true
    · have hk := h
      simp only [Bool.and_eq_true, decide_eq_true_eq] at hk
      have hg := okG_iff.1 hk.1.1
      have m0 : 0 ≤ t * p := Int.mul_nonneg (by omega) (by omega)
      have m1 : t * p ≤ 64 * 64 := Int.mul_le_mul (by omega) (by omega) (by omega) (by omega)
      have d0 : 0 ≤ t * p / g := Int.ediv_nonneg (by omega) (by omega)
      have d1 : t * p / g ≤ t * p := Int.ediv_le_self _ (by omega)
      rw [IntWalk.i64_in (t * p) (by omega), Int.tdiv_eq_ediv_of_nonneg (by omega), IntWalk.i64_in (t * p / g) (by omega)]
      simp only [owG, h, if_true] at hq
      refine T.hite (fun h1 => by simp [hk.1.1] at h1) (fun _ => T.hite (fun h1 => by simp at h1; omega) (fun _ => T.hite (fun h1 => by simp at h1; omega) (fun _ => ?_)))
      exact T.hchk (by simp; omega) ⟨by simp [plain, plainL], hq⟩
    · have hq : Q (AV.int .i64 0) := by simpa [owG, h] using hq
      have hr : plain (AV.int IntKind.i64 0) = true ∧ Q (AV.int .i64 0) := ⟨by simp [plain, plainL], hq⟩
      refine T.hite (fun h1 => hr) (fun h0 => T.hite (fun h1 => hr) (fun h1 => T.hite (fun h2 => hr) (fun h2 => ?_)))
      exfalso
      simp only [Bool.and_eq_true, decide_eq_true_eq] at h
      simp at h0 h1 h2
      exact h ⟨⟨h0, h1⟩, h2⟩
  · exact hq.elim



set_option maxRecDepth 100000
set_option linter.unusedVariables false
set_option linter.unusedSimpArgs false

def stepO (k s : Int) (i : Nat) : Int :=
  IntKind.wrap .u32 (bits BinOp.xor .u32 s (IntKind.wrap .u32 (IntKind.wrap .u8 (Int.fdiv (IntKind.wrap .u64 k) (2 ^ min (Int.toNat (IntKind.wrap .i64 (8 * (i : Int)))) 64)))) * 16777619)
def fnvO (k : Int) : Nat → Int
  | 0 => 2166136261
  | i + 1 => stepO k (fnvO k i) i
def ofSt (x : Int × Int × Nat) : St := ⟨[(0, .int .i64 x.1), (1, .int .i64 x.2.1), (5, .int .u32 (fnvO x.1 x.2.2)), (13, .int .i64 x.2.2)], []⟩
def ofInv (x : Int × Int × Nat) : Prop := x.2.2 ≤ 8
def ofPick (st : St) : Option (Int × Int × Nat) :=
  match slotAt st.fr 0, slotAt st.fr 1 with
  | some (.int _ a), some (.int _ b) => some (a, b, 0)
  | _, _ => none
def ofEnd (x : Int × Int × Nat) : T (Ex × St) := .ret (.exit 0, ⟨[(1, .int .i64 x.2.1), (5, .int .u32 (fnvO x.1 8))], []⟩)
noncomputable def ofE : Env := { nt := 33, n0 := 0, fns := [], loop := fun k => if k = 5 then loopSumm 0 ofSt ofInv ofPick ofEnd else fun _ => .fail }

theorem of_tree (k g : Int) (i : Nat) : keepT [0, 1, 5, 13] (acode Try.prog ofE (loopAt (codeOf Try.f19) 0) (ofSt (k, g, i))) = 
  T.ite (decide ((↑i : Int) < (8 : Int)))
    (T.chk (decide ((0 : Int) ≤ IntKind.wrap IntKind.i64 ((8 : Int) * (↑i : Int))))
      (T.ret
        (Ex.norm,
          St.mk
            [((0 : Nat), AV.int IntKind.i64 k), ((1 : Nat), AV.int IntKind.i64 g), ((5 : Nat), AV.int IntKind.u32 (IntKind.wrap IntKind.u32 (bits BinOp.xor IntKind.u32 (fnvO k i) (IntKind.wrap IntKind.u32 (IntKind.wrap IntKind.u8 (Int.fdiv (IntKind.wrap IntKind.u64 k) ((2 : Int) ^ min (Int.toNat (IntKind.wrap IntKind.i64 ((8 : Int) * (↑i : Int)))) (64 : Nat))))) * (16777619 : Int)))),
              ((13 : Nat), AV.int IntKind.i64 (IntKind.wrap IntKind.i64 ((↑i : Int) + (1 : Int))))]
            [])))
    (T.ret (Ex.exit (0 : Nat), St.mk [((0 : Nat), AV.int IntKind.i64 k), ((1 : Nat), AV.int IntKind.i64 g), ((5 : Nat), AV.int IntKind.u32 (fnvO k i)), ((13 : Nat), AV.int IntKind.i64 (↑i : Int))] [])) := by
  kernel_rfl

theorem of_fn (k g : Int) : afn Try.prog ofE Try.f19 (codeOf Try.f19) [.int .i64 k, .int .i64 g] [] = 
  T.ite (decide (g < (1 : Int))) (T.ret (AV.int IntKind.i64 (0 : Int), []))
    (T.ite (decide (g > (64 : Int))) (T.ret (AV.int IntKind.i64 (0 : Int), []))
      (T.need (∃ ρ, SubSt (0 : Nat) ρ (St.mk [((0 : Nat), AV.int IntKind.i64 k), ((1 : Nat), AV.int IntKind.i64 g), ((5 : Nat), AV.int IntKind.u32 (2166136261 : Int)), ((13 : Nat), AV.int IntKind.i64 (0 : Int))] []) (ofSt (k, g, (0 : Nat))))
        (T.need (ofInv (k, g, (0 : Nat))) (T.chk (!IntKind.wrap IntKind.u32 g == (0 : Int)) (T.ret (AV.int IntKind.i64 (IntKind.wrap IntKind.i64 (Int.tmod (fnvO k (8 : Nat)) (IntKind.wrap IntKind.u32 g))), [])))))) := by
  kernel_rfl

theorem of_loop : LoopOK Try.prog ofE (loopAt (codeOf Try.f19) 0) := by
  refine loopSumm_ok EnvOK.nil (noLoops (by kernel_rfl)) ofSt ofInv (fun x => 8 - x.2.2) ofPick ofEnd ?_ (by kernel_rfl)
  rintro ⟨k, g, i⟩ h1 Q hq
  have h1 : i ≤ 8 := h1
  refine round_keep [0, 1, 5, 13] ?_
  rw [of_tree]
  refine T.hite (fun h => ?_) (fun h => ?_)
  · have h : i < 8 := by simp at h; omega
    have hw : IntKind.wrap IntKind.i64 ((i : Int) + 1) = ((i + 1 : Nat) : Int) := by rw [IntWalk.i64_in _ (by omega)]; omega
    refine T.hchk (by rw [IntWalk.i64_in _ (by omega)]; simp; omega) ?_
    exact Round.go (k, g, i + 1) id (show i + 1 ≤ 8 by omega) (by dsimp only; omega) (SubSt.mk (by simp [ofSt, SubFr, slotAt, ren, below, hw, fnvO, stepO]) (Sub.nil _ _)) hq
  · have h : i = 8 := by simp at h; omega
    subst h
    exact Round.out id ⟨[(1, .int .i64 g), (5, .int .u32 (fnvO k 8))], []⟩ (SubSt.mk (by simp [SubFr, slotAt, ren, below]) (Sub.nil _ _)) hq

def ofG (k g : Int) : Int := if 1 ≤ g ∧ g ≤ 64 then fnvO k 8 % g else 0
def ofS : List AV → T AV
  | [.int .i64 k, .int .i64 g] => .ret (.int .i64 (ofG k g))
  | _ => .fail

theorem fnvO_range (k : Int) : ∀ i, 0 ≤ fnvO k i ∧ fnvO k i < 4294967296
  | 0 => by simp [fnvO]
  | i + 1 => by
    simp only [fnvO, stepO]
    rw [IntKind.wrap_u32]
    omega

theorem of_ok : SummOK Try.prog 19 (.pure fun args _ => ofS args) := by
  refine pure_fn (E := ofE) (c := codeOf Try.f19) (fun args w => Try.call19 args w) Try.func19 rfl EnvOK.nil (oneLoop (by kernel_rfl) of_loop) rfl rfl ?_
  intro args Q hq
  unfold ofS at hq ⊢
  split at hq
  · rename_i k g
    refine ⟨by simp [plainL, plain], by simp [plain, T.holds], fun Q hq => ?_⟩
    have hq : Q (AV.int .i64 (ofG k g)) := hq
    rw [of_fn]
    by_cases h : 1 ≤ g ∧ g ≤ 64
    · have hr := fnvO_range k 8
      have e1 : IntKind.wrap .u32 g = g := IntWalk.u32_in _ (by omega)
      have e0 := Int.emod_nonneg (fnvO k 8) (show g ≠ 0 by omega)
      have e3 := Int.emod_lt_of_pos (fnvO k 8) (show 0 < g by omega)
      have e2 : IntKind.wrap .i64 (Int.tmod (fnvO k 8) g) = fnvO k 8 % g := by rw [Int.tmod_eq_emod_of_nonneg hr.1, IntWalk.i64_in _ (by omega)]
      simp only [ofG, h, and_self, if_true] at hq
      simp only [e1, e2]
      refine T.hite (fun h1 => by simp at h1; omega) (fun _ => T.hite (fun h1 => by simp at h1; omega) (fun _ => ?_))
      exact T.hneed ⟨id, SubSt.mk (by simp [ofSt, SubFr, slotAt, ren, below, fnvO]) (Sub.nil _ _)⟩ (T.hneed (Nat.zero_le _) (T.hchk (by simp; omega) ⟨by simp [plain], hq⟩))
    · have hq : Q (AV.int .i64 0) := by simpa [ofG, h] using hq
      have hr : plain (AV.int IntKind.i64 0) = true ∧ Q (AV.int .i64 0) := ⟨by simp [plain], hq⟩
      refine T.hite (fun h1 => hr) (fun h0 => T.hite (fun h1 => hr) (fun h1 => ?_))
      exfalso
      simp at h0 h1
      exact h ⟨h0, h1⟩
  · exact hq.elim

end Go.Proofs.Ytnfngaapjodpcaa
