/-
  Layer 8: Of; works.
-/
import Derived.Test.YtfpnbeikaannaaaHA
namespace Go.Proofs.Ytfpnbeikaannaaa
open Go.Ox
set_option maxRecDepth 100000
set_option linter.unusedVariables false
set_option linter.unusedSimpArgs false

def stepO (k s : Int) (i : Nat) : Int :=
  IntKind.wrap .u32 (bits BinOp.xor .u32 s (IntKind.wrap .u32 (IntKind.wrap .u8 (Int.fdiv (IntKind.wrap .u64 k) (2 ^ min (Int.toNat (IntKind.wrap .i64 (8 * (i : Int)))) 64)))) * 16777619)
def fnvO (k : Int) : Nat → Int
  | 0 => 2166136261
  | i + 1 => stepO k (fnvO k i) i
def ofSt (x : Int × Int × Nat) : St := ⟨[(0, .int .i64 x.1), (1, .int .i64 x.2.1), (5, .int .u32 (fnvO x.1 x.2.2)), (13, .int .i64 x.2.2)], []⟩
def ofInv (x : Int × Int × Nat) : Prop := x.2.2 ≤ 8
def ofPick (st : St) : Option (Int × Int × Nat) :=
  match slotAt st.fr 0, slotAt st.fr 1 with
  | some (.int _ a), some (.int _ b) => some (a, b, 0)
  | _, _ => none
def ofEnd (x : Int × Int × Nat) : T (Ex × St) := .ret (.exit 0, ⟨[(1, .int .i64 x.2.1), (5, .int .u32 (fnvO x.1 8))], []⟩)
noncomputable def ofE : Env := { nt := 33, n0 := 0, fns := [], loop := fun k => if k = 5 then loopSumm 0 ofSt ofInv ofPick ofEnd else fun _ => .fail }

theorem of_tree (k g : Int) (i : Nat) : keepT [0, 1, 5, 13] (acode Try.prog ofE (loopAt (codeOf Try.f12) 0) (ofSt (k, g, i))) = 
  T.ite (decide ((↑i : Int) < (8 : Int)))
    (T.chk (decide ((0 : Int) ≤ IntKind.wrap IntKind.i64 ((8 : Int) * (↑i : Int))))
      (T.ret
        (Ex.norm,
          St.mk
            [((0 : Nat), AV.int IntKind.i64 k), ((1 : Nat), AV.int IntKind.i64 g), ((5 : Nat), AV.int IntKind.u32 (IntKind.wrap IntKind.u32 (bits BinOp.xor IntKind.u32 (fnvO k i) (IntKind.wrap IntKind.u32 (IntKind.wrap IntKind.u8 (Int.fdiv (IntKind.wrap IntKind.u64 k) ((2 : Int) ^ min (Int.toNat (IntKind.wrap IntKind.i64 ((8 : Int) * (↑i : Int)))) (64 : Nat))))) * (16777619 : Int)))),
              ((13 : Nat), AV.int IntKind.i64 (IntKind.wrap IntKind.i64 ((↑i : Int) + (1 : Int))))]
            [])))
    (T.ret (Ex.exit (0 : Nat), St.mk [((0 : Nat), AV.int IntKind.i64 k), ((1 : Nat), AV.int IntKind.i64 g), ((5 : Nat), AV.int IntKind.u32 (fnvO k i)), ((13 : Nat), AV.int IntKind.i64 (↑i : Int))] [])) := by
  kernel_rfl

theorem of_fn (k g : Int) : afn Try.prog ofE Try.f12 (codeOf Try.f12) [.int .i64 k, .int .i64 g] [] = 
  T.ite (decide (g < (1 : Int))) (T.ret (AV.int IntKind.i64 (0 : Int), []))
    (T.ite (decide (g > (64 : Int))) (T.ret (AV.int IntKind.i64 (0 : Int), []))
      (T.need (∃ ρ, SubSt (0 : Nat) ρ (St.mk [((0 : Nat), AV.int IntKind.i64 k), ((1 : Nat), AV.int IntKind.i64 g), ((5 : Nat), AV.int IntKind.u32 (2166136261 : Int)), ((13 : Nat), AV.int IntKind.i64 (0 : Int))] []) (ofSt (k, g, (0 : Nat))))
        (T.need (ofInv (k, g, (0 : Nat))) (T.chk (!IntKind.wrap IntKind.u32 g == (0 : Int)) (T.ret (AV.int IntKind.i64 (IntKind.wrap IntKind.i64 (Int.tmod (fnvO k (8 : Nat)) (IntKind.wrap IntKind.u32 g))), [])))))) := by
  kernel_rfl

theorem of_loop : LoopOK Try.prog ofE (loopAt (codeOf Try.f12) 0) := by
  refine loopSumm_ok EnvOK.nil (noLoops (by kernel_rfl)) ofSt ofInv (fun x => 8 - x.2.2) ofPick ofEnd ?_ (by kernel_rfl)
  rintro ⟨k, g, i⟩ h1 Q hq
  have h1 : i ≤ 8 := h1
  refine round_keep [0, 1, 5, 13] ?_
  rw [of_tree]
  refine T.hite (fun h => ?_) (fun h => ?_)
  · have h : i < 8 := by simp at h; omega
    have hw : IntKind.wrap IntKind.i64 ((i : Int) + 1) = ((i + 1 : Nat) : Int) := by rw [IntWalk.i64_in _ (by omega)]; omega
    refine T.hchk (by rw [IntWalk.i64_in _ (by omega)]; simp; omega) ?_
    exact Round.go (k, g, i + 1) id (show i + 1 ≤ 8 by omega) (by dsimp only; omega) (SubSt.mk (by simp [ofSt, SubFr, slotAt, ren, below, hw, fnvO, stepO]) (Sub.nil _ _)) hq
  · have h : i = 8 := by simp at h; omega
    subst h
    exact Round.out id ⟨[(1, .int .i64 g), (5, .int .u32 (fnvO k 8))], []⟩ (SubSt.mk (by simp [SubFr, slotAt, ren, below]) (Sub.nil _ _)) hq

def ofG (k g : Int) : Int := if 1 ≤ g ∧ g ≤ 64 then fnvO k 8 % g else 0
def ofS : List AV → T AV
  | [.int .i64 k, .int .i64 g] => .ret (.int .i64 (ofG k g))
  | _ => .fail

theorem fnvO_range (k : Int) : ∀ i, 0 ≤ fnvO k i ∧ fnvO k i < 4294967296
  | 0 => by simp [fnvO]
  | i + 1 => by
    simp only [fnvO, stepO]
    rw [IntKind.wrap_u32]
    omega

theorem of_ok : SummOK Try.prog 12 (.pure fun args _ => ofS args) := by
  refine pure_fn (E := ofE) (c := codeOf Try.f12) (fun args w => Try.call12 args w) Try.func12 rfl EnvOK.nil (oneLoop (by kernel_rfl) of_loop) rfl rfl ?_
  intro args Q hq
  unfold ofS at hq ⊢
  split at hq
  · rename_i k g
    refine ⟨by simp [plainL, plain], by simp [plain, T.holds], fun Q hq => ?_⟩
    have hq : Q (AV.int .i64 (ofG k g)) := hq
    rw [of_fn]
    by_cases h : 1 ≤ g ∧ g ≤ 64
    · have hr := fnvO_range k 8
      have e1 : IntKind.wrap .u32 g = g := IntWalk.u32_in _ (by omega)
      have e0 := Int.emod_nonneg (fnvO k 8) (show g ≠ 0 by omega)
      have e3 := Int.emod_lt_of_pos (fnvO k 8) (show 0 < g by omega)
      have e2 : IntKind.wrap .i64 (Int.tmod (fnvO k 8) g) = fnvO k 8 % g := by rw [Int.tmod_eq_emod_of_nonneg hr.1, IntWalk.i64_in _ (by omega)]
      simp only [ofG, h, and_self, if_true] at hq
      simp only [e1, e2]
      refine T.hite (fun h1 => by simp at h1; omega) (fun _ => T.hite (fun h1 => by simp at h1; omega) (fun _ => ?_))
      exact T.hneed ⟨id, SubSt.mk (by simp [ofSt, SubFr, slotAt, ren, below, fnvO]) (Sub.nil _ _)⟩ (T.hneed (Nat.zero_le _) (T.hchk (by simp; omega) ⟨by simp [plain], hq⟩))
    · have hq : Q (AV.int .i64 0) := by simpa [ofG, h] using hq
      have hr : plain (AV.int IntKind.i64 0) = true ∧ Q (AV.int .i64 0) := ⟨by simp [plain], hq⟩
      refine T.hite (fun h1 => hr) (fun h0 => T.hite (fun h1 => hr) (fun h1 => ?_))
      exfalso
      simp at h0 h1
      exact h ⟨h0, h1⟩
  · exact hq.elim

noncomputable def woE : Env := { nt := Try.f16.ntmps, n0 := 0, fns := [(10, .pure fun args _ => raS args), (12, .pure fun args _ => ofS args), (14, .pure fun args _ => owS args)], loop := fun _ _ => .fail }

theorem woE_ok : EnvOK Try.prog woE.fns := EnvOK.cons ra_ok (EnvOK.cons of_ok (EnvOK.cons ow_ok EnvOK.nil))

theorem wo_fn : afn Try.prog woE Try.f16 (codeOf Try.f16) [] [] = 
  T.ite true (T.ite true (T.ite true (T.ite true (T.ite true (T.ite true (T.ret (AV.bool true, [])) (T.ret (AV.ff, []))) (T.ret (AV.ff, []))) (T.ret (AV.ff, []))) (T.ret (AV.ff, []))) (T.ret (AV.ff, []))) (T.ret (AV.ff, [])) := by
  kernel_rfl

def woS : List AV → T AV
  | [] => .ret (.bool true)
  | _ => .fail

noncomputable def inE : Env := { nt := Try.f5.ntmps, n0 := 0, fns := [(10, .pure fun args _ => raS args), (12, .pure fun args _ => ofS args), (14, .pure fun args _ => owS args), (16, .pure fun args _ => woS args)], loop := fun _ _ => .fail }

theorem in_fn (k g : Int) : afn Try.prog inE Try.f5 (codeOf Try.f5) [.int .i64 k, .int .i64 g] [] = 
  T.ite (decide (g < (1 : Int))) (T.ite (ofG k g == (0 : Int)) (T.ret (AV.bool true, [])) (T.ret (AV.ff, [])))
    (T.ite (decide (g > (64 : Int))) (T.ite (ofG k g == (0 : Int)) (T.ret (AV.bool true, [])) (T.ret (AV.ff, []))) (T.ite (decide (ofG k g ≥ (0 : Int))) (T.ite (decide (ofG k g < g)) (T.ite (ofG k g == ofG k g) (T.ite (ofG k (1 : Int) == (0 : Int)) (T.ret (AV.bool true, [])) (T.ret (AV.ff, []))) (T.ret (AV.ff, []))) (T.ret (AV.ff, []))) (T.ret (AV.ff, [])))) := by
  kernel_rfl

noncomputable def riE : Env := { inE with nt := Try.f6.ntmps }

theorem ri_fn (x p g : Int) : afn Try.prog riE Try.f6 (codeOf Try.f6) [.int .i64 x, .int .i64 p, .int .i64 g] [] = 
  T.ite (decide (g < (2 : Int))) (T.ret (AV.bool true, []))
    (T.ite (decide (g > (64 : Int))) (T.ret (AV.bool true, []))
      (T.ite (decide (p < (1 : Int))) (T.ret (AV.bool true, []))
        (T.ite (decide (p ≥ g)) (T.ret (AV.bool true, []))
          (T.ite (decide (x < (0 : Int))) (T.ret (AV.bool true, []))
            (T.ite (decide (x ≥ IntKind.wrap IntKind.i64 (g - (1 : Int)))) (T.ret (AV.bool true, []))
              (T.ite (decide (owG (IntKind.wrap IntKind.i64 (x + (1 : Int))) p g ≥ owG x p g))
                (T.ite (decide (owG (IntKind.wrap IntKind.i64 (x + (1 : Int))) p g ≤ IntKind.wrap IntKind.i64 (owG x p g + (1 : Int))))
                  (T.ite (decide (owG x (IntKind.wrap IntKind.i64 (p + (1 : Int))) g ≥ owG x p g)) (T.ite (owG (IntKind.wrap IntKind.i64 (g - (1 : Int))) p g == IntKind.wrap IntKind.i64 (p - (1 : Int))) (T.ite (owG (0 : Int) p g == (0 : Int)) (T.ret (AV.bool true, [])) (T.ret (AV.ff, []))) (T.ret (AV.ff, []))) (T.ret (AV.ff, []))) (T.ret (AV.ff, [])))
                (T.ret (AV.ff, [])))))))) := by
  kernel_rfl

noncomputable def haE : Env := { inE with nt := Try.f7.ntmps }

theorem ha_fn (x p g : Int) : afn Try.prog haE Try.f7 (codeOf Try.f7) [.int .i64 x, .int .i64 p, .int .i64 g] [] = 
  T.ite (decide (g < (1 : Int))) (T.ret (AV.bool true, []))
    (T.ite (decide (g > (64 : Int))) (T.ret (AV.bool true, []))
      (T.ite (decide (p < (1 : Int))) (T.ret (AV.bool true, []))
        (T.chk true
          (T.ite (decide (p > IntKind.wrap IntKind.i64 (Int.tdiv g (2 : Int)))) (T.ret (AV.bool true, []))
            (T.ite (decide (x < (0 : Int))) (T.ret (AV.bool true, []))
              (T.ite (decide (x ≥ g)) (T.ret (AV.bool true, []))
                (T.chk true
                  (T.ite (IntKind.wrap IntKind.i64 (Int.tdiv (owG x (IntKind.wrap IntKind.i64 ((2 : Int) * p)) g) (2 : Int)) == owG x p g)
                    (T.ite (rlo (IntKind.wrap IntKind.i64 ((2 : Int) * owG x p g)) (IntKind.wrap IntKind.i64 ((2 : Int) * p)) g == rlo (owG x p g) p g)
                      (T.ite (rhi (IntKind.wrap IntKind.i64 ((2 : Int) * owG x p g)) (IntKind.wrap IntKind.i64 ((2 : Int) * p)) g == rlo (IntKind.wrap IntKind.i64 (IntKind.wrap IntKind.i64 ((2 : Int) * owG x p g) + (1 : Int))) (IntKind.wrap IntKind.i64 ((2 : Int) * p)) g)
                        (T.ite (rhi (IntKind.wrap IntKind.i64 (IntKind.wrap IntKind.i64 ((2 : Int) * owG x p g) + (1 : Int))) (IntKind.wrap IntKind.i64 ((2 : Int) * p)) g == rhi (owG x p g) p g) (T.ret (AV.bool true, [])) (T.ret (AV.ff, []))) (T.ret (AV.ff, [])))
                      (T.ret (AV.ff, [])))
                    (T.ret (AV.ff, [])))))))))) := by
  kernel_rfl

theorem wo_ok : SummOK Try.prog 16 (.pure fun args _ => woS args) := by
  refine pure_fn (E := woE) (c := codeOf Try.f16) (fun args w => Try.call16 args w) Try.func16 rfl woE_ok (noLoops (by kernel_rfl)) rfl rfl ?_
  intro args Q hq
  unfold woS at hq ⊢
  split at hq
  · refine ⟨rfl, by simp [plain, T.holds], fun Q hq => ?_⟩
    have hq : Q (AV.bool true) := hq
    rw [wo_fn]
    simp only [T.holds, plain, hq, Bool.true_eq_false, false_implies, true_and, and_true, forall_const]
  · exact hq.elim

theorem inE_ok : EnvOK Try.prog inE.fns := EnvOK.cons ra_ok (EnvOK.cons of_ok (EnvOK.cons ow_ok (EnvOK.cons wo_ok EnvOK.nil)))

theorem in_law (k g : Int) (w : World) : Calls Try.prog 5 #[.int .i64 k, .int .i64 g] w fun e w' => e = .returned (.bool true) ∧ RowKit.Grown w w' := by
  refine law_walk (E := inE) (c := codeOf Try.f5) Try.func5 rfl inE_ok (noLoops (by kernel_rfl)) rfl rfl [.int .i64 k, .int .i64 g] rfl (by simp [concL, conc]) ?_ w
  rw [in_fn]
  have h1 : ofG k 1 = 0 := by simp [ofG]
  by_cases h : 1 ≤ g ∧ g ≤ 64
  · have e0 := Int.emod_nonneg (fnvO k 8) (show g ≠ 0 by omega)
    have e3 := Int.emod_lt_of_pos (fnvO k 8) (show 0 < g by omega)
    have h2 : ofG k g = fnvO k 8 % g := by simp [ofG, h]
    rw [h1, h2]
    simp [T.holds, AV.yes]
    omega
  · have h2 : ofG k g = 0 := by simp [ofG, h]
    rw [h1, h2]
    simp [T.holds, AV.yes]
    omega

theorem owG_eq {x p g : Int} (hg : g ≤ 64) (hp : 1 ≤ p) (hpg : p ≤ g) (h0 : 0 ≤ x) (hx : x < g) : owG x p g = x * p / g := by
  have : okG p g = true := okG_iff.2 ⟨by omega, hg, hp, hpg⟩
  simp [owG, this, h0, hx]

theorem ri_law (x p g : Int) (w : World) : Calls Try.prog 6 #[.int .i64 x, .int .i64 p, .int .i64 g] w fun e w' => e = .returned (.bool true) ∧ RowKit.Grown w w' := by
  refine law_walk (E := riE) (c := codeOf Try.f6) Try.func6 rfl inE_ok (noLoops (by kernel_rfl)) rfl rfl [.int .i64 x, .int .i64 p, .int .i64 g] rfl (by simp [concL, conc]) ?_ w
  rw [ri_fn]
  have hy : (AV.bool true, ([] : AM)).1.yes = true := rfl
  refine T.hite (fun _ => hy) (fun a1 => T.hite (fun _ => hy) (fun a2 => T.hite (fun _ => hy) (fun a3 => T.hite (fun _ => hy) (fun a4 => T.hite (fun _ => hy) (fun a5 => ?_)))))
  simp only [decide_eq_false_iff_not] at a1 a2 a3 a4 a5
  have w1 : IntKind.wrap .i64 (g - 1) = g - 1 := IntWalk.i64_in _ (by omega)
  rw [w1]
  refine T.hite (fun _ => hy) (fun a6 => ?_)
  simp only [decide_eq_false_iff_not] at a6
  have w2 : IntKind.wrap .i64 (x + 1) = x + 1 := IntWalk.i64_in _ (by omega)
  have w3 : IntKind.wrap .i64 (p + 1) = p + 1 := IntWalk.i64_in _ (by omega)
  have w4 : IntKind.wrap .i64 (p - 1) = p - 1 := IntWalk.i64_in _ (by omega)
  have b1 := owG_eq (x := x) (p := p) (g := g) (by omega) (by omega) (by omega) (by omega) (by omega)
  have b2 := owG_eq (x := x + 1) (p := p) (g := g) (by omega) (by omega) (by omega) (by omega) (by omega)
  have b3 := owG_eq (x := x) (p := p + 1) (g := g) (by omega) (by omega) (by omega) (by omega) (by omega)
  have b4 := owG_eq (x := g - 1) (p := p) (g := g) (by omega) (by omega) (by omega) (by omega) (by omega)
  have b5 := owG_eq (x := 0) (p := p) (g := g) (by omega) (by omega) (by omega) (by omega) (by omega)
  have m0 : 0 ≤ x * p := Int.mul_nonneg (by omega) (by omega)
  have m1 : x * p ≤ 64 * 64 := Int.mul_le_mul (by omega) (by omega) (by omega) (by omega)
  have d0 : 0 ≤ x * p / g := Int.ediv_nonneg (by omega) (by omega)
  have d1 : x * p / g ≤ x * p := Int.ediv_le_self _ (by omega)
  have w5 : IntKind.wrap .i64 (x * p / g + 1) = x * p / g + 1 := IntWalk.i64_in _ (by omega)
  have c1 : (x + 1) * p = x * p + p := by rw [Int.add_mul, Int.one_mul]
  have c2 : x * (p + 1) = x * p + x := by rw [Int.mul_add, Int.mul_one]
  have f1 : x * p / g ≤ (x * p + p) / g := Int.ediv_le_ediv (by omega) (by omega)
  have f2 : (x * p + p) / g ≤ x * p / g + 1 := by
    have : (x * p + g) / g = x * p / g + 1 := by rw [Int.add_ediv_of_dvd_right ⟨1, by omega⟩, Int.ediv_self (by omega)]
    rw [← this]; exact Int.ediv_le_ediv (by omega) (by omega)
  have f3 : x * p / g ≤ (x * p + x) / g := Int.ediv_le_ediv (by omega) (by omega)
  have f4 : (g - 1) * p / g = p - 1 := by
    have : (g - 1) * p = (g - p) + (p - 1) * g := by
      rw [Int.sub_mul, Int.sub_mul, Int.mul_comm g p]; omega
    rw [this, Int.add_mul_ediv_right _ _ (by omega), Int.ediv_eq_zero_of_lt (by omega) (by omega)]; omega
  have f5 : 0 * p / g = 0 := by rw [Int.zero_mul, Int.zero_ediv]
  rw [w2, w3, w4, b1, b2, b3, b4, b5, w5, f4, f5, c1, c2]
  simp [T.holds, AV.yes]
  omega

end Go.Proofs.Ytfpnbeikaannaaa
