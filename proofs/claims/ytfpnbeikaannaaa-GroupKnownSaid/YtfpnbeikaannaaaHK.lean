/-
  Layer 8: GroupKnown.
-/
import Derived.Test.YtfpnbeikaannaaaHG
namespace Go.Proofs.Ytfpnbeikaannaaa
open Go.Ox
set_option maxRecDepth 100000
set_option linter.unusedVariables false
set_option linter.unusedSimpArgs false

theorem law_eff {P : Program} {E : Env} {f : FuncId} {fn : Func} {c : Code} (hf : P.funcs[f]? = some fn) (hb : fn.body = some c) (hE : EnvOK P E.fns) (hL : ∀ c' ∈ loopsIn c, LoopOK P E c') (hnt : E.nt = fn.ntmps) (hn0 : E.n0 = 0)
    (args : List AV) (ht : (afn P E fn c args []).holds fun r => r.1.yes = true) : EffAt P f args [] (.ret (.bool true, [])) :=
  fn_ok hf hb hE hL hnt (by simpa using hn0) fun Q hq => T.holds_mono (fun r hr => ⟨id, .bool true, [], hq, fun loc => by rw [AV.yes_conc hr]; simp [ren, conc], by simp [below], Sub.nil _ _⟩) _ ht

theorem te_yes (k t p g : Int) : EffAt Try.prog 3 [.int .i64 k, .int .i64 t, .int .i64 p, .int .i64 g] [] (.ret (.bool true, [])) := by
  refine law_eff (E := teE) (c := codeOf Try.f3) Try.func3 rfl teE_ok (noLoops (by kernel_rfl)) rfl rfl [.int .i64 k, .int .i64 t, .int .i64 p, .int .i64 g] ?_
  rw [te_fn]
  simp [T.holds, AV.yes]

theorem gp_yes (p g : Int) : EffAt Try.prog 4 [.int .i64 p, .int .i64 g] [] (.ret (.bool true, [])) := by
  refine law_eff (E := gpE) (c := codeOf Try.f4) Try.func4 rfl gpE_ok (oneLoop (by kernel_rfl) gp1_loop) rfl rfl [.int .i64 p, .int .i64 g] ?_
  rw [gp_fn]
  have hy : (AV.bool true, ([] : AM)).1.yes = true := rfl
  by_cases hg : okG p g = true
  · have hk := okG_iff.1 hg
    refine T.hite (fun h => absurd h (by rw [decide_eq_true_eq]; omega)) (fun _ => T.hite (fun h => absurd h (by rw [decide_eq_true_eq]; omega)) (fun _ => T.hite (fun h => absurd h (by rw [decide_eq_true_eq]; omega)) (fun _ => T.hite (fun h => absurd h (by rw [decide_eq_true_eq]; omega)) (fun _ => ?_))))
    have hl : loG 0 p g = 0 := by
      unfold loG; rw [Int.zero_mul, Int.ediv_eq_zero_of_lt (by omega) (by omega)]
    exact T.hneed ⟨id, SubSt.mk (by simp [gp1, SubFr, slotAt, ren, below, hl]) (Sub.nil _ _)⟩ (T.hneed ⟨⟨by dsimp only; omega, by dsimp only; omega⟩, ⟨by dsimp only; omega, by dsimp only; omega⟩, by dsimp only; omega⟩ (T.hite (fun _ => hy) (fun h => by simp at h)))
  · have hr : raG 0 p g = false := by simp [raG, hg]
    have r1 : rlo 0 p g = 0 := by simp [rlo, hr]
    have r2 : rhi 0 p g = 0 := by simp [rhi, hr]
    have hn : ¬ (1 ≤ g ∧ g ≤ 64 ∧ 1 ≤ p ∧ p ≤ g) := fun h => hg (okG_iff.2 h)
    rw [r1, r2]
    have hb : (T.ite ((0 : Int) == 0) (T.ite ((0 : Int) == 0) (T.ret (AV.bool true, [])) (T.ret (AV.ff, []))) (T.ret (AV.ff, [])) : T (AV × AM)).holds fun r => r.1.yes = true := by simp [T.holds, AV.yes]
    refine T.hite (fun _ => hb) (fun a1 => T.hite (fun _ => hb) (fun a2 => T.hite (fun _ => hb) (fun a3 => T.hite (fun _ => hb) (fun a4 => ?_))))
    simp only [decide_eq_false_iff_not] at a1 a2 a3 a4
    exact absurd ⟨by omega, by omega, by omega, by omega⟩ hn

theorem ri_yes (x p g : Int) : EffAt Try.prog 6 [.int .i64 x, .int .i64 p, .int .i64 g] [] (.ret (.bool true, [])) := by
  refine law_eff (E := riE) (c := codeOf Try.f6) Try.func6 rfl inE_ok (noLoops (by kernel_rfl)) rfl rfl [.int .i64 x, .int .i64 p, .int .i64 g] ?_
  rw [ri_fn]
  have hy : (AV.bool true, ([] : AM)).1.yes = true := rfl
  refine T.hite (fun _ => hy) (fun a1 => T.hite (fun _ => hy) (fun a2 => T.hite (fun _ => hy) (fun a3 => T.hite (fun _ => hy) (fun a4 => T.hite (fun _ => hy) (fun a5 => ?_)))))
  simp only [decide_eq_false_iff_not] at a1 a2 a3 a4 a5
  have w1 : IntKind.wrap .i64 (g - 1) = g - 1 := IntWalk.i64_in _ (by omega)
  rw [w1]
  refine T.hite (fun _ => hy) (fun a6 => ?_)
  simp only [decide_eq_false_iff_not] at a6
  have w2 : IntKind.wrap .i64 (x + 1) = x + 1 := IntWalk.i64_in _ (by omega)
  have w3 : IntKind.wrap .i64 (p + 1) = p + 1 := IntWalk.i64_in _ (by omega)
  have w4 : IntKind.wrap .i64 (p - 1) = p - 1 := IntWalk.i64_in _ (by omega)
  have b1 := owG_eq (x := x) (p := p) (g := g) (by omega) (by omega) (by omega) (by omega) (by omega)
  have b2 := owG_eq (x := x + 1) (p := p) (g := g) (by omega) (by omega) (by omega) (by omega) (by omega)
  have b3 := owG_eq (x := x) (p := p + 1) (g := g) (by omega) (by omega) (by omega) (by omega) (by omega)
  have b4 := owG_eq (x := g - 1) (p := p) (g := g) (by omega) (by omega) (by omega) (by omega) (by omega)
  have b5 := owG_eq (x := 0) (p := p) (g := g) (by omega) (by omega) (by omega) (by omega) (by omega)
  have m0 : 0 ≤ x * p := Int.mul_nonneg (by omega) (by omega)
  have m1 : x * p ≤ 64 * 64 := Int.mul_le_mul (by omega) (by omega) (by omega) (by omega)
  have d0 : 0 ≤ x * p / g := Int.ediv_nonneg (by omega) (by omega)
  have d1 : x * p / g ≤ x * p := Int.ediv_le_self _ (by omega)
  have w5 : IntKind.wrap .i64 (x * p / g + 1) = x * p / g + 1 := IntWalk.i64_in _ (by omega)
  have c1 : (x + 1) * p = x * p + p := by rw [Int.add_mul, Int.one_mul]
  have c2 : x * (p + 1) = x * p + x := by rw [Int.mul_add, Int.mul_one]
  have f1 : x * p / g ≤ (x * p + p) / g := Int.ediv_le_ediv (by omega) (by omega)
  have f2 : (x * p + p) / g ≤ x * p / g + 1 := by
    have : (x * p + g) / g = x * p / g + 1 := by rw [Int.add_ediv_of_dvd_right ⟨1, by omega⟩, Int.ediv_self (by omega)]
    rw [← this]; exact Int.ediv_le_ediv (by omega) (by omega)
  have f3 : x * p / g ≤ (x * p + x) / g := Int.ediv_le_ediv (by omega) (by omega)
  have f4 : (g - 1) * p / g = p - 1 := by
    have : (g - 1) * p = (g - p) + (p - 1) * g := by
      rw [Int.sub_mul, Int.sub_mul, Int.mul_comm g p]; omega
    rw [this, Int.add_mul_ediv_right _ _ (by omega), Int.ediv_eq_zero_of_lt (by omega) (by omega)]; omega
  have f5 : 0 * p / g = 0 := by rw [Int.zero_mul, Int.zero_ediv]
  rw [w2, w3, w4, b1, b2, b3, b4, b5, w5, f4, f5, c1, c2]
  simp [T.holds, AV.yes]
  omega

theorem in_yes (k g : Int) : EffAt Try.prog 5 [.int .i64 k, .int .i64 g] [] (.ret (.bool true, [])) := by
  refine law_eff (E := inE) (c := codeOf Try.f5) Try.func5 rfl inE_ok (noLoops (by kernel_rfl)) rfl rfl [.int .i64 k, .int .i64 g] ?_
  rw [in_fn]
  have h1 : ofG k 1 = 0 := by simp [ofG]
  by_cases h : 1 ≤ g ∧ g ≤ 64
  · have e0 := Int.emod_nonneg (fnvO k 8) (show g ≠ 0 by omega)
    have e3 := Int.emod_lt_of_pos (fnvO k 8) (show 0 < g by omega)
    have h2 : ofG k g = fnvO k 8 % g := by simp [ofG, h]
    rw [h1, h2]
    simp [T.holds, AV.yes]
    omega
  · have h2 : ofG k g = 0 := by simp [ofG, h]
    rw [h1, h2]
    simp [T.holds, AV.yes]
    omega

def tru (n : Nat) : List AV → T AV
  | [.int .i64 _, .int .i64 _] => if n = 2 then .ret (.bool true) else .fail
  | [.int .i64 _, .int .i64 _, .int .i64 _] => if n = 3 then .ret (.bool true) else .fail
  | [.int .i64 _, .int .i64 _, .int .i64 _, .int .i64 _] => if n = 4 then .ret (.bool true) else .fail
  | _ => .fail

theorem tru_ok {f : FuncId} (n : Nat) (hc : CanEnter Try.prog f) (h2 : n = 2 → ∀ a b : Int, EffAt Try.prog f [.int .i64 a, .int .i64 b] [] (.ret (.bool true, [])))
    (h3 : n = 3 → ∀ a b c : Int, EffAt Try.prog f [.int .i64 a, .int .i64 b, .int .i64 c] [] (.ret (.bool true, []))) (h4 : n = 4 → ∀ a b c d : Int, EffAt Try.prog f [.int .i64 a, .int .i64 b, .int .i64 c, .int .i64 d] [] (.ret (.bool true, []))) :
    SummOK Try.prog f (.pure fun args _ => tru n args) := by
  refine pure_ok hc fun args Q hq => ?_
  unfold tru at hq ⊢
  split at hq
  · by_cases h : n = 2
    · simp only [h, if_true]; exact ⟨by simp [plainL, plain], by simp [plain, T.holds], h2 h _ _⟩
    · simp [h] at hq; exact hq.elim
  · by_cases h : n = 3
    · simp only [h, if_true]; exact ⟨by simp [plainL, plain], by simp [plain, T.holds], h3 h _ _ _⟩
    · simp [h] at hq; exact hq.elim
  · by_cases h : n = 4
    · simp only [h, if_true]; exact ⟨by simp [plainL, plain], by simp [plain, T.holds], h4 h _ _ _ _⟩
    · simp [h] at hq; exact hq.elim
  · exact hq.elim

def kM (f : Nat → Int) : AM := [some (Blk.rows true 1 11 fun j => [.int .i64 (f j)])]
def kA1 (x : (Nat → Int) × Nat) : St := ⟨[(1, .sl 0 0 1 0 11 11), (2, .int .i64 x.2)], kM x.1⟩
def kA2 (x : (Nat → Int) × Nat × Nat) : St := ⟨[(1, .sl 0 0 1 0 11 11), (2, .int .i64 x.2.1), (3, .int .i64 x.2.2)], kM x.1⟩
def qB1 (x : (Nat → Int) × Nat) : St := ⟨[(1, .sl 0 0 1 0 11 11), (4, .int .i64 x.2)], kM x.1⟩
def qB2 (x : (Nat → Int) × Nat × Nat) : St := ⟨[(1, .sl 0 0 1 0 11 11), (4, .int .i64 x.2.1), (5, .int .i64 x.2.2)], kM x.1⟩
def kN (f : Nat → Int) : St := ⟨[(1, .sl 0 0 1 0 11 11)], kM f⟩
def kIA1 (x : (Nat → Int) × Nat) : Prop := x.2 ≤ 66
def kIA2 (x : (Nat → Int) × Nat × Nat) : Prop := x.2.1 ≤ 65 ∧ x.2.2 ≤ 200
def kIB1 (x : (Nat → Int) × Nat) : Prop := x.2 ≤ 11
def kIB2 (x : (Nat → Int) × Nat × Nat) : Prop := x.2.1 < 11 ∧ x.2.2 ≤ 11
def kP1 (st : St) : Option ((Nat → Int) × Nat) :=
  match AM.get st.m 0 with
  | some b => some (intAt b, 0)
  | _ => none
def kP2 (s : Nat) (st : St) : Option ((Nat → Int) × Nat × Nat) :=
  match AM.get st.m 0, slotAt st.fr s with
  | some b, some (.int _ g) => some (intAt b, g.toNat, 0)
  | _, _ => none
def kXA1 (x : (Nat → Int) × Nat) : T (Ex × St) := .ret (.exit 0, kN x.1)
def kXA2 (x : (Nat → Int) × Nat × Nat) : T (Ex × St) := .ret (.exit 2, kA1 (x.1, x.2.1))
def kXB1 (x : (Nat → Int) × Nat) : T (Ex × St) := .ret (.exit 4, kN x.1)
def kXB2 (x : (Nat → Int) × Nat × Nat) : T (Ex × St) := .ret (.exit 6, qB1 (x.1, x.2.1))
noncomputable def gkE0 : Env := { nt := Try.f9.ntmps, n0 := 0, fns := [(3, .pure fun args _ => tru 4 args), (4, .pure fun args _ => tru 2 args), (5, .pure fun args _ => tru 2 args), (6, .pure fun args _ => tru 3 args), (16, .pure fun args _ => woS args)], loop := fun k => if k = 3 then loopSumm 0 kA1 kIA1 kP1 kXA1 else if k = 6 then loopSumm 0 kA2 kIA2 (kP2 2) kXA2 else if k = 11 then loopSumm 0 qB1 kIB1 kP1 kXB1 else if k = 14 then loopSumm 0 qB2 kIB2 (kP2 4) kXB2 else fun _ => .fail }

theorem gkE0_ok : EnvOK Try.prog gkE0.fns :=
  EnvOK.cons (tru_ok 4 (fun args w => Try.call3 args w) (fun h => by cases h) (fun h => by cases h) (fun _ k t p g => te_yes k t p g))
    (EnvOK.cons (tru_ok 2 (fun args w => Try.call4 args w) (fun _ p g => gp_yes p g) (fun h => by cases h) (fun h => by cases h))
      (EnvOK.cons (tru_ok 2 (fun args w => Try.call5 args w) (fun _ k g => in_yes k g) (fun h => by cases h) (fun h => by cases h))
        (EnvOK.cons (tru_ok 3 (fun args w => Try.call6 args w) (fun h => by cases h) (fun _ x p g => ri_yes x p g) (fun h => by cases h)) (EnvOK.cons wo_ok EnvOK.nil))))

theorem kA2_tree (f : Nat → Int) (g p : Nat) : keepT [1, 2, 3] (acode Try.prog gkE0 (loopAt (loopAt (codeOf Try.f9) 0) 0) (kA2 (f, g, p))) = 
  T.ite (decide ((↑p : Int) ≤ IntKind.wrap IntKind.i64 ((↑g : Int) + (1 : Int))))
    (T.ite false (T.ret (Ex.ret, St.mk [((1 : Nat), AV.sl (0 : Nat) (0 : Nat) (1 : Nat) (0 : Nat) (11 : Nat) (11 : Nat)), ((2 : Nat), AV.int IntKind.i64 (↑g : Int)), ((3 : Nat), AV.int IntKind.i64 (↑p : Int))] [some (Blk.mk true [] (1 : Nat) (11 : Nat) (fun j => [AV.int IntKind.i64 (f j)]) [])]))
      (T.chk true
        (T.ite false (T.ret (Ex.ret, St.mk [((1 : Nat), AV.sl (0 : Nat) (0 : Nat) (1 : Nat) (0 : Nat) (11 : Nat) (11 : Nat)), ((2 : Nat), AV.int IntKind.i64 (↑g : Int)), ((3 : Nat), AV.int IntKind.i64 (↑p : Int))] [some (Blk.mk true [] (1 : Nat) (11 : Nat) (fun j => [AV.int IntKind.i64 (f j)]) [])]))
          (T.chk true
            (T.ite false (T.ret (Ex.ret, St.mk [((1 : Nat), AV.sl (0 : Nat) (0 : Nat) (1 : Nat) (0 : Nat) (11 : Nat) (11 : Nat)), ((2 : Nat), AV.int IntKind.i64 (↑g : Int)), ((3 : Nat), AV.int IntKind.i64 (↑p : Int))] [some (Blk.mk true [] (1 : Nat) (11 : Nat) (fun j => [AV.int IntKind.i64 (f j)]) [])]))
              (T.ite false (T.ret (Ex.ret, St.mk [((1 : Nat), AV.sl (0 : Nat) (0 : Nat) (1 : Nat) (0 : Nat) (11 : Nat) (11 : Nat)), ((2 : Nat), AV.int IntKind.i64 (↑g : Int)), ((3 : Nat), AV.int IntKind.i64 (↑p : Int))] [some (Blk.mk true [] (1 : Nat) (11 : Nat) (fun j => [AV.int IntKind.i64 (f j)]) [])]))
                (T.chk true
                  (T.ret
                    (Ex.norm,
                      St.mk [((1 : Nat), AV.sl (0 : Nat) (0 : Nat) (1 : Nat) (0 : Nat) (11 : Nat) (11 : Nat)), ((2 : Nat), AV.int IntKind.i64 (↑g : Int)), ((3 : Nat), AV.int IntKind.i64 (IntKind.wrap IntKind.i64 (IntKind.wrap IntKind.i64 ((↑p : Int) + (1 : Int)) + IntKind.wrap IntKind.i64 (Int.tdiv (↑g : Int) (16 : Int)))))]
                        [some (Blk.mk true [] (1 : Nat) (11 : Nat) (fun j => [AV.int IntKind.i64 (f j)]) [])])))))))))
    (T.ret (Ex.exit (2 : Nat), St.mk [((1 : Nat), AV.sl (0 : Nat) (0 : Nat) (1 : Nat) (0 : Nat) (11 : Nat) (11 : Nat)), ((2 : Nat), AV.int IntKind.i64 (↑g : Int)), ((3 : Nat), AV.int IntKind.i64 (↑p : Int))] [some (Blk.mk true [] (1 : Nat) (11 : Nat) (fun j => [AV.int IntKind.i64 (f j)]) [])])) := by
  kernel_rfl

theorem kA1_tree (f : Nat → Int) (g : Nat) : keepT [1, 2] (acode Try.prog gkE0 (loopAt (codeOf Try.f9) 0) (kA1 (f, g))) = 
  T.ite (decide ((↑g : Int) ≤ (65 : Int)))
    (T.need (∃ ρ, SubSt (0 : Nat) ρ (St.mk [((1 : Nat), AV.sl (0 : Nat) (0 : Nat) (1 : Nat) (0 : Nat) (11 : Nat) (11 : Nat)), ((2 : Nat), AV.int IntKind.i64 (↑g : Int)), ((3 : Nat), AV.int IntKind.i64 (0 : Int))] [some (Blk.mk true [] (1 : Nat) (11 : Nat) (fun j => [AV.int IntKind.i64 (f j)]) [])]) (kA2 (f, Int.toNat (↑g : Int), (0 : Nat))))
      (T.need (kIA2 (f, Int.toNat (↑g : Int), (0 : Nat))) (T.ret (Ex.norm, St.mk [((1 : Nat), AV.sl (0 : Nat) (0 : Nat) (1 : Nat) (0 : Nat) (11 : Nat) (11 : Nat)), ((2 : Nat), AV.int IntKind.i64 (IntKind.wrap IntKind.i64 ((↑(Int.toNat (↑g : Int)) : Int) + (1 : Int))))] [some (Blk.mk true [] (1 : Nat) (11 : Nat) (fun j => [AV.int IntKind.i64 (f j)]) [])]))))
    (T.ret (Ex.exit (0 : Nat), St.mk [((1 : Nat), AV.sl (0 : Nat) (0 : Nat) (1 : Nat) (0 : Nat) (11 : Nat) (11 : Nat)), ((2 : Nat), AV.int IntKind.i64 (↑g : Int))] [some (Blk.mk true [] (1 : Nat) (11 : Nat) (fun j => [AV.int IntKind.i64 (f j)]) [])])) := by
  kernel_rfl

theorem qB1_tree (f : Nat → Int) (g : Nat) : keepT [1, 4] (acode Try.prog gkE0 (loopAt (codeOf Try.f9) 1) (qB1 (f, g))) = 
  T.ite (decide ((↑g : Int) < (↑(11 : Nat) : Int)))
    (T.need (∃ ρ, SubSt (0 : Nat) ρ (St.mk [((1 : Nat), AV.sl (0 : Nat) (0 : Nat) (1 : Nat) (0 : Nat) (11 : Nat) (11 : Nat)), ((4 : Nat), AV.int IntKind.i64 (↑g : Int)), ((5 : Nat), AV.int IntKind.i64 (0 : Int))] [some (Blk.mk true [] (1 : Nat) (11 : Nat) (fun j => [AV.int IntKind.i64 (f j)]) [])]) (qB2 (f, Int.toNat (↑g : Int), (0 : Nat))))
      (T.need (kIB2 (f, Int.toNat (↑g : Int), (0 : Nat))) (T.ret (Ex.norm, St.mk [((1 : Nat), AV.sl (0 : Nat) (0 : Nat) (1 : Nat) (0 : Nat) (11 : Nat) (11 : Nat)), ((4 : Nat), AV.int IntKind.i64 (IntKind.wrap IntKind.i64 ((↑(Int.toNat (↑g : Int)) : Int) + (1 : Int))))] [some (Blk.mk true [] (1 : Nat) (11 : Nat) (fun j => [AV.int IntKind.i64 (f j)]) [])]))))
    (T.ret (Ex.exit (4 : Nat), St.mk [((1 : Nat), AV.sl (0 : Nat) (0 : Nat) (1 : Nat) (0 : Nat) (11 : Nat) (11 : Nat)), ((4 : Nat), AV.int IntKind.i64 (↑g : Int))] [some (Blk.mk true [] (1 : Nat) (11 : Nat) (fun j => [AV.int IntKind.i64 (f j)]) [])])) := by
  kernel_rfl

theorem qB2_tree (f : Nat → Int) (g p : Nat) : keepT [1, 4, 5] (acode Try.prog gkE0 (loopAt (loopAt (codeOf Try.f9) 1) 0) (qB2 (f, g, p))) = 
  T.ite (decide ((↑p : Int) < (↑(11 : Nat) : Int)))
    (T.chk (decide ((0 : Int) ≤ (↑g : Int)) && decide ((↑g : Int) < (↑(11 : Nat) : Int)))
      (T.chk (decide ((0 : Nat) + Int.toNat (↑g : Int) < (11 : Nat)))
        (T.chk (decide ((0 : Int) ≤ (↑p : Int)) && decide ((↑p : Int) < (↑(11 : Nat) : Int)))
          (T.chk (decide ((0 : Nat) + Int.toNat (↑p : Int) < (11 : Nat)))
            (T.ite false (T.ret (Ex.ret, St.mk [((1 : Nat), AV.sl (0 : Nat) (0 : Nat) (1 : Nat) (0 : Nat) (11 : Nat) (11 : Nat)), ((4 : Nat), AV.int IntKind.i64 (↑g : Int)), ((5 : Nat), AV.int IntKind.i64 (↑p : Int))] [some (Blk.mk true [] (1 : Nat) (11 : Nat) (fun j => [AV.int IntKind.i64 (f j)]) [])]))
              (T.chk (decide ((0 : Int) ≤ (↑g : Int)) && decide ((↑g : Int) < (↑(11 : Nat) : Int)))
                (T.chk (decide ((0 : Nat) + Int.toNat (↑g : Int) < (11 : Nat)))
                  (T.chk (decide ((0 : Int) ≤ (↑p : Int)) && decide ((↑p : Int) < (↑(11 : Nat) : Int)))
                    (T.chk (decide ((0 : Nat) + Int.toNat (↑p : Int) < (11 : Nat)))
                      (T.chk (decide ((0 : Int) ≤ (↑g : Int)) && decide ((↑g : Int) < (↑(11 : Nat) : Int)))
                        (T.chk (decide ((0 : Nat) + Int.toNat (↑g : Int) < (11 : Nat)))
                          (T.ite false (T.ret (Ex.ret, St.mk [((1 : Nat), AV.sl (0 : Nat) (0 : Nat) (1 : Nat) (0 : Nat) (11 : Nat) (11 : Nat)), ((4 : Nat), AV.int IntKind.i64 (↑g : Int)), ((5 : Nat), AV.int IntKind.i64 (↑p : Int))] [some (Blk.mk true [] (1 : Nat) (11 : Nat) (fun j => [AV.int IntKind.i64 (f j)]) [])]))
                            (T.chk (decide ((0 : Int) ≤ (↑g : Int)) && decide ((↑g : Int) < (↑(11 : Nat) : Int)))
                              (T.chk (decide ((0 : Nat) + Int.toNat (↑g : Int) < (11 : Nat)))
                                (T.chk (decide ((0 : Int) ≤ (↑p : Int)) && decide ((↑p : Int) < (↑(11 : Nat) : Int)))
                                  (T.chk (decide ((0 : Nat) + Int.toNat (↑p : Int) < (11 : Nat)))
                                    (T.ite false (T.ret (Ex.ret, St.mk [((1 : Nat), AV.sl (0 : Nat) (0 : Nat) (1 : Nat) (0 : Nat) (11 : Nat) (11 : Nat)), ((4 : Nat), AV.int IntKind.i64 (↑g : Int)), ((5 : Nat), AV.int IntKind.i64 (↑p : Int))] [some (Blk.mk true [] (1 : Nat) (11 : Nat) (fun j => [AV.int IntKind.i64 (f j)]) [])]))
                                      (T.chk (decide ((0 : Int) ≤ (↑g : Int)) && decide ((↑g : Int) < (↑(11 : Nat) : Int)))
                                        (T.chk (decide ((0 : Nat) + Int.toNat (↑g : Int) < (11 : Nat)))
                                          (T.chk (decide ((0 : Int) ≤ (↑p : Int)) && decide ((↑p : Int) < (↑(11 : Nat) : Int)))
                                            (T.chk (decide ((0 : Nat) + Int.toNat (↑p : Int) < (11 : Nat)))
                                              (T.ite false (T.ret (Ex.ret, St.mk [((1 : Nat), AV.sl (0 : Nat) (0 : Nat) (1 : Nat) (0 : Nat) (11 : Nat) (11 : Nat)), ((4 : Nat), AV.int IntKind.i64 (↑g : Int)), ((5 : Nat), AV.int IntKind.i64 (↑p : Int))] [some (Blk.mk true [] (1 : Nat) (11 : Nat) (fun j => [AV.int IntKind.i64 (f j)]) [])]))
                                                (T.ret (Ex.norm, St.mk [((1 : Nat), AV.sl (0 : Nat) (0 : Nat) (1 : Nat) (0 : Nat) (11 : Nat) (11 : Nat)), ((4 : Nat), AV.int IntKind.i64 (↑g : Int)), ((5 : Nat), AV.int IntKind.i64 (IntKind.wrap IntKind.i64 ((↑p : Int) + (1 : Int))))] [some (Blk.mk true [] (1 : Nat) (11 : Nat) (fun j => [AV.int IntKind.i64 (f j)]) [])]))))))))))))))))))))))))
    (T.ret (Ex.exit (6 : Nat), St.mk [((1 : Nat), AV.sl (0 : Nat) (0 : Nat) (1 : Nat) (0 : Nat) (11 : Nat) (11 : Nat)), ((4 : Nat), AV.int IntKind.i64 (↑g : Int)), ((5 : Nat), AV.int IntKind.i64 (↑p : Int))] [some (Blk.mk true [] (1 : Nat) (11 : Nat) (fun j => [AV.int IntKind.i64 (f j)]) [])])) := by
  kernel_rfl

theorem gk_fn : afn Try.prog gkE0 Try.f9 (codeOf Try.f9) [] [] = 
  T.need
    (∃ ρ,
      SubSt (0 : Nat) ρ
        (St.mk [((1 : Nat), AV.sl (0 : Nat) (0 : Nat) (1 : Nat) (0 : Nat) (11 : Nat) (11 : Nat)), ((2 : Nat), AV.int IntKind.i64 (0 : Int))]
          [some (Blk.mk true [] (1 : Nat) (11 : Nat) (fun i => [AV.int IntKind.i64 (List.getD [(-9223372036854775808 : Int), (-1 : Int), (0 : Int), (1 : Int), (2 : Int), (63 : Int), (64 : Int), (65 : Int), (2147483648 : Int), (4294967296 : Int), (9223372036854775807 : Int)] i (0 : Int))]) [])])
        (kA1 (fun j => List.getD [(-9223372036854775808 : Int), (-1 : Int), (0 : Int), (1 : Int), (2 : Int), (63 : Int), (64 : Int), (65 : Int), (2147483648 : Int), (4294967296 : Int), (9223372036854775807 : Int)] j (0 : Int), (0 : Nat))))
    (T.need (kIA1 (fun j => List.getD [(-9223372036854775808 : Int), (-1 : Int), (0 : Int), (1 : Int), (2 : Int), (63 : Int), (64 : Int), (65 : Int), (2147483648 : Int), (4294967296 : Int), (9223372036854775807 : Int)] j (0 : Int), (0 : Nat)))
      (T.need
        (∃ ρ,
          SubSt (0 : Nat) ρ
            (St.mk [((1 : Nat), AV.sl (0 : Nat) (0 : Nat) (1 : Nat) (0 : Nat) (11 : Nat) (11 : Nat)), ((4 : Nat), AV.int IntKind.i64 (0 : Int))]
              [some (Blk.mk true [] (1 : Nat) (11 : Nat) (fun j => [AV.int IntKind.i64 (List.getD [(-9223372036854775808 : Int), (-1 : Int), (0 : Int), (1 : Int), (2 : Int), (63 : Int), (64 : Int), (65 : Int), (2147483648 : Int), (4294967296 : Int), (9223372036854775807 : Int)] j (0 : Int))]) [])])
            (qB1 (fun j => List.getD [(-9223372036854775808 : Int), (-1 : Int), (0 : Int), (1 : Int), (2 : Int), (63 : Int), (64 : Int), (65 : Int), (2147483648 : Int), (4294967296 : Int), (9223372036854775807 : Int)] j (0 : Int), (0 : Nat))))
        (T.need (kIB1 (fun j => List.getD [(-9223372036854775808 : Int), (-1 : Int), (0 : Int), (1 : Int), (2 : Int), (63 : Int), (64 : Int), (65 : Int), (2147483648 : Int), (4294967296 : Int), (9223372036854775807 : Int)] j (0 : Int), (0 : Nat)))
          (T.ret (AV.bool true, [some (Blk.mk true [] (1 : Nat) (11 : Nat) (fun j => [AV.int IntKind.i64 (List.getD [(-9223372036854775808 : Int), (-1 : Int), (0 : Int), (1 : Int), (2 : Int), (63 : Int), (64 : Int), (65 : Int), (2147483648 : Int), (4294967296 : Int), (9223372036854775807 : Int)] j (0 : Int))]) [])]))))) := by
  kernel_rfl

theorem k_sub {ρ : Nat → Nat} {f : Nat → Int} {m : AM} (h : m.get (ρ 0) = some (Blk.rows true 1 11 fun j => [.int .i64 (f j)])) : Sub 0 ρ m (kM f) :=
  Sub.of ⟨⟨_, h, BlkOK.rows' (fun h => h) fun j _ => LAlike.ints rfl⟩, trivial⟩ (fun i j hi hj h => by simp [kM] at hi hj; omega) (fun i hi => by omega) (Nat.zero_le _)

theorem kA2_loop : LoopOK Try.prog gkE0 (loopAt (loopAt (codeOf Try.f9) 0) 0) := by
  refine loopSumm_ok gkE0_ok (noLoops (by kernel_rfl)) kA2 kIA2 (fun x => 300 - x.2.2) (kP2 2) kXA2 ?_ (by kernel_rfl)
  rintro ⟨f, g, p⟩ ⟨h1, h2⟩ Q hq
  dsimp only at h1 h2
  refine round_keep [1, 2, 3] ?_
  rw [kA2_tree]
  have w1 : IntKind.wrap .i64 ((g : Int) + 1) = (g : Int) + 1 := IntWalk.i64_in _ (by omega)
  have w2 : IntKind.wrap .i64 (Int.tdiv (g : Int) 16) = ((g / 16 : Nat) : Int) := by rw [Int.tdiv_eq_ediv_of_nonneg (by omega), IntWalk.i64_in _ (by omega)]; omega
  have w3 : IntKind.wrap .i64 ((p : Int) + 1) = (p : Int) + 1 := IntWalk.i64_in _ (by omega)
  have w4 : IntKind.wrap .i64 ((p : Int) + 1 + ((g / 16 : Nat) : Int)) = ((p + 1 + g / 16 : Nat) : Int) := by rw [IntWalk.i64_in _ (by omega)]; omega
  simp only [w1, w2, w3, w4]
  refine T.hite (fun h => ?_) (fun h => ?_)
  · have h : p ≤ g + 1 := by simp at h; omega
    have hgo : Round gkE0 kA2 kIA2 (fun x => 300 - x.2.2) kXA2 Q (f, g, p) (.norm, ⟨[(1, .sl 0 0 1 0 11 11), (2, .int .i64 g), (3, .int .i64 ((p + 1 + g / 16 : Nat) : Int))], kM f⟩) :=
      Round.go (f, g, p + 1 + g / 16) id ⟨h1, by dsimp only; omega⟩ (by dsimp only; omega) (SubSt.mk (by simp [kA2, SubFr, slotAt, ren, below, kM]) (k_sub rfl)) hq
    generalize Round gkE0 kA2 kIA2 (fun x => 300 - x.2.2) kXA2 Q (f, g, p) = R at *
    repeat' first | refine T.hchk ?_ ?_ | refine T.hite (fun _ => ?_) (fun _ => ?_)
    all_goals first | exact hgo | rfl | contradiction
  · exact Round.out id (kA1 (f, g)) (SubSt.mk (by simp [kA1, SubFr, slotAt, ren, below, kM]) (k_sub rfl)) hq

theorem kA1_loop : LoopOK Try.prog gkE0 (loopAt (codeOf Try.f9) 0) := by
  refine loopSumm_ok gkE0_ok (oneLoop (by kernel_rfl) kA2_loop) kA1 kIA1 (fun x => 66 - x.2) kP1 kXA1 ?_ (by kernel_rfl)
  rintro ⟨f, g⟩ h1 Q hq
  have h1 : g ≤ 66 := h1
  refine round_keep [1, 2] ?_
  rw [kA1_tree]
  simp only [Int.toNat_natCast]
  refine T.hite (fun h => ?_) (fun h => ?_)
  · have h : g ≤ 65 := by simp at h; omega
    have hw : IntKind.wrap IntKind.i64 ((g : Int) + 1) = ((g + 1 : Nat) : Int) := by rw [IntWalk.i64_in _ (by omega)]; omega
    refine T.hneed ⟨id, SubSt.mk (by simp [kA2, SubFr, slotAt, ren, below, kM]) (k_sub rfl)⟩ (T.hneed ⟨h, Nat.zero_le _⟩ ?_)
    exact Round.go (f, g + 1) id (show g + 1 ≤ 66 by omega) (by dsimp only; omega) (SubSt.mk (by simp [kA1, SubFr, slotAt, ren, below, kM, hw]) (k_sub rfl)) hq
  · exact Round.out id (kN f) (SubSt.mk (by simp [kN, SubFr, slotAt, ren, below, kM]) (k_sub rfl)) hq

theorem qB2_loop : LoopOK Try.prog gkE0 (loopAt (loopAt (codeOf Try.f9) 1) 0) := by
  refine loopSumm_ok gkE0_ok (noLoops (by kernel_rfl)) qB2 kIB2 (fun x => 11 - x.2.2) (kP2 4) kXB2 ?_ (by kernel_rfl)
  rintro ⟨f, g, p⟩ ⟨h1, h2⟩ Q hq
  dsimp only at h1 h2
  refine round_keep [1, 4, 5] ?_
  rw [qB2_tree]
  refine T.hite (fun h => ?_) (fun h => ?_)
  · have h : p < 11 := by simp at h; omega
    have hw : IntKind.wrap IntKind.i64 ((p : Int) + 1) = ((p + 1 : Nat) : Int) := by rw [IntWalk.i64_in _ (by omega)]; omega
    rw [hw]
    have hgo : Round gkE0 qB2 kIB2 (fun x => 11 - x.2.2) kXB2 Q (f, g, p) (.norm, ⟨[(1, .sl 0 0 1 0 11 11), (4, .int .i64 g), (5, .int .i64 ((p + 1 : Nat) : Int))], kM f⟩) :=
      Round.go (f, g, p + 1) id ⟨h1, by dsimp only; omega⟩ (by dsimp only; omega) (SubSt.mk (by simp [qB2, SubFr, slotAt, ren, below, kM]) (k_sub rfl)) hq
    generalize Round gkE0 qB2 kIB2 (fun x => 11 - x.2.2) kXB2 Q (f, g, p) = R at *
    repeat' first | refine T.hchk ?_ ?_ | refine T.hite (fun _ => ?_) (fun _ => ?_)
    all_goals first | exact hgo | rfl | contradiction | (simp; omega)
  · exact Round.out id (qB1 (f, g)) (SubSt.mk (by simp [qB1, SubFr, slotAt, ren, below, kM]) (k_sub rfl)) hq

theorem qB1_loop : LoopOK Try.prog gkE0 (loopAt (codeOf Try.f9) 1) := by
  refine loopSumm_ok gkE0_ok (oneLoop (by kernel_rfl) qB2_loop) qB1 kIB1 (fun x => 11 - x.2) kP1 kXB1 ?_ (by kernel_rfl)
  rintro ⟨f, g⟩ h1 Q hq
  have h1 : g ≤ 11 := h1
  refine round_keep [1, 4] ?_
  rw [qB1_tree]
  simp only [Int.toNat_natCast]
  refine T.hite (fun h => ?_) (fun h => ?_)
  · have h : g < 11 := by simp at h; omega
    have hw : IntKind.wrap IntKind.i64 ((g : Int) + 1) = ((g + 1 : Nat) : Int) := by rw [IntWalk.i64_in _ (by omega)]; omega
    refine T.hneed ⟨id, SubSt.mk (by simp [qB2, SubFr, slotAt, ren, below, kM]) (k_sub rfl)⟩ (T.hneed ⟨h, Nat.zero_le _⟩ ?_)
    exact Round.go (f, g + 1) id (show g + 1 ≤ 11 by omega) (by dsimp only; omega) (SubSt.mk (by simp [qB1, SubFr, slotAt, ren, below, kM, hw]) (k_sub rfl)) hq
  · exact Round.out id (kN f) (SubSt.mk (by simp [kN, SubFr, slotAt, ren, below, kM]) (k_sub rfl)) hq

theorem gk_loops : ∀ c' ∈ loopsIn (codeOf Try.f9), LoopOK Try.prog gkE0 c' := by
  have h : loopsIn (codeOf Try.f9) = [loopAt (codeOf Try.f9) 0, loopAt (codeOf Try.f9) 1] := by kernel_rfl
  intro c' hc
  rw [h] at hc
  simp only [List.mem_cons, List.not_mem_nil, or_false] at hc
  rcases hc with rfl | rfl
  · exact kA1_loop
  · exact qB1_loop

theorem gk_law (w : World) : Calls Try.prog 9 #[] w fun e w' => e = .returned (.bool true) ∧ RowKit.Grown w w' := by
  refine law_walk (E := gkE0) (c := codeOf Try.f9) Try.func9 rfl gkE0_ok gk_loops rfl rfl [] rfl (by simp [concL]) ?_ w
  rw [gk_fn]
  exact T.hneed ⟨id, SubSt.mk (by simp [kA1, SubFr, slotAt, ren, below, kM]) (k_sub rfl)⟩ (T.hneed (Nat.zero_le _) (T.hneed ⟨id, SubSt.mk (by simp [qB1, SubFr, slotAt, ren, below, kM]) (k_sub rfl)⟩ (T.hneed (Nat.zero_le _) rfl)))

end Go.Proofs.Ytfpnbeikaannaaa
