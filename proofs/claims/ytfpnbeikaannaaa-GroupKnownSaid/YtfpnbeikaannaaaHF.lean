/-
  Layer 8: the document's Owner, Range, Of.
-/
import Derived.Test.YtfpnbeikaannaaaHE
namespace Go.Proofs.Ytfpnbeikaannaaa
open Go.Ox
set_option maxRecDepth 100000
set_option linter.unusedVariables false
set_option linter.unusedSimpArgs false

noncomputable def roE : Env := { nt := Try.f15.ntmps, n0 := 0, fns := [], loop := fun _ _ => .fail }

theorem ro_fn (x p g : Int) : afn Try.prog roE Try.f15 (codeOf Try.f15) [.int .i64 x, .int .i64 p, .int .i64 g] [] = 
  T.ite (decide (g < (1 : Int))) (T.ret (AV.int IntKind.i64 (0 : Int), []))
    (T.ite (decide (g > (64 : Int))) (T.ret (AV.int IntKind.i64 (0 : Int), []))
      (T.ite (decide (p < (1 : Int))) (T.ret (AV.int IntKind.i64 (0 : Int), []))
        (T.ite (decide (p > g)) (T.ret (AV.int IntKind.i64 (0 : Int), [])) (T.ite (decide (x < (0 : Int))) (T.ret (AV.int IntKind.i64 (0 : Int), [])) (T.ite (decide (x ≥ g)) (T.ret (AV.int IntKind.i64 (0 : Int), [])) (T.chk (!g == (0 : Int)) (T.ret (AV.int IntKind.i64 (IntKind.wrap IntKind.i64 (Int.tdiv (IntKind.wrap IntKind.i64 (x * p)) g)), [])))))))) := by
  kernel_rfl

def rr1 (x : Int × Int × Int × Int) : St := ⟨[(0, .int .i64 x.1), (1, .int .i64 x.2.1), (2, .int .i64 x.2.2.1), (8, .int .i64 x.2.2.2)], []⟩
def rr2 (x : Int × Int × Int × Int) : St := ⟨[(0, .int .i64 x.1), (1, .int .i64 x.2.1), (2, .int .i64 x.2.2.1), (8, .int .i64 (loG x.1 x.2.1 x.2.2.1)), (9, .int .i64 x.2.2.2)], []⟩
def rrI1 (x : Int × Int × Int × Int) : Prop := gpOk x.2.1 x.2.2.1 x.1 ∧ 0 ≤ x.2.2.2 ∧ x.2.2.2 ≤ loG x.1 x.2.1 x.2.2.1
def rrI2 (x : Int × Int × Int × Int) : Prop := gpOk x.2.1 x.2.2.1 x.1 ∧ loG x.1 x.2.1 x.2.2.1 ≤ x.2.2.2 ∧ x.2.2.2 ≤ loG (x.1 + 1) x.2.1 x.2.2.1
def rrP1 (st : St) : Option (Int × Int × Int × Int) :=
  match slotAt st.fr 0, slotAt st.fr 1, slotAt st.fr 2, slotAt st.fr 8 with
  | some (.int _ t), some (.int _ p), some (.int _ g), some (.int _ l) => some (t, p, g, l)
  | _, _, _, _ => none
def rrP2 (st : St) : Option (Int × Int × Int × Int) :=
  match slotAt st.fr 0, slotAt st.fr 1, slotAt st.fr 2, slotAt st.fr 9 with
  | some (.int _ t), some (.int _ p), some (.int _ g), some (.int _ l) => some (t, p, g, l)
  | _, _, _, _ => none
def rrX1 (x : Int × Int × Int × Int) : T (Ex × St) := .ret (.exit 0, ⟨[(0, .int .i64 x.1), (1, .int .i64 x.2.1), (2, .int .i64 x.2.2.1), (8, .int .i64 (loG x.1 x.2.1 x.2.2.1))], []⟩)
def rrX2 (x : Int × Int × Int × Int) : T (Ex × St) := .ret (.exit 2, ⟨[(8, .int .i64 (loG x.1 x.2.1 x.2.2.1)), (9, .int .i64 (loG (x.1 + 1) x.2.1 x.2.2.1))], []⟩)
noncomputable def rrE : Env := { nt := Try.f11.ntmps, n0 := 0, fns := [(15, .pure fun args _ => owS args)], loop := fun k => if k = 4 then loopSumm 0 rr1 rrI1 rrP1 rrX1 else if k = 7 then loopSumm 0 rr2 rrI2 rrP2 rrX2 else fun _ => .fail }

theorem rr1_tree (t p g l : Int) : keepT [0, 1, 2, 8] (acode Try.prog rrE (loopAt (codeOf Try.f11) 0) (rr1 (t, p, g, l))) = 
  T.ite (decide (owG l p g < t)) (T.ret (Ex.norm, St.mk [((0 : Nat), AV.int IntKind.i64 t), ((1 : Nat), AV.int IntKind.i64 p), ((2 : Nat), AV.int IntKind.i64 g), ((8 : Nat), AV.int IntKind.i64 (IntKind.wrap IntKind.i64 (l + (1 : Int))))] []))
    (T.ret (Ex.exit (0 : Nat), St.mk [((0 : Nat), AV.int IntKind.i64 t), ((1 : Nat), AV.int IntKind.i64 p), ((2 : Nat), AV.int IntKind.i64 g), ((8 : Nat), AV.int IntKind.i64 l)] [])) := by
  kernel_rfl

theorem rr2_tree (t p g l : Int) : keepT [0, 1, 2, 8, 9] (acode Try.prog rrE (loopAt (codeOf Try.f11) 1) (rr2 (t, p, g, l))) = 
  T.ite (decide (l < g))
    (T.ite (owG l p g == t) (T.ret (Ex.norm, St.mk [((0 : Nat), AV.int IntKind.i64 t), ((1 : Nat), AV.int IntKind.i64 p), ((2 : Nat), AV.int IntKind.i64 g), ((8 : Nat), AV.int IntKind.i64 (loG t p g)), ((9 : Nat), AV.int IntKind.i64 (IntKind.wrap IntKind.i64 (l + (1 : Int))))] []))
      (T.ret (Ex.exit (2 : Nat), St.mk [((0 : Nat), AV.int IntKind.i64 t), ((1 : Nat), AV.int IntKind.i64 p), ((2 : Nat), AV.int IntKind.i64 g), ((8 : Nat), AV.int IntKind.i64 (loG t p g)), ((9 : Nat), AV.int IntKind.i64 l)] [])))
    (T.ret (Ex.exit (2 : Nat), St.mk [((0 : Nat), AV.int IntKind.i64 t), ((1 : Nat), AV.int IntKind.i64 p), ((2 : Nat), AV.int IntKind.i64 g), ((8 : Nat), AV.int IntKind.i64 (loG t p g)), ((9 : Nat), AV.int IntKind.i64 l)] [])) := by
  kernel_rfl

theorem rr_fn (t p g : Int) : afn Try.prog rrE Try.f11 (codeOf Try.f11) [.int .i64 t, .int .i64 p, .int .i64 g] [] = 
  T.ite (decide (g < (1 : Int))) (T.ret (AV.tup [AV.int IntKind.i64 (0 : Int), AV.int IntKind.i64 (0 : Int)], []))
    (T.ite (decide (g > (64 : Int))) (T.ret (AV.tup [AV.int IntKind.i64 (0 : Int), AV.int IntKind.i64 (0 : Int)], []))
      (T.ite (decide (p < (1 : Int))) (T.ret (AV.tup [AV.int IntKind.i64 (0 : Int), AV.int IntKind.i64 (0 : Int)], []))
        (T.ite (decide (p > g)) (T.ret (AV.tup [AV.int IntKind.i64 (0 : Int), AV.int IntKind.i64 (0 : Int)], []))
          (T.ite (decide (t < (0 : Int))) (T.ret (AV.tup [AV.int IntKind.i64 (0 : Int), AV.int IntKind.i64 (0 : Int)], []))
            (T.ite (decide (t ≥ p)) (T.ret (AV.tup [AV.int IntKind.i64 (0 : Int), AV.int IntKind.i64 (0 : Int)], []))
              (T.need (∃ ρ, SubSt (0 : Nat) ρ (St.mk [((0 : Nat), AV.int IntKind.i64 t), ((1 : Nat), AV.int IntKind.i64 p), ((2 : Nat), AV.int IntKind.i64 g), ((8 : Nat), AV.int IntKind.i64 (0 : Int))] []) (rr1 (t, p, g, (0 : Int))))
                (T.need (rrI1 (t, p, g, (0 : Int)))
                  (T.need (∃ ρ, SubSt (0 : Nat) ρ (St.mk [((0 : Nat), AV.int IntKind.i64 t), ((1 : Nat), AV.int IntKind.i64 p), ((2 : Nat), AV.int IntKind.i64 g), ((8 : Nat), AV.int IntKind.i64 (loG t p g)), ((9 : Nat), AV.int IntKind.i64 (loG t p g))] []) (rr2 (t, p, g, loG t p g)))
                    (T.need (rrI2 (t, p, g, loG t p g)) (T.ret (AV.tup [AV.int IntKind.i64 (loG t p g), AV.int IntKind.i64 (loG (t + (1 : Int)) p g)], []))))))))))) := by
  kernel_rfl

def fo1 (x : Int × Int × Nat) : St := ⟨[(0, .int .i64 x.1), (1, .int .i64 x.2.1), (5, .int .u64 (fnvO x.1 x.2.2)), (6, .int .u64 (IntKind.wrap .u64 x.1 / 2 ^ (8 * x.2.2))), (7, .int .i64 x.2.2)], []⟩
def foX (x : Int × Int × Nat) : T (Ex × St) := .ret (.exit 0, ⟨[(1, .int .i64 x.2.1), (5, .int .u64 (fnvO x.1 8))], []⟩)
noncomputable def foE : Env := { nt := Try.f13.ntmps, n0 := 0, fns := [], loop := fun k => if k = 6 then loopSumm 0 fo1 ofInv ofPick foX else fun _ => .fail }

theorem fo_tree (k g : Int) (i : Nat) : keepT [0, 1, 5, 6, 7] (acode Try.prog foE (loopAt (codeOf Try.f13) 0) (fo1 (k, g, i))) = 
  T.ite (decide ((↑i : Int) < (8 : Int)))
    (T.chk true
      (T.chk true
        (T.chk true
          (T.ret
            (Ex.norm,
              St.mk
                [((0 : Nat), AV.int IntKind.i64 k), ((1 : Nat), AV.int IntKind.i64 g), ((5 : Nat), AV.int IntKind.u64 (Int.tmod (IntKind.wrap IntKind.u64 (bits BinOp.xor IntKind.u64 (fnvO k i) (Int.tmod (IntKind.wrap IntKind.u64 k / (2 : Int) ^ ((8 : Nat) * i)) (256 : Int)) * (16777619 : Int))) (4294967296 : Int))),
                  ((6 : Nat), AV.int IntKind.u64 (IntKind.wrap IntKind.u64 (Int.tdiv (IntKind.wrap IntKind.u64 k / (2 : Int) ^ ((8 : Nat) * i)) (256 : Int)))), ((7 : Nat), AV.int IntKind.i64 (IntKind.wrap IntKind.i64 ((↑i : Int) + (1 : Int))))]
                [])))))
    (T.ret (Ex.exit (0 : Nat), St.mk [((0 : Nat), AV.int IntKind.i64 k), ((1 : Nat), AV.int IntKind.i64 g), ((5 : Nat), AV.int IntKind.u64 (fnvO k i)), ((6 : Nat), AV.int IntKind.u64 (IntKind.wrap IntKind.u64 k / (2 : Int) ^ ((8 : Nat) * i))), ((7 : Nat), AV.int IntKind.i64 (↑i : Int))] [])) := by
  kernel_rfl

theorem fo_fn (k g : Int) : afn Try.prog foE Try.f13 (codeOf Try.f13) [.int .i64 k, .int .i64 g] [] = 
  T.ite (decide (g < (1 : Int))) (T.ret (AV.int IntKind.i64 (0 : Int), []))
    (T.ite (decide (g > (64 : Int))) (T.ret (AV.int IntKind.i64 (0 : Int), []))
      (T.need (∃ ρ, SubSt (0 : Nat) ρ (St.mk [((0 : Nat), AV.int IntKind.i64 k), ((1 : Nat), AV.int IntKind.i64 g), ((5 : Nat), AV.int IntKind.u64 (2166136261 : Int)), ((6 : Nat), AV.int IntKind.u64 (IntKind.wrap IntKind.u64 k)), ((7 : Nat), AV.int IntKind.i64 (0 : Int))] []) (fo1 (k, g, (0 : Nat))))
        (T.need (ofInv (k, g, (0 : Nat))) (T.chk (!IntKind.wrap IntKind.u64 g == (0 : Int)) (T.ret (AV.int IntKind.i64 (IntKind.wrap IntKind.i64 (Int.tmod (fnvO k (8 : Nat)) (IntKind.wrap IntKind.u64 g))), [])))))) := by
  kernel_rfl

theorem ro_ok' : SummOK Try.prog 15 (.pure fun args _ => owS args) := by
  refine pure_fn (E := roE) (c := codeOf Try.f15) (fun args w => Try.call15 args w) Try.func15 rfl EnvOK.nil (noLoops (by kernel_rfl)) rfl rfl ?_
  intro args Q hq
  unfold owS at hq ⊢
  split at hq
  · rename_i t p g
    refine ⟨by simp [plainL, plain], by simp [plain, plainL, T.holds], fun Q hq => ?_⟩
    have hq : Q (AV.int .i64 (owG t p g)) := hq
    rw [ro_fn]
    by_cases h : (okG p g && decide (0 ≤ t) && decide (t < g)) = true
    · have hk := h
      simp only [Bool.and_eq_true, decide_eq_true_eq] at hk
      have hg := okG_iff.1 hk.1.1
      have m0 : 0 ≤ t * p := Int.mul_nonneg (by omega) (by omega)
      have m1 : t * p ≤ 64 * 64 := Int.mul_le_mul (by omega) (by omega) (by omega) (by omega)
      have d0 : 0 ≤ t * p / g := Int.ediv_nonneg (by omega) (by omega)
      have d1 : t * p / g ≤ t * p := Int.ediv_le_self _ (by omega)
      rw [IntWalk.i64_in (t * p) (by omega), Int.tdiv_eq_ediv_of_nonneg (by omega), IntWalk.i64_in (t * p / g) (by omega)]
      simp only [owG, h, if_true] at hq
      have no : ∀ {P : Prop} [Decidable P], ¬ P → (decide P = true → (T.ret (AV.int IntKind.i64 0, ([] : AM))).holds fun r => plain r.1 = true ∧ Q r.1) := fun hP h => absurd (of_decide_eq_true h) hP
      refine T.hite (no (by omega)) (fun _ => T.hite (no (by omega)) (fun _ => T.hite (no (by omega)) (fun _ => T.hite (no (by omega)) (fun _ => T.hite (no (by omega)) (fun _ => T.hite (no (by omega)) (fun _ => ?_))))))
      exact T.hchk (by simp; omega) ⟨by simp [plain, plainL], hq⟩
    · have hq : Q (AV.int .i64 0) := by simpa [owG, h] using hq
      have hr : plain (AV.int IntKind.i64 0) = true ∧ Q (AV.int .i64 0) := ⟨by simp [plain, plainL], hq⟩
      refine T.hite (fun h1 => hr) (fun h1 => T.hite (fun _ => hr) (fun h2 => T.hite (fun _ => hr) (fun h3 => T.hite (fun _ => hr) (fun h4 => T.hite (fun _ => hr) (fun h5 => T.hite (fun _ => hr) (fun h6 => ?_))))))
      exfalso
      simp only [decide_eq_false_iff_not] at h1 h2 h3 h4 h5 h6
      exact h (by simp [okG]; omega)
  · exact hq.elim

theorem rrE_ok : EnvOK Try.prog rrE.fns := EnvOK.cons ro_ok' EnvOK.nil

theorem owG_at {l p g : Int} (hg : (1 ≤ g ∧ g ≤ 64) ∧ (1 ≤ p ∧ p ≤ g)) (h0 : 0 ≤ l) (h1 : l < g) : owG l p g = l * p / g :=
  owG_eq hg.1.2 hg.2.1 hg.2.2 h0 h1

theorem rr1_loop : LoopOK Try.prog rrE (loopAt (codeOf Try.f11) 0) := by
  refine loopSumm_ok (E := rrE) rrE_ok (noLoops (by kernel_rfl)) rr1 rrI1 (fun x => (loG x.1 x.2.1 x.2.2.1 - x.2.2.2).toNat) rrP1 rrX1 ?_ (by kernel_rfl)
  rintro ⟨t, p, g, l⟩ ⟨hok, h1, h2⟩ Q hq
  dsimp only at hok h1 h2
  refine round_keep [0, 1, 2, 8] ?_
  rw [rr1_tree]
  have hs := lo_step hok
  have hok' := hok
  obtain ⟨⟨g1, g2⟩, ⟨g3, g4⟩, ⟨g5, g6⟩⟩ := hok
  have he := owG_at (l := l) (p := p) (g := g) ⟨⟨g1, g2⟩, ⟨g3, g4⟩⟩ h1 (by omega)
  have hl : l * p / g < t ↔ l < loG t p g := by
    rw [Int.ediv_lt_iff_lt_mul (by omega), ← Int.not_le (a := loG t p g), lo_le (by omega), Int.not_le]
  rw [he]
  refine T.hite (fun h => ?_) (fun h => ?_)
  · have h := hl.1 (by simpa using h)
    have hw : IntKind.wrap IntKind.i64 (l + 1) = l + 1 := IntWalk.i64_in _ (by omega)
    rw [hw]
    exact Round.go (t, p, g, l + 1) id ⟨hok', by dsimp only; omega, by dsimp only; omega⟩ (by dsimp only; omega) (SubSt.mk (by simp [rr1, SubFr, slotAt, ren, below]) (Sub.nil _ _)) hq
  · have h : ¬ l < loG t p g := fun hh => by have := hl.2 hh; simp at h; omega
    have e : l = loG t p g := by omega
    rw [e]
    exact Round.out id ⟨[(0, .int .i64 t), (1, .int .i64 p), (2, .int .i64 g), (8, .int .i64 (loG t p g))], []⟩ (SubSt.mk (by simp [SubFr, slotAt, ren, below]) (Sub.nil _ _)) hq

theorem rr2_loop : LoopOK Try.prog rrE (loopAt (codeOf Try.f11) 1) := by
  refine loopSumm_ok (E := rrE) rrE_ok (noLoops (by kernel_rfl)) rr2 rrI2 (fun x => (loG (x.1 + 1) x.2.1 x.2.2.1 - x.2.2.2).toNat) rrP2 rrX2 ?_ (by kernel_rfl)
  rintro ⟨t, p, g, l⟩ ⟨hok, h1, h2⟩ Q hq
  dsimp only at hok h1 h2
  refine round_keep [0, 1, 2, 8, 9] ?_
  rw [rr2_tree]
  have hs := lo_step hok
  have hok' := hok
  obtain ⟨⟨g1, g2⟩, ⟨g3, g4⟩, ⟨g5, g6⟩⟩ := hok
  have hout : l = loG (t + 1) p g → Round rrE rr2 rrI2 (fun x => (loG (x.1 + 1) x.2.1 x.2.2.1 - x.2.2.2).toNat) rrX2 Q (t, p, g, l) (.exit 2, ⟨[(0, .int .i64 t), (1, .int .i64 p), (2, .int .i64 g), (8, .int .i64 (loG t p g)), (9, .int .i64 l)], []⟩) := fun e => by
    rw [e]
    exact Round.out id ⟨[(8, .int .i64 (loG t p g)), (9, .int .i64 (loG (t + 1) p g))], []⟩ (SubSt.mk (by simp [SubFr, slotAt, ren, below]) (Sub.nil _ _)) hq
  refine T.hite (fun h => ?_) (fun h => hout (by simp at h; omega))
  have h : l < g := by simpa using h
  have he := owG_at (l := l) (p := p) (g := g) ⟨⟨g1, g2⟩, ⟨g3, g4⟩⟩ (by omega) h
  have ho := own_iff (i := t) (x := l) (show 0 < p by omega) (show 0 < g by omega)
  rw [he]
  refine T.hite (fun h => ?_) (fun h => hout ?_)
  · have h := ho.2 (by simpa using h)
    have hw : IntKind.wrap IntKind.i64 (l + 1) = l + 1 := IntWalk.i64_in _ (by omega)
    rw [hw]
    exact Round.go (t, p, g, l + 1) id ⟨hok', by dsimp only; omega, by dsimp only; omega⟩ (by dsimp only; omega) (SubSt.mk (by simp [rr2, SubFr, slotAt, ren, below]) (Sub.nil _ _)) hq
  · have : ¬ l < loG (t + 1) p g := fun hh => by have := ho.1 ⟨h1, hh⟩; simp [this] at h
    omega

theorem rr_loops : ∀ c' ∈ loopsIn (codeOf Try.f11), LoopOK Try.prog rrE c' := by
  have h : loopsIn (codeOf Try.f11) = [loopAt (codeOf Try.f11) 0, loopAt (codeOf Try.f11) 1] := by kernel_rfl
  intro c' hc
  rw [h] at hc
  simp only [List.mem_cons, List.not_mem_nil, or_false] at hc
  rcases hc with rfl | rfl
  · exact rr1_loop
  · exact rr2_loop

theorem rr_ok : SummOK Try.prog 11 (.pure fun args _ => raS args) := by
  refine pure_fn (E := rrE) (c := codeOf Try.f11) (fun args w => Try.call11 args w) Try.func11 rfl rrE_ok rr_loops rfl rfl ?_
  intro args Q hq
  unfold raS at hq ⊢
  split at hq
  · rename_i t p g
    refine ⟨by simp [plainL, plain], by simp [plain, plainL, T.holds], fun Q hq => ?_⟩
    have hq : Q (AV.tup [.int .i64 (rlo t p g), .int .i64 (rhi t p g)]) := hq
    rw [rr_fn]
    by_cases h : raG t p g = true
    · have hk := h
      simp only [raG, Bool.and_eq_true, decide_eq_true_eq] at hk
      have hg := okG_iff.1 hk.1.1
      have hok : gpOk p g t := ⟨⟨by omega, by omega⟩, ⟨by omega, by omega⟩, ⟨by omega, by omega⟩⟩
      have hs := lo_step hok
      simp only [rlo, rhi, h, if_true] at hq
      have no : ∀ {P : Prop} [Decidable P], ¬ P → (decide P = true → (T.ret (AV.tup [AV.int IntKind.i64 0, AV.int IntKind.i64 0], ([] : AM))).holds fun r => plain r.1 = true ∧ Q r.1) := fun hP h => absurd (of_decide_eq_true h) hP
      refine T.hite (no (by omega)) (fun _ => T.hite (no (by omega)) (fun _ => T.hite (no (by omega)) (fun _ => T.hite (no (by omega)) (fun _ => T.hite (no (by omega)) (fun _ => T.hite (no (by omega)) (fun _ => ?_))))))
      refine T.hneed ⟨id, SubSt.mk (by simp [rr1, SubFr, slotAt, ren, below]) (Sub.nil _ _)⟩ (T.hneed ⟨hok, Int.le_refl _, hs.2.2.2.1⟩ (T.hneed ⟨id, SubSt.mk (by simp [rr2, SubFr, slotAt, ren, below]) (Sub.nil _ _)⟩ (T.hneed ⟨hok, Int.le_refl _, by dsimp only; omega⟩ ?_)))
      exact ⟨by simp [plain, plainL], hq⟩
    · have hq : Q (AV.tup [.int .i64 0, .int .i64 0]) := by simpa [rlo, rhi, h] using hq
      have hr : plain (AV.tup [AV.int IntKind.i64 0, AV.int IntKind.i64 0]) = true ∧ Q (AV.tup [.int .i64 0, .int .i64 0]) := ⟨by simp [plain, plainL], hq⟩
      refine T.hite (fun h1 => hr) (fun h1 => T.hite (fun _ => hr) (fun h2 => T.hite (fun _ => hr) (fun h3 => T.hite (fun _ => hr) (fun h4 => T.hite (fun _ => hr) (fun h5 => T.hite (fun _ => hr) (fun h6 => ?_))))))
      exfalso
      simp only [decide_eq_false_iff_not] at h1 h2 h3 h4 h5 h6
      exact h (by simp [raG, okG]; omega)
  · exact hq.elim

end Go.Proofs.Ytfpnbeikaannaaa
