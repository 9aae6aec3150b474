/-
  Layer 19: AlignPlays: the round, the law.
-/
import Derived.Test.YthbdkhlpojngeaaHRR
namespace Go.Proofs.Ythbdkhlpojngeaa
open Go.Ox
set_option maxRecDepth 100000
set_option maxHeartbeats 1000000
set_option linter.unusedVariables false
set_option linter.unusedSimpArgs false

def loopsL : List Code → List Code
  | [] => []
  | c :: l => loopsIn c ++ loopsL l
theorem mem_loopsL {c' : Code} : ∀ {l : List Code} {c : Code}, c ∈ l → c' ∈ loopsIn c → c' ∈ loopsL l
  | d :: l, c, hc, h => by
    unfold loopsL
    rcases List.mem_cons.1 hc with rfl | hc
    · exact List.mem_append_left _ h
    · exact List.mem_append_right _ (mem_loopsL hc h)
theorem pr_eq : loopsL ((chainOf plC).drop 2) = [plI] := by kernel_rfl
theorem pr_loops : ∀ c ∈ (chainOf plC).drop 2, ∀ c' ∈ loopsIn c, c' = plI := fun c hc c' h => by
  have := mem_loopsL hc h
  rw [pr_eq] at this
  simpa using this

/-- Behind the barriers: the inner loop. -/
theorem pr_go (x : PL) (h1 : x.len ≤ x.cap) (hr : Rel x.N x.t x.s x.f x.ll) (h3 : x.ll ≤ x.lc) (h4 : x.b = false → x.ll = 0) {R : Ex × St → Prop} (hR : R (.norm, plSt x)) : AWpL Try.prog plE ((chainOf plC).drop 2) (plSt x) R := by
  obtain ⟨N, z, y, len, cap, t, s, b, f, ll, lc, i, k⟩ := x
  dsimp only at h1 hr h3 h4
  refine awpl_end (E := plE) plE_ok ?_ (weak_keep [0, 1, 5, 6, 7] ?_)
  · intro c hc c' hc'
    have : c' = plI := pr_loops c hc c' hc'
    rw [this]; exact in_loop
  cases b with
  | false =>
    have hl := h4 rfl
    show T.holds (keepT [0, 1, 5, 6, 7] (acodeL Try.prog plE ((chainOf plC).drop 2) (plSt ⟨N, z, y, len, cap, t, s, false, fun _ => 0, 0, 0, i, 0⟩))) _
    rw [pr_t0]
    have hr' : Rel N t s (fun _ => 0) 0 := ⟨hr.tn, hr.sn, hr.lo, hr.hi, by have := hr.ln; omega, hr.d, hr.l, by rw [hr.c, hl], by rw [hr.w, hl], hr.wn, fun j hj => absurd hj (Nat.not_lt_zero _), fun k hk => by rw [hr.B k hk, hl]; simp⟩
    refine T.hneed ⟨id, SubSt.mk (by simp [inSt, plF, plM, plT, plL, natOf, intA, SubFr, slotAt, ren, below]) (pl_sub0 ⟨N, z, y, len, cap, t, s, false, f, ll, lc, i, k⟩ f ll lc)⟩ (T.hneed ⟨h1, hr', Nat.le_refl 0, fun _ => rfl, Nat.zero_le _⟩ (T.hret ?_))
    exact ⟨id, plSt ⟨N, z, y, len, cap, t, s, false, f, ll, lc, i, k⟩, SubSt.mk (by simp [plSt, plF, plM, plT, plL, natOf, intA, SubFr, slotAt, ren, below]) (pl_sub0 ⟨N, z, y, len, cap, t, s, false, f, ll, lc, i, k⟩ f ll lc), hR⟩
  | true =>
    show T.holds (keepT [0, 1, 5, 6, 7] (acodeL Try.prog plE ((chainOf plC).drop 2) (plSt ⟨N, z, y, len, cap, t, s, true, f, ll, lc, i, 0⟩))) _
    rw [pr_t1]
    refine T.hneed ⟨id, SubSt.mk (by simp [inSt, plF, plM, plT, plL, natOf, intA, SubFr, slotAt, ren, below]) (pl_sub1 ⟨N, z, y, len, cap, t, s, true, f, ll, lc, i, k⟩ f ll lc)⟩ (T.hneed ⟨h1, hr, h3, h4, Nat.zero_le _⟩ (T.hret ?_))
    exact ⟨id, plSt ⟨N, z, y, len, cap, t, s, true, f, ll, lc, i, k⟩, SubSt.mk (by simp [plSt, plF, plM, plT, plL, natOf, intA, SubFr, slotAt, ren, below]) (pl_sub1 ⟨N, z, y, len, cap, t, s, true, f, ll, lc, i, k⟩ f ll lc), hR⟩

theorem pl_C : (chainOf plO).drop 2 = .block 1 plC :: (chainOf plO).drop 3 := by kernel_rfl

/-- The barriers, whatever holds. -/
theorem pl_bar (x : PL) (h1 : x.len ≤ x.cap) (hr : Rel x.N x.t x.s x.f x.ll) (h3 : x.ll ≤ x.lc) (h4 : x.b = false → x.ll = 0) (hi : x.i < x.len) {R : Ex × St → Prop}
    (K : ∀ t' s' b' f' ll' lc', Rel x.N t' s' f' ll' → ll' ≤ lc' → (b' = false → ll' = 0) → R (.norm, plSt ⟨x.N, x.z, x.y, x.len, x.cap, t', s', b', f', ll', lc', x.i, 0⟩)) : AWpL Try.prog plE (chainOf plC) (plSt x) R := by
  obtain ⟨N, z, y, len, cap, t, s, b, f, ll, lc, i, k⟩ := x
  dsimp only at h1 hr h3 h4 hi K
  have K' : ∀ t' s' b' f' ll' lc', Rel N t' s' f' ll' → ll' ≤ lc' → (b' = false → ll' = 0) → AWpL Try.prog plE ((chainOf plC).drop 2) (plSt ⟨N, z, y, len, cap, t', s', b', f', ll', lc', i, 0⟩) R := fun t' s' b' f' ll' lc' a1 a2 a3 => pr_go _ h1 a1 a2 a3 (K t' s' b' f' ll' lc' a1 a2 a3)
  cases b with
  | false =>
    have hl := h4 rfl
    have hr' : Rel N t s (fun _ => 0) 0 := ⟨hr.tn, hr.sn, hr.lo, hr.hi, by have := hr.ln; omega, hr.d, hr.l, by rw [hr.c, hl], by rw [hr.w, hl], hr.wn, fun j hj => absurd hj (Nat.not_lt_zero _), fun k hk => by rw [hr.B k hk, hl]; simp⟩
    show AWpL Try.prog plE (chainOf plC) (plSt ⟨N, z, y, len, cap, t, s, false, fun _ => 0, 0, 0, i, 0⟩) R
    cases g : rfR s (z i) (y i) with
    | true => exact rg00 N z y len cap t s i h1 hr' hi g K'
    | false =>
      by_cases g2 : (1 : Int) < s.n
      · exact rg01 N z y len cap t s i h1 hr' hi ⟨g, g2⟩ K'
      · exact rg02 N z y len cap t s i h1 hr' hi ⟨g, g2⟩ K'
  | true =>
    show AWpL Try.prog plE (chainOf plC) (plSt ⟨N, z, y, len, cap, t, s, true, f, ll, lc, i, 0⟩) R
    cases g : rfR s (z i) (y i) with
    | true => exact rg10 N z y len cap t s f ll lc i h1 hr h3 hi g K'
    | false =>
      cases g1 : frR s (y i) with
      | true =>
        by_cases g2 : (1 : Int) < s.n
        · exact rg11 N z y len cap t s f ll lc i h1 hr h3 hi ⟨g, g1, g2⟩ K'
        · exact rg12 N z y len cap t s f ll lc i h1 hr h3 hi ⟨g, .inl ⟨g1, g2⟩⟩ K'
      | false =>
        cases g3 : hasN f (z i) ll 0 with
        | true =>
          by_cases g2 : (ll : Int) < s.n
          · exact rg13 N z y len cap t s f ll lc i h1 hr h3 hi ⟨g, g1, g3, g2⟩ K'
          · exact rg12 N z y len cap t s f ll lc i h1 hr h3 hi ⟨g, .inr (.inl ⟨g1, g3, g2⟩)⟩ K'
        | false =>
          by_cases g2 : ((ll + 1 : Nat) : Int) < s.n
          · exact rg14 N z y len cap t s f ll lc i h1 hr h3 hi ⟨g, g1, g3, g2⟩ K'
          · exact rg12 N z y len cap t s f ll lc i h1 hr h3 hi ⟨g, .inr (.inr ⟨g1, g3, g2⟩)⟩ K'

theorem pl_loop : LoopOK Try.prog plE (loopAt (codeOf Try.f3) 0) := by
  refine loop_any (E := plE) plSt plInv (fun x => 300 - x.i) plPick plEnd ?_ (by kernel_rfl)
  intro x hx Q hq
  obtain ⟨N, z, y, len, cap, t, s, b, f, ll, lc, i, k⟩ := x
  obtain ⟨h1, hr, h3, h4, h5, h6⟩ := hx
  dsimp only at h1 hr h3 h4 h5 h6
  have hq : Q (.exit 0, ⟨[], [none]⟩) := hq
  show AWp Try.prog plE plO _ _
  refine awp_chain (awpl_cut (E := plE) plE_ok 2 (noLoopsL_ok (by kernel_rfl)) (weak_keep [0, 1, 5, 6, 7] ?_))
  have out : ∀ st, (Weak plE (Then (Round plE plSt plInv (fun x => 300 - x.i) plEnd Q ⟨N, z, y, len, cap, t, s, b, f, ll, lc, i, k⟩) fun st' => AWpL Try.prog plE ((chainOf plO).drop 2) st' (Round plE plSt plInv (fun x => 300 - x.i) plEnd Q ⟨N, z, y, len, cap, t, s, b, f, ll, lc, i, k⟩))) (.exit 0, st) := fun st =>
    ⟨id, ⟨[], [none]⟩, SubSt.mk (by simp [SubFr]) (Sub.nothing (n := 1) _), ⟨id, ⟨[], [none]⟩, SubSt.mk (by simp [SubFr]) (Sub.nothing (n := 1) _), hq⟩⟩
  have on : i < len → i < 300 → AWpL Try.prog plE ((chainOf plO).drop 2) (plSt ⟨N, z, y, len, cap, t, s, b, f, ll, lc, i, k⟩) (Round plE plSt plInv (fun x => 300 - x.i) plEnd Q ⟨N, z, y, len, cap, t, s, b, f, ll, lc, i, k⟩) := fun g1 g2 => by
    rw [pl_C]
    refine awpl_block (pl_bar ⟨N, z, y, len, cap, t, s, b, f, ll, lc, i, k⟩ h1 hr h3 h4 g1 fun t' s' b' f' ll' lc' a1 a2 a3 => ?_)
    have hw : IntKind.wrap IntKind.i64 ((i : Int) + 1) = ((i + 1 : Nat) : Int) := by rw [IntWalk.i64_in _ (by omega)]; omega
    refine awpl_end (E := plE) plE_ok (noLoopsL_ok (by kernel_rfl)) (weak_keep [0, 1, 5, 6, 7] ?_)
    cases b' with
    | false =>
      show T.holds (keepT [0, 1, 5, 6, 7] (acodeL Try.prog plE ((chainOf plO).drop 3) (plSt ⟨N, z, y, len, cap, t', s', false, fun _ => 0, 0, 0, i, 0⟩))) _
      rw [pe_t0]
      exact T.hret ⟨id, plSt ⟨N, z, y, len, cap, t', s', false, f', ll', lc', i + 1, 0⟩, SubSt.mk (by simp [plSt, plF, plM, plT, plL, SubFr, slotAt, ren, below, hw]) (pl_sub0 ⟨N, z, y, len, cap, t', s', false, f', ll', lc', i, 0⟩ f' ll' lc'),
        Round.go ⟨N, z, y, len, cap, t', s', false, f', ll', lc', i + 1, 0⟩ id ⟨h1, a1, a2, a3, by dsimp only; omega, by dsimp only; omega⟩ (by dsimp only; omega) (SubSt.mk (by simp [plSt, plF, plM, plT, plL, SubFr, slotAt, ren, below]) (pl_sub0 ⟨N, z, y, len, cap, t', s', false, f', ll', lc', i, 0⟩ f' ll' lc')) hq⟩
    | true =>
      show T.holds (keepT [0, 1, 5, 6, 7] (acodeL Try.prog plE ((chainOf plO).drop 3) (plSt ⟨N, z, y, len, cap, t', s', true, f', ll', lc', i, 0⟩))) _
      rw [pe_t1]
      exact T.hret ⟨id, plSt ⟨N, z, y, len, cap, t', s', true, f', ll', lc', i + 1, 0⟩, SubSt.mk (by simp [plSt, plF, plM, plT, plL, SubFr, slotAt, ren, below, hw]) (pl_sub1 ⟨N, z, y, len, cap, t', s', true, f', ll', lc', i, 0⟩ f' ll' lc'),
        Round.go ⟨N, z, y, len, cap, t', s', true, f', ll', lc', i + 1, 0⟩ id ⟨h1, a1, a2, a3, by dsimp only; omega, by dsimp only; omega⟩ (by dsimp only; omega) (SubSt.mk (by simp [plSt, plF, plM, plT, plL, SubFr, slotAt, ren, below]) (pl_sub1 ⟨N, z, y, len, cap, t', s', true, f', ll', lc', i, 0⟩ f' ll' lc')) hq⟩
  clear hq
  cases b with
  | false =>
    show T.holds (keepT [0, 1, 5, 6, 7] (acodeL Try.prog plE ((chainOf plO).take 2) (plSt ⟨N, z, y, len, cap, t, s, false, fun _ => 0, 0, 0, i, 0⟩))) _
    rw [ph_t0]
    exact T.hiteP (fun g1 => T.hiteP (fun g2 => T.hret ⟨id, plSt ⟨N, z, y, len, cap, t, s, false, f, ll, lc, i, k⟩, SubSt.mk (by simp [plSt, plF, plM, plT, plL, SubFr, slotAt, ren, below]) (pl_sub0 ⟨N, z, y, len, cap, t, s, false, f, ll, lc, i, k⟩ f ll lc), on (by omega) (by omega)⟩) (fun _ => T.hret (out _))) (fun _ => T.hret (out _))
  | true =>
    show T.holds (keepT [0, 1, 5, 6, 7] (acodeL Try.prog plE ((chainOf plO).take 2) (plSt ⟨N, z, y, len, cap, t, s, true, f, ll, lc, i, 0⟩))) _
    rw [ph_t1]
    exact T.hiteP (fun g1 => T.hiteP (fun g2 => T.hret ⟨id, plSt ⟨N, z, y, len, cap, t, s, true, f, ll, lc, i, k⟩, SubSt.mk (by simp [plSt, plF, plM, plT, plL, SubFr, slotAt, ren, below]) (pl_sub1 ⟨N, z, y, len, cap, t, s, true, f, ll, lc, i, k⟩ f ll lc), on (by omega) (by omega)⟩) (fun _ => T.hret (out _))) (fun _ => T.hret (out _))

end Go.Proofs.Ythbdkhlpojngeaa
