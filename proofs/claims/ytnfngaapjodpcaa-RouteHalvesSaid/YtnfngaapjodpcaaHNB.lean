/-
  Layer 20: Halves: loops.
-/
import Derived.Test.YtnfngaapjodpcaaHNA
namespace Go.Proofs.Ytnfngaapjodpcaa
open Go.Ox
set_option maxRecDepth 100000
set_option maxHeartbeats 4000000
set_option linter.unusedVariables false
set_option linter.unusedSimpArgs false

theorem hv_ow (X G p h : Int) (hp : 1 ≤ p ∧ p ≤ 8 ∧ p ≤ G) (hG : 1 ≤ G ∧ G ≤ 64) (hh : h = if 2 * p ≤ G ∧ 2 * p ≤ 8 then 2 * p else p) (hn : h ≠ p) : IntKind.wrap .i64 (Int.tdiv (owG X h G) 2) = owG X p G := by
  by_cases hc : 2 * p ≤ G ∧ 2 * p ≤ 8
  · rw [if_pos hc] at hh
    subst hh
    by_cases hX : 0 ≤ X ∧ X < G
    · have e1 : owG X (2 * p) G = X * (2 * p) / G := if_pos (by simp only [Bool.and_eq_true, decide_eq_true_eq, okG_iff]; omega)
      have e2 : owG X p G = X * p / G := if_pos (by simp only [Bool.and_eq_true, decide_eq_true_eq, okG_iff]; omega)
      have m0 : 0 ≤ X * p := Int.mul_nonneg (by omega) (by omega)
      have h0 : 0 ≤ X * p / G := Int.ediv_nonneg (by omega) (by omega)
      have h1 : X * p / G < p := (Int.ediv_lt_iff_lt_mul (by omega)).2 (by rw [Int.mul_comm p G]; exact Int.mul_lt_mul_of_pos_right (by omega) (by omega))
      have d2 : X * (2 * p) / G / 2 = X * p / G := by
        rw [Int.ediv_ediv, if_neg (fun h => by omega), Int.sub_zero, Int.mul_left_comm, Int.mul_comm G 2, Int.mul_ediv_mul_of_pos _ _ (by omega)]
      have d3 : 0 ≤ X * (2 * p) / G := Int.ediv_nonneg (Int.mul_nonneg (by omega) (by omega)) (by omega)
      rw [e1, e2, Int.tdiv_eq_ediv_of_nonneg d3, d2, IntWalk.i64_in _ (by omega)]
    · have e1 : owG X (2 * p) G = 0 := if_neg (by simp only [Bool.and_eq_true, decide_eq_true_eq, okG_iff]; omega)
      have e2 : owG X p G = 0 := if_neg (by simp only [Bool.and_eq_true, decide_eq_true_eq, okG_iff]; omega)
      rw [e1, e2]
      decide
  · rw [if_neg hc] at hh
    exact absurd hh hn

theorem ap1_one {n : Nat} {ρ : Nat → Nat} {F : Nat → Int} {x : Int} {c : Nat} {Z : Nat → List AV} (hx : x = F 0) (hZ : ∀ r, 1 ≤ r → Z r = [.int .i64 0]) :
    BlkOK n ρ (Blk.mk true [] 1 c (fun r => if r < 0 then [] else if r < 1 then List.map (fun c => Col.at c (0 + (r - 0))) ([] ++ [Col.ints .i64 [x]]) else Z r) [] none) (apRow .i64 F 1 c) := by
  refine BlkOK.rows (fun h => h) fun r _ => ?_
  rw [if_neg (Nat.not_lt_zero _)]
  rcases Nat.lt_or_ge r 1 with h' | h'
  · have : r = 0 := by omega
    subst this
    rw [if_pos h', if_pos h']
    simp only [List.nil_append, List.map_cons, List.map_nil, Col.at]
    exact LAlike.ints (by simpa using hx)
  · rw [if_neg (by omega), if_neg (by omega), hZ r h']
    exact aI aE

def hvInv (np : Nat) (y : HX) : Prop := y.i ≤ np ∧ (y.hs = false → y.i = 0) ∧ (y.hs = true → 1 ≤ y.i ∧ y.i ≤ y.c)

theorem hv_rd0 (x : FD) (o : OC) (G key op : Int) (len cap : Nat) (hk0 : spOK x len cap) (pr : Nat → Int) (np pc : Nat) (hp : np ≤ pc) (h12 : np ≤ 12) (h1n : 1 ≤ np) (hr : ∀ j, j < np → 1 ≤ pr j ∧ pr j ≤ 8 ∧ pr j ≤ G) (i c : Nat) (hy : hvInv np ⟨i, false, c⟩) {Q : Ex × St → Prop} :
    AWp Try.prog (hvE2 x o G len cap) hvC (hvSt x o G key op len cap pr np pc ⟨i, false, c⟩) (Round (hvE2 x o G len cap) (hvSt x o G key op len cap pr np pc) (hvInv np) (fun y => np - y.i) (fun _ => .asm false .fail) Q ⟨i, false, c⟩) := by
  obtain ⟨h1, h2, _⟩ := hy
  have h0 : i = 0 := h2 rfl
  refine code_sound (hvE2_ok x o G len cap hk0) _ (noLoops (by kernel_rfl)) _ _ (round_keep [1, 2, 3, 4, 9, 10] (T.cut_eq (hv_t0 x o G key op len cap pr np pc i c) ?_))
  refine T.hiteP (fun hi => ?_) (fun hi => absurd (by omega) hi)
  obtain ⟨r1, r2, r3⟩ := hr i (by omega)
  have ep : 0 + Int.toNat (i : Int) = i := by omega
  have ew : IntKind.wrap .i64 (2 * pr i) = 2 * pr i := IntWalk.i64_in _ (by omega)
  rw [ep, ew]
  refine T.hchk (by simp only [Bool.and_eq_true, decide_eq_true_eq]; omega) (T.hchk (decide_eq_true (by omega)) ?_)
  subst h0
  have hw1 : IntKind.wrap IntKind.i64 1 = 1 := IntWalk.i64_in _ (by omega)
  refine T.hiteP (fun g1 => T.hiteP (fun g2 => ?_) (fun g2 => ?_)) (fun g1 => ?_)
  · refine T.hchkT (T.hchkT (T.hchkT (T.hall fun c' => T.hasmP fun hc => T.hret ?_)))
    exact Round.go ⟨1, true, c'⟩ (rhoL [0, 1, 2, 3, 5]) ⟨h1n, (fun h => by cases h), fun _ => ⟨Nat.le_refl _, hc⟩⟩ (by dsimp only; omega) (subStL [0, 1, 2, 3, 5] rfl rfl rfl (Nat.le_of_ble_eq_true rfl) (by simp [hvSt, tgM, spM, SubFr, slotAt, ren, below, rhoL, hw1]) ⟨⟨_, rfl, x.ok⟩, ⟨_, rfl, ops_ok rfl (Nat.succ_pos _)⟩, ⟨_, rfl, in_ok⟩, ⟨_, rfl, box_ok rfl (by simp [hvSt, tgM, spM])⟩, ⟨_, rfl, ap1_one (by unfold hf; rw [if_pos ⟨g1, g2⟩]) (fun r _ => rfl)⟩, trivial⟩) any_ff
  · refine T.hchkT (T.hchkT (T.hchkT (T.hall fun c' => T.hasmP fun hc => T.hret ?_)))
    exact Round.go ⟨1, true, c'⟩ (rhoL [0, 1, 2, 3, 5]) ⟨h1n, (fun h => by cases h), fun _ => ⟨Nat.le_refl _, hc⟩⟩ (by dsimp only; omega) (subStL [0, 1, 2, 3, 5] rfl rfl rfl (Nat.le_of_ble_eq_true rfl) (by simp [hvSt, tgM, spM, SubFr, slotAt, ren, below, rhoL, hw1]) ⟨⟨_, rfl, x.ok⟩, ⟨_, rfl, ops_ok rfl (Nat.succ_pos _)⟩, ⟨_, rfl, in_ok⟩, ⟨_, rfl, box_ok rfl (by simp [hvSt, tgM, spM])⟩, ⟨_, rfl, ap1_one (by unfold hf; rw [if_neg (fun h => g2 h.2)]) (fun r _ => rfl)⟩, trivial⟩) any_ff
  · refine T.hchkT (T.hchkT (T.hchkT (T.hall fun c' => T.hasmP fun hc => T.hret ?_)))
    exact Round.go ⟨1, true, c'⟩ (rhoL [0, 1, 2, 3, 5]) ⟨h1n, (fun h => by cases h), fun _ => ⟨Nat.le_refl _, hc⟩⟩ (by dsimp only; omega) (subStL [0, 1, 2, 3, 5] rfl rfl rfl (Nat.le_of_ble_eq_true rfl) (by simp [hvSt, tgM, spM, SubFr, slotAt, ren, below, rhoL, hw1]) ⟨⟨_, rfl, x.ok⟩, ⟨_, rfl, ops_ok rfl (Nat.succ_pos _)⟩, ⟨_, rfl, in_ok⟩, ⟨_, rfl, box_ok rfl (by simp [hvSt, tgM, spM])⟩, ⟨_, rfl, ap1_one (by unfold hf; rw [if_neg (fun h => g1 h.1)]) (fun r _ => rfl)⟩, trivial⟩) any_ff

theorem hv_rd1 (x : FD) (o : OC) (G key op : Int) (len cap : Nat) (hk0 : spOK x len cap) (pr : Nat → Int) (np pc : Nat) (hp : np ≤ pc) (h12 : np ≤ 12) (hr : ∀ j, j < np → 1 ≤ pr j ∧ pr j ≤ 8 ∧ pr j ≤ G) (i c : Nat) (hy : hvInv np ⟨i, true, c⟩) {Q : Ex × St → Prop} (hX : i = np → Q (.exit 0, hvSt x o G key op len cap pr np pc ⟨i, true, c⟩)) :
    AWp Try.prog (hvE2 x o G len cap) hvC (hvSt x o G key op len cap pr np pc ⟨i, true, c⟩) (Round (hvE2 x o G len cap) (hvSt x o G key op len cap pr np pc) (hvInv np) (fun y => np - y.i) (fun _ => .asm false .fail) Q ⟨i, true, c⟩) := by
  obtain ⟨h1, _, h3⟩ := hy
  obtain ⟨h3, h4⟩ := h3 rfl
  dsimp only at h1 h3 h4
  refine code_sound (hvE2_ok x o G len cap hk0) _ (noLoops (by kernel_rfl)) _ _ (round_keep [1, 2, 3, 4, 9, 10] (T.cut_eq (hv_t1 x o G key op len cap pr np pc i c) ?_))
  refine T.hiteP (fun hi => ?_) (fun hi => T.hret ?_)
  · obtain ⟨r1, r2, r3⟩ := hr i (by omega)
    have ep : 0 + Int.toNat (i : Int) = i := by omega
    have ew : IntKind.wrap .i64 (2 * pr i) = 2 * pr i := IntWalk.i64_in _ (by omega)
    have hw : IntKind.wrap IntKind.i64 ((i : Int) + 1) = ((i + 1 : Nat) : Int) := by rw [IntWalk.i64_in _ (by omega)]; omega
    rw [ep, ew]
    refine T.hchk (by simp only [Bool.and_eq_true, decide_eq_true_eq]; omega) (T.hchk (decide_eq_true (by omega)) ?_)
    have zz : ∀ (d c' : Nat), (d = 0 ∨ c' = c) → ∀ r, i + 1 ≤ r → (if d = 0 then AV.cells (AV.int IntKind.i64 0) else [AV.int .i64 (if 0 + r < i then hf G pr (0 + r) else 0)]) = [AV.int .i64 0] := fun d c' hd r hr' => by
      split
      · rfl
      · rw [if_neg (by omega)]
    refine T.hiteP (fun g1 => T.hiteP (fun g2 => ?_) (fun g2 => ?_)) (fun g1 => ?_)
    · refine T.hchkT (T.hchk (decide_eq_true (by omega)) (T.hchk (decide_eq_true h4) (T.hchk (decide_eq_true (by omega)) (T.hall fun c' => T.hall fun d => T.hasmP fun hc => T.hret ?_))))
      exact Round.go ⟨i + 1, true, c'⟩ (rhoL [0, 1, 2, 3, 6]) ⟨by dsimp only; omega, (fun h => by cases h), fun _ => ⟨by dsimp only; omega, hc.1⟩⟩ (by dsimp only; omega) (subStL [0, 1, 2, 3, 6] rfl rfl rfl (Nat.le_of_ble_eq_true rfl) (by simp [hvSt, tgM, spM, SubFr, slotAt, ren, below, rhoL, hw]) ⟨⟨_, rfl, x.ok⟩, ⟨_, rfl, ops_ok rfl (Nat.succ_pos _)⟩, ⟨_, rfl, in_ok⟩, ⟨_, rfl, box_ok rfl (by simp [hvSt, tgM, spM])⟩, ⟨_, rfl, vec_ok (F := hf G pr) (fun _ _ => rfl) (show 2 * pr i = hf G pr i by unfold hf; rw [if_pos ⟨g1, g2⟩]) rfl (zz d c' hc.2)⟩, trivial⟩) any_ff
    · refine T.hchkT (T.hchk (decide_eq_true (by omega)) (T.hchk (decide_eq_true h4) (T.hchk (decide_eq_true (by omega)) (T.hall fun c' => T.hall fun d => T.hasmP fun hc => T.hret ?_))))
      exact Round.go ⟨i + 1, true, c'⟩ (rhoL [0, 1, 2, 3, 6]) ⟨by dsimp only; omega, (fun h => by cases h), fun _ => ⟨by dsimp only; omega, hc.1⟩⟩ (by dsimp only; omega) (subStL [0, 1, 2, 3, 6] rfl rfl rfl (Nat.le_of_ble_eq_true rfl) (by simp [hvSt, tgM, spM, SubFr, slotAt, ren, below, rhoL, hw]) ⟨⟨_, rfl, x.ok⟩, ⟨_, rfl, ops_ok rfl (Nat.succ_pos _)⟩, ⟨_, rfl, in_ok⟩, ⟨_, rfl, box_ok rfl (by simp [hvSt, tgM, spM])⟩, ⟨_, rfl, vec_ok (F := hf G pr) (fun _ _ => rfl) (show pr i = hf G pr i by unfold hf; rw [if_neg (fun h => g2 h.2)]) rfl (zz d c' hc.2)⟩, trivial⟩) any_ff
    · refine T.hchkT (T.hchk (decide_eq_true (by omega)) (T.hchk (decide_eq_true h4) (T.hchk (decide_eq_true (by omega)) (T.hall fun c' => T.hall fun d => T.hasmP fun hc => T.hret ?_))))
      exact Round.go ⟨i + 1, true, c'⟩ (rhoL [0, 1, 2, 3, 6]) ⟨by dsimp only; omega, (fun h => by cases h), fun _ => ⟨by dsimp only; omega, hc.1⟩⟩ (by dsimp only; omega) (subStL [0, 1, 2, 3, 6] rfl rfl rfl (Nat.le_of_ble_eq_true rfl) (by simp [hvSt, tgM, spM, SubFr, slotAt, ren, below, rhoL, hw]) ⟨⟨_, rfl, x.ok⟩, ⟨_, rfl, ops_ok rfl (Nat.succ_pos _)⟩, ⟨_, rfl, in_ok⟩, ⟨_, rfl, box_ok rfl (by simp [hvSt, tgM, spM])⟩, ⟨_, rfl, vec_ok (F := hf G pr) (fun _ _ => rfl) (show pr i = hf G pr i by unfold hf; rw [if_neg (fun h => g1 h.1)]) rfl (zz d c' hc.2)⟩, trivial⟩) any_ff
  · exact Round.any (.exit 0) (hvSt x o G key op len cap pr np pc ⟨i, true, c⟩) (rhoL [0, 1, 2, 3, 4]) (subStL [0, 1, 2, 3, 4] rfl rfl rfl (Nat.le_of_ble_eq_true rfl) (by simp [hvSt, tgM, spM, SubFr, slotAt, ren, below, rhoL]) ⟨⟨_, rfl, x.ok⟩, ⟨_, rfl, ops_ok rfl (Nat.succ_pos _)⟩, ⟨_, rfl, in_ok⟩, ⟨_, rfl, box_ok rfl (by simp [hvSt, tgM, spM])⟩, ⟨_, rfl, ap_refl⟩, trivial⟩) (hX (by omega))

theorem hv_lp1 (x : FD) (o : OC) (G key op : Int) (len cap : Nat) (hk0 : spOK x len cap) (pr : Nat → Int) (np pc : Nat) (hp : np ≤ pc) (h12 : np ≤ 12) (h1n : 1 ≤ np) (hr : ∀ j, j < np → 1 ≤ pr j ∧ pr j ≤ 8 ∧ pr j ≤ G) {Q : Ex × St → Prop} (hX : ∀ c, np ≤ c → Q (.exit 0, hvSt x o G key op len cap pr np pc ⟨np, true, c⟩)) :
    AWp Try.prog (hvE2 x o G len cap) (.loop hvC) (hvSt x o G key op len cap pr np pc ⟨0, false, 0⟩) Q := by
  refine loop_free (hvSt x o G key op len cap pr np pc) (hvInv np) (fun y => np - y.i) (fun y hy => ?_) ⟨0, false, 0⟩ ⟨Nat.zero_le _, fun _ => rfl, fun h => by cases h⟩
  obtain ⟨i, hs, c⟩ := y
  cases hs
  · exact hv_rd0 x o G key op len cap hk0 pr np pc hp h12 h1n hr i c hy
  · refine hv_rd1 x o G key op len cap hk0 pr np pc hp h12 hr i c hy fun hi => ?_
    subst hi
    exact hX c (hy.2.2 rfl).2

theorem hv_s (x : FD) (o : OC) (G : Int) (cap : Nat) (pr : Nat → Int) (np pc c : Nat) (u U : Nat → Int) (un d : Nat) (V : Nat → Int) (e : Nat) {fr' fr : List (Nat × AV)} (hf' : SubFr (hvM x o G cap pr np pc c u U un d V e).length id fr' fr) : SubSt 3 id ⟨fr', hvM x o G cap pr np pc c u U un d V e⟩ ⟨fr, hvM x o G cap pr np pc c u U un d V e⟩ :=
  SubSt.mk hf' (Sub.of ⟨⟨_, rfl, x.ok⟩, ⟨_, rfl, ops_ok rfl (Nat.succ_pos _)⟩, ⟨_, rfl, in_ok⟩, ⟨_, rfl, ap_refl⟩, ⟨_, rfl, ap2_same⟩, ⟨_, rfl, ap2_same⟩, trivial⟩ (fun _ _ _ _ h => h) (fun _ _ => rfl) (by simp [hvM, tgM, spM]))

theorem hv_lp2 (x : FD) (o : OC) (G key : Int) (len cap : Nat) (hk0 : spOK x len cap) (hG : 1 ≤ G ∧ G ≤ 64) (pr : Nat → Int) (np pc c : Nat) (hp : np ≤ pc) (hc : np ≤ c) (hr : ∀ j, j < np → 1 ≤ pr j ∧ pr j ≤ 8 ∧ pr j ≤ G) (u : Nat → Int) (un d e : Nat) (hu : tgU np u un) (hd : un ≤ d) (he : un ≤ e) {Q : Ex × St → Prop} (hX : Q (.exit 2, hvO x o G cap pr np pc c u (owAt G key pr u) un d (owAt G key (fun j => if j < np then hf G pr j else 0) u) e un)) :
    AWp Try.prog (hvE2 x o G len cap) (.loop hvD) (hvO x o G cap pr np pc c u (owAt G key pr u) un d (owAt G key (fun j => if j < np then hf G pr j else 0) u) e 0) Q := by
  have dE := fun i U V => hv_d x o G len cap pr np pc c u U un d V e i
  have eq1 : ∀ i, i < un → hf G pr (u i).toNat ≠ pr (u i).toNat → IntKind.wrap .i64 (Int.tdiv (owAt G key (fun j => if j < np then hf G pr j else 0) u i) 2) = owAt G key pr u i := fun i hi hn => by
    obtain ⟨u1, u2⟩ := hu.2 i hi
    unfold owAt
    dsimp only
    rw [if_pos (by omega)]
    exact hv_ow _ G (pr (u i).toNat) _ (hr _ (by omega)) hG rfl hn
  have eq2 : ∀ i, i < un → hf G pr (u i).toNat = pr (u i).toNat → owAt G key (fun j => if j < np then hf G pr j else 0) u i = owAt G key pr u i := fun i hi hn => by
    obtain ⟨u1, u2⟩ := hu.2 i hi
    unfold owAt
    dsimp only
    rw [if_pos (by omega), hn]
  generalize owAt G key (fun j => if j < np then hf G pr j else 0) u = V at eq1 eq2 hX ⊢
  generalize owAt G key pr u = U at eq1 eq2 hX ⊢
  refine loop_free (fun i : Nat => hvO x o G cap pr np pc c u U un d V e i) (fun i => i ≤ un) (fun i => un - i) (fun i hi => ?_) 0 (Nat.zero_le _)
  refine code_sound (hvE2_ok x o G len cap hk0) _ (noLoops (by kernel_rfl)) _ _ (round_keep [1, 8, 9, 12, 13, 14] (T.cut_eq (dE i U V) ?_))
  have hun := hu.1
  refine T.hiteP (fun hi1 => ?_) (fun hi1 => T.hret ?_)
  · have hiu : i < un := by omega
    obtain ⟨u1, u2⟩ := hu.2 i hiu
    have q1 := eq1 i hiu
    have q2 := eq2 i hiu
    have hw : IntKind.wrap IntKind.i64 ((i : Int) + 1) = ((i + 1 : Nat) : Int) := by rw [IntWalk.i64_in _ (by omega)]; omega
    have ei : 0 + Int.toNat (i : Int) = i := by omega
    have q : ∀ F : Nat → Int, (if 0 + Int.toNat (i : Int) < un then F (0 + Int.toNat (i : Int)) else 0) = F i := fun F => by rw [if_pos (by omega), ei]
    have pu : 0 + Int.toNat (u i) = (u i).toNat := by omega
    have ph : (if (u i).toNat < np then hf G pr (u i).toNat else 0) = hf G pr (u i).toNat := if_pos (by omega)
    rw [q u, q U, q V, pu, ph]
    have b1 : (decide ((0 : Int) ≤ (i : Int)) && decide ((i : Int) < (un : Int))) = true := by simp only [Bool.and_eq_true, decide_eq_true_eq]; omega
    have b2 : decide (0 + Int.toNat (i : Int) < d) = true := decide_eq_true (by omega)
    have b3 : decide (0 + Int.toNat (i : Int) < e) = true := decide_eq_true (by omega)
    have b4 : (decide ((0 : Int) ≤ u i) && decide (u i < (np : Int))) = true := by simp only [Bool.and_eq_true, decide_eq_true_eq]; omega
    have b5 : decide ((u i).toNat < c) = true := decide_eq_true (by omega)
    have b6 : decide ((u i).toNat < pc) = true := decide_eq_true (by omega)
    have nx : Round (hvE2 x o G len cap) (fun i : Nat => hvO x o G cap pr np pc c u U un d V e i) (fun i => i ≤ un) (fun i => un - i) (fun _ => .asm false .fail) Q i (.norm, hvO x o G cap pr np pc c u U un d V e (i + 1)) :=
      Round.go (i + 1) id (by omega) (by omega) (hv_s x o G cap pr np pc c u U un d V e (by simp [hvO, hvM, tgM, spM, SubFr, slotAt, ren, below])) any_ff
    refine T.hchk b1 (T.hchk b2 (T.hchk b1 (T.hchk b3 (T.hiteN (fun h => absurd rfl h) (fun _ => T.hchk b1 (T.hchk b2 (T.hiteP (fun h => absurd u1 (by omega)) (fun _ => T.hchk b1 (T.hchk b2 (T.hiteP (fun h => absurd u2 (by omega)) (fun _ => ?_)))))))))))
    refine T.hchk b1 (T.hchk b3 (T.hchk b1 (T.hchk b2 (T.hchk b4 (T.hchk b5 (T.hchk b1 (T.hchk b2 (T.hchk b4 (T.hchk b6 (T.hiteN (fun hne => T.hchkT (T.hchk b1 (T.hchk b2 (T.hiteN (fun h => absurd (q1 hne) h) (fun _ => T.hret ?_))))) (fun heq => T.hchk b1 (T.hchk b2 (T.hiteN (fun h => absurd (q2 heq) h) (fun _ => T.hret ?_))))))))))))))
    · rw [hw]
      exact nx
    · rw [hw]
      exact nx
  · have ei : i = un := by omega
    subst ei
    exact Round.any (.exit 2) (hvO x o G cap pr np pc c u U i d V e i) id (hv_s x o G cap pr np pc c u U i d V e (by simp [hvO, hvM, tgM, spM, SubFr, slotAt, ren, below])) hX

end Go.Proofs.Ytnfngaapjodpcaa
