/-
  Layer 19: AlignPlays: the barriers of a round (case 0 0).
-/
import Derived.Test.YthbdkhlpojngeaaHPZ
import Derived.Test.YthbdkhlpojngeaaHRA
import Derived.Test.YthbdkhlpojngeaaHZZ
namespace Go.Proofs.Ythbdkhlpojngeaa
open Go.Ox
set_option maxRecDepth 100000
set_option maxHeartbeats 2000000
set_option linter.unusedVariables false
set_option linter.unusedSimpArgs false

theorem rg00 (N : Nat) (z y : Nat → Int) (len cap : Nat) (t : AL) (s : RA) (i : Nat) (h1 : len ≤ cap) (hr : Rel N t s (fun _ => 0) 0) (hi : i < len) (hm : rfR s (z i) (y i) = true) {R : Ex × St → Prop}
    (K : ∀ t' s' b' f' ll' lc', Rel N t' s' f' ll' → ll' ≤ lc' → (b' = false → ll' = 0) → AWpL Try.prog plE ((chainOf plC).drop 2) (plSt ⟨N, z, y, len, cap, t', s', b', f', ll', lc', i, 0⟩) R) : AWpL Try.prog plE (chainOf plC) (plSt ⟨N, z, y, len, cap, t, s, false, fun _ => 0, 0, 0, i, 0⟩) R := by
  obtain ⟨e1, e2⟩ := hr.yes hm
  have hR : Rel N (bar t (z i) (y i)) s (fun _ => 0) 0 := by rw [e2]; exact hr
  have go : ∀ (X : AM), (Weak (pmE 0) (Then R fun st' => AWpL Try.prog plE ((chainOf plC).drop 2) st' R)) (.norm, ⟨plF ⟨N, z, y, len, cap, t, s, false, fun _ => 0, 0, 0, i, 0⟩, some (plA ⟨N, z, y, len, cap, t, s, false, fun _ => 0, 0, 0, i, 0⟩) :: some (alB (bar t (z i) (y i))) :: some (raB s (.nils)) :: X⟩) := fun X =>
    ⟨id, plSt ⟨N, z, y, len, cap, bar t (z i) (y i), s, false, (fun _ => 0), 0, 0, i, 0⟩, SubSt.mk (by simp [plSt, plF, plM, plT, plL, SubFr, slotAt, ren, below, rhoL]) (Sub.ofId ⟨⟨_, rfl, BlkOK.rows' (fun h => h) fun j _ => by simp [LAlike, ren, below, AV.scalar]⟩, ⟨_, rfl, al_blk rfl (fun _ _ => rfl) rfl rfl rfl rfl⟩, ⟨_, rfl, ra_blk rfl rfl rfl (by simp [plL, ren, rhoL]) (by simp [plL, plSt, plM, plT, below]) rfl (by simp [moR, fuR]) (by simp [moR, fuR])⟩, trivial⟩ (by show 1 ≤ _; simp [plSt, plM])), K _ _ _ _ _ _ (hR) (Nat.le_refl 0) (by simp)⟩
  have hbl := hR.has (z i)
  have hn1 := hr.tn
  have hn2 := hr.hi
  have hn3 := hr.ln
  have hn4 : (bar t (z i) (y i)).n = N := hR.tn
  clear K
  refine awpl_split 2 (AWpL.env' (E' := pmE 0) rfl rfl (awpl_end (E := pmE 0) (pmE_ok 0) (noLoopsL_ok (by kernel_rfl)) (weak_keep [0, 1, 4, 5, 6, 7] (T.cut_eq (pl_t00 N z y len cap t s i) ?_))))
  simp only [Nat.zero_add, Int.toNat_natCast]
  repeat' first | with_reducible refine T.hneed rfl ?_ | with_reducible refine T.hneed trivial ?_ | with_reducible refine T.hneed isAl ?_ | with_reducible refine T.hneed isRa2 ?_ | with_reducible refine T.hneed IntRow.rows ?_ | with_reducible refine T.hneed ⟨IntRow.rows, rfl⟩ ?_ | refine T.hneed hm ?_ | with_reducible refine T.hall (fun _ => ?_) | with_reducible refine T.hasmP (fun _ => ?_) | with_reducible refine T.hite (fun _ => ?_) (fun _ => ?_) | with_reducible refine T.hchk ?_ ?_ | with_reducible refine T.hret ?_
  all_goals first
    | rfl
    | exact go _
    | (show (!!(barR t (z i) (y i) == false)) = true; rw [e1]; rfl)
    | (show decide (t.n ≤ 96) = true; simp; omega)
    | (show decide ((bar t (z i) (y i)).n ≤ 96) = true; simp; omega)
    | (simp; omega)
    | (exfalso; rename_i h; have h : (!(barR t (z i) (y i) == false)) = true := h; rw [e1] at h; simp at h; done)
    | (exfalso; rename_i h; have h : (!(blkA (bar t (z i) (y i)) (z i) == false)) = true := h; rw [hbl] at h; simp [hasN] at h; done)
    | skip

theorem rg01 (N : Nat) (z y : Nat → Int) (len cap : Nat) (t : AL) (s : RA) (i : Nat) (h1 : len ≤ cap) (hr : Rel N t s (fun _ => 0) 0) (hi : i < len) (hm : rfR s (z i) (y i) = false ∧ (1 : Int) < s.n) {R : Ex × St → Prop}
    (K : ∀ t' s' b' f' ll' lc', Rel N t' s' f' ll' → ll' ≤ lc' → (b' = false → ll' = 0) → AWpL Try.prog plE ((chainOf plC).drop 2) (plSt ⟨N, z, y, len, cap, t', s', b', f', ll', lc', i, 0⟩) R) : AWpL Try.prog plE (chainOf plC) (plSt ⟨N, z, y, len, cap, t, s, false, fun _ => 0, 0, 0, i, 0⟩) R := by
  have hf : frR s (y i) = true := by
    have := hr.w
    unfold frR
    cases hw : s.w with
    | false => rfl
    | true => rw [hw] at this; simp at this
  obtain ⟨e1, e2⟩ := (hr.nay hm.1 (hr.c2_fresh hm.1 hf)).1 hm.2
  have hR : Rel N (bar t (z i) (y i)) (moR s (y i)) (gA (fun _ => 0) 0 (z i) 0) 1 := by rw [e2]; exact hr.one hm.1 hf hm.2
  have go : ∀ (c : Nat) (hc : 1 ≤ c) (X : AM), (Weak (pmE 1) (Then R fun st' => AWpL Try.prog plE ((chainOf plC).drop 2) st' R)) (.norm, ⟨plF ⟨N, z, y, len, cap, t, s, false, fun _ => 0, 0, 0, i, 0⟩, some (plA ⟨N, z, y, len, cap, t, s, false, fun _ => 0, 0, 0, i, 0⟩) :: some (alB (bar t (z i) (y i))) :: some (raB (moR s (y i)) (.sl 3 0 1 0 1 c)) :: some (liB (gA (fun _ => 0) 0 (z i) 0) c) :: X⟩) := fun c hc X =>
    ⟨id, plSt ⟨N, z, y, len, cap, bar t (z i) (y i), (moR s (y i)), true, (gA (fun _ => 0) 0 (z i) 0), 1, c, i, 0⟩, SubSt.mk (by simp [plSt, plF, plM, plT, plL, SubFr, slotAt, ren, below, rhoL]) (Sub.ofId ⟨⟨_, rfl, BlkOK.rows' (fun h => h) fun j _ => by simp [LAlike, ren, below, AV.scalar]⟩, ⟨_, rfl, al_blk rfl (fun _ _ => rfl) rfl rfl rfl rfl⟩, ⟨_, rfl, ra_blk rfl rfl rfl (by simp [plL, ren, rhoL]) (by simp [plL, plSt, plM, plT, below]) rfl (by simp [moR, fuR]) (by simp [moR, fuR])⟩, ⟨_, rfl, BlkOK.rows' (fun h => h) fun j _ => LAlike.ints rfl⟩, trivial⟩ (by show 1 ≤ _; simp [plSt, plM])), K _ _ _ _ _ _ (hR) hc (by simp)⟩
  have hbl := hR.has (z i)
  have hn1 := hr.tn
  have hn2 := hr.hi
  have hn3 := hr.ln
  have hn4 : (bar t (z i) (y i)).n = N := hR.tn
  clear K
  refine awpl_split 2 (AWpL.env' (E' := pmE 1) rfl rfl (awpl_end (E := pmE 1) (pmE_ok 1) (noLoopsL_ok (by kernel_rfl)) (weak_keep [0, 1, 4, 5, 6, 7] (T.cut_eq (pl_t01 N z y len cap t s i) ?_))))
  simp only [Nat.zero_add, Int.toNat_natCast]
  repeat' first | with_reducible refine T.hneed rfl ?_ | with_reducible refine T.hneed trivial ?_ | with_reducible refine T.hneed isAl ?_ | with_reducible refine T.hneed isRa2 ?_ | with_reducible refine T.hneed IntRow.rows ?_ | with_reducible refine T.hneed ⟨IntRow.rows, rfl⟩ ?_ | refine T.hneed hm ?_ | with_reducible refine T.hall (fun _ => ?_) | with_reducible refine T.hasmP (fun _ => ?_) | with_reducible refine T.hite (fun _ => ?_) (fun _ => ?_) | with_reducible refine T.hchk ?_ ?_ | with_reducible refine T.hret ?_
  all_goals first
    | rfl
    | exact go _ (by omega) _
    | (show (!!(barR t (z i) (y i) == false)) = true; rw [e1]; rfl)
    | (show decide (t.n ≤ 96) = true; simp; omega)
    | (show decide ((bar t (z i) (y i)).n ≤ 96) = true; simp; omega)
    | (simp; omega)
    | (exfalso; rename_i h; have h : (!(barR t (z i) (y i) == false)) = true := h; rw [e1] at h; simp at h; done)
    | (exfalso; rename_i h; have h : (!(blkA (bar t (z i) (y i)) (z i) == hasN (gA (fun _ => 0) 0 (z i) 0) (z i) 1 0)) = true := h; rw [hbl] at h; simp [hasN] at h; done)
    | skip

theorem rg02 (N : Nat) (z y : Nat → Int) (len cap : Nat) (t : AL) (s : RA) (i : Nat) (h1 : len ≤ cap) (hr : Rel N t s (fun _ => 0) 0) (hi : i < len) (hm : rfR s (z i) (y i) = false ∧ ¬ (1 : Int) < s.n) {R : Ex × St → Prop}
    (K : ∀ t' s' b' f' ll' lc', Rel N t' s' f' ll' → ll' ≤ lc' → (b' = false → ll' = 0) → AWpL Try.prog plE ((chainOf plC).drop 2) (plSt ⟨N, z, y, len, cap, t', s', b', f', ll', lc', i, 0⟩) R) : AWpL Try.prog plE (chainOf plC) (plSt ⟨N, z, y, len, cap, t, s, false, fun _ => 0, 0, 0, i, 0⟩) R := by
  have hf : frR s (y i) = true := by
    have := hr.w
    unfold frR
    cases hw : s.w with
    | false => rfl
    | true => rw [hw] at this; simp at this
  obtain ⟨e1, e2⟩ := (hr.nay hm.1 (hr.c2_fresh hm.1 hf)).2 hm.2
  have hR : Rel N (bar t (z i) (y i)) (fuR s (y i)) (fun _ => 0) 0 := by rw [e2]; exact hr.full _ _
  have go : ∀ (X : AM), (Weak (pmE 2) (Then R fun st' => AWpL Try.prog plE ((chainOf plC).drop 2) st' R)) (.norm, ⟨plF ⟨N, z, y, len, cap, t, s, false, fun _ => 0, 0, 0, i, 0⟩, some (plA ⟨N, z, y, len, cap, t, s, false, fun _ => 0, 0, 0, i, 0⟩) :: some (alB (bar t (z i) (y i))) :: some (raB (fuR s (y i)) (.nils)) :: X⟩) := fun X =>
    ⟨id, plSt ⟨N, z, y, len, cap, bar t (z i) (y i), (fuR s (y i)), false, (fun _ => 0), 0, 0, i, 0⟩, SubSt.mk (by simp [plSt, plF, plM, plT, plL, SubFr, slotAt, ren, below, rhoL]) (Sub.ofId ⟨⟨_, rfl, BlkOK.rows' (fun h => h) fun j _ => by simp [LAlike, ren, below, AV.scalar]⟩, ⟨_, rfl, al_blk rfl (fun _ _ => rfl) rfl rfl rfl rfl⟩, ⟨_, rfl, ra_blk rfl rfl rfl (by simp [plL, ren, rhoL]) (by simp [plL, plSt, plM, plT, below]) rfl (by simp [moR, fuR]) (by simp [moR, fuR])⟩, trivial⟩ (by show 1 ≤ _; simp [plSt, plM])), K _ _ _ _ _ _ (hR) (Nat.le_refl 0) (by simp)⟩
  have hbl := hR.has (z i)
  have hn1 := hr.tn
  have hn2 := hr.hi
  have hn3 := hr.ln
  have hn4 : (bar t (z i) (y i)).n = N := hR.tn
  clear K
  refine awpl_split 2 (AWpL.env' (E' := pmE 2) rfl rfl (awpl_end (E := pmE 2) (pmE_ok 2) (noLoopsL_ok (by kernel_rfl)) (weak_keep [0, 1, 4, 5, 6, 7] (T.cut_eq (pl_t02 N z y len cap t s i) ?_))))
  simp only [Nat.zero_add, Int.toNat_natCast]
  repeat' first | with_reducible refine T.hneed rfl ?_ | with_reducible refine T.hneed trivial ?_ | with_reducible refine T.hneed isAl ?_ | with_reducible refine T.hneed isRa2 ?_ | with_reducible refine T.hneed IntRow.rows ?_ | with_reducible refine T.hneed ⟨IntRow.rows, rfl⟩ ?_ | refine T.hneed hm ?_ | with_reducible refine T.hall (fun _ => ?_) | with_reducible refine T.hasmP (fun _ => ?_) | with_reducible refine T.hite (fun _ => ?_) (fun _ => ?_) | with_reducible refine T.hchk ?_ ?_ | with_reducible refine T.hret ?_
  all_goals first
    | rfl
    | exact go _
    | (show (!!(barR t (z i) (y i) == true)) = true; rw [e1]; rfl)
    | (show decide (t.n ≤ 96) = true; simp; omega)
    | (show decide ((bar t (z i) (y i)).n ≤ 96) = true; simp; omega)
    | (simp; omega)
    | (exfalso; rename_i h; have h : (!(barR t (z i) (y i) == true)) = true := h; rw [e1] at h; simp at h; done)
    | (exfalso; rename_i h; have h : (!(blkA (bar t (z i) (y i)) (z i) == false)) = true := h; rw [hbl] at h; simp [hasN] at h; done)
    | skip

theorem rg10 (N : Nat) (z y : Nat → Int) (len cap : Nat) (t : AL) (s : RA) (f : Nat → Int) (ll lc i : Nat) (h1 : len ≤ cap) (hr : Rel N t s f ll) (h3 : ll ≤ lc) (hi : i < len) (hm : rfR s (z i) (y i) = true) {R : Ex × St → Prop}
    (K : ∀ t' s' b' f' ll' lc', Rel N t' s' f' ll' → ll' ≤ lc' → (b' = false → ll' = 0) → AWpL Try.prog plE ((chainOf plC).drop 2) (plSt ⟨N, z, y, len, cap, t', s', b', f', ll', lc', i, 0⟩) R) : AWpL Try.prog plE (chainOf plC) (plSt ⟨N, z, y, len, cap, t, s, true, f, ll, lc, i, 0⟩) R := by
  obtain ⟨e1, e2⟩ := hr.yes hm
  have hR : Rel N (bar t (z i) (y i)) s f ll := by rw [e2]; exact hr
  have go : ∀ (X : AM), (Weak (pmE 0) (Then R fun st' => AWpL Try.prog plE ((chainOf plC).drop 2) st' R)) (.norm, ⟨plF ⟨N, z, y, len, cap, t, s, true, f, ll, lc, i, 0⟩, some (plA ⟨N, z, y, len, cap, t, s, false, fun _ => 0, 0, 0, i, 0⟩) :: some (alB (bar t (z i) (y i))) :: some (raB s (.sl 3 0 1 0 ll lc)) :: some (liB f lc) :: X⟩) := fun X =>
    ⟨id, plSt ⟨N, z, y, len, cap, bar t (z i) (y i), s, true, f, ll, lc, i, 0⟩, SubSt.mk (by simp [plSt, plF, plM, plT, plL, SubFr, slotAt, ren, below, rhoL]) (Sub.ofId ⟨⟨_, rfl, BlkOK.rows' (fun h => h) fun j _ => by simp [LAlike, ren, below, AV.scalar]⟩, ⟨_, rfl, al_blk rfl (fun _ _ => rfl) rfl rfl rfl rfl⟩, ⟨_, rfl, ra_blk rfl rfl rfl (by simp [plL, ren, rhoL]) (by simp [plL, plSt, plM, plT, below]) rfl (by simp [moR, fuR]) (by simp [moR, fuR])⟩, ⟨_, rfl, BlkOK.rows' (fun h => h) fun j _ => LAlike.ints rfl⟩, trivial⟩ (by show 1 ≤ _; simp [plSt, plM])), K _ _ _ _ _ _ (hR) h3 (by simp)⟩
  have hbl := hR.has (z i)
  have hn1 := hr.tn
  have hn2 := hr.hi
  have hn3 := hr.ln
  have hn4 : (bar t (z i) (y i)).n = N := hR.tn
  clear K
  refine awpl_split 2 (AWpL.env' (E' := pmE 0) rfl rfl (awpl_end (E := pmE 0) (pmE_ok 0) (noLoopsL_ok (by kernel_rfl)) (weak_keep [0, 1, 4, 5, 6, 7] (T.cut_eq (pl_t10 N z y len cap t s f ll lc i) ?_))))
  simp only [Nat.zero_add, Int.toNat_natCast]
  repeat' first | with_reducible refine T.hneed rfl ?_ | with_reducible refine T.hneed trivial ?_ | with_reducible refine T.hneed isAl ?_ | with_reducible refine T.hneed isRa2 ?_ | with_reducible refine T.hneed IntRow.rows ?_ | with_reducible refine T.hneed ⟨IntRow.rows, trivial⟩ ?_ | refine T.hneed hm ?_ | with_reducible refine T.hall (fun _ => ?_) | with_reducible refine T.hasmP (fun _ => ?_) | with_reducible refine T.hite (fun _ => ?_) (fun _ => ?_) | with_reducible refine T.hchk ?_ ?_ | with_reducible refine T.hret ?_
  all_goals first
    | rfl
    | exact go _
    | (show (!!(barR t (z i) (y i) == false)) = true; rw [e1]; rfl)
    | (show decide (t.n ≤ 96) = true; simp; omega)
    | (show decide ((bar t (z i) (y i)).n ≤ 96) = true; simp; omega)
    | (simp; omega)
    | (exfalso; rename_i h; have h : (!(barR t (z i) (y i) == false)) = true := h; rw [e1] at h; simp at h; done)
    | (exfalso; rename_i h; have h : (!(blkA (bar t (z i) (y i)) (z i) == hasN f (z i) ll 0)) = true := h; rw [hbl] at h; simp [hasN] at h; done)
    | skip

theorem rg11 (N : Nat) (z y : Nat → Int) (len cap : Nat) (t : AL) (s : RA) (f : Nat → Int) (ll lc i : Nat) (h1 : len ≤ cap) (hr : Rel N t s f ll) (h3 : ll ≤ lc) (hi : i < len) (hm : rfR s (z i) (y i) = false ∧ frR s (y i) = true ∧ (1 : Int) < s.n) {R : Ex × St → Prop}
    (K : ∀ t' s' b' f' ll' lc', Rel N t' s' f' ll' → ll' ≤ lc' → (b' = false → ll' = 0) → AWpL Try.prog plE ((chainOf plC).drop 2) (plSt ⟨N, z, y, len, cap, t', s', b', f', ll', lc', i, 0⟩) R) : AWpL Try.prog plE (chainOf plC) (plSt ⟨N, z, y, len, cap, t, s, true, f, ll, lc, i, 0⟩) R := by
  obtain ⟨e1, e2⟩ := (hr.nay hm.1 (hr.c2_fresh hm.1 hm.2.1)).1 hm.2.2
  have hR : Rel N (bar t (z i) (y i)) (moR s (y i)) (gA (fun _ => 0) 0 (z i) 0) 1 := by rw [e2]; exact hr.one hm.1 hm.2.1 hm.2.2
  have go : ∀ (c : Nat) (hc : 1 ≤ c) (o : Option Blk) (X : AM), (Weak (pmE 1) (Then R fun st' => AWpL Try.prog plE ((chainOf plC).drop 2) st' R)) (.norm, ⟨plF ⟨N, z, y, len, cap, t, s, true, f, ll, lc, i, 0⟩, some (plA ⟨N, z, y, len, cap, t, s, false, fun _ => 0, 0, 0, i, 0⟩) :: some (alB (bar t (z i) (y i))) :: some (raB (moR s (y i)) (.sl 4 0 1 0 1 c)) :: o :: some (liB (gA (fun _ => 0) 0 (z i) 0) c) :: X⟩) := fun c hc o X =>
    ⟨(rhoL [0, 1, 2, 4]), plSt ⟨N, z, y, len, cap, bar t (z i) (y i), (moR s (y i)), true, (gA (fun _ => 0) 0 (z i) 0), 1, c, i, 0⟩, SubSt.mk (by simp [plSt, plF, plM, plT, plL, SubFr, slotAt, ren, below, rhoL]) (subL [0, 1, 2, 4] rfl rfl rfl (Nat.le_of_ble_eq_true rfl) ⟨⟨_, rfl, BlkOK.rows' (fun h => h) fun j _ => by simp [LAlike, ren, below, AV.scalar]⟩, ⟨_, rfl, al_blk rfl (fun _ _ => rfl) rfl rfl rfl rfl⟩, ⟨_, rfl, ra_blk rfl rfl rfl (by simp [plL, ren, rhoL]) (by simp [plL, plSt, plM, plT, below]) rfl (by simp [moR, fuR]) (by simp [moR, fuR])⟩, ⟨_, rfl, BlkOK.rows' (fun h => h) fun j _ => LAlike.ints rfl⟩, trivial⟩), K _ _ _ _ _ _ (hR) hc (by simp)⟩
  have hbl := hR.has (z i)
  have hn1 := hr.tn
  have hn2 := hr.hi
  have hn3 := hr.ln
  have hn4 : (bar t (z i) (y i)).n = N := hR.tn
  clear K
  refine awpl_split 2 (AWpL.env' (E' := pmE 1) rfl rfl (awpl_end (E := pmE 1) (pmE_ok 1) (noLoopsL_ok (by kernel_rfl)) (weak_keep [0, 1, 4, 5, 6, 7] (T.cut_eq (pl_t11 N z y len cap t s f ll lc i) ?_))))
  simp only [Nat.zero_add, Int.toNat_natCast]
  repeat' first | with_reducible refine T.hneed rfl ?_ | with_reducible refine T.hneed trivial ?_ | with_reducible refine T.hneed isAl ?_ | with_reducible refine T.hneed isRa2 ?_ | with_reducible refine T.hneed IntRow.rows ?_ | with_reducible refine T.hneed ⟨IntRow.rows, trivial⟩ ?_ | refine T.hneed hm ?_ | with_reducible refine T.hall (fun _ => ?_) | with_reducible refine T.hasmP (fun _ => ?_) | with_reducible refine T.hite (fun _ => ?_) (fun _ => ?_) | with_reducible refine T.hchk ?_ ?_ | with_reducible refine T.hret ?_
  all_goals first
    | rfl
    | exact go _ (by omega) _ _
    | (show (!!(barR t (z i) (y i) == false)) = true; rw [e1]; rfl)
    | (show decide (t.n ≤ 96) = true; simp; omega)
    | (show decide ((bar t (z i) (y i)).n ≤ 96) = true; simp; omega)
    | (simp; omega)
    | (exfalso; rename_i h; have h : (!(barR t (z i) (y i) == false)) = true := h; rw [e1] at h; simp at h; done)
    | (exfalso; rename_i h; have h : (!(blkA (bar t (z i) (y i)) (z i) == hasN (gA (fun _ => 0) 0 (z i) 0) (z i) 1 0)) = true := h; rw [hbl] at h; simp [hasN] at h; done)
    | skip

theorem rg12 (N : Nat) (z y : Nat → Int) (len cap : Nat) (t : AL) (s : RA) (f : Nat → Int) (ll lc i : Nat) (h1 : len ≤ cap) (hr : Rel N t s f ll) (h3 : ll ≤ lc) (hi : i < len) (hm : rfR s (z i) (y i) = false ∧ ((frR s (y i) = true ∧ ¬ (1 : Int) < s.n) ∨ (frR s (y i) = false ∧ hasN f (z i) ll 0 = true ∧ ¬ (ll : Int) < s.n) ∨ (frR s (y i) = false ∧ hasN f (z i) ll 0 = false ∧ ¬ ((ll + 1 : Nat) : Int) < s.n))) {R : Ex × St → Prop}
    (K : ∀ t' s' b' f' ll' lc', Rel N t' s' f' ll' → ll' ≤ lc' → (b' = false → ll' = 0) → AWpL Try.prog plE ((chainOf plC).drop 2) (plSt ⟨N, z, y, len, cap, t', s', b', f', ll', lc', i, 0⟩) R) : AWpL Try.prog plE (chainOf plC) (plSt ⟨N, z, y, len, cap, t, s, true, f, ll, lc, i, 0⟩) R := by
  obtain ⟨e1, e2⟩ : barR t (z i) (y i) = true ∧ bar t (z i) (y i) = fullA t (y i) := by
    rcases hm.2 with ⟨g1, g2⟩ | ⟨g1, g2, g3⟩ | ⟨g1, g2, g3⟩
    · exact (hr.nay hm.1 (hr.c2_fresh hm.1 g1)).2 g2
    · exact (hr.nay hm.1 (hr.c2_old hm.1 g1)).2 (by rw [if_pos g2]; exact g3)
    · exact (hr.nay hm.1 (hr.c2_old hm.1 g1)).2 (by rw [if_neg (by rw [g2]; simp)]; exact g3)
  have hR : Rel N (bar t (z i) (y i)) (fuR s (y i)) (fun _ => 0) 0 := by rw [e2]; exact hr.full _ _
  have go : ∀ (X : AM), (Weak (pmE 2) (Then R fun st' => AWpL Try.prog plE ((chainOf plC).drop 2) st' R)) (.norm, ⟨plF ⟨N, z, y, len, cap, t, s, true, f, ll, lc, i, 0⟩, some (plA ⟨N, z, y, len, cap, t, s, false, fun _ => 0, 0, 0, i, 0⟩) :: some (alB (bar t (z i) (y i))) :: some (raB (fuR s (y i)) (.nils)) :: X⟩) := fun X =>
    ⟨id, plSt ⟨N, z, y, len, cap, bar t (z i) (y i), (fuR s (y i)), false, (fun _ => 0), 0, 0, i, 0⟩, SubSt.mk (by simp [plSt, plF, plM, plT, plL, SubFr, slotAt, ren, below, rhoL]) (Sub.ofId ⟨⟨_, rfl, BlkOK.rows' (fun h => h) fun j _ => by simp [LAlike, ren, below, AV.scalar]⟩, ⟨_, rfl, al_blk rfl (fun _ _ => rfl) rfl rfl rfl rfl⟩, ⟨_, rfl, ra_blk rfl rfl rfl (by simp [plL, ren, rhoL]) (by simp [plL, plSt, plM, plT, below]) rfl (by simp [moR, fuR]) (by simp [moR, fuR])⟩, trivial⟩ (by show 1 ≤ _; simp [plSt, plM])), K _ _ _ _ _ _ (hR) (Nat.le_refl 0) (by simp)⟩
  have hbl := hR.has (z i)
  have hn1 := hr.tn
  have hn2 := hr.hi
  have hn3 := hr.ln
  have hn4 : (bar t (z i) (y i)).n = N := hR.tn
  clear K
  refine awpl_split 2 (AWpL.env' (E' := pmE 2) rfl rfl (awpl_end (E := pmE 2) (pmE_ok 2) (noLoopsL_ok (by kernel_rfl)) (weak_keep [0, 1, 4, 5, 6, 7] (T.cut_eq (pl_t12 N z y len cap t s f ll lc i) ?_))))
  simp only [Nat.zero_add, Int.toNat_natCast]
  repeat' first | with_reducible refine T.hneed rfl ?_ | with_reducible refine T.hneed trivial ?_ | with_reducible refine T.hneed isAl ?_ | with_reducible refine T.hneed isRa2 ?_ | with_reducible refine T.hneed IntRow.rows ?_ | with_reducible refine T.hneed ⟨IntRow.rows, trivial⟩ ?_ | refine T.hneed hm ?_ | with_reducible refine T.hall (fun _ => ?_) | with_reducible refine T.hasmP (fun _ => ?_) | with_reducible refine T.hite (fun _ => ?_) (fun _ => ?_) | with_reducible refine T.hchk ?_ ?_ | with_reducible refine T.hret ?_
  all_goals first
    | rfl
    | exact go _
    | (show (!!(barR t (z i) (y i) == true)) = true; rw [e1]; rfl)
    | (show decide (t.n ≤ 96) = true; simp; omega)
    | (show decide ((bar t (z i) (y i)).n ≤ 96) = true; simp; omega)
    | (simp; omega)
    | (exfalso; rename_i h; have h : (!(barR t (z i) (y i) == true)) = true := h; rw [e1] at h; simp at h; done)
    | (exfalso; rename_i h; have h : (!(blkA (bar t (z i) (y i)) (z i) == false)) = true := h; rw [hbl] at h; simp [hasN] at h; done)
    | skip

theorem rg13 (N : Nat) (z y : Nat → Int) (len cap : Nat) (t : AL) (s : RA) (f : Nat → Int) (ll lc i : Nat) (h1 : len ≤ cap) (hr : Rel N t s f ll) (h3 : ll ≤ lc) (hi : i < len) (hm : rfR s (z i) (y i) = false ∧ frR s (y i) = false ∧ hasN f (z i) ll 0 = true ∧ (ll : Int) < s.n) {R : Ex × St → Prop}
    (K : ∀ t' s' b' f' ll' lc', Rel N t' s' f' ll' → ll' ≤ lc' → (b' = false → ll' = 0) → AWpL Try.prog plE ((chainOf plC).drop 2) (plSt ⟨N, z, y, len, cap, t', s', b', f', ll', lc', i, 0⟩) R) : AWpL Try.prog plE (chainOf plC) (plSt ⟨N, z, y, len, cap, t, s, true, f, ll, lc, i, 0⟩) R := by
  obtain ⟨e1, e2⟩ := (hr.nay hm.1 (hr.c2_old hm.1 hm.2.1)).1 (by rw [if_pos hm.2.2.1]; exact hm.2.2.2)
  have hR : Rel N (bar t (z i) (y i)) (moR s (y i)) f ll := by rw [e2]; exact hr.stay hm.1 hm.2.1 hm.2.2.1
  have go : ∀ (X : AM), (Weak (pmE 3) (Then R fun st' => AWpL Try.prog plE ((chainOf plC).drop 2) st' R)) (.norm, ⟨plF ⟨N, z, y, len, cap, t, s, true, f, ll, lc, i, 0⟩, some (plA ⟨N, z, y, len, cap, t, s, false, fun _ => 0, 0, 0, i, 0⟩) :: some (alB (bar t (z i) (y i))) :: some (raB (moR s (y i)) (.sl 3 0 1 0 ll lc)) :: some (liB f lc) :: X⟩) := fun X =>
    ⟨id, plSt ⟨N, z, y, len, cap, bar t (z i) (y i), (moR s (y i)), true, f, ll, lc, i, 0⟩, SubSt.mk (by simp [plSt, plF, plM, plT, plL, SubFr, slotAt, ren, below, rhoL]) (Sub.ofId ⟨⟨_, rfl, BlkOK.rows' (fun h => h) fun j _ => by simp [LAlike, ren, below, AV.scalar]⟩, ⟨_, rfl, al_blk rfl (fun _ _ => rfl) rfl rfl rfl rfl⟩, ⟨_, rfl, ra_blk rfl rfl rfl (by simp [plL, ren, rhoL]) (by simp [plL, plSt, plM, plT, below]) rfl (by simp [moR, fuR]) (by simp [moR, fuR])⟩, ⟨_, rfl, BlkOK.rows' (fun h => h) fun j _ => LAlike.ints rfl⟩, trivial⟩ (by show 1 ≤ _; simp [plSt, plM])), K _ _ _ _ _ _ (hR) h3 (by simp)⟩
  have hbl := hR.has (z i)
  have hn1 := hr.tn
  have hn2 := hr.hi
  have hn3 := hr.ln
  have hn4 : (bar t (z i) (y i)).n = N := hR.tn
  clear K
  refine awpl_split 2 (AWpL.env' (E' := pmE 3) rfl rfl (awpl_end (E := pmE 3) (pmE_ok 3) (noLoopsL_ok (by kernel_rfl)) (weak_keep [0, 1, 4, 5, 6, 7] (T.cut_eq (pl_t13 N z y len cap t s f ll lc i) ?_))))
  simp only [Nat.zero_add, Int.toNat_natCast]
  repeat' first | with_reducible refine T.hneed rfl ?_ | with_reducible refine T.hneed trivial ?_ | with_reducible refine T.hneed isAl ?_ | with_reducible refine T.hneed isRa2 ?_ | with_reducible refine T.hneed IntRow.rows ?_ | with_reducible refine T.hneed ⟨IntRow.rows, trivial⟩ ?_ | refine T.hneed hm ?_ | with_reducible refine T.hall (fun _ => ?_) | with_reducible refine T.hasmP (fun _ => ?_) | with_reducible refine T.hite (fun _ => ?_) (fun _ => ?_) | with_reducible refine T.hchk ?_ ?_ | with_reducible refine T.hret ?_
  all_goals first
    | rfl
    | exact go _
    | (show (!!(barR t (z i) (y i) == false)) = true; rw [e1]; rfl)
    | (show decide (t.n ≤ 96) = true; simp; omega)
    | (show decide ((bar t (z i) (y i)).n ≤ 96) = true; simp; omega)
    | (simp; omega)
    | (exfalso; rename_i h; have h : (!(barR t (z i) (y i) == false)) = true := h; rw [e1] at h; simp at h; done)
    | (exfalso; rename_i h; have h : (!(blkA (bar t (z i) (y i)) (z i) == hasN f (z i) ll 0)) = true := h; rw [hbl] at h; simp [hasN] at h; done)
    | skip

theorem rg14 (N : Nat) (z y : Nat → Int) (len cap : Nat) (t : AL) (s : RA) (f : Nat → Int) (ll lc i : Nat) (h1 : len ≤ cap) (hr : Rel N t s f ll) (h3 : ll ≤ lc) (hi : i < len) (hm : rfR s (z i) (y i) = false ∧ frR s (y i) = false ∧ hasN f (z i) ll 0 = false ∧ ((ll + 1 : Nat) : Int) < s.n) {R : Ex × St → Prop}
    (K : ∀ t' s' b' f' ll' lc', Rel N t' s' f' ll' → ll' ≤ lc' → (b' = false → ll' = 0) → AWpL Try.prog plE ((chainOf plC).drop 2) (plSt ⟨N, z, y, len, cap, t', s', b', f', ll', lc', i, 0⟩) R) : AWpL Try.prog plE (chainOf plC) (plSt ⟨N, z, y, len, cap, t, s, true, f, ll, lc, i, 0⟩) R := by
  obtain ⟨e1, e2⟩ := (hr.nay hm.1 (hr.c2_old hm.1 hm.2.1)).1 (by rw [if_neg (by rw [hm.2.2.1]; simp)]; exact hm.2.2.2)
  have hR : ∀ d, Rel N (bar t (z i) (y i)) (moR s (y i)) (gA f ll (z i) d) (ll + 1) := fun d => by rw [e2]; exact hr.more hm.1 hm.2.1 hm.2.2.1 hm.2.2.2 d
  have go : ∀ (c : Nat) (d : Nat) (hc : (ll + 1) ≤ c) (o : Option Blk) (X : AM), (Weak (pmE 4) (Then R fun st' => AWpL Try.prog plE ((chainOf plC).drop 2) st' R)) (.norm, ⟨plF ⟨N, z, y, len, cap, t, s, true, f, ll, lc, i, 0⟩, some (plA ⟨N, z, y, len, cap, t, s, false, fun _ => 0, 0, 0, i, 0⟩) :: some (alB (bar t (z i) (y i))) :: some (raB (moR s (y i)) (.sl 4 0 1 0 (ll + 1) c)) :: o :: some (liB (gA f ll (z i) d) c) :: X⟩) := fun c d hc o X =>
    ⟨(rhoL [0, 1, 2, 4]), plSt ⟨N, z, y, len, cap, bar t (z i) (y i), (moR s (y i)), true, (gA f ll (z i) d), (ll + 1), c, i, 0⟩, SubSt.mk (by simp [plSt, plF, plM, plT, plL, SubFr, slotAt, ren, below, rhoL]) (subL [0, 1, 2, 4] rfl rfl rfl (Nat.le_of_ble_eq_true rfl) ⟨⟨_, rfl, BlkOK.rows' (fun h => h) fun j _ => by simp [LAlike, ren, below, AV.scalar]⟩, ⟨_, rfl, al_blk rfl (fun _ _ => rfl) rfl rfl rfl rfl⟩, ⟨_, rfl, ra_blk rfl rfl rfl (by simp [plL, ren, rhoL]) (by simp [plL, plSt, plM, plT, below]) rfl (by simp [moR, fuR]) (by simp [moR, fuR])⟩, ⟨_, rfl, BlkOK.rows' (fun h => h) fun j _ => LAlike.ints rfl⟩, trivial⟩), K _ _ _ _ _ _ (hR d) hc (by simp)⟩
  have hbl := fun d => (hR d).has (z i)
  have hn1 := hr.tn
  have hn2 := hr.hi
  have hn3 := hr.ln
  have hn4 : (bar t (z i) (y i)).n = N := (hR 0).tn
  clear K
  refine awpl_split 2 (AWpL.env' (E' := pmE 4) rfl rfl (awpl_end (E := pmE 4) (pmE_ok 4) (noLoopsL_ok (by kernel_rfl)) (weak_keep [0, 1, 4, 5, 6, 7] (T.cut_eq (pl_t14 N z y len cap t s f ll lc i) ?_))))
  simp only [Nat.zero_add, Int.toNat_natCast]
  repeat' first | with_reducible refine T.hneed rfl ?_ | with_reducible refine T.hneed trivial ?_ | with_reducible refine T.hneed isAl ?_ | with_reducible refine T.hneed isRa2 ?_ | with_reducible refine T.hneed IntRow.rows ?_ | with_reducible refine T.hneed ⟨IntRow.rows, trivial⟩ ?_ | refine T.hneed hm ?_ | with_reducible refine T.hall (fun _ => ?_) | with_reducible refine T.hasmP (fun _ => ?_) | with_reducible refine T.hite (fun _ => ?_) (fun _ => ?_) | with_reducible refine T.hchk ?_ ?_ | with_reducible refine T.hret ?_
  all_goals first
    | rfl
    | exact go _ _ (by omega) _ _
    | (show (!!(barR t (z i) (y i) == false)) = true; rw [e1]; rfl)
    | (show decide (t.n ≤ 96) = true; simp; omega)
    | (show decide ((bar t (z i) (y i)).n ≤ 96) = true; simp; omega)
    | (simp; omega)
    | (exfalso; rename_i h; have h : (!(barR t (z i) (y i) == false)) = true := h; rw [e1] at h; simp at h; done)
    | (exfalso; rename_i _ dd _ _ h; change (!(blkA (bar t (z i) (y i)) (z i) == _)) = true at h; rw [hbl dd] at h; first | (simp at h; done) | (simp [hasN] at h; done))
    | skip

end Go.Proofs.Ythbdkhlpojngeaa
