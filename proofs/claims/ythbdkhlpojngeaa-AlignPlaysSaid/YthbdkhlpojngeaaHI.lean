/-
  Layer 19: AlignPlays: the inner loop.
-/
import Derived.Test.YthbdkhlpojngeaaHY
namespace Go.Proofs.Ythbdkhlpojngeaa
open Go.Ox
set_option maxRecDepth 100000
set_option maxHeartbeats 1000000
set_option linter.unusedVariables false
set_option linter.unusedSimpArgs false

theorem plE_ok : EnvOK Try.prog plE.fns := EnvOK.cons nr_ok (EnvOK.cons rb_ok (EnvOK.cons bb_ok (laE_ok _)))

theorem pl_sub0 (x : PL) (f : Nat → Int) (ll lc : Nat) : Sub 1 id (plM { x with b := false, f := f, ll := ll, lc := lc }) (plM { x with b := false, f := f, ll := ll, lc := lc }) :=
  Sub.ofId ⟨⟨_, rfl, BlkOK.rows' (fun h => h) fun j _ => by simp [LAlike, ren, below, AV.scalar]⟩, ⟨_, rfl, al_blk rfl (fun _ _ => rfl) rfl rfl rfl rfl⟩, ⟨_, rfl, ra_blk rfl rfl rfl (by simp [plL, ren]) (by simp [plL, below]) rfl (by simp) (by simp)⟩, trivial⟩ (by simp [plM])

theorem pl_sub1 (x : PL) (f : Nat → Int) (ll lc : Nat) : Sub 1 id (plM { x with b := true, f := f, ll := ll, lc := lc }) (plM { x with b := true, f := f, ll := ll, lc := lc }) :=
  Sub.ofId ⟨⟨_, rfl, BlkOK.rows' (fun h => h) fun j _ => by simp [LAlike, ren, below, AV.scalar]⟩, ⟨_, rfl, al_blk rfl (fun _ _ => rfl) rfl rfl rfl rfl⟩, ⟨_, rfl, ra_blk rfl rfl rfl (by simp [plL, ren]) (by simp [plL, plM, plT, below]) rfl (by simp) (by simp)⟩, ⟨_, rfl, BlkOK.rows' (fun h => h) fun j _ => LAlike.ints rfl⟩, trivial⟩ (by simp [plM])

theorem in_loop : LoopOK Try.prog plE plI := by
  refine loopSumm_ok (E := plE) plE_ok (noLoops (by kernel_rfl)) inSt inInv (fun x => x.N + 2 - x.k) inPick inEnd ?_ (by kernel_rfl)
  rintro ⟨N, z, y, len, cap, t, s, b, f, ll, lc, i, k⟩ ⟨h1, h2, h3, h4, h5⟩ Q hq
  dsimp only at h1 h2 h3 h4 h5
  have hhi := h2.hi
  have htn := h2.tn
  have hw : IntKind.wrap IntKind.i64 ((k : Int) - 1 + 1) = ((k + 1 : Nat) : Int) - 1 := by rw [IntWalk.i64_in _ (by omega)]; omega
  have hw2 : IntKind.wrap IntKind.i64 (k : Int) = (k : Int) := by rw [IntWalk.i64_in _ (by omega)]
  refine round_keep [0, 1, 5, 6, 7, 8] ?_
  cases b with
  | false =>
    have hl := h4 rfl
    have hb := h2.has ((k : Int) - 1)
    rw [hl] at hb
    have hb : blkA t ((k : Int) - 1) = false := hb
    show T.holds (keepT [0, 1, 5, 6, 7, 8] (acode Try.prog plE plI (inSt ⟨N, z, y, len, cap, t, s, false, fun _ => 0, 0, 0, i, k⟩))) _
    rw [in_t0]
    refine T.hiteP (fun hk => T.hneed isAl (T.hchk (by show decide (t.n ≤ 96) = true; simp; omega) (T.hneed isRa2 (T.hite (fun hc => ?_) (fun _ => T.hret ?_))))) (fun hk => T.hret ?_)
    · have hc : (!(blkA t ((k : Int) - 1) == false)) = true := hc
      rw [hb] at hc; cases hc
    · refine Round.go ⟨N, z, y, len, cap, t, s, false, f, ll, lc, i, k + 1⟩ id ⟨h1, h2, h3, h4, by dsimp only; omega⟩ (by dsimp only; omega) (SubSt.mk ?_ (pl_sub0 ⟨N, z, y, len, cap, t, s, false, f, ll, lc, i, k⟩ f ll lc)) hq
      simp [inSt, plF, plM, plT, plL, SubFr, slotAt, ren, below, hw, hw2]
    · exact Round.out id (plSt ⟨N, z, y, len, cap, t, s, false, f, ll, lc, i, k⟩) (SubSt.mk (by simp [plSt, plF, plM, plT, plL, SubFr, slotAt, ren, below]) (pl_sub0 ⟨N, z, y, len, cap, t, s, false, f, ll, lc, i, k⟩ f ll lc)) hq
  | true =>
    have hb := h2.has ((k : Int) - 1)
    show T.holds (keepT [0, 1, 5, 6, 7, 8] (acode Try.prog plE plI (inSt ⟨N, z, y, len, cap, t, s, true, f, ll, lc, i, k⟩))) _
    rw [in_t1]
    have hln := h2.ln
    refine T.hiteP (fun hk => ?_) (fun hk => T.hret ?_)
    · repeat' first | with_reducible refine T.hneed isAl ?_ | with_reducible refine T.hneed isRa2 ?_ | with_reducible refine T.hneed IntRow.rows ?_ | with_reducible refine T.hite (fun _ => ?_) (fun _ => ?_) | with_reducible refine T.hchk ?_ ?_ | with_reducible refine T.hret ?_
      all_goals first
        | (show decide (t.n ≤ 96) = true; simp; omega)
        | (simp; omega)
        | (exact Round.go ⟨N, z, y, len, cap, t, s, true, f, ll, lc, i, k + 1⟩ id ⟨h1, h2, h3, h4, by dsimp only; omega⟩ (by dsimp only; omega) (SubSt.mk (by simp [inSt, plF, plM, plT, plL, SubFr, slotAt, ren, below, hw, hw2]) (pl_sub1 ⟨N, z, y, len, cap, t, s, true, f, ll, lc, i, k⟩ f ll lc)) hq)
        | (rename_i hc
           exfalso
           have hc : (!(blkA t ((k : Int) - 1) == hasN f ((k : Int) - 1) ll 0)) = true := hc
           rw [hb] at hc; simp at hc)
        | skip
    · exact Round.out id (plSt ⟨N, z, y, len, cap, t, s, true, f, ll, lc, i, k⟩) (SubSt.mk (by simp [plSt, plF, plM, plT, plL, SubFr, slotAt, ren, below]) (pl_sub1 ⟨N, z, y, len, cap, t, s, true, f, ll, lc, i, k⟩ f ll lc)) hq

end Go.Proofs.Ythbdkhlpojngeaa
