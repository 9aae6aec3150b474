/-
  Layer 13: Cuts, the second loop's contract.
-/
import Derived.Test.YthfgojdpnbpjbaaHC
import Derived.Test.YthfgojdpnbpjbaaHRw
namespace Go.Proofs.Ythfgojdpnbpjbaa
open Go.Ox
set_option maxRecDepth 100000
set_option maxHeartbeats 4000000
set_option linter.unusedVariables false
set_option linter.unusedSimpArgs false

theorem c2_loop : LoopOK Try.prog cvE (loopAt (codeOf Try.f5) 1) := by
  refine loopSumm_ok (E := cvE) (inl_ok cuB_ok cuL cuL_ok) (noLoops (by kernel_rfl)) c2St c2Inv (fun x => x.n - x.i) c2Pick c2End ?_ (by kernel_rfl)
  rintro ⟨z, y, len, cap, at_, a, b, n, i, one, has, c, cc, c1⟩ ⟨h1, h2, h3, h4, h5, h6, h7, h8, h9⟩ Q hq
  dsimp only at h1 h2 h3 h4 h5 h6 h7 h8 h9
  refine round_keep [0, 1, 2, 3, 9, 10, 12, 13] ?_
  have hw : IntKind.wrap IntKind.i64 ((i : Int) + 1) = ((i + 1 : Nat) : Int) := by rw [IntWalk.i64_in _ (by omega)]; omega
  cases one with
  | false =>
    obtain ⟨rfl, g1, g2⟩ := h8 rfl
    cases has with
    | false =>
      obtain rfl := g1 rfl
      rw [c2_tree0]
      simp only [hw, Int.toNat_natCast]
      refine T.hite (fun hi => ?_) (fun hi => ?_)
      · have hi : 0 < n := by have := of_decide_eq_true hi; omega
        repeat' first | with_reducible refine T.hneed trivial ?_ | with_reducible refine T.hneed rfl ?_ | with_reducible refine T.h_ff ?_ | with_reducible refine T.h_tt ?_ | with_reducible refine T.hall (fun _ => ?_) | with_reducible refine T.hasm (fun _ => ?_) | with_reducible refine T.hchk ?_ ?_
        all_goals first | rfl | (refine decide_eq_true ?_; omega) | (simp; done) | (simp; omega) | (simp at *; omega) | skip
        refine T.hret ?_
        rename_i c' hc
        have hc : 1 ≤ c' := of_decide_eq_true hc
        refine Round.go ⟨z, y, len, cap, 0, a, b, n, 1, false, true, c', cc, c1⟩ (rhoL [0, 1, 2, 5]) ⟨h1, h2, h3, h4, by simp, by simp; omega, h7, fun _ => ⟨rfl, (fun h => by cases h), fun _ => ⟨Nat.le_refl _, hc⟩⟩, (fun h => by cases h)⟩ (by dsimp only; omega) (subStL _ rfl rfl rfl (Nat.le_of_ble_eq_true rfl) (by simp [c2St, c2Fr, c2Me, SubFr, slotAt, ren, below, rhoL]) ⟨⟨_, rfl, ?_⟩, ⟨_, rfl, ?_⟩, ⟨_, rfl, ?_⟩, ⟨_, rfl, ?_⟩, trivial⟩) hq
        all_goals first | exact lB_ok | exact sB_ok (by simp [LAlike, ren, rhoL, below, AV.scalar]) | exact BlkOK.rows' (fun h => h) (fun j _ => pairs_alike) | exact BlkOK.rows' (fun h => h) (fun j _ => ap2_first (by simp) (by simp)) | exact BlkOK.rows' (fun h => h) (fun j _ => ap2_in (by simp) (by simp)) | skip
      · have hi : n = 0 := by have := of_decide_eq_false hi; omega
        subst hi
        refine T.hret ?_
        refine Round.out (rhoL [0, 1, 2]) _ ?_ (hq.1 rfl)
        refine subStL _ rfl rfl rfl (Nat.le_of_ble_eq_true rfl) (by simp [c2Fe, c2Me, SubFr, slotAt, ren, below, rhoL]) ⟨⟨_, rfl, ?_⟩, ⟨_, rfl, ?_⟩, ⟨_, rfl, ?_⟩, trivial⟩
        all_goals first | exact lB_ok | exact sB_ok (by simp [LAlike, ren, rhoL, below, AV.scalar]) | exact BlkOK.rows' (fun h => h) (fun j _ => pairs_alike) | exact BlkOK.rows' (fun h => h) (fun j _ => ap2_first (by simp) (by simp)) | exact BlkOK.rows' (fun h => h) (fun j _ => ap2_in (by simp) (by simp)) | skip
    | true =>
      obtain ⟨g3, g4⟩ := g2 rfl
      rw [c2_tree1]
      simp only [hw, Int.toNat_natCast]
      refine T.hite (fun hi => ?_) (fun hi => ?_)
      · have hi : i < n := by have := of_decide_eq_true hi; omega
        repeat' first | with_reducible refine T.hneed trivial ?_ | with_reducible refine T.hneed rfl ?_ | with_reducible refine T.h_ff ?_ | with_reducible refine T.h_tt ?_ | with_reducible refine T.hall (fun _ => ?_) | with_reducible refine T.hasm (fun _ => ?_) | with_reducible refine T.hchk ?_ ?_
        all_goals first | rfl | (refine decide_eq_true ?_; omega) | (simp; done) | (simp; omega) | (simp at *; omega) | skip
        refine T.hret ?_
        rename_i c' d' hc
        have hc : i + 1 ≤ c' := of_decide_eq_true hc
        refine Round.go ⟨z, y, len, cap, 0, a, b, n, i + 1, false, true, c', cc, c1⟩ (rhoL [0, 1, 2, 6]) ⟨h1, h2, h3, h4, by simp, by simp; omega, h7, fun _ => ⟨rfl, (fun h => by cases h), fun _ => ⟨by simp, hc⟩⟩, (fun h => by cases h)⟩ (by dsimp only; omega) (subStL _ rfl rfl rfl (Nat.le_of_ble_eq_true rfl) (by simp [c2St, c2Fr, c2Me, SubFr, slotAt, ren, below, rhoL]) ⟨⟨_, rfl, ?_⟩, ⟨_, rfl, ?_⟩, ⟨_, rfl, ?_⟩, ⟨_, rfl, ?_⟩, trivial⟩) hq
        all_goals first | exact lB_ok | exact sB_ok (by simp [LAlike, ren, rhoL, below, AV.scalar]) | exact BlkOK.rows' (fun h => h) (fun j _ => pairs_alike) | exact BlkOK.rows' (fun h => h) (fun j _ => ap2_first (by simp) (by simp)) | exact BlkOK.rows' (fun h => h) (fun j _ => ap2_in (by simp) (by simp)) | skip
      · have hi : n = i := by have := of_decide_eq_false hi; omega
        subst hi
        refine T.hret ?_
        refine Round.out (rhoL [0, 1, 2, 3]) _ ?_ (hq.2 (decide_eq_false (by dsimp only; omega)) c (decide_eq_true g4))
        refine subStL _ rfl rfl rfl (Nat.le_of_ble_eq_true rfl) (by simp [c2Fe, c2Me, SubFr, slotAt, ren, below, rhoL]) ⟨⟨_, rfl, ?_⟩, ⟨_, rfl, ?_⟩, ⟨_, rfl, ?_⟩, ⟨_, rfl, ?_⟩, trivial⟩
        all_goals first | exact lB_ok | exact sB_ok (by simp [LAlike, ren, rhoL, below, AV.scalar]) | exact BlkOK.rows' (fun h => h) (fun j _ => pairs_alike) | exact BlkOK.rows' (fun h => h) (fun j _ => ap2_first (by simp) (by simp)) | exact BlkOK.rows' (fun h => h) (fun j _ => ap2_in (by simp) (by simp)) | skip
  | true =>
    obtain ⟨rfl, g1, g2, g3⟩ := h9 rfl
    rw [c2_tree2]
    simp only [hw, Int.toNat_natCast]
    refine T.hite (fun hi => ?_) (fun hi => ?_)
    · have hi : i < n := by have := of_decide_eq_true hi; omega
      repeat' first | with_reducible refine T.hneed trivial ?_ | with_reducible refine T.hneed rfl ?_ | with_reducible refine T.h_ff ?_ | with_reducible refine T.h_tt ?_ | with_reducible refine T.hall (fun _ => ?_) | with_reducible refine T.hasm (fun _ => ?_) | with_reducible refine T.hchk ?_ ?_
      all_goals first | rfl | (refine decide_eq_true ?_; omega) | (simp; done) | (simp; omega) | (simp at *; omega) | skip
      refine T.hret ?_
      rename_i c' d' hc
      have hc : i + 1 ≤ c' := of_decide_eq_true hc
      refine Round.go ⟨z, y, len, cap, at_, a, b, n, i + 1, true, true, c', cc, c1⟩ (rhoL [0, 1, 2, 7, 4]) ⟨h1, h2, h3, h4, by dsimp only; omega, by dsimp only; omega, h7, (fun h => by cases h), fun _ => ⟨rfl, g1, hc, g3⟩⟩ (by dsimp only; omega) (subStL _ rfl rfl rfl (Nat.le_of_ble_eq_true rfl) (by simp [c2St, c2Fr, c2Me, SubFr, slotAt, ren, below, rhoL]) ⟨⟨_, rfl, ?_⟩, ⟨_, rfl, ?_⟩, ⟨_, rfl, ?_⟩, ⟨_, rfl, ?_⟩, ⟨_, rfl, ?_⟩, trivial⟩) hq
      all_goals first | exact lB_ok | exact sB_ok (by simp [LAlike, ren, rhoL, below, AV.scalar]) | exact BlkOK.rows' (fun h => h) (fun j _ => pairs_alike) | exact BlkOK.rows' (fun h => h) (fun j _ => ap2_first (by simp) (by simp)) | exact BlkOK.rows' (fun h => h) (fun j _ => ap2_in (by simp) (by simp)) | skip
    · have hi : n = i := by have := of_decide_eq_false hi; omega
      subst hi
      refine T.hret ?_
      refine Round.out (rhoL [0, 1, 2, 3, 4]) _ ?_ (hq c (decide_eq_true g2))
      refine subStL _ rfl rfl rfl (Nat.le_of_ble_eq_true rfl) (by simp [c2Fe, c2Me, SubFr, slotAt, ren, below, rhoL]) ⟨⟨_, rfl, ?_⟩, ⟨_, rfl, ?_⟩, ⟨_, rfl, ?_⟩, ⟨_, rfl, ?_⟩, ⟨_, rfl, ?_⟩, trivial⟩
      all_goals first | exact lB_ok | exact sB_ok (by simp [LAlike, ren, rhoL, below, AV.scalar]) | exact BlkOK.rows' (fun h => h) (fun j _ => pairs_alike) | exact BlkOK.rows' (fun h => h) (fun j _ => ap2_first (by simp) (by simp)) | exact BlkOK.rows' (fun h => h) (fun j _ => ap2_in (by simp) (by simp)) | skip

end Go.Proofs.Ythfgojdpnbpjbaa
