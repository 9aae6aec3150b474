/-
  Layer 13: Once: a round.
-/
import Derived.Test.YthfgojdpnbpjbaaHSe
import Derived.Test.YthfgojdpnbpjbaaHSda
namespace Go.Proofs.Ythfgojdpnbpjbaa
open Go.Ox
set_option maxRecDepth 100000
set_option maxHeartbeats 16000000
set_option linter.unusedVariables false
set_option linter.unusedSimpArgs false

theorem so_round_a (k o z y : Nat → Int) (len cap i J nc cc cB : Nat) (p q : Nat → Int) (most : Int) (tn tc n rc rB : Nat) (f g : Nat → Int) (A dc : Nat) (Q : Ex × St → Prop) (hq : (soEnd ⟨k, o, z, y, len, cap, i, .a, J, nc, cc, cB, p, q, most, tn, tc, n, rc, rB, f, g, A, dc⟩).holds Q) (hinv : soInv ⟨k, o, z, y, len, cap, i, .a, J, nc, cc, cB, p, q, most, tn, tc, n, rc, rB, f, g, A, dc⟩) :
    (keepT [0, 3, 4, 5, 6, 7] (acode Try.prog soE (loopAt (codeOf Try.f4) 0) (soSt ⟨k, o, z, y, len, cap, i, .a, J, nc, cc, cB, p, q, most, tn, tc, n, rc, rB, f, g, A, dc⟩))).holds (Round soE soSt soInv (fun x => x.N - x.i) soEnd Q ⟨k, o, z, y, len, cap, i, .a, J, nc, cc, cB, p, q, most, tn, tc, n, rc, rB, f, g, A, dc⟩) := by
  obtain ⟨hlc, hil, hi2, htn, h10, h11⟩ := hinv
  dsimp only at hlc hil hi2 htn
  have hN : min len 200 ≤ 200 := Nat.min_le_right _ _
  have hw : IntKind.wrap IntKind.i64 ((i : Int) + 1) = ((i + 1 : Nat) : Int) := by rw [IntWalk.i64_in _ (by omega)]; omega
  have hcl := cnt_le k i
  dsimp only at h10 h11
  refine T.cut_eq (so_tree_a k o z y len cap i J nc cc cB p q most tn tc n rc rB f g A dc) ?_
  simp only [hw, Int.toNat_natCast]
  repeat' first | with_reducible refine T.hneed rfl ?_ | with_reducible refine T.hneed trivial ?_ | with_reducible refine T.hall (fun _ => ?_) | with_reducible refine T.hasmP (fun _ => ?_) | with_reducible refine T.hasm (fun _ => ?_) | with_reducible refine T.hchkT ?_ | with_reducible refine T.hiteP (fun _ => ?_) (fun _ => ?_) | with_reducible refine T.hiteE (fun _ => ?_) (fun _ => ?_) | with_reducible refine T.hiteN (fun _ => ?_) (fun _ => ?_) | with_reducible refine T.hiteFP (fun _ => ?_) (fun _ => ?_) | with_reducible refine T.hiteFE (fun _ => ?_) (fun _ => ?_) | with_reducible refine T.hite (fun _ => ?_) (fun _ => ?_) | with_reducible refine T.hchk ?_ ?_ | with_reducible refine T.hneed ?_ ?_ | with_reducible refine T.hret ?_
  all_goals first
    | exact decide_eq_true (by omega)
    | (simp only [Bool.and_eq_true, decide_eq_true_eq]; omega)
    | (exfalso; omega)
    | exact ⟨⟨rfl, rfl, rfl, rfl⟩, prB _ _ _, (by decide)⟩
    | exact ⟨⟨rfl, rfl, rfl, rfl⟩, (row_is rfl rfl rfl rfl (fun j => row_new _ _ j)).1, (by decide)⟩
    | exact ⟨⟨rfl, rfl, rfl, rfl⟩, (row_is rfl rfl rfl rfl (fun j => row_in nc J _ p q _ _ j)).1, (by decide)⟩
    | exact ⟨⟨rfl, rfl, rfl, rfl⟩, (row_is rfl rfl rfl rfl (fun j => row_new _ _ j)).1, prB _ _ _, (by decide), (by decide), (by decide), (by omega), (by omega)⟩
    | exact ⟨⟨rfl, rfl, rfl, rfl⟩, (row_is rfl rfl rfl rfl (fun j => row_in nc J _ p q _ _ j)).1, prB _ _ _, (by decide), (by decide), (by decide), (by omega), (by omega)⟩
    | exact ck_new (nc := 0) (J := 0) (d := 0) (p := fun _ => 0) (q := fun _ => 0) rfl rfl rfl rfl (fun j => row_new _ _ j) (fun r hr => absurd hr (Nat.not_lt_zero r)) (by omega)
    | exact ck_new rfl rfl rfl rfl (fun j => row_in nc J _ p q _ _ j) (fun r hr => by have := (fun (r : Nat) (hr : r < 0) => (Nat.le_refl 0)) r hr; omega) (by omega)
    | skip
  · rename_i h1 h2 h3 c hc1
    have hc : cnt k (i + 1) = cnt k i := cnt_no (is3 h3)
    exact Round.go ⟨k, o, z, y, len, cap, i + 1, .b, 0, 1, c, c, apf 0 0 0 (fun _ => 0) ((i + 1 : Nat) : Int), apf 0 0 0 (fun _ => 0) 0, ((i + 1 : Nat) : Int), tn, tc, n, rc, rB, f, g, A, dc⟩ (rhoL [0, 1, 3]) ⟨hlc, by dsimp only; omega, by dsimp only; omega, by dsimp only; omega, ⟨by dsimp only; omega, by dsimp only; omega, ⟨by dsimp only; omega, by dsimp only; omega, by dsimp only; omega, by dsimp only; omega, cuts_ok (nc := 0) (J := 0) (d := 0) (i := i) (p := fun _ => 0) (fun r hr => absurd hr (Nat.not_lt_zero r))⟩⟩⟩ (by simp only [SO.N]; omega) (subStL _ rfl rfl rfl (Nat.le_of_ble_eq_true rfl) (by simp [soSt, soFr, SubFr, slotAt, ren, below, rhoL]) ⟨⟨_, rfl, act_ok⟩, ⟨_, rfl, skB_ok (by simp [LAlike, ren, rhoL, below, AV.scalar, Ox.Alike, conc])⟩, ⟨_, rfl, pB_ok (fun j => row_new ((i + 1 : Nat) : Int) 0 j) (fun _ _ => rfl) (fun _ _ => rfl)⟩, trivial⟩) hq
  · rename_i h1 h2 h3 h4 c hc1 c1 hc2
    have hc : cnt k (i + 1) = cnt k i := cnt_no (is4 h4)
    exact Round.go ⟨k, o, z, y, len, cap, i + 1, .b, c1, 0, c - 1, c, _, _, ((i + 1 : Nat) : Int), tn, tc, n, rc, rB, f, g, 0, dc⟩ (rhoL [0, 1, 3]) ⟨hlc, by dsimp only; omega, by dsimp only; omega, by dsimp only; omega, ⟨by dsimp only; omega, rfl, ⟨by dsimp only; omega, by dsimp only; omega, by dsimp only; omega, by dsimp only; omega, fun r hr => absurd hr (Nat.not_lt_zero r)⟩⟩⟩ (by simp only [SO.N]; omega) (subStL _ rfl rfl rfl (Nat.le_of_ble_eq_true rfl) (by simp [soSt, soFr, SubFr, slotAt, ren, below, rhoL]) ⟨⟨_, rfl, act_ok⟩, ⟨_, rfl, skB_ok (by simp [LAlike, ren, rhoL, below, AV.scalar, Ox.Alike, conc])⟩, ⟨_, rfl, pB_same⟩, trivial⟩) hq
  · rename_i h1 h2 h3 h4 c hc1 c1 hc2
    have hT := isTake h3 h4
    have hc : cnt k (i + 1) = cnt k i + 1 := cnt_yes hT
    have hf := fidx_at hT (min len 200) (by omega)
    rw [← htn] at hf
    have ez : ∀ v : Nat → Int, v (0 + i) = v (fidx k tn (min len 200)) := fun v => by rw [hf, Nat.zero_add]
    have ez0 : ∀ v : Nat → Int, v (0 + i) = v (fidx k 0 (min len 200)) := fun v => by have := ez v; rwa [h10] at this
    exact Round.go ⟨k, o, z, y, len, cap, i + 1, .c, J, nc, cc, cB, p, q, most, 1, c1, 1, c, c, apf 0 0 0 (fun _ => 0) (z (0 + i)), apf 0 0 0 (fun _ => 0) (y (0 + i)), A, dc⟩ (rhoL [0, 1, 6, 4]) ⟨hlc, by dsimp only; omega, by dsimp only; omega, by dsimp only; omega, ⟨by dsimp only; omega, ⟨by dsimp only; omega, by dsimp only; omega, by dsimp only; omega, by dsimp only; omega, by dsimp only; omega, fun r hr => recs_ok (f := fun _ => 0) (g := fun _ => 0) (fun r hr => absurd hr (Nat.not_lt_zero r)) (by show _ = z (fidx k (A + 0) (min len 200)); rw [h11]; exact ez0 z) (by show _ = y (fidx k (A + 0) (min len 200)); rw [h11]; exact ez0 y) hr⟩⟩⟩ (by simp only [SO.N]; omega) (subStL _ rfl rfl rfl (Nat.le_of_ble_eq_true rfl) (by simp [soSt, soFr, SubFr, slotAt, ren, below, rhoL]) ⟨⟨_, rfl, act_ok⟩, ⟨_, rfl, skB_ok (by simp [LAlike, ren, rhoL, below, AV.scalar, Ox.Alike, conc])⟩, ⟨_, rfl, pB_ok (fun j => row_new (z (0 + i)) (y (0 + i)) j) (fun j _ => apf_aZ0 (u := fun r => z (fidx k r (min len 200))) (ez0 z) j) (fun j _ => apf_aZ0 (u := fun r => y (fidx k r (min len 200))) (ez0 y) j)⟩, ⟨_, rfl, pB_ok (fun j => row_new (z (0 + i)) (y (0 + i)) j) (fun _ _ => rfl) (fun _ _ => rfl)⟩, trivial⟩) hq
  · rename_i h1 h2
    have hc : cnt k (min len 200) = tn := by rw [htn]; congr 1; omega
    have hc : cnt k (SO.N ⟨k, o, z, y, len, cap, i, .a, J, nc, cc, cB, p, q, most, tn, tc, n, rc, rB, f, g, A, dc⟩) = tn := hc
    unfold soEnd at hq
    dsimp only at hq
    rw [hc] at hq
    refine Round.out (rhoL [0]) _ ?_ (hq.1 (decide_eq_true h10))
    exact subStL _ rfl rfl rfl (Nat.le_of_ble_eq_true rfl) (by simp [soFe, SubFr, slotAt, ren, below, rhoL, h11]) ⟨⟨_, rfl, act_ok⟩, trivial⟩
  · rename_i h1
    have hc : cnt k (min len 200) = tn := by rw [htn]; congr 1; omega
    have hc : cnt k (SO.N ⟨k, o, z, y, len, cap, i, .a, J, nc, cc, cB, p, q, most, tn, tc, n, rc, rB, f, g, A, dc⟩) = tn := hc
    unfold soEnd at hq
    dsimp only at hq
    rw [hc] at hq
    refine Round.out (rhoL [0]) _ ?_ (hq.1 (decide_eq_true h10))
    exact subStL _ rfl rfl rfl (Nat.le_of_ble_eq_true rfl) (by simp [soFe, SubFr, slotAt, ren, below, rhoL, h11]) ⟨⟨_, rfl, act_ok⟩, trivial⟩

end Go.Proofs.Ythfgojdpnbpjbaa
