/-
  Layer 13: Once: a round.
-/
import Derived.Test.YthfgojdpnbpjbaaHSe
import Derived.Test.YthfgojdpnbpjbaaHSdc
namespace Go.Proofs.Ythfgojdpnbpjbaa
open Go.Ox
set_option maxRecDepth 100000
set_option maxHeartbeats 16000000
set_option linter.unusedVariables false
set_option linter.unusedSimpArgs false

theorem so_round_c (k o z y : Nat → Int) (len cap i J nc cc cB : Nat) (p q : Nat → Int) (most : Int) (tn tc n rc rB : Nat) (f g : Nat → Int) (A dc : Nat) (Q : Ex × St → Prop) (hq : (soEnd ⟨k, o, z, y, len, cap, i, .c, J, nc, cc, cB, p, q, most, tn, tc, n, rc, rB, f, g, A, dc⟩).holds Q) (hinv : soInv ⟨k, o, z, y, len, cap, i, .c, J, nc, cc, cB, p, q, most, tn, tc, n, rc, rB, f, g, A, dc⟩) :
    (keepT [0, 3, 4, 5, 6, 7] (acode Try.prog soE (loopAt (codeOf Try.f4) 0) (soSt ⟨k, o, z, y, len, cap, i, .c, J, nc, cc, cB, p, q, most, tn, tc, n, rc, rB, f, g, A, dc⟩))).holds (Round soE soSt soInv (fun x => x.N - x.i) soEnd Q ⟨k, o, z, y, len, cap, i, .c, J, nc, cc, cB, p, q, most, tn, tc, n, rc, rB, f, g, A, dc⟩) := by
  obtain ⟨hlc, hil, hi2, htn, h11, r1, r2, r3, r4, r5, r6⟩ := hinv
  dsimp only at hlc hil hi2 htn
  have hN : min len 200 ≤ 200 := Nat.min_le_right _ _
  have hw : IntKind.wrap IntKind.i64 ((i : Int) + 1) = ((i + 1 : Nat) : Int) := by rw [IntWalk.i64_in _ (by omega)]; omega
  have hcl := cnt_le k i
  dsimp only at h11 r1 r2 r3 r4 r5 r6
  refine T.cut_eq (so_tree_c k o z y len cap i J nc cc cB p q most tn tc n rc rB f g A dc) ?_
  simp only [hw, Int.toNat_natCast]
  repeat' first | with_reducible refine T.hneed rfl ?_ | with_reducible refine T.hneed trivial ?_ | with_reducible refine T.hall (fun _ => ?_) | with_reducible refine T.hasmP (fun _ => ?_) | with_reducible refine T.hasm (fun _ => ?_) | with_reducible refine T.hchkT ?_ | with_reducible refine T.hiteP (fun _ => ?_) (fun _ => ?_) | with_reducible refine T.hiteE (fun _ => ?_) (fun _ => ?_) | with_reducible refine T.hiteN (fun _ => ?_) (fun _ => ?_) | with_reducible refine T.hiteFP (fun _ => ?_) (fun _ => ?_) | with_reducible refine T.hiteFE (fun _ => ?_) (fun _ => ?_) | with_reducible refine T.hite (fun _ => ?_) (fun _ => ?_) | with_reducible refine T.hchk ?_ ?_ | with_reducible refine T.hneed ?_ ?_ | with_reducible refine T.hret ?_
  all_goals first
    | exact decide_eq_true (by omega)
    | (simp only [Bool.and_eq_true, decide_eq_true_eq]; omega)
    | (exfalso; omega)
    | exact ⟨⟨rfl, rfl, rfl, rfl⟩, prB _ _ _, (by decide)⟩
    | exact ⟨⟨rfl, rfl, rfl, rfl⟩, (row_is rfl rfl rfl rfl (fun j => row_new _ _ j)).1, (by decide)⟩
    | exact ⟨⟨rfl, rfl, rfl, rfl⟩, (row_is rfl rfl rfl rfl (fun j => row_in nc J _ p q _ _ j)).1, (by decide)⟩
    | exact ⟨⟨rfl, rfl, rfl, rfl⟩, (row_is rfl rfl rfl rfl (fun j => row_new _ _ j)).1, prB _ _ _, (by decide), (by decide), (by decide), (by omega), (by omega)⟩
    | exact ⟨⟨rfl, rfl, rfl, rfl⟩, (row_is rfl rfl rfl rfl (fun j => row_in nc J _ p q _ _ j)).1, prB _ _ _, (by decide), (by decide), (by decide), (by omega), (by omega)⟩
    | exact ck_new (nc := 0) (J := 0) (d := 0) (p := fun _ => 0) (q := fun _ => 0) rfl rfl rfl rfl (fun j => row_new _ _ j) (fun r hr => absurd hr (Nat.not_lt_zero r)) (by omega)
    | exact ck_new rfl rfl rfl rfl (fun j => row_in nc J _ p q _ _ j) (fun r hr => by have := (fun (r : Nat) (hr : r < 0) => (Nat.le_refl 0)) r hr; omega) (by omega)
    | skip
  · rename_i h1 h2 h3 c hc1 hn c6 hc2
    have hc : cnt k (i + 1) = cnt k i := cnt_no (is3 h3)
    exact Round.go ⟨k, o, z, y, len, cap, i + 1, .d, 0, 1, c, c, apf 0 0 0 (fun _ => 0) ((i + 1 : Nat) : Int), apf 0 0 0 (fun _ => 0) (n : Int), ((i + 1 : Nat) : Int), tn, tc, n, rc, rB, f, g, A, dc⟩ (rhoL [0, 1, 2, 3, 5]) ⟨hlc, by dsimp only; omega, by dsimp only; omega, by dsimp only; omega, ⟨by dsimp only; omega, ⟨by dsimp only; omega, by dsimp only; omega, by dsimp only; omega, by dsimp only; omega, by dsimp only; omega, r6⟩, ⟨by dsimp only; omega, by dsimp only; omega, by dsimp only; omega, by dsimp only; omega, cuts_ok (nc := 0) (J := 0) (d := 0) (i := i) (p := fun _ => 0) (fun r hr => absurd hr (Nat.not_lt_zero r))⟩⟩⟩ (by simp only [SO.N]; omega) (subStL _ rfl rfl rfl (Nat.le_of_ble_eq_true rfl) (by simp [soSt, soFr, SubFr, slotAt, ren, below, rhoL]) ⟨⟨_, rfl, act_ok⟩, ⟨_, rfl, skB_ok (by simp [LAlike, ren, rhoL, below, AV.scalar, Ox.Alike, conc])⟩, ⟨_, rfl, pB_same⟩, ⟨_, rfl, pB_same⟩, ⟨_, rfl, pB_ok (fun j => row_new ((i + 1 : Nat) : Int) (n : Int) j) (fun _ _ => rfl) (fun _ _ => rfl)⟩, trivial⟩) hq
  · rename_i h1 h2 h3 h4 c hc1 hn c6 hc2 hn2 c7 hc3 c8 hc4
    have hc : cnt k (i + 1) = cnt k i := cnt_no (is4 h4)
    obtain rfl : n = tn := by omega
    exact Round.go ⟨k, o, z, y, len, cap, i + 1, .e, c8, 0, c - 1, c, _, _, ((i + 1 : Nat) : Int), n, tc, 0, 0, rB, _, _, n, c7⟩ (rhoL [0, 1, 2, 3, 5, 7]) ⟨hlc, by dsimp only; omega, by dsimp only; omega, by dsimp only; omega, ⟨by dsimp only; omega, by dsimp only; omega, ⟨by dsimp only; omega, by dsimp only; omega, by dsimp only; omega, by dsimp only; omega, by dsimp only; omega, fun r hr => absurd hr (Nat.not_lt_zero r)⟩, ⟨by dsimp only; omega, by dsimp only; omega, by dsimp only; omega, by dsimp only; omega, fun r hr => absurd hr (Nat.not_lt_zero r)⟩⟩⟩ (by simp only [SO.N]; omega) (subStL _ rfl rfl rfl (Nat.le_of_ble_eq_true rfl) (by simp [soSt, soFr, SubFr, slotAt, ren, below, rhoL]) ⟨⟨_, rfl, act_ok⟩, ⟨_, rfl, skB_ok (by simp [LAlike, ren, rhoL, below, AV.scalar, Ox.Alike, conc])⟩, ⟨_, rfl, pB_same⟩, ⟨_, rfl, pB_same⟩, ⟨_, rfl, pB_same⟩, ⟨_, rfl, pB_ok (fun j => row_done0 n (fun r => z (fidx k r (min len 200))) (fun r => y (fidx k r (min len 200))) f g (fun r hr => by rw [(r6 r hr).1, h11]; rfl) (fun r hr => by rw [(r6 r hr).2, h11]; rfl) j) (fun _ _ => rfl) (fun _ _ => rfl)⟩, trivial⟩) hq
  · rename_i h1 h2 h3 h4 c d hc1 c6 d6 hc2
    have hT := isTake h3 h4
    have hc : cnt k (i + 1) = cnt k i + 1 := cnt_yes hT
    have hf := fidx_at hT (min len 200) (by omega)
    rw [← htn] at hf
    have ez : ∀ v : Nat → Int, v (0 + i) = v (fidx k tn (min len 200)) := fun v => by rw [hf, Nat.zero_add]
    exact Round.go ⟨k, o, z, y, len, cap, i + 1, .c, J, nc, cc, cB, p, q, most, tn + 1, c6, n + 1, c, c, apf n 0 d f (z (0 + i)), apf n 0 d g (y (0 + i)), A, dc⟩ (rhoL [0, 1, 8, 6]) ⟨hlc, by dsimp only; omega, by dsimp only; omega, by dsimp only; omega, ⟨by dsimp only; omega, ⟨by dsimp only; omega, by dsimp only; omega, by dsimp only; omega, by dsimp only; omega, by dsimp only; omega, fun r hr => recs_ok r6 (by rw [r3]; exact ez z) (by rw [r3]; exact ez y) hr⟩⟩⟩ (by simp only [SO.N]; omega) (subStL _ rfl rfl rfl (Nat.le_of_ble_eq_true rfl) (by simp [soSt, soFr, SubFr, slotAt, ren, below, rhoL]) ⟨⟨_, rfl, act_ok⟩, ⟨_, rfl, skB_ok (by simp [LAlike, ren, rhoL, below, AV.scalar, Ox.Alike, conc])⟩, ⟨_, rfl, pB_ok (fun j => row_in tn 0 d6 (aZ (SO.tz _) tn) (aZ (SO.ty _) tn) (z (0 + i)) (y (0 + i)) j) (fun j _ => apf_aZ (u := fun r => z (fidx k r (min len 200))) (ez z) j) (fun j _ => apf_aZ (u := fun r => y (fidx k r (min len 200))) (ez y) j)⟩, ⟨_, rfl, pB_ok (fun j => row_in n 0 d f g (z (0 + i)) (y (0 + i)) j) (fun _ _ => rfl) (fun _ _ => rfl)⟩, trivial⟩) hq
  · rename_i h1 h2
    have hc : cnt k (min len 200) = tn := by rw [htn]; congr 1; omega
    have hc : cnt k (SO.N ⟨k, o, z, y, len, cap, i, .c, J, nc, cc, cB, p, q, most, tn, tc, n, rc, rB, f, g, A, dc⟩) = tn := hc
    unfold soEnd at hq
    dsimp only at hq
    rw [hc] at hq
    refine Round.out (rhoL [0, 2]) _ ?_ ((hq.2 (decide_eq_false (by omega)) tc (decide_eq_true r2) 0 (decide_eq_true (Nat.zero_le _))).1 (decide_eq_true rfl))
    exact subStL _ rfl rfl rfl (Nat.le_of_ble_eq_true rfl) (by simp [soFe, SubFr, slotAt, ren, below, rhoL, h11]) ⟨⟨_, rfl, act_ok⟩, ⟨_, rfl, pB_same⟩, trivial⟩
  · rename_i h1
    have hc : cnt k (min len 200) = tn := by rw [htn]; congr 1; omega
    have hc : cnt k (SO.N ⟨k, o, z, y, len, cap, i, .c, J, nc, cc, cB, p, q, most, tn, tc, n, rc, rB, f, g, A, dc⟩) = tn := hc
    unfold soEnd at hq
    dsimp only at hq
    rw [hc] at hq
    refine Round.out (rhoL [0, 2]) _ ?_ ((hq.2 (decide_eq_false (by omega)) tc (decide_eq_true r2) 0 (decide_eq_true (Nat.zero_le _))).1 (decide_eq_true rfl))
    exact subStL _ rfl rfl rfl (Nat.le_of_ble_eq_true rfl) (by simp [soFe, SubFr, slotAt, ren, below, rhoL, h11]) ⟨⟨_, rfl, act_ok⟩, ⟨_, rfl, pB_same⟩, trivial⟩

end Go.Proofs.Ythfgojdpnbpjbaa
