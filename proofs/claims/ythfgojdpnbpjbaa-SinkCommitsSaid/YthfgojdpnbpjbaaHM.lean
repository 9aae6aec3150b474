/-
  Layer 13: Commits, the first loop's contract; the law's tree.
-/
import Derived.Test.YthfgojdpnbpjbaaHL
namespace Go.Proofs.Ythfgojdpnbpjbaa
open Go.Ox
set_option maxRecDepth 100000
set_option maxHeartbeats 4000000
set_option linter.unusedVariables false
set_option linter.unusedSimpArgs false

theorem cm_loop : LoopOK Try.prog cmE (loopAt (codeOf Try.f6) 0) := by
  refine loopSumm_ok (E := cmE) (inl_ok knB_ok cmL cmL_ok) (noLoops (by kernel_rfl)) cmSt cmInv (fun x => x.n - x.i) cmPick cmEnd ?_ (by kernel_rfl)
  rintro ⟨z, y, len, cap, no, n, i, has, cut, k, c, cc⟩ ⟨h1, h2, h3, h4, h5, h6, h7, h8⟩ Q hq
  dsimp only at h1 h2 h3 h4 h5 h6 h7 h8
  refine round_keep [0, 1, 5, 6, 7] ?_
  have hw : IntKind.wrap IntKind.i64 ((i : Int) + 1) = ((i + 1 : Nat) : Int) := by rw [IntWalk.i64_in _ (by omega)]; omega
  have hw2 : IntKind.wrap IntKind.i64 ((i : Int) * 2) = ((2 * i : Nat) : Int) := by rw [IntWalk.i64_in _ (by omega)]; omega
  cases has with
  | false =>
    obtain rfl := h5 rfl
    refine T.cut_eq (cm_tree0 z y len cap no n 0 k c cc cut) ?_
    rw [hw]
    repeat' first | with_reducible refine T.hneed rfl ?_ | with_reducible refine T.hneed trivial ?_ | with_reducible refine T.hall (fun _ => ?_) | with_reducible refine T.hasmP (fun _ => ?_) | with_reducible refine T.hasm (fun _ => ?_) | with_reducible refine T.hchkT ?_ | with_reducible refine T.hiteP (fun _ => ?_) (fun _ => ?_) | with_reducible refine T.hiteE (fun _ => ?_) (fun _ => ?_) | with_reducible refine T.hiteN (fun _ => ?_) (fun _ => ?_) | with_reducible refine T.hiteFP (fun _ => ?_) (fun _ => ?_) | with_reducible refine T.hiteFE (fun _ => ?_) (fun _ => ?_) | with_reducible refine T.hite (fun _ => ?_) (fun _ => ?_) | with_reducible refine T.hchk ?_ ?_ | with_reducible refine T.hneed ?_ ?_ | with_reducible refine T.hret ?_
    all_goals first
      | (simp only [Bool.and_eq_true, decide_eq_true_eq]; omega)
      | (exfalso; omega)
      | skip
    · rename_i hi a ha e1 e2 e3
      exact Round.go ⟨z, y, len, cap, no, n, 1, true, false, 0, a, 0⟩ (rhoL [0, 1, 4]) ⟨h1, h2, h3, by dsimp only; omega, (fun h => by cases h), (fun _ => ⟨Nat.le_refl _, ha⟩), (fun _ => by dsimp only; omega), (fun h => by cases h)⟩ (by dsimp only; omega) (subStL _ rfl rfl rfl (Nat.le_of_ble_eq_true rfl) (by simp [cmSt, cmFr, SubFr, slotAt, ren, below, rhoL]) ⟨⟨_, rfl, lB_ok⟩, ⟨_, rfl, sB_ok (by simp [LAlike, ren, rhoL, below, AV.scalar])⟩, ⟨_, rfl, BlkOK.rows' (fun h => h) fun r _ => ap2_first (by simp) (by simp)⟩, trivial⟩) hq
    · rename_i hi
      obtain rfl : n = 0 := by omega
      refine Round.out (rhoL [0, 1]) _ ?_ (hq.1 rfl)
      exact subStL _ rfl rfl rfl (Nat.le_of_ble_eq_true rfl) (by simp [cmFe, SubFr, slotAt, ren, below, rhoL]) ⟨⟨_, rfl, lB_ok⟩, ⟨_, rfl, sB_ok (by simp [LAlike, ren, rhoL, below, AV.scalar])⟩, trivial⟩
  | true =>
    obtain ⟨g1, g2⟩ := h6 rfl
    cases cut with
    | false =>
      have h7 := h7 rfl
      refine T.cut_eq (cm_tree1 z y len cap no n i k c cc) ?_
      rw [hw, hw2]
      repeat' first | with_reducible refine T.hneed rfl ?_ | with_reducible refine T.hneed trivial ?_ | with_reducible refine T.hall (fun _ => ?_) | with_reducible refine T.hasmP (fun _ => ?_) | with_reducible refine T.hasm (fun _ => ?_) | with_reducible refine T.hchkT ?_ | with_reducible refine T.hiteP (fun _ => ?_) (fun _ => ?_) | with_reducible refine T.hiteE (fun _ => ?_) (fun _ => ?_) | with_reducible refine T.hiteN (fun _ => ?_) (fun _ => ?_) | with_reducible refine T.hiteFP (fun _ => ?_) (fun _ => ?_) | with_reducible refine T.hiteFE (fun _ => ?_) (fun _ => ?_) | with_reducible refine T.hite (fun _ => ?_) (fun _ => ?_) | with_reducible refine T.hchk ?_ ?_ | with_reducible refine T.hneed ?_ ?_ | with_reducible refine T.hret ?_
      all_goals first
        | (simp only [Bool.and_eq_true, decide_eq_true_eq]; omega)
        | (exfalso; omega)
        | skip
      · rename_i hi a1 d1 ha1 e1 a2 ha2 a3 ha3
        obtain rfl : i = 5 := by omega
        exact Round.go ⟨z, y, len, cap, no, n, 6, true, true, 1, a1, a2⟩ (rhoL [0, 1, 5, 7]) ⟨h1, h2, h3, by dsimp only; omega, (fun h => by cases h), (fun _ => ⟨by dsimp only; omega, ha1⟩), (fun h => by cases h), fun _ => ⟨rfl, Nat.le_refl _, by dsimp only; omega, ha2, by dsimp only; omega, .inl (by dsimp only; omega)⟩⟩ (by dsimp only; omega) (subStL _ rfl rfl rfl (Nat.le_of_ble_eq_true rfl) (by simp [cmSt, cmFr, SubFr, slotAt, ren, below, rhoL]) ⟨⟨_, rfl, lB_ok⟩, ⟨_, rfl, sB_ok (by simp [LAlike, ren, rhoL, below, AV.scalar])⟩, ⟨_, rfl, BlkOK.rows' (fun h => h) fun r _ => ap2_in (by simp) (by simp)⟩, ⟨_, rfl, BlkOK.rows' (fun h => h) fun r _ => ap2_first (by simp [tens]) (by simp [ends])⟩, trivial⟩) hq
      · rename_i hi a1 d1 ha1 e1 e2 e3
        exact Round.go ⟨z, y, len, cap, no, n, i + 1, true, false, 0, a1, 0⟩ (rhoL [0, 1, 5]) ⟨h1, h2, h3, by dsimp only; omega, (fun h => by cases h), (fun _ => ⟨by dsimp only; omega, ha1⟩), (fun _ => by dsimp only; omega), (fun h => by cases h)⟩ (by dsimp only; omega) (subStL _ rfl rfl rfl (Nat.le_of_ble_eq_true rfl) (by simp [cmSt, cmFr, SubFr, slotAt, ren, below, rhoL]) ⟨⟨_, rfl, lB_ok⟩, ⟨_, rfl, sB_ok (by simp [LAlike, ren, rhoL, below, AV.scalar])⟩, ⟨_, rfl, BlkOK.rows' (fun h => h) fun r _ => ap2_in (by simp) (by simp)⟩, trivial⟩) hq
      · rename_i hi
        obtain rfl : n = i := by omega
        refine Round.out (rhoL [0, 1, 2]) _ ?_ ((hq.2 (decide_eq_false (by dsimp only; omega))).1 (decide_eq_true h7) c (decide_eq_true g2))
        exact subStL _ rfl rfl rfl (Nat.le_of_ble_eq_true rfl) (by simp [cmFe, SubFr, slotAt, ren, below, rhoL]) ⟨⟨_, rfl, lB_ok⟩, ⟨_, rfl, sB_ok (by simp [LAlike, ren, rhoL, below, AV.scalar])⟩, ⟨_, rfl, BlkOK.rows' (fun h => h) fun r _ => pairs_alike⟩, trivial⟩
    | true =>
      obtain ⟨_, k1, k2, k3, k4, k5⟩ := h8 rfl
      refine T.cut_eq (cm_tree2 z y len cap no n i k c cc) ?_
      rw [hw, hw2]
      repeat' first | with_reducible refine T.hneed rfl ?_ | with_reducible refine T.hneed trivial ?_ | with_reducible refine T.hall (fun _ => ?_) | with_reducible refine T.hasmP (fun _ => ?_) | with_reducible refine T.hasm (fun _ => ?_) | with_reducible refine T.hchkT ?_ | with_reducible refine T.hiteP (fun _ => ?_) (fun _ => ?_) | with_reducible refine T.hiteE (fun _ => ?_) (fun _ => ?_) | with_reducible refine T.hiteN (fun _ => ?_) (fun _ => ?_) | with_reducible refine T.hiteFP (fun _ => ?_) (fun _ => ?_) | with_reducible refine T.hiteFE (fun _ => ?_) (fun _ => ?_) | with_reducible refine T.hite (fun _ => ?_) (fun _ => ?_) | with_reducible refine T.hchk ?_ ?_ | with_reducible refine T.hneed ?_ ?_ | with_reducible refine T.hret ?_
      all_goals first
        | (simp only [Bool.and_eq_true, decide_eq_true_eq]; omega)
        | (exfalso; omega)
        | skip
      · rename_i hi a1 d1 ha1 e1 e2 e3 a2 d2 ha2 a3 ha3
        have hk : i = 5 * k + 5 ∧ k ≤ 2 := by omega
        exact Round.go ⟨z, y, len, cap, no, n, i + 1, true, true, k + 1, a1, a2⟩ (rhoL [0, 1, 6, 8]) ⟨h1, h2, h3, by dsimp only; omega, (fun h => by cases h), (fun _ => ⟨by dsimp only; omega, ha1⟩), (fun h => by cases h), fun _ => ⟨rfl, by dsimp only; omega, by dsimp only; omega, ha2, by dsimp only; omega, .inl (by dsimp only; omega)⟩⟩ (by dsimp only; omega) (subStL _ rfl rfl rfl (Nat.le_of_ble_eq_true rfl) (by simp [cmSt, cmFr, SubFr, slotAt, ren, below, rhoL]) ⟨⟨_, rfl, lB_ok⟩, ⟨_, rfl, sB_ok (by simp [LAlike, ren, rhoL, below, AV.scalar, Alike]; omega)⟩, ⟨_, rfl, BlkOK.rows' (fun h => h) fun r _ => ap2_in (by simp) (by simp)⟩, ⟨_, rfl, BlkOK.rows' (fun h => h) fun r _ => ap2_in (by simp [tens]; omega) (by simp [ends]; omega)⟩, trivial⟩) hq
      · rename_i hi a1 d1 ha1 e1 e2 e3 e4 a2 d2 ha2 a3 ha3
        have hk : i = 5 * k + 5 ∧ k ≤ 2 := by omega
        exact Round.go ⟨z, y, len, cap, no, n, i + 1, true, true, k + 1, a1, a2⟩ (rhoL [0, 1, 6, 8]) ⟨h1, h2, h3, by dsimp only; omega, (fun h => by cases h), (fun _ => ⟨by dsimp only; omega, ha1⟩), (fun h => by cases h), fun _ => ⟨rfl, by dsimp only; omega, by dsimp only; omega, ha2, by dsimp only; omega, .inl (by dsimp only; omega)⟩⟩ (by dsimp only; omega) (subStL _ rfl rfl rfl (Nat.le_of_ble_eq_true rfl) (by simp [cmSt, cmFr, SubFr, slotAt, ren, below, rhoL]) ⟨⟨_, rfl, lB_ok⟩, ⟨_, rfl, sB_ok (by simp [LAlike, ren, rhoL, below, AV.scalar, Alike]; omega)⟩, ⟨_, rfl, BlkOK.rows' (fun h => h) fun r _ => ap2_in (by simp) (by simp)⟩, ⟨_, rfl, BlkOK.rows' (fun h => h) fun r _ => ap2_in (by simp [tens]; omega) (by simp [ends]; omega)⟩, trivial⟩) hq
      · rename_i hi a1 d1 ha1 e1 e2 e3
        exact Round.go ⟨z, y, len, cap, no, n, i + 1, true, true, k, a1, cc⟩ (rhoL [0, 1, 6, 3]) ⟨h1, h2, h3, by dsimp only; omega, (fun h => by cases h), (fun _ => ⟨by dsimp only; omega, ha1⟩), (fun h => by cases h), fun _ => ⟨rfl, k1, k2, k3, by dsimp only; omega, by dsimp only; omega⟩⟩ (by dsimp only; omega) (subStL _ rfl rfl rfl (Nat.le_of_ble_eq_true rfl) (by simp [cmSt, cmFr, SubFr, slotAt, ren, below, rhoL]) ⟨⟨_, rfl, lB_ok⟩, ⟨_, rfl, sB_ok (by simp [LAlike, ren, rhoL, below, AV.scalar])⟩, ⟨_, rfl, BlkOK.rows' (fun h => h) fun r _ => ap2_in (by simp) (by simp)⟩, ⟨_, rfl, BlkOK.rows' (fun h => h) fun r _ => pairs_alike⟩, trivial⟩) hq
      · rename_i hi
        obtain rfl : n = i := by omega
        have q1 := (hq.2 (decide_eq_false (by dsimp only; omega))).2 (decide_eq_false (by dsimp only; omega))
        have fin : ∀ (k' : Nat) (t : Int), k = k' → t = ((10 * k : Nat) : Int) → (cmX ⟨z, y, len, cap, no, n, n, true, true, k, c, cc⟩ k' t).holds Q → Round cmE cmSt cmInv (fun x => x.n - x.i) cmEnd Q ⟨z, y, len, cap, no, n, n, true, true, k, c, cc⟩ (Ex.exit 0, St.mk [(0, .sl 0 0 2 0 len cap), (1, .int .i64 no), (5, .ptr 1 0 0 0), (6, .int .i64 n), (7, .int .i64 n)] [some (Blk.mk false [] 2 cap (fun j => [.int .i64 (z j), .int .i64 (y j)]) []), some (Blk.mk true [.sl 2 0 2 0 n c, .sl 3 0 2 0 k cc, .int .i64 ((10 * k : Nat) : Int), .tt] 0 0 (fun x => []) []), some (Blk.mk true [] 2 c (fun j => [.int .i64 (apZ z n j), .int .i64 (apZ y n j)]) []), some (Blk.mk true [] 2 cc (fun j => [.int .i64 (apZ tens k j), .int .i64 (apZ ends k j)]) [])]) := by
          rintro k' t rfl rfl hx
          refine Round.out (rhoL [0, 1, 2, 3]) _ ?_ (hx c (decide_eq_true g2) cc (decide_eq_true k3))
          exact subStL _ rfl rfl rfl (Nat.le_of_ble_eq_true rfl) (by simp [cmFe, SubFr, slotAt, ren, below, rhoL]) ⟨⟨_, rfl, lB_ok⟩, ⟨_, rfl, sB_ok (by simp [LAlike, ren, rhoL, below, AV.scalar])⟩, ⟨_, rfl, BlkOK.rows' (fun h => h) fun r _ => pairs_alike⟩, ⟨_, rfl, BlkOK.rows' (fun h => h) fun r _ => pairs_alike⟩, trivial⟩
        by_cases c1 : n ≤ 10
        · exact fin 1 10 (by omega) (by omega) (q1.1 (decide_eq_true c1))
        · by_cases c2 : n ≤ 15
          · exact fin 2 20 (by omega) (by omega) ((q1.2 (decide_eq_false c1)).1 (decide_eq_true c2))
          · exact fin 3 30 (by omega) (by omega) ((q1.2 (decide_eq_false c1)).2 (decide_eq_false c2))

end Go.Proofs.Ythfgojdpnbpjbaa
