/-
  Layer 13: Cuts, the law's walk.
-/
import Derived.Test.YthfgojdpnbpjbaaHE
namespace Go.Proofs.Ythfgojdpnbpjbaa
open Go.Ox
set_option maxRecDepth 100000
set_option maxHeartbeats 4000000
set_option linter.unusedVariables false
set_option linter.unusedSimpArgs false

theorem cu_holds (z y : Nat → Int) (len cap : Nat) (at_ a b : Int) (hlc : len ≤ cap) : ((afn Try.prog cvE Try.f5 (codeOf Try.f5) [.sl 0 0 2 0 len cap, .int .i64 at_, .int .i64 a, .int .i64 b] [some (Blk.rows false 2 cap fun j => [.int .i64 (z j), .int .i64 (y j)])]).bind fun r => .ret r.1).holds fun v => v.yes = true := by
  refine T.cut_eq (cu_fn z y len cap at_ a b) ?_
  generalize hM : (if (100 : Int) < (len : Int) then (100 : Int) else (len : Int)) = m0
  obtain ⟨M, rfl⟩ : ∃ M : Nat, m0 = (M : Int) := ⟨m0.toNat, by split at hM <;> omega⟩
  have hM1 : M ≤ 100 := by split at hM <;> omega
  have hM2 : M ≤ len := by split at hM <;> omega
  generalize hW : IntKind.wrap IntKind.i64 ((M : Int) + 1) = w0
  obtain rfl : ((M + 1 : Nat) : Int) = w0 := by rw [← hW, IntWalk.i64_in _ (by omega)]; omega
  generalize hA : pkV at_ ((M + 1 : Nat) : Int) = a0
  have hA1 : 0 ≤ a0 ∧ a0 ≤ M := by
    unfold pkV at hA
    rw [if_neg (by omega)] at hA
    have p1 := Int.emod_nonneg at_ (show ((M + 1 : Nat) : Int) ≠ 0 by omega)
    have p2 := Int.emod_lt_of_pos at_ (show (0 : Int) < ((M + 1 : Nat) : Int) by omega)
    omega
  obtain ⟨A, rfl⟩ : ∃ A : Nat, a0 = (A : Int) := ⟨a0.toNat, by omega⟩
  have hAM : A ≤ M := by omega
  clear hA hW hM hA1
  refine T.hchk (decide_eq_true (by omega)) (T.hneed ⟨rhoL [0, 1], subStL _ rfl rfl rfl (Nat.le_of_ble_eq_true rfl) (by simp [c1St, SubFr, slotAt, ren, below, rhoL]) ⟨⟨_, rfl, lB_ok⟩, ⟨_, rfl, sB_ok (by simp [LAlike, ren, rhoL, below, AV.scalar])⟩, trivial⟩⟩ (T.hneed ⟨by dsimp only; omega, by dsimp only; omega, by dsimp only; omega, hlc, Nat.zero_le _, fun _ => rfl, fun h => by cases h⟩ (T.hall fun A' => T.hasm fun hA' => T.hall fun N => T.hasm fun hN => ?_)))
  have hA' : A' = A := by have := of_decide_eq_true hA'; simpa using this
  have hN : N = M := by have := of_decide_eq_true hN; omega
  subst hA'; subst hN
  refine T.hiteP (fun h0 => ?_) (fun h0 => ?_)
  · subst h0
    repeat' first | with_reducible refine T.hneed rfl ?_ | with_reducible refine T.hneed trivial ?_ | with_reducible refine T.hall (fun _ => ?_) | with_reducible refine T.hasmP (fun _ => ?_) | with_reducible refine T.hasm (fun _ => ?_) | with_reducible refine T.hchk rfl ?_ | with_reducible refine T.hiteP (fun _ => ?_) (fun _ => ?_) | with_reducible refine T.hiteE (fun _ => ?_) (fun _ => ?_) | with_reducible refine T.hiteN (fun _ => ?_) (fun _ => ?_) | with_reducible refine T.hiteFP (fun _ => ?_) (fun _ => ?_) | with_reducible refine T.hiteFE (fun _ => ?_) (fun _ => ?_) | with_reducible refine T.hite (fun _ => ?_) (fun _ => ?_) | with_reducible refine T.hchk ?_ ?_ | with_reducible refine T.hneed ?_ ?_ | with_reducible refine T.hret ?_
    all_goals first
      | rfl
      | exact decide_eq_true (by omega)
      | exact ⟨rhoL [0, 1, 3], subStL _ rfl rfl rfl (Nat.le_of_ble_eq_true rfl) (by simp [c2St, c2Fr, c2Me, SubFr, slotAt, ren, below, rhoL]) ⟨⟨_, rfl, lB_ok⟩, ⟨_, rfl, sB_ok (by simp [LAlike, ren, rhoL, below, AV.scalar])⟩, ⟨_, rfl, BlkOK.rows' (fun h => h) (fun j _ => ap2_first (by simp) (by simp))⟩, trivial⟩⟩
      | exact ⟨rfl, rfl, rfl, fun _ => rfl⟩
      | (simp only [decide_eq_true_eq, decide_eq_false_iff_not] at *; exact decide_eq_true (by omega))
      | (simp [c2Inv]; omega)
      | (exfalso; simp_all [apZ, wrap0]; done)
      | (simp only [decide_eq_true_eq, decide_eq_false_iff_not] at *; exfalso; omega)
      | exact (cl_row rfl).1
      | exact pe_clone (by omega)
      | exact pe_ap (by omega)
      | skip
  · skip
    repeat' first | with_reducible refine T.hneed rfl ?_ | with_reducible refine T.hneed trivial ?_ | with_reducible refine T.hall (fun _ => ?_) | with_reducible refine T.hasmP (fun _ => ?_) | with_reducible refine T.hasm (fun _ => ?_) | with_reducible refine T.hchk rfl ?_ | with_reducible refine T.hiteP (fun _ => ?_) (fun _ => ?_) | with_reducible refine T.hiteE (fun _ => ?_) (fun _ => ?_) | with_reducible refine T.hiteN (fun _ => ?_) (fun _ => ?_) | with_reducible refine T.hiteFP (fun _ => ?_) (fun _ => ?_) | with_reducible refine T.hiteFE (fun _ => ?_) (fun _ => ?_) | with_reducible refine T.hite (fun _ => ?_) (fun _ => ?_) | with_reducible refine T.hchk ?_ ?_ | with_reducible refine T.hneed ?_ ?_ | with_reducible refine T.hret ?_
    all_goals first
      | (exfalso; omega)
      | rfl
      | exact decide_eq_true (by omega)
      | exact ⟨rhoL [0, 1, 4, 2, 5], subStL _ rfl rfl rfl (Nat.le_of_ble_eq_true rfl) (by simp [c2St, c2Fr, c2Me, SubFr, slotAt, ren, below, rhoL]) ⟨⟨_, rfl, lB_ok⟩, ⟨_, rfl, sB_ok (by simp [LAlike, ren, rhoL, below, AV.scalar])⟩, ⟨_, rfl, BlkOK.rows' (fun h => h) (fun j _ => ap2_first (by simp) (by simp))⟩, ⟨_, rfl, BlkOK.rows' (fun h => h) (fun j _ => pairs_alike)⟩, ⟨_, rfl, BlkOK.rows' (fun h => h) (fun j _ => cl_alike)⟩, trivial⟩⟩
      | exact ⟨rfl, rfl, rfl, fun _ => rfl⟩
      | (simp only [decide_eq_true_eq, decide_eq_false_iff_not] at *; exact decide_eq_true (by omega))
      | (simp [c2Inv]; omega)
      | (exfalso; simp_all [apZ, wrap0]; done)
      | (simp only [decide_eq_true_eq, decide_eq_false_iff_not] at *; exfalso; omega)
      | exact (cl_row rfl).1
      | exact pe_clone (by omega)
      | exact pe_ap (by omega)
      | skip

end Go.Proofs.Ythfgojdpnbpjbaa
