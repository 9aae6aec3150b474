/-
  Layer 13: Commits, the law.
-/
import Derived.Test.YthfgojdpnbpjbaaHN
namespace Go.Proofs.Ythfgojdpnbpjbaa
open Go.Ox
set_option maxRecDepth 100000
set_option maxHeartbeats 16000000
set_option linter.unusedVariables false
set_option linter.unusedSimpArgs false

theorem ap_t10 : apZ tens 1 0 = 10 := by decide
theorem ap_t20 : apZ tens 2 0 = 10 := by decide
theorem ap_t21 : apZ tens 2 1 = 20 := by decide
theorem ap_t30 : apZ tens 3 0 = 10 := by decide
theorem ap_t31 : apZ tens 3 1 = 20 := by decide
theorem ap_t32 : apZ tens 3 2 = 30 := by decide
theorem ap_e10 : apZ ends 1 0 = 6 := by decide
theorem ap_e20 : apZ ends 2 0 = 6 := by decide
theorem ap_e21 : apZ ends 2 1 = 11 := by decide
theorem ap_e30 : apZ ends 3 0 = 6 := by decide
theorem ap_e31 : apZ ends 3 1 = 11 := by decide
theorem ap_e32 : apZ ends 3 2 = 16 := by decide

theorem cm_holds (z y : Nat → Int) (len cap : Nat) (no : Int) (hlc : len ≤ cap) : ((afn Try.prog cmE Try.f6 (codeOf Try.f6) [.sl 0 0 2 0 len cap, .int .i64 no] [some (Blk.rows false 2 cap fun j => [.int .i64 (z j), .int .i64 (y j)])]).bind fun r => .ret r.1).holds fun v => v.yes = true := by
  refine T.cut_eq (cm_fn z y len cap no) ?_
  generalize hM : (if (50 : Int) < (len : Int) then (50 : Int) else (len : Int)) = m0
  obtain ⟨N, rfl⟩ : ∃ N : Nat, m0 = (N : Int) := ⟨m0.toNat, by split at hM <;> omega⟩
  have hM1 : N ≤ 50 := by split at hM <;> omega
  have hM2 : N ≤ len := by split at hM <;> omega
  clear hM
  rw [show Int.toNat (N : Int) = N from rfl]
  try rw [ap_t10]
  try rw [ap_t20]
  try rw [ap_t21]
  try rw [ap_t30]
  try rw [ap_t31]
  try rw [ap_t32]
  try rw [ap_e10]
  try rw [ap_e20]
  try rw [ap_e21]
  try rw [ap_e30]
  try rw [ap_e31]
  try rw [ap_e32]
  refine T.hneed ⟨rhoL [0, 1], subStL _ rfl rfl rfl (Nat.le_of_ble_eq_true rfl) (by simp [cmSt, cmFr, SubFr, slotAt, ren, below, rhoL]) ⟨⟨_, rfl, lB_ok⟩, ⟨_, rfl, sB_ok (by simp [LAlike, ren, rhoL, below, AV.scalar])⟩, trivial⟩⟩ (T.hneed ⟨hM1, hM2, hlc, Nat.zero_le _, (fun _ => rfl), (fun h => by cases h), (fun _ => Nat.zero_le _), (fun h => by cases h)⟩ ?_)
  clear hlc
  repeat' first | with_reducible refine T.hneed rfl ?_ | with_reducible refine T.hneed trivial ?_ | with_reducible refine T.hall (fun _ => ?_) | with_reducible refine T.hasmP (fun _ => ?_) | with_reducible refine T.hasm (fun _ => ?_) | with_reducible refine T.hchkT ?_ | with_reducible refine T.hiteP (fun _ => ?_) (fun _ => ?_) | with_reducible refine T.hiteE (fun _ => ?_) (fun _ => ?_) | with_reducible refine T.hiteN (fun _ => ?_) (fun _ => ?_) | with_reducible refine T.hiteFP (fun _ => ?_) (fun _ => ?_) | with_reducible refine T.hiteFE (fun _ => ?_) (fun _ => ?_) | with_reducible refine T.hite (fun _ => ?_) (fun _ => ?_) | with_reducible refine T.hchk ?_ ?_ | with_reducible refine T.hneed ?_ ?_ | with_reducible refine T.hret ?_
  all_goals first
    | exact (rfl : (AV.bool true).yes = true)
    | (simp only [Bool.and_eq_true, decide_eq_true_eq]; omega)
    | (exfalso; omega)
    | (simp only [Bool.and_eq_true, decide_eq_true_eq, Bool.not_eq_true', decide_eq_false_iff_not, bne_eq_false_iff_eq, List.getD_cons_zero, List.getD_cons_succ, IntKind.wrap_i64] at *; first | omega | (split <;> omega) | (split <;> (try split) <;> omega) | (exfalso; omega))
    | (simp only [Nat.reduceLT, if_true, Nat.add_zero, Nat.reduceAdd, ap_t10, ap_t20, ap_t21, ap_t30, ap_t31, ap_t32, ap_e10, ap_e20, ap_e21, ap_e30, ap_e31, ap_e32, Bool.and_eq_true, decide_eq_true_eq, Bool.not_eq_true', decide_eq_false_iff_not, bne_eq_false_iff_eq, List.getD_cons_zero, List.getD_cons_succ, IntKind.wrap_i64] at *; first | omega | (exfalso; omega) | (split <;> omega) | (split <;> (try split) <;> omega))
    | skip

end Go.Proofs.Ythfgojdpnbpjbaa
