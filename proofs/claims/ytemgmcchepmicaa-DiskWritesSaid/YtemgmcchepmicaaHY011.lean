/-
  Layer 15: Writes: a walk (gen.py).
-/
import Derived.Test.YtemgmcchepmicaaHZ011
namespace Go.Proofs.Ytemgmcchepmicaa
open Go.Ox
set_option maxRecDepth 100000
set_option maxHeartbeats 64000000
set_option linter.unusedVariables false
set_option linter.unusedSimpArgs false

theorem wr_holds011 (nf : Nat) (f : Nat → Int) (lf cf : Nat) (ng : Nat) (g : Nat → Int) (lg cg : Nat) (a n : Int) (ha : a % 2 = 0) (hf : lf ≤ nf) (hg : lg ≤ ng) (hn : -9223372036854775808 ≤ n ∧ n ≤ 9223372036854775807) : ((afn Try.prog (inlE Try.prog (wrB 0) wrL Try.f5 2) Try.f5 (codeOf Try.f5) [.sl 0 0 1 0 lf cf, .sl 1 0 1 0 lg cg, .int .i64 a, .int .i64 n] [some (byV nf f), some (byV ng g)]).bind fun r => .ret r.1).holds fun v => v.yes = true := by
  refine T.cut_eq (wr_fn011 nf f lf cf ng g lg cg a n) ?_
  try delta nuI
  try delta muI
  repeat' first | with_reducible refine T.hneed rfl ?_ | with_reducible refine T.hneed trivial ?_ | with_reducible refine T.hall (fun _ => ?_) | with_reducible refine T.hasmP (fun _ => ?_) | with_reducible refine T.hasm (fun _ => ?_) | with_reducible refine T.hchkT ?_ | with_reducible refine T.hiteP (fun _ => ?_) (fun _ => ?_) | with_reducible refine T.hiteE (fun _ => ?_) (fun _ => ?_) | with_reducible refine T.hiteN (fun _ => ?_) (fun _ => ?_) | with_reducible refine T.hiteFP (fun _ => ?_) (fun _ => ?_) | with_reducible refine T.hiteFE (fun _ => ?_) (fun _ => ?_) | with_reducible refine T.hite (fun _ => ?_) (fun _ => ?_) | with_reducible refine T.hchk ?_ ?_ | with_reducible refine T.hneed ?_ ?_ | with_reducible refine T.hret ?_
  all_goals first
    | exact (rfl : (AV.bool true).yes = true)
    | exact ha
    | exact IntRow.rows
    | (simp only [Bool.and_eq_true, decide_eq_true_eq]; omega)
    | (exfalso; omega)
    | exact ⟨rfl, rfl, rfl, fun j hj => absurd hj (Nat.not_lt_zero _)⟩
    | (refine rowJ fun j hj => ?_; (repeat' with_reducible refine isI_ite (fun _ => ?_) (fun _ => ?_)) <;> first | exact ⟨_, rfl⟩ | (exfalso; omega))
    | (exfalso; rename_i h; first | refine noE h rfl fun d hd => ?_ | refine noF h rfl fun d hd => ?_ | refine noG h rfl fun d hd => ?_)
    | (exfalso; rename_i h; simp only [IntKind.wrap_i64] at *; first | refine noE h (by omega) fun d hd => ?_ | refine noF h (by omega) fun d hd => ?_ | refine noG h (by omega) fun d hd => ?_)
    | (exfalso; rename_i h; simp only [IntKind.wrap_i64] at *; simp at h; omega)
    | (exfalso; rename_i h; simp at h; done)
    | (simp only [Bool.and_eq_true, decide_eq_true_eq, Bool.not_eq_true', decide_eq_false_iff_not, bne_eq_false_iff_eq, bne_iff_ne, IntKind.wrap_i64] at *; first | omega | (exfalso; omega))
    | skip
  all_goals (try simp only [intAt_hd, Blk.rows, vecRows, hdI_ite, hdI_int, hdI_cells])
  all_goals (try (rcases Nat.lt_or_ge d lf with hdl | hdl))
  all_goals (try (repeat first | rfl | rw [if_pos (by omega)] | rw [if_neg (by omega)]))
  all_goals (try (congr 1; omega))

end Go.Proofs.Ytemgmcchepmicaa
