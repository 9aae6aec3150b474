/-
  Layer 13: Commits, the law.
-/
import Derived.Test.YthfgojdpnbpjbaaHO
namespace Go.Proofs.Ythfgojdpnbpjbaa
open Go.Ox
set_option maxRecDepth 100000
set_option maxHeartbeats 16000000
set_option linter.unusedVariables false
set_option linter.unusedSimpArgs false

theorem cm_holdsN (no : Int) : ((afn Try.prog cmN Try.f6 (codeOf Try.f6) [.nils, .int .i64 no] []).bind fun r => .ret r.1).holds fun v => v.yes = true := by
  refine T.cut_eq (cm_fnN no) ?_
  repeat' first | with_reducible refine T.hneed rfl ?_ | with_reducible refine T.hneed trivial ?_ | with_reducible refine T.hall (fun _ => ?_) | with_reducible refine T.hasmP (fun _ => ?_) | with_reducible refine T.hasm (fun _ => ?_) | with_reducible refine T.hchkT ?_ | with_reducible refine T.hiteP (fun _ => ?_) (fun _ => ?_) | with_reducible refine T.hiteE (fun _ => ?_) (fun _ => ?_) | with_reducible refine T.hiteN (fun _ => ?_) (fun _ => ?_) | with_reducible refine T.hiteFP (fun _ => ?_) (fun _ => ?_) | with_reducible refine T.hiteFE (fun _ => ?_) (fun _ => ?_) | with_reducible refine T.hite (fun _ => ?_) (fun _ => ?_) | with_reducible refine T.hchk ?_ ?_ | with_reducible refine T.hneed ?_ ?_ | with_reducible refine T.hret ?_
  all_goals first
    | exact (rfl : (AV.bool true).yes = true)
    | (simp only [Bool.and_eq_true, decide_eq_true_eq]; omega)
    | (exfalso; omega)
    | (simp only [Bool.and_eq_true, decide_eq_true_eq, Bool.not_eq_true', decide_eq_false_iff_not, bne_eq_false_iff_eq, List.getD_cons_zero, List.getD_cons_succ, IntKind.wrap_i64] at *; first | omega | (exfalso; omega))

theorem cm_law : ∀ args m, ArgsAV [PK.one (CK.sl [CK.int IntKind.i64, CK.int IntKind.i64]), PK.one (CK.int IntKind.i64)] [] args m → Walks Try.prog Try.f6 (codeOf Try.f6) args m := by
  intro args m h0
  rcases args_sl h0 with ⟨_, rfl, h⟩ | ⟨len, cap, g, _, rfl, hl, hc, hz, h⟩
  · obtain ⟨no, _, rfl, _, h⟩ := args_int h
    obtain ⟨rfl, rfl⟩ := args_nil h
    exact ⟨cmN, inl_ok knB_ok cmL cmL_ok, twoLoops (by kernel_rfl) (unroll_ok (E := cmN) (inl_ok knB_ok cmL cmL_ok) (cmE0 0) rfl rfl rfl 1 (noLoops (by kernel_rfl)) (by kernel_rfl)) (unroll_ok (E := cmN) (inl_ok knB_ok cmL cmL_ok) (cmE0 0) rfl rfl rfl 5 (noLoops (by kernel_rfl)) (by kernel_rfl)), rfl, rfl, by have := cm_holdsN no; rw [T.holds_bind] at this; exact this⟩
  · obtain ⟨no, _, rfl, _, h⟩ := args_int h
    obtain ⟨rfl, rfl⟩ := args_nil h
    exact ⟨cmE, inl_ok knB_ok cmL cmL_ok, twoLoops (by kernel_rfl) cm_loop (unroll_ok (E := cmE) (inl_ok knB_ok cmL cmL_ok) (cmE0 1) rfl rfl rfl 5 (noLoops (by kernel_rfl)) (by kernel_rfl)), rfl, rfl, by have := cm_holds (fun r => intV (g r 0)) (fun r => intV (g r 1)) len cap no hl; rw [T.holds_bind] at this; exact this⟩

end Go.Proofs.Ythfgojdpnbpjbaa
