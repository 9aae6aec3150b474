/-
  Layer 2: Sums, the law.
-/
import Derived.Test.YtglokmbhpmamcaaDoorHM
namespace Go.Proofs.YtglokmbhpmamcaaDoor
open Go.Ox
set_option maxRecDepth 100000
set_option maxHeartbeats 4000000
set_option linter.unusedVariables false
set_option linter.unusedSimpArgs false

theorem moreI_congr {s : Int} {f g : Nat → Int} {n : Nat} (h : ∀ d, d < n → f d = g d) : moreI s f n = moreI s g n := by
  unfold moreI moreW
  rw [runP_congr n fun i hi => by rw [h i hi]]

theorem ltF_lt {f : Nat → Int} {len d : Nat} (h : d < len) : ltF f len (0 + d) = f d := by
  rw [Nat.zero_add]; exact if_pos h

theorem ltF_mk {f : Nat → Int} {len : Nat} (k : Nat) (h : k < 5) {r : Nat} (hr : r = len + k) : ltF f len r = mkB k := by
  subst hr
  unfold ltF
  rw [if_neg (by omega), if_pos (by omega)]
  congr 1; omega

theorem wadd {len k : Nat} (h : len ≤ 5000) (hk : k ≤ 10) {x : Int} (hx : x = k) : IntKind.wrap .i64 ((len : Int) + x) = ((len + k : Nat) : Int) := by
  subst hx
  rw [IntWalk.i64_in _ (by omega)]; omega

theorem su_holds (s : Int) (n : Nat) (f : Nat → Int) (len cap : Nat) (h1 : len ≤ n) (hs : 0 ≤ s ∧ s < 4294967296) (hby : ∀ d, d < n → 0 ≤ f d ∧ f d < 256) :
    ((afn Tryd.prog (inlE Tryd.prog lwB lwL Tryd.f3 1) Tryd.f3 (codeOf Tryd.f3) [.int .u32 s, .sl 0 0 1 0 len cap] [some (cbV n f)]).bind fun r => .ret r.1).holds fun v => v.yes = true := by
  refine T.cut_eq (su_fn s n f len cap) ?_
  refine T.hiteP (fun _ => rfl) (fun hl => ?_)
  have hl : len ≤ 4096 := by omega
  have w0 := wadd (len := len) (k := 0) (x := 0) (by omega) (by omega) rfl
  have w1 := wadd (len := len) (k := 1) (x := IntKind.wrap .i64 (0 + 1)) (by omega) (by omega) (by decide)
  have w2 := wadd (len := len) (k := 2) (x := IntKind.wrap .i64 (IntKind.wrap .i64 (0 + 1) + 1)) (by omega) (by omega) (by decide)
  have w3 := wadd (len := len) (k := 3) (x := IntKind.wrap .i64 (IntKind.wrap .i64 (IntKind.wrap .i64 (0 + 1) + 1) + 1)) (by omega) (by omega) (by decide)
  have w4 := wadd (len := len) (k := 4) (x := IntKind.wrap .i64 (IntKind.wrap .i64 (IntKind.wrap .i64 (IntKind.wrap .i64 (0 + 1) + 1) + 1) + 1)) (by omega) (by omega) (by decide)
  have w5 := wadd (len := len) (k := 5) (x := 5) (by omega) (by omega) rfl
  rw [w0, w1, w2, w3, w4, w5]
  have hb : ∀ d, d < len → 0 ≤ f (0 + d) ∧ f (0 + d) < 256 := fun d hd => hby _ (by omega)
  have hq : eqN (fun i => ltF (fun d => f (0 + d)) len (0 + i)) (fun i => f (0 + i)) 0 len = true := eqN_all fun d hd => ltF_lt hd
  repeat' first | with_reducible refine T.hneed rfl ?_ | with_reducible refine T.hneed trivial ?_ | with_reducible refine T.hall (fun _ => ?_) | with_reducible refine T.hasmP (fun _ => ?_) | with_reducible refine T.hasm (fun _ => ?_) | with_reducible refine T.hchkT ?_ | with_reducible refine T.hiteP (fun _ => ?_) (fun _ => ?_) | with_reducible refine T.hiteE (fun _ => ?_) (fun _ => ?_) | with_reducible refine T.hiteN (fun _ => ?_) (fun _ => ?_) | with_reducible refine T.hiteFP (fun _ => ?_) (fun _ => ?_) | with_reducible refine T.hiteFE (fun _ => ?_) (fun _ => ?_) | with_reducible refine T.hite (fun _ => ?_) (fun _ => ?_) | with_reducible refine T.hchk ?_ ?_ | with_reducible refine T.hneed ?_ ?_ | with_reducible refine T.hret ?_
  all_goals first
    | rfl
    | exact IntRow.rows
    | exact hb
    | exact decide_eq_true (by omega)
    | (simp; omega)
    | (rw [Bool.and_eq_true, decide_eq_true_eq, decide_eq_true_eq]; omega)
    | (exfalso; rename_i h; exact h (moreI_congr fun d hd => ltF_lt hd))
    | (exfalso; rename_i h; exact h rfl)
    | (exfalso; rename_i h; exact h ((ltF_mk 0 (by omega) (by omega)).trans (by decide)))
    | (exfalso; rename_i h; exact h ((ltF_mk 1 (by omega) (by omega)).trans (by decide)))
    | (exfalso; rename_i h; exact h ((ltF_mk 2 (by omega) (by omega)).trans (by decide)))
    | (exfalso; rename_i h; exact h ((ltF_mk 3 (by omega) (by omega)).trans (by decide)))
    | (exfalso; rename_i h; exact h ((ltF_mk 4 (by omega) (by omega)).trans (by decide)))
    | (exfalso; rename_i h; rw [show Int.toNat (len : Int) = len from rfl, hq] at h; simp at h; done)
    | skip

theorem su_holds0 (s : Int) (hs : 0 ≤ s ∧ s < 4294967296) :
    ((afn Tryd.prog (inlE Tryd.prog lwB lwL Tryd.f3 0) Tryd.f3 (codeOf Tryd.f3) [.int .u32 s, .nils] []).bind fun r => .ret r.1).holds fun v => v.yes = true := by
  refine T.cut_eq (su_fn0 s) ?_
  repeat' first | with_reducible refine T.hneed rfl ?_ | with_reducible refine T.hneed trivial ?_ | with_reducible refine T.hall (fun _ => ?_) | with_reducible refine T.hasmP (fun _ => ?_) | with_reducible refine T.hasm (fun _ => ?_) | with_reducible refine T.hchkT ?_ | with_reducible refine T.hiteP (fun _ => ?_) (fun _ => ?_) | with_reducible refine T.hiteE (fun _ => ?_) (fun _ => ?_) | with_reducible refine T.hiteN (fun _ => ?_) (fun _ => ?_) | with_reducible refine T.hiteFP (fun _ => ?_) (fun _ => ?_) | with_reducible refine T.hiteFE (fun _ => ?_) (fun _ => ?_) | with_reducible refine T.hite (fun _ => ?_) (fun _ => ?_) | with_reducible refine T.hchk ?_ ?_ | with_reducible refine T.hneed ?_ ?_ | with_reducible refine T.hret ?_
  all_goals first
    | rfl
    | exact IntRow.rows
    | trivial
    | exact decide_eq_true (by omega)
    | (simp; omega)
    | (rw [Bool.and_eq_true, decide_eq_true_eq, decide_eq_true_eq]; omega)
    | (exfalso; rename_i h; exact h (moreI_congr fun d hd => absurd hd (Nat.not_lt_zero d)))
    | (intro d hd; exact absurd hd (Nat.not_lt_zero d))
    | (exfalso; rename_i h; exact h rfl)
    | (exfalso; rename_i h; exact absurd h (by decide))
    | skip

end Go.Proofs.YtglokmbhpmamcaaDoor
