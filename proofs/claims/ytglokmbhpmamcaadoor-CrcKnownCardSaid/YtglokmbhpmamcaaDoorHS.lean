/-
  Layer 2: Pieces, the law.
-/
import Derived.Test.YtglokmbhpmamcaaDoorHQ
import Derived.Test.YtglokmbhpmamcaaDoorHOxZ
namespace Go.Proofs.YtglokmbhpmamcaaDoor
open Go.Ox
set_option maxRecDepth 100000
set_option maxHeartbeats 4000000
set_option linter.unusedVariables false
set_option linter.unusedSimpArgs false

theorem pkV_nat (k : Int) (n : Nat) (h : 1 ≤ n) : ∃ a : Nat, pkV k (n : Int) = (a : Int) ∧ a < n := by
  unfold pkV
  rw [if_neg (by omega)]
  have p1 := Int.emod_nonneg k (show (n : Int) ≠ 0 by omega)
  have p2 := Int.emod_lt_of_pos k (show (0 : Int) < (n : Int) by omega)
  exact ⟨(k % (n : Int)).toNat, by omega, by omega⟩

theorem pi_holds (n : Nat) (f : Nat → Int) (len cap : Nat) (o t : Int) (h1 : len ≤ cap) (h2 : cap ≤ n) :
    ((afn Tryd.prog (inlE Tryd.prog lwB lwL Tryd.f4 1) Tryd.f4 (codeOf Tryd.f4) [.sl 0 0 1 0 len cap, .int .i64 o, .int .i64 t] [some (cbV n f)]).bind fun r => .ret r.1).holds fun v => v.yes = true := by
  refine T.cut_eq (pi_fn n f len cap o t) ?_
  refine T.hiteP (fun _ => rfl) (fun hl => ?_)
  have hl : len ≤ 65536 := by omega
  have w1 : IntKind.wrap .i64 ((len : Int) + 1) = ((len + 1 : Nat) : Int) := by rw [IntWalk.i64_in _ (by omega)]; omega
  rw [w1]
  obtain ⟨A, hA, hA1⟩ := pkV_nat o (len + 1) (by omega)
  rw [hA]
  have w2 : IntKind.wrap .i64 (((len + 1 : Nat) : Int) - (A : Int)) = ((len + 1 - A : Nat) : Int) := by rw [IntWalk.i64_in _ (by omega)]; omega
  rw [w2]
  obtain ⟨B, hB, hB1⟩ := pkV_nat t (len + 1 - A) (by omega)
  rw [hB]
  have w3 : IntKind.wrap .i64 ((A : Int) + (B : Int)) = ((A + B : Nat) : Int) := by rw [IntWalk.i64_in _ (by omega)]; omega
  rw [w3]
  clear hA hB w1 w2 w3
  have tA : Int.toNat (A : Int) = A := rfl
  have tB : Int.toNat ((A + B : Nat) : Int) = A + B := rfl
  rw [tA, tB]
  have p1 : ∀ (s : Int) (f g : Nat → Int) (a b c : Nat), c = a + b → (∀ d, d < b → g d = f (a + d)) → moreI (moreI s f a) g b = moreI s f c := moreI_add
  have p2 : ∀ (s : Int) (f : Nat → Int), 0 ≤ s ∧ s < 4294967296 → moreI s f 0 = s := fun s f h => moreI_zero h f
  have p3 : ∀ s f n, 0 ≤ moreI s f n ∧ moreI s f n < 4294967296 := moreI_lt
  clear tA tB
  revert p1 p2 p3
  generalize moreI = M
  intro p1 p2 p3
  have h2' : ∀ d, d < A + B - A → (fun i => f ((if A < A + B then 0 + A else if cap = A then 0 else 0 + A) + i)) d = (fun i => f (0 + i)) (A + d) := by
    intro d hd
    dsimp only
    rw [if_pos (by omega)]
    congr 1; omega
  have h3' : ∀ d, d < len - (A + B) → (fun i => f ((if A + B < len then 0 + (A + B) else if cap = A + B then 0 else 0 + (A + B)) + i)) d = (fun i => f (0 + i)) (A + B + d) := by
    intro d hd
    dsimp only
    rw [if_pos (by omega)]
    congr 1; omega
  have E := (congrArg (fun x => M x (fun i => f ((if A + B < len then 0 + (A + B) else if cap = A + B then 0 else 0 + (A + B)) + i)) (len - (A + B))) (p1 0 (fun i => f (0 + i)) _ A (A + B - A) (A + B) (by omega) h2')).trans (p1 0 (fun i => f (0 + i)) _ (A + B) (len - (A + B)) len (by omega) h3')
  repeat' first | with_reducible refine T.hneed rfl ?_ | with_reducible refine T.hneed trivial ?_ | with_reducible refine T.hall (fun _ => ?_) | with_reducible refine T.hasmP (fun _ => ?_) | with_reducible refine T.hasm (fun _ => ?_) | with_reducible refine T.hchkT ?_ | with_reducible refine T.hiteP (fun _ => ?_) (fun _ => ?_) | with_reducible refine T.hiteE (fun _ => ?_) (fun _ => ?_) | with_reducible refine T.hiteN (fun _ => ?_) (fun _ => ?_) | with_reducible refine T.hiteFP (fun _ => ?_) (fun _ => ?_) | with_reducible refine T.hiteFE (fun _ => ?_) (fun _ => ?_) | with_reducible refine T.hite (fun _ => ?_) (fun _ => ?_) | with_reducible refine T.hchk ?_ ?_ | with_reducible refine T.hneed ?_ ?_ | with_reducible refine T.hret ?_
  all_goals first
    | exact IntRow.rows
    | (simp only [Bool.and_eq_true, decide_eq_true_eq]; first | omega | exact p3 _ _ _ | (split <;> (try split) <;> omega))
    | trivial
    | exact (rfl : (AV.bool true).yes = true)
    | (exfalso; rename_i h; exact h E)
    | (exfalso; rename_i h; exact h E.symm)
    | (exfalso; rename_i h; exact h (p2 _ _ (p3 _ _ _)))
    | skip

theorem pi_holds0 (o t : Int) :
    ((afn Tryd.prog (inlE Tryd.prog lwB lwL Tryd.f4 0) Tryd.f4 (codeOf Tryd.f4) [.nils, .int .i64 o, .int .i64 t] []).bind fun r => .ret r.1).holds fun v => v.yes = true := by
  refine T.cut_eq (pi_fn0 o t) ?_
  have w1 : IntKind.wrap .i64 ((0 : Int) + 1) = ((1 : Nat) : Int) := by decide
  rw [w1]
  obtain ⟨A, hA, hA1⟩ := pkV_nat o 1 (by omega)
  obtain rfl : A = 0 := by omega
  rw [hA]
  have w2 : IntKind.wrap .i64 (((1 : Nat) : Int) - ((0 : Nat) : Int)) = ((1 : Nat) : Int) := by decide
  rw [w2]
  obtain ⟨B, hB, hB1⟩ := pkV_nat t 1 (by omega)
  obtain rfl : B = 0 := by omega
  rw [hB]
  have z := moreI_zero (s := 0) (by omega) (fun _ => 0)
  revert z
  generalize moreI = M
  intro z
  repeat' first | with_reducible refine T.hneed rfl ?_ | with_reducible refine T.hneed trivial ?_ | with_reducible refine T.hall (fun _ => ?_) | with_reducible refine T.hasmP (fun _ => ?_) | with_reducible refine T.hasm (fun _ => ?_) | with_reducible refine T.hchkT ?_ | with_reducible refine T.hiteP (fun _ => ?_) (fun _ => ?_) | with_reducible refine T.hiteE (fun _ => ?_) (fun _ => ?_) | with_reducible refine T.hiteN (fun _ => ?_) (fun _ => ?_) | with_reducible refine T.hiteFP (fun _ => ?_) (fun _ => ?_) | with_reducible refine T.hiteFE (fun _ => ?_) (fun _ => ?_) | with_reducible refine T.hite (fun _ => ?_) (fun _ => ?_) | with_reducible refine T.hchk ?_ ?_ | with_reducible refine T.hneed ?_ ?_ | with_reducible refine T.hret ?_
  all_goals first
    | rfl
    | exact IntRow.rows
    | trivial
    | (exfalso; rename_i h; exact absurd h (by decide))
    | (exfalso; rename_i h; exact h (by rw [z, z, z]))
    | (exfalso; rename_i h; exact h (by rw [z, z]))
    | (exfalso; rename_i h; exact h (by rw [z]))
    | skip

theorem pi_law : ∀ args m, ArgsAV [PK.one (CK.sl [CK.int IntKind.u8]), PK.one (CK.int IntKind.i64), PK.one (CK.int IntKind.i64)] [] args m → Walks Tryd.prog Tryd.f4 (codeOf Tryd.f4) args m := by
  intro args m h0
  rcases args_ints h0 with ⟨_, rfl, h⟩ | ⟨len, cap, z, _, rfl, hl, hc, hz, h⟩
  · obtain ⟨o, _, rfl, _, h1⟩ := args_int h
    obtain ⟨t, _, rfl, _, h2⟩ := args_int h1
    obtain ⟨rfl, rfl⟩ := args_nil h2
    exact inlE_walks (m := []) lwB_ok lwL_ok (by kernel_rfl) (pi_holds0 o t)
  · obtain ⟨o, _, rfl, _, h1⟩ := args_int h
    obtain ⟨t, _, rfl, _, h2⟩ := args_int h1
    obtain ⟨rfl, rfl⟩ := args_nil h2
    exact inlE_walks (m := [some (cbV cap z)]) lwB_ok lwL_ok (by kernel_rfl) (pi_holds cap z len cap o t hl (Nat.le_refl _))

end Go.Proofs.YtglokmbhpmamcaaDoor
