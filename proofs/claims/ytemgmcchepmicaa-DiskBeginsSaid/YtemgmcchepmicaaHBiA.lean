/-
  Layer 15: Begins: tails.
-/
import Derived.Test.YtemgmcchepmicaaHBhA
namespace Go.Proofs.Ytemgmcchepmicaa
open Go.Ox

set_option maxRecDepth 100000
set_option maxHeartbeats 16000000
set_option linter.unusedVariables false
set_option linter.unusedSimpArgs false

theorem db_hNN (M : Int) (n0 m0 c0 b0 s0 z0 x0 : Nat) (f0 : Nat → Int) (n1 m1 c1 b1 s1 z1 x1 : Nat) (f1 : Nat → Int) (hM : 0 ≤ M)   {Q : Ex × St → Prop} (hR : Q (.ret, ⟨[(4, .bool true)], [none, none]⟩)) {C : List Code} (hC : C = (chainOf (codeOf Try.f4)).drop 13) :
    AWpL Try.prog dbF C ⟨[(5, .ptr 2 0 0 0), (7, .ptr 3 0 0 0), (11, .nils), (12, .nils), (13, .nils), (14, .nils), (15, .int .i64 M)], [none, none, some (skB [.nils, .int .i64 0, .nils, .int .i64 0, .int .i64 1000]), some (skB [.int .i64 0, .int .i64 0])]⟩ Q := by
  refine awpl_end (E := dbF) dbF_ok (by rw [hC]; exact noLoopsL_ok (by kernel_rfl)) (weak_keep [4] ?_)
  have hwz : IntKind.wrap IntKind.i64 ((0 : Int) - (0 : Int)) = 0 := by decide
  have e := db_fNN M n0 m0 c0 b0 s0 z0 x0 f0 n1 m1 c1 b1 s1 z1 x1 f1
  rw [← hC] at e
  refine T.cut_eq e ?_
  refine T.hchkT ?_
  refine T.hchkT ?_
  refine T.hneed ?_ ?_
  · trivial
  refine T.hneed ?_ ?_
  · trivial
  refine T.hchkT ?_
  refine T.hchkT ?_
  refine T.hchkT ?_
  refine T.hchkT ?_
  refine T.hneed ?_ ?_
  · (intro d hd; exact absurd hd (Nat.not_lt_zero d))
  refine T.hchkT ?_
  refine T.hchkT ?_
  refine T.hchkT ?_
  refine T.hneed ?_ ?_
  · trivial
  refine T.hneed ?_ ?_
  · trivial
  refine T.hchkT ?_
  refine T.hchkT ?_
  refine T.hchkT ?_
  refine T.hchkT ?_
  refine T.hneed ?_ ?_
  · (intro d hd; exact absurd hd (Nat.not_lt_zero d))
  refine T.hchkT ?_
  refine T.hchkT ?_
  refine T.hchkT ?_
  refine T.hchkT ?_
  refine T.hchkT ?_
  refine T.hchkT ?_
  refine T.hiteP (fun g1 => ?_) (fun g1 => ?_)
  · skip
    exfalso; omega
  · skip
    refine T.hchkT ?_
    refine T.hchk ?_ ?_
    · first | rfl | decide | (simp only [Bool.and_eq_true, decide_eq_true_eq]; omega) | (simp only [Bool.not_eq_true', decide_eq_false_iff_not]; omega)
    refine T.hchkT ?_
    refine T.hchkT ?_
    refine T.hchkT ?_
    refine T.hchkT ?_
    refine T.hchkT ?_
    refine T.hchkT ?_
    refine T.hchkT ?_
    refine T.hchkT ?_
    refine T.hchkT ?_
    refine T.hchkT ?_
    refine T.hneed ?_ ?_
    · trivial
    refine T.hneed ?_ ?_
    · trivial
    refine T.hchkT ?_
    refine T.hchkT ?_
    refine T.hchkT ?_
    refine T.hchkT ?_
    refine T.hneed ?_ ?_
    · (intro d hd; exact absurd hd (Nat.not_lt_zero d))
    refine T.hchkT ?_
    refine T.hchkT ?_
    refine T.hchkT ?_
    refine T.hchkT ?_
    refine T.hneed ?_ ?_
    · trivial
    refine T.hneed ?_ ?_
    · trivial
    refine T.hchkT ?_
    refine T.hchkT ?_
    refine T.hchkT ?_
    refine T.hchkT ?_
    refine T.hneed ?_ ?_
    · (intro d hd; exact absurd hd (Nat.not_lt_zero d))
    refine T.hchkT ?_
    refine T.hret ?_
    exact ⟨id, ⟨[(4, .bool true)], [none, none]⟩, SubSt.mk (by simp [SubFr, slotAt, ren, below]) (Sub.nothing (n := 2) _), hR⟩

theorem db_hN0 (M : Int) (n0 m0 c0 b0 s0 z0 x0 : Nat) (f0 : Nat → Int) (n1 m1 c1 b1 s1 z1 x1 : Nat) (f1 : Nat → Int) (hM : 0 ≤ M)  (h1 : s1 = 0 ∧ c1 ≤ b1) {Q : Ex × St → Prop} (hR : Q (.ret, ⟨[(4, .bool true)], [none, none]⟩)) {C : List Code} (hC : C = (chainOf (codeOf Try.f4)).drop 13) :
    AWpL Try.prog dbF C ⟨[(5, .ptr 2 0 0 0), (7, .ptr 3 0 0 0), (11, .nils), (12, .nils), (13, .nils), (14, .nils), (15, .int .i64 M)], [none, none, some (skB [.nils, .int .i64 0, .sl 4 0 1 0 0 c1, .int .i64 0, .int .i64 1000]), some (skB [.int .i64 0, .int .i64 s1]), some (bytB b1 f1)]⟩ Q := by
  refine awpl_end (E := dbF) dbF_ok (by rw [hC]; exact noLoopsL_ok (by kernel_rfl)) (weak_keep [4] ?_)
  have hw1 : IntKind.wrap IntKind.i64 ((0 : Int) - (↑s1 : Int)) = (0 : Int) - (↑s1 : Int) := IntWalk.i64_in _ (by omega)
  have hwz : IntKind.wrap IntKind.i64 ((0 : Int) - (0 : Int)) = 0 := by decide
  have e := db_fN0 M n0 m0 c0 b0 s0 z0 x0 f0 n1 m1 c1 b1 s1 z1 x1 f1
  rw [← hC] at e
  refine T.cut_eq e ?_
  refine T.hchkT ?_
  refine T.hchkT ?_
  refine T.hneed ?_ ?_
  · trivial
  refine T.hneed ?_ ?_
  · trivial
  refine T.hchkT ?_
  refine T.hchkT ?_
  refine T.hchkT ?_
  refine T.hchkT ?_
  refine T.hneed ?_ ?_
  · (intro d hd; exact absurd hd (Nat.not_lt_zero d))
  refine T.hchkT ?_
  refine T.hchkT ?_
  refine T.hchkT ?_
  refine T.hneed ?_ ?_
  · trivial
  refine T.hneed ?_ ?_
  · trivial
  refine T.hchkT ?_
  refine T.hchkT ?_
  refine T.hchkT ?_
  refine T.hchkT ?_
  refine T.hneed ?_ ?_
  · (intro d hd; exact absurd hd (Nat.not_lt_zero d))
  refine T.hchkT ?_
  refine T.hchkT ?_
  refine T.hchkT ?_
  refine T.hchkT ?_
  refine T.hiteP (fun g1 => ?_) (fun g1 => ?_)
  · skip
    exfalso; omega
  · skip
    refine T.hchkT ?_
    refine T.hiteP (fun g2 => ?_) (fun g2 => ?_)
    · skip
      exfalso; omega
    · skip
      refine T.hchkT ?_
      refine T.hiteP (fun g3 => ?_) (fun g3 => ?_)
      · skip
        exfalso; omega
      · skip
        refine T.hchkT ?_
        refine T.hchkT ?_
        refine T.hchkT ?_
        refine T.hchkT ?_
        refine T.hchkT ?_
        refine T.hchkT ?_
        refine T.hchkT ?_
        refine T.hchkT ?_
        refine T.hchkT ?_
        refine T.hchkT ?_
        refine T.hneed ?_ ?_
        · trivial
        refine T.hneed ?_ ?_
        · trivial
        refine T.hchkT ?_
        refine T.hchkT ?_
        refine T.hchkT ?_
        refine T.hchkT ?_
        refine T.hneed ?_ ?_
        · (intro d hd; exact absurd hd (Nat.not_lt_zero d))
        refine T.hchkT ?_
        refine T.hchkT ?_
        refine T.hchkT ?_
        refine T.hchkT ?_
        refine T.hchkT ?_
        refine T.hchkT ?_
        refine T.hneed ?_ ?_
        · trivial
        refine T.hneed ?_ ?_
        · trivial
        refine T.hchkT ?_
        refine T.hchkT ?_
        refine T.hchkT ?_
        refine T.hchkT ?_
        refine T.hneed ?_ ?_
        · (intro d hd; exact absurd hd (Nat.not_lt_zero d))
        refine T.hchkT ?_
        refine T.hret ?_
        exact ⟨id, ⟨[(4, .bool true)], [none, none]⟩, SubSt.mk (by simp [SubFr, slotAt, ren, below]) (Sub.nothing (n := 2) _), hR⟩

theorem db_hN1 (M : Int) (n0 m0 c0 b0 s0 z0 x0 : Nat) (f0 : Nat → Int) (n1 m1 c1 b1 s1 z1 x1 : Nat) (f1 : Nat → Int) (hM : 0 ≤ M)  (h1 : s1 = 0 ∧ c1 ≤ b1 ∧ n1 ≤ z1 ∧ 0 < n1 ∧ n1 ≤ 1000) {Q : Ex × St → Prop} (hR : Q (.ret, ⟨[(4, .bool true)], [none, none]⟩)) {C : List Code} (hC : C = (chainOf (codeOf Try.f4)).drop 13) :
    AWpL Try.prog dbF C ⟨[(5, .ptr 2 0 0 0), (7, .ptr 3 0 0 0), (11, .nils), (12, .sl 5 0 1 0 n1 z1), (13, .nils), (14, .nils), (15, .int .i64 M)], [none, none, some (skB [.nils, .int .i64 0, .sl 4 0 1 0 0 c1, .int .i64 0, .int .i64 1000]), some (skB [.int .i64 0, .int .i64 s1]), some (bytB b1 f1), some (bytB z1 (clB f1 n1))]⟩ Q := by
  refine awpl_end (E := dbF) dbF_ok (by rw [hC]; exact noLoopsL_ok (by kernel_rfl)) (weak_keep [4] ?_)
  have hw1 : IntKind.wrap IntKind.i64 ((0 : Int) - (↑s1 : Int)) = (0 : Int) - (↑s1 : Int) := IntWalk.i64_in _ (by omega)
  have hwz : IntKind.wrap IntKind.i64 ((0 : Int) - (0 : Int)) = 0 := by decide
  have e := db_fN1 M n0 m0 c0 b0 s0 z0 x0 f0 n1 m1 c1 b1 s1 z1 x1 f1
  rw [← hC] at e
  refine T.cut_eq e ?_
  refine T.hchkT ?_
  refine T.hchkT ?_
  refine T.hneed ?_ ?_
  · trivial
  refine T.hneed ?_ ?_
  · trivial
  refine T.hchkT ?_
  refine T.hchkT ?_
  refine T.hchkT ?_
  refine T.hchkT ?_
  refine T.hneed ?_ ?_
  · (intro d hd; exact absurd hd (Nat.not_lt_zero d))
  refine T.hchkT ?_
  refine T.hchkT ?_
  refine T.hchkT ?_
  refine T.hneed ?_ ?_
  · trivial
  refine T.hneed ?_ ?_
  · exact rowJ (fun r => by first | exact ⟨_, rfl⟩ | exact ⟨_, row_cl _ _ r⟩)
  refine T.hchkT ?_
  refine T.hchkT ?_
  refine T.hchkT ?_
  refine T.hchkT ?_
  refine T.hneed ?_ ?_
  · (intro d hd; exact absurd hd (Nat.not_lt_zero d))
  refine T.hchkT ?_
  refine T.hchkT ?_
  refine T.hchkT ?_
  refine T.hchkT ?_
  refine T.hiteP (fun g1 => ?_) (fun g1 => ?_)
  · skip
    exfalso; omega
  · skip
    refine T.hchkT ?_
    refine T.hiteP (fun g2 => ?_) (fun g2 => ?_)
    · skip
      exfalso; omega
    · skip
      refine T.hchkT ?_
      refine T.hiteP (fun g3 => ?_) (fun g3 => ?_)
      · skip
        exfalso; omega
      · skip
        refine T.hchkT ?_
        refine T.hchkT ?_
        refine T.hchkT ?_
        refine T.hchkT ?_
        refine T.hchkT ?_
        refine T.hchkT ?_
        refine T.hchkT ?_
        refine T.hchkT ?_
        refine T.hchkT ?_
        refine T.hchkT ?_
        refine T.hneed ?_ ?_
        · trivial
        refine T.hneed ?_ ?_
        · trivial
        refine T.hchkT ?_
        refine T.hchkT ?_
        refine T.hchkT ?_
        refine T.hchkT ?_
        refine T.hneed ?_ ?_
        · (intro d hd; exact absurd hd (Nat.not_lt_zero d))
        refine T.hchkT ?_
        refine T.hchkT ?_
        refine T.hchkT ?_
        refine T.hchkT ?_
        refine T.hchkT ?_
        refine T.hchkT ?_
        refine T.hneed ?_ ?_
        · trivial
        refine T.hneed ?_ ?_
        · trivial
        refine T.hchkT ?_
        refine T.hchkT ?_
        refine T.hchkT ?_
        refine T.hchkT ?_
        refine T.hneed ?_ ?_
        · (intro d hd; exact absurd hd (Nat.not_lt_zero d))
        refine T.hchkT ?_
        refine T.hret ?_
        exact ⟨id, ⟨[(4, .bool true)], [none, none]⟩, SubSt.mk (by simp [SubFr, slotAt, ren, below]) (Sub.nothing (n := 2) _), hR⟩

theorem db_hN2 (M : Int) (n0 m0 c0 b0 s0 z0 x0 : Nat) (f0 : Nat → Int) (n1 m1 c1 b1 s1 z1 x1 : Nat) (f1 : Nat → Int) (hM : 0 ≤ M)  (h1 : s1 ≤ m1 ∧ 0 < m1 ∧ m1 ≤ n1 ∧ n1 ≤ 1000 ∧ m1 ≤ x1 ∧ n1 ≤ z1 ∧ m1 ≤ c1 ∧ c1 ≤ b1 ∧ (m1 : Int) - s1 ≤ M) {Q : Ex × St → Prop} (hR : Q (.ret, ⟨[(4, .bool true)], [none, none]⟩)) {C : List Code} (hC : C = (chainOf (codeOf Try.f4)).drop 13) :
    AWpL Try.prog dbF C ⟨[(5, .ptr 2 0 0 0), (7, .ptr 3 0 0 0), (11, .nils), (12, .sl 5 0 1 0 n1 z1), (13, .nils), (14, .sl 6 0 1 0 m1 x1), (15, .int .i64 M)], [none, none, some (skB [.nils, .int .i64 0, .sl 4 0 1 0 m1 c1, .int .i64 m1, .int .i64 1000]), some (skB [.int .i64 0, .int .i64 s1]), some (bytB b1 f1), some (bytB z1 (clB f1 n1)), some (bytB x1 (clB f1 m1))]⟩ Q := by
  refine awpl_end (E := dbF) dbF_ok (by rw [hC]; exact noLoopsL_ok (by kernel_rfl)) (weak_keep [4] ?_)
  have hk1 := kp_bd (Nat.le_refl m1) (show m1 ≤ 1000 by omega) 0
  have hz1 : mx0 0 = 0 := rfl
  have hw1 : IntKind.wrap IntKind.i64 ((↑m1 : Int) - (↑s1 : Int)) = (↑m1 : Int) - (↑s1 : Int) := IntWalk.i64_in _ (by omega)
  have hwz : IntKind.wrap IntKind.i64 ((0 : Int) - (0 : Int)) = 0 := by decide
  have e := db_fN2 M n0 m0 c0 b0 s0 z0 x0 f0 n1 m1 c1 b1 s1 z1 x1 f1
  rw [← hC] at e
  refine T.cut_eq e ?_
  refine T.hchkT ?_
  refine T.hchkT ?_
  refine T.hneed ?_ ?_
  · trivial
  refine T.hneed ?_ ?_
  · trivial
  refine T.hchkT ?_
  refine T.hchkT ?_
  refine T.hchkT ?_
  refine T.hchkT ?_
  refine T.hneed ?_ ?_
  · (intro d hd; exact absurd hd (Nat.not_lt_zero d))
  refine T.hchkT ?_
  refine T.hiteP (fun g1 => ?_) (fun g1 => ?_)
  · skip
    refine T.hchk ?_ ?_
    · first | rfl | decide | (simp only [Bool.and_eq_true, decide_eq_true_eq]; omega) | (simp only [Bool.not_eq_true', decide_eq_false_iff_not]; omega)
    refine T.hneed ?_ ?_
    · exact rowJ (fun r => by first | exact ⟨_, rfl⟩ | exact ⟨_, row_cl _ _ r⟩)
    refine T.hneed ?_ ?_
    · exact rowJ (fun r => by first | exact ⟨_, rfl⟩ | exact ⟨_, row_cl _ _ r⟩)
    refine T.hchk ?_ ?_
    · exact decide_eq_true (by omega)
    refine T.hchk ?_ ?_
    · exact decide_eq_true (by omega)
    refine T.hchk ?_ ?_
    · exact decide_eq_true (by omega)
    refine T.hchk ?_ ?_
    · exact decide_eq_true (by omega)
    refine T.hneed ?_ ?_
    · (intro d hd; dsimp only at hd ⊢; rw [intAt_hd, intAt_hd]; show clB _ _ _ = clB _ _ _; rw [cl_lt (by omega), cl_lt (by omega)])
    refine T.hchkT ?_
    refine T.hchkT ?_
    refine T.hchkT ?_
    refine T.hchkT ?_
    refine T.hiteP (fun g2 => ?_) (fun g2 => ?_)
    · skip
      exfalso; omega
    · skip
      refine T.hchkT ?_
      refine T.hiteP (fun g3 => ?_) (fun g3 => ?_)
      · skip
        exfalso; omega
      · skip
        refine T.hchkT ?_
        refine T.hiteP (fun g4 => ?_) (fun g4 => ?_)
        · skip
          exfalso; omega
        · skip
          refine T.hchkT ?_
          refine T.hchkT ?_
          refine T.hchkT ?_
          refine T.hchkT ?_
          refine T.hchkT ?_
          refine T.hchk ?_ ?_
          · first | rfl | decide | (simp only [Bool.and_eq_true, decide_eq_true_eq]; omega) | (simp only [Bool.not_eq_true', decide_eq_false_iff_not]; omega)
          refine T.hchkT ?_
          refine T.hchkT ?_
          refine T.hchkT ?_
          refine T.hchkT ?_
          refine T.hneed ?_ ?_
          · trivial
          refine T.hneed ?_ ?_
          · trivial
          refine T.hchkT ?_
          refine T.hchkT ?_
          refine T.hchkT ?_
          refine T.hchkT ?_
          refine T.hneed ?_ ?_
          · (intro d hd; exact absurd hd (Nat.not_lt_zero d))
          refine T.hchkT ?_
          refine T.hchkT ?_
          refine T.hchkT ?_
          refine T.hchkT ?_
          refine T.hchk ?_ ?_
          · exact decide_eq_true (by omega)
          refine T.hiteP (fun g5 => ?_) (fun g5 => ?_)
          · skip
            exfalso; omega
          · skip
            refine T.hchk ?_ ?_
            · exact decide_eq_true (by omega)
            refine T.hall (fun c => ?_)
            refine T.hasmP (fun g6 => ?_)
            refine T.hneed ?_ ?_
            · exact rowJ (fun r => by first | exact ⟨_, rfl⟩ | exact ⟨_, row_cl _ _ r⟩)
            refine T.hneed ?_ ?_
            · exact rowJ (fun r => by first | exact ⟨_, rfl⟩ | exact ⟨_, row_cl _ _ r⟩)
            refine T.hchk ?_ ?_
            · exact decide_eq_true (by omega)
            refine T.hchk ?_ ?_
            · exact decide_eq_true (by omega)
            refine T.hchk ?_ ?_
            · exact decide_eq_true (by omega)
            refine T.hchk ?_ ?_
            · exact decide_eq_true (by omega)
            refine T.hneed ?_ ?_
            · (intro d hd; dsimp only at hd ⊢; rw [intAt_hd, intAt_hd]; dsimp only [Blk.rows, bytB]; rw [if_neg (by omega), if_pos (by omega)]; show _ = clB _ _ _; rw [cl_lt (by omega)]; first | exact congrArg f0 (show _ = _ by omega) | exact congrArg f1 (show _ = _ by omega))
            refine T.hchkT ?_
            refine T.hret ?_
            exact ⟨id, ⟨[(4, .bool true)], [none, none]⟩, SubSt.mk (by simp [SubFr, slotAt, ren, below]) (Sub.nothing (n := 2) _), hR⟩
  · skip
    exfalso; omega



set_option maxRecDepth 100000
set_option maxHeartbeats 16000000
set_option linter.unusedVariables false
set_option linter.unusedSimpArgs false

theorem db_h0N (M : Int) (n0 m0 c0 b0 s0 z0 x0 : Nat) (f0 : Nat → Int) (n1 m1 c1 b1 s1 z1 x1 : Nat) (f1 : Nat → Int) (hM : 0 ≤ M) (h0 : s0 = 0 ∧ c0 ≤ b0)  {Q : Ex × St → Prop} (hR : Q (.ret, ⟨[(4, .bool true)], [none, none]⟩)) {C : List Code} (hC : C = (chainOf (codeOf Try.f4)).drop 13) :
    AWpL Try.prog dbF C ⟨[(5, .ptr 2 0 0 0), (7, .ptr 3 0 0 0), (11, .nils), (12, .nils), (13, .nils), (14, .nils), (15, .int .i64 M)], [none, none, some (skB [.sl 4 0 1 0 0 c0, .int .i64 0, .nils, .int .i64 0, .int .i64 1000]), some (skB [.int .i64 s0, .int .i64 0]), some (bytB b0 f0)]⟩ Q := by
  refine awpl_end (E := dbF) dbF_ok (by rw [hC]; exact noLoopsL_ok (by kernel_rfl)) (weak_keep [4] ?_)
  have hw0 : IntKind.wrap IntKind.i64 ((0 : Int) - (↑s0 : Int)) = (0 : Int) - (↑s0 : Int) := IntWalk.i64_in _ (by omega)
  have hwz : IntKind.wrap IntKind.i64 ((0 : Int) - (0 : Int)) = 0 := by decide
  have e := db_f0N M n0 m0 c0 b0 s0 z0 x0 f0 n1 m1 c1 b1 s1 z1 x1 f1
  rw [← hC] at e
  refine T.cut_eq e ?_
  refine T.hchkT ?_
  refine T.hchkT ?_
  refine T.hneed ?_ ?_
  · trivial
  refine T.hneed ?_ ?_
  · trivial
  refine T.hchkT ?_
  refine T.hchkT ?_
  refine T.hchkT ?_
  refine T.hchkT ?_
  refine T.hneed ?_ ?_
  · (intro d hd; exact absurd hd (Nat.not_lt_zero d))
  refine T.hchkT ?_
  refine T.hchkT ?_
  refine T.hchkT ?_
  refine T.hneed ?_ ?_
  · trivial
  refine T.hneed ?_ ?_
  · trivial
  refine T.hchkT ?_
  refine T.hchkT ?_
  refine T.hchkT ?_
  refine T.hchkT ?_
  refine T.hneed ?_ ?_
  · (intro d hd; exact absurd hd (Nat.not_lt_zero d))
  refine T.hchkT ?_
  refine T.hchkT ?_
  refine T.hiteP (fun g1 => ?_) (fun g1 => ?_)
  · skip
    exfalso; omega
  · skip
    refine T.hchkT ?_
    refine T.hchkT ?_
    refine T.hchkT ?_
    refine T.hiteP (fun g2 => ?_) (fun g2 => ?_)
    · skip
      exfalso; omega
    · skip
      refine T.hchkT ?_
      refine T.hiteP (fun g3 => ?_) (fun g3 => ?_)
      · skip
        exfalso; omega
      · skip
        refine T.hchkT ?_
        refine T.hchkT ?_
        refine T.hchkT ?_
        refine T.hchkT ?_
        refine T.hchkT ?_
        refine T.hchkT ?_
        refine T.hchkT ?_
        refine T.hchkT ?_
        refine T.hchkT ?_
        refine T.hchkT ?_
        refine T.hchkT ?_
        refine T.hchkT ?_
        refine T.hneed ?_ ?_
        · trivial
        refine T.hneed ?_ ?_
        · trivial
        refine T.hchkT ?_
        refine T.hchkT ?_
        refine T.hchkT ?_
        refine T.hchkT ?_
        refine T.hneed ?_ ?_
        · (intro d hd; exact absurd hd (Nat.not_lt_zero d))
        refine T.hchkT ?_
        refine T.hchkT ?_
        refine T.hchkT ?_
        refine T.hchkT ?_
        refine T.hneed ?_ ?_
        · trivial
        refine T.hneed ?_ ?_
        · trivial
        refine T.hchkT ?_
        refine T.hchkT ?_
        refine T.hchkT ?_
        refine T.hchkT ?_
        refine T.hneed ?_ ?_
        · (intro d hd; exact absurd hd (Nat.not_lt_zero d))
        refine T.hchkT ?_
        refine T.hret ?_
        exact ⟨id, ⟨[(4, .bool true)], [none, none]⟩, SubSt.mk (by simp [SubFr, slotAt, ren, below]) (Sub.nothing (n := 2) _), hR⟩

theorem db_h00 (M : Int) (n0 m0 c0 b0 s0 z0 x0 : Nat) (f0 : Nat → Int) (n1 m1 c1 b1 s1 z1 x1 : Nat) (f1 : Nat → Int) (hM : 0 ≤ M) (h0 : s0 = 0 ∧ c0 ≤ b0) (h1 : s1 = 0 ∧ c1 ≤ b1) {Q : Ex × St → Prop} (hR : Q (.ret, ⟨[(4, .bool true)], [none, none]⟩)) {C : List Code} (hC : C = (chainOf (codeOf Try.f4)).drop 13) :
    AWpL Try.prog dbF C ⟨[(5, .ptr 2 0 0 0), (7, .ptr 3 0 0 0), (11, .nils), (12, .nils), (13, .nils), (14, .nils), (15, .int .i64 M)], [none, none, some (skB [.sl 4 0 1 0 0 c0, .int .i64 0, .sl 5 0 1 0 0 c1, .int .i64 0, .int .i64 1000]), some (skB [.int .i64 s0, .int .i64 s1]), some (bytB b0 f0), some (bytB b1 f1)]⟩ Q := by
  refine awpl_end (E := dbF) dbF_ok (by rw [hC]; exact noLoopsL_ok (by kernel_rfl)) (weak_keep [4] ?_)
  have hw0 : IntKind.wrap IntKind.i64 ((0 : Int) - (↑s0 : Int)) = (0 : Int) - (↑s0 : Int) := IntWalk.i64_in _ (by omega)
  have hw1 : IntKind.wrap IntKind.i64 ((0 : Int) - (↑s1 : Int)) = (0 : Int) - (↑s1 : Int) := IntWalk.i64_in _ (by omega)
  have hwz : IntKind.wrap IntKind.i64 ((0 : Int) - (0 : Int)) = 0 := by decide
  have e := db_f00 M n0 m0 c0 b0 s0 z0 x0 f0 n1 m1 c1 b1 s1 z1 x1 f1
  rw [← hC] at e
  refine T.cut_eq e ?_
  refine T.hchkT ?_
  refine T.hchkT ?_
  refine T.hneed ?_ ?_
  · trivial
  refine T.hneed ?_ ?_
  · trivial
  refine T.hchkT ?_
  refine T.hchkT ?_
  refine T.hchkT ?_
  refine T.hchkT ?_
  refine T.hneed ?_ ?_
  · (intro d hd; exact absurd hd (Nat.not_lt_zero d))
  refine T.hchkT ?_
  refine T.hchkT ?_
  refine T.hchkT ?_
  refine T.hneed ?_ ?_
  · trivial
  refine T.hneed ?_ ?_
  · trivial
  refine T.hchkT ?_
  refine T.hchkT ?_
  refine T.hchkT ?_
  refine T.hchkT ?_
  refine T.hneed ?_ ?_
  · (intro d hd; exact absurd hd (Nat.not_lt_zero d))
  refine T.hchkT ?_
  refine T.hchkT ?_
  refine T.hiteP (fun g1 => ?_) (fun g1 => ?_)
  · skip
    exfalso; omega
  · skip
    refine T.hchkT ?_
    refine T.hiteP (fun g2 => ?_) (fun g2 => ?_)
    · skip
      exfalso; omega
    · skip
      refine T.hchkT ?_
      refine T.hiteP (fun g3 => ?_) (fun g3 => ?_)
      · skip
        exfalso; omega
      · skip
        refine T.hchkT ?_
        refine T.hiteP (fun g4 => ?_) (fun g4 => ?_)
        · skip
          exfalso; omega
        · skip
          refine T.hchkT ?_
          refine T.hchkT ?_
          refine T.hchkT ?_
          refine T.hchkT ?_
          refine T.hchkT ?_
          refine T.hchkT ?_
          refine T.hchkT ?_
          refine T.hchkT ?_
          refine T.hchkT ?_
          refine T.hchkT ?_
          refine T.hchkT ?_
          refine T.hchkT ?_
          refine T.hneed ?_ ?_
          · trivial
          refine T.hneed ?_ ?_
          · trivial
          refine T.hchkT ?_
          refine T.hchkT ?_
          refine T.hchkT ?_
          refine T.hchkT ?_
          refine T.hneed ?_ ?_
          · (intro d hd; exact absurd hd (Nat.not_lt_zero d))
          refine T.hchkT ?_
          refine T.hchkT ?_
          refine T.hchkT ?_
          refine T.hchkT ?_
          refine T.hchkT ?_
          refine T.hchkT ?_
          refine T.hneed ?_ ?_
          · trivial
          refine T.hneed ?_ ?_
          · trivial
          refine T.hchkT ?_
          refine T.hchkT ?_
          refine T.hchkT ?_
          refine T.hchkT ?_
          refine T.hneed ?_ ?_
          · (intro d hd; exact absurd hd (Nat.not_lt_zero d))
          refine T.hchkT ?_
          refine T.hret ?_
          exact ⟨id, ⟨[(4, .bool true)], [none, none]⟩, SubSt.mk (by simp [SubFr, slotAt, ren, below]) (Sub.nothing (n := 2) _), hR⟩

theorem db_h01 (M : Int) (n0 m0 c0 b0 s0 z0 x0 : Nat) (f0 : Nat → Int) (n1 m1 c1 b1 s1 z1 x1 : Nat) (f1 : Nat → Int) (hM : 0 ≤ M) (h0 : s0 = 0 ∧ c0 ≤ b0) (h1 : s1 = 0 ∧ c1 ≤ b1 ∧ n1 ≤ z1 ∧ 0 < n1 ∧ n1 ≤ 1000) {Q : Ex × St → Prop} (hR : Q (.ret, ⟨[(4, .bool true)], [none, none]⟩)) {C : List Code} (hC : C = (chainOf (codeOf Try.f4)).drop 13) :
    AWpL Try.prog dbF C ⟨[(5, .ptr 2 0 0 0), (7, .ptr 3 0 0 0), (11, .nils), (12, .sl 6 0 1 0 n1 z1), (13, .nils), (14, .nils), (15, .int .i64 M)], [none, none, some (skB [.sl 4 0 1 0 0 c0, .int .i64 0, .sl 5 0 1 0 0 c1, .int .i64 0, .int .i64 1000]), some (skB [.int .i64 s0, .int .i64 s1]), some (bytB b0 f0), some (bytB b1 f1), some (bytB z1 (clB f1 n1))]⟩ Q := by
  refine awpl_end (E := dbF) dbF_ok (by rw [hC]; exact noLoopsL_ok (by kernel_rfl)) (weak_keep [4] ?_)
  have hw0 : IntKind.wrap IntKind.i64 ((0 : Int) - (↑s0 : Int)) = (0 : Int) - (↑s0 : Int) := IntWalk.i64_in _ (by omega)
  have hw1 : IntKind.wrap IntKind.i64 ((0 : Int) - (↑s1 : Int)) = (0 : Int) - (↑s1 : Int) := IntWalk.i64_in _ (by omega)
  have hwz : IntKind.wrap IntKind.i64 ((0 : Int) - (0 : Int)) = 0 := by decide
  have e := db_f01 M n0 m0 c0 b0 s0 z0 x0 f0 n1 m1 c1 b1 s1 z1 x1 f1
  rw [← hC] at e
  refine T.cut_eq e ?_
  refine T.hchkT ?_
  refine T.hchkT ?_
  refine T.hneed ?_ ?_
  · trivial
  refine T.hneed ?_ ?_
  · trivial
  refine T.hchkT ?_
  refine T.hchkT ?_
  refine T.hchkT ?_
  refine T.hchkT ?_
  refine T.hneed ?_ ?_
  · (intro d hd; exact absurd hd (Nat.not_lt_zero d))
  refine T.hchkT ?_
  refine T.hchkT ?_
  refine T.hchkT ?_
  refine T.hneed ?_ ?_
  · trivial
  refine T.hneed ?_ ?_
  · exact rowJ (fun r => by first | exact ⟨_, rfl⟩ | exact ⟨_, row_cl _ _ r⟩)
  refine T.hchkT ?_
  refine T.hchkT ?_
  refine T.hchkT ?_
  refine T.hchkT ?_
  refine T.hneed ?_ ?_
  · (intro d hd; exact absurd hd (Nat.not_lt_zero d))
  refine T.hchkT ?_
  refine T.hchkT ?_
  refine T.hiteP (fun g1 => ?_) (fun g1 => ?_)
  · skip
    exfalso; omega
  · skip
    refine T.hchkT ?_
    refine T.hiteP (fun g2 => ?_) (fun g2 => ?_)
    · skip
      exfalso; omega
    · skip
      refine T.hchkT ?_
      refine T.hiteP (fun g3 => ?_) (fun g3 => ?_)
      · skip
        exfalso; omega
      · skip
        refine T.hchkT ?_
        refine T.hiteP (fun g4 => ?_) (fun g4 => ?_)
        · skip
          exfalso; omega
        · skip
          refine T.hchkT ?_
          refine T.hchkT ?_
          refine T.hchkT ?_
          refine T.hchkT ?_
          refine T.hchkT ?_
          refine T.hchkT ?_
          refine T.hchkT ?_
          refine T.hchkT ?_
          refine T.hchkT ?_
          refine T.hchkT ?_
          refine T.hchkT ?_
          refine T.hchkT ?_
          refine T.hneed ?_ ?_
          · trivial
          refine T.hneed ?_ ?_
          · trivial
          refine T.hchkT ?_
          refine T.hchkT ?_
          refine T.hchkT ?_
          refine T.hchkT ?_
          refine T.hneed ?_ ?_
          · (intro d hd; exact absurd hd (Nat.not_lt_zero d))
          refine T.hchkT ?_
          refine T.hchkT ?_
          refine T.hchkT ?_
          refine T.hchkT ?_
          refine T.hchkT ?_
          refine T.hchkT ?_
          refine T.hneed ?_ ?_
          · trivial
          refine T.hneed ?_ ?_
          · trivial
          refine T.hchkT ?_
          refine T.hchkT ?_
          refine T.hchkT ?_
          refine T.hchkT ?_
          refine T.hneed ?_ ?_
          · (intro d hd; exact absurd hd (Nat.not_lt_zero d))
          refine T.hchkT ?_
          refine T.hret ?_
          exact ⟨id, ⟨[(4, .bool true)], [none, none]⟩, SubSt.mk (by simp [SubFr, slotAt, ren, below]) (Sub.nothing (n := 2) _), hR⟩

theorem db_h02 (M : Int) (n0 m0 c0 b0 s0 z0 x0 : Nat) (f0 : Nat → Int) (n1 m1 c1 b1 s1 z1 x1 : Nat) (f1 : Nat → Int) (hM : 0 ≤ M) (h0 : s0 = 0 ∧ c0 ≤ b0) (h1 : s1 ≤ m1 ∧ 0 < m1 ∧ m1 ≤ n1 ∧ n1 ≤ 1000 ∧ m1 ≤ x1 ∧ n1 ≤ z1 ∧ m1 ≤ c1 ∧ c1 ≤ b1 ∧ (m1 : Int) - s1 ≤ M) {Q : Ex × St → Prop} (hR : Q (.ret, ⟨[(4, .bool true)], [none, none]⟩)) {C : List Code} (hC : C = (chainOf (codeOf Try.f4)).drop 13) :
    AWpL Try.prog dbF C ⟨[(5, .ptr 2 0 0 0), (7, .ptr 3 0 0 0), (11, .nils), (12, .sl 6 0 1 0 n1 z1), (13, .nils), (14, .sl 7 0 1 0 m1 x1), (15, .int .i64 M)], [none, none, some (skB [.sl 4 0 1 0 0 c0, .int .i64 0, .sl 5 0 1 0 m1 c1, .int .i64 m1, .int .i64 1000]), some (skB [.int .i64 s0, .int .i64 s1]), some (bytB b0 f0), some (bytB b1 f1), some (bytB z1 (clB f1 n1)), some (bytB x1 (clB f1 m1))]⟩ Q := by
  refine awpl_end (E := dbF) dbF_ok (by rw [hC]; exact noLoopsL_ok (by kernel_rfl)) (weak_keep [4] ?_)
  have hw0 : IntKind.wrap IntKind.i64 ((0 : Int) - (↑s0 : Int)) = (0 : Int) - (↑s0 : Int) := IntWalk.i64_in _ (by omega)
  have hk1 := kp_bd (Nat.le_refl m1) (show m1 ≤ 1000 by omega) 0
  have hz1 : mx0 0 = 0 := rfl
  have hw1 : IntKind.wrap IntKind.i64 ((↑m1 : Int) - (↑s1 : Int)) = (↑m1 : Int) - (↑s1 : Int) := IntWalk.i64_in _ (by omega)
  have hwz : IntKind.wrap IntKind.i64 ((0 : Int) - (0 : Int)) = 0 := by decide
  have e := db_f02 M n0 m0 c0 b0 s0 z0 x0 f0 n1 m1 c1 b1 s1 z1 x1 f1
  rw [← hC] at e
  refine T.cut_eq e ?_
  refine T.hchkT ?_
  refine T.hchkT ?_
  refine T.hneed ?_ ?_
  · trivial
  refine T.hneed ?_ ?_
  · trivial
  refine T.hchkT ?_
  refine T.hchkT ?_
  refine T.hchkT ?_
  refine T.hchkT ?_
  refine T.hneed ?_ ?_
  · (intro d hd; exact absurd hd (Nat.not_lt_zero d))
  refine T.hchkT ?_
  refine T.hiteP (fun g1 => ?_) (fun g1 => ?_)
  · skip
    refine T.hchk ?_ ?_
    · first | rfl | decide | (simp only [Bool.and_eq_true, decide_eq_true_eq]; omega) | (simp only [Bool.not_eq_true', decide_eq_false_iff_not]; omega)
    refine T.hneed ?_ ?_
    · exact rowJ (fun r => by first | exact ⟨_, rfl⟩ | exact ⟨_, row_cl _ _ r⟩)
    refine T.hneed ?_ ?_
    · exact rowJ (fun r => by first | exact ⟨_, rfl⟩ | exact ⟨_, row_cl _ _ r⟩)
    refine T.hchk ?_ ?_
    · exact decide_eq_true (by omega)
    refine T.hchk ?_ ?_
    · exact decide_eq_true (by omega)
    refine T.hchk ?_ ?_
    · exact decide_eq_true (by omega)
    refine T.hchk ?_ ?_
    · exact decide_eq_true (by omega)
    refine T.hneed ?_ ?_
    · (intro d hd; dsimp only at hd ⊢; rw [intAt_hd, intAt_hd]; show clB _ _ _ = clB _ _ _; rw [cl_lt (by omega), cl_lt (by omega)])
    refine T.hchkT ?_
    refine T.hchkT ?_
    refine T.hiteP (fun g2 => ?_) (fun g2 => ?_)
    · skip
      exfalso; omega
    · skip
      refine T.hchkT ?_
      refine T.hiteP (fun g3 => ?_) (fun g3 => ?_)
      · skip
        exfalso; omega
      · skip
        refine T.hchkT ?_
        refine T.hiteP (fun g4 => ?_) (fun g4 => ?_)
        · skip
          exfalso; omega
        · skip
          refine T.hchkT ?_
          refine T.hiteP (fun g5 => ?_) (fun g5 => ?_)
          · skip
            exfalso; omega
          · skip
            refine T.hchkT ?_
            refine T.hchkT ?_
            refine T.hchkT ?_
            refine T.hchkT ?_
            refine T.hchkT ?_
            refine T.hchk ?_ ?_
            · first | rfl | decide | (simp only [Bool.and_eq_true, decide_eq_true_eq]; omega) | (simp only [Bool.not_eq_true', decide_eq_false_iff_not]; omega)
            refine T.hchkT ?_
            refine T.hchkT ?_
            refine T.hchkT ?_
            refine T.hchkT ?_
            refine T.hchkT ?_
            refine T.hchkT ?_
            refine T.hneed ?_ ?_
            · trivial
            refine T.hneed ?_ ?_
            · trivial
            refine T.hchkT ?_
            refine T.hchkT ?_
            refine T.hchkT ?_
            refine T.hchkT ?_
            refine T.hneed ?_ ?_
            · (intro d hd; exact absurd hd (Nat.not_lt_zero d))
            refine T.hchkT ?_
            refine T.hchkT ?_
            refine T.hchkT ?_
            refine T.hchkT ?_
            refine T.hchk ?_ ?_
            · exact decide_eq_true (by omega)
            refine T.hiteP (fun g6 => ?_) (fun g6 => ?_)
            · skip
              exfalso; omega
            · skip
              refine T.hchk ?_ ?_
              · exact decide_eq_true (by omega)
              refine T.hall (fun c => ?_)
              refine T.hasmP (fun g7 => ?_)
              refine T.hneed ?_ ?_
              · exact rowJ (fun r => by first | exact ⟨_, rfl⟩ | exact ⟨_, row_cl _ _ r⟩)
              refine T.hneed ?_ ?_
              · exact rowJ (fun r => by first | exact ⟨_, rfl⟩ | exact ⟨_, row_cl _ _ r⟩)
              refine T.hchk ?_ ?_
              · exact decide_eq_true (by omega)
              refine T.hchk ?_ ?_
              · exact decide_eq_true (by omega)
              refine T.hchk ?_ ?_
              · exact decide_eq_true (by omega)
              refine T.hchk ?_ ?_
              · exact decide_eq_true (by omega)
              refine T.hneed ?_ ?_
              · (intro d hd; dsimp only at hd ⊢; rw [intAt_hd, intAt_hd]; dsimp only [Blk.rows, bytB]; rw [if_neg (by omega), if_pos (by omega)]; show _ = clB _ _ _; rw [cl_lt (by omega)]; first | exact congrArg f0 (show _ = _ by omega) | exact congrArg f1 (show _ = _ by omega))
              refine T.hchkT ?_
              refine T.hret ?_
              exact ⟨id, ⟨[(4, .bool true)], [none, none]⟩, SubSt.mk (by simp [SubFr, slotAt, ren, below]) (Sub.nothing (n := 2) _), hR⟩
  · skip
    exfalso; omega



set_option maxRecDepth 100000
set_option maxHeartbeats 16000000
set_option linter.unusedVariables false
set_option linter.unusedSimpArgs false

theorem db_h1N (M : Int) (n0 m0 c0 b0 s0 z0 x0 : Nat) (f0 : Nat → Int) (n1 m1 c1 b1 s1 z1 x1 : Nat) (f1 : Nat → Int) (hM : 0 ≤ M) (h0 : s0 = 0 ∧ c0 ≤ b0 ∧ n0 ≤ z0 ∧ 0 < n0 ∧ n0 ≤ 1000)  {Q : Ex × St → Prop} (hR : Q (.ret, ⟨[(4, .bool true)], [none, none]⟩)) {C : List Code} (hC : C = (chainOf (codeOf Try.f4)).drop 13) :
    AWpL Try.prog dbF C ⟨[(5, .ptr 2 0 0 0), (7, .ptr 3 0 0 0), (11, .sl 5 0 1 0 n0 z0), (12, .nils), (13, .nils), (14, .nils), (15, .int .i64 M)], [none, none, some (skB [.sl 4 0 1 0 0 c0, .int .i64 0, .nils, .int .i64 0, .int .i64 1000]), some (skB [.int .i64 s0, .int .i64 0]), some (bytB b0 f0), some (bytB z0 (clB f0 n0))]⟩ Q := by
  refine awpl_end (E := dbF) dbF_ok (by rw [hC]; exact noLoopsL_ok (by kernel_rfl)) (weak_keep [4] ?_)
  have hw0 : IntKind.wrap IntKind.i64 ((0 : Int) - (↑s0 : Int)) = (0 : Int) - (↑s0 : Int) := IntWalk.i64_in _ (by omega)
  have hwz : IntKind.wrap IntKind.i64 ((0 : Int) - (0 : Int)) = 0 := by decide
  have e := db_f1N M n0 m0 c0 b0 s0 z0 x0 f0 n1 m1 c1 b1 s1 z1 x1 f1
  rw [← hC] at e
  refine T.cut_eq e ?_
  refine T.hchkT ?_
  refine T.hchkT ?_
  refine T.hneed ?_ ?_
  · trivial
  refine T.hneed ?_ ?_
  · exact rowJ (fun r => by first | exact ⟨_, rfl⟩ | exact ⟨_, row_cl _ _ r⟩)
  refine T.hchkT ?_
  refine T.hchkT ?_
  refine T.hchkT ?_
  refine T.hchkT ?_
  refine T.hneed ?_ ?_
  · (intro d hd; exact absurd hd (Nat.not_lt_zero d))
  refine T.hchkT ?_
  refine T.hchkT ?_
  refine T.hchkT ?_
  refine T.hneed ?_ ?_
  · trivial
  refine T.hneed ?_ ?_
  · trivial
  refine T.hchkT ?_
  refine T.hchkT ?_
  refine T.hchkT ?_
  refine T.hchkT ?_
  refine T.hneed ?_ ?_
  · (intro d hd; exact absurd hd (Nat.not_lt_zero d))
  refine T.hchkT ?_
  refine T.hchkT ?_
  refine T.hiteP (fun g1 => ?_) (fun g1 => ?_)
  · skip
    exfalso; omega
  · skip
    refine T.hchkT ?_
    refine T.hchkT ?_
    refine T.hchkT ?_
    refine T.hiteP (fun g2 => ?_) (fun g2 => ?_)
    · skip
      exfalso; omega
    · skip
      refine T.hchkT ?_
      refine T.hiteP (fun g3 => ?_) (fun g3 => ?_)
      · skip
        exfalso; omega
      · skip
        refine T.hchkT ?_
        refine T.hchkT ?_
        refine T.hchkT ?_
        refine T.hchkT ?_
        refine T.hchkT ?_
        refine T.hchkT ?_
        refine T.hchkT ?_
        refine T.hchkT ?_
        refine T.hchkT ?_
        refine T.hchkT ?_
        refine T.hchkT ?_
        refine T.hchkT ?_
        refine T.hneed ?_ ?_
        · trivial
        refine T.hneed ?_ ?_
        · trivial
        refine T.hchkT ?_
        refine T.hchkT ?_
        refine T.hchkT ?_
        refine T.hchkT ?_
        refine T.hneed ?_ ?_
        · (intro d hd; exact absurd hd (Nat.not_lt_zero d))
        refine T.hchkT ?_
        refine T.hchkT ?_
        refine T.hchkT ?_
        refine T.hchkT ?_
        refine T.hneed ?_ ?_
        · trivial
        refine T.hneed ?_ ?_
        · trivial
        refine T.hchkT ?_
        refine T.hchkT ?_
        refine T.hchkT ?_
        refine T.hchkT ?_
        refine T.hneed ?_ ?_
        · (intro d hd; exact absurd hd (Nat.not_lt_zero d))
        refine T.hchkT ?_
        refine T.hret ?_
        exact ⟨id, ⟨[(4, .bool true)], [none, none]⟩, SubSt.mk (by simp [SubFr, slotAt, ren, below]) (Sub.nothing (n := 2) _), hR⟩

theorem db_h10 (M : Int) (n0 m0 c0 b0 s0 z0 x0 : Nat) (f0 : Nat → Int) (n1 m1 c1 b1 s1 z1 x1 : Nat) (f1 : Nat → Int) (hM : 0 ≤ M) (h0 : s0 = 0 ∧ c0 ≤ b0 ∧ n0 ≤ z0 ∧ 0 < n0 ∧ n0 ≤ 1000) (h1 : s1 = 0 ∧ c1 ≤ b1) {Q : Ex × St → Prop} (hR : Q (.ret, ⟨[(4, .bool true)], [none, none]⟩)) {C : List Code} (hC : C = (chainOf (codeOf Try.f4)).drop 13) :
    AWpL Try.prog dbF C ⟨[(5, .ptr 2 0 0 0), (7, .ptr 3 0 0 0), (11, .sl 6 0 1 0 n0 z0), (12, .nils), (13, .nils), (14, .nils), (15, .int .i64 M)], [none, none, some (skB [.sl 4 0 1 0 0 c0, .int .i64 0, .sl 5 0 1 0 0 c1, .int .i64 0, .int .i64 1000]), some (skB [.int .i64 s0, .int .i64 s1]), some (bytB b0 f0), some (bytB b1 f1), some (bytB z0 (clB f0 n0))]⟩ Q := by
  refine awpl_end (E := dbF) dbF_ok (by rw [hC]; exact noLoopsL_ok (by kernel_rfl)) (weak_keep [4] ?_)
  have hw0 : IntKind.wrap IntKind.i64 ((0 : Int) - (↑s0 : Int)) = (0 : Int) - (↑s0 : Int) := IntWalk.i64_in _ (by omega)
  have hw1 : IntKind.wrap IntKind.i64 ((0 : Int) - (↑s1 : Int)) = (0 : Int) - (↑s1 : Int) := IntWalk.i64_in _ (by omega)
  have hwz : IntKind.wrap IntKind.i64 ((0 : Int) - (0 : Int)) = 0 := by decide
  have e := db_f10 M n0 m0 c0 b0 s0 z0 x0 f0 n1 m1 c1 b1 s1 z1 x1 f1
  rw [← hC] at e
  refine T.cut_eq e ?_
  refine T.hchkT ?_
  refine T.hchkT ?_
  refine T.hneed ?_ ?_
  · trivial
  refine T.hneed ?_ ?_
  · exact rowJ (fun r => by first | exact ⟨_, rfl⟩ | exact ⟨_, row_cl _ _ r⟩)
  refine T.hchkT ?_
  refine T.hchkT ?_
  refine T.hchkT ?_
  refine T.hchkT ?_
  refine T.hneed ?_ ?_
  · (intro d hd; exact absurd hd (Nat.not_lt_zero d))
  refine T.hchkT ?_
  refine T.hchkT ?_
  refine T.hchkT ?_
  refine T.hneed ?_ ?_
  · trivial
  refine T.hneed ?_ ?_
  · trivial
  refine T.hchkT ?_
  refine T.hchkT ?_
  refine T.hchkT ?_
  refine T.hchkT ?_
  refine T.hneed ?_ ?_
  · (intro d hd; exact absurd hd (Nat.not_lt_zero d))
  refine T.hchkT ?_
  refine T.hchkT ?_
  refine T.hiteP (fun g1 => ?_) (fun g1 => ?_)
  · skip
    exfalso; omega
  · skip
    refine T.hchkT ?_
    refine T.hiteP (fun g2 => ?_) (fun g2 => ?_)
    · skip
      exfalso; omega
    · skip
      refine T.hchkT ?_
      refine T.hiteP (fun g3 => ?_) (fun g3 => ?_)
      · skip
        exfalso; omega
      · skip
        refine T.hchkT ?_
        refine T.hiteP (fun g4 => ?_) (fun g4 => ?_)
        · skip
          exfalso; omega
        · skip
          refine T.hchkT ?_
          refine T.hchkT ?_
          refine T.hchkT ?_
          refine T.hchkT ?_
          refine T.hchkT ?_
          refine T.hchkT ?_
          refine T.hchkT ?_
          refine T.hchkT ?_
          refine T.hchkT ?_
          refine T.hchkT ?_
          refine T.hchkT ?_
          refine T.hchkT ?_
          refine T.hneed ?_ ?_
          · trivial
          refine T.hneed ?_ ?_
          · trivial
          refine T.hchkT ?_
          refine T.hchkT ?_
          refine T.hchkT ?_
          refine T.hchkT ?_
          refine T.hneed ?_ ?_
          · (intro d hd; exact absurd hd (Nat.not_lt_zero d))
          refine T.hchkT ?_
          refine T.hchkT ?_
          refine T.hchkT ?_
          refine T.hchkT ?_
          refine T.hchkT ?_
          refine T.hchkT ?_
          refine T.hneed ?_ ?_
          · trivial
          refine T.hneed ?_ ?_
          · trivial
          refine T.hchkT ?_
          refine T.hchkT ?_
          refine T.hchkT ?_
          refine T.hchkT ?_
          refine T.hneed ?_ ?_
          · (intro d hd; exact absurd hd (Nat.not_lt_zero d))
          refine T.hchkT ?_
          refine T.hret ?_
          exact ⟨id, ⟨[(4, .bool true)], [none, none]⟩, SubSt.mk (by simp [SubFr, slotAt, ren, below]) (Sub.nothing (n := 2) _), hR⟩

theorem db_h11 (M : Int) (n0 m0 c0 b0 s0 z0 x0 : Nat) (f0 : Nat → Int) (n1 m1 c1 b1 s1 z1 x1 : Nat) (f1 : Nat → Int) (hM : 0 ≤ M) (h0 : s0 = 0 ∧ c0 ≤ b0 ∧ n0 ≤ z0 ∧ 0 < n0 ∧ n0 ≤ 1000) (h1 : s1 = 0 ∧ c1 ≤ b1 ∧ n1 ≤ z1 ∧ 0 < n1 ∧ n1 ≤ 1000) {Q : Ex × St → Prop} (hR : Q (.ret, ⟨[(4, .bool true)], [none, none]⟩)) {C : List Code} (hC : C = (chainOf (codeOf Try.f4)).drop 13) :
    AWpL Try.prog dbF C ⟨[(5, .ptr 2 0 0 0), (7, .ptr 3 0 0 0), (11, .sl 6 0 1 0 n0 z0), (12, .sl 7 0 1 0 n1 z1), (13, .nils), (14, .nils), (15, .int .i64 M)], [none, none, some (skB [.sl 4 0 1 0 0 c0, .int .i64 0, .sl 5 0 1 0 0 c1, .int .i64 0, .int .i64 1000]), some (skB [.int .i64 s0, .int .i64 s1]), some (bytB b0 f0), some (bytB b1 f1), some (bytB z0 (clB f0 n0)), some (bytB z1 (clB f1 n1))]⟩ Q := by
  refine awpl_end (E := dbF) dbF_ok (by rw [hC]; exact noLoopsL_ok (by kernel_rfl)) (weak_keep [4] ?_)
  have hw0 : IntKind.wrap IntKind.i64 ((0 : Int) - (↑s0 : Int)) = (0 : Int) - (↑s0 : Int) := IntWalk.i64_in _ (by omega)
  have hw1 : IntKind.wrap IntKind.i64 ((0 : Int) - (↑s1 : Int)) = (0 : Int) - (↑s1 : Int) := IntWalk.i64_in _ (by omega)
  have hwz : IntKind.wrap IntKind.i64 ((0 : Int) - (0 : Int)) = 0 := by decide
  have e := db_f11 M n0 m0 c0 b0 s0 z0 x0 f0 n1 m1 c1 b1 s1 z1 x1 f1
  rw [← hC] at e
  refine T.cut_eq e ?_
  refine T.hchkT ?_
  refine T.hchkT ?_
  refine T.hneed ?_ ?_
  · trivial
  refine T.hneed ?_ ?_
  · exact rowJ (fun r => by first | exact ⟨_, rfl⟩ | exact ⟨_, row_cl _ _ r⟩)
  refine T.hchkT ?_
  refine T.hchkT ?_
  refine T.hchkT ?_
  refine T.hchkT ?_
  refine T.hneed ?_ ?_
  · (intro d hd; exact absurd hd (Nat.not_lt_zero d))
  refine T.hchkT ?_
  refine T.hchkT ?_
  refine T.hchkT ?_
  refine T.hneed ?_ ?_
  · trivial
  refine T.hneed ?_ ?_
  · exact rowJ (fun r => by first | exact ⟨_, rfl⟩ | exact ⟨_, row_cl _ _ r⟩)
  refine T.hchkT ?_
  refine T.hchkT ?_
  refine T.hchkT ?_
  refine T.hchkT ?_
  refine T.hneed ?_ ?_
  · (intro d hd; exact absurd hd (Nat.not_lt_zero d))
  refine T.hchkT ?_
  refine T.hchkT ?_
  refine T.hiteP (fun g1 => ?_) (fun g1 => ?_)
  · skip
    exfalso; omega
  · skip
    refine T.hchkT ?_
    refine T.hiteP (fun g2 => ?_) (fun g2 => ?_)
    · skip
      exfalso; omega
    · skip
      refine T.hchkT ?_
      refine T.hiteP (fun g3 => ?_) (fun g3 => ?_)
      · skip
        exfalso; omega
      · skip
        refine T.hchkT ?_
        refine T.hiteP (fun g4 => ?_) (fun g4 => ?_)
        · skip
          exfalso; omega
        · skip
          refine T.hchkT ?_
          refine T.hchkT ?_
          refine T.hchkT ?_
          refine T.hchkT ?_
          refine T.hchkT ?_
          refine T.hchkT ?_
          refine T.hchkT ?_
          refine T.hchkT ?_
          refine T.hchkT ?_
          refine T.hchkT ?_
          refine T.hchkT ?_
          refine T.hchkT ?_
          refine T.hneed ?_ ?_
          · trivial
          refine T.hneed ?_ ?_
          · trivial
          refine T.hchkT ?_
          refine T.hchkT ?_
          refine T.hchkT ?_
          refine T.hchkT ?_
          refine T.hneed ?_ ?_
          · (intro d hd; exact absurd hd (Nat.not_lt_zero d))
          refine T.hchkT ?_
          refine T.hchkT ?_
          refine T.hchkT ?_
          refine T.hchkT ?_
          refine T.hchkT ?_
          refine T.hchkT ?_
          refine T.hneed ?_ ?_
          · trivial
          refine T.hneed ?_ ?_
          · trivial
          refine T.hchkT ?_
          refine T.hchkT ?_
          refine T.hchkT ?_
          refine T.hchkT ?_
          refine T.hneed ?_ ?_
          · (intro d hd; exact absurd hd (Nat.not_lt_zero d))
          refine T.hchkT ?_
          refine T.hret ?_
          exact ⟨id, ⟨[(4, .bool true)], [none, none]⟩, SubSt.mk (by simp [SubFr, slotAt, ren, below]) (Sub.nothing (n := 2) _), hR⟩

theorem db_h12 (M : Int) (n0 m0 c0 b0 s0 z0 x0 : Nat) (f0 : Nat → Int) (n1 m1 c1 b1 s1 z1 x1 : Nat) (f1 : Nat → Int) (hM : 0 ≤ M) (h0 : s0 = 0 ∧ c0 ≤ b0 ∧ n0 ≤ z0 ∧ 0 < n0 ∧ n0 ≤ 1000) (h1 : s1 ≤ m1 ∧ 0 < m1 ∧ m1 ≤ n1 ∧ n1 ≤ 1000 ∧ m1 ≤ x1 ∧ n1 ≤ z1 ∧ m1 ≤ c1 ∧ c1 ≤ b1 ∧ (m1 : Int) - s1 ≤ M) {Q : Ex × St → Prop} (hR : Q (.ret, ⟨[(4, .bool true)], [none, none]⟩)) {C : List Code} (hC : C = (chainOf (codeOf Try.f4)).drop 13) :
    AWpL Try.prog dbF C ⟨[(5, .ptr 2 0 0 0), (7, .ptr 3 0 0 0), (11, .sl 6 0 1 0 n0 z0), (12, .sl 7 0 1 0 n1 z1), (13, .nils), (14, .sl 8 0 1 0 m1 x1), (15, .int .i64 M)], [none, none, some (skB [.sl 4 0 1 0 0 c0, .int .i64 0, .sl 5 0 1 0 m1 c1, .int .i64 m1, .int .i64 1000]), some (skB [.int .i64 s0, .int .i64 s1]), some (bytB b0 f0), some (bytB b1 f1), some (bytB z0 (clB f0 n0)), some (bytB z1 (clB f1 n1)), some (bytB x1 (clB f1 m1))]⟩ Q := by
  refine awpl_end (E := dbF) dbF_ok (by rw [hC]; exact noLoopsL_ok (by kernel_rfl)) (weak_keep [4] ?_)
  have hw0 : IntKind.wrap IntKind.i64 ((0 : Int) - (↑s0 : Int)) = (0 : Int) - (↑s0 : Int) := IntWalk.i64_in _ (by omega)
  have hk1 := kp_bd (Nat.le_refl m1) (show m1 ≤ 1000 by omega) 0
  have hz1 : mx0 0 = 0 := rfl
  have hw1 : IntKind.wrap IntKind.i64 ((↑m1 : Int) - (↑s1 : Int)) = (↑m1 : Int) - (↑s1 : Int) := IntWalk.i64_in _ (by omega)
  have hwz : IntKind.wrap IntKind.i64 ((0 : Int) - (0 : Int)) = 0 := by decide
  have e := db_f12 M n0 m0 c0 b0 s0 z0 x0 f0 n1 m1 c1 b1 s1 z1 x1 f1
  rw [← hC] at e
  refine T.cut_eq e ?_
  refine T.hchkT ?_
  refine T.hchkT ?_
  refine T.hneed ?_ ?_
  · trivial
  refine T.hneed ?_ ?_
  · exact rowJ (fun r => by first | exact ⟨_, rfl⟩ | exact ⟨_, row_cl _ _ r⟩)
  refine T.hchkT ?_
  refine T.hchkT ?_
  refine T.hchkT ?_
  refine T.hchkT ?_
  refine T.hneed ?_ ?_
  · (intro d hd; exact absurd hd (Nat.not_lt_zero d))
  refine T.hchkT ?_
  refine T.hiteP (fun g1 => ?_) (fun g1 => ?_)
  · skip
    refine T.hchk ?_ ?_
    · first | rfl | decide | (simp only [Bool.and_eq_true, decide_eq_true_eq]; omega) | (simp only [Bool.not_eq_true', decide_eq_false_iff_not]; omega)
    refine T.hneed ?_ ?_
    · exact rowJ (fun r => by first | exact ⟨_, rfl⟩ | exact ⟨_, row_cl _ _ r⟩)
    refine T.hneed ?_ ?_
    · exact rowJ (fun r => by first | exact ⟨_, rfl⟩ | exact ⟨_, row_cl _ _ r⟩)
    refine T.hchk ?_ ?_
    · exact decide_eq_true (by omega)
    refine T.hchk ?_ ?_
    · exact decide_eq_true (by omega)
    refine T.hchk ?_ ?_
    · exact decide_eq_true (by omega)
    refine T.hchk ?_ ?_
    · exact decide_eq_true (by omega)
    refine T.hneed ?_ ?_
    · (intro d hd; dsimp only at hd ⊢; rw [intAt_hd, intAt_hd]; show clB _ _ _ = clB _ _ _; rw [cl_lt (by omega), cl_lt (by omega)])
    refine T.hchkT ?_
    refine T.hchkT ?_
    refine T.hiteP (fun g2 => ?_) (fun g2 => ?_)
    · skip
      exfalso; omega
    · skip
      refine T.hchkT ?_
      refine T.hiteP (fun g3 => ?_) (fun g3 => ?_)
      · skip
        exfalso; omega
      · skip
        refine T.hchkT ?_
        refine T.hiteP (fun g4 => ?_) (fun g4 => ?_)
        · skip
          exfalso; omega
        · skip
          refine T.hchkT ?_
          refine T.hiteP (fun g5 => ?_) (fun g5 => ?_)
          · skip
            exfalso; omega
          · skip
            refine T.hchkT ?_
            refine T.hchkT ?_
            refine T.hchkT ?_
            refine T.hchkT ?_
            refine T.hchkT ?_
            refine T.hchk ?_ ?_
            · first | rfl | decide | (simp only [Bool.and_eq_true, decide_eq_true_eq]; omega) | (simp only [Bool.not_eq_true', decide_eq_false_iff_not]; omega)
            refine T.hchkT ?_
            refine T.hchkT ?_
            refine T.hchkT ?_
            refine T.hchkT ?_
            refine T.hchkT ?_
            refine T.hchkT ?_
            refine T.hneed ?_ ?_
            · trivial
            refine T.hneed ?_ ?_
            · trivial
            refine T.hchkT ?_
            refine T.hchkT ?_
            refine T.hchkT ?_
            refine T.hchkT ?_
            refine T.hneed ?_ ?_
            · (intro d hd; exact absurd hd (Nat.not_lt_zero d))
            refine T.hchkT ?_
            refine T.hchkT ?_
            refine T.hchkT ?_
            refine T.hchkT ?_
            refine T.hchk ?_ ?_
            · exact decide_eq_true (by omega)
            refine T.hiteP (fun g6 => ?_) (fun g6 => ?_)
            · skip
              exfalso; omega
            · skip
              refine T.hchk ?_ ?_
              · exact decide_eq_true (by omega)
              refine T.hall (fun c => ?_)
              refine T.hasmP (fun g7 => ?_)
              refine T.hneed ?_ ?_
              · exact rowJ (fun r => by first | exact ⟨_, rfl⟩ | exact ⟨_, row_cl _ _ r⟩)
              refine T.hneed ?_ ?_
              · exact rowJ (fun r => by first | exact ⟨_, rfl⟩ | exact ⟨_, row_cl _ _ r⟩)
              refine T.hchk ?_ ?_
              · exact decide_eq_true (by omega)
              refine T.hchk ?_ ?_
              · exact decide_eq_true (by omega)
              refine T.hchk ?_ ?_
              · exact decide_eq_true (by omega)
              refine T.hchk ?_ ?_
              · exact decide_eq_true (by omega)
              refine T.hneed ?_ ?_
              · (intro d hd; dsimp only at hd ⊢; rw [intAt_hd, intAt_hd]; dsimp only [Blk.rows, bytB]; rw [if_neg (by omega), if_pos (by omega)]; show _ = clB _ _ _; rw [cl_lt (by omega)]; first | exact congrArg f0 (show _ = _ by omega) | exact congrArg f1 (show _ = _ by omega))
              refine T.hchkT ?_
              refine T.hret ?_
              exact ⟨id, ⟨[(4, .bool true)], [none, none]⟩, SubSt.mk (by simp [SubFr, slotAt, ren, below]) (Sub.nothing (n := 2) _), hR⟩
  · skip
    exfalso; omega



set_option maxRecDepth 100000
set_option maxHeartbeats 16000000
set_option linter.unusedVariables false
set_option linter.unusedSimpArgs false

theorem db_h2N (M : Int) (n0 m0 c0 b0 s0 z0 x0 : Nat) (f0 : Nat → Int) (n1 m1 c1 b1 s1 z1 x1 : Nat) (f1 : Nat → Int) (hM : 0 ≤ M) (h0 : s0 ≤ m0 ∧ 0 < m0 ∧ m0 ≤ n0 ∧ n0 ≤ 1000 ∧ m0 ≤ x0 ∧ n0 ≤ z0 ∧ m0 ≤ c0 ∧ c0 ≤ b0 ∧ (m0 : Int) - s0 ≤ M)  {Q : Ex × St → Prop} (hR : Q (.ret, ⟨[(4, .bool true)], [none, none]⟩)) {C : List Code} (hC : C = (chainOf (codeOf Try.f4)).drop 13) :
    AWpL Try.prog dbF C ⟨[(5, .ptr 2 0 0 0), (7, .ptr 3 0 0 0), (11, .sl 5 0 1 0 n0 z0), (12, .nils), (13, .sl 6 0 1 0 m0 x0), (14, .nils), (15, .int .i64 M)], [none, none, some (skB [.sl 4 0 1 0 m0 c0, .int .i64 m0, .nils, .int .i64 0, .int .i64 1000]), some (skB [.int .i64 s0, .int .i64 0]), some (bytB b0 f0), some (bytB z0 (clB f0 n0)), some (bytB x0 (clB f0 m0))]⟩ Q := by
  refine awpl_end (E := dbF) dbF_ok (by rw [hC]; exact noLoopsL_ok (by kernel_rfl)) (weak_keep [4] ?_)
  have hk0 := kp_bd (Nat.le_refl m0) (show m0 ≤ 1000 by omega) 0
  have hz0 : mx0 0 = 0 := rfl
  have hw0 : IntKind.wrap IntKind.i64 ((↑m0 : Int) - (↑s0 : Int)) = (↑m0 : Int) - (↑s0 : Int) := IntWalk.i64_in _ (by omega)
  have hwz : IntKind.wrap IntKind.i64 ((0 : Int) - (0 : Int)) = 0 := by decide
  have e := db_f2N M n0 m0 c0 b0 s0 z0 x0 f0 n1 m1 c1 b1 s1 z1 x1 f1
  rw [← hC] at e
  refine T.cut_eq e ?_
  refine T.hiteP (fun g1 => ?_) (fun g1 => ?_)
  · skip
    refine T.hchk ?_ ?_
    · first | rfl | decide | (simp only [Bool.and_eq_true, decide_eq_true_eq]; omega) | (simp only [Bool.not_eq_true', decide_eq_false_iff_not]; omega)
    refine T.hneed ?_ ?_
    · exact rowJ (fun r => by first | exact ⟨_, rfl⟩ | exact ⟨_, row_cl _ _ r⟩)
    refine T.hneed ?_ ?_
    · exact rowJ (fun r => by first | exact ⟨_, rfl⟩ | exact ⟨_, row_cl _ _ r⟩)
    refine T.hchk ?_ ?_
    · exact decide_eq_true (by omega)
    refine T.hchk ?_ ?_
    · exact decide_eq_true (by omega)
    refine T.hchk ?_ ?_
    · exact decide_eq_true (by omega)
    refine T.hchk ?_ ?_
    · exact decide_eq_true (by omega)
    refine T.hneed ?_ ?_
    · (intro d hd; dsimp only at hd ⊢; rw [intAt_hd, intAt_hd]; show clB _ _ _ = clB _ _ _; rw [cl_lt (by omega), cl_lt (by omega)])
    refine T.hchkT ?_
    refine T.hchkT ?_
    refine T.hchkT ?_
    refine T.hneed ?_ ?_
    · trivial
    refine T.hneed ?_ ?_
    · trivial
    refine T.hchkT ?_
    refine T.hchkT ?_
    refine T.hchkT ?_
    refine T.hchkT ?_
    refine T.hneed ?_ ?_
    · (intro d hd; exact absurd hd (Nat.not_lt_zero d))
    refine T.hchkT ?_
    refine T.hchkT ?_
    refine T.hiteP (fun g2 => ?_) (fun g2 => ?_)
    · skip
      exfalso; omega
    · skip
      refine T.hchkT ?_
      refine T.hchkT ?_
      refine T.hchkT ?_
      refine T.hiteP (fun g3 => ?_) (fun g3 => ?_)
      · skip
        exfalso; omega
      · skip
        refine T.hchkT ?_
        refine T.hiteP (fun g4 => ?_) (fun g4 => ?_)
        · skip
          exfalso; omega
        · skip
          refine T.hchkT ?_
          refine T.hchkT ?_
          refine T.hchk ?_ ?_
          · first | rfl | decide | (simp only [Bool.and_eq_true, decide_eq_true_eq]; omega) | (simp only [Bool.not_eq_true', decide_eq_false_iff_not]; omega)
          refine T.hchkT ?_
          refine T.hchkT ?_
          refine T.hchkT ?_
          refine T.hchkT ?_
          refine T.hchkT ?_
          refine T.hchkT ?_
          refine T.hchkT ?_
          refine T.hchk ?_ ?_
          · exact decide_eq_true (by omega)
          refine T.hiteP (fun g5 => ?_) (fun g5 => ?_)
          · skip
            exfalso; omega
          · skip
            refine T.hchk ?_ ?_
            · exact decide_eq_true (by omega)
            refine T.hall (fun c => ?_)
            refine T.hasmP (fun g6 => ?_)
            refine T.hneed ?_ ?_
            · exact rowJ (fun r => by first | exact ⟨_, rfl⟩ | exact ⟨_, row_cl _ _ r⟩)
            refine T.hneed ?_ ?_
            · exact rowJ (fun r => by first | exact ⟨_, rfl⟩ | exact ⟨_, row_cl _ _ r⟩)
            refine T.hchk ?_ ?_
            · exact decide_eq_true (by omega)
            refine T.hchk ?_ ?_
            · exact decide_eq_true (by omega)
            refine T.hchk ?_ ?_
            · exact decide_eq_true (by omega)
            refine T.hchk ?_ ?_
            · exact decide_eq_true (by omega)
            refine T.hneed ?_ ?_
            · (intro d hd; dsimp only at hd ⊢; rw [intAt_hd, intAt_hd]; dsimp only [Blk.rows, bytB]; rw [if_neg (by omega), if_pos (by omega)]; show _ = clB _ _ _; rw [cl_lt (by omega)]; first | exact congrArg f0 (show _ = _ by omega) | exact congrArg f1 (show _ = _ by omega))
            refine T.hchkT ?_
            refine T.hchkT ?_
            refine T.hchkT ?_
            refine T.hchkT ?_
            refine T.hneed ?_ ?_
            · trivial
            refine T.hneed ?_ ?_
            · trivial
            refine T.hchkT ?_
            refine T.hchkT ?_
            refine T.hchkT ?_
            refine T.hchkT ?_
            refine T.hneed ?_ ?_
            · (intro d hd; exact absurd hd (Nat.not_lt_zero d))
            refine T.hchkT ?_
            refine T.hret ?_
            exact ⟨id, ⟨[(4, .bool true)], [none, none]⟩, SubSt.mk (by simp [SubFr, slotAt, ren, below]) (Sub.nothing (n := 2) _), hR⟩
  · skip
    exfalso; omega

theorem db_h20 (M : Int) (n0 m0 c0 b0 s0 z0 x0 : Nat) (f0 : Nat → Int) (n1 m1 c1 b1 s1 z1 x1 : Nat) (f1 : Nat → Int) (hM : 0 ≤ M) (h0 : s0 ≤ m0 ∧ 0 < m0 ∧ m0 ≤ n0 ∧ n0 ≤ 1000 ∧ m0 ≤ x0 ∧ n0 ≤ z0 ∧ m0 ≤ c0 ∧ c0 ≤ b0 ∧ (m0 : Int) - s0 ≤ M) (h1 : s1 = 0 ∧ c1 ≤ b1) {Q : Ex × St → Prop} (hR : Q (.ret, ⟨[(4, .bool true)], [none, none]⟩)) {C : List Code} (hC : C = (chainOf (codeOf Try.f4)).drop 13) :
    AWpL Try.prog dbF C ⟨[(5, .ptr 2 0 0 0), (7, .ptr 3 0 0 0), (11, .sl 6 0 1 0 n0 z0), (12, .nils), (13, .sl 7 0 1 0 m0 x0), (14, .nils), (15, .int .i64 M)], [none, none, some (skB [.sl 4 0 1 0 m0 c0, .int .i64 m0, .sl 5 0 1 0 0 c1, .int .i64 0, .int .i64 1000]), some (skB [.int .i64 s0, .int .i64 s1]), some (bytB b0 f0), some (bytB b1 f1), some (bytB z0 (clB f0 n0)), some (bytB x0 (clB f0 m0))]⟩ Q := by
  refine awpl_end (E := dbF) dbF_ok (by rw [hC]; exact noLoopsL_ok (by kernel_rfl)) (weak_keep [4] ?_)
  have hk0 := kp_bd (Nat.le_refl m0) (show m0 ≤ 1000 by omega) 0
  have hz0 : mx0 0 = 0 := rfl
  have hw0 : IntKind.wrap IntKind.i64 ((↑m0 : Int) - (↑s0 : Int)) = (↑m0 : Int) - (↑s0 : Int) := IntWalk.i64_in _ (by omega)
  have hw1 : IntKind.wrap IntKind.i64 ((0 : Int) - (↑s1 : Int)) = (0 : Int) - (↑s1 : Int) := IntWalk.i64_in _ (by omega)
  have hwz : IntKind.wrap IntKind.i64 ((0 : Int) - (0 : Int)) = 0 := by decide
  have e := db_f20 M n0 m0 c0 b0 s0 z0 x0 f0 n1 m1 c1 b1 s1 z1 x1 f1
  rw [← hC] at e
  refine T.cut_eq e ?_
  refine T.hiteP (fun g1 => ?_) (fun g1 => ?_)
  · skip
    refine T.hchk ?_ ?_
    · first | rfl | decide | (simp only [Bool.and_eq_true, decide_eq_true_eq]; omega) | (simp only [Bool.not_eq_true', decide_eq_false_iff_not]; omega)
    refine T.hneed ?_ ?_
    · exact rowJ (fun r => by first | exact ⟨_, rfl⟩ | exact ⟨_, row_cl _ _ r⟩)
    refine T.hneed ?_ ?_
    · exact rowJ (fun r => by first | exact ⟨_, rfl⟩ | exact ⟨_, row_cl _ _ r⟩)
    refine T.hchk ?_ ?_
    · exact decide_eq_true (by omega)
    refine T.hchk ?_ ?_
    · exact decide_eq_true (by omega)
    refine T.hchk ?_ ?_
    · exact decide_eq_true (by omega)
    refine T.hchk ?_ ?_
    · exact decide_eq_true (by omega)
    refine T.hneed ?_ ?_
    · (intro d hd; dsimp only at hd ⊢; rw [intAt_hd, intAt_hd]; show clB _ _ _ = clB _ _ _; rw [cl_lt (by omega), cl_lt (by omega)])
    refine T.hchkT ?_
    refine T.hchkT ?_
    refine T.hchkT ?_
    refine T.hneed ?_ ?_
    · trivial
    refine T.hneed ?_ ?_
    · trivial
    refine T.hchkT ?_
    refine T.hchkT ?_
    refine T.hchkT ?_
    refine T.hchkT ?_
    refine T.hneed ?_ ?_
    · (intro d hd; exact absurd hd (Nat.not_lt_zero d))
    refine T.hchkT ?_
    refine T.hchkT ?_
    refine T.hiteP (fun g2 => ?_) (fun g2 => ?_)
    · skip
      exfalso; omega
    · skip
      refine T.hchkT ?_
      refine T.hiteP (fun g3 => ?_) (fun g3 => ?_)
      · skip
        exfalso; omega
      · skip
        refine T.hchkT ?_
        refine T.hiteP (fun g4 => ?_) (fun g4 => ?_)
        · skip
          exfalso; omega
        · skip
          refine T.hchkT ?_
          refine T.hiteP (fun g5 => ?_) (fun g5 => ?_)
          · skip
            exfalso; omega
          · skip
            refine T.hchkT ?_
            refine T.hchkT ?_
            refine T.hchk ?_ ?_
            · first | rfl | decide | (simp only [Bool.and_eq_true, decide_eq_true_eq]; omega) | (simp only [Bool.not_eq_true', decide_eq_false_iff_not]; omega)
            refine T.hchkT ?_
            refine T.hchkT ?_
            refine T.hchkT ?_
            refine T.hchkT ?_
            refine T.hchkT ?_
            refine T.hchkT ?_
            refine T.hchkT ?_
            refine T.hchk ?_ ?_
            · exact decide_eq_true (by omega)
            refine T.hiteP (fun g6 => ?_) (fun g6 => ?_)
            · skip
              exfalso; omega
            · skip
              refine T.hchk ?_ ?_
              · exact decide_eq_true (by omega)
              refine T.hall (fun c => ?_)
              refine T.hasmP (fun g7 => ?_)
              refine T.hneed ?_ ?_
              · exact rowJ (fun r => by first | exact ⟨_, rfl⟩ | exact ⟨_, row_cl _ _ r⟩)
              refine T.hneed ?_ ?_
              · exact rowJ (fun r => by first | exact ⟨_, rfl⟩ | exact ⟨_, row_cl _ _ r⟩)
              refine T.hchk ?_ ?_
              · exact decide_eq_true (by omega)
              refine T.hchk ?_ ?_
              · exact decide_eq_true (by omega)
              refine T.hchk ?_ ?_
              · exact decide_eq_true (by omega)
              refine T.hchk ?_ ?_
              · exact decide_eq_true (by omega)
              refine T.hneed ?_ ?_
              · (intro d hd; dsimp only at hd ⊢; rw [intAt_hd, intAt_hd]; dsimp only [Blk.rows, bytB]; rw [if_neg (by omega), if_pos (by omega)]; show _ = clB _ _ _; rw [cl_lt (by omega)]; first | exact congrArg f0 (show _ = _ by omega) | exact congrArg f1 (show _ = _ by omega))
              refine T.hchkT ?_
              refine T.hchkT ?_
              refine T.hchkT ?_
              refine T.hchkT ?_
              refine T.hchkT ?_
              refine T.hchkT ?_
              refine T.hneed ?_ ?_
              · trivial
              refine T.hneed ?_ ?_
              · trivial
              refine T.hchkT ?_
              refine T.hchkT ?_
              refine T.hchkT ?_
              refine T.hchkT ?_
              refine T.hneed ?_ ?_
              · (intro d hd; exact absurd hd (Nat.not_lt_zero d))
              refine T.hchkT ?_
              refine T.hret ?_
              exact ⟨id, ⟨[(4, .bool true)], [none, none]⟩, SubSt.mk (by simp [SubFr, slotAt, ren, below]) (Sub.nothing (n := 2) _), hR⟩
  · skip
    exfalso; omega

theorem db_h21 (M : Int) (n0 m0 c0 b0 s0 z0 x0 : Nat) (f0 : Nat → Int) (n1 m1 c1 b1 s1 z1 x1 : Nat) (f1 : Nat → Int) (hM : 0 ≤ M) (h0 : s0 ≤ m0 ∧ 0 < m0 ∧ m0 ≤ n0 ∧ n0 ≤ 1000 ∧ m0 ≤ x0 ∧ n0 ≤ z0 ∧ m0 ≤ c0 ∧ c0 ≤ b0 ∧ (m0 : Int) - s0 ≤ M) (h1 : s1 = 0 ∧ c1 ≤ b1 ∧ n1 ≤ z1 ∧ 0 < n1 ∧ n1 ≤ 1000) {Q : Ex × St → Prop} (hR : Q (.ret, ⟨[(4, .bool true)], [none, none]⟩)) {C : List Code} (hC : C = (chainOf (codeOf Try.f4)).drop 13) :
    AWpL Try.prog dbF C ⟨[(5, .ptr 2 0 0 0), (7, .ptr 3 0 0 0), (11, .sl 6 0 1 0 n0 z0), (12, .sl 7 0 1 0 n1 z1), (13, .sl 8 0 1 0 m0 x0), (14, .nils), (15, .int .i64 M)], [none, none, some (skB [.sl 4 0 1 0 m0 c0, .int .i64 m0, .sl 5 0 1 0 0 c1, .int .i64 0, .int .i64 1000]), some (skB [.int .i64 s0, .int .i64 s1]), some (bytB b0 f0), some (bytB b1 f1), some (bytB z0 (clB f0 n0)), some (bytB z1 (clB f1 n1)), some (bytB x0 (clB f0 m0))]⟩ Q := by
  refine awpl_end (E := dbF) dbF_ok (by rw [hC]; exact noLoopsL_ok (by kernel_rfl)) (weak_keep [4] ?_)
  have hk0 := kp_bd (Nat.le_refl m0) (show m0 ≤ 1000 by omega) 0
  have hz0 : mx0 0 = 0 := rfl
  have hw0 : IntKind.wrap IntKind.i64 ((↑m0 : Int) - (↑s0 : Int)) = (↑m0 : Int) - (↑s0 : Int) := IntWalk.i64_in _ (by omega)
  have hw1 : IntKind.wrap IntKind.i64 ((0 : Int) - (↑s1 : Int)) = (0 : Int) - (↑s1 : Int) := IntWalk.i64_in _ (by omega)
  have hwz : IntKind.wrap IntKind.i64 ((0 : Int) - (0 : Int)) = 0 := by decide
  have e := db_f21 M n0 m0 c0 b0 s0 z0 x0 f0 n1 m1 c1 b1 s1 z1 x1 f1
  rw [← hC] at e
  refine T.cut_eq e ?_
  refine T.hiteP (fun g1 => ?_) (fun g1 => ?_)
  · skip
    refine T.hchk ?_ ?_
    · first | rfl | decide | (simp only [Bool.and_eq_true, decide_eq_true_eq]; omega) | (simp only [Bool.not_eq_true', decide_eq_false_iff_not]; omega)
    refine T.hneed ?_ ?_
    · exact rowJ (fun r => by first | exact ⟨_, rfl⟩ | exact ⟨_, row_cl _ _ r⟩)
    refine T.hneed ?_ ?_
    · exact rowJ (fun r => by first | exact ⟨_, rfl⟩ | exact ⟨_, row_cl _ _ r⟩)
    refine T.hchk ?_ ?_
    · exact decide_eq_true (by omega)
    refine T.hchk ?_ ?_
    · exact decide_eq_true (by omega)
    refine T.hchk ?_ ?_
    · exact decide_eq_true (by omega)
    refine T.hchk ?_ ?_
    · exact decide_eq_true (by omega)
    refine T.hneed ?_ ?_
    · (intro d hd; dsimp only at hd ⊢; rw [intAt_hd, intAt_hd]; show clB _ _ _ = clB _ _ _; rw [cl_lt (by omega), cl_lt (by omega)])
    refine T.hchkT ?_
    refine T.hchkT ?_
    refine T.hchkT ?_
    refine T.hneed ?_ ?_
    · trivial
    refine T.hneed ?_ ?_
    · exact rowJ (fun r => by first | exact ⟨_, rfl⟩ | exact ⟨_, row_cl _ _ r⟩)
    refine T.hchkT ?_
    refine T.hchkT ?_
    refine T.hchkT ?_
    refine T.hchkT ?_
    refine T.hneed ?_ ?_
    · (intro d hd; exact absurd hd (Nat.not_lt_zero d))
    refine T.hchkT ?_
    refine T.hchkT ?_
    refine T.hiteP (fun g2 => ?_) (fun g2 => ?_)
    · skip
      exfalso; omega
    · skip
      refine T.hchkT ?_
      refine T.hiteP (fun g3 => ?_) (fun g3 => ?_)
      · skip
        exfalso; omega
      · skip
        refine T.hchkT ?_
        refine T.hiteP (fun g4 => ?_) (fun g4 => ?_)
        · skip
          exfalso; omega
        · skip
          refine T.hchkT ?_
          refine T.hiteP (fun g5 => ?_) (fun g5 => ?_)
          · skip
            exfalso; omega
          · skip
            refine T.hchkT ?_
            refine T.hchkT ?_
            refine T.hchk ?_ ?_
            · first | rfl | decide | (simp only [Bool.and_eq_true, decide_eq_true_eq]; omega) | (simp only [Bool.not_eq_true', decide_eq_false_iff_not]; omega)
            refine T.hchkT ?_
            refine T.hchkT ?_
            refine T.hchkT ?_
            refine T.hchkT ?_
            refine T.hchkT ?_
            refine T.hchkT ?_
            refine T.hchkT ?_
            refine T.hchk ?_ ?_
            · exact decide_eq_true (by omega)
            refine T.hiteP (fun g6 => ?_) (fun g6 => ?_)
            · skip
              exfalso; omega
            · skip
              refine T.hchk ?_ ?_
              · exact decide_eq_true (by omega)
              refine T.hall (fun c => ?_)
              refine T.hasmP (fun g7 => ?_)
              refine T.hneed ?_ ?_
              · exact rowJ (fun r => by first | exact ⟨_, rfl⟩ | exact ⟨_, row_cl _ _ r⟩)
              refine T.hneed ?_ ?_
              · exact rowJ (fun r => by first | exact ⟨_, rfl⟩ | exact ⟨_, row_cl _ _ r⟩)
              refine T.hchk ?_ ?_
              · exact decide_eq_true (by omega)
              refine T.hchk ?_ ?_
              · exact decide_eq_true (by omega)
              refine T.hchk ?_ ?_
              · exact decide_eq_true (by omega)
              refine T.hchk ?_ ?_
              · exact decide_eq_true (by omega)
              refine T.hneed ?_ ?_
              · (intro d hd; dsimp only at hd ⊢; rw [intAt_hd, intAt_hd]; dsimp only [Blk.rows, bytB]; rw [if_neg (by omega), if_pos (by omega)]; show _ = clB _ _ _; rw [cl_lt (by omega)]; first | exact congrArg f0 (show _ = _ by omega) | exact congrArg f1 (show _ = _ by omega))
              refine T.hchkT ?_
              refine T.hchkT ?_
              refine T.hchkT ?_
              refine T.hchkT ?_
              refine T.hchkT ?_
              refine T.hchkT ?_
              refine T.hneed ?_ ?_
              · trivial
              refine T.hneed ?_ ?_
              · trivial
              refine T.hchkT ?_
              refine T.hchkT ?_
              refine T.hchkT ?_
              refine T.hchkT ?_
              refine T.hneed ?_ ?_
              · (intro d hd; exact absurd hd (Nat.not_lt_zero d))
              refine T.hchkT ?_
              refine T.hret ?_
              exact ⟨id, ⟨[(4, .bool true)], [none, none]⟩, SubSt.mk (by simp [SubFr, slotAt, ren, below]) (Sub.nothing (n := 2) _), hR⟩
  · skip
    exfalso; omega

theorem db_h22 (M : Int) (n0 m0 c0 b0 s0 z0 x0 : Nat) (f0 : Nat → Int) (n1 m1 c1 b1 s1 z1 x1 : Nat) (f1 : Nat → Int) (hM : 0 ≤ M) (h0 : s0 ≤ m0 ∧ 0 < m0 ∧ m0 ≤ n0 ∧ n0 ≤ 1000 ∧ m0 ≤ x0 ∧ n0 ≤ z0 ∧ m0 ≤ c0 ∧ c0 ≤ b0 ∧ (m0 : Int) - s0 ≤ M) (h1 : s1 ≤ m1 ∧ 0 < m1 ∧ m1 ≤ n1 ∧ n1 ≤ 1000 ∧ m1 ≤ x1 ∧ n1 ≤ z1 ∧ m1 ≤ c1 ∧ c1 ≤ b1 ∧ (m1 : Int) - s1 ≤ M) {Q : Ex × St → Prop} (hR : Q (.ret, ⟨[(4, .bool true)], [none, none]⟩)) {C : List Code} (hC : C = (chainOf (codeOf Try.f4)).drop 13) :
    AWpL Try.prog dbF C ⟨[(5, .ptr 2 0 0 0), (7, .ptr 3 0 0 0), (11, .sl 6 0 1 0 n0 z0), (12, .sl 7 0 1 0 n1 z1), (13, .sl 8 0 1 0 m0 x0), (14, .sl 9 0 1 0 m1 x1), (15, .int .i64 M)], [none, none, some (skB [.sl 4 0 1 0 m0 c0, .int .i64 m0, .sl 5 0 1 0 m1 c1, .int .i64 m1, .int .i64 1000]), some (skB [.int .i64 s0, .int .i64 s1]), some (bytB b0 f0), some (bytB b1 f1), some (bytB z0 (clB f0 n0)), some (bytB z1 (clB f1 n1)), some (bytB x0 (clB f0 m0)), some (bytB x1 (clB f1 m1))]⟩ Q := by
  refine awpl_end (E := dbF) dbF_ok (by rw [hC]; exact noLoopsL_ok (by kernel_rfl)) (weak_keep [4] ?_)
  have hk0 := kp_bd (Nat.le_refl m0) (show m0 ≤ 1000 by omega) 0
  have hz0 : mx0 0 = 0 := rfl
  have hw0 : IntKind.wrap IntKind.i64 ((↑m0 : Int) - (↑s0 : Int)) = (↑m0 : Int) - (↑s0 : Int) := IntWalk.i64_in _ (by omega)
  have hk1 := kp_bd (Nat.le_refl m1) (show m1 ≤ 1000 by omega) 0
  have hz1 : mx0 0 = 0 := rfl
  have hw1 : IntKind.wrap IntKind.i64 ((↑m1 : Int) - (↑s1 : Int)) = (↑m1 : Int) - (↑s1 : Int) := IntWalk.i64_in _ (by omega)
  have hwz : IntKind.wrap IntKind.i64 ((0 : Int) - (0 : Int)) = 0 := by decide
  have e := db_f22 M n0 m0 c0 b0 s0 z0 x0 f0 n1 m1 c1 b1 s1 z1 x1 f1
  rw [← hC] at e
  refine T.cut_eq e ?_
  refine T.hiteP (fun g1 => ?_) (fun g1 => ?_)
  · skip
    refine T.hchk ?_ ?_
    · first | rfl | decide | (simp only [Bool.and_eq_true, decide_eq_true_eq]; omega) | (simp only [Bool.not_eq_true', decide_eq_false_iff_not]; omega)
    refine T.hneed ?_ ?_
    · exact rowJ (fun r => by first | exact ⟨_, rfl⟩ | exact ⟨_, row_cl _ _ r⟩)
    refine T.hneed ?_ ?_
    · exact rowJ (fun r => by first | exact ⟨_, rfl⟩ | exact ⟨_, row_cl _ _ r⟩)
    refine T.hchk ?_ ?_
    · exact decide_eq_true (by omega)
    refine T.hchk ?_ ?_
    · exact decide_eq_true (by omega)
    refine T.hchk ?_ ?_
    · exact decide_eq_true (by omega)
    refine T.hchk ?_ ?_
    · exact decide_eq_true (by omega)
    refine T.hneed ?_ ?_
    · (intro d hd; dsimp only at hd ⊢; rw [intAt_hd, intAt_hd]; show clB _ _ _ = clB _ _ _; rw [cl_lt (by omega), cl_lt (by omega)])
    refine T.hchkT ?_
    refine T.hiteP (fun g2 => ?_) (fun g2 => ?_)
    · skip
      refine T.hchk ?_ ?_
      · first | rfl | decide | (simp only [Bool.and_eq_true, decide_eq_true_eq]; omega) | (simp only [Bool.not_eq_true', decide_eq_false_iff_not]; omega)
      refine T.hneed ?_ ?_
      · exact rowJ (fun r => by first | exact ⟨_, rfl⟩ | exact ⟨_, row_cl _ _ r⟩)
      refine T.hneed ?_ ?_
      · exact rowJ (fun r => by first | exact ⟨_, rfl⟩ | exact ⟨_, row_cl _ _ r⟩)
      refine T.hchk ?_ ?_
      · exact decide_eq_true (by omega)
      refine T.hchk ?_ ?_
      · exact decide_eq_true (by omega)
      refine T.hchk ?_ ?_
      · exact decide_eq_true (by omega)
      refine T.hchk ?_ ?_
      · exact decide_eq_true (by omega)
      refine T.hneed ?_ ?_
      · (intro d hd; dsimp only at hd ⊢; rw [intAt_hd, intAt_hd]; show clB _ _ _ = clB _ _ _; rw [cl_lt (by omega), cl_lt (by omega)])
      refine T.hchkT ?_
      refine T.hchkT ?_
      refine T.hiteP (fun g3 => ?_) (fun g3 => ?_)
      · skip
        exfalso; omega
      · skip
        refine T.hchkT ?_
        refine T.hiteP (fun g4 => ?_) (fun g4 => ?_)
        · skip
          exfalso; omega
        · skip
          refine T.hchkT ?_
          refine T.hiteP (fun g5 => ?_) (fun g5 => ?_)
          · skip
            exfalso; omega
          · skip
            refine T.hchkT ?_
            refine T.hiteP (fun g6 => ?_) (fun g6 => ?_)
            · skip
              exfalso; omega
            · skip
              refine T.hchkT ?_
              refine T.hchkT ?_
              refine T.hchk ?_ ?_
              · first | rfl | decide | (simp only [Bool.and_eq_true, decide_eq_true_eq]; omega) | (simp only [Bool.not_eq_true', decide_eq_false_iff_not]; omega)
              refine T.hchkT ?_
              refine T.hchkT ?_
              refine T.hchk ?_ ?_
              · first | rfl | decide | (simp only [Bool.and_eq_true, decide_eq_true_eq]; omega) | (simp only [Bool.not_eq_true', decide_eq_false_iff_not]; omega)
              refine T.hchkT ?_
              refine T.hchkT ?_
              refine T.hchkT ?_
              refine T.hchkT ?_
              refine T.hchk ?_ ?_
              · exact decide_eq_true (by omega)
              refine T.hiteP (fun g7 => ?_) (fun g7 => ?_)
              · skip
                exfalso; omega
              · skip
                refine T.hchk ?_ ?_
                · exact decide_eq_true (by omega)
                refine T.hall (fun c => ?_)
                refine T.hasmP (fun g8 => ?_)
                refine T.hneed ?_ ?_
                · exact rowJ (fun r => by first | exact ⟨_, rfl⟩ | exact ⟨_, row_cl _ _ r⟩)
                refine T.hneed ?_ ?_
                · exact rowJ (fun r => by first | exact ⟨_, rfl⟩ | exact ⟨_, row_cl _ _ r⟩)
                refine T.hchk ?_ ?_
                · exact decide_eq_true (by omega)
                refine T.hchk ?_ ?_
                · exact decide_eq_true (by omega)
                refine T.hchk ?_ ?_
                · exact decide_eq_true (by omega)
                refine T.hchk ?_ ?_
                · exact decide_eq_true (by omega)
                refine T.hneed ?_ ?_
                · (intro d hd; dsimp only at hd ⊢; rw [intAt_hd, intAt_hd]; dsimp only [Blk.rows, bytB]; rw [if_neg (by omega), if_pos (by omega)]; show _ = clB _ _ _; rw [cl_lt (by omega)]; first | exact congrArg f0 (show _ = _ by omega) | exact congrArg f1 (show _ = _ by omega))
                refine T.hchkT ?_
                refine T.hchkT ?_
                refine T.hchkT ?_
                refine T.hchkT ?_
                refine T.hchk ?_ ?_
                · exact decide_eq_true (by omega)
                refine T.hiteP (fun g9 => ?_) (fun g9 => ?_)
                · skip
                  exfalso; omega
                · skip
                  refine T.hchk ?_ ?_
                  · exact decide_eq_true (by omega)
                  refine T.hall (fun c_1 => ?_)
                  refine T.hasmP (fun g10 => ?_)
                  refine T.hneed ?_ ?_
                  · exact rowJ (fun r => by first | exact ⟨_, rfl⟩ | exact ⟨_, row_cl _ _ r⟩)
                  refine T.hneed ?_ ?_
                  · exact rowJ (fun r => by first | exact ⟨_, rfl⟩ | exact ⟨_, row_cl _ _ r⟩)
                  refine T.hchk ?_ ?_
                  · exact decide_eq_true (by omega)
                  refine T.hchk ?_ ?_
                  · exact decide_eq_true (by omega)
                  refine T.hchk ?_ ?_
                  · exact decide_eq_true (by omega)
                  refine T.hchk ?_ ?_
                  · exact decide_eq_true (by omega)
                  refine T.hneed ?_ ?_
                  · (intro d hd; dsimp only at hd ⊢; rw [intAt_hd, intAt_hd]; dsimp only [Blk.rows, bytB]; rw [if_neg (by omega), if_pos (by omega)]; show _ = clB _ _ _; rw [cl_lt (by omega)]; first | exact congrArg f0 (show _ = _ by omega) | exact congrArg f1 (show _ = _ by omega))
                  refine T.hchkT ?_
                  refine T.hret ?_
                  exact ⟨id, ⟨[(4, .bool true)], [none, none]⟩, SubSt.mk (by simp [SubFr, slotAt, ren, below]) (Sub.nothing (n := 2) _), hR⟩
    · skip
      exfalso; omega
  · skip
    exfalso; omega

end Go.Proofs.Ytemgmcchepmicaa
