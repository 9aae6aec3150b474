/-
  Layer 13: Cuts, the first loop.
-/
import Derived.Test.YthfgojdpnbpjbaaHA
namespace Go.Proofs.Ythfgojdpnbpjbaa
open Go.Ox
set_option maxRecDepth 100000
set_option maxHeartbeats 4000000
set_option linter.unusedVariables false
set_option linter.unusedSimpArgs false

theorem sB_ok {n : Nat} {ρ : Nat → Nat} {l l' : List AV} (h : LAlike n ρ l' l) : BlkOK n ρ (sB l') (sB l) := ⟨fun h => h, h, rfl, rfl, (fun j hj => absurd hj (Nat.not_lt_zero j)), trivial⟩

theorem lB_ok {n : Nat} {ρ : Nat → Nat} {z y : Nat → Int} {cap : Nat} : BlkOK n ρ (lB z y cap) (lB z y cap) := BlkOK.rows' (fun h => h) fun j _ => pairs_alike

theorem c1_loop : LoopOK Try.prog cuE (loopAt (codeOf Try.f5) 0) := by
  refine loopSumm_ok (E := cuE) (inl_ok cuB_ok cuL cuL_ok) (noLoops (by kernel_rfl)) c1St c1Inv (fun x => x.at_ - x.i) c1Pick c1End ?_ (by kernel_rfl)
  rintro ⟨z, y, len, cap, at_, a, b, n, i, has, c⟩ ⟨h0, h1, h2, h3, h4, h5, h6⟩ Q hq
  dsimp only at h0 h1 h2 h3 h4 h5 h6
  obtain ⟨N, rfl⟩ : ∃ N : Nat, n = (N : Int) := ⟨n.toNat, by omega⟩
  refine round_keep [0, 1, 2, 3, 9, 10, 11] ?_
  have hw : IntKind.wrap IntKind.i64 ((i : Int) + 1) = ((i + 1 : Nat) : Int) := by rw [IntWalk.i64_in _ (by omega)]; omega
  cases has with
  | false =>
    obtain rfl := h5 rfl
    rw [c1_tree0]
    simp only [hw, Int.toNat_natCast, Nat.zero_add]
    refine T.hite (fun hi => ?_) (fun hi => ?_)
    · have hi : 0 < at_ := by have := of_decide_eq_true hi; omega
      repeat' first | with_reducible refine T.hneed trivial ?_ | with_reducible refine T.hneed rfl ?_ | with_reducible refine T.h_ff ?_ | with_reducible refine T.hall (fun c' => ?_) | with_reducible refine T.hasm (fun hc => ?_) | with_reducible refine T.hchk ?_ ?_
      all_goals first
        | rfl
        | (refine decide_eq_true ?_; omega)
        | (simp; omega)
        | skip
      refine T.hret ?_
      have hc : 1 ≤ c' := of_decide_eq_true hc
      exact Round.go ⟨z, y, len, cap, at_, a, b, N, 1, true, c'⟩ (fun x => if x = 2 then 4 else x) ⟨h0, h1, h2, h3, hi, (fun h => by cases h), fun _ => ⟨Nat.le_refl _, hc⟩⟩ (by dsimp only; omega) (SubSt.mk (by simp [c1St, SubFr, slotAt, ren, below]) (by
        refine sub3 (by omega) rfl lB_ok rfl (sB_ok (by simp [LAlike, ren, below, AV.scalar])) rfl (BlkOK.rows' (fun h => h) fun j _ => ?_)
        by_cases hj : j = 0
        · subst hj; simp [apZ, Col.at, LAlike, ren, below, AV.scalar]
        · simp [apZ, hj, AV.cells, LAlike, ren, below, AV.scalar])) hq
    · have hi : at_ = 0 := by have := of_decide_eq_false hi; omega
      subst hi
      refine T.hret ?_
      have hs : Sub 1 id [some (lB z y cap), some (sB [.nils, .nils, .int .i64 0, .ff])] [some (lB z y cap), some (sB [.nils, .nils, .int .i64 0, .ff])] :=
        Sub.same (by simp) ⟨⟨_, rfl, lB_ok⟩, ⟨_, rfl, sB_ok (by simp [LAlike, ren, below, AV.scalar])⟩, trivial⟩
      exact Round.out id ⟨[(0, .sl 0 0 2 0 len cap), (1, .int .i64 (0 : Nat)), (2, .int .i64 a), (3, .int .i64 b), (9, .ptr 1 0 0 0), (10, .int .i64 N)], [some (lB z y cap), some (sB [.nils, .nils, .int .i64 0, .ff])]⟩ (SubSt.mk (by simp [SubFr, slotAt, ren, below]) (by exact hs)) ((hq 0 (decide_eq_true rfl) N (decide_eq_true rfl)).1 rfl)
  | true =>
    obtain ⟨g1, g2⟩ := h6 rfl
    rw [c1_tree1]
    simp only [hw, Int.toNat_natCast, Nat.zero_add]
    refine T.hite (fun hi => ?_) (fun hi => ?_)
    · have hi : i < at_ := by have := of_decide_eq_true hi; omega
      repeat' first | with_reducible refine T.hneed trivial ?_ | with_reducible refine T.hneed rfl ?_ | with_reducible refine T.h_ff ?_ | with_reducible refine T.hall (fun c' => ?_) | with_reducible refine T.hasm (fun hc => ?_) | with_reducible refine T.hchk ?_ ?_
      all_goals first
        | rfl
        | (refine decide_eq_true ?_; omega)
        | (simp; omega)
        | skip
      refine T.hret ?_
      rename_i c1
      have hc : i + 1 ≤ c1 := of_decide_eq_true hc
      exact Round.go ⟨z, y, len, cap, at_, a, b, N, i + 1, true, c1⟩ (fun x => if x = 2 then 5 else x) ⟨h0, h1, h2, h3, hi, (fun h => by cases h), fun _ => ⟨by dsimp only; omega, hc⟩⟩ (by dsimp only; omega) (SubSt.mk (by simp [c1St, SubFr, slotAt, ren, below]) (by
        refine sub3 (by omega) rfl lB_ok rfl (sB_ok (by simp [LAlike, ren, below, AV.scalar])) rfl (BlkOK.rows' (fun h => h) fun j _ => ?_)
        by_cases hj : j < i
        · simp [apZ, hj, show j < i + 1 by omega, LAlike, ren, below, AV.scalar]
        · by_cases hj' : j = i
          · subst hj'; simp [apZ, Col.at, LAlike, ren, below, AV.scalar]
          · by_cases hd : c' = 0 <;> simp [apZ, hd, hj, show ¬ j < i + 1 by omega, AV.cells, LAlike, ren, below, AV.scalar])) hq
    · have hi : at_ = i := by have := of_decide_eq_false hi; omega
      subst hi
      refine T.hret ?_
      have hs : Sub 1 id [some (lB z y cap), some (sB [.sl 2 0 2 0 at_ c, .nils, .int .i64 0, .ff]), some (rB z y at_ c)] [some (lB z y cap), some (sB [.sl 2 0 2 0 at_ c, .nils, .int .i64 0, .ff]), some (rB z y at_ c)] :=
        Sub.same (by simp) ⟨⟨_, rfl, lB_ok⟩, ⟨_, rfl, sB_ok (by simp [LAlike, ren, below, AV.scalar])⟩, ⟨_, rfl, BlkOK.rows' (fun h => h) fun j _ => pairs_alike⟩, trivial⟩
      exact Round.out id ⟨[(0, .sl 0 0 2 0 len cap), (1, .int .i64 at_), (2, .int .i64 a), (3, .int .i64 b), (9, .ptr 1 0 0 0), (10, .int .i64 N)], [some (lB z y cap), some (sB [.sl 2 0 2 0 at_ c, .nils, .int .i64 0, .ff]), some (rB z y at_ c)]⟩ (SubSt.mk (by simp [SubFr, slotAt, ren, below]) (by exact hs)) ((hq at_ (decide_eq_true rfl) N (decide_eq_true rfl)).2 (decide_eq_false (by omega)) c (decide_eq_true g2))

end Go.Proofs.Ythfgojdpnbpjbaa
