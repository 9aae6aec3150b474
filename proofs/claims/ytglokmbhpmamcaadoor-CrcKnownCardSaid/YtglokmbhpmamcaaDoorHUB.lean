/-
  Layer 2: CrcTurns.
-/
import Derived.Test.YtglokmbhpmamcaaDoorHUA
namespace Go.Proofs.YtglokmbhpmamcaaDoor
open Go.Ox
set_option maxRecDepth 100000
set_option maxHeartbeats 4000000
set_option linter.unusedVariables false
set_option linter.unusedSimpArgs false

theorem tu_nss (n2 : Nat) (f2 : Nat → Int) (l2 c2 : Nat) (n3 : Nat) (f3 : Nat → Int) (l3 c3 : Nat) : T.cut (((afn Tryd.prog (inlE Tryd.prog ltB2 lwL Tryd.f5 2) Tryd.f5 (codeOf Tryd.f5) [.nils, .sl 0 0 1 0 l2 c2, .sl 1 0 1 0 l3 c3] [some (cbV n2 f2), some (cbV n3 f3)]).bind fun r => .ret r.1)) [0, 1] = 
  T.chk true
    (T.chk true
      (T.chk true
        (T.need True
          (T.chk true
            (T.chk true
              (T.chk true
                (T.need (IntRow IntKind.u8 (Blk.mk false [] (1 : Nat) n3 (fun j => [AV.int IntKind.u8 (f3 j)]) []))
                  (T.need True
                    (T.chk true
                      (T.chk true
                        (T.chk true
                          (T.need (IntRow IntKind.u8 (Blk.mk false [] (1 : Nat) n2 (fun j => [AV.int IntKind.u8 (f2 j)]) []))
                            (T.chk true
                              (T.chk true
                                (T.chk true
                                  (T.need (IntRow IntKind.u8 (Blk.mk false [] (1 : Nat) n2 (fun j => [AV.int IntKind.u8 (f2 j)]) []))
                                    (T.need (IntRow IntKind.u8 (Blk.mk false [] (1 : Nat) n3 (fun j => [AV.int IntKind.u8 (f3 j)]) [])) (T.chk true (T.chk true (T.chk true (T.chk true (@T.chk AV true (T.need True (T.chk true (T.chk true (T.chk true (@T.chk AV true (T.ret (AV.bool true))))))))))))))))))))))))))))) := by
  kernel_rfl

theorem tu_nss_holds (n2 : Nat) (f2 : Nat → Int) (l2 c2 : Nat) (n3 : Nat) (f3 : Nat → Int) (l3 c3 : Nat) (hl2 : l2 ≤ c2) (hc2 : c2 ≤ n2) (hb2 : InB f2 c2) (hl3 : l3 ≤ c3) (hc3 : c3 ≤ n3) (hb3 : InB f3 c3) : ((afn Tryd.prog (inlE Tryd.prog ltB2 lwL Tryd.f5 2) Tryd.f5 (codeOf Tryd.f5) [.nils, .sl 0 0 1 0 l2 c2, .sl 1 0 1 0 l3 c3] [some (cbV n2 f2), some (cbV n3 f3)]).bind fun r => .ret r.1).holds fun v => v.yes = true := by
  refine T.cut_eq (tu_nss n2 f2 l2 c2 n3 f3 l3 c3) ?_
  generalize hm : (if (4096 : Int) < (if (l3 : Int) < (if (l2 : Int) < (0 : Int) then (l2 : Int) else (0 : Int)) then (l3 : Int) else (if (l2 : Int) < (0 : Int) then (l2 : Int) else (0 : Int))) then (4096 : Int) else (if (l3 : Int) < (if (l2 : Int) < (0 : Int) then (l2 : Int) else (0 : Int)) then (l3 : Int) else (if (l2 : Int) < (0 : Int) then (l2 : Int) else (0 : Int)))) = m0
  have hb : 0 ≤ m0 ∧ m0 ≤ (0 : Int) ∧ m0 ≤ (l2 : Int) ∧ m0 ≤ (l3 : Int) ∧ m0 ≤ 4096 := by
    rw [← hm]; refine ⟨?_, ?_, ?_, ?_, ?_⟩ <;> (repeat' split) <;> omega
  obtain ⟨N, rfl⟩ : ∃ N : Nat, m0 = (N : Int) := ⟨m0.toNat, by omega⟩
  clear hm
  try rw [show Int.toNat (N : Int) = N from rfl]
  have Z := moreI_zz
  revert Z
  generalize moreI = M
  intro Z
  repeat' first | with_reducible refine T.hneed rfl ?_ | with_reducible refine T.hneed trivial ?_ | with_reducible refine T.hall (fun _ => ?_) | with_reducible refine T.hasmP (fun _ => ?_) | with_reducible refine T.hasm (fun _ => ?_) | with_reducible refine T.hchkT ?_ | with_reducible refine T.hiteP (fun _ => ?_) (fun _ => ?_) | with_reducible refine T.hiteE (fun _ => ?_) (fun _ => ?_) | with_reducible refine T.hiteN (fun _ => ?_) (fun _ => ?_) | with_reducible refine T.hiteFP (fun _ => ?_) (fun _ => ?_) | with_reducible refine T.hiteFE (fun _ => ?_) (fun _ => ?_) | with_reducible refine T.hite (fun _ => ?_) (fun _ => ?_) | with_reducible refine T.hchk ?_ ?_ | with_reducible refine T.hneed ?_ ?_ | with_reducible refine T.hret ?_
  all_goals first
    | exact IntRow.rows
    | (simp only [Bool.and_eq_true, decide_eq_true_eq]; omega)
    | trivial
    | exact (rfl : (AV.bool true).yes = true)
    | (exfalso; omega)
    | (exfalso; rename_i h; obtain rfl : N = 0 := by omega
       simp only [Z] at h; exact h (by decide))
    | skip

theorem tu_nsn (n2 : Nat) (f2 : Nat → Int) (l2 c2 : Nat) : T.cut (((afn Tryd.prog (inlE Tryd.prog ltB2 lwL Tryd.f5 1) Tryd.f5 (codeOf Tryd.f5) [.nils, .sl 0 0 1 0 l2 c2, .nils] [some (cbV n2 f2)]).bind fun r => .ret r.1)) [1] = 
  T.chk true
    (T.chk true
      (T.chk true
        (T.need True
          (T.chk true
            (T.chk true
              (T.chk true
                (T.need True
                  (T.chk true
                    (T.chk true
                      (T.chk true
                        (T.need (IntRow IntKind.u8 (Blk.mk false [] (1 : Nat) n2 (fun j => [AV.int IntKind.u8 (f2 j)]) [])) (T.chk true (T.chk true (T.chk true (T.need (IntRow IntKind.u8 (Blk.mk false [] (1 : Nat) n2 (fun j => [AV.int IntKind.u8 (f2 j)]) [])) (T.chk true (T.chk true (T.need True (T.chk true (T.chk true (T.chk true (@T.chk AV true (T.ret (AV.bool true)))))))))))))))))))))))) := by
  kernel_rfl

theorem tu_nsn_holds (n2 : Nat) (f2 : Nat → Int) (l2 c2 : Nat) (hl2 : l2 ≤ c2) (hc2 : c2 ≤ n2) (hb2 : InB f2 c2) : ((afn Tryd.prog (inlE Tryd.prog ltB2 lwL Tryd.f5 1) Tryd.f5 (codeOf Tryd.f5) [.nils, .sl 0 0 1 0 l2 c2, .nils] [some (cbV n2 f2)]).bind fun r => .ret r.1).holds fun v => v.yes = true := by
  refine T.cut_eq (tu_nsn n2 f2 l2 c2) ?_
  generalize hm : (if (4096 : Int) < (if (0 : Int) < (if (l2 : Int) < (0 : Int) then (l2 : Int) else (0 : Int)) then (0 : Int) else (if (l2 : Int) < (0 : Int) then (l2 : Int) else (0 : Int))) then (4096 : Int) else (if (0 : Int) < (if (l2 : Int) < (0 : Int) then (l2 : Int) else (0 : Int)) then (0 : Int) else (if (l2 : Int) < (0 : Int) then (l2 : Int) else (0 : Int)))) = m0
  have hb : 0 ≤ m0 ∧ m0 ≤ (0 : Int) ∧ m0 ≤ (l2 : Int) ∧ m0 ≤ (0 : Int) ∧ m0 ≤ 4096 := by
    rw [← hm]; refine ⟨?_, ?_, ?_, ?_, ?_⟩ <;> (repeat' split) <;> omega
  obtain ⟨N, rfl⟩ : ∃ N : Nat, m0 = (N : Int) := ⟨m0.toNat, by omega⟩
  clear hm
  try rw [show Int.toNat (N : Int) = N from rfl]
  have Z := moreI_zz
  revert Z
  generalize moreI = M
  intro Z
  repeat' first | with_reducible refine T.hneed rfl ?_ | with_reducible refine T.hneed trivial ?_ | with_reducible refine T.hall (fun _ => ?_) | with_reducible refine T.hasmP (fun _ => ?_) | with_reducible refine T.hasm (fun _ => ?_) | with_reducible refine T.hchkT ?_ | with_reducible refine T.hiteP (fun _ => ?_) (fun _ => ?_) | with_reducible refine T.hiteE (fun _ => ?_) (fun _ => ?_) | with_reducible refine T.hiteN (fun _ => ?_) (fun _ => ?_) | with_reducible refine T.hiteFP (fun _ => ?_) (fun _ => ?_) | with_reducible refine T.hiteFE (fun _ => ?_) (fun _ => ?_) | with_reducible refine T.hite (fun _ => ?_) (fun _ => ?_) | with_reducible refine T.hchk ?_ ?_ | with_reducible refine T.hneed ?_ ?_ | with_reducible refine T.hret ?_
  all_goals first
    | exact IntRow.rows
    | (simp only [Bool.and_eq_true, decide_eq_true_eq]; omega)
    | trivial
    | exact (rfl : (AV.bool true).yes = true)
    | (exfalso; omega)
    | (exfalso; rename_i h; obtain rfl : N = 0 := by omega
       simp only [Z] at h; exact h (by decide))
    | skip

theorem tu_nns (n3 : Nat) (f3 : Nat → Int) (l3 c3 : Nat) : T.cut (((afn Tryd.prog (inlE Tryd.prog ltB2 lwL Tryd.f5 1) Tryd.f5 (codeOf Tryd.f5) [.nils, .nils, .sl 0 0 1 0 l3 c3] [some (cbV n3 f3)]).bind fun r => .ret r.1)) [1] = 
  T.chk true
    (T.chk true
      (T.chk true
        (T.need True
          (T.chk true
            (T.chk true
              (T.chk true
                (T.need (IntRow IntKind.u8 (Blk.mk false [] (1 : Nat) n3 (fun j => [AV.int IntKind.u8 (f3 j)]) []))
                  (T.need True (T.chk true (T.chk true (T.chk true (T.need True (T.chk true (T.chk true (T.chk true (T.need (IntRow IntKind.u8 (Blk.mk false [] (1 : Nat) n3 (fun j => [AV.int IntKind.u8 (f3 j)]) [])) (T.need True (T.chk true (T.chk true (T.chk true (@T.chk AV true (T.ret (AV.bool true))))))))))))))))))))))) := by
  kernel_rfl

theorem tu_nns_holds (n3 : Nat) (f3 : Nat → Int) (l3 c3 : Nat) (hl3 : l3 ≤ c3) (hc3 : c3 ≤ n3) (hb3 : InB f3 c3) : ((afn Tryd.prog (inlE Tryd.prog ltB2 lwL Tryd.f5 1) Tryd.f5 (codeOf Tryd.f5) [.nils, .nils, .sl 0 0 1 0 l3 c3] [some (cbV n3 f3)]).bind fun r => .ret r.1).holds fun v => v.yes = true := by
  refine T.cut_eq (tu_nns n3 f3 l3 c3) ?_
  generalize hm : (if (4096 : Int) < (if (l3 : Int) < (if (0 : Int) < (0 : Int) then (0 : Int) else (0 : Int)) then (l3 : Int) else (if (0 : Int) < (0 : Int) then (0 : Int) else (0 : Int))) then (4096 : Int) else (if (l3 : Int) < (if (0 : Int) < (0 : Int) then (0 : Int) else (0 : Int)) then (l3 : Int) else (if (0 : Int) < (0 : Int) then (0 : Int) else (0 : Int)))) = m0
  have hb : 0 ≤ m0 ∧ m0 ≤ (0 : Int) ∧ m0 ≤ (0 : Int) ∧ m0 ≤ (l3 : Int) ∧ m0 ≤ 4096 := by
    rw [← hm]; refine ⟨?_, ?_, ?_, ?_, ?_⟩ <;> (repeat' split) <;> omega
  obtain ⟨N, rfl⟩ : ∃ N : Nat, m0 = (N : Int) := ⟨m0.toNat, by omega⟩
  clear hm
  try rw [show Int.toNat (N : Int) = N from rfl]
  have Z := moreI_zz
  revert Z
  generalize moreI = M
  intro Z
  repeat' first | with_reducible refine T.hneed rfl ?_ | with_reducible refine T.hneed trivial ?_ | with_reducible refine T.hall (fun _ => ?_) | with_reducible refine T.hasmP (fun _ => ?_) | with_reducible refine T.hasm (fun _ => ?_) | with_reducible refine T.hchkT ?_ | with_reducible refine T.hiteP (fun _ => ?_) (fun _ => ?_) | with_reducible refine T.hiteE (fun _ => ?_) (fun _ => ?_) | with_reducible refine T.hiteN (fun _ => ?_) (fun _ => ?_) | with_reducible refine T.hiteFP (fun _ => ?_) (fun _ => ?_) | with_reducible refine T.hiteFE (fun _ => ?_) (fun _ => ?_) | with_reducible refine T.hite (fun _ => ?_) (fun _ => ?_) | with_reducible refine T.hchk ?_ ?_ | with_reducible refine T.hneed ?_ ?_ | with_reducible refine T.hret ?_
  all_goals first
    | exact IntRow.rows
    | (simp only [Bool.and_eq_true, decide_eq_true_eq]; omega)
    | trivial
    | exact (rfl : (AV.bool true).yes = true)
    | (exfalso; omega)
    | (exfalso; rename_i h; obtain rfl : N = 0 := by omega
       simp only [Z] at h; exact h (by decide))
    | skip

theorem tu_nnn : T.cut (((afn Tryd.prog (inlE Tryd.prog ltB2 lwL Tryd.f5 0) Tryd.f5 (codeOf Tryd.f5) [.nils, .nils, .nils] []).bind fun r => .ret r.1)) [1] = 
  T.chk true (T.chk true (T.chk true (T.need True (T.chk true (T.chk true (T.chk true (T.need True (T.chk true (T.chk true (T.chk true (T.need True (T.chk true (T.chk true (T.chk true (T.need True (T.chk true (T.chk true (T.chk true (@T.chk AV true (T.ret (AV.bool true))))))))))))))))))))) := by
  kernel_rfl

theorem tu_nnn_holds : ((afn Tryd.prog (inlE Tryd.prog ltB2 lwL Tryd.f5 0) Tryd.f5 (codeOf Tryd.f5) [.nils, .nils, .nils] []).bind fun r => .ret r.1).holds fun v => v.yes = true := by
  refine T.cut_eq (tu_nnn) ?_
  generalize hm : (if (4096 : Int) < (if (0 : Int) < (if (0 : Int) < (0 : Int) then (0 : Int) else (0 : Int)) then (0 : Int) else (if (0 : Int) < (0 : Int) then (0 : Int) else (0 : Int))) then (4096 : Int) else (if (0 : Int) < (if (0 : Int) < (0 : Int) then (0 : Int) else (0 : Int)) then (0 : Int) else (if (0 : Int) < (0 : Int) then (0 : Int) else (0 : Int)))) = m0
  have hb : 0 ≤ m0 ∧ m0 ≤ (0 : Int) ∧ m0 ≤ (0 : Int) ∧ m0 ≤ (0 : Int) ∧ m0 ≤ 4096 := by
    rw [← hm]; refine ⟨?_, ?_, ?_, ?_, ?_⟩ <;> (repeat' split) <;> omega
  obtain ⟨N, rfl⟩ : ∃ N : Nat, m0 = (N : Int) := ⟨m0.toNat, by omega⟩
  clear hm
  have Z := moreI_zz
  revert Z
  generalize moreI = M
  intro Z
  repeat' first | with_reducible refine T.hneed rfl ?_ | with_reducible refine T.hneed trivial ?_ | with_reducible refine T.hall (fun _ => ?_) | with_reducible refine T.hasmP (fun _ => ?_) | with_reducible refine T.hasm (fun _ => ?_) | with_reducible refine T.hchkT ?_ | with_reducible refine T.hiteP (fun _ => ?_) (fun _ => ?_) | with_reducible refine T.hiteE (fun _ => ?_) (fun _ => ?_) | with_reducible refine T.hiteN (fun _ => ?_) (fun _ => ?_) | with_reducible refine T.hiteFP (fun _ => ?_) (fun _ => ?_) | with_reducible refine T.hiteFE (fun _ => ?_) (fun _ => ?_) | with_reducible refine T.hite (fun _ => ?_) (fun _ => ?_) | with_reducible refine T.hchk ?_ ?_ | with_reducible refine T.hneed ?_ ?_ | with_reducible refine T.hret ?_
  all_goals first
    | exact IntRow.rows
    | (simp only [Bool.and_eq_true, decide_eq_true_eq]; omega)
    | trivial
    | exact (rfl : (AV.bool true).yes = true)
    | (exfalso; omega)
    | (exfalso; rename_i h; obtain rfl : N = 0 := by omega
       simp only [Z] at h; exact h (by decide))
    | skip

theorem tu_law : ∀ args m, ArgsAV [PK.one (CK.sl [CK.int IntKind.u8]), PK.one (CK.sl [CK.int IntKind.u8]), PK.one (CK.sl [CK.int IntKind.u8])] [] args m → Walks Tryd.prog Tryd.f5 (codeOf Tryd.f5) args m := by
  intro args m h0
  rcases args_ints h0 with ⟨_, rfl, h1⟩ | ⟨l1, c1, f1, _, rfl, hl1, hc1, hz1, h1⟩
  · rcases args_ints h1 with ⟨_, rfl, h2⟩ | ⟨l2, c2, f2, _, rfl, hl2, hc2, hz2, h2⟩
    · rcases args_ints h2 with ⟨_, rfl, h3⟩ | ⟨l3, c3, f3, _, rfl, hl3, hc3, hz3, h3⟩
      · obtain ⟨rfl, rfl⟩ := args_nil h3
        exact inlE_walks (m := []) ltB2_ok lwL_ok (by kernel_rfl) (tu_nnn_holds)
      · obtain ⟨rfl, rfl⟩ := args_nil h3
        exact inlE_walks (m := [some (cbV c3 f3)]) ltB2_ok lwL_ok (by kernel_rfl) (tu_nns_holds c3 f3 l3 c3 hl3 (Nat.le_refl _) (fun d hd => wf_u8 (hz3 d hd)))
    · rcases args_ints h2 with ⟨_, rfl, h3⟩ | ⟨l3, c3, f3, _, rfl, hl3, hc3, hz3, h3⟩
      · obtain ⟨rfl, rfl⟩ := args_nil h3
        exact inlE_walks (m := [some (cbV c2 f2)]) ltB2_ok lwL_ok (by kernel_rfl) (tu_nsn_holds c2 f2 l2 c2 hl2 (Nat.le_refl _) (fun d hd => wf_u8 (hz2 d hd)))
      · obtain ⟨rfl, rfl⟩ := args_nil h3
        exact inlE_walks (m := [some (cbV c2 f2), some (cbV c3 f3)]) ltB2_ok lwL_ok (by kernel_rfl) (tu_nss_holds c2 f2 l2 c2 c3 f3 l3 c3 hl2 (Nat.le_refl _) (fun d hd => wf_u8 (hz2 d hd)) hl3 (Nat.le_refl _) (fun d hd => wf_u8 (hz3 d hd)))
  · rcases args_ints h1 with ⟨_, rfl, h2⟩ | ⟨l2, c2, f2, _, rfl, hl2, hc2, hz2, h2⟩
    · rcases args_ints h2 with ⟨_, rfl, h3⟩ | ⟨l3, c3, f3, _, rfl, hl3, hc3, hz3, h3⟩
      · obtain ⟨rfl, rfl⟩ := args_nil h3
        exact inlE_walks (m := [some (cbV c1 f1)]) ltB2_ok lwL_ok (by kernel_rfl) (tu_snn_holds c1 f1 l1 c1 hl1 (Nat.le_refl _) (fun d hd => wf_u8 (hz1 d hd)))
      · obtain ⟨rfl, rfl⟩ := args_nil h3
        exact inlE_walks (m := [some (cbV c1 f1), some (cbV c3 f3)]) ltB2_ok lwL_ok (by kernel_rfl) (tu_sns_holds c1 f1 l1 c1 c3 f3 l3 c3 hl1 (Nat.le_refl _) (fun d hd => wf_u8 (hz1 d hd)) hl3 (Nat.le_refl _) (fun d hd => wf_u8 (hz3 d hd)))
    · rcases args_ints h2 with ⟨_, rfl, h3⟩ | ⟨l3, c3, f3, _, rfl, hl3, hc3, hz3, h3⟩
      · obtain ⟨rfl, rfl⟩ := args_nil h3
        exact inlE_walks (m := [some (cbV c1 f1), some (cbV c2 f2)]) ltB2_ok lwL_ok (by kernel_rfl) (tu_ssn_holds c1 f1 l1 c1 c2 f2 l2 c2 hl1 (Nat.le_refl _) (fun d hd => wf_u8 (hz1 d hd)) hl2 (Nat.le_refl _) (fun d hd => wf_u8 (hz2 d hd)))
      · obtain ⟨rfl, rfl⟩ := args_nil h3
        exact inlE_walks (m := [some (cbV c1 f1), some (cbV c2 f2), some (cbV c3 f3)]) ltB2_ok lwL_ok (by kernel_rfl) (tu_sss_holds c1 f1 l1 c1 c2 f2 l2 c2 c3 f3 l3 c3 hl1 (Nat.le_refl _) (fun d hd => wf_u8 (hz1 d hd)) hl2 (Nat.le_refl _) (fun d hd => wf_u8 (hz2 d hd)) hl3 (Nat.le_refl _) (fun d hd => wf_u8 (hz3 d hd)))

end Go.Proofs.YtglokmbhpmamcaaDoor
