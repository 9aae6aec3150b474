/-
  Layer 15: Begins: the end (00).
-/
import Derived.Test.YtemgmcchepmicaaHBfA
import Derived.Test.YtemgmcchepmicaaHBiA
namespace Go.Proofs.Ytemgmcchepmicaa
open Go.Ox

set_option maxRecDepth 100000
set_option maxHeartbeats 16000000
set_option linter.unusedVariables false
set_option linter.unusedSimpArgs false

theorem db_j00 (x : FD) (kd ar nn : Nat → Int) (len cap : Nat) (keep : Int) (i n0 c0 b0 s0 : Nat) (f0 : Nat → Int) (n1 c1 b1 s1 : Nat) (f1 : Nat → Int) (ha0 : AR.ok ⟨false, n0, c0, b0, s0, f0⟩) (ha1 : AR.ok ⟨false, n1, c1, b1, s1, f1⟩)
    {Q : Ex × St → Prop} (hR : Q (.ret, ⟨[(4, .bool true)], [none, none]⟩)) {C : List Code} (hC : C = (chainOf (codeOf Try.f4)).drop 7) :
    AWpL Try.prog (dbE 0) C ⟨dbFr ⟨x, kd, ar, nn, len, cap, keep, i, ⟨false, n0, c0, b0, s0, f0⟩, ⟨false, n1, c1, b1, s1, f1⟩⟩, actM x kd ar nn cap ++ dkM ⟨false, n0, c0, b0, s0, f0⟩ ⟨false, n1, c1, b1, s1, f1⟩⟩ Q := by
  refine awpl_cut (E := dbE 0) (bgO_ok _ _ _ _) 6 (by rw [hC]; exact noLoopsL_ok (by kernel_rfl)) (weak_keep [1, 5, 7, 11, 12, 13, 14, 15] ?_)
  have hk0 := kp_bd (Nat.le_refl 0) (Nat.zero_le 1000) keep
  have hk1 := kp_bd (Nat.le_refl 0) (Nat.zero_le 1000) keep
  have e := db_e00 x kd ar nn len cap keep i n0 c0 b0 s0 f0 n1 c1 b1 s1 f1
  rw [← hC] at e
  have hC6 : C.drop 6 = (chainOf (codeOf Try.f4)).drop 13 := by rw [hC, List.drop_drop]
  refine T.cut_eq e ?_
  refine T.hchkT ?_
  refine T.hchkT ?_
  refine T.hchkT ?_
  refine T.hchkT ?_
  refine T.hchkT ?_
  refine T.hchkT ?_
  refine T.hchkT ?_
  refine T.hchkT ?_
  refine T.hchk ?_ ?_
  · first | rfl | (simp only [Bool.and_eq_true, decide_eq_true_eq]; omega)
  refine T.hchkT ?_
  refine T.hchkT ?_
  refine T.hchk ?_ ?_
  · first | rfl | (simp only [Bool.and_eq_true, decide_eq_true_eq]; omega)
  refine T.hchkT ?_
  refine T.hchkT ?_
  refine T.hchkT ?_
  refine T.hchkT ?_
  refine T.hchkT ?_
  refine T.hchkT ?_
  refine T.hchkT ?_
  refine T.hret ?_
  refine ⟨rhoL [0, 1, 2, 3], _, ?_, then13 (db_hNN (mx0 keep) n0 (Int.toNat (kpI n0 s0 (keep))) c0 b0 s0 0 0 f0 n1 (Int.toNat (kpI n1 s1 (keep))) c1 b1 s1 0 0 f1 (mx_nn keep)  hR hC6)⟩
  refine subStL _ rfl rfl rfl (Nat.le_of_ble_eq_true rfl) ?_ ⟨⟨_, rfl, skB_ok (la_nil (la_int (by first | rfl | omega) (la_nil (la_int (by first | rfl | omega) (la_int (by first | rfl | omega) la_end)))))⟩, ⟨_, rfl, skB_ok (la_int (by first | rfl | omega) (la_int (by first | rfl | omega) la_end))⟩, trivial⟩
  simp only [SubFr, slotAt, ren, below, rhoL]
  have e1 : (if keep > (0 : Int) then keep else (0 : Int)) = mx0 keep := by unfold mx0; split <;> split <;> omega
  simp [e1, Ox.Alike_refl]



set_option maxRecDepth 100000
set_option maxHeartbeats 16000000
set_option linter.unusedVariables false
set_option linter.unusedSimpArgs false

theorem db_j01 (x : FD) (kd ar nn : Nat → Int) (len cap : Nat) (keep : Int) (i n0 c0 b0 s0 : Nat) (f0 : Nat → Int) (n1 c1 b1 s1 : Nat) (f1 : Nat → Int) (ha0 : AR.ok ⟨false, n0, c0, b0, s0, f0⟩) (ha1 : AR.ok ⟨true, n1, c1, b1, s1, f1⟩)
    {Q : Ex × St → Prop} (hR : Q (.ret, ⟨[(4, .bool true)], [none, none]⟩)) {C : List Code} (hC : C = (chainOf (codeOf Try.f4)).drop 7) :
    AWpL Try.prog (dbE 0) C ⟨dbFr ⟨x, kd, ar, nn, len, cap, keep, i, ⟨false, n0, c0, b0, s0, f0⟩, ⟨true, n1, c1, b1, s1, f1⟩⟩, actM x kd ar nn cap ++ dkM ⟨false, n0, c0, b0, s0, f0⟩ ⟨true, n1, c1, b1, s1, f1⟩⟩ Q := by
  refine awpl_cut (E := dbE 0) (bgO_ok _ _ _ _) 6 (by rw [hC]; exact noLoopsL_ok (by kernel_rfl)) (weak_keep [1, 5, 7, 11, 12, 13, 14, 15] ?_)
  have hk0 := kp_bd (Nat.le_refl 0) (Nat.zero_le 1000) keep
  obtain ⟨-, q11, q12, q13, q14⟩ := ha1
  dsimp only at q11 q12 q13 q14
  have hk1 := kp_bd q11 q12 keep
  have e := db_e01 x kd ar nn len cap keep i n0 c0 b0 s0 f0 n1 c1 b1 s1 f1
  rw [← hC] at e
  have hC6 : C.drop 6 = (chainOf (codeOf Try.f4)).drop 13 := by rw [hC, List.drop_drop]
  refine T.cut_eq e ?_
  refine T.hchkT ?_
  refine T.hchkT ?_
  refine T.hchkT ?_
  refine T.hchkT ?_
  refine T.hchkT ?_
  refine T.hchkT ?_
  refine T.hchk ?_ ?_
  · exact decide_eq_true (by omega)
  refine T.hiteP (fun g1 => ?_) (fun g1 => ?_)
  · skip
    refine T.hchkT ?_
    refine T.hchkT ?_
    refine T.hchk ?_ ?_
    · first | rfl | (simp only [Bool.and_eq_true, decide_eq_true_eq]; omega)
    refine T.hchkT ?_
    refine T.hchkT ?_
    refine T.hchk ?_ ?_
    · first | rfl | (simp only [Bool.and_eq_true, decide_eq_true_eq]; omega)
    refine T.hchkT ?_
    refine T.hchkT ?_
    refine T.hchkT ?_
    refine T.hchkT ?_
    refine T.hchkT ?_
    refine T.hchkT ?_
    refine T.hchkT ?_
    refine T.hchk ?_ ?_
    · exact decide_eq_true (by omega)
    refine T.hchk ?_ ?_
    · exact decide_eq_true (by omega)
    refine T.hret ?_
    refine ⟨rhoL [0, 1, 2, 3, 4], _, ?_, then13 (db_hN0 (mx0 keep) n0 (Int.toNat (kpI n0 s0 (keep))) c0 b0 s0 0 0 f0 n1 (Int.toNat (kpI n1 s1 (keep))) c1 b1 s1 0 0 f1 (mx_nn keep) ⟨by omega, by omega⟩ hR hC6)⟩
    refine subStL _ rfl rfl rfl (Nat.le_of_ble_eq_true rfl) ?_ ⟨⟨_, rfl, skB_ok (la_nil (la_int (by first | rfl | omega) (la_sl rfl (by decide) (by omega) rfl (la_int (by first | rfl | omega) (la_int (by first | rfl | omega) la_end)))))⟩, ⟨_, rfl, skB_ok (la_int (by first | rfl | omega) (la_int (by first | rfl | omega) la_end))⟩, ⟨_, rfl, byt_same⟩, trivial⟩
    simp only [SubFr, slotAt, ren, below, rhoL]
    have e1 : (if keep > (0 : Int) then keep else (0 : Int)) = mx0 keep := by unfold mx0; split <;> split <;> omega
    simp [e1, Ox.Alike_refl]
  · skip
    refine T.hchk ?_ ?_
    · exact decide_eq_true (by omega)
    refine T.hall (fun c => ?_)
    refine T.hasmP (fun g2 => ?_)
    refine T.hchkT ?_
    refine T.hchkT ?_
    refine T.hchk ?_ ?_
    · first | rfl | (simp only [Bool.and_eq_true, decide_eq_true_eq]; omega)
    refine T.hchkT ?_
    refine T.hchkT ?_
    refine T.hchk ?_ ?_
    · first | rfl | (simp only [Bool.and_eq_true, decide_eq_true_eq]; omega)
    refine T.hchkT ?_
    refine T.hchkT ?_
    refine T.hchkT ?_
    refine T.hchkT ?_
    refine T.hchkT ?_
    refine T.hchkT ?_
    refine T.hchkT ?_
    refine T.hchk ?_ ?_
    · exact decide_eq_true (by omega)
    refine T.hiteP (fun g3 => ?_) (fun g3 => ?_)
    · skip
      refine T.hret ?_
      refine ⟨rhoL [0, 1, 2, 3, 4, 5], _, ?_, then13 (db_hN1 (mx0 keep) n0 (Int.toNat (kpI n0 s0 (keep))) c0 b0 s0 0 0 f0 n1 (Int.toNat (kpI n1 s1 (keep))) c1 b1 s1 c 0 f1 (mx_nn keep) ⟨by omega, by omega, by omega, by omega, by omega⟩ hR hC6)⟩
      refine subStL _ rfl rfl rfl (Nat.le_of_ble_eq_true rfl) ?_ ⟨⟨_, rfl, skB_ok (la_nil (la_int (by first | rfl | omega) (la_sl rfl (by decide) (by omega) rfl (la_int (by first | rfl | omega) (la_int (by first | rfl | omega) la_end)))))⟩, ⟨_, rfl, skB_ok (la_int (by first | rfl | omega) (la_int (by first | rfl | omega) la_end))⟩, ⟨_, rfl, byt_same⟩, ⟨_, rfl, cl_ok⟩, trivial⟩
      simp only [SubFr, slotAt, ren, below, rhoL]
      have e1 : (if keep > (0 : Int) then keep else (0 : Int)) = mx0 keep := by unfold mx0; split <;> split <;> omega
      simp [e1, Ox.Alike_refl]
    · skip
      refine T.hchk ?_ ?_
      · exact decide_eq_true (by omega)
      refine T.hall (fun c_1 => ?_)
      refine T.hasmP (fun g4 => ?_)
      refine T.hret ?_
      refine ⟨rhoL [0, 1, 2, 3, 4, 5, 6], _, ?_, then13 (db_hN2 (mx0 keep) n0 (Int.toNat (kpI n0 s0 (keep))) c0 b0 s0 0 0 f0 n1 (Int.toNat (kpI n1 s1 (keep))) c1 b1 s1 c c_1 f1 (mx_nn keep) ⟨by omega, by omega, by omega, by omega, by omega, by omega, by omega, by omega, by omega⟩ hR hC6)⟩
      refine subStL _ rfl rfl rfl (Nat.le_of_ble_eq_true rfl) ?_ ⟨⟨_, rfl, skB_ok (la_nil (la_int (by first | rfl | omega) (la_sl rfl (by decide) (by omega) rfl (la_int (by first | rfl | omega) (la_int (by first | rfl | omega) la_end)))))⟩, ⟨_, rfl, skB_ok (la_int (by first | rfl | omega) (la_int (by first | rfl | omega) la_end))⟩, ⟨_, rfl, byt_same⟩, ⟨_, rfl, cl_ok⟩, ⟨_, rfl, cl_ok⟩, trivial⟩
      simp only [SubFr, slotAt, ren, below, rhoL]
      have e1 : (if keep > (0 : Int) then keep else (0 : Int)) = mx0 keep := by unfold mx0; split <;> split <;> omega
      simp [e1, Ox.Alike_refl]



set_option maxRecDepth 100000
set_option maxHeartbeats 16000000
set_option linter.unusedVariables false
set_option linter.unusedSimpArgs false

theorem db_j10 (x : FD) (kd ar nn : Nat → Int) (len cap : Nat) (keep : Int) (i n0 c0 b0 s0 : Nat) (f0 : Nat → Int) (n1 c1 b1 s1 : Nat) (f1 : Nat → Int) (ha0 : AR.ok ⟨true, n0, c0, b0, s0, f0⟩) (ha1 : AR.ok ⟨false, n1, c1, b1, s1, f1⟩)
    {Q : Ex × St → Prop} (hR : Q (.ret, ⟨[(4, .bool true)], [none, none]⟩)) {C : List Code} (hC : C = (chainOf (codeOf Try.f4)).drop 7) :
    AWpL Try.prog (dbE 0) C ⟨dbFr ⟨x, kd, ar, nn, len, cap, keep, i, ⟨true, n0, c0, b0, s0, f0⟩, ⟨false, n1, c1, b1, s1, f1⟩⟩, actM x kd ar nn cap ++ dkM ⟨true, n0, c0, b0, s0, f0⟩ ⟨false, n1, c1, b1, s1, f1⟩⟩ Q := by
  refine awpl_cut (E := dbE 0) (bgO_ok _ _ _ _) 6 (by rw [hC]; exact noLoopsL_ok (by kernel_rfl)) (weak_keep [1, 5, 7, 11, 12, 13, 14, 15] ?_)
  obtain ⟨-, q01, q02, q03, q04⟩ := ha0
  dsimp only at q01 q02 q03 q04
  have hk0 := kp_bd q01 q02 keep
  have hk1 := kp_bd (Nat.le_refl 0) (Nat.zero_le 1000) keep
  have e := db_e10 x kd ar nn len cap keep i n0 c0 b0 s0 f0 n1 c1 b1 s1 f1
  rw [← hC] at e
  have hC6 : C.drop 6 = (chainOf (codeOf Try.f4)).drop 13 := by rw [hC, List.drop_drop]
  refine T.cut_eq e ?_
  refine T.hchkT ?_
  refine T.hchkT ?_
  refine T.hchkT ?_
  refine T.hchk ?_ ?_
  · exact decide_eq_true (by omega)
  refine T.hiteP (fun g1 => ?_) (fun g1 => ?_)
  · skip
    refine T.hchkT ?_
    refine T.hchkT ?_
    refine T.hchkT ?_
    refine T.hchkT ?_
    refine T.hchkT ?_
    refine T.hchk ?_ ?_
    · first | rfl | (simp only [Bool.and_eq_true, decide_eq_true_eq]; omega)
    refine T.hchkT ?_
    refine T.hchkT ?_
    refine T.hchk ?_ ?_
    · first | rfl | (simp only [Bool.and_eq_true, decide_eq_true_eq]; omega)
    refine T.hchkT ?_
    refine T.hchkT ?_
    refine T.hchkT ?_
    refine T.hchkT ?_
    refine T.hchk ?_ ?_
    · exact decide_eq_true (by omega)
    refine T.hchk ?_ ?_
    · exact decide_eq_true (by omega)
    refine T.hchkT ?_
    refine T.hchkT ?_
    refine T.hchkT ?_
    refine T.hret ?_
    refine ⟨rhoL [0, 1, 2, 3, 4], _, ?_, then13 (db_h0N (mx0 keep) n0 (Int.toNat (kpI n0 s0 (keep))) c0 b0 s0 0 0 f0 n1 (Int.toNat (kpI n1 s1 (keep))) c1 b1 s1 0 0 f1 (mx_nn keep) ⟨by omega, by omega⟩ hR hC6)⟩
    refine subStL _ rfl rfl rfl (Nat.le_of_ble_eq_true rfl) ?_ ⟨⟨_, rfl, skB_ok (la_sl rfl (by decide) (by omega) rfl (la_int (by first | rfl | omega) (la_nil (la_int (by first | rfl | omega) (la_int (by first | rfl | omega) la_end)))))⟩, ⟨_, rfl, skB_ok (la_int (by first | rfl | omega) (la_int (by first | rfl | omega) la_end))⟩, ⟨_, rfl, byt_same⟩, trivial⟩
    simp only [SubFr, slotAt, ren, below, rhoL]
    have e1 : (if keep > (0 : Int) then keep else (0 : Int)) = mx0 keep := by unfold mx0; split <;> split <;> omega
    simp [e1, Ox.Alike_refl]
  · skip
    refine T.hchk ?_ ?_
    · exact decide_eq_true (by omega)
    refine T.hall (fun c => ?_)
    refine T.hasmP (fun g2 => ?_)
    refine T.hchkT ?_
    refine T.hchkT ?_
    refine T.hchkT ?_
    refine T.hchkT ?_
    refine T.hchkT ?_
    refine T.hchk ?_ ?_
    · first | rfl | (simp only [Bool.and_eq_true, decide_eq_true_eq]; omega)
    refine T.hchkT ?_
    refine T.hchkT ?_
    refine T.hchk ?_ ?_
    · first | rfl | (simp only [Bool.and_eq_true, decide_eq_true_eq]; omega)
    refine T.hchkT ?_
    refine T.hchkT ?_
    refine T.hchkT ?_
    refine T.hchkT ?_
    refine T.hchk ?_ ?_
    · exact decide_eq_true (by omega)
    refine T.hiteP (fun g3 => ?_) (fun g3 => ?_)
    · skip
      refine T.hchkT ?_
      refine T.hchkT ?_
      refine T.hchkT ?_
      refine T.hret ?_
      refine ⟨rhoL [0, 1, 2, 3, 4, 5], _, ?_, then13 (db_h1N (mx0 keep) n0 (Int.toNat (kpI n0 s0 (keep))) c0 b0 s0 c 0 f0 n1 (Int.toNat (kpI n1 s1 (keep))) c1 b1 s1 0 0 f1 (mx_nn keep) ⟨by omega, by omega, by omega, by omega, by omega⟩ hR hC6)⟩
      refine subStL _ rfl rfl rfl (Nat.le_of_ble_eq_true rfl) ?_ ⟨⟨_, rfl, skB_ok (la_sl rfl (by decide) (by omega) rfl (la_int (by first | rfl | omega) (la_nil (la_int (by first | rfl | omega) (la_int (by first | rfl | omega) la_end)))))⟩, ⟨_, rfl, skB_ok (la_int (by first | rfl | omega) (la_int (by first | rfl | omega) la_end))⟩, ⟨_, rfl, byt_same⟩, ⟨_, rfl, cl_ok⟩, trivial⟩
      simp only [SubFr, slotAt, ren, below, rhoL]
      have e1 : (if keep > (0 : Int) then keep else (0 : Int)) = mx0 keep := by unfold mx0; split <;> split <;> omega
      simp [e1, Ox.Alike_refl]
    · skip
      refine T.hchk ?_ ?_
      · exact decide_eq_true (by omega)
      refine T.hall (fun c_1 => ?_)
      refine T.hasmP (fun g4 => ?_)
      refine T.hchkT ?_
      refine T.hchkT ?_
      refine T.hchkT ?_
      refine T.hret ?_
      refine ⟨rhoL [0, 1, 2, 3, 4, 5, 6], _, ?_, then13 (db_h2N (mx0 keep) n0 (Int.toNat (kpI n0 s0 (keep))) c0 b0 s0 c c_1 f0 n1 (Int.toNat (kpI n1 s1 (keep))) c1 b1 s1 0 0 f1 (mx_nn keep) ⟨by omega, by omega, by omega, by omega, by omega, by omega, by omega, by omega, by omega⟩ hR hC6)⟩
      refine subStL _ rfl rfl rfl (Nat.le_of_ble_eq_true rfl) ?_ ⟨⟨_, rfl, skB_ok (la_sl rfl (by decide) (by omega) rfl (la_int (by first | rfl | omega) (la_nil (la_int (by first | rfl | omega) (la_int (by first | rfl | omega) la_end)))))⟩, ⟨_, rfl, skB_ok (la_int (by first | rfl | omega) (la_int (by first | rfl | omega) la_end))⟩, ⟨_, rfl, byt_same⟩, ⟨_, rfl, cl_ok⟩, ⟨_, rfl, cl_ok⟩, trivial⟩
      simp only [SubFr, slotAt, ren, below, rhoL]
      have e1 : (if keep > (0 : Int) then keep else (0 : Int)) = mx0 keep := by unfold mx0; split <;> split <;> omega
      simp [e1, Ox.Alike_refl]



set_option maxRecDepth 100000
set_option maxHeartbeats 16000000
set_option linter.unusedVariables false
set_option linter.unusedSimpArgs false

theorem db_j11 (x : FD) (kd ar nn : Nat → Int) (len cap : Nat) (keep : Int) (i n0 c0 b0 s0 : Nat) (f0 : Nat → Int) (n1 c1 b1 s1 : Nat) (f1 : Nat → Int) (ha0 : AR.ok ⟨true, n0, c0, b0, s0, f0⟩) (ha1 : AR.ok ⟨true, n1, c1, b1, s1, f1⟩)
    {Q : Ex × St → Prop} (hR : Q (.ret, ⟨[(4, .bool true)], [none, none]⟩)) {C : List Code} (hC : C = (chainOf (codeOf Try.f4)).drop 7) :
    AWpL Try.prog (dbE 0) C ⟨dbFr ⟨x, kd, ar, nn, len, cap, keep, i, ⟨true, n0, c0, b0, s0, f0⟩, ⟨true, n1, c1, b1, s1, f1⟩⟩, actM x kd ar nn cap ++ dkM ⟨true, n0, c0, b0, s0, f0⟩ ⟨true, n1, c1, b1, s1, f1⟩⟩ Q := by
  refine awpl_cut (E := dbE 0) (bgO_ok _ _ _ _) 6 (by rw [hC]; exact noLoopsL_ok (by kernel_rfl)) (weak_keep [1, 5, 7, 11, 12, 13, 14, 15] ?_)
  obtain ⟨-, q01, q02, q03, q04⟩ := ha0
  dsimp only at q01 q02 q03 q04
  have hk0 := kp_bd q01 q02 keep
  obtain ⟨-, q11, q12, q13, q14⟩ := ha1
  dsimp only at q11 q12 q13 q14
  have hk1 := kp_bd q11 q12 keep
  have e := db_e11 x kd ar nn len cap keep i n0 c0 b0 s0 f0 n1 c1 b1 s1 f1
  rw [← hC] at e
  have hC6 : C.drop 6 = (chainOf (codeOf Try.f4)).drop 13 := by rw [hC, List.drop_drop]
  refine T.cut_eq e ?_
  refine T.hchkT ?_
  refine T.hchkT ?_
  refine T.hchkT ?_
  refine T.hchk ?_ ?_
  · exact decide_eq_true (by omega)
  refine T.hiteP (fun g1 => ?_) (fun g1 => ?_)
  · skip
    refine T.hchkT ?_
    refine T.hchkT ?_
    refine T.hchkT ?_
    refine T.hchk ?_ ?_
    · exact decide_eq_true (by omega)
    refine T.hiteP (fun g2 => ?_) (fun g2 => ?_)
    · skip
      refine T.hchkT ?_
      refine T.hchkT ?_
      refine T.hchk ?_ ?_
      · first | rfl | (simp only [Bool.and_eq_true, decide_eq_true_eq]; omega)
      refine T.hchkT ?_
      refine T.hchkT ?_
      refine T.hchk ?_ ?_
      · first | rfl | (simp only [Bool.and_eq_true, decide_eq_true_eq]; omega)
      refine T.hchkT ?_
      refine T.hchkT ?_
      refine T.hchkT ?_
      refine T.hchkT ?_
      refine T.hchk ?_ ?_
      · exact decide_eq_true (by omega)
      refine T.hchk ?_ ?_
      · exact decide_eq_true (by omega)
      refine T.hchkT ?_
      refine T.hchkT ?_
      refine T.hchkT ?_
      refine T.hchk ?_ ?_
      · exact decide_eq_true (by omega)
      refine T.hchk ?_ ?_
      · exact decide_eq_true (by omega)
      refine T.hret ?_
      refine ⟨rhoL [0, 1, 2, 3, 4, 5], _, ?_, then13 (db_h00 (mx0 keep) n0 (Int.toNat (kpI n0 s0 (keep))) c0 b0 s0 0 0 f0 n1 (Int.toNat (kpI n1 s1 (keep))) c1 b1 s1 0 0 f1 (mx_nn keep) ⟨by omega, by omega⟩ ⟨by omega, by omega⟩ hR hC6)⟩
      refine subStL _ rfl rfl rfl (Nat.le_of_ble_eq_true rfl) ?_ ⟨⟨_, rfl, skB_ok (la_sl rfl (by decide) (by omega) rfl (la_int (by first | rfl | omega) (la_sl rfl (by decide) (by omega) rfl (la_int (by first | rfl | omega) (la_int (by first | rfl | omega) la_end)))))⟩, ⟨_, rfl, skB_ok (la_int (by first | rfl | omega) (la_int (by first | rfl | omega) la_end))⟩, ⟨_, rfl, byt_same⟩, ⟨_, rfl, byt_same⟩, trivial⟩
      simp only [SubFr, slotAt, ren, below, rhoL]
      have e1 : (if keep > (0 : Int) then keep else (0 : Int)) = mx0 keep := by unfold mx0; split <;> split <;> omega
      simp [e1, Ox.Alike_refl]
    · skip
      refine T.hchk ?_ ?_
      · exact decide_eq_true (by omega)
      refine T.hall (fun c => ?_)
      refine T.hasmP (fun g3 => ?_)
      refine T.hchkT ?_
      refine T.hchkT ?_
      refine T.hchk ?_ ?_
      · first | rfl | (simp only [Bool.and_eq_true, decide_eq_true_eq]; omega)
      refine T.hchkT ?_
      refine T.hchkT ?_
      refine T.hchk ?_ ?_
      · first | rfl | (simp only [Bool.and_eq_true, decide_eq_true_eq]; omega)
      refine T.hchkT ?_
      refine T.hchkT ?_
      refine T.hchkT ?_
      refine T.hchkT ?_
      refine T.hchk ?_ ?_
      · exact decide_eq_true (by omega)
      refine T.hchk ?_ ?_
      · exact decide_eq_true (by omega)
      refine T.hchkT ?_
      refine T.hchkT ?_
      refine T.hchkT ?_
      refine T.hchk ?_ ?_
      · exact decide_eq_true (by omega)
      refine T.hiteP (fun g4 => ?_) (fun g4 => ?_)
      · skip
        refine T.hret ?_
        refine ⟨rhoL [0, 1, 2, 3, 4, 5, 6], _, ?_, then13 (db_h01 (mx0 keep) n0 (Int.toNat (kpI n0 s0 (keep))) c0 b0 s0 0 0 f0 n1 (Int.toNat (kpI n1 s1 (keep))) c1 b1 s1 c 0 f1 (mx_nn keep) ⟨by omega, by omega⟩ ⟨by omega, by omega, by omega, by omega, by omega⟩ hR hC6)⟩
        refine subStL _ rfl rfl rfl (Nat.le_of_ble_eq_true rfl) ?_ ⟨⟨_, rfl, skB_ok (la_sl rfl (by decide) (by omega) rfl (la_int (by first | rfl | omega) (la_sl rfl (by decide) (by omega) rfl (la_int (by first | rfl | omega) (la_int (by first | rfl | omega) la_end)))))⟩, ⟨_, rfl, skB_ok (la_int (by first | rfl | omega) (la_int (by first | rfl | omega) la_end))⟩, ⟨_, rfl, byt_same⟩, ⟨_, rfl, byt_same⟩, ⟨_, rfl, cl_ok⟩, trivial⟩
        simp only [SubFr, slotAt, ren, below, rhoL]
        have e1 : (if keep > (0 : Int) then keep else (0 : Int)) = mx0 keep := by unfold mx0; split <;> split <;> omega
        simp [e1, Ox.Alike_refl]
      · skip
        refine T.hchk ?_ ?_
        · exact decide_eq_true (by omega)
        refine T.hall (fun c_1 => ?_)
        refine T.hasmP (fun g5 => ?_)
        refine T.hret ?_
        refine ⟨rhoL [0, 1, 2, 3, 4, 5, 6, 7], _, ?_, then13 (db_h02 (mx0 keep) n0 (Int.toNat (kpI n0 s0 (keep))) c0 b0 s0 0 0 f0 n1 (Int.toNat (kpI n1 s1 (keep))) c1 b1 s1 c c_1 f1 (mx_nn keep) ⟨by omega, by omega⟩ ⟨by omega, by omega, by omega, by omega, by omega, by omega, by omega, by omega, by omega⟩ hR hC6)⟩
        refine subStL _ rfl rfl rfl (Nat.le_of_ble_eq_true rfl) ?_ ⟨⟨_, rfl, skB_ok (la_sl rfl (by decide) (by omega) rfl (la_int (by first | rfl | omega) (la_sl rfl (by decide) (by omega) rfl (la_int (by first | rfl | omega) (la_int (by first | rfl | omega) la_end)))))⟩, ⟨_, rfl, skB_ok (la_int (by first | rfl | omega) (la_int (by first | rfl | omega) la_end))⟩, ⟨_, rfl, byt_same⟩, ⟨_, rfl, byt_same⟩, ⟨_, rfl, cl_ok⟩, ⟨_, rfl, cl_ok⟩, trivial⟩
        simp only [SubFr, slotAt, ren, below, rhoL]
        have e1 : (if keep > (0 : Int) then keep else (0 : Int)) = mx0 keep := by unfold mx0; split <;> split <;> omega
        simp [e1, Ox.Alike_refl]
  · skip
    refine T.hchk ?_ ?_
    · exact decide_eq_true (by omega)
    refine T.hall (fun c => ?_)
    refine T.hasmP (fun g6 => ?_)
    refine T.hchkT ?_
    refine T.hchkT ?_
    refine T.hchkT ?_
    refine T.hchk ?_ ?_
    · exact decide_eq_true (by omega)
    refine T.hiteP (fun g7 => ?_) (fun g7 => ?_)
    · skip
      refine T.hchkT ?_
      refine T.hchkT ?_
      refine T.hchk ?_ ?_
      · first | rfl | (simp only [Bool.and_eq_true, decide_eq_true_eq]; omega)
      refine T.hchkT ?_
      refine T.hchkT ?_
      refine T.hchk ?_ ?_
      · first | rfl | (simp only [Bool.and_eq_true, decide_eq_true_eq]; omega)
      refine T.hchkT ?_
      refine T.hchkT ?_
      refine T.hchkT ?_
      refine T.hchkT ?_
      refine T.hchk ?_ ?_
      · exact decide_eq_true (by omega)
      refine T.hiteP (fun g8 => ?_) (fun g8 => ?_)
      · skip
        refine T.hchkT ?_
        refine T.hchkT ?_
        refine T.hchkT ?_
        refine T.hchk ?_ ?_
        · exact decide_eq_true (by omega)
        refine T.hchk ?_ ?_
        · exact decide_eq_true (by omega)
        refine T.hret ?_
        refine ⟨rhoL [0, 1, 2, 3, 4, 5, 6], _, ?_, then13 (db_h10 (mx0 keep) n0 (Int.toNat (kpI n0 s0 (keep))) c0 b0 s0 c 0 f0 n1 (Int.toNat (kpI n1 s1 (keep))) c1 b1 s1 0 0 f1 (mx_nn keep) ⟨by omega, by omega, by omega, by omega, by omega⟩ ⟨by omega, by omega⟩ hR hC6)⟩
        refine subStL _ rfl rfl rfl (Nat.le_of_ble_eq_true rfl) ?_ ⟨⟨_, rfl, skB_ok (la_sl rfl (by decide) (by omega) rfl (la_int (by first | rfl | omega) (la_sl rfl (by decide) (by omega) rfl (la_int (by first | rfl | omega) (la_int (by first | rfl | omega) la_end)))))⟩, ⟨_, rfl, skB_ok (la_int (by first | rfl | omega) (la_int (by first | rfl | omega) la_end))⟩, ⟨_, rfl, byt_same⟩, ⟨_, rfl, byt_same⟩, ⟨_, rfl, cl_ok⟩, trivial⟩
        simp only [SubFr, slotAt, ren, below, rhoL]
        have e1 : (if keep > (0 : Int) then keep else (0 : Int)) = mx0 keep := by unfold mx0; split <;> split <;> omega
        simp [e1, Ox.Alike_refl]
      · skip
        refine T.hchk ?_ ?_
        · exact decide_eq_true (by omega)
        refine T.hall (fun c_1 => ?_)
        refine T.hasmP (fun g9 => ?_)
        refine T.hchkT ?_
        refine T.hchkT ?_
        refine T.hchkT ?_
        refine T.hchk ?_ ?_
        · exact decide_eq_true (by omega)
        refine T.hchk ?_ ?_
        · exact decide_eq_true (by omega)
        refine T.hret ?_
        refine ⟨rhoL [0, 1, 2, 3, 4, 5, 6, 7], _, ?_, then13 (db_h20 (mx0 keep) n0 (Int.toNat (kpI n0 s0 (keep))) c0 b0 s0 c c_1 f0 n1 (Int.toNat (kpI n1 s1 (keep))) c1 b1 s1 0 0 f1 (mx_nn keep) ⟨by omega, by omega, by omega, by omega, by omega, by omega, by omega, by omega, by omega⟩ ⟨by omega, by omega⟩ hR hC6)⟩
        refine subStL _ rfl rfl rfl (Nat.le_of_ble_eq_true rfl) ?_ ⟨⟨_, rfl, skB_ok (la_sl rfl (by decide) (by omega) rfl (la_int (by first | rfl | omega) (la_sl rfl (by decide) (by omega) rfl (la_int (by first | rfl | omega) (la_int (by first | rfl | omega) la_end)))))⟩, ⟨_, rfl, skB_ok (la_int (by first | rfl | omega) (la_int (by first | rfl | omega) la_end))⟩, ⟨_, rfl, byt_same⟩, ⟨_, rfl, byt_same⟩, ⟨_, rfl, cl_ok⟩, ⟨_, rfl, cl_ok⟩, trivial⟩
        simp only [SubFr, slotAt, ren, below, rhoL]
        have e1 : (if keep > (0 : Int) then keep else (0 : Int)) = mx0 keep := by unfold mx0; split <;> split <;> omega
        simp [e1, Ox.Alike_refl]
    · skip
      refine T.hchk ?_ ?_
      · exact decide_eq_true (by omega)
      refine T.hall (fun c_1 => ?_)
      refine T.hasmP (fun g10 => ?_)
      refine T.hchkT ?_
      refine T.hchkT ?_
      refine T.hchk ?_ ?_
      · first | rfl | (simp only [Bool.and_eq_true, decide_eq_true_eq]; omega)
      refine T.hchkT ?_
      refine T.hchkT ?_
      refine T.hchk ?_ ?_
      · first | rfl | (simp only [Bool.and_eq_true, decide_eq_true_eq]; omega)
      refine T.hchkT ?_
      refine T.hchkT ?_
      refine T.hchkT ?_
      refine T.hchkT ?_
      refine T.hchk ?_ ?_
      · exact decide_eq_true (by omega)
      refine T.hiteP (fun g11 => ?_) (fun g11 => ?_)
      · skip
        refine T.hchkT ?_
        refine T.hchkT ?_
        refine T.hchkT ?_
        refine T.hchk ?_ ?_
        · exact decide_eq_true (by omega)
        refine T.hiteP (fun g12 => ?_) (fun g12 => ?_)
        · skip
          refine T.hret ?_
          refine ⟨rhoL [0, 1, 2, 3, 4, 5, 6, 7], _, ?_, then13 (db_h11 (mx0 keep) n0 (Int.toNat (kpI n0 s0 (keep))) c0 b0 s0 c 0 f0 n1 (Int.toNat (kpI n1 s1 (keep))) c1 b1 s1 c_1 0 f1 (mx_nn keep) ⟨by omega, by omega, by omega, by omega, by omega⟩ ⟨by omega, by omega, by omega, by omega, by omega⟩ hR hC6)⟩
          refine subStL _ rfl rfl rfl (Nat.le_of_ble_eq_true rfl) ?_ ⟨⟨_, rfl, skB_ok (la_sl rfl (by decide) (by omega) rfl (la_int (by first | rfl | omega) (la_sl rfl (by decide) (by omega) rfl (la_int (by first | rfl | omega) (la_int (by first | rfl | omega) la_end)))))⟩, ⟨_, rfl, skB_ok (la_int (by first | rfl | omega) (la_int (by first | rfl | omega) la_end))⟩, ⟨_, rfl, byt_same⟩, ⟨_, rfl, byt_same⟩, ⟨_, rfl, cl_ok⟩, ⟨_, rfl, cl_ok⟩, trivial⟩
          simp only [SubFr, slotAt, ren, below, rhoL]
          have e1 : (if keep > (0 : Int) then keep else (0 : Int)) = mx0 keep := by unfold mx0; split <;> split <;> omega
          simp [e1, Ox.Alike_refl]
        · skip
          refine T.hchk ?_ ?_
          · exact decide_eq_true (by omega)
          refine T.hall (fun c_2 => ?_)
          refine T.hasmP (fun g13 => ?_)
          refine T.hret ?_
          refine ⟨rhoL [0, 1, 2, 3, 4, 5, 6, 7, 8], _, ?_, then13 (db_h12 (mx0 keep) n0 (Int.toNat (kpI n0 s0 (keep))) c0 b0 s0 c 0 f0 n1 (Int.toNat (kpI n1 s1 (keep))) c1 b1 s1 c_1 c_2 f1 (mx_nn keep) ⟨by omega, by omega, by omega, by omega, by omega⟩ ⟨by omega, by omega, by omega, by omega, by omega, by omega, by omega, by omega, by omega⟩ hR hC6)⟩
          refine subStL _ rfl rfl rfl (Nat.le_of_ble_eq_true rfl) ?_ ⟨⟨_, rfl, skB_ok (la_sl rfl (by decide) (by omega) rfl (la_int (by first | rfl | omega) (la_sl rfl (by decide) (by omega) rfl (la_int (by first | rfl | omega) (la_int (by first | rfl | omega) la_end)))))⟩, ⟨_, rfl, skB_ok (la_int (by first | rfl | omega) (la_int (by first | rfl | omega) la_end))⟩, ⟨_, rfl, byt_same⟩, ⟨_, rfl, byt_same⟩, ⟨_, rfl, cl_ok⟩, ⟨_, rfl, cl_ok⟩, ⟨_, rfl, cl_ok⟩, trivial⟩
          simp only [SubFr, slotAt, ren, below, rhoL]
          have e1 : (if keep > (0 : Int) then keep else (0 : Int)) = mx0 keep := by unfold mx0; split <;> split <;> omega
          simp [e1, Ox.Alike_refl]
      · skip
        refine T.hchk ?_ ?_
        · exact decide_eq_true (by omega)
        refine T.hall (fun c_2 => ?_)
        refine T.hasmP (fun g14 => ?_)
        refine T.hchkT ?_
        refine T.hchkT ?_
        refine T.hchkT ?_
        refine T.hchk ?_ ?_
        · exact decide_eq_true (by omega)
        refine T.hiteP (fun g15 => ?_) (fun g15 => ?_)
        · skip
          refine T.hret ?_
          refine ⟨rhoL [0, 1, 2, 3, 4, 5, 6, 7, 8], _, ?_, then13 (db_h21 (mx0 keep) n0 (Int.toNat (kpI n0 s0 (keep))) c0 b0 s0 c c_2 f0 n1 (Int.toNat (kpI n1 s1 (keep))) c1 b1 s1 c_1 0 f1 (mx_nn keep) ⟨by omega, by omega, by omega, by omega, by omega, by omega, by omega, by omega, by omega⟩ ⟨by omega, by omega, by omega, by omega, by omega⟩ hR hC6)⟩
          refine subStL _ rfl rfl rfl (Nat.le_of_ble_eq_true rfl) ?_ ⟨⟨_, rfl, skB_ok (la_sl rfl (by decide) (by omega) rfl (la_int (by first | rfl | omega) (la_sl rfl (by decide) (by omega) rfl (la_int (by first | rfl | omega) (la_int (by first | rfl | omega) la_end)))))⟩, ⟨_, rfl, skB_ok (la_int (by first | rfl | omega) (la_int (by first | rfl | omega) la_end))⟩, ⟨_, rfl, byt_same⟩, ⟨_, rfl, byt_same⟩, ⟨_, rfl, cl_ok⟩, ⟨_, rfl, cl_ok⟩, ⟨_, rfl, cl_ok⟩, trivial⟩
          simp only [SubFr, slotAt, ren, below, rhoL]
          have e1 : (if keep > (0 : Int) then keep else (0 : Int)) = mx0 keep := by unfold mx0; split <;> split <;> omega
          simp [e1, Ox.Alike_refl]
        · skip
          refine T.hchk ?_ ?_
          · exact decide_eq_true (by omega)
          refine T.hall (fun c_3 => ?_)
          refine T.hasmP (fun g16 => ?_)
          refine T.hret ?_
          refine ⟨rhoL [0, 1, 2, 3, 4, 5, 6, 7, 8, 9], _, ?_, then13 (db_h22 (mx0 keep) n0 (Int.toNat (kpI n0 s0 (keep))) c0 b0 s0 c c_2 f0 n1 (Int.toNat (kpI n1 s1 (keep))) c1 b1 s1 c_1 c_3 f1 (mx_nn keep) ⟨by omega, by omega, by omega, by omega, by omega, by omega, by omega, by omega, by omega⟩ ⟨by omega, by omega, by omega, by omega, by omega, by omega, by omega, by omega, by omega⟩ hR hC6)⟩
          refine subStL _ rfl rfl rfl (Nat.le_of_ble_eq_true rfl) ?_ ⟨⟨_, rfl, skB_ok (la_sl rfl (by decide) (by omega) rfl (la_int (by first | rfl | omega) (la_sl rfl (by decide) (by omega) rfl (la_int (by first | rfl | omega) (la_int (by first | rfl | omega) la_end)))))⟩, ⟨_, rfl, skB_ok (la_int (by first | rfl | omega) (la_int (by first | rfl | omega) la_end))⟩, ⟨_, rfl, byt_same⟩, ⟨_, rfl, byt_same⟩, ⟨_, rfl, cl_ok⟩, ⟨_, rfl, cl_ok⟩, ⟨_, rfl, cl_ok⟩, ⟨_, rfl, cl_ok⟩, trivial⟩
          simp only [SubFr, slotAt, ren, below, rhoL]
          have e1 : (if keep > (0 : Int) then keep else (0 : Int)) = mx0 keep := by unfold mx0; split <;> split <;> omega
          simp [e1, Ox.Alike_refl]

end Go.Proofs.Ytemgmcchepmicaa
