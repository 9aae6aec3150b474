/-
  Layer 15: Plays: an act.
-/
import Derived.Test.YtemgmcchepmicaaHPeA
namespace Go.Proofs.Ytemgmcchepmicaa
open Go.Ox

set_option maxRecDepth 100000
set_option maxHeartbeats 16000000
set_option linter.unusedVariables false
set_option linter.unusedSimpArgs false

theorem pl_r000 (K M : Int) (x : FD) (kd ar nn : Nat → Int) (len cap i : Nat) (N : Int) (n0 s0 c0 b0 : Nat) (f0 : Nat → Int) (d0 e0 : Nat) (g0 : Nat → Int) (n1 s1 c1 b1 : Nat) (f1 : Nat → Int) (d1 e1 : Nat) (g1 : Nat → Int) (hwf : x.wf .u8) (hL : x.ln [i] ≤ 4096) (hN : 64 ≤ N ∧ N ≤ 262144) (ha : PR.ok N ⟨false, n0, s0, c0, b0, f0, d0, e0, g0⟩) (he : PR.ok N ⟨false, n1, s1, c1, b1, f1, d1, e1, g1⟩) {Q : Ex × St → Prop}
    (hR : Q (.ret, ⟨[(4, .bool true)], [none, none]⟩)) (K0 : ∀ a e, PR.ok N a → PR.ok N e → Q (.norm, plSt ⟨x, kd, ar, nn, len, cap, N, i, a, e⟩)) {D : List Code} (hD : D = (chainOf plD).drop 3) :
    (acodeL Try.prog plE D ⟨(10, .ptr 4 0 0 0) :: plFr len cap i, actM x kd ar nn cap ++ plM N ⟨false, n0, s0, c0, b0, f0, d0, e0, g0⟩ ⟨false, n1, s1, c1, b1, f1, d1, e1, g1⟩ ++ [some (boxB K 0 M i)]⟩).holds (Weak plE Q) := by
  obtain ⟨ha0, ha1, ha2, ⟨ha3, ha4⟩, ⟨ha5, ha6⟩, hfg0⟩ := ha
  obtain ⟨he0, he1, he2, ⟨he3, he4⟩, ⟨he5, he6⟩, hfg1⟩ := he
  dsimp only at ha0 ha1 ha2 ha3 ha4 ha5 ha6 hfg0 he0 he1 he2 he3 he4 he5 he6 hfg1
  have hr0 : IntKind.wrap IntKind.i64 (N - (↑n0 : Int)) = N - (↑n0 : Int) := IntWalk.i64_in _ (by omega)
  have hr1 : IntKind.wrap IntKind.i64 (N - (↑n1 : Int)) = N - (↑n1 : Int) := IntWalk.i64_in _ (by omega)
  have hrz : IntKind.wrap IntKind.i64 (N - (0 : Int)) = N - (0 : Int) := IntWalk.i64_in _ (by omega)
  have hk0 := cr_bd ha1 (by omega) M
  have hk1 := cr_bd he1 (by omega) M
  have hkz := cr_bd (Nat.le_refl 0) (by decide) M
  have hc0 := ct_eq n0 M
  have hc1 := ct_eq n1 M
  have hcz := ct_eq 0 M
  have hle := hwf.le [i]
  have e := pl_t000 K M x kd ar nn len cap i N n0 s0 c0 b0 f0 d0 e0 g0 n1 s1 c1 b1 f1 d1 e1 g1
  rw [← hD] at e
  refine weak_keep [1, 4, 5, 7, 9] (T.cut_eq e ?_)
  clear e
  refine T.hiteE (fun gh1 => ?_) (fun gh1 => ?_)
  ·
   refine T.hchkT ?_
   refine T.hchkT ?_
   refine T.hchkT ?_
   refine T.hchkT ?_
   refine T.hchkT ?_
   refine T.hchkT ?_
   refine T.hchkT ?_
   refine T.hneed ?_ ?_
   · exact ⟨rfl, ⟨rfl, rfl, rfl⟩, ⟨rfl, rfl, rfl⟩, trivial, trivial⟩
   refine T.hchkT ?_
   refine T.hret ?_
   exact ⟨_, plSt ⟨x, kd, ar, nn, len, cap, N, i, ⟨false, 0, 0, 0, 0, fun _ => 0, 0, 0, fun _ => 0⟩, ⟨false, 0, 0, 0, 0, fun _ => 0, 0, 0, fun _ => 0⟩⟩, sT [0, 1, 2, 3] ⟨⟨_, rfl, x.ok⟩, ⟨_, rfl, act_ok (by decide) rfl⟩, ⟨_, rfl, skB_ok (la_nil (iI (la_nil (iI (iI la_end)))))⟩, ⟨_, rfl, skB_ok (iI (la_nil (la_nil (iI (iI la_end)))))⟩, trivial⟩, K0 _ _ okN okN⟩
  ·
   refine T.hiteE (fun gh2 => ?_) (fun gh2 => ?_)
   ·
    refine T.hchkT ?_
    refine T.hchkT ?_
    refine T.hchkT ?_
    refine T.hchk ?_ ?_
    · first | rfl | (simp only [Bool.and_eq_true, decide_eq_true_eq]; omega)
    refine T.hchkT ?_
    refine T.hchkT ?_
    refine T.hiteP (fun gh3 => ?_) (fun gh3 => ?_)
    ·
     refine T.hchkT ?_
     refine T.hchk ?_ ?_
     · first | rfl | (simp only [Bool.and_eq_true, decide_eq_true_eq]; omega)
     refine T.hchkT ?_
     refine T.hchkT ?_
     refine T.hchkT ?_
     refine T.hchkT ?_
     refine T.hneed ?_ ?_
     · exact ⟨rfl, ⟨rfl, rfl, rfl⟩, ⟨rfl, rfl, rfl⟩, trivial, trivial⟩
     refine T.hchkT ?_
     refine T.hret ?_
     exact ⟨_, plSt ⟨x, kd, ar, nn, len, cap, N, i, ⟨false, 0, 0, 0, 0, fun _ => 0, 0, 0, fun _ => 0⟩, ⟨false, 0, 0, 0, 0, fun _ => 0, 0, 0, fun _ => 0⟩⟩, sT [0, 1, 2, 3] ⟨⟨_, rfl, x.ok⟩, ⟨_, rfl, act_ok (by decide) rfl⟩, ⟨_, rfl, skB_ok (la_nil (iI (la_nil (iI (iI la_end)))))⟩, ⟨_, rfl, skB_ok (iI (la_nil (la_nil (iI (iI la_end)))))⟩, trivial⟩, K0 _ _ okN okN⟩
    ·
     refine T.hchkT ?_
     refine T.hchkT ?_
     refine T.hchkT ?_
     refine T.hneed ?_ ?_
     · exact ⟨rfl, ⟨rfl, rfl, rfl⟩, ⟨rfl, rfl, rfl⟩, trivial, trivial⟩
     refine T.hchkT ?_
     refine T.hret ?_
     exact ⟨_, plSt ⟨x, kd, ar, nn, len, cap, N, i, ⟨false, 0, 0, 0, 0, fun _ => 0, 0, 0, fun _ => 0⟩, ⟨false, 0, 0, 0, 0, fun _ => 0, 0, 0, fun _ => 0⟩⟩, sT [0, 1, 2, 3] ⟨⟨_, rfl, x.ok⟩, ⟨_, rfl, act_ok (by decide) rfl⟩, ⟨_, rfl, skB_ok (la_nil (iI (la_nil (iI (iI la_end)))))⟩, ⟨_, rfl, skB_ok (iI (la_nil (la_nil (iI (iI la_end)))))⟩, trivial⟩, K0 _ _ okN okN⟩
   ·
    refine T.hiteE (fun gh4 => ?_) (fun gh4 => ?_)
    ·
     refine T.hchkT ?_
     refine T.hchkT ?_
     refine T.hchk ?_ ?_
     · first | rfl | (simp only [Bool.and_eq_true, decide_eq_true_eq]; omega)
     refine T.hchkT ?_
     refine T.hchkT ?_
     refine T.hchk ?_ ?_
     · first | rfl | (simp only [Bool.and_eq_true, decide_eq_true_eq]; omega)
     refine T.hchkT ?_
     refine T.hchkT ?_
     refine T.hchkT ?_
     refine T.hchkT ?_
     refine T.hchkT ?_
     refine T.hchkT ?_
     refine T.hchkT ?_
     refine T.hiteP (fun gh5 => ?_) (fun gh5 => ?_)
     ·
      refine T.hchkT ?_
      refine T.hchk ?_ ?_
      · first | rfl | (simp only [Bool.and_eq_true, decide_eq_true_eq]; omega)
      refine T.hchkT ?_
      refine T.hchkT ?_
      refine T.hchkT ?_
      refine T.hchkT ?_
      refine T.hchkT ?_
      refine T.hchkT ?_
      refine T.hchkT ?_
      refine T.hchkT ?_
      refine T.hchkT ?_
      refine T.hchkT ?_
      refine T.hchkT ?_
      refine T.hchk ?_ ?_
      · exact decide_eq_true (by omega)
      refine T.hchkT ?_
      refine T.hchk ?_ ?_
      · first | rfl | (simp only [Bool.and_eq_true, decide_eq_true_eq]; omega)
      refine T.hchkT ?_
      refine T.hchkT ?_
      refine T.hchkT ?_
      refine T.hchkT ?_
      refine T.hchkT ?_
      refine T.hchkT ?_
      refine T.hneed ?_ ?_
      · exact ⟨rfl, ⟨rfl, rfl, rfl⟩, ⟨rfl, rfl, rfl⟩, trivial, trivial⟩
      refine T.hchkT ?_
      refine T.hret ?_
      exact ⟨_, plSt ⟨x, kd, ar, nn, len, cap, N, i, ⟨false, 0, 0, 0, 0, fun _ => 0, 0, 0, fun _ => 0⟩, ⟨false, 0, 0, 0, 0, fun _ => 0, 0, 0, fun _ => 0⟩⟩, sT [0, 1, 2, 3] ⟨⟨_, rfl, x.ok⟩, ⟨_, rfl, act_ok (by decide) rfl⟩, ⟨_, rfl, skB_ok (la_nil (iI (la_nil (iI (iI la_end)))))⟩, ⟨_, rfl, skB_ok (iI (la_nil (la_nil (iI (iI la_end)))))⟩, trivial⟩, K0 _ _ okN okN⟩
     ·
      refine T.hchkT ?_
      refine T.hchkT ?_
      refine T.hchkT ?_
      refine T.hchkT ?_
      refine T.hchkT ?_
      refine T.hchkT ?_
      refine T.hchkT ?_
      refine T.hchkT ?_
      refine T.hchkT ?_
      refine T.hchkT ?_
      refine T.hchk ?_ ?_
      · (simp only [Bool.not_eq_true', decide_eq_false_iff_not]; omega)
      refine T.hchkT ?_
      refine T.hchkT ?_
      refine T.hchkT ?_
      refine T.hchkT ?_
      refine T.hchkT ?_
      refine T.hneed ?_ ?_
      · exact ⟨rfl, ⟨rfl, rfl, rfl⟩, ⟨rfl, rfl, rfl⟩, trivial, trivial⟩
      refine T.hchkT ?_
      refine T.hret ?_
      exact ⟨_, plSt ⟨x, kd, ar, nn, len, cap, N, i, ⟨false, 0, 0, 0, 0, fun _ => 0, 0, 0, fun _ => 0⟩, ⟨false, 0, 0, 0, 0, fun _ => 0, 0, 0, fun _ => 0⟩⟩, sT [0, 1, 2, 3] ⟨⟨_, rfl, x.ok⟩, ⟨_, rfl, act_ok (by decide) rfl⟩, ⟨_, rfl, skB_ok (la_nil (iI (la_nil (iI (iI la_end)))))⟩, ⟨_, rfl, skB_ok (iI (la_nil (la_nil (iI (iI la_end)))))⟩, trivial⟩, K0 _ _ okN okN⟩
    ·
     refine T.hite (fun gh6 => ?_) (fun gh6 => ?_)
     ·
      refine T.hchkT ?_
      refine T.hchkT ?_
      refine T.hchkT ?_
      refine T.hchkT ?_
      refine T.hchkT ?_
      refine T.hiteP (fun gh7 => ?_) (fun gh7 => ?_)
      ·
       refine T.hneed rfl ?_
       refine T.hneed rfl ?_
       refine T.hchk ?_ ?_
       · assumption
       refine T.hchkT ?_
       refine T.hchkT ?_
       refine T.hchk ?_ ?_
       · exact decide_eq_true (by omega)
       refine T.hneed rfl ?_
       refine T.hchk ?_ ?_
       · assumption
       refine T.hchkT ?_
       refine T.hneed ?_ ?_
       · exact ⟨rfl, ⟨rfl, rfl, rfl⟩, ⟨rfl, rfl, rfl⟩, trivial, trivial⟩
       refine T.hchkT ?_
       refine T.hret ?_
       exact ⟨_, plSt ⟨x, kd, ar, nn, len, cap, N, i, ⟨false, 0, 0, 0, 0, fun _ => 0, 0, 0, fun _ => 0⟩, ⟨false, 0, 0, 0, 0, fun _ => 0, 0, 0, fun _ => 0⟩⟩, sT [0, 1, 2, 3] ⟨⟨_, rfl, x.ok⟩, ⟨_, rfl, act_ok (by decide) rfl⟩, ⟨_, rfl, skB_ok (la_nil (iI (la_nil (iI (iI la_end)))))⟩, ⟨_, rfl, skB_ok (iI (la_nil (la_nil (iI (iI la_end)))))⟩, trivial⟩, K0 _ _ okN okN⟩
      ·
       refine T.hchkT ?_
       refine T.hneed rfl ?_
       refine T.hneed rfl ?_
       refine T.hchkT ?_
       refine T.hneed rfl ?_
       refine T.hneed rfl ?_
       refine T.hneed rfl ?_
       refine T.hchk ?_ ?_
       · assumption
       refine T.hchkT ?_
       refine T.hchkT ?_
       refine T.hchk ?_ ?_
       · (simp only [Bool.not_eq_true', decide_eq_false_iff_not]; omega)
       refine T.hchkT ?_
       refine T.hneed rfl ?_
       refine T.hneed rfl ?_
       refine T.hchkT ?_
       refine T.hneed rfl ?_
       refine T.hneed rfl ?_
       refine T.hchk ?_ ?_
       · assumption
       refine T.hchkT ?_
       refine T.hneed ?_ ?_
       · exact ⟨rfl, ⟨rfl, rfl, rfl⟩, ⟨rfl, rfl, rfl⟩, trivial, trivial⟩
       refine T.hchkT ?_
       refine T.hret ?_
       exact ⟨_, plSt ⟨x, kd, ar, nn, len, cap, N, i, ⟨false, 0, 0, 0, 0, fun _ => 0, 0, 0, fun _ => 0⟩, ⟨false, 0, 0, 0, 0, fun _ => 0, 0, 0, fun _ => 0⟩⟩, sT [0, 1, 2, 3] ⟨⟨_, rfl, x.ok⟩, ⟨_, rfl, act_ok (by decide) rfl⟩, ⟨_, rfl, skB_ok (la_nil (iI (la_nil (iI (iI la_end)))))⟩, ⟨_, rfl, skB_ok (iI (la_nil (la_nil (iI (iI la_end)))))⟩, trivial⟩, K0 _ _ okN okN⟩
     ·
      refine T.hneed ?_ ?_
      · exact rowJ (fun r => by repeat' first | exact ⟨_, rfl⟩ | refine isI_ite (fun h => absurd h (Nat.not_lt_zero _)) (fun _ => ?_) | refine isI_ite (fun _ => ?_) (fun _ => ?_))
      refine T.hchk ?_ ?_
      · exact decide_eq_true (by omega)
      refine T.hchk ?_ ?_
      · exact decide_eq_true (by omega)
      refine T.hiteP (fun gh8 => ?_) (fun gh8 => ?_)
      ·
       refine T.hall (fun c => ?_)
       refine T.hasmP (fun gh9 => ?_)
       refine T.hchkT ?_
       refine T.hchkT ?_
       refine T.hchkT ?_
       refine T.hchkT ?_
       refine T.hchkT ?_
       refine T.hiteP (fun gh10 => ?_) (fun gh10 => ?_)
       ·
        refine T.hneed rfl ?_
        refine T.hneed rfl ?_
        refine T.hchk ?_ ?_
        · (rw [Bool.not_eq_true']; assumption)
        refine T.hchkT ?_
        refine T.hchkT ?_
        refine T.hchk ?_ ?_
        · exact decide_eq_true (by omega)
        refine T.hneed rfl ?_
        refine T.hchk ?_ ?_
        · (rw [Bool.not_eq_true']; assumption)
        refine T.hneed ?_ ?_
        · exact rowJ (fun r => by repeat' first | exact ⟨_, rfl⟩ | refine isI_ite (fun h => absurd h (Nat.not_lt_zero _)) (fun _ => ?_) | refine isI_ite (fun _ => ?_) (fun _ => ?_))
        refine T.hchkT ?_
        refine T.hchk ?_ ?_
        · exact decide_eq_true (by omega)
        refine T.hchk ?_ ?_
        · exact decide_eq_true (by omega)
        refine T.hchkT ?_
        refine T.hneed ?_ ?_
        · exact ⟨rfl, ⟨rfl, rfl, rfl⟩, ⟨rfl, rfl, rfl⟩, trivial, trivial⟩
        refine T.hchkT ?_
        refine T.hret ?_
        exact ⟨_, plSt ⟨x, kd, ar, nn, len, cap, N, i, ⟨false, 0, 0, 0, 0, fun _ => 0, 0, 0, fun _ => 0⟩, ⟨false, 0, 0, 0, 0, fun _ => 0, 0, 0, fun _ => 0⟩⟩, sT [0, 1, 2, 3] ⟨⟨_, rfl, x.ok⟩, ⟨_, rfl, act_ok (by decide) rfl⟩, ⟨_, rfl, skB_ok (la_nil (iI (la_nil (iI (iI la_end)))))⟩, ⟨_, rfl, skB_ok (iI (la_nil (la_nil (iI (iI la_end)))))⟩, trivial⟩, K0 _ _ okN okN⟩
       ·
        refine T.hchkT ?_
        refine T.hchk ?_ ?_
        · exact decide_eq_true (by omega)
        refine T.hchk ?_ ?_
        · (simp only [Bool.not_eq_true', decide_eq_false_iff_not]; omega)
        refine T.hchk ?_ ?_
        · exact decide_eq_true (by omega)
        refine T.hall (fun c_1 => ?_)
        refine T.hasmP (fun gh11 => ?_)
        refine T.hneed rfl ?_
        refine T.hneed rfl ?_
        refine T.hchkT ?_
        refine T.hneed rfl ?_
        refine T.hneed rfl ?_
        refine T.hneed rfl ?_
        refine T.hchk ?_ ?_
        · (rw [Bool.not_eq_true']; assumption)
        refine T.hchkT ?_
        refine T.hchkT ?_
        refine T.hchk ?_ ?_
        · (simp only [Bool.not_eq_true', decide_eq_false_iff_not]; omega)
        refine T.hchkT ?_
        refine T.hchk ?_ ?_
        · exact decide_eq_true (by omega)
        refine T.hchk ?_ ?_
        · (simp only [Bool.not_eq_true', decide_eq_false_iff_not]; omega)
        refine T.hchk ?_ ?_
        · exact decide_eq_true (by omega)
        refine T.hall (fun c_2 => ?_)
        refine T.hasmP (fun gh12 => ?_)
        refine T.hneed rfl ?_
        refine T.hneed rfl ?_
        refine T.hchkT ?_
        refine T.hneed rfl ?_
        refine T.hneed rfl ?_
        refine T.hchk ?_ ?_
        · (rw [Bool.not_eq_true']; assumption)
        refine T.hneed ?_ ?_
        · exact rowJ (fun r => by repeat' first | exact ⟨_, rfl⟩ | refine isI_ite (fun h => absurd h (Nat.not_lt_zero _)) (fun _ => ?_) | refine isI_ite (fun _ => ?_) (fun _ => ?_))
        refine T.hchkT ?_
        refine T.hchk ?_ ?_
        · exact decide_eq_true (by omega)
        refine T.hchk ?_ ?_
        · exact decide_eq_true (by omega)
        refine T.hchkT ?_
        refine T.hneed ?_ ?_
        · exact ⟨rfl, ⟨rfl, rfl, rfl⟩, ⟨rfl, rfl, rfl⟩, ⟨_, _, rfl, rfl, rowJ (fun r => by repeat' first | exact ⟨_, rfl⟩ | refine isI_ite (fun h => absurd h (Nat.not_lt_zero _)) (fun _ => ?_) | refine isI_ite (fun _ => ?_) (fun _ => ?_)), rowJ (fun r => by repeat' first | exact ⟨_, rfl⟩ | refine isI_ite (fun h => absurd h (Nat.not_lt_zero _)) (fun _ => ?_) | refine isI_ite (fun _ => ?_) (fun _ => ?_)), by omega, ⟨by (try dsimp only [bytB, Blk.rows]); omega, by (try dsimp only [bytB, Blk.rows]); omega, by omega⟩, fun r hr => by rw [intAt_hd, intAt_hd]; (try dsimp only [bytB, Blk.rows]); first | exact hfg0 r (by omega) | exact hfg1 r (by omega) | (show hdI _ = hdI _; rw [if_neg (Nat.not_lt_zero r), if_neg (Nat.not_lt_zero r)]; (repeat rw [if_pos (by omega)]); show x.z _ = x.z _; first | rfl | (congr 2; omega)) | (show hdI _ = hdI _; by_cases hq : r < n0; (rw [if_pos hq, if_pos hq]; show f0 _ = g0 _; rw [Nat.zero_add]; exact hfg0 r hq); (rw [if_neg hq, if_neg hq]; (repeat rw [if_pos (by omega)]); show x.z _ = x.z _; first | rfl | (congr 2; omega))) | (show hdI _ = hdI _; by_cases hq : r < n1; (rw [if_pos hq, if_pos hq]; show f1 _ = g1 _; rw [Nat.zero_add]; exact hfg1 r hq); (rw [if_neg hq, if_neg hq]; (repeat rw [if_pos (by omega)]); show x.z _ = x.z _; first | rfl | (congr 2; omega))) | (show hdI _ = hdI _; rw [if_pos (by omega)]; show f0 _ = g0 _; rw [Nat.zero_add]; exact hfg0 r (by omega)) | (show hdI _ = hdI _; rw [if_pos (by omega)]; show f1 _ = g1 _; rw [Nat.zero_add]; exact hfg1 r (by omega)) | (show _ = hdI _; rw [if_pos (by omega)]; show f0 _ = g0 _; rw [Nat.zero_add]; exact hfg0 r (by omega)) | (show _ = hdI _; rw [if_pos (by omega)]; show f1 _ = g1 _; rw [Nat.zero_add]; exact hfg1 r (by omega))⟩, trivial⟩
        refine T.hchkT ?_
        refine T.hret ?_
        exact ⟨_, plSt ⟨x, kd, ar, nn, len, cap, N, i, ⟨true, (0 + FD.ln x [i]), 0, c_1, _, _, c_2, _, _⟩, ⟨false, 0, 0, 0, 0, fun _ => 0, 0, 0, fun _ => 0⟩⟩, sT [0, 1, 2, 3, 7, 9] ⟨⟨_, rfl, x.ok⟩, ⟨_, rfl, act_ok (by decide) rfl⟩, ⟨_, rfl, skB_ok (iS (iI (la_nil (iI (iI la_end)))))⟩, ⟨_, rfl, skB_ok (iI (iS (la_nil (iI (iI la_end)))))⟩, ⟨_, rfl, byt_ok (fun r => by repeat' first | exact ⟨_, rfl⟩ | refine isI_ite (fun h => absurd h (Nat.not_lt_zero _)) (fun _ => ?_) | refine isI_ite (fun _ => ?_) (fun _ => ?_))⟩, ⟨_, rfl, byt_ok (fun r => by repeat' first | exact ⟨_, rfl⟩ | refine isI_ite (fun h => absurd h (Nat.not_lt_zero _)) (fun _ => ?_) | refine isI_ite (fun _ => ?_) (fun _ => ?_))⟩, trivial⟩, K0 _ _ (okC fun r hr => by first | exact absurd hr (Nat.not_lt_zero _) | ((try dsimp only at hr); first | exact hfg0 r (by omega) | exact hfg1 r (by omega) | (show hdI _ = hdI _; rw [if_neg (Nat.not_lt_zero r), if_neg (Nat.not_lt_zero r)]; (repeat rw [if_pos (by omega)]); show x.z _ = x.z _; first | rfl | (congr 2; omega)) | (show hdI _ = hdI _; by_cases hq : r < n0; (rw [if_pos hq, if_pos hq]; show f0 _ = g0 _; rw [Nat.zero_add]; exact hfg0 r hq); (rw [if_neg hq, if_neg hq]; (repeat rw [if_pos (by omega)]); show x.z _ = x.z _; first | rfl | (congr 2; omega))) | (show hdI _ = hdI _; by_cases hq : r < n1; (rw [if_pos hq, if_pos hq]; show f1 _ = g1 _; rw [Nat.zero_add]; exact hfg1 r hq); (rw [if_neg hq, if_neg hq]; (repeat rw [if_pos (by omega)]); show x.z _ = x.z _; first | rfl | (congr 2; omega))) | (show hdI _ = hdI _; rw [if_pos (by omega)]; show f0 _ = g0 _; rw [Nat.zero_add]; exact hfg0 r (by omega)) | (show hdI _ = hdI _; rw [if_pos (by omega)]; show f1 _ = g1 _; rw [Nat.zero_add]; exact hfg1 r (by omega)) | (show _ = hdI _; rw [if_pos (by omega)]; show f0 _ = g0 _; rw [Nat.zero_add]; exact hfg0 r (by omega)) | (show _ = hdI _; rw [if_pos (by omega)]; show f1 _ = g1 _; rw [Nat.zero_add]; exact hfg1 r (by omega)))) okN⟩
      ·
       refine T.hchkT ?_
       refine T.hchkT ?_
       refine T.hchkT ?_
       refine T.hchkT ?_
       refine T.hchkT ?_
       refine T.hiteP (fun gh13 => ?_) (fun gh13 => ?_)
       ·
        refine T.hneed rfl ?_
        refine T.hneed rfl ?_
        refine T.hchk ?_ ?_
        · (rw [Bool.not_eq_true']; assumption)
        refine T.hchkT ?_
        refine T.hchkT ?_
        refine T.hchk ?_ ?_
        · exact decide_eq_true (by omega)
        refine T.hneed rfl ?_
        refine T.hchk ?_ ?_
        · (rw [Bool.not_eq_true']; assumption)
        refine T.hchkT ?_
        refine T.hneed ?_ ?_
        · exact ⟨rfl, ⟨rfl, rfl, rfl⟩, ⟨rfl, rfl, rfl⟩, trivial, trivial⟩
        refine T.hchkT ?_
        refine T.hret ?_
        exact ⟨_, plSt ⟨x, kd, ar, nn, len, cap, N, i, ⟨false, 0, 0, 0, 0, fun _ => 0, 0, 0, fun _ => 0⟩, ⟨false, 0, 0, 0, 0, fun _ => 0, 0, 0, fun _ => 0⟩⟩, sT [0, 1, 2, 3] ⟨⟨_, rfl, x.ok⟩, ⟨_, rfl, act_ok (by decide) rfl⟩, ⟨_, rfl, skB_ok (la_nil (iI (la_nil (iI (iI la_end)))))⟩, ⟨_, rfl, skB_ok (iI (la_nil (la_nil (iI (iI la_end)))))⟩, trivial⟩, K0 _ _ okN okN⟩
       ·
        refine T.hchkT ?_
        refine T.hneed rfl ?_
        refine T.hneed rfl ?_
        refine T.hchkT ?_
        refine T.hneed rfl ?_
        refine T.hneed rfl ?_
        refine T.hneed rfl ?_
        refine T.hchk ?_ ?_
        · (rw [Bool.not_eq_true']; assumption)
        refine T.hchkT ?_
        refine T.hchkT ?_
        refine T.hchk ?_ ?_
        · (simp only [Bool.not_eq_true', decide_eq_false_iff_not]; omega)
        refine T.hchkT ?_
        refine T.hchk ?_ ?_
        · exact decide_eq_true (by omega)
        refine T.hchk ?_ ?_
        · exact decide_eq_true (by omega)
        refine T.hneed rfl ?_
        refine T.hneed rfl ?_
        refine T.hchkT ?_
        refine T.hneed rfl ?_
        refine T.hneed rfl ?_
        refine T.hchk ?_ ?_
        · (rw [Bool.not_eq_true']; assumption)
        refine T.hchkT ?_
        refine T.hneed ?_ ?_
        · exact ⟨rfl, ⟨rfl, rfl, rfl⟩, ⟨rfl, rfl, rfl⟩, trivial, trivial⟩
        refine T.hchkT ?_
        refine T.hret ?_
        exact ⟨_, plSt ⟨x, kd, ar, nn, len, cap, N, i, ⟨false, 0, 0, 0, 0, fun _ => 0, 0, 0, fun _ => 0⟩, ⟨false, 0, 0, 0, 0, fun _ => 0, 0, 0, fun _ => 0⟩⟩, sT [0, 1, 2, 3] ⟨⟨_, rfl, x.ok⟩, ⟨_, rfl, act_ok (by decide) rfl⟩, ⟨_, rfl, skB_ok (la_nil (iI (la_nil (iI (iI la_end)))))⟩, ⟨_, rfl, skB_ok (iI (la_nil (la_nil (iI (iI la_end)))))⟩, trivial⟩, K0 _ _ okN okN⟩



set_option maxRecDepth 100000
set_option maxHeartbeats 16000000
set_option linter.unusedVariables false
set_option linter.unusedSimpArgs false

theorem pl_r001 (K M : Int) (x : FD) (kd ar nn : Nat → Int) (len cap i : Nat) (N : Int) (n0 s0 c0 b0 : Nat) (f0 : Nat → Int) (d0 e0 : Nat) (g0 : Nat → Int) (n1 s1 c1 b1 : Nat) (f1 : Nat → Int) (d1 e1 : Nat) (g1 : Nat → Int) (hwf : x.wf .u8) (hL : x.ln [i] ≤ 4096) (hN : 64 ≤ N ∧ N ≤ 262144) (ha : PR.ok N ⟨false, n0, s0, c0, b0, f0, d0, e0, g0⟩) (he : PR.ok N ⟨false, n1, s1, c1, b1, f1, d1, e1, g1⟩) {Q : Ex × St → Prop}
    (hR : Q (.ret, ⟨[(4, .bool true)], [none, none]⟩)) (K0 : ∀ a e, PR.ok N a → PR.ok N e → Q (.norm, plSt ⟨x, kd, ar, nn, len, cap, N, i, a, e⟩)) {D : List Code} (hD : D = (chainOf plD).drop 3) :
    (acodeL Try.prog plE D ⟨(10, .ptr 4 0 0 0) :: plFr len cap i, actM x kd ar nn cap ++ plM N ⟨false, n0, s0, c0, b0, f0, d0, e0, g0⟩ ⟨false, n1, s1, c1, b1, f1, d1, e1, g1⟩ ++ [some (boxB K 1 M i)]⟩).holds (Weak plE Q) := by
  obtain ⟨ha0, ha1, ha2, ⟨ha3, ha4⟩, ⟨ha5, ha6⟩, hfg0⟩ := ha
  obtain ⟨he0, he1, he2, ⟨he3, he4⟩, ⟨he5, he6⟩, hfg1⟩ := he
  dsimp only at ha0 ha1 ha2 ha3 ha4 ha5 ha6 hfg0 he0 he1 he2 he3 he4 he5 he6 hfg1
  have hr0 : IntKind.wrap IntKind.i64 (N - (↑n0 : Int)) = N - (↑n0 : Int) := IntWalk.i64_in _ (by omega)
  have hr1 : IntKind.wrap IntKind.i64 (N - (↑n1 : Int)) = N - (↑n1 : Int) := IntWalk.i64_in _ (by omega)
  have hrz : IntKind.wrap IntKind.i64 (N - (0 : Int)) = N - (0 : Int) := IntWalk.i64_in _ (by omega)
  have hk0 := cr_bd ha1 (by omega) M
  have hk1 := cr_bd he1 (by omega) M
  have hkz := cr_bd (Nat.le_refl 0) (by decide) M
  have hc0 := ct_eq n0 M
  have hc1 := ct_eq n1 M
  have hcz := ct_eq 0 M
  have hle := hwf.le [i]
  have e := pl_t001 K M x kd ar nn len cap i N n0 s0 c0 b0 f0 d0 e0 g0 n1 s1 c1 b1 f1 d1 e1 g1
  rw [← hD] at e
  refine weak_keep [1, 4, 5, 7, 9] (T.cut_eq e ?_)
  clear e
  refine T.hiteE (fun gh1 => ?_) (fun gh1 => ?_)
  ·
   refine T.hchkT ?_
   refine T.hchkT ?_
   refine T.hchkT ?_
   refine T.hchkT ?_
   refine T.hchkT ?_
   refine T.hchkT ?_
   refine T.hchkT ?_
   refine T.hchkT ?_
   refine T.hneed ?_ ?_
   · exact ⟨rfl, ⟨rfl, rfl, rfl⟩, ⟨rfl, rfl, rfl⟩, trivial, trivial⟩
   refine T.hchkT ?_
   refine T.hret ?_
   exact ⟨_, plSt ⟨x, kd, ar, nn, len, cap, N, i, ⟨false, 0, 0, 0, 0, fun _ => 0, 0, 0, fun _ => 0⟩, ⟨false, 0, 0, 0, 0, fun _ => 0, 0, 0, fun _ => 0⟩⟩, sT [0, 1, 2, 3] ⟨⟨_, rfl, x.ok⟩, ⟨_, rfl, act_ok (by decide) rfl⟩, ⟨_, rfl, skB_ok (la_nil (iI (la_nil (iI (iI la_end)))))⟩, ⟨_, rfl, skB_ok (iI (la_nil (la_nil (iI (iI la_end)))))⟩, trivial⟩, K0 _ _ okN okN⟩
  ·
   refine T.hiteE (fun gh2 => ?_) (fun gh2 => ?_)
   ·
    refine T.hchkT ?_
    refine T.hchkT ?_
    refine T.hchkT ?_
    refine T.hchk ?_ ?_
    · first | rfl | (simp only [Bool.and_eq_true, decide_eq_true_eq]; omega)
    refine T.hchkT ?_
    refine T.hchkT ?_
    refine T.hchkT ?_
    refine T.hiteP (fun gh3 => ?_) (fun gh3 => ?_)
    ·
     refine T.hchkT ?_
     refine T.hchk ?_ ?_
     · first | rfl | (simp only [Bool.and_eq_true, decide_eq_true_eq]; omega)
     refine T.hchkT ?_
     refine T.hchkT ?_
     refine T.hchkT ?_
     refine T.hchkT ?_
     refine T.hchkT ?_
     refine T.hneed ?_ ?_
     · exact ⟨rfl, ⟨rfl, rfl, rfl⟩, ⟨rfl, rfl, rfl⟩, trivial, trivial⟩
     refine T.hchkT ?_
     refine T.hret ?_
     exact ⟨_, plSt ⟨x, kd, ar, nn, len, cap, N, i, ⟨false, 0, 0, 0, 0, fun _ => 0, 0, 0, fun _ => 0⟩, ⟨false, 0, 0, 0, 0, fun _ => 0, 0, 0, fun _ => 0⟩⟩, sT [0, 1, 2, 3] ⟨⟨_, rfl, x.ok⟩, ⟨_, rfl, act_ok (by decide) rfl⟩, ⟨_, rfl, skB_ok (la_nil (iI (la_nil (iI (iI la_end)))))⟩, ⟨_, rfl, skB_ok (iI (la_nil (la_nil (iI (iI la_end)))))⟩, trivial⟩, K0 _ _ okN okN⟩
    ·
     refine T.hchkT ?_
     refine T.hchkT ?_
     refine T.hchkT ?_
     refine T.hchkT ?_
     refine T.hneed ?_ ?_
     · exact ⟨rfl, ⟨rfl, rfl, rfl⟩, ⟨rfl, rfl, rfl⟩, trivial, trivial⟩
     refine T.hchkT ?_
     refine T.hret ?_
     exact ⟨_, plSt ⟨x, kd, ar, nn, len, cap, N, i, ⟨false, 0, 0, 0, 0, fun _ => 0, 0, 0, fun _ => 0⟩, ⟨false, 0, 0, 0, 0, fun _ => 0, 0, 0, fun _ => 0⟩⟩, sT [0, 1, 2, 3] ⟨⟨_, rfl, x.ok⟩, ⟨_, rfl, act_ok (by decide) rfl⟩, ⟨_, rfl, skB_ok (la_nil (iI (la_nil (iI (iI la_end)))))⟩, ⟨_, rfl, skB_ok (iI (la_nil (la_nil (iI (iI la_end)))))⟩, trivial⟩, K0 _ _ okN okN⟩
   ·
    refine T.hiteE (fun gh4 => ?_) (fun gh4 => ?_)
    ·
     refine T.hchkT ?_
     refine T.hchkT ?_
     refine T.hchk ?_ ?_
     · first | rfl | (simp only [Bool.and_eq_true, decide_eq_true_eq]; omega)
     refine T.hchkT ?_
     refine T.hchkT ?_
     refine T.hchk ?_ ?_
     · first | rfl | (simp only [Bool.and_eq_true, decide_eq_true_eq]; omega)
     refine T.hchkT ?_
     refine T.hchkT ?_
     refine T.hchkT ?_
     refine T.hchkT ?_
     refine T.hchkT ?_
     refine T.hchkT ?_
     refine T.hchkT ?_
     refine T.hiteP (fun gh5 => ?_) (fun gh5 => ?_)
     ·
      refine T.hchkT ?_
      refine T.hchk ?_ ?_
      · first | rfl | (simp only [Bool.and_eq_true, decide_eq_true_eq]; omega)
      refine T.hchkT ?_
      refine T.hchkT ?_
      refine T.hchkT ?_
      refine T.hchkT ?_
      refine T.hchkT ?_
      refine T.hchkT ?_
      refine T.hchkT ?_
      refine T.hchkT ?_
      refine T.hchkT ?_
      refine T.hchkT ?_
      refine T.hchkT ?_
      refine T.hchk ?_ ?_
      · exact decide_eq_true (by omega)
      refine T.hchkT ?_
      refine T.hchk ?_ ?_
      · first | rfl | (simp only [Bool.and_eq_true, decide_eq_true_eq]; omega)
      refine T.hchkT ?_
      refine T.hchkT ?_
      refine T.hchkT ?_
      refine T.hchkT ?_
      refine T.hchkT ?_
      refine T.hchkT ?_
      refine T.hneed ?_ ?_
      · exact ⟨rfl, ⟨rfl, rfl, rfl⟩, ⟨rfl, rfl, rfl⟩, trivial, trivial⟩
      refine T.hchkT ?_
      refine T.hret ?_
      exact ⟨_, plSt ⟨x, kd, ar, nn, len, cap, N, i, ⟨false, 0, 0, 0, 0, fun _ => 0, 0, 0, fun _ => 0⟩, ⟨false, 0, 0, 0, 0, fun _ => 0, 0, 0, fun _ => 0⟩⟩, sT [0, 1, 2, 3] ⟨⟨_, rfl, x.ok⟩, ⟨_, rfl, act_ok (by decide) rfl⟩, ⟨_, rfl, skB_ok (la_nil (iI (la_nil (iI (iI la_end)))))⟩, ⟨_, rfl, skB_ok (iI (la_nil (la_nil (iI (iI la_end)))))⟩, trivial⟩, K0 _ _ okN okN⟩
     ·
      refine T.hchkT ?_
      refine T.hchkT ?_
      refine T.hchkT ?_
      refine T.hchkT ?_
      refine T.hchkT ?_
      refine T.hchkT ?_
      refine T.hchkT ?_
      refine T.hchkT ?_
      refine T.hchkT ?_
      refine T.hchkT ?_
      refine T.hchk ?_ ?_
      · (simp only [Bool.not_eq_true', decide_eq_false_iff_not]; omega)
      refine T.hchkT ?_
      refine T.hchkT ?_
      refine T.hchkT ?_
      refine T.hchkT ?_
      refine T.hchkT ?_
      refine T.hneed ?_ ?_
      · exact ⟨rfl, ⟨rfl, rfl, rfl⟩, ⟨rfl, rfl, rfl⟩, trivial, trivial⟩
      refine T.hchkT ?_
      refine T.hret ?_
      exact ⟨_, plSt ⟨x, kd, ar, nn, len, cap, N, i, ⟨false, 0, 0, 0, 0, fun _ => 0, 0, 0, fun _ => 0⟩, ⟨false, 0, 0, 0, 0, fun _ => 0, 0, 0, fun _ => 0⟩⟩, sT [0, 1, 2, 3] ⟨⟨_, rfl, x.ok⟩, ⟨_, rfl, act_ok (by decide) rfl⟩, ⟨_, rfl, skB_ok (la_nil (iI (la_nil (iI (iI la_end)))))⟩, ⟨_, rfl, skB_ok (iI (la_nil (la_nil (iI (iI la_end)))))⟩, trivial⟩, K0 _ _ okN okN⟩
    ·
     refine T.hite (fun gh6 => ?_) (fun gh6 => ?_)
     ·
      refine T.hchkT ?_
      refine T.hchkT ?_
      refine T.hchkT ?_
      refine T.hchkT ?_
      refine T.hchkT ?_
      refine T.hiteP (fun gh7 => ?_) (fun gh7 => ?_)
      ·
       refine T.hneed rfl ?_
       refine T.hneed rfl ?_
       refine T.hchk ?_ ?_
       · assumption
       refine T.hchkT ?_
       refine T.hchkT ?_
       refine T.hchkT ?_
       refine T.hchk ?_ ?_
       · exact decide_eq_true (by omega)
       refine T.hneed rfl ?_
       refine T.hchk ?_ ?_
       · assumption
       refine T.hchkT ?_
       refine T.hneed ?_ ?_
       · exact ⟨rfl, ⟨rfl, rfl, rfl⟩, ⟨rfl, rfl, rfl⟩, trivial, trivial⟩
       refine T.hchkT ?_
       refine T.hret ?_
       exact ⟨_, plSt ⟨x, kd, ar, nn, len, cap, N, i, ⟨false, 0, 0, 0, 0, fun _ => 0, 0, 0, fun _ => 0⟩, ⟨false, 0, 0, 0, 0, fun _ => 0, 0, 0, fun _ => 0⟩⟩, sT [0, 1, 2, 3] ⟨⟨_, rfl, x.ok⟩, ⟨_, rfl, act_ok (by decide) rfl⟩, ⟨_, rfl, skB_ok (la_nil (iI (la_nil (iI (iI la_end)))))⟩, ⟨_, rfl, skB_ok (iI (la_nil (la_nil (iI (iI la_end)))))⟩, trivial⟩, K0 _ _ okN okN⟩
      ·
       refine T.hchkT ?_
       refine T.hneed rfl ?_
       refine T.hneed rfl ?_
       refine T.hchkT ?_
       refine T.hneed rfl ?_
       refine T.hneed rfl ?_
       refine T.hneed rfl ?_
       refine T.hchk ?_ ?_
       · assumption
       refine T.hchkT ?_
       refine T.hchkT ?_
       refine T.hchkT ?_
       refine T.hchk ?_ ?_
       · (simp only [Bool.not_eq_true', decide_eq_false_iff_not]; omega)
       refine T.hchkT ?_
       refine T.hneed rfl ?_
       refine T.hneed rfl ?_
       refine T.hchkT ?_
       refine T.hneed rfl ?_
       refine T.hneed rfl ?_
       refine T.hchk ?_ ?_
       · assumption
       refine T.hchkT ?_
       refine T.hneed ?_ ?_
       · exact ⟨rfl, ⟨rfl, rfl, rfl⟩, ⟨rfl, rfl, rfl⟩, trivial, trivial⟩
       refine T.hchkT ?_
       refine T.hret ?_
       exact ⟨_, plSt ⟨x, kd, ar, nn, len, cap, N, i, ⟨false, 0, 0, 0, 0, fun _ => 0, 0, 0, fun _ => 0⟩, ⟨false, 0, 0, 0, 0, fun _ => 0, 0, 0, fun _ => 0⟩⟩, sT [0, 1, 2, 3] ⟨⟨_, rfl, x.ok⟩, ⟨_, rfl, act_ok (by decide) rfl⟩, ⟨_, rfl, skB_ok (la_nil (iI (la_nil (iI (iI la_end)))))⟩, ⟨_, rfl, skB_ok (iI (la_nil (la_nil (iI (iI la_end)))))⟩, trivial⟩, K0 _ _ okN okN⟩
     ·
      refine T.hneed ?_ ?_
      · exact rowJ (fun r => by repeat' first | exact ⟨_, rfl⟩ | refine isI_ite (fun h => absurd h (Nat.not_lt_zero _)) (fun _ => ?_) | refine isI_ite (fun _ => ?_) (fun _ => ?_))
      refine T.hchk ?_ ?_
      · exact decide_eq_true (by omega)
      refine T.hchk ?_ ?_
      · exact decide_eq_true (by omega)
      refine T.hiteP (fun gh8 => ?_) (fun gh8 => ?_)
      ·
       refine T.hall (fun c => ?_)
       refine T.hasmP (fun gh9 => ?_)
       refine T.hchkT ?_
       refine T.hchkT ?_
       refine T.hchkT ?_
       refine T.hchkT ?_
       refine T.hchkT ?_
       refine T.hiteP (fun gh10 => ?_) (fun gh10 => ?_)
       ·
        refine T.hneed rfl ?_
        refine T.hneed rfl ?_
        refine T.hchk ?_ ?_
        · (rw [Bool.not_eq_true']; assumption)
        refine T.hchkT ?_
        refine T.hchkT ?_
        refine T.hchkT ?_
        refine T.hchk ?_ ?_
        · exact decide_eq_true (by omega)
        refine T.hneed rfl ?_
        refine T.hchk ?_ ?_
        · (rw [Bool.not_eq_true']; assumption)
        refine T.hneed ?_ ?_
        · exact rowJ (fun r => by repeat' first | exact ⟨_, rfl⟩ | refine isI_ite (fun h => absurd h (Nat.not_lt_zero _)) (fun _ => ?_) | refine isI_ite (fun _ => ?_) (fun _ => ?_))
        refine T.hchkT ?_
        refine T.hchk ?_ ?_
        · exact decide_eq_true (by omega)
        refine T.hchk ?_ ?_
        · exact decide_eq_true (by omega)
        refine T.hchkT ?_
        refine T.hneed ?_ ?_
        · exact ⟨rfl, ⟨rfl, rfl, rfl⟩, ⟨rfl, rfl, rfl⟩, trivial, trivial⟩
        refine T.hchkT ?_
        refine T.hret ?_
        exact ⟨_, plSt ⟨x, kd, ar, nn, len, cap, N, i, ⟨false, 0, 0, 0, 0, fun _ => 0, 0, 0, fun _ => 0⟩, ⟨false, 0, 0, 0, 0, fun _ => 0, 0, 0, fun _ => 0⟩⟩, sT [0, 1, 2, 3] ⟨⟨_, rfl, x.ok⟩, ⟨_, rfl, act_ok (by decide) rfl⟩, ⟨_, rfl, skB_ok (la_nil (iI (la_nil (iI (iI la_end)))))⟩, ⟨_, rfl, skB_ok (iI (la_nil (la_nil (iI (iI la_end)))))⟩, trivial⟩, K0 _ _ okN okN⟩
       ·
        refine T.hchkT ?_
        refine T.hchk ?_ ?_
        · exact decide_eq_true (by omega)
        refine T.hchk ?_ ?_
        · (simp only [Bool.not_eq_true', decide_eq_false_iff_not]; omega)
        refine T.hchk ?_ ?_
        · exact decide_eq_true (by omega)
        refine T.hall (fun c_1 => ?_)
        refine T.hasmP (fun gh11 => ?_)
        refine T.hneed rfl ?_
        refine T.hneed rfl ?_
        refine T.hchkT ?_
        refine T.hneed rfl ?_
        refine T.hneed rfl ?_
        refine T.hneed rfl ?_
        refine T.hchk ?_ ?_
        · (rw [Bool.not_eq_true']; assumption)
        refine T.hchkT ?_
        refine T.hchkT ?_
        refine T.hchkT ?_
        refine T.hchk ?_ ?_
        · (simp only [Bool.not_eq_true', decide_eq_false_iff_not]; omega)
        refine T.hchkT ?_
        refine T.hchk ?_ ?_
        · exact decide_eq_true (by omega)
        refine T.hchk ?_ ?_
        · (simp only [Bool.not_eq_true', decide_eq_false_iff_not]; omega)
        refine T.hchk ?_ ?_
        · exact decide_eq_true (by omega)
        refine T.hall (fun c_2 => ?_)
        refine T.hasmP (fun gh12 => ?_)
        refine T.hneed rfl ?_
        refine T.hneed rfl ?_
        refine T.hchkT ?_
        refine T.hneed rfl ?_
        refine T.hneed rfl ?_
        refine T.hchk ?_ ?_
        · (rw [Bool.not_eq_true']; assumption)
        refine T.hneed ?_ ?_
        · exact rowJ (fun r => by repeat' first | exact ⟨_, rfl⟩ | refine isI_ite (fun h => absurd h (Nat.not_lt_zero _)) (fun _ => ?_) | refine isI_ite (fun _ => ?_) (fun _ => ?_))
        refine T.hchkT ?_
        refine T.hchk ?_ ?_
        · exact decide_eq_true (by omega)
        refine T.hchk ?_ ?_
        · exact decide_eq_true (by omega)
        refine T.hchkT ?_
        refine T.hneed ?_ ?_
        · exact ⟨rfl, ⟨rfl, rfl, rfl⟩, ⟨rfl, rfl, rfl⟩, trivial, ⟨_, _, rfl, rfl, rowJ (fun r => by repeat' first | exact ⟨_, rfl⟩ | refine isI_ite (fun h => absurd h (Nat.not_lt_zero _)) (fun _ => ?_) | refine isI_ite (fun _ => ?_) (fun _ => ?_)), rowJ (fun r => by repeat' first | exact ⟨_, rfl⟩ | refine isI_ite (fun h => absurd h (Nat.not_lt_zero _)) (fun _ => ?_) | refine isI_ite (fun _ => ?_) (fun _ => ?_)), by omega, ⟨by (try dsimp only [bytB, Blk.rows]); omega, by (try dsimp only [bytB, Blk.rows]); omega, by omega⟩, fun r hr => by rw [intAt_hd, intAt_hd]; (try dsimp only [bytB, Blk.rows]); first | exact hfg0 r (by omega) | exact hfg1 r (by omega) | (show hdI _ = hdI _; rw [if_neg (Nat.not_lt_zero r), if_neg (Nat.not_lt_zero r)]; (repeat rw [if_pos (by omega)]); show x.z _ = x.z _; first | rfl | (congr 2; omega)) | (show hdI _ = hdI _; by_cases hq : r < n0; (rw [if_pos hq, if_pos hq]; show f0 _ = g0 _; rw [Nat.zero_add]; exact hfg0 r hq); (rw [if_neg hq, if_neg hq]; (repeat rw [if_pos (by omega)]); show x.z _ = x.z _; first | rfl | (congr 2; omega))) | (show hdI _ = hdI _; by_cases hq : r < n1; (rw [if_pos hq, if_pos hq]; show f1 _ = g1 _; rw [Nat.zero_add]; exact hfg1 r hq); (rw [if_neg hq, if_neg hq]; (repeat rw [if_pos (by omega)]); show x.z _ = x.z _; first | rfl | (congr 2; omega))) | (show hdI _ = hdI _; rw [if_pos (by omega)]; show f0 _ = g0 _; rw [Nat.zero_add]; exact hfg0 r (by omega)) | (show hdI _ = hdI _; rw [if_pos (by omega)]; show f1 _ = g1 _; rw [Nat.zero_add]; exact hfg1 r (by omega)) | (show _ = hdI _; rw [if_pos (by omega)]; show f0 _ = g0 _; rw [Nat.zero_add]; exact hfg0 r (by omega)) | (show _ = hdI _; rw [if_pos (by omega)]; show f1 _ = g1 _; rw [Nat.zero_add]; exact hfg1 r (by omega))⟩⟩
        refine T.hchkT ?_
        refine T.hret ?_
        exact ⟨_, plSt ⟨x, kd, ar, nn, len, cap, N, i, ⟨false, 0, 0, 0, 0, fun _ => 0, 0, 0, fun _ => 0⟩, ⟨true, (0 + FD.ln x [i]), 0, c_1, _, _, c_2, _, _⟩⟩, sT [0, 1, 2, 3, 7, 9] ⟨⟨_, rfl, x.ok⟩, ⟨_, rfl, act_ok (by decide) rfl⟩, ⟨_, rfl, skB_ok (la_nil (iI (iS (iI (iI la_end)))))⟩, ⟨_, rfl, skB_ok (iI (la_nil (iS (iI (iI la_end)))))⟩, ⟨_, rfl, byt_ok (fun r => by repeat' first | exact ⟨_, rfl⟩ | refine isI_ite (fun h => absurd h (Nat.not_lt_zero _)) (fun _ => ?_) | refine isI_ite (fun _ => ?_) (fun _ => ?_))⟩, ⟨_, rfl, byt_ok (fun r => by repeat' first | exact ⟨_, rfl⟩ | refine isI_ite (fun h => absurd h (Nat.not_lt_zero _)) (fun _ => ?_) | refine isI_ite (fun _ => ?_) (fun _ => ?_))⟩, trivial⟩, K0 _ _ okN (okC fun r hr => by first | exact absurd hr (Nat.not_lt_zero _) | ((try dsimp only at hr); first | exact hfg0 r (by omega) | exact hfg1 r (by omega) | (show hdI _ = hdI _; rw [if_neg (Nat.not_lt_zero r), if_neg (Nat.not_lt_zero r)]; (repeat rw [if_pos (by omega)]); show x.z _ = x.z _; first | rfl | (congr 2; omega)) | (show hdI _ = hdI _; by_cases hq : r < n0; (rw [if_pos hq, if_pos hq]; show f0 _ = g0 _; rw [Nat.zero_add]; exact hfg0 r hq); (rw [if_neg hq, if_neg hq]; (repeat rw [if_pos (by omega)]); show x.z _ = x.z _; first | rfl | (congr 2; omega))) | (show hdI _ = hdI _; by_cases hq : r < n1; (rw [if_pos hq, if_pos hq]; show f1 _ = g1 _; rw [Nat.zero_add]; exact hfg1 r hq); (rw [if_neg hq, if_neg hq]; (repeat rw [if_pos (by omega)]); show x.z _ = x.z _; first | rfl | (congr 2; omega))) | (show hdI _ = hdI _; rw [if_pos (by omega)]; show f0 _ = g0 _; rw [Nat.zero_add]; exact hfg0 r (by omega)) | (show hdI _ = hdI _; rw [if_pos (by omega)]; show f1 _ = g1 _; rw [Nat.zero_add]; exact hfg1 r (by omega)) | (show _ = hdI _; rw [if_pos (by omega)]; show f0 _ = g0 _; rw [Nat.zero_add]; exact hfg0 r (by omega)) | (show _ = hdI _; rw [if_pos (by omega)]; show f1 _ = g1 _; rw [Nat.zero_add]; exact hfg1 r (by omega))))⟩
      ·
       refine T.hchkT ?_
       refine T.hchkT ?_
       refine T.hchkT ?_
       refine T.hchkT ?_
       refine T.hchkT ?_
       refine T.hiteP (fun gh13 => ?_) (fun gh13 => ?_)
       ·
        refine T.hneed rfl ?_
        refine T.hneed rfl ?_
        refine T.hchk ?_ ?_
        · (rw [Bool.not_eq_true']; assumption)
        refine T.hchkT ?_
        refine T.hchkT ?_
        refine T.hchkT ?_
        refine T.hchk ?_ ?_
        · exact decide_eq_true (by omega)
        refine T.hneed rfl ?_
        refine T.hchk ?_ ?_
        · (rw [Bool.not_eq_true']; assumption)
        refine T.hchkT ?_
        refine T.hneed ?_ ?_
        · exact ⟨rfl, ⟨rfl, rfl, rfl⟩, ⟨rfl, rfl, rfl⟩, trivial, trivial⟩
        refine T.hchkT ?_
        refine T.hret ?_
        exact ⟨_, plSt ⟨x, kd, ar, nn, len, cap, N, i, ⟨false, 0, 0, 0, 0, fun _ => 0, 0, 0, fun _ => 0⟩, ⟨false, 0, 0, 0, 0, fun _ => 0, 0, 0, fun _ => 0⟩⟩, sT [0, 1, 2, 3] ⟨⟨_, rfl, x.ok⟩, ⟨_, rfl, act_ok (by decide) rfl⟩, ⟨_, rfl, skB_ok (la_nil (iI (la_nil (iI (iI la_end)))))⟩, ⟨_, rfl, skB_ok (iI (la_nil (la_nil (iI (iI la_end)))))⟩, trivial⟩, K0 _ _ okN okN⟩
       ·
        refine T.hchkT ?_
        refine T.hneed rfl ?_
        refine T.hneed rfl ?_
        refine T.hchkT ?_
        refine T.hneed rfl ?_
        refine T.hneed rfl ?_
        refine T.hneed rfl ?_
        refine T.hchk ?_ ?_
        · (rw [Bool.not_eq_true']; assumption)
        refine T.hchkT ?_
        refine T.hchkT ?_
        refine T.hchkT ?_
        refine T.hchk ?_ ?_
        · (simp only [Bool.not_eq_true', decide_eq_false_iff_not]; omega)
        refine T.hchkT ?_
        refine T.hchk ?_ ?_
        · exact decide_eq_true (by omega)
        refine T.hchk ?_ ?_
        · exact decide_eq_true (by omega)
        refine T.hneed rfl ?_
        refine T.hneed rfl ?_
        refine T.hchkT ?_
        refine T.hneed rfl ?_
        refine T.hneed rfl ?_
        refine T.hchk ?_ ?_
        · (rw [Bool.not_eq_true']; assumption)
        refine T.hchkT ?_
        refine T.hneed ?_ ?_
        · exact ⟨rfl, ⟨rfl, rfl, rfl⟩, ⟨rfl, rfl, rfl⟩, trivial, trivial⟩
        refine T.hchkT ?_
        refine T.hret ?_
        exact ⟨_, plSt ⟨x, kd, ar, nn, len, cap, N, i, ⟨false, 0, 0, 0, 0, fun _ => 0, 0, 0, fun _ => 0⟩, ⟨false, 0, 0, 0, 0, fun _ => 0, 0, 0, fun _ => 0⟩⟩, sT [0, 1, 2, 3] ⟨⟨_, rfl, x.ok⟩, ⟨_, rfl, act_ok (by decide) rfl⟩, ⟨_, rfl, skB_ok (la_nil (iI (la_nil (iI (iI la_end)))))⟩, ⟨_, rfl, skB_ok (iI (la_nil (la_nil (iI (iI la_end)))))⟩, trivial⟩, K0 _ _ okN okN⟩



set_option maxRecDepth 100000
set_option maxHeartbeats 16000000
set_option linter.unusedVariables false
set_option linter.unusedSimpArgs false

theorem pl_r00n (K M : Int) (A : Nat) (x : FD) (kd ar nn : Nat → Int) (len cap i : Nat) (N : Int) (n0 s0 c0 b0 : Nat) (f0 : Nat → Int) (d0 e0 : Nat) (g0 : Nat → Int) (n1 s1 c1 b1 : Nat) (f1 : Nat → Int) (d1 e1 : Nat) (g1 : Nat → Int) (hwf : x.wf .u8) (hL : x.ln [i] ≤ 4096) (hN : 64 ≤ N ∧ N ≤ 262144) (ha : PR.ok N ⟨false, n0, s0, c0, b0, f0, d0, e0, g0⟩) (he : PR.ok N ⟨false, n1, s1, c1, b1, f1, d1, e1, g1⟩) {Q : Ex × St → Prop}
    (hR : Q (.ret, ⟨[(4, .bool true)], [none, none]⟩)) (K0 : ∀ a e, PR.ok N a → PR.ok N e → Q (.norm, plSt ⟨x, kd, ar, nn, len, cap, N, i, a, e⟩)) {D : List Code} (hD : D = (chainOf plD).drop 3) :
    (acodeL Try.prog plE D ⟨(10, .ptr 4 0 0 0) :: plFr len cap i, actM x kd ar nn cap ++ plM N ⟨false, n0, s0, c0, b0, f0, d0, e0, g0⟩ ⟨false, n1, s1, c1, b1, f1, d1, e1, g1⟩ ++ [some (boxB K (Int.negSucc A) M i)]⟩).holds (Weak plE Q) := by
  obtain ⟨ha0, ha1, ha2, ⟨ha3, ha4⟩, ⟨ha5, ha6⟩, hfg0⟩ := ha
  obtain ⟨he0, he1, he2, ⟨he3, he4⟩, ⟨he5, he6⟩, hfg1⟩ := he
  dsimp only at ha0 ha1 ha2 ha3 ha4 ha5 ha6 hfg0 he0 he1 he2 he3 he4 he5 he6 hfg1
  have hr0 : IntKind.wrap IntKind.i64 (N - (↑n0 : Int)) = N - (↑n0 : Int) := IntWalk.i64_in _ (by omega)
  have hr1 : IntKind.wrap IntKind.i64 (N - (↑n1 : Int)) = N - (↑n1 : Int) := IntWalk.i64_in _ (by omega)
  have hrz : IntKind.wrap IntKind.i64 (N - (0 : Int)) = N - (0 : Int) := IntWalk.i64_in _ (by omega)
  have hk0 := cr_bd ha1 (by omega) M
  have hk1 := cr_bd he1 (by omega) M
  have hkz := cr_bd (Nat.le_refl 0) (by decide) M
  have hc0 := ct_eq n0 M
  have hc1 := ct_eq n1 M
  have hcz := ct_eq 0 M
  have hle := hwf.le [i]
  have e := pl_t00n K M A x kd ar nn len cap i N n0 s0 c0 b0 f0 d0 e0 g0 n1 s1 c1 b1 f1 d1 e1 g1
  rw [← hD] at e
  refine weak_keep [1, 4, 5, 7, 9] (T.cut_eq e ?_)
  clear e
  refine T.hiteE (fun gh1 => ?_) (fun gh1 => ?_)
  ·
   refine T.hchkT ?_
   refine T.hchkT ?_
   refine T.hchkT ?_
   refine T.hneed ?_ ?_
   · exact ⟨rfl, ⟨rfl, rfl, rfl⟩, ⟨rfl, rfl, rfl⟩, trivial, trivial⟩
   refine T.hchkT ?_
   refine T.hret ?_
   exact ⟨_, plSt ⟨x, kd, ar, nn, len, cap, N, i, ⟨false, 0, 0, 0, 0, fun _ => 0, 0, 0, fun _ => 0⟩, ⟨false, 0, 0, 0, 0, fun _ => 0, 0, 0, fun _ => 0⟩⟩, sT [0, 1, 2, 3] ⟨⟨_, rfl, x.ok⟩, ⟨_, rfl, act_ok (by decide) rfl⟩, ⟨_, rfl, skB_ok (la_nil (iI (la_nil (iI (iI la_end)))))⟩, ⟨_, rfl, skB_ok (iI (la_nil (la_nil (iI (iI la_end)))))⟩, trivial⟩, K0 _ _ okN okN⟩
  ·
   refine T.hiteE (fun gh2 => ?_) (fun gh2 => ?_)
   ·
    refine T.hchkT ?_
    refine T.hchkT ?_
    refine T.hchkT ?_
    refine T.hneed ?_ ?_
    · exact ⟨rfl, ⟨rfl, rfl, rfl⟩, ⟨rfl, rfl, rfl⟩, trivial, trivial⟩
    refine T.hchkT ?_
    refine T.hret ?_
    exact ⟨_, plSt ⟨x, kd, ar, nn, len, cap, N, i, ⟨false, 0, 0, 0, 0, fun _ => 0, 0, 0, fun _ => 0⟩, ⟨false, 0, 0, 0, 0, fun _ => 0, 0, 0, fun _ => 0⟩⟩, sT [0, 1, 2, 3] ⟨⟨_, rfl, x.ok⟩, ⟨_, rfl, act_ok (by decide) rfl⟩, ⟨_, rfl, skB_ok (la_nil (iI (la_nil (iI (iI la_end)))))⟩, ⟨_, rfl, skB_ok (iI (la_nil (la_nil (iI (iI la_end)))))⟩, trivial⟩, K0 _ _ okN okN⟩
   ·
    refine T.hiteE (fun gh3 => ?_) (fun gh3 => ?_)
    ·
     refine T.hchkT ?_
     refine T.hchkT ?_
     refine T.hchk ?_ ?_
     · first | rfl | (simp only [Bool.and_eq_true, decide_eq_true_eq]; omega)
     refine T.hchkT ?_
     refine T.hchkT ?_
     refine T.hchk ?_ ?_
     · first | rfl | (simp only [Bool.and_eq_true, decide_eq_true_eq]; omega)
     refine T.hchkT ?_
     refine T.hchkT ?_
     refine T.hchkT ?_
     refine T.hchkT ?_
     refine T.hchkT ?_
     refine T.hchkT ?_
     refine T.hchkT ?_
     refine T.hiteP (fun gh4 => ?_) (fun gh4 => ?_)
     ·
      refine T.hchkT ?_
      refine T.hchk ?_ ?_
      · first | rfl | (simp only [Bool.and_eq_true, decide_eq_true_eq]; omega)
      refine T.hchkT ?_
      refine T.hchkT ?_
      refine T.hchkT ?_
      refine T.hchkT ?_
      refine T.hchkT ?_
      refine T.hchkT ?_
      refine T.hchkT ?_
      refine T.hchkT ?_
      refine T.hchkT ?_
      refine T.hchkT ?_
      refine T.hchkT ?_
      refine T.hchk ?_ ?_
      · exact decide_eq_true (by omega)
      refine T.hchkT ?_
      refine T.hchk ?_ ?_
      · first | rfl | (simp only [Bool.and_eq_true, decide_eq_true_eq]; omega)
      refine T.hchkT ?_
      refine T.hchkT ?_
      refine T.hchkT ?_
      refine T.hchkT ?_
      refine T.hchkT ?_
      refine T.hchkT ?_
      refine T.hneed ?_ ?_
      · exact ⟨rfl, ⟨rfl, rfl, rfl⟩, ⟨rfl, rfl, rfl⟩, trivial, trivial⟩
      refine T.hchkT ?_
      refine T.hret ?_
      exact ⟨_, plSt ⟨x, kd, ar, nn, len, cap, N, i, ⟨false, 0, 0, 0, 0, fun _ => 0, 0, 0, fun _ => 0⟩, ⟨false, 0, 0, 0, 0, fun _ => 0, 0, 0, fun _ => 0⟩⟩, sT [0, 1, 2, 3] ⟨⟨_, rfl, x.ok⟩, ⟨_, rfl, act_ok (by decide) rfl⟩, ⟨_, rfl, skB_ok (la_nil (iI (la_nil (iI (iI la_end)))))⟩, ⟨_, rfl, skB_ok (iI (la_nil (la_nil (iI (iI la_end)))))⟩, trivial⟩, K0 _ _ okN okN⟩
     ·
      refine T.hchkT ?_
      refine T.hchkT ?_
      refine T.hchkT ?_
      refine T.hchkT ?_
      refine T.hchkT ?_
      refine T.hchkT ?_
      refine T.hchkT ?_
      refine T.hchkT ?_
      refine T.hchkT ?_
      refine T.hchkT ?_
      refine T.hchk ?_ ?_
      · (simp only [Bool.not_eq_true', decide_eq_false_iff_not]; omega)
      refine T.hchkT ?_
      refine T.hchkT ?_
      refine T.hchkT ?_
      refine T.hchkT ?_
      refine T.hchkT ?_
      refine T.hneed ?_ ?_
      · exact ⟨rfl, ⟨rfl, rfl, rfl⟩, ⟨rfl, rfl, rfl⟩, trivial, trivial⟩
      refine T.hchkT ?_
      refine T.hret ?_
      exact ⟨_, plSt ⟨x, kd, ar, nn, len, cap, N, i, ⟨false, 0, 0, 0, 0, fun _ => 0, 0, 0, fun _ => 0⟩, ⟨false, 0, 0, 0, 0, fun _ => 0, 0, 0, fun _ => 0⟩⟩, sT [0, 1, 2, 3] ⟨⟨_, rfl, x.ok⟩, ⟨_, rfl, act_ok (by decide) rfl⟩, ⟨_, rfl, skB_ok (la_nil (iI (la_nil (iI (iI la_end)))))⟩, ⟨_, rfl, skB_ok (iI (la_nil (la_nil (iI (iI la_end)))))⟩, trivial⟩, K0 _ _ okN okN⟩
    ·
     refine T.hite (fun gh5 => ?_) (fun gh5 => ?_)
     ·
      refine T.hchkT ?_
      refine T.hneed rfl ?_
      refine T.hneed rfl ?_
      refine T.hchk ?_ ?_
      · assumption
      refine T.hchkT ?_
      refine T.hchkT ?_
      refine T.hneed rfl ?_
      refine T.hchk ?_ ?_
      · assumption
      refine T.hchkT ?_
      refine T.hneed ?_ ?_
      · exact ⟨rfl, ⟨rfl, rfl, rfl⟩, ⟨rfl, rfl, rfl⟩, trivial, trivial⟩
      refine T.hchkT ?_
      refine T.hret ?_
      exact ⟨_, plSt ⟨x, kd, ar, nn, len, cap, N, i, ⟨false, 0, 0, 0, 0, fun _ => 0, 0, 0, fun _ => 0⟩, ⟨false, 0, 0, 0, 0, fun _ => 0, 0, 0, fun _ => 0⟩⟩, sT [0, 1, 2, 3] ⟨⟨_, rfl, x.ok⟩, ⟨_, rfl, act_ok (by decide) rfl⟩, ⟨_, rfl, skB_ok (la_nil (iI (la_nil (iI (iI la_end)))))⟩, ⟨_, rfl, skB_ok (iI (la_nil (la_nil (iI (iI la_end)))))⟩, trivial⟩, K0 _ _ okN okN⟩
     ·
      refine T.hneed ?_ ?_
      · exact rowJ (fun r => by repeat' first | exact ⟨_, rfl⟩ | refine isI_ite (fun h => absurd h (Nat.not_lt_zero _)) (fun _ => ?_) | refine isI_ite (fun _ => ?_) (fun _ => ?_))
      refine T.hchk ?_ ?_
      · exact decide_eq_true (by omega)
      refine T.hchk ?_ ?_
      · exact decide_eq_true (by omega)
      refine T.hiteP (fun gh6 => ?_) (fun gh6 => ?_)
      ·
       refine T.hall (fun c => ?_)
       refine T.hasmP (fun gh7 => ?_)
       refine T.hchkT ?_
       refine T.hneed rfl ?_
       refine T.hneed rfl ?_
       refine T.hchk ?_ ?_
       · (rw [Bool.not_eq_true']; assumption)
       refine T.hchkT ?_
       refine T.hchkT ?_
       refine T.hneed rfl ?_
       refine T.hchk ?_ ?_
       · (rw [Bool.not_eq_true']; assumption)
       refine T.hneed ?_ ?_
       · exact rowJ (fun r => by repeat' first | exact ⟨_, rfl⟩ | refine isI_ite (fun h => absurd h (Nat.not_lt_zero _)) (fun _ => ?_) | refine isI_ite (fun _ => ?_) (fun _ => ?_))
       refine T.hchkT ?_
       refine T.hchk ?_ ?_
       · exact decide_eq_true (by omega)
       refine T.hchk ?_ ?_
       · exact decide_eq_true (by omega)
       refine T.hchkT ?_
       refine T.hneed ?_ ?_
       · exact ⟨rfl, ⟨rfl, rfl, rfl⟩, ⟨rfl, rfl, rfl⟩, trivial, trivial⟩
       refine T.hchkT ?_
       refine T.hret ?_
       exact ⟨_, plSt ⟨x, kd, ar, nn, len, cap, N, i, ⟨false, 0, 0, 0, 0, fun _ => 0, 0, 0, fun _ => 0⟩, ⟨false, 0, 0, 0, 0, fun _ => 0, 0, 0, fun _ => 0⟩⟩, sT [0, 1, 2, 3] ⟨⟨_, rfl, x.ok⟩, ⟨_, rfl, act_ok (by decide) rfl⟩, ⟨_, rfl, skB_ok (la_nil (iI (la_nil (iI (iI la_end)))))⟩, ⟨_, rfl, skB_ok (iI (la_nil (la_nil (iI (iI la_end)))))⟩, trivial⟩, K0 _ _ okN okN⟩
      ·
       refine T.hchkT ?_
       refine T.hneed rfl ?_
       refine T.hneed rfl ?_
       refine T.hchk ?_ ?_
       · (rw [Bool.not_eq_true']; assumption)
       refine T.hchkT ?_
       refine T.hchkT ?_
       refine T.hneed rfl ?_
       refine T.hchk ?_ ?_
       · (rw [Bool.not_eq_true']; assumption)
       refine T.hchkT ?_
       refine T.hneed ?_ ?_
       · exact ⟨rfl, ⟨rfl, rfl, rfl⟩, ⟨rfl, rfl, rfl⟩, trivial, trivial⟩
       refine T.hchkT ?_
       refine T.hret ?_
       exact ⟨_, plSt ⟨x, kd, ar, nn, len, cap, N, i, ⟨false, 0, 0, 0, 0, fun _ => 0, 0, 0, fun _ => 0⟩, ⟨false, 0, 0, 0, 0, fun _ => 0, 0, 0, fun _ => 0⟩⟩, sT [0, 1, 2, 3] ⟨⟨_, rfl, x.ok⟩, ⟨_, rfl, act_ok (by decide) rfl⟩, ⟨_, rfl, skB_ok (la_nil (iI (la_nil (iI (iI la_end)))))⟩, ⟨_, rfl, skB_ok (iI (la_nil (la_nil (iI (iI la_end)))))⟩, trivial⟩, K0 _ _ okN okN⟩



set_option maxRecDepth 100000
set_option maxHeartbeats 16000000
set_option linter.unusedVariables false
set_option linter.unusedSimpArgs false

theorem pl_r00g (K M : Int) (A : Nat) (x : FD) (kd ar nn : Nat → Int) (len cap i : Nat) (N : Int) (n0 s0 c0 b0 : Nat) (f0 : Nat → Int) (d0 e0 : Nat) (g0 : Nat → Int) (n1 s1 c1 b1 : Nat) (f1 : Nat → Int) (d1 e1 : Nat) (g1 : Nat → Int) (hwf : x.wf .u8) (hL : x.ln [i] ≤ 4096) (hN : 64 ≤ N ∧ N ≤ 262144) (ha : PR.ok N ⟨false, n0, s0, c0, b0, f0, d0, e0, g0⟩) (he : PR.ok N ⟨false, n1, s1, c1, b1, f1, d1, e1, g1⟩) {Q : Ex × St → Prop}
    (hR : Q (.ret, ⟨[(4, .bool true)], [none, none]⟩)) (K0 : ∀ a e, PR.ok N a → PR.ok N e → Q (.norm, plSt ⟨x, kd, ar, nn, len, cap, N, i, a, e⟩)) {D : List Code} (hD : D = (chainOf plD).drop 3) :
    (acodeL Try.prog plE D ⟨(10, .ptr 4 0 0 0) :: plFr len cap i, actM x kd ar nn cap ++ plM N ⟨false, n0, s0, c0, b0, f0, d0, e0, g0⟩ ⟨false, n1, s1, c1, b1, f1, d1, e1, g1⟩ ++ [some (boxB K ((A + 2 : Nat) : Int) M i)]⟩).holds (Weak plE Q) := by
  obtain ⟨ha0, ha1, ha2, ⟨ha3, ha4⟩, ⟨ha5, ha6⟩, hfg0⟩ := ha
  obtain ⟨he0, he1, he2, ⟨he3, he4⟩, ⟨he5, he6⟩, hfg1⟩ := he
  dsimp only at ha0 ha1 ha2 ha3 ha4 ha5 ha6 hfg0 he0 he1 he2 he3 he4 he5 he6 hfg1
  have hr0 : IntKind.wrap IntKind.i64 (N - (↑n0 : Int)) = N - (↑n0 : Int) := IntWalk.i64_in _ (by omega)
  have hr1 : IntKind.wrap IntKind.i64 (N - (↑n1 : Int)) = N - (↑n1 : Int) := IntWalk.i64_in _ (by omega)
  have hrz : IntKind.wrap IntKind.i64 (N - (0 : Int)) = N - (0 : Int) := IntWalk.i64_in _ (by omega)
  have hk0 := cr_bd ha1 (by omega) M
  have hk1 := cr_bd he1 (by omega) M
  have hkz := cr_bd (Nat.le_refl 0) (by decide) M
  have hc0 := ct_eq n0 M
  have hc1 := ct_eq n1 M
  have hcz := ct_eq 0 M
  have hle := hwf.le [i]
  have e := pl_t00g K M A x kd ar nn len cap i N n0 s0 c0 b0 f0 d0 e0 g0 n1 s1 c1 b1 f1 d1 e1 g1
  rw [← hD] at e
  refine weak_keep [1, 4, 5, 7, 9] (T.cut_eq e ?_)
  clear e
  refine T.hiteE (fun gh1 => ?_) (fun gh1 => ?_)
  ·
   refine T.hchkT ?_
   refine T.hchkT ?_
   refine T.hchkT ?_
   refine T.hchkT ?_
   refine T.hneed ?_ ?_
   · exact ⟨rfl, ⟨rfl, rfl, rfl⟩, ⟨rfl, rfl, rfl⟩, trivial, trivial⟩
   refine T.hchkT ?_
   refine T.hret ?_
   exact ⟨_, plSt ⟨x, kd, ar, nn, len, cap, N, i, ⟨false, 0, 0, 0, 0, fun _ => 0, 0, 0, fun _ => 0⟩, ⟨false, 0, 0, 0, 0, fun _ => 0, 0, 0, fun _ => 0⟩⟩, sT [0, 1, 2, 3] ⟨⟨_, rfl, x.ok⟩, ⟨_, rfl, act_ok (by decide) rfl⟩, ⟨_, rfl, skB_ok (la_nil (iI (la_nil (iI (iI la_end)))))⟩, ⟨_, rfl, skB_ok (iI (la_nil (la_nil (iI (iI la_end)))))⟩, trivial⟩, K0 _ _ okN okN⟩
  ·
   refine T.hiteE (fun gh2 => ?_) (fun gh2 => ?_)
   ·
    refine T.hchkT ?_
    refine T.hchkT ?_
    refine T.hchkT ?_
    refine T.hchkT ?_
    refine T.hneed ?_ ?_
    · exact ⟨rfl, ⟨rfl, rfl, rfl⟩, ⟨rfl, rfl, rfl⟩, trivial, trivial⟩
    refine T.hchkT ?_
    refine T.hret ?_
    exact ⟨_, plSt ⟨x, kd, ar, nn, len, cap, N, i, ⟨false, 0, 0, 0, 0, fun _ => 0, 0, 0, fun _ => 0⟩, ⟨false, 0, 0, 0, 0, fun _ => 0, 0, 0, fun _ => 0⟩⟩, sT [0, 1, 2, 3] ⟨⟨_, rfl, x.ok⟩, ⟨_, rfl, act_ok (by decide) rfl⟩, ⟨_, rfl, skB_ok (la_nil (iI (la_nil (iI (iI la_end)))))⟩, ⟨_, rfl, skB_ok (iI (la_nil (la_nil (iI (iI la_end)))))⟩, trivial⟩, K0 _ _ okN okN⟩
   ·
    refine T.hiteE (fun gh3 => ?_) (fun gh3 => ?_)
    ·
     refine T.hchkT ?_
     refine T.hchkT ?_
     refine T.hchk ?_ ?_
     · first | rfl | (simp only [Bool.and_eq_true, decide_eq_true_eq]; omega)
     refine T.hchkT ?_
     refine T.hchkT ?_
     refine T.hchk ?_ ?_
     · first | rfl | (simp only [Bool.and_eq_true, decide_eq_true_eq]; omega)
     refine T.hchkT ?_
     refine T.hchkT ?_
     refine T.hchkT ?_
     refine T.hchkT ?_
     refine T.hchkT ?_
     refine T.hchkT ?_
     refine T.hchkT ?_
     refine T.hiteP (fun gh4 => ?_) (fun gh4 => ?_)
     ·
      refine T.hchkT ?_
      refine T.hchk ?_ ?_
      · first | rfl | (simp only [Bool.and_eq_true, decide_eq_true_eq]; omega)
      refine T.hchkT ?_
      refine T.hchkT ?_
      refine T.hchkT ?_
      refine T.hchkT ?_
      refine T.hchkT ?_
      refine T.hchkT ?_
      refine T.hchkT ?_
      refine T.hchkT ?_
      refine T.hchkT ?_
      refine T.hchkT ?_
      refine T.hchkT ?_
      refine T.hchk ?_ ?_
      · exact decide_eq_true (by omega)
      refine T.hchkT ?_
      refine T.hchk ?_ ?_
      · first | rfl | (simp only [Bool.and_eq_true, decide_eq_true_eq]; omega)
      refine T.hchkT ?_
      refine T.hchkT ?_
      refine T.hchkT ?_
      refine T.hchkT ?_
      refine T.hchkT ?_
      refine T.hchkT ?_
      refine T.hneed ?_ ?_
      · exact ⟨rfl, ⟨rfl, rfl, rfl⟩, ⟨rfl, rfl, rfl⟩, trivial, trivial⟩
      refine T.hchkT ?_
      refine T.hret ?_
      exact ⟨_, plSt ⟨x, kd, ar, nn, len, cap, N, i, ⟨false, 0, 0, 0, 0, fun _ => 0, 0, 0, fun _ => 0⟩, ⟨false, 0, 0, 0, 0, fun _ => 0, 0, 0, fun _ => 0⟩⟩, sT [0, 1, 2, 3] ⟨⟨_, rfl, x.ok⟩, ⟨_, rfl, act_ok (by decide) rfl⟩, ⟨_, rfl, skB_ok (la_nil (iI (la_nil (iI (iI la_end)))))⟩, ⟨_, rfl, skB_ok (iI (la_nil (la_nil (iI (iI la_end)))))⟩, trivial⟩, K0 _ _ okN okN⟩
     ·
      refine T.hchkT ?_
      refine T.hchkT ?_
      refine T.hchkT ?_
      refine T.hchkT ?_
      refine T.hchkT ?_
      refine T.hchkT ?_
      refine T.hchkT ?_
      refine T.hchkT ?_
      refine T.hchkT ?_
      refine T.hchkT ?_
      refine T.hchk ?_ ?_
      · (simp only [Bool.not_eq_true', decide_eq_false_iff_not]; omega)
      refine T.hchkT ?_
      refine T.hchkT ?_
      refine T.hchkT ?_
      refine T.hchkT ?_
      refine T.hchkT ?_
      refine T.hneed ?_ ?_
      · exact ⟨rfl, ⟨rfl, rfl, rfl⟩, ⟨rfl, rfl, rfl⟩, trivial, trivial⟩
      refine T.hchkT ?_
      refine T.hret ?_
      exact ⟨_, plSt ⟨x, kd, ar, nn, len, cap, N, i, ⟨false, 0, 0, 0, 0, fun _ => 0, 0, 0, fun _ => 0⟩, ⟨false, 0, 0, 0, 0, fun _ => 0, 0, 0, fun _ => 0⟩⟩, sT [0, 1, 2, 3] ⟨⟨_, rfl, x.ok⟩, ⟨_, rfl, act_ok (by decide) rfl⟩, ⟨_, rfl, skB_ok (la_nil (iI (la_nil (iI (iI la_end)))))⟩, ⟨_, rfl, skB_ok (iI (la_nil (la_nil (iI (iI la_end)))))⟩, trivial⟩, K0 _ _ okN okN⟩
    ·
     refine T.hite (fun gh5 => ?_) (fun gh5 => ?_)
     ·
      refine T.hchkT ?_
      refine T.hchkT ?_
      refine T.hneed rfl ?_
      refine T.hneed rfl ?_
      refine T.hchk ?_ ?_
      · assumption
      refine T.hchkT ?_
      refine T.hchkT ?_
      refine T.hneed rfl ?_
      refine T.hchk ?_ ?_
      · assumption
      refine T.hchkT ?_
      refine T.hneed ?_ ?_
      · exact ⟨rfl, ⟨rfl, rfl, rfl⟩, ⟨rfl, rfl, rfl⟩, trivial, trivial⟩
      refine T.hchkT ?_
      refine T.hret ?_
      exact ⟨_, plSt ⟨x, kd, ar, nn, len, cap, N, i, ⟨false, 0, 0, 0, 0, fun _ => 0, 0, 0, fun _ => 0⟩, ⟨false, 0, 0, 0, 0, fun _ => 0, 0, 0, fun _ => 0⟩⟩, sT [0, 1, 2, 3] ⟨⟨_, rfl, x.ok⟩, ⟨_, rfl, act_ok (by decide) rfl⟩, ⟨_, rfl, skB_ok (la_nil (iI (la_nil (iI (iI la_end)))))⟩, ⟨_, rfl, skB_ok (iI (la_nil (la_nil (iI (iI la_end)))))⟩, trivial⟩, K0 _ _ okN okN⟩
     ·
      refine T.hneed ?_ ?_
      · exact rowJ (fun r => by repeat' first | exact ⟨_, rfl⟩ | refine isI_ite (fun h => absurd h (Nat.not_lt_zero _)) (fun _ => ?_) | refine isI_ite (fun _ => ?_) (fun _ => ?_))
      refine T.hchk ?_ ?_
      · exact decide_eq_true (by omega)
      refine T.hchk ?_ ?_
      · exact decide_eq_true (by omega)
      refine T.hiteP (fun gh6 => ?_) (fun gh6 => ?_)
      ·
       refine T.hall (fun c => ?_)
       refine T.hasmP (fun gh7 => ?_)
       refine T.hchkT ?_
       refine T.hchkT ?_
       refine T.hneed rfl ?_
       refine T.hneed rfl ?_
       refine T.hchk ?_ ?_
       · (rw [Bool.not_eq_true']; assumption)
       refine T.hchkT ?_
       refine T.hchkT ?_
       refine T.hneed rfl ?_
       refine T.hchk ?_ ?_
       · (rw [Bool.not_eq_true']; assumption)
       refine T.hneed ?_ ?_
       · exact rowJ (fun r => by repeat' first | exact ⟨_, rfl⟩ | refine isI_ite (fun h => absurd h (Nat.not_lt_zero _)) (fun _ => ?_) | refine isI_ite (fun _ => ?_) (fun _ => ?_))
       refine T.hchkT ?_
       refine T.hchk ?_ ?_
       · exact decide_eq_true (by omega)
       refine T.hchk ?_ ?_
       · exact decide_eq_true (by omega)
       refine T.hchkT ?_
       refine T.hneed ?_ ?_
       · exact ⟨rfl, ⟨rfl, rfl, rfl⟩, ⟨rfl, rfl, rfl⟩, trivial, trivial⟩
       refine T.hchkT ?_
       refine T.hret ?_
       exact ⟨_, plSt ⟨x, kd, ar, nn, len, cap, N, i, ⟨false, 0, 0, 0, 0, fun _ => 0, 0, 0, fun _ => 0⟩, ⟨false, 0, 0, 0, 0, fun _ => 0, 0, 0, fun _ => 0⟩⟩, sT [0, 1, 2, 3] ⟨⟨_, rfl, x.ok⟩, ⟨_, rfl, act_ok (by decide) rfl⟩, ⟨_, rfl, skB_ok (la_nil (iI (la_nil (iI (iI la_end)))))⟩, ⟨_, rfl, skB_ok (iI (la_nil (la_nil (iI (iI la_end)))))⟩, trivial⟩, K0 _ _ okN okN⟩
      ·
       refine T.hchkT ?_
       refine T.hchkT ?_
       refine T.hneed rfl ?_
       refine T.hneed rfl ?_
       refine T.hchk ?_ ?_
       · (rw [Bool.not_eq_true']; assumption)
       refine T.hchkT ?_
       refine T.hchkT ?_
       refine T.hneed rfl ?_
       refine T.hchk ?_ ?_
       · (rw [Bool.not_eq_true']; assumption)
       refine T.hchkT ?_
       refine T.hneed ?_ ?_
       · exact ⟨rfl, ⟨rfl, rfl, rfl⟩, ⟨rfl, rfl, rfl⟩, trivial, trivial⟩
       refine T.hchkT ?_
       refine T.hret ?_
       exact ⟨_, plSt ⟨x, kd, ar, nn, len, cap, N, i, ⟨false, 0, 0, 0, 0, fun _ => 0, 0, 0, fun _ => 0⟩, ⟨false, 0, 0, 0, 0, fun _ => 0, 0, 0, fun _ => 0⟩⟩, sT [0, 1, 2, 3] ⟨⟨_, rfl, x.ok⟩, ⟨_, rfl, act_ok (by decide) rfl⟩, ⟨_, rfl, skB_ok (la_nil (iI (la_nil (iI (iI la_end)))))⟩, ⟨_, rfl, skB_ok (iI (la_nil (la_nil (iI (iI la_end)))))⟩, trivial⟩, K0 _ _ okN okN⟩



set_option maxRecDepth 100000
set_option maxHeartbeats 16000000
set_option linter.unusedVariables false
set_option linter.unusedSimpArgs false

theorem pl_r100 (K M : Int) (x : FD) (kd ar nn : Nat → Int) (len cap i : Nat) (N : Int) (n0 s0 c0 b0 : Nat) (f0 : Nat → Int) (d0 e0 : Nat) (g0 : Nat → Int) (n1 s1 c1 b1 : Nat) (f1 : Nat → Int) (d1 e1 : Nat) (g1 : Nat → Int) (hwf : x.wf .u8) (hL : x.ln [i] ≤ 4096) (hN : 64 ≤ N ∧ N ≤ 262144) (ha : PR.ok N ⟨true, n0, s0, c0, b0, f0, d0, e0, g0⟩) (he : PR.ok N ⟨false, n1, s1, c1, b1, f1, d1, e1, g1⟩) {Q : Ex × St → Prop}
    (hR : Q (.ret, ⟨[(4, .bool true)], [none, none]⟩)) (K0 : ∀ a e, PR.ok N a → PR.ok N e → Q (.norm, plSt ⟨x, kd, ar, nn, len, cap, N, i, a, e⟩)) {D : List Code} (hD : D = (chainOf plD).drop 3) :
    (acodeL Try.prog plE D ⟨(10, .ptr 6 0 0 0) :: plFr len cap i, actM x kd ar nn cap ++ plM N ⟨true, n0, s0, c0, b0, f0, d0, e0, g0⟩ ⟨false, n1, s1, c1, b1, f1, d1, e1, g1⟩ ++ [some (boxB K 0 M i)]⟩).holds (Weak plE Q) := by
  obtain ⟨ha0, ha1, ha2, ⟨ha3, ha4⟩, ⟨ha5, ha6⟩, hfg0⟩ := ha
  obtain ⟨he0, he1, he2, ⟨he3, he4⟩, ⟨he5, he6⟩, hfg1⟩ := he
  dsimp only at ha0 ha1 ha2 ha3 ha4 ha5 ha6 hfg0 he0 he1 he2 he3 he4 he5 he6 hfg1
  have hr0 : IntKind.wrap IntKind.i64 (N - (↑n0 : Int)) = N - (↑n0 : Int) := IntWalk.i64_in _ (by omega)
  have hr1 : IntKind.wrap IntKind.i64 (N - (↑n1 : Int)) = N - (↑n1 : Int) := IntWalk.i64_in _ (by omega)
  have hrz : IntKind.wrap IntKind.i64 (N - (0 : Int)) = N - (0 : Int) := IntWalk.i64_in _ (by omega)
  have hk0 := cr_bd ha1 (by omega) M
  have hk1 := cr_bd he1 (by omega) M
  have hkz := cr_bd (Nat.le_refl 0) (by decide) M
  have hc0 := ct_eq n0 M
  have hc1 := ct_eq n1 M
  have hcz := ct_eq 0 M
  have hle := hwf.le [i]
  have e := pl_t100 K M x kd ar nn len cap i N n0 s0 c0 b0 f0 d0 e0 g0 n1 s1 c1 b1 f1 d1 e1 g1
  rw [← hD] at e
  refine weak_keep [1, 4, 5, 7, 9] (T.cut_eq e ?_)
  clear e
  refine T.hiteE (fun gh1 => ?_) (fun gh1 => ?_)
  ·
   refine T.hchkT ?_
   refine T.hchkT ?_
   refine T.hchkT ?_
   refine T.hchkT ?_
   refine T.hchkT ?_
   refine T.hchkT ?_
   refine T.hchkT ?_
   refine T.hneed ?_ ?_
   · exact ⟨rfl, ⟨rfl, rfl, rfl⟩, ⟨rfl, rfl, rfl⟩, ar1 rfl rfl hfg0 (by omega), trivial⟩
   refine T.hchkT ?_
   refine T.hret ?_
   exact ⟨_, plSt ⟨x, kd, ar, nn, len, cap, N, i, ⟨true, n0, n0, c0, _, _, d0, _, _⟩, ⟨false, 0, 0, 0, 0, fun _ => 0, 0, 0, fun _ => 0⟩⟩, sT [0, 1, 2, 3, 4, 5] ⟨⟨_, rfl, x.ok⟩, ⟨_, rfl, act_ok (by decide) rfl⟩, ⟨_, rfl, skB_ok (iS (iI (la_nil (iI (iI la_end)))))⟩, ⟨_, rfl, skB_ok (iI (iS (la_nil (iI (iI la_end)))))⟩, ⟨_, rfl, byt_same⟩, ⟨_, rfl, byt_same⟩, trivial⟩, K0 _ _ (okH hfg0) okN⟩
  ·
   refine T.hiteE (fun gh2 => ?_) (fun gh2 => ?_)
   ·
    refine T.hchkT ?_
    refine T.hchkT ?_
    refine T.hchkT ?_
    refine T.hchk ?_ ?_
    · first | rfl | (simp only [Bool.and_eq_true, decide_eq_true_eq]; omega)
    refine T.hchkT ?_
    refine T.hchkT ?_
    refine T.hiteP (fun gh3 => ?_) (fun gh3 => ?_)
    ·
     refine T.hchkT ?_
     refine T.hchk ?_ ?_
     · first | rfl | (simp only [Bool.and_eq_true, decide_eq_true_eq]; omega)
     refine T.hchkT ?_
     refine T.hchkT ?_
     refine T.hchkT ?_
     refine T.hchkT ?_
     refine T.hneed ?_ ?_
     · exact ⟨rfl, ⟨rfl, rfl, rfl⟩, ⟨rfl, rfl, rfl⟩, ar1 rfl rfl hfg0 (by omega), trivial⟩
     refine T.hchkT ?_
     refine T.hret ?_
     exact ⟨_, plSt ⟨x, kd, ar, nn, len, cap, N, i, ⟨true, (Int.toNat (ctI n0 (M))), (Int.toNat (↑(Int.toNat (ctI n0 (M))) : Int)), c0, _, _, d0, _, _⟩, ⟨false, 0, 0, 0, 0, fun _ => 0, 0, 0, fun _ => 0⟩⟩, sT [0, 1, 2, 3, 4, 5] ⟨⟨_, rfl, x.ok⟩, ⟨_, rfl, act_ok (by decide) rfl⟩, ⟨_, rfl, skB_ok (iS (iI (la_nil (iI (iI la_end)))))⟩, ⟨_, rfl, skB_ok (iI (iS (la_nil (iI (iI la_end)))))⟩, ⟨_, rfl, byt_same⟩, ⟨_, rfl, byt_same⟩, trivial⟩, K0 _ _ (okH hfg0) okN⟩
    ·
     refine T.hchkT ?_
     refine T.hchkT ?_
     refine T.hchkT ?_
     refine T.hneed ?_ ?_
     · exact ⟨rfl, ⟨rfl, rfl, rfl⟩, ⟨rfl, rfl, rfl⟩, ar1 rfl rfl hfg0 (by omega), trivial⟩
     refine T.hchkT ?_
     refine T.hret ?_
     exact ⟨_, plSt ⟨x, kd, ar, nn, len, cap, N, i, ⟨true, (Int.toNat (ctI n0 (M))), (Int.toNat (↑(Int.toNat (ctI n0 (M))) : Int)), c0, _, _, d0, _, _⟩, ⟨false, 0, 0, 0, 0, fun _ => 0, 0, 0, fun _ => 0⟩⟩, sT [0, 1, 2, 3, 4, 5] ⟨⟨_, rfl, x.ok⟩, ⟨_, rfl, act_ok (by decide) rfl⟩, ⟨_, rfl, skB_ok (iS (iI (la_nil (iI (iI la_end)))))⟩, ⟨_, rfl, skB_ok (iI (iS (la_nil (iI (iI la_end)))))⟩, ⟨_, rfl, byt_same⟩, ⟨_, rfl, byt_same⟩, trivial⟩, K0 _ _ (okH hfg0) okN⟩
   ·
    refine T.hiteE (fun gh4 => ?_) (fun gh4 => ?_)
    ·
     refine T.hchkT ?_
     refine T.hchkT ?_
     refine T.hchk ?_ ?_
     · first | rfl | (simp only [Bool.and_eq_true, decide_eq_true_eq]; omega)
     refine T.hchkT ?_
     refine T.hchkT ?_
     refine T.hchk ?_ ?_
     · first | rfl | (simp only [Bool.and_eq_true, decide_eq_true_eq]; omega)
     refine T.hchkT ?_
     refine T.hchkT ?_
     refine T.hchkT ?_
     refine T.hchkT ?_
     refine T.hchkT ?_
     refine T.hchkT ?_
     refine T.hchkT ?_
     refine T.hiteP (fun gh5 => ?_) (fun gh5 => ?_)
     ·
      refine T.hchkT ?_
      refine T.hchk ?_ ?_
      · first | rfl | (simp only [Bool.and_eq_true, decide_eq_true_eq]; omega)
      refine T.hchkT ?_
      refine T.hchkT ?_
      refine T.hchkT ?_
      refine T.hchkT ?_
      refine T.hchkT ?_
      refine T.hchkT ?_
      refine T.hchkT ?_
      refine T.hchkT ?_
      refine T.hchkT ?_
      refine T.hchkT ?_
      refine T.hchkT ?_
      refine T.hiteP (fun gh6 => ?_) (fun gh6 => ?_)
      ·
       refine T.hchkT ?_
       refine T.hchk ?_ ?_
       · first | rfl | (simp only [Bool.and_eq_true, decide_eq_true_eq]; omega)
       refine T.hchkT ?_
       refine T.hchkT ?_
       refine T.hchkT ?_
       refine T.hchkT ?_
       refine T.hchkT ?_
       refine T.hchkT ?_
       refine T.hneed ?_ ?_
       · exact ⟨rfl, ⟨rfl, rfl, rfl⟩, ⟨rfl, rfl, rfl⟩, ar1 rfl rfl hfg0 (by omega), trivial⟩
       refine T.hchkT ?_
       refine T.hret ?_
       exact ⟨_, plSt ⟨x, kd, ar, nn, len, cap, N, i, ⟨true, (Int.toNat (kpI n0 s0 (M))), (Int.toNat (↑(Int.toNat (kpI n0 s0 (M))) : Int)), c0, _, _, d0, _, _⟩, ⟨false, 0, 0, 0, 0, fun _ => 0, 0, 0, fun _ => 0⟩⟩, sT [0, 1, 2, 3, 4, 5] ⟨⟨_, rfl, x.ok⟩, ⟨_, rfl, act_ok (by decide) rfl⟩, ⟨_, rfl, skB_ok (iS (iI (la_nil (iI (iI la_end)))))⟩, ⟨_, rfl, skB_ok (iI (iS (la_nil (iI (iI la_end)))))⟩, ⟨_, rfl, byt_same⟩, ⟨_, rfl, byt_same⟩, trivial⟩, K0 _ _ (okH hfg0) okN⟩
      ·
       refine T.hchkT ?_
       refine T.hchkT ?_
       refine T.hchkT ?_
       refine T.hchkT ?_
       refine T.hchkT ?_
       refine T.hneed ?_ ?_
       · exact ⟨rfl, ⟨rfl, rfl, rfl⟩, ⟨rfl, rfl, rfl⟩, ar1 rfl rfl hfg0 (by omega), trivial⟩
       refine T.hchkT ?_
       refine T.hret ?_
       exact ⟨_, plSt ⟨x, kd, ar, nn, len, cap, N, i, ⟨true, (Int.toNat (kpI n0 s0 (M))), (Int.toNat (↑(Int.toNat (kpI n0 s0 (M))) : Int)), c0, _, _, d0, _, _⟩, ⟨false, 0, 0, 0, 0, fun _ => 0, 0, 0, fun _ => 0⟩⟩, sT [0, 1, 2, 3, 4, 5] ⟨⟨_, rfl, x.ok⟩, ⟨_, rfl, act_ok (by decide) rfl⟩, ⟨_, rfl, skB_ok (iS (iI (la_nil (iI (iI la_end)))))⟩, ⟨_, rfl, skB_ok (iI (iS (la_nil (iI (iI la_end)))))⟩, ⟨_, rfl, byt_same⟩, ⟨_, rfl, byt_same⟩, trivial⟩, K0 _ _ (okH hfg0) okN⟩
     ·
      refine T.hchkT ?_
      refine T.hchkT ?_
      refine T.hchkT ?_
      refine T.hchkT ?_
      refine T.hchkT ?_
      refine T.hchkT ?_
      refine T.hchkT ?_
      refine T.hchkT ?_
      refine T.hchkT ?_
      refine T.hchkT ?_
      refine T.hiteP (fun gh7 => ?_) (fun gh7 => ?_)
      ·
       refine T.hchkT ?_
       refine T.hchk ?_ ?_
       · first | rfl | (simp only [Bool.and_eq_true, decide_eq_true_eq]; omega)
       refine T.hchkT ?_
       refine T.hchkT ?_
       refine T.hchkT ?_
       refine T.hchkT ?_
       refine T.hchkT ?_
       refine T.hchkT ?_
       refine T.hneed ?_ ?_
       · exact ⟨rfl, ⟨rfl, rfl, rfl⟩, ⟨rfl, rfl, rfl⟩, ar1 rfl rfl hfg0 (by omega), trivial⟩
       refine T.hchkT ?_
       refine T.hret ?_
       exact ⟨_, plSt ⟨x, kd, ar, nn, len, cap, N, i, ⟨true, (Int.toNat (kpI n0 s0 (M))), (Int.toNat (↑(Int.toNat (kpI n0 s0 (M))) : Int)), c0, _, _, d0, _, _⟩, ⟨false, 0, 0, 0, 0, fun _ => 0, 0, 0, fun _ => 0⟩⟩, sT [0, 1, 2, 3, 4, 5] ⟨⟨_, rfl, x.ok⟩, ⟨_, rfl, act_ok (by decide) rfl⟩, ⟨_, rfl, skB_ok (iS (iI (la_nil (iI (iI la_end)))))⟩, ⟨_, rfl, skB_ok (iI (iS (la_nil (iI (iI la_end)))))⟩, ⟨_, rfl, byt_same⟩, ⟨_, rfl, byt_same⟩, trivial⟩, K0 _ _ (okH hfg0) okN⟩
      ·
       refine T.hchkT ?_
       refine T.hchkT ?_
       refine T.hchkT ?_
       refine T.hchkT ?_
       refine T.hchkT ?_
       refine T.hneed ?_ ?_
       · exact ⟨rfl, ⟨rfl, rfl, rfl⟩, ⟨rfl, rfl, rfl⟩, ar1 rfl rfl hfg0 (by omega), trivial⟩
       refine T.hchkT ?_
       refine T.hret ?_
       exact ⟨_, plSt ⟨x, kd, ar, nn, len, cap, N, i, ⟨true, (Int.toNat (kpI n0 s0 (M))), (Int.toNat (↑(Int.toNat (kpI n0 s0 (M))) : Int)), c0, _, _, d0, _, _⟩, ⟨false, 0, 0, 0, 0, fun _ => 0, 0, 0, fun _ => 0⟩⟩, sT [0, 1, 2, 3, 4, 5] ⟨⟨_, rfl, x.ok⟩, ⟨_, rfl, act_ok (by decide) rfl⟩, ⟨_, rfl, skB_ok (iS (iI (la_nil (iI (iI la_end)))))⟩, ⟨_, rfl, skB_ok (iI (iS (la_nil (iI (iI la_end)))))⟩, ⟨_, rfl, byt_same⟩, ⟨_, rfl, byt_same⟩, trivial⟩, K0 _ _ (okH hfg0) okN⟩
    ·
     refine T.hite (fun gh8 => ?_) (fun gh8 => ?_)
     ·
      refine T.hchkT ?_
      refine T.hchkT ?_
      refine T.hchkT ?_
      refine T.hchkT ?_
      refine T.hchkT ?_
      refine T.hiteP (fun gh9 => ?_) (fun gh9 => ?_)
      ·
       refine T.hneed rfl ?_
       refine T.hneed rfl ?_
       refine T.hchk ?_ ?_
       · assumption
       refine T.hchkT ?_
       refine T.hchkT ?_
       refine T.hchk ?_ ?_
       · exact decide_eq_true (by omega)
       refine T.hneed rfl ?_
       refine T.hchk ?_ ?_
       · assumption
       refine T.hchkT ?_
       refine T.hneed ?_ ?_
       · exact ⟨rfl, ⟨rfl, rfl, rfl⟩, ⟨rfl, rfl, rfl⟩, ar1 rfl rfl hfg0 (by omega), trivial⟩
       refine T.hchkT ?_
       refine T.hret ?_
       exact ⟨_, plSt ⟨x, kd, ar, nn, len, cap, N, i, ⟨true, n0, s0, c0, _, _, d0, _, _⟩, ⟨false, 0, 0, 0, 0, fun _ => 0, 0, 0, fun _ => 0⟩⟩, sT [0, 1, 2, 3, 4, 5] ⟨⟨_, rfl, x.ok⟩, ⟨_, rfl, act_ok (by decide) rfl⟩, ⟨_, rfl, skB_ok (iS (iI (la_nil (iI (iI la_end)))))⟩, ⟨_, rfl, skB_ok (iI (iS (la_nil (iI (iI la_end)))))⟩, ⟨_, rfl, byt_same⟩, ⟨_, rfl, byt_same⟩, trivial⟩, K0 _ _ (okH hfg0) okN⟩
      ·
       refine T.hchkT ?_
       refine T.hchk ?_ ?_
       · exact decide_eq_true (by omega)
       refine T.hneed rfl ?_
       refine T.hneed rfl ?_
       refine T.hchkT ?_
       refine T.hneed rfl ?_
       refine T.hneed rfl ?_
       refine T.hneed rfl ?_
       refine T.hchk ?_ ?_
       · assumption
       refine T.hchkT ?_
       refine T.hchkT ?_
       refine T.hchk ?_ ?_
       · (simp only [Bool.not_eq_true', decide_eq_false_iff_not]; omega)
       refine T.hchkT ?_
       refine T.hchk ?_ ?_
       · exact decide_eq_true (by omega)
       refine T.hneed rfl ?_
       refine T.hneed rfl ?_
       refine T.hchkT ?_
       refine T.hneed rfl ?_
       refine T.hneed rfl ?_
       refine T.hchk ?_ ?_
       · assumption
       refine T.hchkT ?_
       refine T.hneed ?_ ?_
       · exact ⟨rfl, ⟨rfl, rfl, rfl⟩, ⟨rfl, rfl, rfl⟩, ar1 rfl rfl hfg0 (by omega), trivial⟩
       refine T.hchkT ?_
       refine T.hret ?_
       exact ⟨_, plSt ⟨x, kd, ar, nn, len, cap, N, i, ⟨true, n0, s0, c0, _, _, d0, _, _⟩, ⟨false, 0, 0, 0, 0, fun _ => 0, 0, 0, fun _ => 0⟩⟩, sT [0, 1, 2, 3, 4, 5] ⟨⟨_, rfl, x.ok⟩, ⟨_, rfl, act_ok (by decide) rfl⟩, ⟨_, rfl, skB_ok (iS (iI (la_nil (iI (iI la_end)))))⟩, ⟨_, rfl, skB_ok (iI (iS (la_nil (iI (iI la_end)))))⟩, ⟨_, rfl, byt_same⟩, ⟨_, rfl, byt_same⟩, trivial⟩, K0 _ _ (okH hfg0) okN⟩
     ·
      refine T.hneed ?_ ?_
      · exact rowJ (fun r => by repeat' first | exact ⟨_, rfl⟩ | refine isI_ite (fun h => absurd h (Nat.not_lt_zero _)) (fun _ => ?_) | refine isI_ite (fun _ => ?_) (fun _ => ?_))
      refine T.hchk ?_ ?_
      · exact decide_eq_true (by omega)
      refine T.hchk ?_ ?_
      · exact decide_eq_true (by omega)
      refine T.hiteP (fun gh10 => ?_) (fun gh10 => ?_)
      ·
       refine T.hall (fun c => ?_)
       refine T.hasmP (fun gh11 => ?_)
       refine T.hchkT ?_
       refine T.hchkT ?_
       refine T.hchkT ?_
       refine T.hchkT ?_
       refine T.hchkT ?_
       refine T.hiteP (fun gh12 => ?_) (fun gh12 => ?_)
       ·
        refine T.hneed rfl ?_
        refine T.hneed rfl ?_
        refine T.hchk ?_ ?_
        · (rw [Bool.not_eq_true']; assumption)
        refine T.hchkT ?_
        refine T.hchkT ?_
        refine T.hchk ?_ ?_
        · exact decide_eq_true (by omega)
        refine T.hneed rfl ?_
        refine T.hchk ?_ ?_
        · (rw [Bool.not_eq_true']; assumption)
        refine T.hneed ?_ ?_
        · exact rowJ (fun r => by repeat' first | exact ⟨_, rfl⟩ | refine isI_ite (fun h => absurd h (Nat.not_lt_zero _)) (fun _ => ?_) | refine isI_ite (fun _ => ?_) (fun _ => ?_))
        refine T.hchkT ?_
        refine T.hchk ?_ ?_
        · exact decide_eq_true (by omega)
        refine T.hchk ?_ ?_
        · exact decide_eq_true (by omega)
        refine T.hchkT ?_
        refine T.hneed ?_ ?_
        · exact ⟨rfl, ⟨rfl, rfl, rfl⟩, ⟨rfl, rfl, rfl⟩, ar1 rfl rfl hfg0 (by omega), trivial⟩
        refine T.hchkT ?_
        refine T.hret ?_
        exact ⟨_, plSt ⟨x, kd, ar, nn, len, cap, N, i, ⟨true, n0, s0, c0, _, _, d0, _, _⟩, ⟨false, 0, 0, 0, 0, fun _ => 0, 0, 0, fun _ => 0⟩⟩, sT [0, 1, 2, 3, 4, 5] ⟨⟨_, rfl, x.ok⟩, ⟨_, rfl, act_ok (by decide) rfl⟩, ⟨_, rfl, skB_ok (iS (iI (la_nil (iI (iI la_end)))))⟩, ⟨_, rfl, skB_ok (iI (iS (la_nil (iI (iI la_end)))))⟩, ⟨_, rfl, byt_same⟩, ⟨_, rfl, byt_same⟩, trivial⟩, K0 _ _ (okH hfg0) okN⟩
       ·
        refine T.hchkT ?_
        refine T.hchk ?_ ?_
        · exact decide_eq_true (by omega)
        refine T.hchk ?_ ?_
        · exact decide_eq_true (by omega)
        refine T.hchk ?_ ?_
        · exact decide_eq_true (by omega)
        refine T.hchk ?_ ?_
        · exact decide_eq_true (by omega)
        refine T.hall (fun c_1 => ?_)
        refine T.hall (fun c_2 => ?_)
        refine T.hasmP (fun gh13 => ?_)
        refine T.hneed rfl ?_
        refine T.hneed rfl ?_
        refine T.hchkT ?_
        refine T.hneed rfl ?_
        refine T.hneed rfl ?_
        refine T.hneed rfl ?_
        refine T.hchk ?_ ?_
        · (rw [Bool.not_eq_true']; assumption)
        refine T.hchkT ?_
        refine T.hchkT ?_
        refine T.hchk ?_ ?_
        · (simp only [Bool.not_eq_true', decide_eq_false_iff_not]; omega)
        refine T.hchkT ?_
        refine T.hchk ?_ ?_
        · exact decide_eq_true (by omega)
        refine T.hchk ?_ ?_
        · exact decide_eq_true (by omega)
        refine T.hchk ?_ ?_
        · exact decide_eq_true (by omega)
        refine T.hchk ?_ ?_
        · exact decide_eq_true (by omega)
        refine T.hall (fun c_3 => ?_)
        refine T.hall (fun c_4 => ?_)
        refine T.hasmP (fun gh14 => ?_)
        refine T.hneed rfl ?_
        refine T.hneed rfl ?_
        refine T.hchkT ?_
        refine T.hneed rfl ?_
        refine T.hneed rfl ?_
        refine T.hchk ?_ ?_
        · (rw [Bool.not_eq_true']; assumption)
        refine T.hneed ?_ ?_
        · exact rowJ (fun r => by repeat' first | exact ⟨_, rfl⟩ | refine isI_ite (fun h => absurd h (Nat.not_lt_zero _)) (fun _ => ?_) | refine isI_ite (fun _ => ?_) (fun _ => ?_))
        refine T.hchkT ?_
        refine T.hchk ?_ ?_
        · exact decide_eq_true (by omega)
        refine T.hchk ?_ ?_
        · exact decide_eq_true (by omega)
        refine T.hchkT ?_
        refine T.hneed ?_ ?_
        · exact ⟨rfl, ⟨rfl, rfl, rfl⟩, ⟨rfl, rfl, rfl⟩, ⟨_, _, rfl, rfl, rowJ (fun r => by repeat' first | exact ⟨_, rfl⟩ | refine isI_ite (fun h => absurd h (Nat.not_lt_zero _)) (fun _ => ?_) | refine isI_ite (fun _ => ?_) (fun _ => ?_)), rowJ (fun r => by repeat' first | exact ⟨_, rfl⟩ | refine isI_ite (fun h => absurd h (Nat.not_lt_zero _)) (fun _ => ?_) | refine isI_ite (fun _ => ?_) (fun _ => ?_)), by omega, ⟨by (try dsimp only [bytB, Blk.rows]); omega, by (try dsimp only [bytB, Blk.rows]); omega, by omega⟩, fun r hr => by rw [intAt_hd, intAt_hd]; (try dsimp only [bytB, Blk.rows]); first | exact hfg0 r (by omega) | exact hfg1 r (by omega) | (show hdI _ = hdI _; rw [if_neg (Nat.not_lt_zero r), if_neg (Nat.not_lt_zero r)]; (repeat rw [if_pos (by omega)]); show x.z _ = x.z _; first | rfl | (congr 2; omega)) | (show hdI _ = hdI _; by_cases hq : r < n0; (rw [if_pos hq, if_pos hq]; show f0 _ = g0 _; rw [Nat.zero_add]; exact hfg0 r hq); (rw [if_neg hq, if_neg hq]; (repeat rw [if_pos (by omega)]); show x.z _ = x.z _; first | rfl | (congr 2; omega))) | (show hdI _ = hdI _; by_cases hq : r < n1; (rw [if_pos hq, if_pos hq]; show f1 _ = g1 _; rw [Nat.zero_add]; exact hfg1 r hq); (rw [if_neg hq, if_neg hq]; (repeat rw [if_pos (by omega)]); show x.z _ = x.z _; first | rfl | (congr 2; omega))) | (show hdI _ = hdI _; rw [if_pos (by omega)]; show f0 _ = g0 _; rw [Nat.zero_add]; exact hfg0 r (by omega)) | (show hdI _ = hdI _; rw [if_pos (by omega)]; show f1 _ = g1 _; rw [Nat.zero_add]; exact hfg1 r (by omega)) | (show _ = hdI _; rw [if_pos (by omega)]; show f0 _ = g0 _; rw [Nat.zero_add]; exact hfg0 r (by omega)) | (show _ = hdI _; rw [if_pos (by omega)]; show f1 _ = g1 _; rw [Nat.zero_add]; exact hfg1 r (by omega))⟩, trivial⟩
        refine T.hchkT ?_
        refine T.hret ?_
        exact ⟨_, plSt ⟨x, kd, ar, nn, len, cap, N, i, ⟨true, (n0 + FD.ln x [i]), s0, c_1, _, _, c_3, _, _⟩, ⟨false, 0, 0, 0, 0, fun _ => 0, 0, 0, fun _ => 0⟩⟩, sT [0, 1, 2, 3, 9, 11] ⟨⟨_, rfl, x.ok⟩, ⟨_, rfl, act_ok (by decide) rfl⟩, ⟨_, rfl, skB_ok (iS (iI (la_nil (iI (iI la_end)))))⟩, ⟨_, rfl, skB_ok (iI (iS (la_nil (iI (iI la_end)))))⟩, ⟨_, rfl, byt_ok (fun r => by repeat' first | exact ⟨_, rfl⟩ | refine isI_ite (fun h => absurd h (Nat.not_lt_zero _)) (fun _ => ?_) | refine isI_ite (fun _ => ?_) (fun _ => ?_))⟩, ⟨_, rfl, byt_ok (fun r => by repeat' first | exact ⟨_, rfl⟩ | refine isI_ite (fun h => absurd h (Nat.not_lt_zero _)) (fun _ => ?_) | refine isI_ite (fun _ => ?_) (fun _ => ?_))⟩, trivial⟩, K0 _ _ (okC fun r hr => by first | exact absurd hr (Nat.not_lt_zero _) | ((try dsimp only at hr); first | exact hfg0 r (by omega) | exact hfg1 r (by omega) | (show hdI _ = hdI _; rw [if_neg (Nat.not_lt_zero r), if_neg (Nat.not_lt_zero r)]; (repeat rw [if_pos (by omega)]); show x.z _ = x.z _; first | rfl | (congr 2; omega)) | (show hdI _ = hdI _; by_cases hq : r < n0; (rw [if_pos hq, if_pos hq]; show f0 _ = g0 _; rw [Nat.zero_add]; exact hfg0 r hq); (rw [if_neg hq, if_neg hq]; (repeat rw [if_pos (by omega)]); show x.z _ = x.z _; first | rfl | (congr 2; omega))) | (show hdI _ = hdI _; by_cases hq : r < n1; (rw [if_pos hq, if_pos hq]; show f1 _ = g1 _; rw [Nat.zero_add]; exact hfg1 r hq); (rw [if_neg hq, if_neg hq]; (repeat rw [if_pos (by omega)]); show x.z _ = x.z _; first | rfl | (congr 2; omega))) | (show hdI _ = hdI _; rw [if_pos (by omega)]; show f0 _ = g0 _; rw [Nat.zero_add]; exact hfg0 r (by omega)) | (show hdI _ = hdI _; rw [if_pos (by omega)]; show f1 _ = g1 _; rw [Nat.zero_add]; exact hfg1 r (by omega)) | (show _ = hdI _; rw [if_pos (by omega)]; show f0 _ = g0 _; rw [Nat.zero_add]; exact hfg0 r (by omega)) | (show _ = hdI _; rw [if_pos (by omega)]; show f1 _ = g1 _; rw [Nat.zero_add]; exact hfg1 r (by omega)))) okN⟩
      ·
       refine T.hchkT ?_
       refine T.hchkT ?_
       refine T.hchkT ?_
       refine T.hchkT ?_
       refine T.hchkT ?_
       refine T.hiteP (fun gh15 => ?_) (fun gh15 => ?_)
       ·
        refine T.hneed rfl ?_
        refine T.hneed rfl ?_
        refine T.hchk ?_ ?_
        · (rw [Bool.not_eq_true']; assumption)
        refine T.hchkT ?_
        refine T.hchkT ?_
        refine T.hchk ?_ ?_
        · exact decide_eq_true (by omega)
        refine T.hneed rfl ?_
        refine T.hchk ?_ ?_
        · (rw [Bool.not_eq_true']; assumption)
        refine T.hchkT ?_
        refine T.hneed ?_ ?_
        · exact ⟨rfl, ⟨rfl, rfl, rfl⟩, ⟨rfl, rfl, rfl⟩, ar1 rfl rfl hfg0 (by omega), trivial⟩
        refine T.hchkT ?_
        refine T.hret ?_
        exact ⟨_, plSt ⟨x, kd, ar, nn, len, cap, N, i, ⟨true, n0, s0, c0, _, _, d0, _, _⟩, ⟨false, 0, 0, 0, 0, fun _ => 0, 0, 0, fun _ => 0⟩⟩, sT [0, 1, 2, 3, 4, 5] ⟨⟨_, rfl, x.ok⟩, ⟨_, rfl, act_ok (by decide) rfl⟩, ⟨_, rfl, skB_ok (iS (iI (la_nil (iI (iI la_end)))))⟩, ⟨_, rfl, skB_ok (iI (iS (la_nil (iI (iI la_end)))))⟩, ⟨_, rfl, byt_same⟩, ⟨_, rfl, byt_same⟩, trivial⟩, K0 _ _ (okH hfg0) okN⟩
       ·
        refine T.hchkT ?_
        refine T.hchk ?_ ?_
        · exact decide_eq_true (by omega)
        refine T.hneed rfl ?_
        refine T.hneed rfl ?_
        refine T.hchkT ?_
        refine T.hneed rfl ?_
        refine T.hneed rfl ?_
        refine T.hneed rfl ?_
        refine T.hchk ?_ ?_
        · (rw [Bool.not_eq_true']; assumption)
        refine T.hchkT ?_
        refine T.hchkT ?_
        refine T.hchk ?_ ?_
        · (simp only [Bool.not_eq_true', decide_eq_false_iff_not]; omega)
        refine T.hchkT ?_
        refine T.hchk ?_ ?_
        · exact decide_eq_true (by omega)
        refine T.hchk ?_ ?_
        · exact decide_eq_true (by omega)
        refine T.hchk ?_ ?_
        · exact decide_eq_true (by omega)
        refine T.hchk ?_ ?_
        · exact decide_eq_true (by omega)
        refine T.hall (fun c => ?_)
        refine T.hall (fun c_1 => ?_)
        refine T.hasmP (fun gh16 => ?_)
        refine T.hneed rfl ?_
        refine T.hneed rfl ?_
        refine T.hchkT ?_
        refine T.hneed rfl ?_
        refine T.hneed rfl ?_
        refine T.hchk ?_ ?_
        · (rw [Bool.not_eq_true']; assumption)
        refine T.hchkT ?_
        refine T.hneed ?_ ?_
        · exact ⟨rfl, ⟨rfl, rfl, rfl⟩, ⟨rfl, rfl, rfl⟩, ⟨_, _, rfl, rfl, rowJ (fun r => by repeat' first | exact ⟨_, rfl⟩ | refine isI_ite (fun h => absurd h (Nat.not_lt_zero _)) (fun _ => ?_) | refine isI_ite (fun _ => ?_) (fun _ => ?_)), rowJ (fun r => by repeat' first | exact ⟨_, rfl⟩ | refine isI_ite (fun h => absurd h (Nat.not_lt_zero _)) (fun _ => ?_) | refine isI_ite (fun _ => ?_) (fun _ => ?_)), by omega, ⟨by (try dsimp only [bytB, Blk.rows]); omega, by (try dsimp only [bytB, Blk.rows]); omega, by omega⟩, fun r hr => by rw [intAt_hd, intAt_hd]; (try dsimp only [bytB, Blk.rows]); first | exact hfg0 r (by omega) | exact hfg1 r (by omega) | (show hdI _ = hdI _; rw [if_neg (Nat.not_lt_zero r), if_neg (Nat.not_lt_zero r)]; (repeat rw [if_pos (by omega)]); show x.z _ = x.z _; first | rfl | (congr 2; omega)) | (show hdI _ = hdI _; by_cases hq : r < n0; (rw [if_pos hq, if_pos hq]; show f0 _ = g0 _; rw [Nat.zero_add]; exact hfg0 r hq); (rw [if_neg hq, if_neg hq]; (repeat rw [if_pos (by omega)]); show x.z _ = x.z _; first | rfl | (congr 2; omega))) | (show hdI _ = hdI _; by_cases hq : r < n1; (rw [if_pos hq, if_pos hq]; show f1 _ = g1 _; rw [Nat.zero_add]; exact hfg1 r hq); (rw [if_neg hq, if_neg hq]; (repeat rw [if_pos (by omega)]); show x.z _ = x.z _; first | rfl | (congr 2; omega))) | (show hdI _ = hdI _; rw [if_pos (by omega)]; show f0 _ = g0 _; rw [Nat.zero_add]; exact hfg0 r (by omega)) | (show hdI _ = hdI _; rw [if_pos (by omega)]; show f1 _ = g1 _; rw [Nat.zero_add]; exact hfg1 r (by omega)) | (show _ = hdI _; rw [if_pos (by omega)]; show f0 _ = g0 _; rw [Nat.zero_add]; exact hfg0 r (by omega)) | (show _ = hdI _; rw [if_pos (by omega)]; show f1 _ = g1 _; rw [Nat.zero_add]; exact hfg1 r (by omega))⟩, trivial⟩
        refine T.hchkT ?_
        refine T.hret ?_
        exact ⟨_, plSt ⟨x, kd, ar, nn, len, cap, N, i, ⟨true, n0, s0, c0, _, _, c, _, _⟩, ⟨false, 0, 0, 0, 0, fun _ => 0, 0, 0, fun _ => 0⟩⟩, sT [0, 1, 2, 3, 4, 9] ⟨⟨_, rfl, x.ok⟩, ⟨_, rfl, act_ok (by decide) rfl⟩, ⟨_, rfl, skB_ok (iS (iI (la_nil (iI (iI la_end)))))⟩, ⟨_, rfl, skB_ok (iI (iS (la_nil (iI (iI la_end)))))⟩, ⟨_, rfl, byt_same⟩, ⟨_, rfl, byt_ok (fun r => by repeat' first | exact ⟨_, rfl⟩ | refine isI_ite (fun h => absurd h (Nat.not_lt_zero _)) (fun _ => ?_) | refine isI_ite (fun _ => ?_) (fun _ => ?_))⟩, trivial⟩, K0 _ _ (okC fun r hr => by first | exact absurd hr (Nat.not_lt_zero _) | ((try dsimp only at hr); first | exact hfg0 r (by omega) | exact hfg1 r (by omega) | (show hdI _ = hdI _; rw [if_neg (Nat.not_lt_zero r), if_neg (Nat.not_lt_zero r)]; (repeat rw [if_pos (by omega)]); show x.z _ = x.z _; first | rfl | (congr 2; omega)) | (show hdI _ = hdI _; by_cases hq : r < n0; (rw [if_pos hq, if_pos hq]; show f0 _ = g0 _; rw [Nat.zero_add]; exact hfg0 r hq); (rw [if_neg hq, if_neg hq]; (repeat rw [if_pos (by omega)]); show x.z _ = x.z _; first | rfl | (congr 2; omega))) | (show hdI _ = hdI _; by_cases hq : r < n1; (rw [if_pos hq, if_pos hq]; show f1 _ = g1 _; rw [Nat.zero_add]; exact hfg1 r hq); (rw [if_neg hq, if_neg hq]; (repeat rw [if_pos (by omega)]); show x.z _ = x.z _; first | rfl | (congr 2; omega))) | (show hdI _ = hdI _; rw [if_pos (by omega)]; show f0 _ = g0 _; rw [Nat.zero_add]; exact hfg0 r (by omega)) | (show hdI _ = hdI _; rw [if_pos (by omega)]; show f1 _ = g1 _; rw [Nat.zero_add]; exact hfg1 r (by omega)) | (show _ = hdI _; rw [if_pos (by omega)]; show f0 _ = g0 _; rw [Nat.zero_add]; exact hfg0 r (by omega)) | (show _ = hdI _; rw [if_pos (by omega)]; show f1 _ = g1 _; rw [Nat.zero_add]; exact hfg1 r (by omega)))) okN⟩



set_option maxRecDepth 100000
set_option maxHeartbeats 16000000
set_option linter.unusedVariables false
set_option linter.unusedSimpArgs false

theorem pl_r101 (K M : Int) (x : FD) (kd ar nn : Nat → Int) (len cap i : Nat) (N : Int) (n0 s0 c0 b0 : Nat) (f0 : Nat → Int) (d0 e0 : Nat) (g0 : Nat → Int) (n1 s1 c1 b1 : Nat) (f1 : Nat → Int) (d1 e1 : Nat) (g1 : Nat → Int) (hwf : x.wf .u8) (hL : x.ln [i] ≤ 4096) (hN : 64 ≤ N ∧ N ≤ 262144) (ha : PR.ok N ⟨true, n0, s0, c0, b0, f0, d0, e0, g0⟩) (he : PR.ok N ⟨false, n1, s1, c1, b1, f1, d1, e1, g1⟩) {Q : Ex × St → Prop}
    (hR : Q (.ret, ⟨[(4, .bool true)], [none, none]⟩)) (K0 : ∀ a e, PR.ok N a → PR.ok N e → Q (.norm, plSt ⟨x, kd, ar, nn, len, cap, N, i, a, e⟩)) {D : List Code} (hD : D = (chainOf plD).drop 3) :
    (acodeL Try.prog plE D ⟨(10, .ptr 6 0 0 0) :: plFr len cap i, actM x kd ar nn cap ++ plM N ⟨true, n0, s0, c0, b0, f0, d0, e0, g0⟩ ⟨false, n1, s1, c1, b1, f1, d1, e1, g1⟩ ++ [some (boxB K 1 M i)]⟩).holds (Weak plE Q) := by
  obtain ⟨ha0, ha1, ha2, ⟨ha3, ha4⟩, ⟨ha5, ha6⟩, hfg0⟩ := ha
  obtain ⟨he0, he1, he2, ⟨he3, he4⟩, ⟨he5, he6⟩, hfg1⟩ := he
  dsimp only at ha0 ha1 ha2 ha3 ha4 ha5 ha6 hfg0 he0 he1 he2 he3 he4 he5 he6 hfg1
  have hr0 : IntKind.wrap IntKind.i64 (N - (↑n0 : Int)) = N - (↑n0 : Int) := IntWalk.i64_in _ (by omega)
  have hr1 : IntKind.wrap IntKind.i64 (N - (↑n1 : Int)) = N - (↑n1 : Int) := IntWalk.i64_in _ (by omega)
  have hrz : IntKind.wrap IntKind.i64 (N - (0 : Int)) = N - (0 : Int) := IntWalk.i64_in _ (by omega)
  have hk0 := cr_bd ha1 (by omega) M
  have hk1 := cr_bd he1 (by omega) M
  have hkz := cr_bd (Nat.le_refl 0) (by decide) M
  have hc0 := ct_eq n0 M
  have hc1 := ct_eq n1 M
  have hcz := ct_eq 0 M
  have hle := hwf.le [i]
  have e := pl_t101 K M x kd ar nn len cap i N n0 s0 c0 b0 f0 d0 e0 g0 n1 s1 c1 b1 f1 d1 e1 g1
  rw [← hD] at e
  refine weak_keep [1, 4, 5, 7, 9] (T.cut_eq e ?_)
  clear e
  refine T.hiteE (fun gh1 => ?_) (fun gh1 => ?_)
  ·
   refine T.hchkT ?_
   refine T.hchkT ?_
   refine T.hchkT ?_
   refine T.hchkT ?_
   refine T.hchkT ?_
   refine T.hchkT ?_
   refine T.hchkT ?_
   refine T.hchkT ?_
   refine T.hneed ?_ ?_
   · exact ⟨rfl, ⟨rfl, rfl, rfl⟩, ⟨rfl, rfl, rfl⟩, ar1 rfl rfl hfg0 (by omega), trivial⟩
   refine T.hchkT ?_
   refine T.hret ?_
   exact ⟨_, plSt ⟨x, kd, ar, nn, len, cap, N, i, ⟨true, n0, s0, c0, _, _, d0, _, _⟩, ⟨false, 0, 0, 0, 0, fun _ => 0, 0, 0, fun _ => 0⟩⟩, sT [0, 1, 2, 3, 4, 5] ⟨⟨_, rfl, x.ok⟩, ⟨_, rfl, act_ok (by decide) rfl⟩, ⟨_, rfl, skB_ok (iS (iI (la_nil (iI (iI la_end)))))⟩, ⟨_, rfl, skB_ok (iI (iS (la_nil (iI (iI la_end)))))⟩, ⟨_, rfl, byt_same⟩, ⟨_, rfl, byt_same⟩, trivial⟩, K0 _ _ (okH hfg0) okN⟩
  ·
   refine T.hiteE (fun gh2 => ?_) (fun gh2 => ?_)
   ·
    refine T.hchkT ?_
    refine T.hchkT ?_
    refine T.hchkT ?_
    refine T.hchk ?_ ?_
    · first | rfl | (simp only [Bool.and_eq_true, decide_eq_true_eq]; omega)
    refine T.hchkT ?_
    refine T.hchkT ?_
    refine T.hchkT ?_
    refine T.hiteP (fun gh3 => ?_) (fun gh3 => ?_)
    ·
     refine T.hchkT ?_
     refine T.hchk ?_ ?_
     · first | rfl | (simp only [Bool.and_eq_true, decide_eq_true_eq]; omega)
     refine T.hchkT ?_
     refine T.hchkT ?_
     refine T.hchkT ?_
     refine T.hchkT ?_
     refine T.hchkT ?_
     refine T.hneed ?_ ?_
     · exact ⟨rfl, ⟨rfl, rfl, rfl⟩, ⟨rfl, rfl, rfl⟩, ar1 rfl rfl hfg0 (by omega), trivial⟩
     refine T.hchkT ?_
     refine T.hret ?_
     exact ⟨_, plSt ⟨x, kd, ar, nn, len, cap, N, i, ⟨true, n0, s0, c0, _, _, d0, _, _⟩, ⟨false, 0, 0, 0, 0, fun _ => 0, 0, 0, fun _ => 0⟩⟩, sT [0, 1, 2, 3, 4, 5] ⟨⟨_, rfl, x.ok⟩, ⟨_, rfl, act_ok (by decide) rfl⟩, ⟨_, rfl, skB_ok (iS (iI (la_nil (iI (iI la_end)))))⟩, ⟨_, rfl, skB_ok (iI (iS (la_nil (iI (iI la_end)))))⟩, ⟨_, rfl, byt_same⟩, ⟨_, rfl, byt_same⟩, trivial⟩, K0 _ _ (okH hfg0) okN⟩
    ·
     refine T.hchkT ?_
     refine T.hchkT ?_
     refine T.hchkT ?_
     refine T.hchkT ?_
     refine T.hneed ?_ ?_
     · exact ⟨rfl, ⟨rfl, rfl, rfl⟩, ⟨rfl, rfl, rfl⟩, ar1 rfl rfl hfg0 (by omega), trivial⟩
     refine T.hchkT ?_
     refine T.hret ?_
     exact ⟨_, plSt ⟨x, kd, ar, nn, len, cap, N, i, ⟨true, n0, s0, c0, _, _, d0, _, _⟩, ⟨false, 0, 0, 0, 0, fun _ => 0, 0, 0, fun _ => 0⟩⟩, sT [0, 1, 2, 3, 4, 5] ⟨⟨_, rfl, x.ok⟩, ⟨_, rfl, act_ok (by decide) rfl⟩, ⟨_, rfl, skB_ok (iS (iI (la_nil (iI (iI la_end)))))⟩, ⟨_, rfl, skB_ok (iI (iS (la_nil (iI (iI la_end)))))⟩, ⟨_, rfl, byt_same⟩, ⟨_, rfl, byt_same⟩, trivial⟩, K0 _ _ (okH hfg0) okN⟩
   ·
    refine T.hiteE (fun gh4 => ?_) (fun gh4 => ?_)
    ·
     refine T.hchkT ?_
     refine T.hchkT ?_
     refine T.hchk ?_ ?_
     · first | rfl | (simp only [Bool.and_eq_true, decide_eq_true_eq]; omega)
     refine T.hchkT ?_
     refine T.hchkT ?_
     refine T.hchk ?_ ?_
     · first | rfl | (simp only [Bool.and_eq_true, decide_eq_true_eq]; omega)
     refine T.hchkT ?_
     refine T.hchkT ?_
     refine T.hchkT ?_
     refine T.hchkT ?_
     refine T.hchkT ?_
     refine T.hchkT ?_
     refine T.hchkT ?_
     refine T.hiteP (fun gh5 => ?_) (fun gh5 => ?_)
     ·
      refine T.hchkT ?_
      refine T.hchk ?_ ?_
      · first | rfl | (simp only [Bool.and_eq_true, decide_eq_true_eq]; omega)
      refine T.hchkT ?_
      refine T.hchkT ?_
      refine T.hchkT ?_
      refine T.hchkT ?_
      refine T.hchkT ?_
      refine T.hchkT ?_
      refine T.hchkT ?_
      refine T.hchkT ?_
      refine T.hchkT ?_
      refine T.hchkT ?_
      refine T.hchkT ?_
      refine T.hiteP (fun gh6 => ?_) (fun gh6 => ?_)
      ·
       refine T.hchkT ?_
       refine T.hchk ?_ ?_
       · first | rfl | (simp only [Bool.and_eq_true, decide_eq_true_eq]; omega)
       refine T.hchkT ?_
       refine T.hchkT ?_
       refine T.hchkT ?_
       refine T.hchkT ?_
       refine T.hchkT ?_
       refine T.hchkT ?_
       refine T.hneed ?_ ?_
       · exact ⟨rfl, ⟨rfl, rfl, rfl⟩, ⟨rfl, rfl, rfl⟩, ar1 rfl rfl hfg0 (by omega), trivial⟩
       refine T.hchkT ?_
       refine T.hret ?_
       exact ⟨_, plSt ⟨x, kd, ar, nn, len, cap, N, i, ⟨true, (Int.toNat (kpI n0 s0 (M))), (Int.toNat (↑(Int.toNat (kpI n0 s0 (M))) : Int)), c0, _, _, d0, _, _⟩, ⟨false, 0, 0, 0, 0, fun _ => 0, 0, 0, fun _ => 0⟩⟩, sT [0, 1, 2, 3, 4, 5] ⟨⟨_, rfl, x.ok⟩, ⟨_, rfl, act_ok (by decide) rfl⟩, ⟨_, rfl, skB_ok (iS (iI (la_nil (iI (iI la_end)))))⟩, ⟨_, rfl, skB_ok (iI (iS (la_nil (iI (iI la_end)))))⟩, ⟨_, rfl, byt_same⟩, ⟨_, rfl, byt_same⟩, trivial⟩, K0 _ _ (okH hfg0) okN⟩
      ·
       refine T.hchkT ?_
       refine T.hchkT ?_
       refine T.hchkT ?_
       refine T.hchkT ?_
       refine T.hchkT ?_
       refine T.hneed ?_ ?_
       · exact ⟨rfl, ⟨rfl, rfl, rfl⟩, ⟨rfl, rfl, rfl⟩, ar1 rfl rfl hfg0 (by omega), trivial⟩
       refine T.hchkT ?_
       refine T.hret ?_
       exact ⟨_, plSt ⟨x, kd, ar, nn, len, cap, N, i, ⟨true, (Int.toNat (kpI n0 s0 (M))), (Int.toNat (↑(Int.toNat (kpI n0 s0 (M))) : Int)), c0, _, _, d0, _, _⟩, ⟨false, 0, 0, 0, 0, fun _ => 0, 0, 0, fun _ => 0⟩⟩, sT [0, 1, 2, 3, 4, 5] ⟨⟨_, rfl, x.ok⟩, ⟨_, rfl, act_ok (by decide) rfl⟩, ⟨_, rfl, skB_ok (iS (iI (la_nil (iI (iI la_end)))))⟩, ⟨_, rfl, skB_ok (iI (iS (la_nil (iI (iI la_end)))))⟩, ⟨_, rfl, byt_same⟩, ⟨_, rfl, byt_same⟩, trivial⟩, K0 _ _ (okH hfg0) okN⟩
     ·
      refine T.hchkT ?_
      refine T.hchkT ?_
      refine T.hchkT ?_
      refine T.hchkT ?_
      refine T.hchkT ?_
      refine T.hchkT ?_
      refine T.hchkT ?_
      refine T.hchkT ?_
      refine T.hchkT ?_
      refine T.hchkT ?_
      refine T.hiteP (fun gh7 => ?_) (fun gh7 => ?_)
      ·
       refine T.hchkT ?_
       refine T.hchk ?_ ?_
       · first | rfl | (simp only [Bool.and_eq_true, decide_eq_true_eq]; omega)
       refine T.hchkT ?_
       refine T.hchkT ?_
       refine T.hchkT ?_
       refine T.hchkT ?_
       refine T.hchkT ?_
       refine T.hchkT ?_
       refine T.hneed ?_ ?_
       · exact ⟨rfl, ⟨rfl, rfl, rfl⟩, ⟨rfl, rfl, rfl⟩, ar1 rfl rfl hfg0 (by omega), trivial⟩
       refine T.hchkT ?_
       refine T.hret ?_
       exact ⟨_, plSt ⟨x, kd, ar, nn, len, cap, N, i, ⟨true, (Int.toNat (kpI n0 s0 (M))), (Int.toNat (↑(Int.toNat (kpI n0 s0 (M))) : Int)), c0, _, _, d0, _, _⟩, ⟨false, 0, 0, 0, 0, fun _ => 0, 0, 0, fun _ => 0⟩⟩, sT [0, 1, 2, 3, 4, 5] ⟨⟨_, rfl, x.ok⟩, ⟨_, rfl, act_ok (by decide) rfl⟩, ⟨_, rfl, skB_ok (iS (iI (la_nil (iI (iI la_end)))))⟩, ⟨_, rfl, skB_ok (iI (iS (la_nil (iI (iI la_end)))))⟩, ⟨_, rfl, byt_same⟩, ⟨_, rfl, byt_same⟩, trivial⟩, K0 _ _ (okH hfg0) okN⟩
      ·
       refine T.hchkT ?_
       refine T.hchkT ?_
       refine T.hchkT ?_
       refine T.hchkT ?_
       refine T.hchkT ?_
       refine T.hneed ?_ ?_
       · exact ⟨rfl, ⟨rfl, rfl, rfl⟩, ⟨rfl, rfl, rfl⟩, ar1 rfl rfl hfg0 (by omega), trivial⟩
       refine T.hchkT ?_
       refine T.hret ?_
       exact ⟨_, plSt ⟨x, kd, ar, nn, len, cap, N, i, ⟨true, (Int.toNat (kpI n0 s0 (M))), (Int.toNat (↑(Int.toNat (kpI n0 s0 (M))) : Int)), c0, _, _, d0, _, _⟩, ⟨false, 0, 0, 0, 0, fun _ => 0, 0, 0, fun _ => 0⟩⟩, sT [0, 1, 2, 3, 4, 5] ⟨⟨_, rfl, x.ok⟩, ⟨_, rfl, act_ok (by decide) rfl⟩, ⟨_, rfl, skB_ok (iS (iI (la_nil (iI (iI la_end)))))⟩, ⟨_, rfl, skB_ok (iI (iS (la_nil (iI (iI la_end)))))⟩, ⟨_, rfl, byt_same⟩, ⟨_, rfl, byt_same⟩, trivial⟩, K0 _ _ (okH hfg0) okN⟩
    ·
     refine T.hite (fun gh8 => ?_) (fun gh8 => ?_)
     ·
      refine T.hchkT ?_
      refine T.hchkT ?_
      refine T.hchkT ?_
      refine T.hchkT ?_
      refine T.hchkT ?_
      refine T.hiteP (fun gh9 => ?_) (fun gh9 => ?_)
      ·
       refine T.hneed rfl ?_
       refine T.hneed rfl ?_
       refine T.hchk ?_ ?_
       · assumption
       refine T.hchkT ?_
       refine T.hchkT ?_
       refine T.hchkT ?_
       refine T.hchk ?_ ?_
       · exact decide_eq_true (by omega)
       refine T.hneed rfl ?_
       refine T.hchk ?_ ?_
       · assumption
       refine T.hchkT ?_
       refine T.hneed ?_ ?_
       · exact ⟨rfl, ⟨rfl, rfl, rfl⟩, ⟨rfl, rfl, rfl⟩, ar1 rfl rfl hfg0 (by omega), trivial⟩
       refine T.hchkT ?_
       refine T.hret ?_
       exact ⟨_, plSt ⟨x, kd, ar, nn, len, cap, N, i, ⟨true, n0, s0, c0, _, _, d0, _, _⟩, ⟨false, 0, 0, 0, 0, fun _ => 0, 0, 0, fun _ => 0⟩⟩, sT [0, 1, 2, 3, 4, 5] ⟨⟨_, rfl, x.ok⟩, ⟨_, rfl, act_ok (by decide) rfl⟩, ⟨_, rfl, skB_ok (iS (iI (la_nil (iI (iI la_end)))))⟩, ⟨_, rfl, skB_ok (iI (iS (la_nil (iI (iI la_end)))))⟩, ⟨_, rfl, byt_same⟩, ⟨_, rfl, byt_same⟩, trivial⟩, K0 _ _ (okH hfg0) okN⟩
      ·
       refine T.hchkT ?_
       refine T.hneed rfl ?_
       refine T.hneed rfl ?_
       refine T.hchkT ?_
       refine T.hneed rfl ?_
       refine T.hneed rfl ?_
       refine T.hneed rfl ?_
       refine T.hchk ?_ ?_
       · assumption
       refine T.hchkT ?_
       refine T.hchkT ?_
       refine T.hchkT ?_
       refine T.hchk ?_ ?_
       · (simp only [Bool.not_eq_true', decide_eq_false_iff_not]; omega)
       refine T.hchkT ?_
       refine T.hneed rfl ?_
       refine T.hneed rfl ?_
       refine T.hchkT ?_
       refine T.hneed rfl ?_
       refine T.hneed rfl ?_
       refine T.hchk ?_ ?_
       · assumption
       refine T.hchkT ?_
       refine T.hneed ?_ ?_
       · exact ⟨rfl, ⟨rfl, rfl, rfl⟩, ⟨rfl, rfl, rfl⟩, ar1 rfl rfl hfg0 (by omega), trivial⟩
       refine T.hchkT ?_
       refine T.hret ?_
       exact ⟨_, plSt ⟨x, kd, ar, nn, len, cap, N, i, ⟨true, n0, s0, c0, _, _, d0, _, _⟩, ⟨false, 0, 0, 0, 0, fun _ => 0, 0, 0, fun _ => 0⟩⟩, sT [0, 1, 2, 3, 4, 5] ⟨⟨_, rfl, x.ok⟩, ⟨_, rfl, act_ok (by decide) rfl⟩, ⟨_, rfl, skB_ok (iS (iI (la_nil (iI (iI la_end)))))⟩, ⟨_, rfl, skB_ok (iI (iS (la_nil (iI (iI la_end)))))⟩, ⟨_, rfl, byt_same⟩, ⟨_, rfl, byt_same⟩, trivial⟩, K0 _ _ (okH hfg0) okN⟩
     ·
      refine T.hneed ?_ ?_
      · exact rowJ (fun r => by repeat' first | exact ⟨_, rfl⟩ | refine isI_ite (fun h => absurd h (Nat.not_lt_zero _)) (fun _ => ?_) | refine isI_ite (fun _ => ?_) (fun _ => ?_))
      refine T.hchk ?_ ?_
      · exact decide_eq_true (by omega)
      refine T.hchk ?_ ?_
      · exact decide_eq_true (by omega)
      refine T.hiteP (fun gh10 => ?_) (fun gh10 => ?_)
      ·
       refine T.hall (fun c => ?_)
       refine T.hasmP (fun gh11 => ?_)
       refine T.hchkT ?_
       refine T.hchkT ?_
       refine T.hchkT ?_
       refine T.hchkT ?_
       refine T.hchkT ?_
       refine T.hiteP (fun gh12 => ?_) (fun gh12 => ?_)
       ·
        refine T.hneed rfl ?_
        refine T.hneed rfl ?_
        refine T.hchk ?_ ?_
        · (rw [Bool.not_eq_true']; assumption)
        refine T.hchkT ?_
        refine T.hchkT ?_
        refine T.hchkT ?_
        refine T.hchk ?_ ?_
        · exact decide_eq_true (by omega)
        refine T.hneed rfl ?_
        refine T.hchk ?_ ?_
        · (rw [Bool.not_eq_true']; assumption)
        refine T.hneed ?_ ?_
        · exact rowJ (fun r => by repeat' first | exact ⟨_, rfl⟩ | refine isI_ite (fun h => absurd h (Nat.not_lt_zero _)) (fun _ => ?_) | refine isI_ite (fun _ => ?_) (fun _ => ?_))
        refine T.hchkT ?_
        refine T.hchk ?_ ?_
        · exact decide_eq_true (by omega)
        refine T.hchk ?_ ?_
        · exact decide_eq_true (by omega)
        refine T.hchkT ?_
        refine T.hneed ?_ ?_
        · exact ⟨rfl, ⟨rfl, rfl, rfl⟩, ⟨rfl, rfl, rfl⟩, ar1 rfl rfl hfg0 (by omega), trivial⟩
        refine T.hchkT ?_
        refine T.hret ?_
        exact ⟨_, plSt ⟨x, kd, ar, nn, len, cap, N, i, ⟨true, n0, s0, c0, _, _, d0, _, _⟩, ⟨false, 0, 0, 0, 0, fun _ => 0, 0, 0, fun _ => 0⟩⟩, sT [0, 1, 2, 3, 4, 5] ⟨⟨_, rfl, x.ok⟩, ⟨_, rfl, act_ok (by decide) rfl⟩, ⟨_, rfl, skB_ok (iS (iI (la_nil (iI (iI la_end)))))⟩, ⟨_, rfl, skB_ok (iI (iS (la_nil (iI (iI la_end)))))⟩, ⟨_, rfl, byt_same⟩, ⟨_, rfl, byt_same⟩, trivial⟩, K0 _ _ (okH hfg0) okN⟩
       ·
        refine T.hchkT ?_
        refine T.hchk ?_ ?_
        · exact decide_eq_true (by omega)
        refine T.hchk ?_ ?_
        · (simp only [Bool.not_eq_true', decide_eq_false_iff_not]; omega)
        refine T.hchk ?_ ?_
        · exact decide_eq_true (by omega)
        refine T.hall (fun c_1 => ?_)
        refine T.hasmP (fun gh13 => ?_)
        refine T.hneed rfl ?_
        refine T.hneed rfl ?_
        refine T.hchkT ?_
        refine T.hneed rfl ?_
        refine T.hneed rfl ?_
        refine T.hneed rfl ?_
        refine T.hchk ?_ ?_
        · (rw [Bool.not_eq_true']; assumption)
        refine T.hchkT ?_
        refine T.hchkT ?_
        refine T.hchkT ?_
        refine T.hchk ?_ ?_
        · (simp only [Bool.not_eq_true', decide_eq_false_iff_not]; omega)
        refine T.hchkT ?_
        refine T.hchk ?_ ?_
        · exact decide_eq_true (by omega)
        refine T.hchk ?_ ?_
        · (simp only [Bool.not_eq_true', decide_eq_false_iff_not]; omega)
        refine T.hchk ?_ ?_
        · exact decide_eq_true (by omega)
        refine T.hall (fun c_2 => ?_)
        refine T.hasmP (fun gh14 => ?_)
        refine T.hneed rfl ?_
        refine T.hneed rfl ?_
        refine T.hchkT ?_
        refine T.hneed rfl ?_
        refine T.hneed rfl ?_
        refine T.hchk ?_ ?_
        · (rw [Bool.not_eq_true']; assumption)
        refine T.hneed ?_ ?_
        · exact rowJ (fun r => by repeat' first | exact ⟨_, rfl⟩ | refine isI_ite (fun h => absurd h (Nat.not_lt_zero _)) (fun _ => ?_) | refine isI_ite (fun _ => ?_) (fun _ => ?_))
        refine T.hchkT ?_
        refine T.hchk ?_ ?_
        · exact decide_eq_true (by omega)
        refine T.hchk ?_ ?_
        · exact decide_eq_true (by omega)
        refine T.hchkT ?_
        refine T.hneed ?_ ?_
        · exact ⟨rfl, ⟨rfl, rfl, rfl⟩, ⟨rfl, rfl, rfl⟩, ar1 rfl rfl hfg0 (by omega), ⟨_, _, rfl, rfl, rowJ (fun r => by repeat' first | exact ⟨_, rfl⟩ | refine isI_ite (fun h => absurd h (Nat.not_lt_zero _)) (fun _ => ?_) | refine isI_ite (fun _ => ?_) (fun _ => ?_)), rowJ (fun r => by repeat' first | exact ⟨_, rfl⟩ | refine isI_ite (fun h => absurd h (Nat.not_lt_zero _)) (fun _ => ?_) | refine isI_ite (fun _ => ?_) (fun _ => ?_)), by omega, ⟨by (try dsimp only [bytB, Blk.rows]); omega, by (try dsimp only [bytB, Blk.rows]); omega, by omega⟩, fun r hr => by rw [intAt_hd, intAt_hd]; (try dsimp only [bytB, Blk.rows]); first | exact hfg0 r (by omega) | exact hfg1 r (by omega) | (show hdI _ = hdI _; rw [if_neg (Nat.not_lt_zero r), if_neg (Nat.not_lt_zero r)]; (repeat rw [if_pos (by omega)]); show x.z _ = x.z _; first | rfl | (congr 2; omega)) | (show hdI _ = hdI _; by_cases hq : r < n0; (rw [if_pos hq, if_pos hq]; show f0 _ = g0 _; rw [Nat.zero_add]; exact hfg0 r hq); (rw [if_neg hq, if_neg hq]; (repeat rw [if_pos (by omega)]); show x.z _ = x.z _; first | rfl | (congr 2; omega))) | (show hdI _ = hdI _; by_cases hq : r < n1; (rw [if_pos hq, if_pos hq]; show f1 _ = g1 _; rw [Nat.zero_add]; exact hfg1 r hq); (rw [if_neg hq, if_neg hq]; (repeat rw [if_pos (by omega)]); show x.z _ = x.z _; first | rfl | (congr 2; omega))) | (show hdI _ = hdI _; rw [if_pos (by omega)]; show f0 _ = g0 _; rw [Nat.zero_add]; exact hfg0 r (by omega)) | (show hdI _ = hdI _; rw [if_pos (by omega)]; show f1 _ = g1 _; rw [Nat.zero_add]; exact hfg1 r (by omega)) | (show _ = hdI _; rw [if_pos (by omega)]; show f0 _ = g0 _; rw [Nat.zero_add]; exact hfg0 r (by omega)) | (show _ = hdI _; rw [if_pos (by omega)]; show f1 _ = g1 _; rw [Nat.zero_add]; exact hfg1 r (by omega))⟩⟩
        refine T.hchkT ?_
        refine T.hret ?_
        exact ⟨_, plSt ⟨x, kd, ar, nn, len, cap, N, i, ⟨true, n0, s0, c0, _, _, d0, _, _⟩, ⟨true, (0 + FD.ln x [i]), 0, c_1, _, _, c_2, _, _⟩⟩, sT [0, 1, 2, 3, 4, 5, 9, 11] ⟨⟨_, rfl, x.ok⟩, ⟨_, rfl, act_ok (by decide) rfl⟩, ⟨_, rfl, skB_ok (iS (iI (iS (iI (iI la_end)))))⟩, ⟨_, rfl, skB_ok (iI (iS (iS (iI (iI la_end)))))⟩, ⟨_, rfl, byt_same⟩, ⟨_, rfl, byt_same⟩, ⟨_, rfl, byt_ok (fun r => by repeat' first | exact ⟨_, rfl⟩ | refine isI_ite (fun h => absurd h (Nat.not_lt_zero _)) (fun _ => ?_) | refine isI_ite (fun _ => ?_) (fun _ => ?_))⟩, ⟨_, rfl, byt_ok (fun r => by repeat' first | exact ⟨_, rfl⟩ | refine isI_ite (fun h => absurd h (Nat.not_lt_zero _)) (fun _ => ?_) | refine isI_ite (fun _ => ?_) (fun _ => ?_))⟩, trivial⟩, K0 _ _ (okH hfg0) (okC fun r hr => by first | exact absurd hr (Nat.not_lt_zero _) | ((try dsimp only at hr); first | exact hfg0 r (by omega) | exact hfg1 r (by omega) | (show hdI _ = hdI _; rw [if_neg (Nat.not_lt_zero r), if_neg (Nat.not_lt_zero r)]; (repeat rw [if_pos (by omega)]); show x.z _ = x.z _; first | rfl | (congr 2; omega)) | (show hdI _ = hdI _; by_cases hq : r < n0; (rw [if_pos hq, if_pos hq]; show f0 _ = g0 _; rw [Nat.zero_add]; exact hfg0 r hq); (rw [if_neg hq, if_neg hq]; (repeat rw [if_pos (by omega)]); show x.z _ = x.z _; first | rfl | (congr 2; omega))) | (show hdI _ = hdI _; by_cases hq : r < n1; (rw [if_pos hq, if_pos hq]; show f1 _ = g1 _; rw [Nat.zero_add]; exact hfg1 r hq); (rw [if_neg hq, if_neg hq]; (repeat rw [if_pos (by omega)]); show x.z _ = x.z _; first | rfl | (congr 2; omega))) | (show hdI _ = hdI _; rw [if_pos (by omega)]; show f0 _ = g0 _; rw [Nat.zero_add]; exact hfg0 r (by omega)) | (show hdI _ = hdI _; rw [if_pos (by omega)]; show f1 _ = g1 _; rw [Nat.zero_add]; exact hfg1 r (by omega)) | (show _ = hdI _; rw [if_pos (by omega)]; show f0 _ = g0 _; rw [Nat.zero_add]; exact hfg0 r (by omega)) | (show _ = hdI _; rw [if_pos (by omega)]; show f1 _ = g1 _; rw [Nat.zero_add]; exact hfg1 r (by omega))))⟩
      ·
       refine T.hchkT ?_
       refine T.hchkT ?_
       refine T.hchkT ?_
       refine T.hchkT ?_
       refine T.hchkT ?_
       refine T.hiteP (fun gh15 => ?_) (fun gh15 => ?_)
       ·
        refine T.hneed rfl ?_
        refine T.hneed rfl ?_
        refine T.hchk ?_ ?_
        · (rw [Bool.not_eq_true']; assumption)
        refine T.hchkT ?_
        refine T.hchkT ?_
        refine T.hchkT ?_
        refine T.hchk ?_ ?_
        · exact decide_eq_true (by omega)
        refine T.hneed rfl ?_
        refine T.hchk ?_ ?_
        · (rw [Bool.not_eq_true']; assumption)
        refine T.hchkT ?_
        refine T.hneed ?_ ?_
        · exact ⟨rfl, ⟨rfl, rfl, rfl⟩, ⟨rfl, rfl, rfl⟩, ar1 rfl rfl hfg0 (by omega), trivial⟩
        refine T.hchkT ?_
        refine T.hret ?_
        exact ⟨_, plSt ⟨x, kd, ar, nn, len, cap, N, i, ⟨true, n0, s0, c0, _, _, d0, _, _⟩, ⟨false, 0, 0, 0, 0, fun _ => 0, 0, 0, fun _ => 0⟩⟩, sT [0, 1, 2, 3, 4, 5] ⟨⟨_, rfl, x.ok⟩, ⟨_, rfl, act_ok (by decide) rfl⟩, ⟨_, rfl, skB_ok (iS (iI (la_nil (iI (iI la_end)))))⟩, ⟨_, rfl, skB_ok (iI (iS (la_nil (iI (iI la_end)))))⟩, ⟨_, rfl, byt_same⟩, ⟨_, rfl, byt_same⟩, trivial⟩, K0 _ _ (okH hfg0) okN⟩
       ·
        refine T.hchkT ?_
        refine T.hneed rfl ?_
        refine T.hneed rfl ?_
        refine T.hchkT ?_
        refine T.hneed rfl ?_
        refine T.hneed rfl ?_
        refine T.hneed rfl ?_
        refine T.hchk ?_ ?_
        · (rw [Bool.not_eq_true']; assumption)
        refine T.hchkT ?_
        refine T.hchkT ?_
        refine T.hchkT ?_
        refine T.hchk ?_ ?_
        · (simp only [Bool.not_eq_true', decide_eq_false_iff_not]; omega)
        refine T.hchkT ?_
        refine T.hchk ?_ ?_
        · exact decide_eq_true (by omega)
        refine T.hchk ?_ ?_
        · exact decide_eq_true (by omega)
        refine T.hneed rfl ?_
        refine T.hneed rfl ?_
        refine T.hchkT ?_
        refine T.hneed rfl ?_
        refine T.hneed rfl ?_
        refine T.hchk ?_ ?_
        · (rw [Bool.not_eq_true']; assumption)
        refine T.hchkT ?_
        refine T.hneed ?_ ?_
        · exact ⟨rfl, ⟨rfl, rfl, rfl⟩, ⟨rfl, rfl, rfl⟩, ar1 rfl rfl hfg0 (by omega), trivial⟩
        refine T.hchkT ?_
        refine T.hret ?_
        exact ⟨_, plSt ⟨x, kd, ar, nn, len, cap, N, i, ⟨true, n0, s0, c0, _, _, d0, _, _⟩, ⟨false, 0, 0, 0, 0, fun _ => 0, 0, 0, fun _ => 0⟩⟩, sT [0, 1, 2, 3, 4, 5] ⟨⟨_, rfl, x.ok⟩, ⟨_, rfl, act_ok (by decide) rfl⟩, ⟨_, rfl, skB_ok (iS (iI (la_nil (iI (iI la_end)))))⟩, ⟨_, rfl, skB_ok (iI (iS (la_nil (iI (iI la_end)))))⟩, ⟨_, rfl, byt_same⟩, ⟨_, rfl, byt_same⟩, trivial⟩, K0 _ _ (okH hfg0) okN⟩



set_option maxRecDepth 100000
set_option maxHeartbeats 16000000
set_option linter.unusedVariables false
set_option linter.unusedSimpArgs false

theorem pl_r10n (K M : Int) (A : Nat) (x : FD) (kd ar nn : Nat → Int) (len cap i : Nat) (N : Int) (n0 s0 c0 b0 : Nat) (f0 : Nat → Int) (d0 e0 : Nat) (g0 : Nat → Int) (n1 s1 c1 b1 : Nat) (f1 : Nat → Int) (d1 e1 : Nat) (g1 : Nat → Int) (hwf : x.wf .u8) (hL : x.ln [i] ≤ 4096) (hN : 64 ≤ N ∧ N ≤ 262144) (ha : PR.ok N ⟨true, n0, s0, c0, b0, f0, d0, e0, g0⟩) (he : PR.ok N ⟨false, n1, s1, c1, b1, f1, d1, e1, g1⟩) {Q : Ex × St → Prop}
    (hR : Q (.ret, ⟨[(4, .bool true)], [none, none]⟩)) (K0 : ∀ a e, PR.ok N a → PR.ok N e → Q (.norm, plSt ⟨x, kd, ar, nn, len, cap, N, i, a, e⟩)) {D : List Code} (hD : D = (chainOf plD).drop 3) :
    (acodeL Try.prog plE D ⟨(10, .ptr 6 0 0 0) :: plFr len cap i, actM x kd ar nn cap ++ plM N ⟨true, n0, s0, c0, b0, f0, d0, e0, g0⟩ ⟨false, n1, s1, c1, b1, f1, d1, e1, g1⟩ ++ [some (boxB K (Int.negSucc A) M i)]⟩).holds (Weak plE Q) := by
  obtain ⟨ha0, ha1, ha2, ⟨ha3, ha4⟩, ⟨ha5, ha6⟩, hfg0⟩ := ha
  obtain ⟨he0, he1, he2, ⟨he3, he4⟩, ⟨he5, he6⟩, hfg1⟩ := he
  dsimp only at ha0 ha1 ha2 ha3 ha4 ha5 ha6 hfg0 he0 he1 he2 he3 he4 he5 he6 hfg1
  have hr0 : IntKind.wrap IntKind.i64 (N - (↑n0 : Int)) = N - (↑n0 : Int) := IntWalk.i64_in _ (by omega)
  have hr1 : IntKind.wrap IntKind.i64 (N - (↑n1 : Int)) = N - (↑n1 : Int) := IntWalk.i64_in _ (by omega)
  have hrz : IntKind.wrap IntKind.i64 (N - (0 : Int)) = N - (0 : Int) := IntWalk.i64_in _ (by omega)
  have hk0 := cr_bd ha1 (by omega) M
  have hk1 := cr_bd he1 (by omega) M
  have hkz := cr_bd (Nat.le_refl 0) (by decide) M
  have hc0 := ct_eq n0 M
  have hc1 := ct_eq n1 M
  have hcz := ct_eq 0 M
  have hle := hwf.le [i]
  have e := pl_t10n K M A x kd ar nn len cap i N n0 s0 c0 b0 f0 d0 e0 g0 n1 s1 c1 b1 f1 d1 e1 g1
  rw [← hD] at e
  refine weak_keep [1, 4, 5, 7, 9] (T.cut_eq e ?_)
  clear e
  refine T.hiteE (fun gh1 => ?_) (fun gh1 => ?_)
  ·
   refine T.hchkT ?_
   refine T.hchkT ?_
   refine T.hchkT ?_
   refine T.hneed ?_ ?_
   · exact ⟨rfl, ⟨rfl, rfl, rfl⟩, ⟨rfl, rfl, rfl⟩, ar1 rfl rfl hfg0 (by omega), trivial⟩
   refine T.hchkT ?_
   refine T.hret ?_
   exact ⟨_, plSt ⟨x, kd, ar, nn, len, cap, N, i, ⟨true, n0, s0, c0, _, _, d0, _, _⟩, ⟨false, 0, 0, 0, 0, fun _ => 0, 0, 0, fun _ => 0⟩⟩, sT [0, 1, 2, 3, 4, 5] ⟨⟨_, rfl, x.ok⟩, ⟨_, rfl, act_ok (by decide) rfl⟩, ⟨_, rfl, skB_ok (iS (iI (la_nil (iI (iI la_end)))))⟩, ⟨_, rfl, skB_ok (iI (iS (la_nil (iI (iI la_end)))))⟩, ⟨_, rfl, byt_same⟩, ⟨_, rfl, byt_same⟩, trivial⟩, K0 _ _ (okH hfg0) okN⟩
  ·
   refine T.hiteE (fun gh2 => ?_) (fun gh2 => ?_)
   ·
    refine T.hchkT ?_
    refine T.hchkT ?_
    refine T.hchkT ?_
    refine T.hneed ?_ ?_
    · exact ⟨rfl, ⟨rfl, rfl, rfl⟩, ⟨rfl, rfl, rfl⟩, ar1 rfl rfl hfg0 (by omega), trivial⟩
    refine T.hchkT ?_
    refine T.hret ?_
    exact ⟨_, plSt ⟨x, kd, ar, nn, len, cap, N, i, ⟨true, n0, s0, c0, _, _, d0, _, _⟩, ⟨false, 0, 0, 0, 0, fun _ => 0, 0, 0, fun _ => 0⟩⟩, sT [0, 1, 2, 3, 4, 5] ⟨⟨_, rfl, x.ok⟩, ⟨_, rfl, act_ok (by decide) rfl⟩, ⟨_, rfl, skB_ok (iS (iI (la_nil (iI (iI la_end)))))⟩, ⟨_, rfl, skB_ok (iI (iS (la_nil (iI (iI la_end)))))⟩, ⟨_, rfl, byt_same⟩, ⟨_, rfl, byt_same⟩, trivial⟩, K0 _ _ (okH hfg0) okN⟩
   ·
    refine T.hiteE (fun gh3 => ?_) (fun gh3 => ?_)
    ·
     refine T.hchkT ?_
     refine T.hchkT ?_
     refine T.hchk ?_ ?_
     · first | rfl | (simp only [Bool.and_eq_true, decide_eq_true_eq]; omega)
     refine T.hchkT ?_
     refine T.hchkT ?_
     refine T.hchk ?_ ?_
     · first | rfl | (simp only [Bool.and_eq_true, decide_eq_true_eq]; omega)
     refine T.hchkT ?_
     refine T.hchkT ?_
     refine T.hchkT ?_
     refine T.hchkT ?_
     refine T.hchkT ?_
     refine T.hchkT ?_
     refine T.hchkT ?_
     refine T.hiteP (fun gh4 => ?_) (fun gh4 => ?_)
     ·
      refine T.hchkT ?_
      refine T.hchk ?_ ?_
      · first | rfl | (simp only [Bool.and_eq_true, decide_eq_true_eq]; omega)
      refine T.hchkT ?_
      refine T.hchkT ?_
      refine T.hchkT ?_
      refine T.hchkT ?_
      refine T.hchkT ?_
      refine T.hchkT ?_
      refine T.hchkT ?_
      refine T.hchkT ?_
      refine T.hchkT ?_
      refine T.hchkT ?_
      refine T.hchkT ?_
      refine T.hiteP (fun gh5 => ?_) (fun gh5 => ?_)
      ·
       refine T.hchkT ?_
       refine T.hchk ?_ ?_
       · first | rfl | (simp only [Bool.and_eq_true, decide_eq_true_eq]; omega)
       refine T.hchkT ?_
       refine T.hchkT ?_
       refine T.hchkT ?_
       refine T.hchkT ?_
       refine T.hchkT ?_
       refine T.hchkT ?_
       refine T.hneed ?_ ?_
       · exact ⟨rfl, ⟨rfl, rfl, rfl⟩, ⟨rfl, rfl, rfl⟩, ar1 rfl rfl hfg0 (by omega), trivial⟩
       refine T.hchkT ?_
       refine T.hret ?_
       exact ⟨_, plSt ⟨x, kd, ar, nn, len, cap, N, i, ⟨true, (Int.toNat (kpI n0 s0 (M))), (Int.toNat (↑(Int.toNat (kpI n0 s0 (M))) : Int)), c0, _, _, d0, _, _⟩, ⟨false, 0, 0, 0, 0, fun _ => 0, 0, 0, fun _ => 0⟩⟩, sT [0, 1, 2, 3, 4, 5] ⟨⟨_, rfl, x.ok⟩, ⟨_, rfl, act_ok (by decide) rfl⟩, ⟨_, rfl, skB_ok (iS (iI (la_nil (iI (iI la_end)))))⟩, ⟨_, rfl, skB_ok (iI (iS (la_nil (iI (iI la_end)))))⟩, ⟨_, rfl, byt_same⟩, ⟨_, rfl, byt_same⟩, trivial⟩, K0 _ _ (okH hfg0) okN⟩
      ·
       refine T.hchkT ?_
       refine T.hchkT ?_
       refine T.hchkT ?_
       refine T.hchkT ?_
       refine T.hchkT ?_
       refine T.hneed ?_ ?_
       · exact ⟨rfl, ⟨rfl, rfl, rfl⟩, ⟨rfl, rfl, rfl⟩, ar1 rfl rfl hfg0 (by omega), trivial⟩
       refine T.hchkT ?_
       refine T.hret ?_
       exact ⟨_, plSt ⟨x, kd, ar, nn, len, cap, N, i, ⟨true, (Int.toNat (kpI n0 s0 (M))), (Int.toNat (↑(Int.toNat (kpI n0 s0 (M))) : Int)), c0, _, _, d0, _, _⟩, ⟨false, 0, 0, 0, 0, fun _ => 0, 0, 0, fun _ => 0⟩⟩, sT [0, 1, 2, 3, 4, 5] ⟨⟨_, rfl, x.ok⟩, ⟨_, rfl, act_ok (by decide) rfl⟩, ⟨_, rfl, skB_ok (iS (iI (la_nil (iI (iI la_end)))))⟩, ⟨_, rfl, skB_ok (iI (iS (la_nil (iI (iI la_end)))))⟩, ⟨_, rfl, byt_same⟩, ⟨_, rfl, byt_same⟩, trivial⟩, K0 _ _ (okH hfg0) okN⟩
     ·
      refine T.hchkT ?_
      refine T.hchkT ?_
      refine T.hchkT ?_
      refine T.hchkT ?_
      refine T.hchkT ?_
      refine T.hchkT ?_
      refine T.hchkT ?_
      refine T.hchkT ?_
      refine T.hchkT ?_
      refine T.hchkT ?_
      refine T.hiteP (fun gh6 => ?_) (fun gh6 => ?_)
      ·
       refine T.hchkT ?_
       refine T.hchk ?_ ?_
       · first | rfl | (simp only [Bool.and_eq_true, decide_eq_true_eq]; omega)
       refine T.hchkT ?_
       refine T.hchkT ?_
       refine T.hchkT ?_
       refine T.hchkT ?_
       refine T.hchkT ?_
       refine T.hchkT ?_
       refine T.hneed ?_ ?_
       · exact ⟨rfl, ⟨rfl, rfl, rfl⟩, ⟨rfl, rfl, rfl⟩, ar1 rfl rfl hfg0 (by omega), trivial⟩
       refine T.hchkT ?_
       refine T.hret ?_
       exact ⟨_, plSt ⟨x, kd, ar, nn, len, cap, N, i, ⟨true, (Int.toNat (kpI n0 s0 (M))), (Int.toNat (↑(Int.toNat (kpI n0 s0 (M))) : Int)), c0, _, _, d0, _, _⟩, ⟨false, 0, 0, 0, 0, fun _ => 0, 0, 0, fun _ => 0⟩⟩, sT [0, 1, 2, 3, 4, 5] ⟨⟨_, rfl, x.ok⟩, ⟨_, rfl, act_ok (by decide) rfl⟩, ⟨_, rfl, skB_ok (iS (iI (la_nil (iI (iI la_end)))))⟩, ⟨_, rfl, skB_ok (iI (iS (la_nil (iI (iI la_end)))))⟩, ⟨_, rfl, byt_same⟩, ⟨_, rfl, byt_same⟩, trivial⟩, K0 _ _ (okH hfg0) okN⟩
      ·
       refine T.hchkT ?_
       refine T.hchkT ?_
       refine T.hchkT ?_
       refine T.hchkT ?_
       refine T.hchkT ?_
       refine T.hneed ?_ ?_
       · exact ⟨rfl, ⟨rfl, rfl, rfl⟩, ⟨rfl, rfl, rfl⟩, ar1 rfl rfl hfg0 (by omega), trivial⟩
       refine T.hchkT ?_
       refine T.hret ?_
       exact ⟨_, plSt ⟨x, kd, ar, nn, len, cap, N, i, ⟨true, (Int.toNat (kpI n0 s0 (M))), (Int.toNat (↑(Int.toNat (kpI n0 s0 (M))) : Int)), c0, _, _, d0, _, _⟩, ⟨false, 0, 0, 0, 0, fun _ => 0, 0, 0, fun _ => 0⟩⟩, sT [0, 1, 2, 3, 4, 5] ⟨⟨_, rfl, x.ok⟩, ⟨_, rfl, act_ok (by decide) rfl⟩, ⟨_, rfl, skB_ok (iS (iI (la_nil (iI (iI la_end)))))⟩, ⟨_, rfl, skB_ok (iI (iS (la_nil (iI (iI la_end)))))⟩, ⟨_, rfl, byt_same⟩, ⟨_, rfl, byt_same⟩, trivial⟩, K0 _ _ (okH hfg0) okN⟩
    ·
     refine T.hite (fun gh7 => ?_) (fun gh7 => ?_)
     ·
      refine T.hchkT ?_
      refine T.hneed rfl ?_
      refine T.hneed rfl ?_
      refine T.hchk ?_ ?_
      · assumption
      refine T.hchkT ?_
      refine T.hchkT ?_
      refine T.hneed rfl ?_
      refine T.hchk ?_ ?_
      · assumption
      refine T.hchkT ?_
      refine T.hneed ?_ ?_
      · exact ⟨rfl, ⟨rfl, rfl, rfl⟩, ⟨rfl, rfl, rfl⟩, ar1 rfl rfl hfg0 (by omega), trivial⟩
      refine T.hchkT ?_
      refine T.hret ?_
      exact ⟨_, plSt ⟨x, kd, ar, nn, len, cap, N, i, ⟨true, n0, s0, c0, _, _, d0, _, _⟩, ⟨false, 0, 0, 0, 0, fun _ => 0, 0, 0, fun _ => 0⟩⟩, sT [0, 1, 2, 3, 4, 5] ⟨⟨_, rfl, x.ok⟩, ⟨_, rfl, act_ok (by decide) rfl⟩, ⟨_, rfl, skB_ok (iS (iI (la_nil (iI (iI la_end)))))⟩, ⟨_, rfl, skB_ok (iI (iS (la_nil (iI (iI la_end)))))⟩, ⟨_, rfl, byt_same⟩, ⟨_, rfl, byt_same⟩, trivial⟩, K0 _ _ (okH hfg0) okN⟩
     ·
      refine T.hneed ?_ ?_
      · exact rowJ (fun r => by repeat' first | exact ⟨_, rfl⟩ | refine isI_ite (fun h => absurd h (Nat.not_lt_zero _)) (fun _ => ?_) | refine isI_ite (fun _ => ?_) (fun _ => ?_))
      refine T.hchk ?_ ?_
      · exact decide_eq_true (by omega)
      refine T.hchk ?_ ?_
      · exact decide_eq_true (by omega)
      refine T.hiteP (fun gh8 => ?_) (fun gh8 => ?_)
      ·
       refine T.hall (fun c => ?_)
       refine T.hasmP (fun gh9 => ?_)
       refine T.hchkT ?_
       refine T.hneed rfl ?_
       refine T.hneed rfl ?_
       refine T.hchk ?_ ?_
       · (rw [Bool.not_eq_true']; assumption)
       refine T.hchkT ?_
       refine T.hchkT ?_
       refine T.hneed rfl ?_
       refine T.hchk ?_ ?_
       · (rw [Bool.not_eq_true']; assumption)
       refine T.hneed ?_ ?_
       · exact rowJ (fun r => by repeat' first | exact ⟨_, rfl⟩ | refine isI_ite (fun h => absurd h (Nat.not_lt_zero _)) (fun _ => ?_) | refine isI_ite (fun _ => ?_) (fun _ => ?_))
       refine T.hchkT ?_
       refine T.hchk ?_ ?_
       · exact decide_eq_true (by omega)
       refine T.hchk ?_ ?_
       · exact decide_eq_true (by omega)
       refine T.hchkT ?_
       refine T.hneed ?_ ?_
       · exact ⟨rfl, ⟨rfl, rfl, rfl⟩, ⟨rfl, rfl, rfl⟩, ar1 rfl rfl hfg0 (by omega), trivial⟩
       refine T.hchkT ?_
       refine T.hret ?_
       exact ⟨_, plSt ⟨x, kd, ar, nn, len, cap, N, i, ⟨true, n0, s0, c0, _, _, d0, _, _⟩, ⟨false, 0, 0, 0, 0, fun _ => 0, 0, 0, fun _ => 0⟩⟩, sT [0, 1, 2, 3, 4, 5] ⟨⟨_, rfl, x.ok⟩, ⟨_, rfl, act_ok (by decide) rfl⟩, ⟨_, rfl, skB_ok (iS (iI (la_nil (iI (iI la_end)))))⟩, ⟨_, rfl, skB_ok (iI (iS (la_nil (iI (iI la_end)))))⟩, ⟨_, rfl, byt_same⟩, ⟨_, rfl, byt_same⟩, trivial⟩, K0 _ _ (okH hfg0) okN⟩
      ·
       refine T.hchkT ?_
       refine T.hneed rfl ?_
       refine T.hneed rfl ?_
       refine T.hchk ?_ ?_
       · (rw [Bool.not_eq_true']; assumption)
       refine T.hchkT ?_
       refine T.hchkT ?_
       refine T.hneed rfl ?_
       refine T.hchk ?_ ?_
       · (rw [Bool.not_eq_true']; assumption)
       refine T.hchkT ?_
       refine T.hneed ?_ ?_
       · exact ⟨rfl, ⟨rfl, rfl, rfl⟩, ⟨rfl, rfl, rfl⟩, ar1 rfl rfl hfg0 (by omega), trivial⟩
       refine T.hchkT ?_
       refine T.hret ?_
       exact ⟨_, plSt ⟨x, kd, ar, nn, len, cap, N, i, ⟨true, n0, s0, c0, _, _, d0, _, _⟩, ⟨false, 0, 0, 0, 0, fun _ => 0, 0, 0, fun _ => 0⟩⟩, sT [0, 1, 2, 3, 4, 5] ⟨⟨_, rfl, x.ok⟩, ⟨_, rfl, act_ok (by decide) rfl⟩, ⟨_, rfl, skB_ok (iS (iI (la_nil (iI (iI la_end)))))⟩, ⟨_, rfl, skB_ok (iI (iS (la_nil (iI (iI la_end)))))⟩, ⟨_, rfl, byt_same⟩, ⟨_, rfl, byt_same⟩, trivial⟩, K0 _ _ (okH hfg0) okN⟩



set_option maxRecDepth 100000
set_option maxHeartbeats 16000000
set_option linter.unusedVariables false
set_option linter.unusedSimpArgs false

theorem pl_r10g (K M : Int) (A : Nat) (x : FD) (kd ar nn : Nat → Int) (len cap i : Nat) (N : Int) (n0 s0 c0 b0 : Nat) (f0 : Nat → Int) (d0 e0 : Nat) (g0 : Nat → Int) (n1 s1 c1 b1 : Nat) (f1 : Nat → Int) (d1 e1 : Nat) (g1 : Nat → Int) (hwf : x.wf .u8) (hL : x.ln [i] ≤ 4096) (hN : 64 ≤ N ∧ N ≤ 262144) (ha : PR.ok N ⟨true, n0, s0, c0, b0, f0, d0, e0, g0⟩) (he : PR.ok N ⟨false, n1, s1, c1, b1, f1, d1, e1, g1⟩) {Q : Ex × St → Prop}
    (hR : Q (.ret, ⟨[(4, .bool true)], [none, none]⟩)) (K0 : ∀ a e, PR.ok N a → PR.ok N e → Q (.norm, plSt ⟨x, kd, ar, nn, len, cap, N, i, a, e⟩)) {D : List Code} (hD : D = (chainOf plD).drop 3) :
    (acodeL Try.prog plE D ⟨(10, .ptr 6 0 0 0) :: plFr len cap i, actM x kd ar nn cap ++ plM N ⟨true, n0, s0, c0, b0, f0, d0, e0, g0⟩ ⟨false, n1, s1, c1, b1, f1, d1, e1, g1⟩ ++ [some (boxB K ((A + 2 : Nat) : Int) M i)]⟩).holds (Weak plE Q) := by
  obtain ⟨ha0, ha1, ha2, ⟨ha3, ha4⟩, ⟨ha5, ha6⟩, hfg0⟩ := ha
  obtain ⟨he0, he1, he2, ⟨he3, he4⟩, ⟨he5, he6⟩, hfg1⟩ := he
  dsimp only at ha0 ha1 ha2 ha3 ha4 ha5 ha6 hfg0 he0 he1 he2 he3 he4 he5 he6 hfg1
  have hr0 : IntKind.wrap IntKind.i64 (N - (↑n0 : Int)) = N - (↑n0 : Int) := IntWalk.i64_in _ (by omega)
  have hr1 : IntKind.wrap IntKind.i64 (N - (↑n1 : Int)) = N - (↑n1 : Int) := IntWalk.i64_in _ (by omega)
  have hrz : IntKind.wrap IntKind.i64 (N - (0 : Int)) = N - (0 : Int) := IntWalk.i64_in _ (by omega)
  have hk0 := cr_bd ha1 (by omega) M
  have hk1 := cr_bd he1 (by omega) M
  have hkz := cr_bd (Nat.le_refl 0) (by decide) M
  have hc0 := ct_eq n0 M
  have hc1 := ct_eq n1 M
  have hcz := ct_eq 0 M
  have hle := hwf.le [i]
  have e := pl_t10g K M A x kd ar nn len cap i N n0 s0 c0 b0 f0 d0 e0 g0 n1 s1 c1 b1 f1 d1 e1 g1
  rw [← hD] at e
  refine weak_keep [1, 4, 5, 7, 9] (T.cut_eq e ?_)
  clear e
  refine T.hiteE (fun gh1 => ?_) (fun gh1 => ?_)
  ·
   refine T.hchkT ?_
   refine T.hchkT ?_
   refine T.hchkT ?_
   refine T.hchkT ?_
   refine T.hneed ?_ ?_
   · exact ⟨rfl, ⟨rfl, rfl, rfl⟩, ⟨rfl, rfl, rfl⟩, ar1 rfl rfl hfg0 (by omega), trivial⟩
   refine T.hchkT ?_
   refine T.hret ?_
   exact ⟨_, plSt ⟨x, kd, ar, nn, len, cap, N, i, ⟨true, n0, s0, c0, _, _, d0, _, _⟩, ⟨false, 0, 0, 0, 0, fun _ => 0, 0, 0, fun _ => 0⟩⟩, sT [0, 1, 2, 3, 4, 5] ⟨⟨_, rfl, x.ok⟩, ⟨_, rfl, act_ok (by decide) rfl⟩, ⟨_, rfl, skB_ok (iS (iI (la_nil (iI (iI la_end)))))⟩, ⟨_, rfl, skB_ok (iI (iS (la_nil (iI (iI la_end)))))⟩, ⟨_, rfl, byt_same⟩, ⟨_, rfl, byt_same⟩, trivial⟩, K0 _ _ (okH hfg0) okN⟩
  ·
   refine T.hiteE (fun gh2 => ?_) (fun gh2 => ?_)
   ·
    refine T.hchkT ?_
    refine T.hchkT ?_
    refine T.hchkT ?_
    refine T.hchkT ?_
    refine T.hneed ?_ ?_
    · exact ⟨rfl, ⟨rfl, rfl, rfl⟩, ⟨rfl, rfl, rfl⟩, ar1 rfl rfl hfg0 (by omega), trivial⟩
    refine T.hchkT ?_
    refine T.hret ?_
    exact ⟨_, plSt ⟨x, kd, ar, nn, len, cap, N, i, ⟨true, n0, s0, c0, _, _, d0, _, _⟩, ⟨false, 0, 0, 0, 0, fun _ => 0, 0, 0, fun _ => 0⟩⟩, sT [0, 1, 2, 3, 4, 5] ⟨⟨_, rfl, x.ok⟩, ⟨_, rfl, act_ok (by decide) rfl⟩, ⟨_, rfl, skB_ok (iS (iI (la_nil (iI (iI la_end)))))⟩, ⟨_, rfl, skB_ok (iI (iS (la_nil (iI (iI la_end)))))⟩, ⟨_, rfl, byt_same⟩, ⟨_, rfl, byt_same⟩, trivial⟩, K0 _ _ (okH hfg0) okN⟩
   ·
    refine T.hiteE (fun gh3 => ?_) (fun gh3 => ?_)
    ·
     refine T.hchkT ?_
     refine T.hchkT ?_
     refine T.hchk ?_ ?_
     · first | rfl | (simp only [Bool.and_eq_true, decide_eq_true_eq]; omega)
     refine T.hchkT ?_
     refine T.hchkT ?_
     refine T.hchk ?_ ?_
     · first | rfl | (simp only [Bool.and_eq_true, decide_eq_true_eq]; omega)
     refine T.hchkT ?_
     refine T.hchkT ?_
     refine T.hchkT ?_
     refine T.hchkT ?_
     refine T.hchkT ?_
     refine T.hchkT ?_
     refine T.hchkT ?_
     refine T.hiteP (fun gh4 => ?_) (fun gh4 => ?_)
     ·
      refine T.hchkT ?_
      refine T.hchk ?_ ?_
      · first | rfl | (simp only [Bool.and_eq_true, decide_eq_true_eq]; omega)
      refine T.hchkT ?_
      refine T.hchkT ?_
      refine T.hchkT ?_
      refine T.hchkT ?_
      refine T.hchkT ?_
      refine T.hchkT ?_
      refine T.hchkT ?_
      refine T.hchkT ?_
      refine T.hchkT ?_
      refine T.hchkT ?_
      refine T.hchkT ?_
      refine T.hiteP (fun gh5 => ?_) (fun gh5 => ?_)
      ·
       refine T.hchkT ?_
       refine T.hchk ?_ ?_
       · first | rfl | (simp only [Bool.and_eq_true, decide_eq_true_eq]; omega)
       refine T.hchkT ?_
       refine T.hchkT ?_
       refine T.hchkT ?_
       refine T.hchkT ?_
       refine T.hchkT ?_
       refine T.hchkT ?_
       refine T.hneed ?_ ?_
       · exact ⟨rfl, ⟨rfl, rfl, rfl⟩, ⟨rfl, rfl, rfl⟩, ar1 rfl rfl hfg0 (by omega), trivial⟩
       refine T.hchkT ?_
       refine T.hret ?_
       exact ⟨_, plSt ⟨x, kd, ar, nn, len, cap, N, i, ⟨true, (Int.toNat (kpI n0 s0 (M))), (Int.toNat (↑(Int.toNat (kpI n0 s0 (M))) : Int)), c0, _, _, d0, _, _⟩, ⟨false, 0, 0, 0, 0, fun _ => 0, 0, 0, fun _ => 0⟩⟩, sT [0, 1, 2, 3, 4, 5] ⟨⟨_, rfl, x.ok⟩, ⟨_, rfl, act_ok (by decide) rfl⟩, ⟨_, rfl, skB_ok (iS (iI (la_nil (iI (iI la_end)))))⟩, ⟨_, rfl, skB_ok (iI (iS (la_nil (iI (iI la_end)))))⟩, ⟨_, rfl, byt_same⟩, ⟨_, rfl, byt_same⟩, trivial⟩, K0 _ _ (okH hfg0) okN⟩
      ·
       refine T.hchkT ?_
       refine T.hchkT ?_
       refine T.hchkT ?_
       refine T.hchkT ?_
       refine T.hchkT ?_
       refine T.hneed ?_ ?_
       · exact ⟨rfl, ⟨rfl, rfl, rfl⟩, ⟨rfl, rfl, rfl⟩, ar1 rfl rfl hfg0 (by omega), trivial⟩
       refine T.hchkT ?_
       refine T.hret ?_
       exact ⟨_, plSt ⟨x, kd, ar, nn, len, cap, N, i, ⟨true, (Int.toNat (kpI n0 s0 (M))), (Int.toNat (↑(Int.toNat (kpI n0 s0 (M))) : Int)), c0, _, _, d0, _, _⟩, ⟨false, 0, 0, 0, 0, fun _ => 0, 0, 0, fun _ => 0⟩⟩, sT [0, 1, 2, 3, 4, 5] ⟨⟨_, rfl, x.ok⟩, ⟨_, rfl, act_ok (by decide) rfl⟩, ⟨_, rfl, skB_ok (iS (iI (la_nil (iI (iI la_end)))))⟩, ⟨_, rfl, skB_ok (iI (iS (la_nil (iI (iI la_end)))))⟩, ⟨_, rfl, byt_same⟩, ⟨_, rfl, byt_same⟩, trivial⟩, K0 _ _ (okH hfg0) okN⟩
     ·
      refine T.hchkT ?_
      refine T.hchkT ?_
      refine T.hchkT ?_
      refine T.hchkT ?_
      refine T.hchkT ?_
      refine T.hchkT ?_
      refine T.hchkT ?_
      refine T.hchkT ?_
      refine T.hchkT ?_
      refine T.hchkT ?_
      refine T.hiteP (fun gh6 => ?_) (fun gh6 => ?_)
      ·
       refine T.hchkT ?_
       refine T.hchk ?_ ?_
       · first | rfl | (simp only [Bool.and_eq_true, decide_eq_true_eq]; omega)
       refine T.hchkT ?_
       refine T.hchkT ?_
       refine T.hchkT ?_
       refine T.hchkT ?_
       refine T.hchkT ?_
       refine T.hchkT ?_
       refine T.hneed ?_ ?_
       · exact ⟨rfl, ⟨rfl, rfl, rfl⟩, ⟨rfl, rfl, rfl⟩, ar1 rfl rfl hfg0 (by omega), trivial⟩
       refine T.hchkT ?_
       refine T.hret ?_
       exact ⟨_, plSt ⟨x, kd, ar, nn, len, cap, N, i, ⟨true, (Int.toNat (kpI n0 s0 (M))), (Int.toNat (↑(Int.toNat (kpI n0 s0 (M))) : Int)), c0, _, _, d0, _, _⟩, ⟨false, 0, 0, 0, 0, fun _ => 0, 0, 0, fun _ => 0⟩⟩, sT [0, 1, 2, 3, 4, 5] ⟨⟨_, rfl, x.ok⟩, ⟨_, rfl, act_ok (by decide) rfl⟩, ⟨_, rfl, skB_ok (iS (iI (la_nil (iI (iI la_end)))))⟩, ⟨_, rfl, skB_ok (iI (iS (la_nil (iI (iI la_end)))))⟩, ⟨_, rfl, byt_same⟩, ⟨_, rfl, byt_same⟩, trivial⟩, K0 _ _ (okH hfg0) okN⟩
      ·
       refine T.hchkT ?_
       refine T.hchkT ?_
       refine T.hchkT ?_
       refine T.hchkT ?_
       refine T.hchkT ?_
       refine T.hneed ?_ ?_
       · exact ⟨rfl, ⟨rfl, rfl, rfl⟩, ⟨rfl, rfl, rfl⟩, ar1 rfl rfl hfg0 (by omega), trivial⟩
       refine T.hchkT ?_
       refine T.hret ?_
       exact ⟨_, plSt ⟨x, kd, ar, nn, len, cap, N, i, ⟨true, (Int.toNat (kpI n0 s0 (M))), (Int.toNat (↑(Int.toNat (kpI n0 s0 (M))) : Int)), c0, _, _, d0, _, _⟩, ⟨false, 0, 0, 0, 0, fun _ => 0, 0, 0, fun _ => 0⟩⟩, sT [0, 1, 2, 3, 4, 5] ⟨⟨_, rfl, x.ok⟩, ⟨_, rfl, act_ok (by decide) rfl⟩, ⟨_, rfl, skB_ok (iS (iI (la_nil (iI (iI la_end)))))⟩, ⟨_, rfl, skB_ok (iI (iS (la_nil (iI (iI la_end)))))⟩, ⟨_, rfl, byt_same⟩, ⟨_, rfl, byt_same⟩, trivial⟩, K0 _ _ (okH hfg0) okN⟩
    ·
     refine T.hite (fun gh7 => ?_) (fun gh7 => ?_)
     ·
      refine T.hchkT ?_
      refine T.hchkT ?_
      refine T.hneed rfl ?_
      refine T.hneed rfl ?_
      refine T.hchk ?_ ?_
      · assumption
      refine T.hchkT ?_
      refine T.hchkT ?_
      refine T.hneed rfl ?_
      refine T.hchk ?_ ?_
      · assumption
      refine T.hchkT ?_
      refine T.hneed ?_ ?_
      · exact ⟨rfl, ⟨rfl, rfl, rfl⟩, ⟨rfl, rfl, rfl⟩, ar1 rfl rfl hfg0 (by omega), trivial⟩
      refine T.hchkT ?_
      refine T.hret ?_
      exact ⟨_, plSt ⟨x, kd, ar, nn, len, cap, N, i, ⟨true, n0, s0, c0, _, _, d0, _, _⟩, ⟨false, 0, 0, 0, 0, fun _ => 0, 0, 0, fun _ => 0⟩⟩, sT [0, 1, 2, 3, 4, 5] ⟨⟨_, rfl, x.ok⟩, ⟨_, rfl, act_ok (by decide) rfl⟩, ⟨_, rfl, skB_ok (iS (iI (la_nil (iI (iI la_end)))))⟩, ⟨_, rfl, skB_ok (iI (iS (la_nil (iI (iI la_end)))))⟩, ⟨_, rfl, byt_same⟩, ⟨_, rfl, byt_same⟩, trivial⟩, K0 _ _ (okH hfg0) okN⟩
     ·
      refine T.hneed ?_ ?_
      · exact rowJ (fun r => by repeat' first | exact ⟨_, rfl⟩ | refine isI_ite (fun h => absurd h (Nat.not_lt_zero _)) (fun _ => ?_) | refine isI_ite (fun _ => ?_) (fun _ => ?_))
      refine T.hchk ?_ ?_
      · exact decide_eq_true (by omega)
      refine T.hchk ?_ ?_
      · exact decide_eq_true (by omega)
      refine T.hiteP (fun gh8 => ?_) (fun gh8 => ?_)
      ·
       refine T.hall (fun c => ?_)
       refine T.hasmP (fun gh9 => ?_)
       refine T.hchkT ?_
       refine T.hchkT ?_
       refine T.hneed rfl ?_
       refine T.hneed rfl ?_
       refine T.hchk ?_ ?_
       · (rw [Bool.not_eq_true']; assumption)
       refine T.hchkT ?_
       refine T.hchkT ?_
       refine T.hneed rfl ?_
       refine T.hchk ?_ ?_
       · (rw [Bool.not_eq_true']; assumption)
       refine T.hneed ?_ ?_
       · exact rowJ (fun r => by repeat' first | exact ⟨_, rfl⟩ | refine isI_ite (fun h => absurd h (Nat.not_lt_zero _)) (fun _ => ?_) | refine isI_ite (fun _ => ?_) (fun _ => ?_))
       refine T.hchkT ?_
       refine T.hchk ?_ ?_
       · exact decide_eq_true (by omega)
       refine T.hchk ?_ ?_
       · exact decide_eq_true (by omega)
       refine T.hchkT ?_
       refine T.hneed ?_ ?_
       · exact ⟨rfl, ⟨rfl, rfl, rfl⟩, ⟨rfl, rfl, rfl⟩, ar1 rfl rfl hfg0 (by omega), trivial⟩
       refine T.hchkT ?_
       refine T.hret ?_
       exact ⟨_, plSt ⟨x, kd, ar, nn, len, cap, N, i, ⟨true, n0, s0, c0, _, _, d0, _, _⟩, ⟨false, 0, 0, 0, 0, fun _ => 0, 0, 0, fun _ => 0⟩⟩, sT [0, 1, 2, 3, 4, 5] ⟨⟨_, rfl, x.ok⟩, ⟨_, rfl, act_ok (by decide) rfl⟩, ⟨_, rfl, skB_ok (iS (iI (la_nil (iI (iI la_end)))))⟩, ⟨_, rfl, skB_ok (iI (iS (la_nil (iI (iI la_end)))))⟩, ⟨_, rfl, byt_same⟩, ⟨_, rfl, byt_same⟩, trivial⟩, K0 _ _ (okH hfg0) okN⟩
      ·
       refine T.hchkT ?_
       refine T.hchkT ?_
       refine T.hneed rfl ?_
       refine T.hneed rfl ?_
       refine T.hchk ?_ ?_
       · (rw [Bool.not_eq_true']; assumption)
       refine T.hchkT ?_
       refine T.hchkT ?_
       refine T.hneed rfl ?_
       refine T.hchk ?_ ?_
       · (rw [Bool.not_eq_true']; assumption)
       refine T.hchkT ?_
       refine T.hneed ?_ ?_
       · exact ⟨rfl, ⟨rfl, rfl, rfl⟩, ⟨rfl, rfl, rfl⟩, ar1 rfl rfl hfg0 (by omega), trivial⟩
       refine T.hchkT ?_
       refine T.hret ?_
       exact ⟨_, plSt ⟨x, kd, ar, nn, len, cap, N, i, ⟨true, n0, s0, c0, _, _, d0, _, _⟩, ⟨false, 0, 0, 0, 0, fun _ => 0, 0, 0, fun _ => 0⟩⟩, sT [0, 1, 2, 3, 4, 5] ⟨⟨_, rfl, x.ok⟩, ⟨_, rfl, act_ok (by decide) rfl⟩, ⟨_, rfl, skB_ok (iS (iI (la_nil (iI (iI la_end)))))⟩, ⟨_, rfl, skB_ok (iI (iS (la_nil (iI (iI la_end)))))⟩, ⟨_, rfl, byt_same⟩, ⟨_, rfl, byt_same⟩, trivial⟩, K0 _ _ (okH hfg0) okN⟩

end Go.Proofs.Ytemgmcchepmicaa
