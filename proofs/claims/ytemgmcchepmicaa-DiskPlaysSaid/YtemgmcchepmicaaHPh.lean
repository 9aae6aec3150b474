/-
  Layer 15: Plays: the round.
-/
import Derived.Test.YtemgmcchepmicaaHPgA
import Derived.Test.YtemgmcchepmicaaHPgB
import Derived.Test.YtemgmcchepmicaaHPfA
namespace Go.Proofs.Ytemgmcchepmicaa
open Go.Ox
set_option maxRecDepth 100000
set_option maxHeartbeats 16000000
set_option linter.unusedVariables false
set_option linter.unusedSimpArgs false

theorem la_part {n : Nat} {ρ : Nat → Nat} {j j' : Nat} {l l' : List AV} (hr : ρ 0 = 0) (h0 : 0 < n) (h : j = j') (t : LAlike n ρ l l') : LAlike n ρ (.part 0 [j] :: l) (.part 0 [j'] :: l') := by
  subst h
  exact ⟨⟨by simp [ren, hr], by simpa [below] using h0, rfl⟩, t⟩

theorem box_ok {n : Nat} {ρ : Nat → Nat} {a b c a' b' c' : Int} {j j' : Nat} {F : Nat → List AV} (hr : ρ 0 = 0) (h0 : 0 < n) (h1 : a = a') (h2 : b = b') (h3 : c = c') (h : j = j') : BlkOK n ρ (Blk.mk true [.int .i64 a, .int .i64 b, .int .i64 c, .part 0 [j]] 0 0 F [] none) (boxB a' b' c' j') :=
  skB_ok (la_int h1 (la_int h2 (la_int h3 (la_part hr h0 h la_end))))

theorem area_cases (k : Int) : k = 0 ∨ k = 1 ∨ (∃ q : Nat, k = Int.negSucc q) ∨ ∃ q : Nat, k = ((q + 2 : Nat) : Int) := by
  cases k with
  | ofNat n =>
    rcases n with _ | _ | n
    · exact .inl rfl
    · exact .inr (.inl rfl)
    · exact .inr (.inr (.inr ⟨n, rfl⟩))
  | negSucc n => exact .inr (.inr (.inl ⟨n, rfl⟩))

theorem pl_blk : (chainOf plC).drop 2 = .block 1 plD :: (chainOf plC).drop 3 := by
  kernel_rfl

theorem pl_s00 (x : FD) (kd ar nn : Nat → Int) (len cap i : Nat) (N : Int) (n0 s0 c0 b0 : Nat) (f0 : Nat → Int) (d0 e0 : Nat) (g0 : Nat → Int) (n1 s1 c1 b1 : Nat) (f1 : Nat → Int) (d1 e1 : Nat) (g1 : Nat → Int) {n0' : Nat} : SubSt 2 (rhoL [0, 1, 2, 3]) (plSt ⟨x, kd, ar, nn, len, cap, N, i, ⟨false, n0, s0, c0, b0, f0, d0, e0, g0⟩, ⟨false, n1, s1, c1, b1, f1, d1, e1, g1⟩⟩) (plSt ⟨x, kd, ar, nn, len, cap, N, i, ⟨false, n0, s0, c0, b0, f0, d0, e0, g0⟩, ⟨false, n1, s1, c1, b1, f1, d1, e1, g1⟩⟩) :=
  subStL _ rfl rfl rfl (Nat.le_of_ble_eq_true rfl) (by simp [plSt, plFr, SubFr, slotAt, ren, below, rhoL]) ⟨⟨_, rfl, x.ok⟩, ⟨_, rfl, act_ok (by decide) rfl⟩, ⟨_, rfl, skB_ok (la_nil (la_int rfl (la_nil (la_int rfl (la_int rfl la_end)))))⟩, ⟨_, rfl, skB_ok (la_int rfl (la_nil (la_nil (la_int rfl (la_int rfl la_end)))))⟩, trivial⟩

theorem pl_i00 (x : FD) (kd ar nn : Nat → Int) (len cap i : Nat) (N : Int) (n0 s0 c0 b0 : Nat) (f0 : Nat → Int) (d0 e0 : Nat) (g0 : Nat → Int) (n1 s1 c1 b1 : Nat) (f1 : Nat → Int) (d1 e1 : Nat) (g1 : Nat → Int) (hi : i < 100) (hinv : plInv ⟨x, kd, ar, nn, len, cap, N, i + 1, ⟨false, n0, s0, c0, b0, f0, d0, e0, g0⟩, ⟨false, n1, s1, c1, b1, f1, d1, e1, g1⟩⟩) {Q : Ex × St → Prop} (z : DP) (hz : z.i = i) {C : List Code} (hC : C = (chainOf plC).drop 3) :
    AWpL Try.prog plE C (plSt ⟨x, kd, ar, nn, len, cap, N, i, ⟨false, n0, s0, c0, b0, f0, d0, e0, g0⟩, ⟨false, n1, s1, c1, b1, f1, d1, e1, g1⟩⟩) (Round plE plSt plInv (fun x => 100 - x.i) (fun _ => .asm false .fail) Q z) := by
  have hl : ∀ c ∈ (chainOf plC).drop 3, ∀ c' ∈ loopsIn c, LoopOK Try.prog plE c' := noLoopsL_ok (by kernel_rfl)
  have e := pl_c00 x kd ar nn len cap i N n0 s0 c0 b0 f0 d0 e0 g0 n1 s1 c1 b1 f1 d1 e1 g1
  rw [← hC] at e hl
  refine awpl_end (E := plE) plE_ok hl (weak_keep [1, 5, 7, 9] (T.cut_eq e ?_))
  have hw : IntKind.wrap IntKind.i64 ((↑i : Int) + (1 : Int)) = ((i + 1 : Nat) : Int) := by rw [IntWalk.i64_in _ (by omega)]; omega
  refine T.hret ⟨rhoL [0, 1, 2, 3], plSt ⟨x, kd, ar, nn, len, cap, N, i + 1, ⟨false, n0, s0, c0, b0, f0, d0, e0, g0⟩, ⟨false, n1, s1, c1, b1, f1, d1, e1, g1⟩⟩, subStL _ rfl rfl rfl (Nat.le_of_ble_eq_true rfl) (by simp [plSt, plFr, SubFr, slotAt, ren, below, rhoL, hw]) ⟨⟨_, rfl, x.ok⟩, ⟨_, rfl, act_ok (by decide) rfl⟩, ⟨_, rfl, skB_ok (la_nil (la_int rfl (la_nil (la_int rfl (la_int rfl la_end)))))⟩, ⟨_, rfl, skB_ok (la_int rfl (la_nil (la_nil (la_int rfl (la_int rfl la_end)))))⟩, trivial⟩, ?_⟩
  exact ⟨⟨x, kd, ar, nn, len, cap, N, i + 1, ⟨false, n0, s0, c0, b0, f0, d0, e0, g0⟩, ⟨false, n1, s1, c1, b1, f1, d1, e1, g1⟩⟩, rhoL [0, 1, 2, 3], hinv, by dsimp only; omega, subStL _ rfl rfl rfl (Nat.le_of_ble_eq_true rfl) (by simp [plSt, plFr, SubFr, slotAt, ren, below, rhoL]) ⟨⟨_, rfl, x.ok⟩, ⟨_, rfl, act_ok (by decide) rfl⟩, ⟨_, rfl, skB_ok (la_nil (la_int rfl (la_nil (la_int rfl (la_int rfl la_end)))))⟩, ⟨_, rfl, skB_ok (la_int rfl (la_nil (la_nil (la_int rfl (la_int rfl la_end)))))⟩, trivial⟩, any_ff⟩

theorem pl_s10 (x : FD) (kd ar nn : Nat → Int) (len cap i : Nat) (N : Int) (n0 s0 c0 b0 : Nat) (f0 : Nat → Int) (d0 e0 : Nat) (g0 : Nat → Int) (n1 s1 c1 b1 : Nat) (f1 : Nat → Int) (d1 e1 : Nat) (g1 : Nat → Int) {n0' : Nat} : SubSt 2 (rhoL [0, 1, 2, 3, 4, 5]) (plSt ⟨x, kd, ar, nn, len, cap, N, i, ⟨true, n0, s0, c0, b0, f0, d0, e0, g0⟩, ⟨false, n1, s1, c1, b1, f1, d1, e1, g1⟩⟩) (plSt ⟨x, kd, ar, nn, len, cap, N, i, ⟨true, n0, s0, c0, b0, f0, d0, e0, g0⟩, ⟨false, n1, s1, c1, b1, f1, d1, e1, g1⟩⟩) :=
  subStL _ rfl rfl rfl (Nat.le_of_ble_eq_true rfl) (by simp [plSt, plFr, SubFr, slotAt, ren, below, rhoL]) ⟨⟨_, rfl, x.ok⟩, ⟨_, rfl, act_ok (by decide) rfl⟩, ⟨_, rfl, skB_ok (la_sl rfl (by decide) rfl rfl (la_int rfl (la_nil (la_int rfl (la_int rfl la_end)))))⟩, ⟨_, rfl, skB_ok (la_int rfl (la_sl rfl (by decide) rfl rfl (la_nil (la_int rfl (la_int rfl la_end)))))⟩, ⟨_, rfl, byt_same⟩, ⟨_, rfl, byt_same⟩, trivial⟩

theorem pl_i10 (x : FD) (kd ar nn : Nat → Int) (len cap i : Nat) (N : Int) (n0 s0 c0 b0 : Nat) (f0 : Nat → Int) (d0 e0 : Nat) (g0 : Nat → Int) (n1 s1 c1 b1 : Nat) (f1 : Nat → Int) (d1 e1 : Nat) (g1 : Nat → Int) (hi : i < 100) (hinv : plInv ⟨x, kd, ar, nn, len, cap, N, i + 1, ⟨true, n0, s0, c0, b0, f0, d0, e0, g0⟩, ⟨false, n1, s1, c1, b1, f1, d1, e1, g1⟩⟩) {Q : Ex × St → Prop} (z : DP) (hz : z.i = i) {C : List Code} (hC : C = (chainOf plC).drop 3) :
    AWpL Try.prog plE C (plSt ⟨x, kd, ar, nn, len, cap, N, i, ⟨true, n0, s0, c0, b0, f0, d0, e0, g0⟩, ⟨false, n1, s1, c1, b1, f1, d1, e1, g1⟩⟩) (Round plE plSt plInv (fun x => 100 - x.i) (fun _ => .asm false .fail) Q z) := by
  have hl : ∀ c ∈ (chainOf plC).drop 3, ∀ c' ∈ loopsIn c, LoopOK Try.prog plE c' := noLoopsL_ok (by kernel_rfl)
  have e := pl_c10 x kd ar nn len cap i N n0 s0 c0 b0 f0 d0 e0 g0 n1 s1 c1 b1 f1 d1 e1 g1
  rw [← hC] at e hl
  refine awpl_end (E := plE) plE_ok hl (weak_keep [1, 5, 7, 9] (T.cut_eq e ?_))
  have hw : IntKind.wrap IntKind.i64 ((↑i : Int) + (1 : Int)) = ((i + 1 : Nat) : Int) := by rw [IntWalk.i64_in _ (by omega)]; omega
  refine T.hret ⟨rhoL [0, 1, 2, 3, 4, 5], plSt ⟨x, kd, ar, nn, len, cap, N, i + 1, ⟨true, n0, s0, c0, b0, f0, d0, e0, g0⟩, ⟨false, n1, s1, c1, b1, f1, d1, e1, g1⟩⟩, subStL _ rfl rfl rfl (Nat.le_of_ble_eq_true rfl) (by simp [plSt, plFr, SubFr, slotAt, ren, below, rhoL, hw]) ⟨⟨_, rfl, x.ok⟩, ⟨_, rfl, act_ok (by decide) rfl⟩, ⟨_, rfl, skB_ok (la_sl rfl (by decide) rfl rfl (la_int rfl (la_nil (la_int rfl (la_int rfl la_end)))))⟩, ⟨_, rfl, skB_ok (la_int rfl (la_sl rfl (by decide) rfl rfl (la_nil (la_int rfl (la_int rfl la_end)))))⟩, ⟨_, rfl, byt_same⟩, ⟨_, rfl, byt_same⟩, trivial⟩, ?_⟩
  exact ⟨⟨x, kd, ar, nn, len, cap, N, i + 1, ⟨true, n0, s0, c0, b0, f0, d0, e0, g0⟩, ⟨false, n1, s1, c1, b1, f1, d1, e1, g1⟩⟩, rhoL [0, 1, 2, 3, 4, 5], hinv, by dsimp only; omega, subStL _ rfl rfl rfl (Nat.le_of_ble_eq_true rfl) (by simp [plSt, plFr, SubFr, slotAt, ren, below, rhoL]) ⟨⟨_, rfl, x.ok⟩, ⟨_, rfl, act_ok (by decide) rfl⟩, ⟨_, rfl, skB_ok (la_sl rfl (by decide) rfl rfl (la_int rfl (la_nil (la_int rfl (la_int rfl la_end)))))⟩, ⟨_, rfl, skB_ok (la_int rfl (la_sl rfl (by decide) rfl rfl (la_nil (la_int rfl (la_int rfl la_end)))))⟩, ⟨_, rfl, byt_same⟩, ⟨_, rfl, byt_same⟩, trivial⟩, any_ff⟩

theorem pl_s01 (x : FD) (kd ar nn : Nat → Int) (len cap i : Nat) (N : Int) (n0 s0 c0 b0 : Nat) (f0 : Nat → Int) (d0 e0 : Nat) (g0 : Nat → Int) (n1 s1 c1 b1 : Nat) (f1 : Nat → Int) (d1 e1 : Nat) (g1 : Nat → Int) {n0' : Nat} : SubSt 2 (rhoL [0, 1, 2, 3, 4, 5]) (plSt ⟨x, kd, ar, nn, len, cap, N, i, ⟨false, n0, s0, c0, b0, f0, d0, e0, g0⟩, ⟨true, n1, s1, c1, b1, f1, d1, e1, g1⟩⟩) (plSt ⟨x, kd, ar, nn, len, cap, N, i, ⟨false, n0, s0, c0, b0, f0, d0, e0, g0⟩, ⟨true, n1, s1, c1, b1, f1, d1, e1, g1⟩⟩) :=
  subStL _ rfl rfl rfl (Nat.le_of_ble_eq_true rfl) (by simp [plSt, plFr, SubFr, slotAt, ren, below, rhoL]) ⟨⟨_, rfl, x.ok⟩, ⟨_, rfl, act_ok (by decide) rfl⟩, ⟨_, rfl, skB_ok (la_nil (la_int rfl (la_sl rfl (by decide) rfl rfl (la_int rfl (la_int rfl la_end)))))⟩, ⟨_, rfl, skB_ok (la_int rfl (la_nil (la_sl rfl (by decide) rfl rfl (la_int rfl (la_int rfl la_end)))))⟩, ⟨_, rfl, byt_same⟩, ⟨_, rfl, byt_same⟩, trivial⟩

theorem pl_i01 (x : FD) (kd ar nn : Nat → Int) (len cap i : Nat) (N : Int) (n0 s0 c0 b0 : Nat) (f0 : Nat → Int) (d0 e0 : Nat) (g0 : Nat → Int) (n1 s1 c1 b1 : Nat) (f1 : Nat → Int) (d1 e1 : Nat) (g1 : Nat → Int) (hi : i < 100) (hinv : plInv ⟨x, kd, ar, nn, len, cap, N, i + 1, ⟨false, n0, s0, c0, b0, f0, d0, e0, g0⟩, ⟨true, n1, s1, c1, b1, f1, d1, e1, g1⟩⟩) {Q : Ex × St → Prop} (z : DP) (hz : z.i = i) {C : List Code} (hC : C = (chainOf plC).drop 3) :
    AWpL Try.prog plE C (plSt ⟨x, kd, ar, nn, len, cap, N, i, ⟨false, n0, s0, c0, b0, f0, d0, e0, g0⟩, ⟨true, n1, s1, c1, b1, f1, d1, e1, g1⟩⟩) (Round plE plSt plInv (fun x => 100 - x.i) (fun _ => .asm false .fail) Q z) := by
  have hl : ∀ c ∈ (chainOf plC).drop 3, ∀ c' ∈ loopsIn c, LoopOK Try.prog plE c' := noLoopsL_ok (by kernel_rfl)
  have e := pl_c01 x kd ar nn len cap i N n0 s0 c0 b0 f0 d0 e0 g0 n1 s1 c1 b1 f1 d1 e1 g1
  rw [← hC] at e hl
  refine awpl_end (E := plE) plE_ok hl (weak_keep [1, 5, 7, 9] (T.cut_eq e ?_))
  have hw : IntKind.wrap IntKind.i64 ((↑i : Int) + (1 : Int)) = ((i + 1 : Nat) : Int) := by rw [IntWalk.i64_in _ (by omega)]; omega
  refine T.hret ⟨rhoL [0, 1, 2, 3, 4, 5], plSt ⟨x, kd, ar, nn, len, cap, N, i + 1, ⟨false, n0, s0, c0, b0, f0, d0, e0, g0⟩, ⟨true, n1, s1, c1, b1, f1, d1, e1, g1⟩⟩, subStL _ rfl rfl rfl (Nat.le_of_ble_eq_true rfl) (by simp [plSt, plFr, SubFr, slotAt, ren, below, rhoL, hw]) ⟨⟨_, rfl, x.ok⟩, ⟨_, rfl, act_ok (by decide) rfl⟩, ⟨_, rfl, skB_ok (la_nil (la_int rfl (la_sl rfl (by decide) rfl rfl (la_int rfl (la_int rfl la_end)))))⟩, ⟨_, rfl, skB_ok (la_int rfl (la_nil (la_sl rfl (by decide) rfl rfl (la_int rfl (la_int rfl la_end)))))⟩, ⟨_, rfl, byt_same⟩, ⟨_, rfl, byt_same⟩, trivial⟩, ?_⟩
  exact ⟨⟨x, kd, ar, nn, len, cap, N, i + 1, ⟨false, n0, s0, c0, b0, f0, d0, e0, g0⟩, ⟨true, n1, s1, c1, b1, f1, d1, e1, g1⟩⟩, rhoL [0, 1, 2, 3, 4, 5], hinv, by dsimp only; omega, subStL _ rfl rfl rfl (Nat.le_of_ble_eq_true rfl) (by simp [plSt, plFr, SubFr, slotAt, ren, below, rhoL]) ⟨⟨_, rfl, x.ok⟩, ⟨_, rfl, act_ok (by decide) rfl⟩, ⟨_, rfl, skB_ok (la_nil (la_int rfl (la_sl rfl (by decide) rfl rfl (la_int rfl (la_int rfl la_end)))))⟩, ⟨_, rfl, skB_ok (la_int rfl (la_nil (la_sl rfl (by decide) rfl rfl (la_int rfl (la_int rfl la_end)))))⟩, ⟨_, rfl, byt_same⟩, ⟨_, rfl, byt_same⟩, trivial⟩, any_ff⟩

theorem pl_s11 (x : FD) (kd ar nn : Nat → Int) (len cap i : Nat) (N : Int) (n0 s0 c0 b0 : Nat) (f0 : Nat → Int) (d0 e0 : Nat) (g0 : Nat → Int) (n1 s1 c1 b1 : Nat) (f1 : Nat → Int) (d1 e1 : Nat) (g1 : Nat → Int) {n0' : Nat} : SubSt 2 (rhoL [0, 1, 2, 3, 4, 5, 6, 7]) (plSt ⟨x, kd, ar, nn, len, cap, N, i, ⟨true, n0, s0, c0, b0, f0, d0, e0, g0⟩, ⟨true, n1, s1, c1, b1, f1, d1, e1, g1⟩⟩) (plSt ⟨x, kd, ar, nn, len, cap, N, i, ⟨true, n0, s0, c0, b0, f0, d0, e0, g0⟩, ⟨true, n1, s1, c1, b1, f1, d1, e1, g1⟩⟩) :=
  subStL _ rfl rfl rfl (Nat.le_of_ble_eq_true rfl) (by simp [plSt, plFr, SubFr, slotAt, ren, below, rhoL]) ⟨⟨_, rfl, x.ok⟩, ⟨_, rfl, act_ok (by decide) rfl⟩, ⟨_, rfl, skB_ok (la_sl rfl (by decide) rfl rfl (la_int rfl (la_sl rfl (by decide) rfl rfl (la_int rfl (la_int rfl la_end)))))⟩, ⟨_, rfl, skB_ok (la_int rfl (la_sl rfl (by decide) rfl rfl (la_sl rfl (by decide) rfl rfl (la_int rfl (la_int rfl la_end)))))⟩, ⟨_, rfl, byt_same⟩, ⟨_, rfl, byt_same⟩, ⟨_, rfl, byt_same⟩, ⟨_, rfl, byt_same⟩, trivial⟩

theorem pl_i11 (x : FD) (kd ar nn : Nat → Int) (len cap i : Nat) (N : Int) (n0 s0 c0 b0 : Nat) (f0 : Nat → Int) (d0 e0 : Nat) (g0 : Nat → Int) (n1 s1 c1 b1 : Nat) (f1 : Nat → Int) (d1 e1 : Nat) (g1 : Nat → Int) (hi : i < 100) (hinv : plInv ⟨x, kd, ar, nn, len, cap, N, i + 1, ⟨true, n0, s0, c0, b0, f0, d0, e0, g0⟩, ⟨true, n1, s1, c1, b1, f1, d1, e1, g1⟩⟩) {Q : Ex × St → Prop} (z : DP) (hz : z.i = i) {C : List Code} (hC : C = (chainOf plC).drop 3) :
    AWpL Try.prog plE C (plSt ⟨x, kd, ar, nn, len, cap, N, i, ⟨true, n0, s0, c0, b0, f0, d0, e0, g0⟩, ⟨true, n1, s1, c1, b1, f1, d1, e1, g1⟩⟩) (Round plE plSt plInv (fun x => 100 - x.i) (fun _ => .asm false .fail) Q z) := by
  have hl : ∀ c ∈ (chainOf plC).drop 3, ∀ c' ∈ loopsIn c, LoopOK Try.prog plE c' := noLoopsL_ok (by kernel_rfl)
  have e := pl_c11 x kd ar nn len cap i N n0 s0 c0 b0 f0 d0 e0 g0 n1 s1 c1 b1 f1 d1 e1 g1
  rw [← hC] at e hl
  refine awpl_end (E := plE) plE_ok hl (weak_keep [1, 5, 7, 9] (T.cut_eq e ?_))
  have hw : IntKind.wrap IntKind.i64 ((↑i : Int) + (1 : Int)) = ((i + 1 : Nat) : Int) := by rw [IntWalk.i64_in _ (by omega)]; omega
  refine T.hret ⟨rhoL [0, 1, 2, 3, 4, 5, 6, 7], plSt ⟨x, kd, ar, nn, len, cap, N, i + 1, ⟨true, n0, s0, c0, b0, f0, d0, e0, g0⟩, ⟨true, n1, s1, c1, b1, f1, d1, e1, g1⟩⟩, subStL _ rfl rfl rfl (Nat.le_of_ble_eq_true rfl) (by simp [plSt, plFr, SubFr, slotAt, ren, below, rhoL, hw]) ⟨⟨_, rfl, x.ok⟩, ⟨_, rfl, act_ok (by decide) rfl⟩, ⟨_, rfl, skB_ok (la_sl rfl (by decide) rfl rfl (la_int rfl (la_sl rfl (by decide) rfl rfl (la_int rfl (la_int rfl la_end)))))⟩, ⟨_, rfl, skB_ok (la_int rfl (la_sl rfl (by decide) rfl rfl (la_sl rfl (by decide) rfl rfl (la_int rfl (la_int rfl la_end)))))⟩, ⟨_, rfl, byt_same⟩, ⟨_, rfl, byt_same⟩, ⟨_, rfl, byt_same⟩, ⟨_, rfl, byt_same⟩, trivial⟩, ?_⟩
  exact ⟨⟨x, kd, ar, nn, len, cap, N, i + 1, ⟨true, n0, s0, c0, b0, f0, d0, e0, g0⟩, ⟨true, n1, s1, c1, b1, f1, d1, e1, g1⟩⟩, rhoL [0, 1, 2, 3, 4, 5, 6, 7], hinv, by dsimp only; omega, subStL _ rfl rfl rfl (Nat.le_of_ble_eq_true rfl) (by simp [plSt, plFr, SubFr, slotAt, ren, below, rhoL]) ⟨⟨_, rfl, x.ok⟩, ⟨_, rfl, act_ok (by decide) rfl⟩, ⟨_, rfl, skB_ok (la_sl rfl (by decide) rfl rfl (la_int rfl (la_sl rfl (by decide) rfl rfl (la_int rfl (la_int rfl la_end)))))⟩, ⟨_, rfl, skB_ok (la_int rfl (la_sl rfl (by decide) rfl rfl (la_sl rfl (by decide) rfl rfl (la_int rfl (la_int rfl la_end)))))⟩, ⟨_, rfl, byt_same⟩, ⟨_, rfl, byt_same⟩, ⟨_, rfl, byt_same⟩, ⟨_, rfl, byt_same⟩, trivial⟩, any_ff⟩

theorem pl_inc (y : DP) (hi : y.i < 100) (hl : y.i < y.len) (hinv : plInv y) {Q : Ex × St → Prop} (z : DP) (hz : z.i = y.i) {C : List Code} (hC : C = (chainOf plC).drop 3) :
    AWpL Try.prog plE C (plSt y) (Round plE plSt plInv (fun x => 100 - x.i) (fun _ => .asm false .fail) Q z) := by
  obtain ⟨x, kd, ar, nn, len, cap, N, i, ⟨h0, n0, s0, c0, b0, f0, d0, e0, g0⟩, ⟨h1, n1, s1, c1, b1, f1, d1, e1, g1⟩⟩ := y
  obtain ⟨a1, a2, a3, a4, a5, a6, a7⟩ := hinv
  dsimp only at hi hl a1 a3 a4 hz
  cases h0 <;> cases h1
  · exact pl_i00 x kd ar nn len cap i N n0 s0 c0 b0 f0 d0 e0 g0 n1 s1 c1 b1 f1 d1 e1 g1 hi ⟨a1, a2, by dsimp only; omega, by dsimp only; omega, a5, a6, a7⟩ z hz hC
  · exact pl_i01 x kd ar nn len cap i N n0 s0 c0 b0 f0 d0 e0 g0 n1 s1 c1 b1 f1 d1 e1 g1 hi ⟨a1, a2, by dsimp only; omega, by dsimp only; omega, a5, a6, a7⟩ z hz hC
  · exact pl_i10 x kd ar nn len cap i N n0 s0 c0 b0 f0 d0 e0 g0 n1 s1 c1 b1 f1 d1 e1 g1 hi ⟨a1, a2, by dsimp only; omega, by dsimp only; omega, a5, a6, a7⟩ z hz hC
  · exact pl_i11 x kd ar nn len cap i N n0 s0 c0 b0 f0 d0 e0 g0 n1 s1 c1 b1 f1 d1 e1 g1 hi ⟨a1, a2, by dsimp only; omega, by dsimp only; omega, a5, a6, a7⟩ z hz hC

theorem pl_w00 (x : FD) (kd ar nn : Nat → Int) (len cap i : Nat) (N : Int) (n0 s0 c0 b0 : Nat) (f0 : Nat → Int) (d0 e0 : Nat) (g0 : Nat → Int) (n1 s1 c1 b1 : Nat) (f1 : Nat → Int) (d1 e1 : Nat) (g1 : Nat → Int) (hinv : plInv ⟨x, kd, ar, nn, len, cap, N, i, ⟨false, n0, s0, c0, b0, f0, d0, e0, g0⟩, ⟨false, n1, s1, c1, b1, f1, d1, e1, g1⟩⟩) {Q : Ex × St → Prop} (hR : Q (.ret, ⟨[(4, .bool true)], [none, none]⟩)) (hX : Q (.exit 0, ⟨[], [none, none]⟩)) :
    AWp Try.prog plE plC (plSt ⟨x, kd, ar, nn, len, cap, N, i, ⟨false, n0, s0, c0, b0, f0, d0, e0, g0⟩, ⟨false, n1, s1, c1, b1, f1, d1, e1, g1⟩⟩) (Round plE plSt plInv (fun x => 100 - x.i) (fun _ => .asm false .fail) Q ⟨x, kd, ar, nn, len, cap, N, i, ⟨false, n0, s0, c0, b0, f0, d0, e0, g0⟩, ⟨false, n1, s1, c1, b1, f1, d1, e1, g1⟩⟩) := by
  have hinv0 := hinv
  obtain ⟨a1, a2, a3, a4, a5, a6, a7⟩ := hinv
  dsimp only at a1 a3 a4
  refine awp_chain ?_
  have ea := pl_a00 x kd ar nn len cap i N n0 s0 c0 b0 f0 d0 e0 g0 n1 s1 c1 b1 f1 d1 e1 g1
  have eb := pl_b00 x kd ar nn len cap i N n0 s0 c0 b0 f0 d0 e0 g0 n1 s1 c1 b1 f1 d1 e1 g1
  have hl2 : ∀ c ∈ (chainOf plC).take 2, ∀ c' ∈ loopsIn c, LoopOK Try.prog plE c' := noLoopsL_ok (by kernel_rfl)
  have hl1 : ∀ c ∈ (chainOf plD).take 3, ∀ c' ∈ loopsIn c, LoopOK Try.prog plE c' := noLoopsL_ok (by kernel_rfl)
  have hlD : ∀ c ∈ (chainOf plD).drop 3, ∀ c' ∈ loopsIn c, LoopOK Try.prog plE c' := noLoopsL_ok (by kernel_rfl)
  have hb := pl_blk
  generalize hC3 : (chainOf plC).drop 3 = C3 at hb
  generalize chainOf plC = C at ea hl2 hb ⊢
  refine awpl_cut (E := plE) plE_ok 2 hl2 (weak_keep [1, 5, 7, 9] (T.cut_eq ea ?_))
  have out : ∀ st, Weak plE (Then (Round plE plSt plInv (fun x => 100 - x.i) (fun _ => .asm false .fail) Q ⟨x, kd, ar, nn, len, cap, N, i, ⟨false, n0, s0, c0, b0, f0, d0, e0, g0⟩, ⟨false, n1, s1, c1, b1, f1, d1, e1, g1⟩⟩) fun st' => AWpL Try.prog plE (C.drop 2) st' (Round plE plSt plInv (fun x => 100 - x.i) (fun _ => .asm false .fail) Q ⟨x, kd, ar, nn, len, cap, N, i, ⟨false, n0, s0, c0, b0, f0, d0, e0, g0⟩, ⟨false, n1, s1, c1, b1, f1, d1, e1, g1⟩⟩)) (.exit 0, st) := fun st =>
    ⟨id, ⟨[], [none, none]⟩, SubSt.mk (by simp [SubFr]) (Sub.nothing (n := 2) _), ⟨id, ⟨[], [none, none]⟩, SubSt.mk (by simp [SubFr]) (Sub.nothing (n := 2) _), hX⟩⟩
  refine T.hiteP (fun gi1 => T.hiteP (fun gi2 => T.hret ?_) (fun _ => T.hret (out _))) (fun _ => T.hret (out _))
  rw [hb]
  have go : AWpL Try.prog plE (.block 1 plD :: C3) (plSt ⟨x, kd, ar, nn, len, cap, N, i, ⟨false, n0, s0, c0, b0, f0, d0, e0, g0⟩, ⟨false, n1, s1, c1, b1, f1, d1, e1, g1⟩⟩) (Round plE plSt plInv (fun x => 100 - x.i) (fun _ => .asm false .fail) Q ⟨x, kd, ar, nn, len, cap, N, i, ⟨false, n0, s0, c0, b0, f0, d0, e0, g0⟩, ⟨false, n1, s1, c1, b1, f1, d1, e1, g1⟩⟩) := by
    refine awpl_block ?_
    generalize hD : (chainOf plD).drop 3 = D at hlD
    have hD := hD.symm
    generalize hDD : chainOf plD = DD at eb hl1 ⊢
    have hD1 : DD.drop 3 = D := by rw [← hDD, hD]
    refine awpl_cut (E := plE) plE_ok 3 hl1 (weak_keep [1, 4, 5, 7, 9, 10] (T.cut_eq eb ?_))
    rw [hD1]
    generalize hQ : (fun r : Ex × St => match r.1 with
      | .norm => AWpL Try.prog plE C3 r.2 (Round plE plSt plInv (fun x => 100 - x.i) (fun _ => .asm false .fail) Q ⟨x, kd, ar, nn, len, cap, N, i, ⟨false, n0, s0, c0, b0, f0, d0, e0, g0⟩, ⟨false, n1, s1, c1, b1, f1, d1, e1, g1⟩⟩)
      | .exit id' => if id' = 1 then AWpL Try.prog plE C3 r.2 (Round plE plSt plInv (fun x => 100 - x.i) (fun _ => .asm false .fail) Q ⟨x, kd, ar, nn, len, cap, N, i, ⟨false, n0, s0, c0, b0, f0, d0, e0, g0⟩, ⟨false, n1, s1, c1, b1, f1, d1, e1, g1⟩⟩) else Round plE plSt plInv (fun x => 100 - x.i) (fun _ => .asm false .fail) Q ⟨x, kd, ar, nn, len, cap, N, i, ⟨false, n0, s0, c0, b0, f0, d0, e0, g0⟩, ⟨false, n1, s1, c1, b1, f1, d1, e1, g1⟩⟩ (.exit id', r.2)
      | .ret => Round plE plSt plInv (fun x => 100 - x.i) (fun _ => .asm false .fail) Q ⟨x, kd, ar, nn, len, cap, N, i, ⟨false, n0, s0, c0, b0, f0, d0, e0, g0⟩, ⟨false, n1, s1, c1, b1, f1, d1, e1, g1⟩⟩ (.ret, r.2)
      | .goto l => Round plE plSt plInv (fun x => 100 - x.i) (fun _ => .asm false .fail) Q ⟨x, kd, ar, nn, len, cap, N, i, ⟨false, n0, s0, c0, b0, f0, d0, e0, g0⟩, ⟨false, n1, s1, c1, b1, f1, d1, e1, g1⟩⟩ (.goto l, r.2)) = Q0
    have hR0 : Q0 (.ret, ⟨[(4, .bool true)], [none, none]⟩) := by
      rw [← hQ]
      exact ⟨id, ⟨[(4, .bool true)], [none, none]⟩, SubSt.mk (by simp [SubFr, slotAt, ren, below]) (Sub.nothing (n := 2) _), hR⟩
    have K0 : ∀ a e, PR.ok N a → PR.ok N e → Q0 (.norm, plSt ⟨x, kd, ar, nn, len, cap, N, i, a, e⟩) := by
      intro a e ha he
      rw [← hQ]
      exact pl_inc ⟨x, kd, ar, nn, len, cap, N, i, a, e⟩ (by dsimp only; omega) (by dsimp only; omega) ⟨a1, a2, a3, a4, a5, ha, he⟩ _ rfl hC3.symm
    have ei : (0 : Nat) + Int.toNat (↑i : Int) = i := by omega
    have hp : ar ((0 : Nat) + Int.toNat (↑i : Int)) = 0 ∨ ar ((0 : Nat) + Int.toNat (↑i : Int)) = 1 ∨ (∃ q : Nat, ar ((0 : Nat) + Int.toNat (↑i : Int)) = Int.negSucc q) ∨ ∃ q : Nat, ar ((0 : Nat) + Int.toNat (↑i : Int)) = ((q + 2 : Nat) : Int) := area_cases _
    refine T.hchk (by simp only [Bool.and_eq_true, decide_eq_true_eq]; omega) (T.hchk (decide_eq_true (by omega)) (T.hchk (decide_eq_true (by omega)) (T.hchk (decide_eq_true (by omega)) (T.hchk (decide_eq_true (by omega)) (T.hite (fun gn => T.hchkT (T.hret ?_)) (fun gn => T.hiteP (fun gl => T.hret (by exact ⟨id, ⟨[(4, .bool true)], [none, none]⟩, SubSt.mk (by simp [SubFr, slotAt, ren, below]) (Sub.nothing (n := 2) _), hR0⟩)) (fun gl => T.hret ?_)))))))
    all_goals
      have hL : x.ln [i] ≤ 4096 := by
        rw [ei] at gn
        first | (have hz : x.ln [i] = 0 := (a2.nil _ gn).1; omega) | (rw [ei] at gl; exact Nat.le_of_not_lt (fun h => gl (by exact Int.ofNat_lt.2 h)))
      rcases hp with hp | hp | ⟨q, hp⟩ | ⟨q, hp⟩
      · exact ⟨rhoL [0, 1, 2, 3, 4], ⟨(10, .ptr 4 0 0 0) :: plFr len cap i, actM x kd ar nn cap ++ plM N ⟨false, n0, s0, c0, b0, f0, d0, e0, g0⟩ ⟨false, n1, s1, c1, b1, f1, d1, e1, g1⟩ ++ [some (boxB (kd ((0 : Nat) + Int.toNat (↑i : Int))) 0 (nn ((0 : Nat) + Int.toNat (↑i : Int))) i)]⟩, subStL _ rfl rfl rfl (Nat.le_of_ble_eq_true rfl) (by simp [plFr, SubFr, slotAt, ren, below, rhoL]) ⟨⟨_, rfl, x.ok⟩, ⟨_, rfl, act_ok (by decide) rfl⟩, ⟨_, rfl, skB_ok (la_nil (la_int rfl (la_nil (la_int rfl (la_int rfl la_end)))))⟩, ⟨_, rfl, skB_ok (la_int rfl (la_nil (la_nil (la_int rfl (la_int rfl la_end)))))⟩, ⟨_, rfl, box_ok rfl (by decide) rfl hp rfl (by omega)⟩, trivial⟩, awpl_end (E := plE) plE_ok hlD (pl_r000 (kd ((0 : Nat) + Int.toNat (↑i : Int))) (nn ((0 : Nat) + Int.toNat (↑i : Int))) x kd ar nn len cap i N n0 s0 c0 b0 f0 d0 e0 g0 n1 s1 c1 b1 f1 d1 e1 g1 a2 hL a5 a6 a7 hR0 K0 hD)⟩
      · exact ⟨rhoL [0, 1, 2, 3, 4], ⟨(10, .ptr 4 0 0 0) :: plFr len cap i, actM x kd ar nn cap ++ plM N ⟨false, n0, s0, c0, b0, f0, d0, e0, g0⟩ ⟨false, n1, s1, c1, b1, f1, d1, e1, g1⟩ ++ [some (boxB (kd ((0 : Nat) + Int.toNat (↑i : Int))) 1 (nn ((0 : Nat) + Int.toNat (↑i : Int))) i)]⟩, subStL _ rfl rfl rfl (Nat.le_of_ble_eq_true rfl) (by simp [plFr, SubFr, slotAt, ren, below, rhoL]) ⟨⟨_, rfl, x.ok⟩, ⟨_, rfl, act_ok (by decide) rfl⟩, ⟨_, rfl, skB_ok (la_nil (la_int rfl (la_nil (la_int rfl (la_int rfl la_end)))))⟩, ⟨_, rfl, skB_ok (la_int rfl (la_nil (la_nil (la_int rfl (la_int rfl la_end)))))⟩, ⟨_, rfl, box_ok rfl (by decide) rfl hp rfl (by omega)⟩, trivial⟩, awpl_end (E := plE) plE_ok hlD (pl_r001 (kd ((0 : Nat) + Int.toNat (↑i : Int))) (nn ((0 : Nat) + Int.toNat (↑i : Int))) x kd ar nn len cap i N n0 s0 c0 b0 f0 d0 e0 g0 n1 s1 c1 b1 f1 d1 e1 g1 a2 hL a5 a6 a7 hR0 K0 hD)⟩
      · exact ⟨rhoL [0, 1, 2, 3, 4], ⟨(10, .ptr 4 0 0 0) :: plFr len cap i, actM x kd ar nn cap ++ plM N ⟨false, n0, s0, c0, b0, f0, d0, e0, g0⟩ ⟨false, n1, s1, c1, b1, f1, d1, e1, g1⟩ ++ [some (boxB (kd ((0 : Nat) + Int.toNat (↑i : Int))) (Int.negSucc q) (nn ((0 : Nat) + Int.toNat (↑i : Int))) i)]⟩, subStL _ rfl rfl rfl (Nat.le_of_ble_eq_true rfl) (by simp [plFr, SubFr, slotAt, ren, below, rhoL]) ⟨⟨_, rfl, x.ok⟩, ⟨_, rfl, act_ok (by decide) rfl⟩, ⟨_, rfl, skB_ok (la_nil (la_int rfl (la_nil (la_int rfl (la_int rfl la_end)))))⟩, ⟨_, rfl, skB_ok (la_int rfl (la_nil (la_nil (la_int rfl (la_int rfl la_end)))))⟩, ⟨_, rfl, box_ok rfl (by decide) rfl hp rfl (by omega)⟩, trivial⟩, awpl_end (E := plE) plE_ok hlD (pl_r00n (kd ((0 : Nat) + Int.toNat (↑i : Int))) (nn ((0 : Nat) + Int.toNat (↑i : Int))) q x kd ar nn len cap i N n0 s0 c0 b0 f0 d0 e0 g0 n1 s1 c1 b1 f1 d1 e1 g1 a2 hL a5 a6 a7 hR0 K0 hD)⟩
      · exact ⟨rhoL [0, 1, 2, 3, 4], ⟨(10, .ptr 4 0 0 0) :: plFr len cap i, actM x kd ar nn cap ++ plM N ⟨false, n0, s0, c0, b0, f0, d0, e0, g0⟩ ⟨false, n1, s1, c1, b1, f1, d1, e1, g1⟩ ++ [some (boxB (kd ((0 : Nat) + Int.toNat (↑i : Int))) ((q + 2 : Nat) : Int) (nn ((0 : Nat) + Int.toNat (↑i : Int))) i)]⟩, subStL _ rfl rfl rfl (Nat.le_of_ble_eq_true rfl) (by simp [plFr, SubFr, slotAt, ren, below, rhoL]) ⟨⟨_, rfl, x.ok⟩, ⟨_, rfl, act_ok (by decide) rfl⟩, ⟨_, rfl, skB_ok (la_nil (la_int rfl (la_nil (la_int rfl (la_int rfl la_end)))))⟩, ⟨_, rfl, skB_ok (la_int rfl (la_nil (la_nil (la_int rfl (la_int rfl la_end)))))⟩, ⟨_, rfl, box_ok rfl (by decide) rfl hp rfl (by omega)⟩, trivial⟩, awpl_end (E := plE) plE_ok hlD (pl_r00g (kd ((0 : Nat) + Int.toNat (↑i : Int))) (nn ((0 : Nat) + Int.toNat (↑i : Int))) q x kd ar nn len cap i N n0 s0 c0 b0 f0 d0 e0 g0 n1 s1 c1 b1 f1 d1 e1 g1 a2 hL a5 a6 a7 hR0 K0 hD)⟩
  exact ⟨rhoL [0, 1, 2, 3], plSt ⟨x, kd, ar, nn, len, cap, N, i, ⟨false, n0, s0, c0, b0, f0, d0, e0, g0⟩, ⟨false, n1, s1, c1, b1, f1, d1, e1, g1⟩⟩, subStL _ rfl rfl rfl (Nat.le_of_ble_eq_true rfl) (by simp [plSt, plFr, SubFr, slotAt, ren, below, rhoL]) ⟨⟨_, rfl, x.ok⟩, ⟨_, rfl, act_ok (by decide) rfl⟩, ⟨_, rfl, skB_ok (la_nil (la_int rfl (la_nil (la_int rfl (la_int rfl la_end)))))⟩, ⟨_, rfl, skB_ok (la_int rfl (la_nil (la_nil (la_int rfl (la_int rfl la_end)))))⟩, trivial⟩, go⟩

theorem pl_w10 (x : FD) (kd ar nn : Nat → Int) (len cap i : Nat) (N : Int) (n0 s0 c0 b0 : Nat) (f0 : Nat → Int) (d0 e0 : Nat) (g0 : Nat → Int) (n1 s1 c1 b1 : Nat) (f1 : Nat → Int) (d1 e1 : Nat) (g1 : Nat → Int) (hinv : plInv ⟨x, kd, ar, nn, len, cap, N, i, ⟨true, n0, s0, c0, b0, f0, d0, e0, g0⟩, ⟨false, n1, s1, c1, b1, f1, d1, e1, g1⟩⟩) {Q : Ex × St → Prop} (hR : Q (.ret, ⟨[(4, .bool true)], [none, none]⟩)) (hX : Q (.exit 0, ⟨[], [none, none]⟩)) :
    AWp Try.prog plE plC (plSt ⟨x, kd, ar, nn, len, cap, N, i, ⟨true, n0, s0, c0, b0, f0, d0, e0, g0⟩, ⟨false, n1, s1, c1, b1, f1, d1, e1, g1⟩⟩) (Round plE plSt plInv (fun x => 100 - x.i) (fun _ => .asm false .fail) Q ⟨x, kd, ar, nn, len, cap, N, i, ⟨true, n0, s0, c0, b0, f0, d0, e0, g0⟩, ⟨false, n1, s1, c1, b1, f1, d1, e1, g1⟩⟩) := by
  have hinv0 := hinv
  obtain ⟨a1, a2, a3, a4, a5, a6, a7⟩ := hinv
  dsimp only at a1 a3 a4
  refine awp_chain ?_
  have ea := pl_a10 x kd ar nn len cap i N n0 s0 c0 b0 f0 d0 e0 g0 n1 s1 c1 b1 f1 d1 e1 g1
  have eb := pl_b10 x kd ar nn len cap i N n0 s0 c0 b0 f0 d0 e0 g0 n1 s1 c1 b1 f1 d1 e1 g1
  have hl2 : ∀ c ∈ (chainOf plC).take 2, ∀ c' ∈ loopsIn c, LoopOK Try.prog plE c' := noLoopsL_ok (by kernel_rfl)
  have hl1 : ∀ c ∈ (chainOf plD).take 3, ∀ c' ∈ loopsIn c, LoopOK Try.prog plE c' := noLoopsL_ok (by kernel_rfl)
  have hlD : ∀ c ∈ (chainOf plD).drop 3, ∀ c' ∈ loopsIn c, LoopOK Try.prog plE c' := noLoopsL_ok (by kernel_rfl)
  have hb := pl_blk
  generalize hC3 : (chainOf plC).drop 3 = C3 at hb
  generalize chainOf plC = C at ea hl2 hb ⊢
  refine awpl_cut (E := plE) plE_ok 2 hl2 (weak_keep [1, 5, 7, 9] (T.cut_eq ea ?_))
  have out : ∀ st, Weak plE (Then (Round plE plSt plInv (fun x => 100 - x.i) (fun _ => .asm false .fail) Q ⟨x, kd, ar, nn, len, cap, N, i, ⟨true, n0, s0, c0, b0, f0, d0, e0, g0⟩, ⟨false, n1, s1, c1, b1, f1, d1, e1, g1⟩⟩) fun st' => AWpL Try.prog plE (C.drop 2) st' (Round plE plSt plInv (fun x => 100 - x.i) (fun _ => .asm false .fail) Q ⟨x, kd, ar, nn, len, cap, N, i, ⟨true, n0, s0, c0, b0, f0, d0, e0, g0⟩, ⟨false, n1, s1, c1, b1, f1, d1, e1, g1⟩⟩)) (.exit 0, st) := fun st =>
    ⟨id, ⟨[], [none, none]⟩, SubSt.mk (by simp [SubFr]) (Sub.nothing (n := 2) _), ⟨id, ⟨[], [none, none]⟩, SubSt.mk (by simp [SubFr]) (Sub.nothing (n := 2) _), hX⟩⟩
  refine T.hiteP (fun gi1 => T.hiteP (fun gi2 => T.hret ?_) (fun _ => T.hret (out _))) (fun _ => T.hret (out _))
  rw [hb]
  have go : AWpL Try.prog plE (.block 1 plD :: C3) (plSt ⟨x, kd, ar, nn, len, cap, N, i, ⟨true, n0, s0, c0, b0, f0, d0, e0, g0⟩, ⟨false, n1, s1, c1, b1, f1, d1, e1, g1⟩⟩) (Round plE plSt plInv (fun x => 100 - x.i) (fun _ => .asm false .fail) Q ⟨x, kd, ar, nn, len, cap, N, i, ⟨true, n0, s0, c0, b0, f0, d0, e0, g0⟩, ⟨false, n1, s1, c1, b1, f1, d1, e1, g1⟩⟩) := by
    refine awpl_block ?_
    generalize hD : (chainOf plD).drop 3 = D at hlD
    have hD := hD.symm
    generalize hDD : chainOf plD = DD at eb hl1 ⊢
    have hD1 : DD.drop 3 = D := by rw [← hDD, hD]
    refine awpl_cut (E := plE) plE_ok 3 hl1 (weak_keep [1, 4, 5, 7, 9, 10] (T.cut_eq eb ?_))
    rw [hD1]
    generalize hQ : (fun r : Ex × St => match r.1 with
      | .norm => AWpL Try.prog plE C3 r.2 (Round plE plSt plInv (fun x => 100 - x.i) (fun _ => .asm false .fail) Q ⟨x, kd, ar, nn, len, cap, N, i, ⟨true, n0, s0, c0, b0, f0, d0, e0, g0⟩, ⟨false, n1, s1, c1, b1, f1, d1, e1, g1⟩⟩)
      | .exit id' => if id' = 1 then AWpL Try.prog plE C3 r.2 (Round plE plSt plInv (fun x => 100 - x.i) (fun _ => .asm false .fail) Q ⟨x, kd, ar, nn, len, cap, N, i, ⟨true, n0, s0, c0, b0, f0, d0, e0, g0⟩, ⟨false, n1, s1, c1, b1, f1, d1, e1, g1⟩⟩) else Round plE plSt plInv (fun x => 100 - x.i) (fun _ => .asm false .fail) Q ⟨x, kd, ar, nn, len, cap, N, i, ⟨true, n0, s0, c0, b0, f0, d0, e0, g0⟩, ⟨false, n1, s1, c1, b1, f1, d1, e1, g1⟩⟩ (.exit id', r.2)
      | .ret => Round plE plSt plInv (fun x => 100 - x.i) (fun _ => .asm false .fail) Q ⟨x, kd, ar, nn, len, cap, N, i, ⟨true, n0, s0, c0, b0, f0, d0, e0, g0⟩, ⟨false, n1, s1, c1, b1, f1, d1, e1, g1⟩⟩ (.ret, r.2)
      | .goto l => Round plE plSt plInv (fun x => 100 - x.i) (fun _ => .asm false .fail) Q ⟨x, kd, ar, nn, len, cap, N, i, ⟨true, n0, s0, c0, b0, f0, d0, e0, g0⟩, ⟨false, n1, s1, c1, b1, f1, d1, e1, g1⟩⟩ (.goto l, r.2)) = Q0
    have hR0 : Q0 (.ret, ⟨[(4, .bool true)], [none, none]⟩) := by
      rw [← hQ]
      exact ⟨id, ⟨[(4, .bool true)], [none, none]⟩, SubSt.mk (by simp [SubFr, slotAt, ren, below]) (Sub.nothing (n := 2) _), hR⟩
    have K0 : ∀ a e, PR.ok N a → PR.ok N e → Q0 (.norm, plSt ⟨x, kd, ar, nn, len, cap, N, i, a, e⟩) := by
      intro a e ha he
      rw [← hQ]
      exact pl_inc ⟨x, kd, ar, nn, len, cap, N, i, a, e⟩ (by dsimp only; omega) (by dsimp only; omega) ⟨a1, a2, a3, a4, a5, ha, he⟩ _ rfl hC3.symm
    have ei : (0 : Nat) + Int.toNat (↑i : Int) = i := by omega
    have hp : ar ((0 : Nat) + Int.toNat (↑i : Int)) = 0 ∨ ar ((0 : Nat) + Int.toNat (↑i : Int)) = 1 ∨ (∃ q : Nat, ar ((0 : Nat) + Int.toNat (↑i : Int)) = Int.negSucc q) ∨ ∃ q : Nat, ar ((0 : Nat) + Int.toNat (↑i : Int)) = ((q + 2 : Nat) : Int) := area_cases _
    refine T.hchk (by simp only [Bool.and_eq_true, decide_eq_true_eq]; omega) (T.hchk (decide_eq_true (by omega)) (T.hchk (decide_eq_true (by omega)) (T.hchk (decide_eq_true (by omega)) (T.hchk (decide_eq_true (by omega)) (T.hite (fun gn => T.hchkT (T.hret ?_)) (fun gn => T.hiteP (fun gl => T.hret (by exact ⟨id, ⟨[(4, .bool true)], [none, none]⟩, SubSt.mk (by simp [SubFr, slotAt, ren, below]) (Sub.nothing (n := 2) _), hR0⟩)) (fun gl => T.hret ?_)))))))
    all_goals
      have hL : x.ln [i] ≤ 4096 := by
        rw [ei] at gn
        first | (have hz : x.ln [i] = 0 := (a2.nil _ gn).1; omega) | (rw [ei] at gl; exact Nat.le_of_not_lt (fun h => gl (by exact Int.ofNat_lt.2 h)))
      rcases hp with hp | hp | ⟨q, hp⟩ | ⟨q, hp⟩
      · exact ⟨rhoL [0, 1, 2, 3, 4, 5, 6], ⟨(10, .ptr 6 0 0 0) :: plFr len cap i, actM x kd ar nn cap ++ plM N ⟨true, n0, s0, c0, b0, f0, d0, e0, g0⟩ ⟨false, n1, s1, c1, b1, f1, d1, e1, g1⟩ ++ [some (boxB (kd ((0 : Nat) + Int.toNat (↑i : Int))) 0 (nn ((0 : Nat) + Int.toNat (↑i : Int))) i)]⟩, subStL _ rfl rfl rfl (Nat.le_of_ble_eq_true rfl) (by simp [plFr, SubFr, slotAt, ren, below, rhoL]) ⟨⟨_, rfl, x.ok⟩, ⟨_, rfl, act_ok (by decide) rfl⟩, ⟨_, rfl, skB_ok (la_sl rfl (by decide) rfl rfl (la_int rfl (la_nil (la_int rfl (la_int rfl la_end)))))⟩, ⟨_, rfl, skB_ok (la_int rfl (la_sl rfl (by decide) rfl rfl (la_nil (la_int rfl (la_int rfl la_end)))))⟩, ⟨_, rfl, byt_same⟩, ⟨_, rfl, byt_same⟩, ⟨_, rfl, box_ok rfl (by decide) rfl hp rfl (by omega)⟩, trivial⟩, awpl_end (E := plE) plE_ok hlD (pl_r100 (kd ((0 : Nat) + Int.toNat (↑i : Int))) (nn ((0 : Nat) + Int.toNat (↑i : Int))) x kd ar nn len cap i N n0 s0 c0 b0 f0 d0 e0 g0 n1 s1 c1 b1 f1 d1 e1 g1 a2 hL a5 a6 a7 hR0 K0 hD)⟩
      · exact ⟨rhoL [0, 1, 2, 3, 4, 5, 6], ⟨(10, .ptr 6 0 0 0) :: plFr len cap i, actM x kd ar nn cap ++ plM N ⟨true, n0, s0, c0, b0, f0, d0, e0, g0⟩ ⟨false, n1, s1, c1, b1, f1, d1, e1, g1⟩ ++ [some (boxB (kd ((0 : Nat) + Int.toNat (↑i : Int))) 1 (nn ((0 : Nat) + Int.toNat (↑i : Int))) i)]⟩, subStL _ rfl rfl rfl (Nat.le_of_ble_eq_true rfl) (by simp [plFr, SubFr, slotAt, ren, below, rhoL]) ⟨⟨_, rfl, x.ok⟩, ⟨_, rfl, act_ok (by decide) rfl⟩, ⟨_, rfl, skB_ok (la_sl rfl (by decide) rfl rfl (la_int rfl (la_nil (la_int rfl (la_int rfl la_end)))))⟩, ⟨_, rfl, skB_ok (la_int rfl (la_sl rfl (by decide) rfl rfl (la_nil (la_int rfl (la_int rfl la_end)))))⟩, ⟨_, rfl, byt_same⟩, ⟨_, rfl, byt_same⟩, ⟨_, rfl, box_ok rfl (by decide) rfl hp rfl (by omega)⟩, trivial⟩, awpl_end (E := plE) plE_ok hlD (pl_r101 (kd ((0 : Nat) + Int.toNat (↑i : Int))) (nn ((0 : Nat) + Int.toNat (↑i : Int))) x kd ar nn len cap i N n0 s0 c0 b0 f0 d0 e0 g0 n1 s1 c1 b1 f1 d1 e1 g1 a2 hL a5 a6 a7 hR0 K0 hD)⟩
      · exact ⟨rhoL [0, 1, 2, 3, 4, 5, 6], ⟨(10, .ptr 6 0 0 0) :: plFr len cap i, actM x kd ar nn cap ++ plM N ⟨true, n0, s0, c0, b0, f0, d0, e0, g0⟩ ⟨false, n1, s1, c1, b1, f1, d1, e1, g1⟩ ++ [some (boxB (kd ((0 : Nat) + Int.toNat (↑i : Int))) (Int.negSucc q) (nn ((0 : Nat) + Int.toNat (↑i : Int))) i)]⟩, subStL _ rfl rfl rfl (Nat.le_of_ble_eq_true rfl) (by simp [plFr, SubFr, slotAt, ren, below, rhoL]) ⟨⟨_, rfl, x.ok⟩, ⟨_, rfl, act_ok (by decide) rfl⟩, ⟨_, rfl, skB_ok (la_sl rfl (by decide) rfl rfl (la_int rfl (la_nil (la_int rfl (la_int rfl la_end)))))⟩, ⟨_, rfl, skB_ok (la_int rfl (la_sl rfl (by decide) rfl rfl (la_nil (la_int rfl (la_int rfl la_end)))))⟩, ⟨_, rfl, byt_same⟩, ⟨_, rfl, byt_same⟩, ⟨_, rfl, box_ok rfl (by decide) rfl hp rfl (by omega)⟩, trivial⟩, awpl_end (E := plE) plE_ok hlD (pl_r10n (kd ((0 : Nat) + Int.toNat (↑i : Int))) (nn ((0 : Nat) + Int.toNat (↑i : Int))) q x kd ar nn len cap i N n0 s0 c0 b0 f0 d0 e0 g0 n1 s1 c1 b1 f1 d1 e1 g1 a2 hL a5 a6 a7 hR0 K0 hD)⟩
      · exact ⟨rhoL [0, 1, 2, 3, 4, 5, 6], ⟨(10, .ptr 6 0 0 0) :: plFr len cap i, actM x kd ar nn cap ++ plM N ⟨true, n0, s0, c0, b0, f0, d0, e0, g0⟩ ⟨false, n1, s1, c1, b1, f1, d1, e1, g1⟩ ++ [some (boxB (kd ((0 : Nat) + Int.toNat (↑i : Int))) ((q + 2 : Nat) : Int) (nn ((0 : Nat) + Int.toNat (↑i : Int))) i)]⟩, subStL _ rfl rfl rfl (Nat.le_of_ble_eq_true rfl) (by simp [plFr, SubFr, slotAt, ren, below, rhoL]) ⟨⟨_, rfl, x.ok⟩, ⟨_, rfl, act_ok (by decide) rfl⟩, ⟨_, rfl, skB_ok (la_sl rfl (by decide) rfl rfl (la_int rfl (la_nil (la_int rfl (la_int rfl la_end)))))⟩, ⟨_, rfl, skB_ok (la_int rfl (la_sl rfl (by decide) rfl rfl (la_nil (la_int rfl (la_int rfl la_end)))))⟩, ⟨_, rfl, byt_same⟩, ⟨_, rfl, byt_same⟩, ⟨_, rfl, box_ok rfl (by decide) rfl hp rfl (by omega)⟩, trivial⟩, awpl_end (E := plE) plE_ok hlD (pl_r10g (kd ((0 : Nat) + Int.toNat (↑i : Int))) (nn ((0 : Nat) + Int.toNat (↑i : Int))) q x kd ar nn len cap i N n0 s0 c0 b0 f0 d0 e0 g0 n1 s1 c1 b1 f1 d1 e1 g1 a2 hL a5 a6 a7 hR0 K0 hD)⟩
  exact ⟨rhoL [0, 1, 2, 3, 4, 5], plSt ⟨x, kd, ar, nn, len, cap, N, i, ⟨true, n0, s0, c0, b0, f0, d0, e0, g0⟩, ⟨false, n1, s1, c1, b1, f1, d1, e1, g1⟩⟩, subStL _ rfl rfl rfl (Nat.le_of_ble_eq_true rfl) (by simp [plSt, plFr, SubFr, slotAt, ren, below, rhoL]) ⟨⟨_, rfl, x.ok⟩, ⟨_, rfl, act_ok (by decide) rfl⟩, ⟨_, rfl, skB_ok (la_sl rfl (by decide) rfl rfl (la_int rfl (la_nil (la_int rfl (la_int rfl la_end)))))⟩, ⟨_, rfl, skB_ok (la_int rfl (la_sl rfl (by decide) rfl rfl (la_nil (la_int rfl (la_int rfl la_end)))))⟩, ⟨_, rfl, byt_same⟩, ⟨_, rfl, byt_same⟩, trivial⟩, go⟩

theorem pl_w01 (x : FD) (kd ar nn : Nat → Int) (len cap i : Nat) (N : Int) (n0 s0 c0 b0 : Nat) (f0 : Nat → Int) (d0 e0 : Nat) (g0 : Nat → Int) (n1 s1 c1 b1 : Nat) (f1 : Nat → Int) (d1 e1 : Nat) (g1 : Nat → Int) (hinv : plInv ⟨x, kd, ar, nn, len, cap, N, i, ⟨false, n0, s0, c0, b0, f0, d0, e0, g0⟩, ⟨true, n1, s1, c1, b1, f1, d1, e1, g1⟩⟩) {Q : Ex × St → Prop} (hR : Q (.ret, ⟨[(4, .bool true)], [none, none]⟩)) (hX : Q (.exit 0, ⟨[], [none, none]⟩)) :
    AWp Try.prog plE plC (plSt ⟨x, kd, ar, nn, len, cap, N, i, ⟨false, n0, s0, c0, b0, f0, d0, e0, g0⟩, ⟨true, n1, s1, c1, b1, f1, d1, e1, g1⟩⟩) (Round plE plSt plInv (fun x => 100 - x.i) (fun _ => .asm false .fail) Q ⟨x, kd, ar, nn, len, cap, N, i, ⟨false, n0, s0, c0, b0, f0, d0, e0, g0⟩, ⟨true, n1, s1, c1, b1, f1, d1, e1, g1⟩⟩) := by
  have hinv0 := hinv
  obtain ⟨a1, a2, a3, a4, a5, a6, a7⟩ := hinv
  dsimp only at a1 a3 a4
  refine awp_chain ?_
  have ea := pl_a01 x kd ar nn len cap i N n0 s0 c0 b0 f0 d0 e0 g0 n1 s1 c1 b1 f1 d1 e1 g1
  have eb := pl_b01 x kd ar nn len cap i N n0 s0 c0 b0 f0 d0 e0 g0 n1 s1 c1 b1 f1 d1 e1 g1
  have hl2 : ∀ c ∈ (chainOf plC).take 2, ∀ c' ∈ loopsIn c, LoopOK Try.prog plE c' := noLoopsL_ok (by kernel_rfl)
  have hl1 : ∀ c ∈ (chainOf plD).take 3, ∀ c' ∈ loopsIn c, LoopOK Try.prog plE c' := noLoopsL_ok (by kernel_rfl)
  have hlD : ∀ c ∈ (chainOf plD).drop 3, ∀ c' ∈ loopsIn c, LoopOK Try.prog plE c' := noLoopsL_ok (by kernel_rfl)
  have hb := pl_blk
  generalize hC3 : (chainOf plC).drop 3 = C3 at hb
  generalize chainOf plC = C at ea hl2 hb ⊢
  refine awpl_cut (E := plE) plE_ok 2 hl2 (weak_keep [1, 5, 7, 9] (T.cut_eq ea ?_))
  have out : ∀ st, Weak plE (Then (Round plE plSt plInv (fun x => 100 - x.i) (fun _ => .asm false .fail) Q ⟨x, kd, ar, nn, len, cap, N, i, ⟨false, n0, s0, c0, b0, f0, d0, e0, g0⟩, ⟨true, n1, s1, c1, b1, f1, d1, e1, g1⟩⟩) fun st' => AWpL Try.prog plE (C.drop 2) st' (Round plE plSt plInv (fun x => 100 - x.i) (fun _ => .asm false .fail) Q ⟨x, kd, ar, nn, len, cap, N, i, ⟨false, n0, s0, c0, b0, f0, d0, e0, g0⟩, ⟨true, n1, s1, c1, b1, f1, d1, e1, g1⟩⟩)) (.exit 0, st) := fun st =>
    ⟨id, ⟨[], [none, none]⟩, SubSt.mk (by simp [SubFr]) (Sub.nothing (n := 2) _), ⟨id, ⟨[], [none, none]⟩, SubSt.mk (by simp [SubFr]) (Sub.nothing (n := 2) _), hX⟩⟩
  refine T.hiteP (fun gi1 => T.hiteP (fun gi2 => T.hret ?_) (fun _ => T.hret (out _))) (fun _ => T.hret (out _))
  rw [hb]
  have go : AWpL Try.prog plE (.block 1 plD :: C3) (plSt ⟨x, kd, ar, nn, len, cap, N, i, ⟨false, n0, s0, c0, b0, f0, d0, e0, g0⟩, ⟨true, n1, s1, c1, b1, f1, d1, e1, g1⟩⟩) (Round plE plSt plInv (fun x => 100 - x.i) (fun _ => .asm false .fail) Q ⟨x, kd, ar, nn, len, cap, N, i, ⟨false, n0, s0, c0, b0, f0, d0, e0, g0⟩, ⟨true, n1, s1, c1, b1, f1, d1, e1, g1⟩⟩) := by
    refine awpl_block ?_
    generalize hD : (chainOf plD).drop 3 = D at hlD
    have hD := hD.symm
    generalize hDD : chainOf plD = DD at eb hl1 ⊢
    have hD1 : DD.drop 3 = D := by rw [← hDD, hD]
    refine awpl_cut (E := plE) plE_ok 3 hl1 (weak_keep [1, 4, 5, 7, 9, 10] (T.cut_eq eb ?_))
    rw [hD1]
    generalize hQ : (fun r : Ex × St => match r.1 with
      | .norm => AWpL Try.prog plE C3 r.2 (Round plE plSt plInv (fun x => 100 - x.i) (fun _ => .asm false .fail) Q ⟨x, kd, ar, nn, len, cap, N, i, ⟨false, n0, s0, c0, b0, f0, d0, e0, g0⟩, ⟨true, n1, s1, c1, b1, f1, d1, e1, g1⟩⟩)
      | .exit id' => if id' = 1 then AWpL Try.prog plE C3 r.2 (Round plE plSt plInv (fun x => 100 - x.i) (fun _ => .asm false .fail) Q ⟨x, kd, ar, nn, len, cap, N, i, ⟨false, n0, s0, c0, b0, f0, d0, e0, g0⟩, ⟨true, n1, s1, c1, b1, f1, d1, e1, g1⟩⟩) else Round plE plSt plInv (fun x => 100 - x.i) (fun _ => .asm false .fail) Q ⟨x, kd, ar, nn, len, cap, N, i, ⟨false, n0, s0, c0, b0, f0, d0, e0, g0⟩, ⟨true, n1, s1, c1, b1, f1, d1, e1, g1⟩⟩ (.exit id', r.2)
      | .ret => Round plE plSt plInv (fun x => 100 - x.i) (fun _ => .asm false .fail) Q ⟨x, kd, ar, nn, len, cap, N, i, ⟨false, n0, s0, c0, b0, f0, d0, e0, g0⟩, ⟨true, n1, s1, c1, b1, f1, d1, e1, g1⟩⟩ (.ret, r.2)
      | .goto l => Round plE plSt plInv (fun x => 100 - x.i) (fun _ => .asm false .fail) Q ⟨x, kd, ar, nn, len, cap, N, i, ⟨false, n0, s0, c0, b0, f0, d0, e0, g0⟩, ⟨true, n1, s1, c1, b1, f1, d1, e1, g1⟩⟩ (.goto l, r.2)) = Q0
    have hR0 : Q0 (.ret, ⟨[(4, .bool true)], [none, none]⟩) := by
      rw [← hQ]
      exact ⟨id, ⟨[(4, .bool true)], [none, none]⟩, SubSt.mk (by simp [SubFr, slotAt, ren, below]) (Sub.nothing (n := 2) _), hR⟩
    have K0 : ∀ a e, PR.ok N a → PR.ok N e → Q0 (.norm, plSt ⟨x, kd, ar, nn, len, cap, N, i, a, e⟩) := by
      intro a e ha he
      rw [← hQ]
      exact pl_inc ⟨x, kd, ar, nn, len, cap, N, i, a, e⟩ (by dsimp only; omega) (by dsimp only; omega) ⟨a1, a2, a3, a4, a5, ha, he⟩ _ rfl hC3.symm
    have ei : (0 : Nat) + Int.toNat (↑i : Int) = i := by omega
    have hp : ar ((0 : Nat) + Int.toNat (↑i : Int)) = 0 ∨ ar ((0 : Nat) + Int.toNat (↑i : Int)) = 1 ∨ (∃ q : Nat, ar ((0 : Nat) + Int.toNat (↑i : Int)) = Int.negSucc q) ∨ ∃ q : Nat, ar ((0 : Nat) + Int.toNat (↑i : Int)) = ((q + 2 : Nat) : Int) := area_cases _
    refine T.hchk (by simp only [Bool.and_eq_true, decide_eq_true_eq]; omega) (T.hchk (decide_eq_true (by omega)) (T.hchk (decide_eq_true (by omega)) (T.hchk (decide_eq_true (by omega)) (T.hchk (decide_eq_true (by omega)) (T.hite (fun gn => T.hchkT (T.hret ?_)) (fun gn => T.hiteP (fun gl => T.hret (by exact ⟨id, ⟨[(4, .bool true)], [none, none]⟩, SubSt.mk (by simp [SubFr, slotAt, ren, below]) (Sub.nothing (n := 2) _), hR0⟩)) (fun gl => T.hret ?_)))))))
    all_goals
      have hL : x.ln [i] ≤ 4096 := by
        rw [ei] at gn
        first | (have hz : x.ln [i] = 0 := (a2.nil _ gn).1; omega) | (rw [ei] at gl; exact Nat.le_of_not_lt (fun h => gl (by exact Int.ofNat_lt.2 h)))
      rcases hp with hp | hp | ⟨q, hp⟩ | ⟨q, hp⟩
      · exact ⟨rhoL [0, 1, 2, 3, 4, 5, 6], ⟨(10, .ptr 6 0 0 0) :: plFr len cap i, actM x kd ar nn cap ++ plM N ⟨false, n0, s0, c0, b0, f0, d0, e0, g0⟩ ⟨true, n1, s1, c1, b1, f1, d1, e1, g1⟩ ++ [some (boxB (kd ((0 : Nat) + Int.toNat (↑i : Int))) 0 (nn ((0 : Nat) + Int.toNat (↑i : Int))) i)]⟩, subStL _ rfl rfl rfl (Nat.le_of_ble_eq_true rfl) (by simp [plFr, SubFr, slotAt, ren, below, rhoL]) ⟨⟨_, rfl, x.ok⟩, ⟨_, rfl, act_ok (by decide) rfl⟩, ⟨_, rfl, skB_ok (la_nil (la_int rfl (la_sl rfl (by decide) rfl rfl (la_int rfl (la_int rfl la_end)))))⟩, ⟨_, rfl, skB_ok (la_int rfl (la_nil (la_sl rfl (by decide) rfl rfl (la_int rfl (la_int rfl la_end)))))⟩, ⟨_, rfl, byt_same⟩, ⟨_, rfl, byt_same⟩, ⟨_, rfl, box_ok rfl (by decide) rfl hp rfl (by omega)⟩, trivial⟩, awpl_end (E := plE) plE_ok hlD (pl_r010 (kd ((0 : Nat) + Int.toNat (↑i : Int))) (nn ((0 : Nat) + Int.toNat (↑i : Int))) x kd ar nn len cap i N n0 s0 c0 b0 f0 d0 e0 g0 n1 s1 c1 b1 f1 d1 e1 g1 a2 hL a5 a6 a7 hR0 K0 hD)⟩
      · exact ⟨rhoL [0, 1, 2, 3, 4, 5, 6], ⟨(10, .ptr 6 0 0 0) :: plFr len cap i, actM x kd ar nn cap ++ plM N ⟨false, n0, s0, c0, b0, f0, d0, e0, g0⟩ ⟨true, n1, s1, c1, b1, f1, d1, e1, g1⟩ ++ [some (boxB (kd ((0 : Nat) + Int.toNat (↑i : Int))) 1 (nn ((0 : Nat) + Int.toNat (↑i : Int))) i)]⟩, subStL _ rfl rfl rfl (Nat.le_of_ble_eq_true rfl) (by simp [plFr, SubFr, slotAt, ren, below, rhoL]) ⟨⟨_, rfl, x.ok⟩, ⟨_, rfl, act_ok (by decide) rfl⟩, ⟨_, rfl, skB_ok (la_nil (la_int rfl (la_sl rfl (by decide) rfl rfl (la_int rfl (la_int rfl la_end)))))⟩, ⟨_, rfl, skB_ok (la_int rfl (la_nil (la_sl rfl (by decide) rfl rfl (la_int rfl (la_int rfl la_end)))))⟩, ⟨_, rfl, byt_same⟩, ⟨_, rfl, byt_same⟩, ⟨_, rfl, box_ok rfl (by decide) rfl hp rfl (by omega)⟩, trivial⟩, awpl_end (E := plE) plE_ok hlD (pl_r011 (kd ((0 : Nat) + Int.toNat (↑i : Int))) (nn ((0 : Nat) + Int.toNat (↑i : Int))) x kd ar nn len cap i N n0 s0 c0 b0 f0 d0 e0 g0 n1 s1 c1 b1 f1 d1 e1 g1 a2 hL a5 a6 a7 hR0 K0 hD)⟩
      · exact ⟨rhoL [0, 1, 2, 3, 4, 5, 6], ⟨(10, .ptr 6 0 0 0) :: plFr len cap i, actM x kd ar nn cap ++ plM N ⟨false, n0, s0, c0, b0, f0, d0, e0, g0⟩ ⟨true, n1, s1, c1, b1, f1, d1, e1, g1⟩ ++ [some (boxB (kd ((0 : Nat) + Int.toNat (↑i : Int))) (Int.negSucc q) (nn ((0 : Nat) + Int.toNat (↑i : Int))) i)]⟩, subStL _ rfl rfl rfl (Nat.le_of_ble_eq_true rfl) (by simp [plFr, SubFr, slotAt, ren, below, rhoL]) ⟨⟨_, rfl, x.ok⟩, ⟨_, rfl, act_ok (by decide) rfl⟩, ⟨_, rfl, skB_ok (la_nil (la_int rfl (la_sl rfl (by decide) rfl rfl (la_int rfl (la_int rfl la_end)))))⟩, ⟨_, rfl, skB_ok (la_int rfl (la_nil (la_sl rfl (by decide) rfl rfl (la_int rfl (la_int rfl la_end)))))⟩, ⟨_, rfl, byt_same⟩, ⟨_, rfl, byt_same⟩, ⟨_, rfl, box_ok rfl (by decide) rfl hp rfl (by omega)⟩, trivial⟩, awpl_end (E := plE) plE_ok hlD (pl_r01n (kd ((0 : Nat) + Int.toNat (↑i : Int))) (nn ((0 : Nat) + Int.toNat (↑i : Int))) q x kd ar nn len cap i N n0 s0 c0 b0 f0 d0 e0 g0 n1 s1 c1 b1 f1 d1 e1 g1 a2 hL a5 a6 a7 hR0 K0 hD)⟩
      · exact ⟨rhoL [0, 1, 2, 3, 4, 5, 6], ⟨(10, .ptr 6 0 0 0) :: plFr len cap i, actM x kd ar nn cap ++ plM N ⟨false, n0, s0, c0, b0, f0, d0, e0, g0⟩ ⟨true, n1, s1, c1, b1, f1, d1, e1, g1⟩ ++ [some (boxB (kd ((0 : Nat) + Int.toNat (↑i : Int))) ((q + 2 : Nat) : Int) (nn ((0 : Nat) + Int.toNat (↑i : Int))) i)]⟩, subStL _ rfl rfl rfl (Nat.le_of_ble_eq_true rfl) (by simp [plFr, SubFr, slotAt, ren, below, rhoL]) ⟨⟨_, rfl, x.ok⟩, ⟨_, rfl, act_ok (by decide) rfl⟩, ⟨_, rfl, skB_ok (la_nil (la_int rfl (la_sl rfl (by decide) rfl rfl (la_int rfl (la_int rfl la_end)))))⟩, ⟨_, rfl, skB_ok (la_int rfl (la_nil (la_sl rfl (by decide) rfl rfl (la_int rfl (la_int rfl la_end)))))⟩, ⟨_, rfl, byt_same⟩, ⟨_, rfl, byt_same⟩, ⟨_, rfl, box_ok rfl (by decide) rfl hp rfl (by omega)⟩, trivial⟩, awpl_end (E := plE) plE_ok hlD (pl_r01g (kd ((0 : Nat) + Int.toNat (↑i : Int))) (nn ((0 : Nat) + Int.toNat (↑i : Int))) q x kd ar nn len cap i N n0 s0 c0 b0 f0 d0 e0 g0 n1 s1 c1 b1 f1 d1 e1 g1 a2 hL a5 a6 a7 hR0 K0 hD)⟩
  exact ⟨rhoL [0, 1, 2, 3, 4, 5], plSt ⟨x, kd, ar, nn, len, cap, N, i, ⟨false, n0, s0, c0, b0, f0, d0, e0, g0⟩, ⟨true, n1, s1, c1, b1, f1, d1, e1, g1⟩⟩, subStL _ rfl rfl rfl (Nat.le_of_ble_eq_true rfl) (by simp [plSt, plFr, SubFr, slotAt, ren, below, rhoL]) ⟨⟨_, rfl, x.ok⟩, ⟨_, rfl, act_ok (by decide) rfl⟩, ⟨_, rfl, skB_ok (la_nil (la_int rfl (la_sl rfl (by decide) rfl rfl (la_int rfl (la_int rfl la_end)))))⟩, ⟨_, rfl, skB_ok (la_int rfl (la_nil (la_sl rfl (by decide) rfl rfl (la_int rfl (la_int rfl la_end)))))⟩, ⟨_, rfl, byt_same⟩, ⟨_, rfl, byt_same⟩, trivial⟩, go⟩

theorem pl_w11 (x : FD) (kd ar nn : Nat → Int) (len cap i : Nat) (N : Int) (n0 s0 c0 b0 : Nat) (f0 : Nat → Int) (d0 e0 : Nat) (g0 : Nat → Int) (n1 s1 c1 b1 : Nat) (f1 : Nat → Int) (d1 e1 : Nat) (g1 : Nat → Int) (hinv : plInv ⟨x, kd, ar, nn, len, cap, N, i, ⟨true, n0, s0, c0, b0, f0, d0, e0, g0⟩, ⟨true, n1, s1, c1, b1, f1, d1, e1, g1⟩⟩) {Q : Ex × St → Prop} (hR : Q (.ret, ⟨[(4, .bool true)], [none, none]⟩)) (hX : Q (.exit 0, ⟨[], [none, none]⟩)) :
    AWp Try.prog plE plC (plSt ⟨x, kd, ar, nn, len, cap, N, i, ⟨true, n0, s0, c0, b0, f0, d0, e0, g0⟩, ⟨true, n1, s1, c1, b1, f1, d1, e1, g1⟩⟩) (Round plE plSt plInv (fun x => 100 - x.i) (fun _ => .asm false .fail) Q ⟨x, kd, ar, nn, len, cap, N, i, ⟨true, n0, s0, c0, b0, f0, d0, e0, g0⟩, ⟨true, n1, s1, c1, b1, f1, d1, e1, g1⟩⟩) := by
  have hinv0 := hinv
  obtain ⟨a1, a2, a3, a4, a5, a6, a7⟩ := hinv
  dsimp only at a1 a3 a4
  refine awp_chain ?_
  have ea := pl_a11 x kd ar nn len cap i N n0 s0 c0 b0 f0 d0 e0 g0 n1 s1 c1 b1 f1 d1 e1 g1
  have eb := pl_b11 x kd ar nn len cap i N n0 s0 c0 b0 f0 d0 e0 g0 n1 s1 c1 b1 f1 d1 e1 g1
  have hl2 : ∀ c ∈ (chainOf plC).take 2, ∀ c' ∈ loopsIn c, LoopOK Try.prog plE c' := noLoopsL_ok (by kernel_rfl)
  have hl1 : ∀ c ∈ (chainOf plD).take 3, ∀ c' ∈ loopsIn c, LoopOK Try.prog plE c' := noLoopsL_ok (by kernel_rfl)
  have hlD : ∀ c ∈ (chainOf plD).drop 3, ∀ c' ∈ loopsIn c, LoopOK Try.prog plE c' := noLoopsL_ok (by kernel_rfl)
  have hb := pl_blk
  generalize hC3 : (chainOf plC).drop 3 = C3 at hb
  generalize chainOf plC = C at ea hl2 hb ⊢
  refine awpl_cut (E := plE) plE_ok 2 hl2 (weak_keep [1, 5, 7, 9] (T.cut_eq ea ?_))
  have out : ∀ st, Weak plE (Then (Round plE plSt plInv (fun x => 100 - x.i) (fun _ => .asm false .fail) Q ⟨x, kd, ar, nn, len, cap, N, i, ⟨true, n0, s0, c0, b0, f0, d0, e0, g0⟩, ⟨true, n1, s1, c1, b1, f1, d1, e1, g1⟩⟩) fun st' => AWpL Try.prog plE (C.drop 2) st' (Round plE plSt plInv (fun x => 100 - x.i) (fun _ => .asm false .fail) Q ⟨x, kd, ar, nn, len, cap, N, i, ⟨true, n0, s0, c0, b0, f0, d0, e0, g0⟩, ⟨true, n1, s1, c1, b1, f1, d1, e1, g1⟩⟩)) (.exit 0, st) := fun st =>
    ⟨id, ⟨[], [none, none]⟩, SubSt.mk (by simp [SubFr]) (Sub.nothing (n := 2) _), ⟨id, ⟨[], [none, none]⟩, SubSt.mk (by simp [SubFr]) (Sub.nothing (n := 2) _), hX⟩⟩
  refine T.hiteP (fun gi1 => T.hiteP (fun gi2 => T.hret ?_) (fun _ => T.hret (out _))) (fun _ => T.hret (out _))
  rw [hb]
  have go : AWpL Try.prog plE (.block 1 plD :: C3) (plSt ⟨x, kd, ar, nn, len, cap, N, i, ⟨true, n0, s0, c0, b0, f0, d0, e0, g0⟩, ⟨true, n1, s1, c1, b1, f1, d1, e1, g1⟩⟩) (Round plE plSt plInv (fun x => 100 - x.i) (fun _ => .asm false .fail) Q ⟨x, kd, ar, nn, len, cap, N, i, ⟨true, n0, s0, c0, b0, f0, d0, e0, g0⟩, ⟨true, n1, s1, c1, b1, f1, d1, e1, g1⟩⟩) := by
    refine awpl_block ?_
    generalize hD : (chainOf plD).drop 3 = D at hlD
    have hD := hD.symm
    generalize hDD : chainOf plD = DD at eb hl1 ⊢
    have hD1 : DD.drop 3 = D := by rw [← hDD, hD]
    refine awpl_cut (E := plE) plE_ok 3 hl1 (weak_keep [1, 4, 5, 7, 9, 10] (T.cut_eq eb ?_))
    rw [hD1]
    generalize hQ : (fun r : Ex × St => match r.1 with
      | .norm => AWpL Try.prog plE C3 r.2 (Round plE plSt plInv (fun x => 100 - x.i) (fun _ => .asm false .fail) Q ⟨x, kd, ar, nn, len, cap, N, i, ⟨true, n0, s0, c0, b0, f0, d0, e0, g0⟩, ⟨true, n1, s1, c1, b1, f1, d1, e1, g1⟩⟩)
      | .exit id' => if id' = 1 then AWpL Try.prog plE C3 r.2 (Round plE plSt plInv (fun x => 100 - x.i) (fun _ => .asm false .fail) Q ⟨x, kd, ar, nn, len, cap, N, i, ⟨true, n0, s0, c0, b0, f0, d0, e0, g0⟩, ⟨true, n1, s1, c1, b1, f1, d1, e1, g1⟩⟩) else Round plE plSt plInv (fun x => 100 - x.i) (fun _ => .asm false .fail) Q ⟨x, kd, ar, nn, len, cap, N, i, ⟨true, n0, s0, c0, b0, f0, d0, e0, g0⟩, ⟨true, n1, s1, c1, b1, f1, d1, e1, g1⟩⟩ (.exit id', r.2)
      | .ret => Round plE plSt plInv (fun x => 100 - x.i) (fun _ => .asm false .fail) Q ⟨x, kd, ar, nn, len, cap, N, i, ⟨true, n0, s0, c0, b0, f0, d0, e0, g0⟩, ⟨true, n1, s1, c1, b1, f1, d1, e1, g1⟩⟩ (.ret, r.2)
      | .goto l => Round plE plSt plInv (fun x => 100 - x.i) (fun _ => .asm false .fail) Q ⟨x, kd, ar, nn, len, cap, N, i, ⟨true, n0, s0, c0, b0, f0, d0, e0, g0⟩, ⟨true, n1, s1, c1, b1, f1, d1, e1, g1⟩⟩ (.goto l, r.2)) = Q0
    have hR0 : Q0 (.ret, ⟨[(4, .bool true)], [none, none]⟩) := by
      rw [← hQ]
      exact ⟨id, ⟨[(4, .bool true)], [none, none]⟩, SubSt.mk (by simp [SubFr, slotAt, ren, below]) (Sub.nothing (n := 2) _), hR⟩
    have K0 : ∀ a e, PR.ok N a → PR.ok N e → Q0 (.norm, plSt ⟨x, kd, ar, nn, len, cap, N, i, a, e⟩) := by
      intro a e ha he
      rw [← hQ]
      exact pl_inc ⟨x, kd, ar, nn, len, cap, N, i, a, e⟩ (by dsimp only; omega) (by dsimp only; omega) ⟨a1, a2, a3, a4, a5, ha, he⟩ _ rfl hC3.symm
    have ei : (0 : Nat) + Int.toNat (↑i : Int) = i := by omega
    have hp : ar ((0 : Nat) + Int.toNat (↑i : Int)) = 0 ∨ ar ((0 : Nat) + Int.toNat (↑i : Int)) = 1 ∨ (∃ q : Nat, ar ((0 : Nat) + Int.toNat (↑i : Int)) = Int.negSucc q) ∨ ∃ q : Nat, ar ((0 : Nat) + Int.toNat (↑i : Int)) = ((q + 2 : Nat) : Int) := area_cases _
    refine T.hchk (by simp only [Bool.and_eq_true, decide_eq_true_eq]; omega) (T.hchk (decide_eq_true (by omega)) (T.hchk (decide_eq_true (by omega)) (T.hchk (decide_eq_true (by omega)) (T.hchk (decide_eq_true (by omega)) (T.hite (fun gn => T.hchkT (T.hret ?_)) (fun gn => T.hiteP (fun gl => T.hret (by exact ⟨id, ⟨[(4, .bool true)], [none, none]⟩, SubSt.mk (by simp [SubFr, slotAt, ren, below]) (Sub.nothing (n := 2) _), hR0⟩)) (fun gl => T.hret ?_)))))))
    all_goals
      have hL : x.ln [i] ≤ 4096 := by
        rw [ei] at gn
        first | (have hz : x.ln [i] = 0 := (a2.nil _ gn).1; omega) | (rw [ei] at gl; exact Nat.le_of_not_lt (fun h => gl (by exact Int.ofNat_lt.2 h)))
      rcases hp with hp | hp | ⟨q, hp⟩ | ⟨q, hp⟩
      · exact ⟨rhoL [0, 1, 2, 3, 4, 5, 6, 7, 8], ⟨(10, .ptr 8 0 0 0) :: plFr len cap i, actM x kd ar nn cap ++ plM N ⟨true, n0, s0, c0, b0, f0, d0, e0, g0⟩ ⟨true, n1, s1, c1, b1, f1, d1, e1, g1⟩ ++ [some (boxB (kd ((0 : Nat) + Int.toNat (↑i : Int))) 0 (nn ((0 : Nat) + Int.toNat (↑i : Int))) i)]⟩, subStL _ rfl rfl rfl (Nat.le_of_ble_eq_true rfl) (by simp [plFr, SubFr, slotAt, ren, below, rhoL]) ⟨⟨_, rfl, x.ok⟩, ⟨_, rfl, act_ok (by decide) rfl⟩, ⟨_, rfl, skB_ok (la_sl rfl (by decide) rfl rfl (la_int rfl (la_sl rfl (by decide) rfl rfl (la_int rfl (la_int rfl la_end)))))⟩, ⟨_, rfl, skB_ok (la_int rfl (la_sl rfl (by decide) rfl rfl (la_sl rfl (by decide) rfl rfl (la_int rfl (la_int rfl la_end)))))⟩, ⟨_, rfl, byt_same⟩, ⟨_, rfl, byt_same⟩, ⟨_, rfl, byt_same⟩, ⟨_, rfl, byt_same⟩, ⟨_, rfl, box_ok rfl (by decide) rfl hp rfl (by omega)⟩, trivial⟩, awpl_end (E := plE) plE_ok hlD (pl_r110 (kd ((0 : Nat) + Int.toNat (↑i : Int))) (nn ((0 : Nat) + Int.toNat (↑i : Int))) x kd ar nn len cap i N n0 s0 c0 b0 f0 d0 e0 g0 n1 s1 c1 b1 f1 d1 e1 g1 a2 hL a5 a6 a7 hR0 K0 hD)⟩
      · exact ⟨rhoL [0, 1, 2, 3, 4, 5, 6, 7, 8], ⟨(10, .ptr 8 0 0 0) :: plFr len cap i, actM x kd ar nn cap ++ plM N ⟨true, n0, s0, c0, b0, f0, d0, e0, g0⟩ ⟨true, n1, s1, c1, b1, f1, d1, e1, g1⟩ ++ [some (boxB (kd ((0 : Nat) + Int.toNat (↑i : Int))) 1 (nn ((0 : Nat) + Int.toNat (↑i : Int))) i)]⟩, subStL _ rfl rfl rfl (Nat.le_of_ble_eq_true rfl) (by simp [plFr, SubFr, slotAt, ren, below, rhoL]) ⟨⟨_, rfl, x.ok⟩, ⟨_, rfl, act_ok (by decide) rfl⟩, ⟨_, rfl, skB_ok (la_sl rfl (by decide) rfl rfl (la_int rfl (la_sl rfl (by decide) rfl rfl (la_int rfl (la_int rfl la_end)))))⟩, ⟨_, rfl, skB_ok (la_int rfl (la_sl rfl (by decide) rfl rfl (la_sl rfl (by decide) rfl rfl (la_int rfl (la_int rfl la_end)))))⟩, ⟨_, rfl, byt_same⟩, ⟨_, rfl, byt_same⟩, ⟨_, rfl, byt_same⟩, ⟨_, rfl, byt_same⟩, ⟨_, rfl, box_ok rfl (by decide) rfl hp rfl (by omega)⟩, trivial⟩, awpl_end (E := plE) plE_ok hlD (pl_r111 (kd ((0 : Nat) + Int.toNat (↑i : Int))) (nn ((0 : Nat) + Int.toNat (↑i : Int))) x kd ar nn len cap i N n0 s0 c0 b0 f0 d0 e0 g0 n1 s1 c1 b1 f1 d1 e1 g1 a2 hL a5 a6 a7 hR0 K0 hD)⟩
      · exact ⟨rhoL [0, 1, 2, 3, 4, 5, 6, 7, 8], ⟨(10, .ptr 8 0 0 0) :: plFr len cap i, actM x kd ar nn cap ++ plM N ⟨true, n0, s0, c0, b0, f0, d0, e0, g0⟩ ⟨true, n1, s1, c1, b1, f1, d1, e1, g1⟩ ++ [some (boxB (kd ((0 : Nat) + Int.toNat (↑i : Int))) (Int.negSucc q) (nn ((0 : Nat) + Int.toNat (↑i : Int))) i)]⟩, subStL _ rfl rfl rfl (Nat.le_of_ble_eq_true rfl) (by simp [plFr, SubFr, slotAt, ren, below, rhoL]) ⟨⟨_, rfl, x.ok⟩, ⟨_, rfl, act_ok (by decide) rfl⟩, ⟨_, rfl, skB_ok (la_sl rfl (by decide) rfl rfl (la_int rfl (la_sl rfl (by decide) rfl rfl (la_int rfl (la_int rfl la_end)))))⟩, ⟨_, rfl, skB_ok (la_int rfl (la_sl rfl (by decide) rfl rfl (la_sl rfl (by decide) rfl rfl (la_int rfl (la_int rfl la_end)))))⟩, ⟨_, rfl, byt_same⟩, ⟨_, rfl, byt_same⟩, ⟨_, rfl, byt_same⟩, ⟨_, rfl, byt_same⟩, ⟨_, rfl, box_ok rfl (by decide) rfl hp rfl (by omega)⟩, trivial⟩, awpl_end (E := plE) plE_ok hlD (pl_r11n (kd ((0 : Nat) + Int.toNat (↑i : Int))) (nn ((0 : Nat) + Int.toNat (↑i : Int))) q x kd ar nn len cap i N n0 s0 c0 b0 f0 d0 e0 g0 n1 s1 c1 b1 f1 d1 e1 g1 a2 hL a5 a6 a7 hR0 K0 hD)⟩
      · exact ⟨rhoL [0, 1, 2, 3, 4, 5, 6, 7, 8], ⟨(10, .ptr 8 0 0 0) :: plFr len cap i, actM x kd ar nn cap ++ plM N ⟨true, n0, s0, c0, b0, f0, d0, e0, g0⟩ ⟨true, n1, s1, c1, b1, f1, d1, e1, g1⟩ ++ [some (boxB (kd ((0 : Nat) + Int.toNat (↑i : Int))) ((q + 2 : Nat) : Int) (nn ((0 : Nat) + Int.toNat (↑i : Int))) i)]⟩, subStL _ rfl rfl rfl (Nat.le_of_ble_eq_true rfl) (by simp [plFr, SubFr, slotAt, ren, below, rhoL]) ⟨⟨_, rfl, x.ok⟩, ⟨_, rfl, act_ok (by decide) rfl⟩, ⟨_, rfl, skB_ok (la_sl rfl (by decide) rfl rfl (la_int rfl (la_sl rfl (by decide) rfl rfl (la_int rfl (la_int rfl la_end)))))⟩, ⟨_, rfl, skB_ok (la_int rfl (la_sl rfl (by decide) rfl rfl (la_sl rfl (by decide) rfl rfl (la_int rfl (la_int rfl la_end)))))⟩, ⟨_, rfl, byt_same⟩, ⟨_, rfl, byt_same⟩, ⟨_, rfl, byt_same⟩, ⟨_, rfl, byt_same⟩, ⟨_, rfl, box_ok rfl (by decide) rfl hp rfl (by omega)⟩, trivial⟩, awpl_end (E := plE) plE_ok hlD (pl_r11g (kd ((0 : Nat) + Int.toNat (↑i : Int))) (nn ((0 : Nat) + Int.toNat (↑i : Int))) q x kd ar nn len cap i N n0 s0 c0 b0 f0 d0 e0 g0 n1 s1 c1 b1 f1 d1 e1 g1 a2 hL a5 a6 a7 hR0 K0 hD)⟩
  exact ⟨rhoL [0, 1, 2, 3, 4, 5, 6, 7], plSt ⟨x, kd, ar, nn, len, cap, N, i, ⟨true, n0, s0, c0, b0, f0, d0, e0, g0⟩, ⟨true, n1, s1, c1, b1, f1, d1, e1, g1⟩⟩, subStL _ rfl rfl rfl (Nat.le_of_ble_eq_true rfl) (by simp [plSt, plFr, SubFr, slotAt, ren, below, rhoL]) ⟨⟨_, rfl, x.ok⟩, ⟨_, rfl, act_ok (by decide) rfl⟩, ⟨_, rfl, skB_ok (la_sl rfl (by decide) rfl rfl (la_int rfl (la_sl rfl (by decide) rfl rfl (la_int rfl (la_int rfl la_end)))))⟩, ⟨_, rfl, skB_ok (la_int rfl (la_sl rfl (by decide) rfl rfl (la_sl rfl (by decide) rfl rfl (la_int rfl (la_int rfl la_end)))))⟩, ⟨_, rfl, byt_same⟩, ⟨_, rfl, byt_same⟩, ⟨_, rfl, byt_same⟩, ⟨_, rfl, byt_same⟩, trivial⟩, go⟩

end Go.Proofs.Ytemgmcchepmicaa
