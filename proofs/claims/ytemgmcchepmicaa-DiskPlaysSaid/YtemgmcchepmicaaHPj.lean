/-
  Layer 15: Plays: the law.
-/
import Derived.Test.YtemgmcchepmicaaHPh
import Derived.Test.YtemgmcchepmicaaHPi
namespace Go.Proofs.Ytemgmcchepmicaa
open Go.Ox
set_option maxRecDepth 100000
set_option maxHeartbeats 16000000
set_option linter.unusedVariables false
set_option linter.unusedSimpArgs false

theorem pl_round (Q : Ex × St → Prop) (hR : Q (.ret, ⟨[(4, .bool true)], [none, none]⟩)) (hX : Q (.exit 0, ⟨[], [none, none]⟩)) (y : DP) (hy : plInv y) :
    AWp Try.prog plE plC (plSt y) (Round plE plSt plInv (fun x => 100 - x.i) (fun _ => .asm false .fail) Q y) := by
  obtain ⟨x, kd, ar, nn, len, cap, N, i, ⟨h0, n0, s0, c0, b0, f0, d0, e0, g0⟩, ⟨h1, n1, s1, c1, b1, f1, d1, e1, g1⟩⟩ := y
  cases h0 <;> cases h1
  · exact pl_w00 x kd ar nn len cap i N n0 s0 c0 b0 f0 d0 e0 g0 n1 s1 c1 b1 f1 d1 e1 g1 hy hR hX
  · exact pl_w01 x kd ar nn len cap i N n0 s0 c0 b0 f0 d0 e0 g0 n1 s1 c1 b1 f1 d1 e1 g1 hy hR hX
  · exact pl_w10 x kd ar nn len cap i N n0 s0 c0 b0 f0 d0 e0 g0 n1 s1 c1 b1 f1 d1 e1 g1 hy hR hX
  · exact pl_w11 x kd ar nn len cap i N n0 s0 c0 b0 f0 d0 e0 g0 n1 s1 c1 b1 f1 d1 e1 g1 hy hR hX

theorem pr_zero (N : Int) (h : 0 ≤ N) : PR.ok N ⟨false, 0, 0, 0, 0, fun _ => 0, 0, 0, fun _ => 0⟩ := ⟨fun _ => ⟨rfl, rfl⟩, Nat.le_refl _, h, ⟨Nat.le_refl _, Nat.le_refl _⟩, ⟨Nat.le_refl _, Nat.le_refl _⟩, fun _ _ => rfl⟩

theorem pl_yes (x : FD) (kd ar nn : Nat → Int) (len cap : Nat) (n : Int) (hl : len ≤ cap) (hw : x.wf .u8) (args : List AV) (m : AM) (ha : args = [.int .i64 n, .sl 1 0 4 0 len cap]) (hm : m = actM x kd ar nn cap) : YesAt Try.prog 3 args m := by
  subst ha hm
  refine fn_okA (E := plE) (c := codeOf Try.f3) Try.func3 rfl rfl rfl (Nat.le_of_ble_eq_true (by kernel_rfl)) fun Q hq => ?_
  have hR : FnPost Try.prog Try.f3 2 Q (.ret, ⟨[(4, .bool true)], [none, none]⟩) := yes_post pl_res hq rfl rfl
  have e := pl_0 x kd ar nn len cap n
  have e9 := pl_9
  have hb := pl_lblk
  have hl8 : ∀ c ∈ (chainOf (codeOf Try.f3)).take 8, ∀ c' ∈ loopsIn c, LoopOK Try.prog plE c' := noLoopsL_ok (by kernel_rfl)
  have hl9 : ∀ c ∈ (chainOf (codeOf Try.f3)).drop 9, ∀ c' ∈ loopsIn c, LoopOK Try.prog plE c' := noLoopsL_ok (by kernel_rfl)
  generalize (chainOf (codeOf Try.f3)).drop 9 = D at e9 hb hl9
  generalize chainOf (codeOf Try.f3) = C at e hb hl8 ⊢
  refine awpl_cut (E := plE) plE_ok 8 hl8 (weak_keep [1, 4, 5, 7, 9] (T.cut_eq e ?_))
  rw [hb]
  have ret : ∀ st v, slotAt st.fr 4 = some v → Ox.Alike v (.bool true) → Weak plE (Then (FnPost Try.prog Try.f3 2 Q) fun st' => AWpL Try.prog plE (.block 0 (.loop plC) :: D) st' (FnPost Try.prog Try.f3 2 Q)) (.ret, st) := fun st v hs hv =>
    ⟨id, ⟨[(4, .bool true)], [none, none]⟩, SubSt.mk (by simp [SubFr, hs, ren, below, hv]) (Sub.nothing (n := 2) _), hR⟩
  have fin : AWpL Try.prog plE D ⟨[], [none, none]⟩ (FnPost Try.prog Try.f3 2 Q) :=
    awpl_end (E := plE) plE_ok hl9 (weak_keep [4] (T.cut_eq e9 (T.hret ⟨id, ⟨[(4, .bool true)], [none, none]⟩, SubSt.mk (by simp [SubFr, slotAt, ren, below]) (Sub.nothing (n := 2) _), hR⟩)))
  have go : 64 ≤ n ∧ n ≤ 262144 → AWpL Try.prog plE (.block 0 (.loop plC) :: D) (plSt ⟨x, kd, ar, nn, len, cap, n, 0, ⟨false, 0, 0, 0, 0, fun _ => 0, 0, 0, fun _ => 0⟩, ⟨false, 0, 0, 0, 0, fun _ => 0, 0, 0, fun _ => 0⟩⟩) (FnPost Try.prog Try.f3 2 Q) := by
    intro hn
    refine awpl_block (awpl_one (loop_free plSt plInv (fun x => 100 - x.i) (fun y hy => pl_round _ ?_ ?_ y hy) _ ⟨hl, hw, Nat.zero_le _, Nat.zero_le _, hn, pr_zero n (by omega), pr_zero n (by omega)⟩))
    · exact hR
    · exact fin
  refine T.hiteP (fun h1 => ?_) (fun h1 => T.hiteP (fun h2 => ?_) (fun h2 => ?_))
  · refine T.hchk (decide_eq_true (by omega)) (T.hchkT (T.hchkT (T.hchkT (T.hchkT (T.hret (ret _ _ rfl (by simp)))))))
  · refine T.hchk (by simp only [Bool.not_eq_true', decide_eq_false_iff_not]; omega) (T.hchk (decide_eq_true (by omega)) (T.hchkT (T.hchkT (T.hchkT (T.hchkT (T.hret (ret _ _ rfl (by simp))))))))
  · refine T.hchk (by simp only [Bool.not_eq_true', decide_eq_false_iff_not]; omega) (T.hchk (by simp only [Bool.not_eq_true', decide_eq_false_iff_not]; omega) (T.hchkT (T.hchkT (T.hchkT (T.hret ?_)))))
    exact ⟨rhoL [0, 1, 2, 3], plSt ⟨x, kd, ar, nn, len, cap, n, 0, ⟨false, 0, 0, 0, 0, fun _ => 0, 0, 0, fun _ => 0⟩, ⟨false, 0, 0, 0, 0, fun _ => 0, 0, 0, fun _ => 0⟩⟩, subStL _ rfl rfl rfl (Nat.le_of_ble_eq_true rfl) (by simp [plSt, plFr, SubFr, slotAt, ren, below, rhoL]) ⟨⟨_, rfl, x.ok⟩, ⟨_, rfl, act_ok (by decide) rfl⟩, ⟨_, rfl, skB_ok (la_nil (la_int rfl (la_nil (la_int rfl (la_int rfl la_end)))))⟩, ⟨_, rfl, skB_ok (la_int rfl (la_nil (la_nil (la_int rfl (la_int rfl la_end)))))⟩, trivial⟩, go (by omega)⟩

theorem plY_ok : EnvOK Try.prog plY.fns := EnvOK.open_ (inl_ok plB_ok plL plL_ok)

theorem plZ_ok : EnvOK Try.prog plZ.fns := plY_ok

theorem plZ_nt : plZ.nt = Try.f3.ntmps := rfl

theorem plZ_n0 : plZ.n0 = List.length ([] : AM) := rfl

theorem plZ_loops : ∀ c' ∈ loopsIn (codeOf Try.f3), LoopOK Try.prog plZ c' := oneLoop (by kernel_rfl) (unroll_ok (E := plZ) plZ_ok plY rfl rfl rfl 1 (noLoops (by kernel_rfl)) (by kernel_rfl))

theorem pl_holdsN (n : Int) : Hold ((afn Try.prog plZ Try.f3 (codeOf Try.f3) [.int .i64 n, .nils] []).bind fun r => (.ret r.1 : T AV)) fun v => v.yes = true := by
  refine Hold.cut (pl_z n) ⟨?_⟩
  repeat' first | with_reducible refine T.hneed rfl ?_ | with_reducible refine T.hneed trivial ?_ | with_reducible refine T.hall (fun _ => ?_) | with_reducible refine T.half (fun _ => ?_) | with_reducible refine T.hasmP (fun _ => ?_) | with_reducible refine T.hasm (fun _ => ?_) | with_reducible refine T.hchkT ?_ | with_reducible refine T.hiteP (fun _ => ?_) (fun _ => ?_) | with_reducible refine T.hiteE (fun _ => ?_) (fun _ => ?_) | with_reducible refine T.hiteN (fun _ => ?_) (fun _ => ?_) | with_reducible refine T.hiteFP (fun _ => ?_) (fun _ => ?_) | with_reducible refine T.hiteFE (fun _ => ?_) (fun _ => ?_) | with_reducible refine T.hite (fun _ => ?_) (fun _ => ?_) | with_reducible refine T.hchk ?_ ?_ | with_reducible refine T.hneed ?_ ?_ | with_reducible refine T.hret ?_
  all_goals first
    | exact decide_eq_true (by omega)
    | (simp only [Bool.not_eq_true', decide_eq_false_iff_not]; omega)
    | exact (rfl : (AV.bool true).yes = true)
    | skip

theorem pl_yesN (n : Int) (args : List AV) (m : AM) (ha : args = [.int .i64 n, .nils]) (hm : m = []) : YesAt Try.prog 3 args m := by
  subst ha hm
  exact walks_yes Try.func3 rfl (Hold.walks plZ plZ_ok plZ_loops plZ_nt plZ_n0 (pl_holdsN n))

theorem pl_law : ∀ args m, ArgsAVn [PK.one (CK.int IntKind.i64), PK.one (CK.sl [CK.int IntKind.i64, CK.int IntKind.i64, CK.int IntKind.i64, CK.sl [CK.int IntKind.u8]])] [] args m → YesAt Try.prog 3 args m := by
  intro args m h
  obtain ⟨n, _, rfl, _, h⟩ := argsN_int h
  rcases argsN_sl h with ⟨_, rfl, hh⟩ | ⟨len, cap, g, A, _, rfl, hA, hl, h1, h2, h3, hh⟩
  · obtain ⟨rfl, rfl⟩ := argsN_nil hh
    exact pl_yesN n _ _ rfl rfl
  · obtain ⟨rfl, rfl⟩ := argsN_nil hh
    obtain ⟨x, A1, hx, hA2, rfl⟩ := fams_ints (fams_int (fams_int (fams_int hA)))
    obtain rfl := fams_nil hA2
    exact pl_yes x (fun r => intV (g r 0)) (fun r => intV (g r 1)) (fun r => intV (g r 2)) len cap n h1 hx _ _ rfl rfl

end Go.Proofs.Ytemgmcchepmicaa
