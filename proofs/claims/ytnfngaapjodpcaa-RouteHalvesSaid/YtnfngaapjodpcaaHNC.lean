/-
  Layer 20: Halves: the law.
-/
import Derived.Test.YtnfngaapjodpcaaHNB
namespace Go.Proofs.Ytnfngaapjodpcaa
open Go.Ox
set_option maxRecDepth 100000
set_option maxHeartbeats 4000000
set_option linter.unusedVariables false
set_option linter.unusedSimpArgs false

theorem hv_0 (G op key : Int) (args : List AV) (m : AM) (ha : args = [.agg [.int .i64 G, .nils], .nils, .int .i64 op, .int .i64 key]) (hm : m = []) : YesAt Try.prog 6 args m := by
  subst ha hm
  refine fn_okA (E := hvF0 0) (c := hvF) Try.func6 rfl rfl rfl (Nat.le_of_ble_eq_true (by kernel_rfl)) fun Q hq => ?_
  have hR : FnPost Try.prog Try.f6 0 Q (.ret, ⟨[(8, .bool true)], []⟩) := yes_post hv_res hq rfl rfl
  have e := hv_0n G op key
  have hl3 : ∀ x' ∈ (chainOf hvF).take 3, ∀ c' ∈ loopsIn x', LoopOK Try.prog (hvF0 0) c' := noLoopsL_ok (by kernel_rfl)
  generalize chainOf hvF = C at e hl3 ⊢
  refine awpl_cut (E := hvF0 0) (hvF0_ok 0) 3 hl3 (weak_keep [8] (T.cut_eq e (T.hall fun c => T.hasmP fun hc => T.hiteE (fun h => ?_) (fun h => T.hret ?_))))
  · exact absurd (by omega) hc
  · exact ⟨id, ⟨[(8, .bool true)], []⟩, SubSt.mk (by simp [SubFr, slotAt, ren, below]) (Sub.nothing (n := 0) _), hR⟩

theorem hv_0' (G op key : Int) (pr : Nat → Int) (np pc : Nat) (args : List AV) (m : AM) (ha : args = [.agg [.int .i64 G, .nils], .sl 0 0 1 0 np pc, .int .i64 op, .int .i64 key]) (hm : m = [some (inB pc pr)]) : YesAt Try.prog 6 args m := by
  subst ha hm
  refine fn_okA (E := hvF0 1) (c := hvF) Try.func6 rfl rfl rfl (Nat.le_of_ble_eq_true (by kernel_rfl)) fun Q hq => ?_
  have hR : FnPost Try.prog Try.f6 1 Q (.ret, ⟨[(8, .bool true)], [none]⟩) := yes_post hv_res hq rfl rfl
  have e := hv_0p G op key pr np pc
  have hl3 : ∀ x' ∈ (chainOf hvF).take 3, ∀ c' ∈ loopsIn x', LoopOK Try.prog (hvF0 1) c' := noLoopsL_ok (by kernel_rfl)
  generalize chainOf hvF = C at e hl3 ⊢
  refine awpl_cut (E := hvF0 1) (hvF0_ok 1) 3 hl3 (weak_keep [8] (T.cut_eq e (T.hall fun c => T.hasmP fun hc => T.hiteE (fun h => ?_) (fun h => T.hret ?_))))
  · exact absurd (by omega) hc
  · exact ⟨id, ⟨[(8, .bool true)], [none]⟩, SubSt.mk (by simp [SubFr, slotAt, ren, below]) (Sub.nothing (n := 1) _), hR⟩

theorem hv_1 (x : FD) (o : OC) (G op key : Int) (len cap : Nat) (hw : x.wf .i64) (hl : len ≤ cap) (args : List AV) (m : AM) (ha : args = [spA G len cap, .nils, .int .i64 op, .int .i64 key]) (hm : m = spM x o cap) : YesAt Try.prog 6 args m := by
  subst ha hm
  refine fn_okA (E := hvF1 x o G len cap) (c := hvF) Try.func6 rfl rfl rfl (Nat.le_of_ble_eq_true (by kernel_rfl)) fun Q hq => ?_
  have hR : FnPost Try.prog Try.f6 2 Q (.ret, ⟨[(8, .bool true)], [none, none]⟩) := yes_post hv_res hq rfl rfl
  have e := hv_1n x o G op key len cap
  have hl3 : ∀ x' ∈ (chainOf hvF).take 3, ∀ c' ∈ loopsIn x', LoopOK Try.prog (hvF1 x o G len cap) c' := noLoopsL_ok (by kernel_rfl)
  generalize chainOf hvF = C at e hl3 ⊢
  have ret : ∀ st, slotAt st.fr 8 = some (.bool true) → Weak (hvF1 x o G len cap) (Then (FnPost Try.prog Try.f6 2 Q) fun st' => AWpL Try.prog (hvF1 x o G len cap) (C.drop 3) st' (FnPost Try.prog Try.f6 2 Q)) (.ret, st) := fun st hs =>
    ⟨id, ⟨[(8, .bool true)], [none, none]⟩, SubSt.mk (by simp [SubFr, hs, ren, below]) (Sub.nothing (n := 2) _), hR⟩
  refine awpl_cut (E := hvF1 x o G len cap) (hvF1_ok x o G len cap hw hl) 3 hl3 (weak_keep [8] (T.cut_eq e (T.hneed ⟨rfl, rfl, rfl⟩ (T.hneed ⟨rfl, rfl⟩ (T.hall fun c => T.hasmP fun hc => T.hiteE (fun h => T.hiteN (fun _ => T.hret (ret _ rfl)) (fun h0 => ?_)) (fun h => T.hret (ret _ rfl)))))))
  rcases hc with hc | hc
  · exact absurd (by omega) hc
  · have := hc.2.1.1
    omega

theorem hvE1_nt (x : FD) (o : OC) (G : Int) (len cap : Nat) : (hvE1 x o G len cap).nt = Try.f6.ntmps := rfl

theorem hvE2_nt (x : FD) (o : OC) (G : Int) (len cap : Nat) : (hvE2 x o G len cap).nt = Try.f6.ntmps := rfl

theorem hvE1_n0 (x : FD) (o : OC) (G : Int) (len cap : Nat) : (hvE1 x o G len cap).n0 = 3 := rfl

theorem hvE2_n0 (x : FD) (o : OC) (G : Int) (len cap : Nat) : (hvE2 x o G len cap).n0 = 3 := rfl

theorem hv_tail2 (x : FD) (o : OC) (G op key : Int) (len cap : Nat) (hk0 : spOK x len cap) (hG : 1 ≤ G ∧ G ≤ 64) (pr : Nat → Int) (np pc c : Nat) (hp : np ≤ pc) (hc : np ≤ c) (hr : ∀ j, j < np → 1 ≤ pr j ∧ pr j ≤ 8 ∧ pr j ≤ G) (hU : tgU np (usG x len op) (usL x len op).length) {Q : AV × AM → Prop} (hR : FnPost Try.prog Try.f6 3 Q (.ret, ⟨[(8, .bool true)], [none, none, none]⟩)) {C : List Code} (hC : C = (chainOf hvF).drop 6) :
    AWpL Try.prog (hvE2 x o G len cap) C (hvSt x o G key op len cap pr np pc ⟨np, true, c⟩) (FnPost Try.prog Try.f6 3 Q) := by
  have hE := hvE2_ok x o G len cap hk0
  have e := hv_b x o G key op len cap pr np pc c
  have en := hv_n x o G len cap [none, none, none]
  have ez := hv_z x o G len cap [none, none, none]
  have k1 := hv_k1
  have hl5 : ∀ x' ∈ ((chainOf hvF).drop 6).take 5, ∀ c' ∈ loopsIn x', LoopOK Try.prog (hvE2 x o G len cap) c' := noLoopsL_ok (by kernel_rfl)
  have hl12 : ∀ x' ∈ (chainOf hvF).drop 12, ∀ c' ∈ loopsIn x', LoopOK Try.prog (hvE2 x o G len cap) c' := noLoopsL_ok (by kernel_rfl)
  have hln : ∀ c' ∈ loopsIn hvD, LoopOK Try.prog (hvE2 x o G len cap) c' := noLoops (by kernel_rfl)
  rw [← hC] at e k1 hl5
  clear hC
  generalize (chainOf hvF).drop 12 = D at ez k1 hl12
  generalize usG x len op = u at e hU ⊢
  generalize (usL x len op).length = un at e hU ⊢
  have Z : AWpL Try.prog (hvE2 x o G len cap) D ⟨[], [none, none, none]⟩ (FnPost Try.prog Try.f6 3 Q) :=
    awpl_end (E := hvE2 x o G len cap) hE hl12 (weak_keep [8] (T.cut_eq ez (T.hret ⟨id, ⟨[(8, .bool true)], [none, none, none]⟩, SubSt.mk (by simp [SubFr, slotAt, ren, below]) (Sub.nothing (n := 3) _), hR⟩)))
  have zs : ∀ st : St, SubSt 3 id st ⟨[], [none, none, none]⟩ := fun st => SubSt.mk (by simp [SubFr]) (Sub.nothing (n := 3) _)
  have R0 : AWpL Try.prog (hvE2 x o G len cap) (.block 2 (.loop hvD) :: D) ⟨[(12, .nils), (14, .int .i64 0)], [none, none, none]⟩ (FnPost Try.prog Try.f6 3 Q) := by
    refine awpl_block (awpl_one (loop_free (fun _ : Unit => ⟨[(12, .nils), (14, .int .i64 0)], [none, none, none]⟩) (fun _ => True) (fun _ => 0) (fun t ht => ?_) () trivial))
    refine code_sound hE _ hln _ _ (round_keep [] (T.cut_eq en (T.hchkT (T.hret (Round.any (.exit 2) ⟨[], [none, none, none]⟩ id (zs _) ?_)))))
    exact Z
  have R1 : ∀ d e', un ≤ d → un ≤ e' → AWpL Try.prog (hvE2 x o G len cap) (.block 2 (.loop hvD) :: D) (hvO x o G cap pr np pc c u (owAt G key pr u) un d (owAt G key (fun j => if j < np then hf G pr j else 0) u) e' 0) (FnPost Try.prog Try.f6 3 Q) := fun d e' hd he => by
    refine awpl_block (awpl_one (hv_lp2 x o G key len cap hk0 hG pr np pc c hp hc hr u un d e' hU hd he ?_))
    show AWpL Try.prog (hvE2 x o G len cap) D (hvO x o G cap pr np pc c u (owAt G key pr u) un d (owAt G key (fun j => if j < np then hf G pr j else 0) u) e' un) _
    exact AWpL.sub (E := hvE2 x o G len cap) (zs _) Z
  rw [← k1] at R0 R1
  refine awpl_cut (E := hvE2 x o G len cap) hE 5 hl5 (weak_keep [1, 8, 9, 12, 13, 14] (T.cut_eq e ?_))
  refine T.hneed ⟨rfl, rfl, rfl⟩ (T.hneed ⟨rfl, rfl⟩ (T.hneed ⟨IntRow.rows, rfl, hp, by decide, by decide⟩ (T.hneed hU (T.hiteP (fun h0 => ?_) (fun h0 => T.hall fun d => T.hasmP fun hd => ?_)))))
  · refine T.hneed ⟨rfl, rfl, rfl⟩ (T.hneed ⟨rfl, rfl⟩ (T.hneed ⟨IntRow.rows, rfl, hc, by decide, by decide⟩ (T.hneed hU (T.hiteP (fun h1 => T.hchkT (T.hret ?_)) (fun h1 => absurd h0 h1)))))
    exact ⟨id, ⟨[(12, .nils), (14, .int .i64 0)], [none, none, none]⟩, SubSt.mk (by simp [SubFr, slotAt, ren, below]) (Sub.nothing (n := 3) _), R0⟩
  · refine T.hneed ⟨rfl, rfl, rfl⟩ (T.hneed ⟨rfl, rfl⟩ (T.hneed ⟨IntRow.rows, rfl, hc, by decide, by decide⟩ (T.hneed hU (T.hiteP (fun h1 => absurd h1 h0) (fun h1 => T.hall fun e' => T.hasmP fun he => T.hiteN (fun h => absurd rfl h) (fun _ => T.hret ?_))))))
    exact ⟨rhoL [0, 1, 2, 4, 5, 6], hvO x o G cap pr np pc c u (owAt G key pr u) un d (owAt G key (fun j => if j < np then hf G pr j else 0) u) e' 0, subStL [0, 1, 2, 4, 5, 6] rfl rfl rfl (Nat.le_of_ble_eq_true rfl) (by simp [hvO, hvM, tgM, spM, SubFr, slotAt, ren, below, rhoL]) ⟨⟨_, rfl, x.ok⟩, ⟨_, rfl, ops_ok rfl (Nat.succ_pos _)⟩, ⟨_, rfl, in_ok⟩, ⟨_, rfl, ap_refl⟩, ⟨_, rfl, ap2_same⟩, ⟨_, rfl, ap2_same⟩, trivial⟩, R1 d e' hd he⟩

theorem hv_2 (x : FD) (o : OC) (G op key : Int) (len cap : Nat) (hw : x.wf .i64) (hl : len ≤ cap) (pr : Nat → Int) (np pc : Nat) (hp : np ≤ pc) (args : List AV) (m : AM) (ha : args = [spA G len cap, .sl 2 0 1 0 np pc, .int .i64 op, .int .i64 key]) (hm : m = tgM x o cap pr pc) : YesAt Try.prog 6 args m := by
  subst ha hm
  refine fn_okA (E := hvE1 x o G len cap) (c := hvF) Try.func6 rfl rfl rfl (Nat.le_of_ble_eq_true (by kernel_rfl)) fun Q hq => ?_
  have hR : FnPost Try.prog Try.f6 3 Q (.ret, ⟨[(8, .bool true)], [none, none, none]⟩) := yes_post hv_res hq rfl rfl
  have e := hv_a x o G key op len cap pr np pc
  have k0 := hv_k0
  have hl5 : ∀ x' ∈ (chainOf hvF).take 5, ∀ c' ∈ loopsIn x', LoopOK Try.prog (hvE1 x o G len cap) c' := noLoopsL_ok (by kernel_rfl)
  have tail := fun (c : Nat) (hk0 : spOK x len cap) (hG : 1 ≤ G ∧ G ≤ 64) (hc : np ≤ c) (hr : ∀ j, j < np → 1 ≤ pr j ∧ pr j ≤ 8 ∧ pr j ≤ G) (hU : tgU np (usG x len op) (usL x len op).length) => hv_tail2 x o G op key len cap hk0 hG pr np pc c hp hc hr hU hR rfl
  generalize (chainOf hvF).drop 6 = D at k0 tail
  generalize chainOf hvF = C at e k0 hl5 ⊢
  have ret : ∀ st, slotAt st.fr 8 = some (.bool true) → Weak (hvE1 x o G len cap) (Then (FnPost Try.prog Try.f6 3 Q) fun st' => AWpL Try.prog (hvE1 x o G len cap) (C.drop 5) st' (FnPost Try.prog Try.f6 3 Q)) (.ret, st) := fun st hs =>
    ⟨id, ⟨[(8, .bool true)], [none, none, none]⟩, SubSt.mk (by simp [SubFr, hs, ren, below]) (Sub.nothing (n := 3) _), hR⟩
  refine awpl_cut (E := hvE1 x o G len cap) (hvE1_ok x o G len cap hw hl) 5 hl5 (weak_keep [1, 2, 3, 4, 8, 9, 10] (T.cut_eq e ?_))
  refine T.hneed ⟨rfl, rfl, rfl⟩ (T.hneed ⟨rfl, rfl⟩ (T.hneed ⟨IntRow.rows, rfl, hp⟩ (T.hall fun c => T.hasmP fun hc => T.hiteFP (fun _ => T.hret (ret _ rfl)) (fun h0 => T.hret ?_))))
  have hg : rgP x o G op len pr np := hc.resolve_left (fun h => h h0)
  have h12 : len ≤ 12 := hg.1.2.1.2
  have h1 : 1 ≤ len := hg.1.2.1.1
  have hn : np = len := hg.2.1.1
  have hk0 : spOK x len cap := ⟨hw, hl, by omega, fun r hr => Nat.le_trans (hw.le [r]) (hw.max [r])⟩
  have hU : tgU np (usG x len op) (usL x len op).length := by rw [hn]; exact us_rng x len op h12
  refine ⟨id, hvSt x o G key op len cap pr np pc ⟨0, false, 0⟩, SubSt.mk (by simp [hvSt, tgM, spM, SubFr, slotAt, ren, below]) (Sub.of ⟨⟨_, rfl, x.ok⟩, ⟨_, rfl, ops_ok rfl (Nat.succ_pos _)⟩, ⟨_, rfl, in_ok⟩, ⟨_, rfl, box_ok rfl (by simp [hvSt, tgM, spM])⟩, trivial⟩ (fun _ _ _ _ h => h) (fun _ _ => rfl) (Nat.le_of_ble_eq_true rfl)), ?_⟩
  refine AWpL.env' (E := hvE1 x o G len cap) (E' := hvE2 x o G len cap) ((hvE2_nt x o G len cap).trans (hvE1_nt x o G len cap).symm) ((hvE2_n0 x o G len cap).trans (hvE1_n0 x o G len cap).symm) ?_
  show AWpL Try.prog (hvE2 x o G len cap) (C.drop 5) _ _
  rw [k0]
  refine awpl_block (awpl_one (hv_lp1 x o G key op len cap hk0 pr np pc hp (by omega) (by omega) hg.2.1.2 fun c hc => ?_))
  exact tail c hk0 hg.1.1 hc hg.2.1.2 hU

theorem hv_law : ∀ args m, ArgsAVn [PK.agg [CK.int IntKind.i64, CK.sl [CK.int IntKind.i64, CK.sl [CK.int IntKind.i64], CK.int IntKind.i64, CK.int IntKind.i64, CK.int IntKind.i64, CK.int IntKind.i64, CK.int IntKind.i64, CK.int IntKind.i64]], PK.one (CK.sl [CK.int IntKind.i64]), PK.one (CK.int IntKind.i64), PK.one (CK.int IntKind.i64)] [] args m → YesAt Try.prog 6 args m := by
  intro args m h
  obtain ⟨cs, _, m1, rfl, hc, h⟩ := argsN_agg h
  obtain ⟨G, _, rfl, _, hc1⟩ := cellsN_int hc
  rcases cellsN_sl hc1 with ⟨_, rfl, hd⟩ | ⟨len, cap, g, A, _, rfl, hA, hAl, h1, h2, h3, hd⟩
  · obtain ⟨rfl, rfl⟩ := cellsN_nil hd
    rcases argsN_sl h with ⟨_, rfl, k⟩ | ⟨np, pc, gp, A, _, rfl, hB, hBl, p1, p2, p3, k⟩
    · obtain ⟨op, _, rfl, _, k1⟩ := argsN_int k
      obtain ⟨key, _, rfl, _, k3⟩ := argsN_int k1
      obtain ⟨rfl, rfl⟩ := argsN_nil k3
      exact hv_0 G op key _ _ rfl rfl
    · obtain rfl := fams_nil (fams_int hB)
      obtain ⟨op, _, rfl, _, k1⟩ := argsN_int k
      obtain ⟨key, _, rfl, _, k3⟩ := argsN_int k1
      obtain ⟨rfl, rfl⟩ := argsN_nil k3
      exact hv_0' G op key (fun r => intV (gp r 0)) np pc _ _ rfl rfl
  · obtain ⟨rfl, rfl⟩ := cellsN_nil hd
    obtain ⟨x, A1, hx, hA2, rfl⟩ := fams_ints (fams_int hA)
    obtain rfl := fams_nil (fams_int (fams_int (fams_int (fams_int (fams_int (fams_int hA2))))))
    rcases argsN_sl h with ⟨_, rfl, k⟩ | ⟨np, pc, gp, A, _, rfl, hB, hBl, p1, p2, p3, k⟩
    · obtain ⟨op, _, rfl, _, k1⟩ := argsN_int k
      obtain ⟨key, _, rfl, _, k3⟩ := argsN_int k1
      obtain ⟨rfl, rfl⟩ := argsN_nil k3
      exact hv_1 x ⟨fun r => intV (g r 0), fun r => intV (g r 2), fun r => intV (g r 3), fun r => intV (g r 4), fun r => intV (g r 5), fun r => intV (g r 6), fun r => intV (g r 7)⟩ G op key len cap hx h1 _ _ rfl rfl
    · obtain rfl := fams_nil (fams_int hB)
      obtain ⟨op, _, rfl, _, k1⟩ := argsN_int k
      obtain ⟨key, _, rfl, _, k3⟩ := argsN_int k1
      obtain ⟨rfl, rfl⟩ := argsN_nil k3
      exact hv_2 x ⟨fun r => intV (g r 0), fun r => intV (g r 2), fun r => intV (g r 3), fun r => intV (g r 4), fun r => intV (g r 5), fun r => intV (g r 6), fun r => intV (g r 7)⟩ G op key len cap hx h1 (fun r => intV (gp r 0)) np pc p1 _ _ rfl rfl

end Go.Proofs.Ytnfngaapjodpcaa
