/-
  Layer 20: OneWay: the law.
-/
import Derived.Test.YtnfngaapjodpcaaHQA
namespace Go.Proofs.Ytnfngaapjodpcaa
open Go.Ox
set_option maxRecDepth 100000
set_option maxHeartbeats 4000000
set_option linter.unusedVariables false
set_option linter.unusedSimpArgs false

theorem wy_0 (G op key other : Int) (args : List AV) (m : AM) (ha : args = [.agg [.int .i64 G, .nils], .nils, .int .i64 op, .int .i64 key, .int .i64 other]) (hm : m = []) : YesAt Try.prog 4 args m := by
  subst ha hm
  refine fn_okA (E := wyF0 0) (c := wyF) Try.func4 rfl rfl rfl (Nat.le_of_ble_eq_true (by kernel_rfl)) fun Q hq => ?_
  have hR : FnPost Try.prog Try.f4 0 Q (.ret, ⟨[(10, .bool true)], []⟩) := yes_post wy_res hq rfl rfl
  have e := wy_0n G op key other
  have hl3 : ∀ x' ∈ (chainOf wyF).take 3, ∀ c' ∈ loopsIn x', LoopOK Try.prog (wyF0 0) c' := noLoopsL_ok (by kernel_rfl)
  generalize chainOf wyF = C at e hl3 ⊢
  refine awpl_cut (E := wyF0 0) (wyF0_ok 0) 3 hl3 (weak_keep [10] (T.cut_eq e (T.hall fun c => T.hasmP fun hc => T.hiteE (fun h => ?_) (fun h => T.hret ?_))))
  · exact absurd (by omega) hc
  · exact ⟨id, ⟨[(10, .bool true)], []⟩, SubSt.mk (by simp [SubFr, slotAt, ren, below]) (Sub.nothing (n := 0) _), hR⟩

theorem wy_0' (G op key other : Int) (pr : Nat → Int) (np pc : Nat) (args : List AV) (m : AM) (ha : args = [.agg [.int .i64 G, .nils], .sl 0 0 1 0 np pc, .int .i64 op, .int .i64 key, .int .i64 other]) (hm : m = [some (inB pc pr)]) : YesAt Try.prog 4 args m := by
  subst ha hm
  refine fn_okA (E := wyF0 1) (c := wyF) Try.func4 rfl rfl rfl (Nat.le_of_ble_eq_true (by kernel_rfl)) fun Q hq => ?_
  have hR : FnPost Try.prog Try.f4 1 Q (.ret, ⟨[(10, .bool true)], [none]⟩) := yes_post wy_res hq rfl rfl
  have e := wy_0p G op key other pr np pc
  have hl3 : ∀ x' ∈ (chainOf wyF).take 3, ∀ c' ∈ loopsIn x', LoopOK Try.prog (wyF0 1) c' := noLoopsL_ok (by kernel_rfl)
  generalize chainOf wyF = C at e hl3 ⊢
  refine awpl_cut (E := wyF0 1) (wyF0_ok 1) 3 hl3 (weak_keep [10] (T.cut_eq e (T.hall fun c => T.hasmP fun hc => T.hiteE (fun h => ?_) (fun h => T.hret ?_))))
  · exact absurd (by omega) hc
  · exact ⟨id, ⟨[(10, .bool true)], [none]⟩, SubSt.mk (by simp [SubFr, slotAt, ren, below]) (Sub.nothing (n := 1) _), hR⟩

theorem wy_1 (x : FD) (o : OC) (G op key other : Int) (len cap : Nat) (hw : x.wf .i64) (hl : len ≤ cap) (args : List AV) (m : AM) (ha : args = [spA G len cap, .nils, .int .i64 op, .int .i64 key, .int .i64 other]) (hm : m = spM x o cap) : YesAt Try.prog 4 args m := by
  subst ha hm
  refine fn_okA (E := wyF1 x o G len cap) (c := wyF) Try.func4 rfl rfl rfl (Nat.le_of_ble_eq_true (by kernel_rfl)) fun Q hq => ?_
  have hR : FnPost Try.prog Try.f4 2 Q (.ret, ⟨[(10, .bool true)], [none, none]⟩) := yes_post wy_res hq rfl rfl
  have e := wy_1n x o G op key other len cap
  have hl3 : ∀ x' ∈ (chainOf wyF).take 3, ∀ c' ∈ loopsIn x', LoopOK Try.prog (wyF1 x o G len cap) c' := noLoopsL_ok (by kernel_rfl)
  generalize chainOf wyF = C at e hl3 ⊢
  have ret : ∀ st, slotAt st.fr 10 = some (.bool true) → Weak (wyF1 x o G len cap) (Then (FnPost Try.prog Try.f4 2 Q) fun st' => AWpL Try.prog (wyF1 x o G len cap) (C.drop 3) st' (FnPost Try.prog Try.f4 2 Q)) (.ret, st) := fun st hs =>
    ⟨id, ⟨[(10, .bool true)], [none, none]⟩, SubSt.mk (by simp [SubFr, hs, ren, below]) (Sub.nothing (n := 2) _), hR⟩
  refine awpl_cut (E := wyF1 x o G len cap) (wyF1_ok x o G len cap hw hl) 3 hl3 (weak_keep [10] (T.cut_eq e (T.hneed ⟨rfl, rfl, rfl⟩ (T.hneed ⟨rfl, rfl⟩ (T.hall fun c => T.hasmP fun hc => T.hiteE (fun h => T.hiteN (fun _ => T.hret (ret _ rfl)) (fun h0 => ?_)) (fun h => T.hret (ret _ rfl)))))))
  rcases hc with hc | hc
  · exact absurd (by omega) hc
  · have := hc.2.1.1
    omega

theorem lo_le {i p g x : Int} (hp : 0 < p) : loG i p g ≤ x ↔ i * g ≤ x * p := by
  unfold loG
  rw [← Int.lt_add_one_iff, Int.ediv_lt_iff_lt_mul hp, Int.add_mul, Int.one_mul]
  omega

theorem own_iff {i p g x : Int} (hp : 0 < p) (hg : 0 < g) : (loG i p g ≤ x ∧ x < loG (i + 1) p g) ↔ x * p / g = i := by
  rw [← Int.not_le, lo_le hp, lo_le hp, Int.not_le]
  constructor
  · rintro ⟨h1, h2⟩
    exact Int.le_antisymm (Int.lt_add_one_iff.1 ((Int.ediv_lt_iff_lt_mul hg).2 h2)) ((Int.le_ediv_iff_mul_le hg).2 h1)
  · rintro rfl
    exact ⟨(Int.le_ediv_iff_mul_le hg).1 (Int.le_refl _), (Int.ediv_lt_iff_lt_mul hg).1 (Int.lt_add_one_iff.2 (Int.le_refl _))⟩

theorem wy_ow (key G p : Int) (hG : 1 ≤ G ∧ G ≤ 64) (hp : 1 ≤ p ∧ p ≤ 8 ∧ p ≤ G) : (0 ≤ owG (ofG key G) p G ∧ owG (ofG key G) p G < p) ∧ rlo (owG (ofG key G) p G) p G ≤ ofG key G ∧ ofG key G < rhi (owG (ofG key G) p G) p G := by
  have h0 : 0 ≤ ofG key G := by unfold ofG; rw [if_pos hG]; exact Int.emod_nonneg _ (by omega)
  have h1 : ofG key G < G := by unfold ofG; rw [if_pos hG]; exact Int.emod_lt_of_pos _ (by omega)
  generalize ofG key G = g at h0 h1 ⊢
  have e1 : owG g p G = g * p / G := if_pos (by simp only [Bool.and_eq_true, decide_eq_true_eq, okG_iff]; omega)
  have m0 : 0 ≤ g * p := Int.mul_nonneg (by omega) (by omega)
  have d0 : 0 ≤ g * p / G := Int.ediv_nonneg (by omega) (by omega)
  have d1 : g * p / G < p := (Int.ediv_lt_iff_lt_mul (by omega)).2 (by rw [Int.mul_comm p G]; exact Int.mul_lt_mul_of_pos_right (by omega) (by omega))
  have ho := (own_iff (i := g * p / G) (x := g) (show 0 < p by omega) (show 0 < G by omega)).2 rfl
  rw [e1]
  generalize g * p / G = t at d0 d1 ho ⊢
  have k1 : raG t p G = true := by simp [raG, okG]; omega
  have l1 : rlo t p G = loG t p G := if_pos k1
  have l2 : rhi t p G = loG (t + 1) p G := if_pos k1
  rw [l1, l2]
  exact ⟨⟨d0, d1⟩, ho⟩

theorem wyE1_nt (x : FD) (o : OC) (G : Int) (len cap : Nat) : (wyE1 x o G len cap).nt = Try.f4.ntmps := rfl

theorem wyE2_nt (x : FD) (o : OC) (G : Int) (len cap : Nat) : (wyE2 x o G len cap).nt = Try.f4.ntmps := rfl

theorem wyE1_n0 (x : FD) (o : OC) (G : Int) (len cap : Nat) : (wyE1 x o G len cap).n0 = 3 := rfl

theorem wyE2_n0 (x : FD) (o : OC) (G : Int) (len cap : Nat) : (wyE2 x o G len cap).n0 = 3 := rfl

theorem wy_sy (x : FD) (o : OC) (G g other op : Int) (len cap : Nat) (pr : Nat → Int) (np pc : Nat) (u U : Nat → Int) (un c d i : Nat) {fr' : List (Nat × AV)} (hf : SubFr 6 id fr' (wySy x o G g other op len cap pr np pc u U un c d i).fr) : SubSt 3 id ⟨fr', (wySy x o G g other op len cap pr np pc u U un c d i).m⟩ (wySy x o G g other op len cap pr np pc u U un c d i) :=
  SubSt.mk hf (Sub.of ⟨⟨_, rfl, x.ok⟩, ⟨_, rfl, ops_ok rfl (Nat.succ_pos _)⟩, ⟨_, rfl, in_ok⟩, ⟨_, rfl, box_ok rfl (by simp [wySy, tgM, spM])⟩, ⟨_, rfl, ap2_same⟩, ⟨_, rfl, ap_refl⟩, trivial⟩ (fun _ _ _ _ h => h) (fun _ _ => rfl) (Nat.le_of_ble_eq_true rfl))

theorem wy_lp (x : FD) (o : OC) (G key other op : Int) (len cap : Nat) (hk0 : spOK x len cap) (hG : 1 ≤ G ∧ G ≤ 64) (pr : Nat → Int) (np pc : Nat) (hp : np ≤ pc) (hr : ∀ j, j < np → 1 ≤ pr j ∧ pr j ≤ 8 ∧ pr j ≤ G) (u : Nat → Int) (un c d : Nat) (hu : tgU np u un) (hc : un ≤ c) (hd : un ≤ d) {Q : Ex × St → Prop} (hX : Q (.exit 0, wySy x o G (ofG key G) other op len cap pr np pc u (owAt G key pr u) un c d un)) :
    AWp Try.prog (wyE2 x o G len cap) (.loop wyC) (wySy x o G (ofG key G) other op len cap pr np pc u (owAt G key pr u) un c d 0) Q := by
  have dE := fun i g U => wy_t x o G g other op len cap pr np pc u U un c d i
  have ow : ∀ i, i < un → (0 ≤ owAt G key pr u i ∧ owAt G key pr u i < pr (u i).toNat) ∧ rlo (owAt G key pr u i) (pr (u i).toNat) G ≤ ofG key G ∧ ofG key G < rhi (owAt G key pr u i) (pr (u i).toNat) G := fun i hi => by
    obtain ⟨u1, u2⟩ := hu.2 i hi
    exact wy_ow key G (pr (u i).toNat) hG (hr _ (by omega))
  generalize owAt G key pr u = U at ow hX ⊢
  generalize ofG key G = g at ow hX ⊢
  refine loop_free (fun i : Nat => wySy x o G g other op len cap pr np pc u U un c d i) (fun i => i ≤ un) (fun i => un - i) (fun i hi => ?_) 0 (Nat.zero_le _)
  refine code_sound (wyE2_ok x o G len cap hk0) _ (noLoops (by kernel_rfl)) _ _ (round_keep [1, 2, 4, 5, 10, 11, 12, 13, 14] (T.cut_eq (dE i g U) ?_))
  have hun := hu.1
  refine T.hiteP (fun hi1 => ?_) (fun hi1 => T.hret ?_)
  · have hiu : i < un := by omega
    obtain ⟨u1, u2⟩ := hu.2 i hiu
    obtain ⟨⟨o1, o2⟩, o3, o4⟩ := ow i hiu
    have hw : IntKind.wrap IntKind.i64 ((i : Int) + 1) = ((i + 1 : Nat) : Int) := by rw [IntWalk.i64_in _ (by omega)]; omega
    have ei : 0 + Int.toNat (i : Int) = i := by omega
    have q : ∀ F : Nat → Int, (if 0 + Int.toNat (i : Int) < un then F (0 + Int.toNat (i : Int)) else 0) = F i := fun F => by rw [if_pos (by omega), ei]
    have pu : 0 + Int.toNat (u i) = (u i).toNat := by omega
    rw [q u, q U, pu]
    have b1 : (decide ((0 : Int) ≤ (i : Int)) && decide ((i : Int) < (un : Int))) = true := by simp only [Bool.and_eq_true, decide_eq_true_eq]; omega
    have b2 : decide (0 + Int.toNat (i : Int) < c) = true := decide_eq_true (by omega)
    have b3 : decide (0 + Int.toNat (i : Int) < d) = true := decide_eq_true (by omega)
    have b4 : (decide ((0 : Int) ≤ u i) && decide (u i < (np : Int))) = true := by simp only [Bool.and_eq_true, decide_eq_true_eq]; omega
    have b6 : decide ((u i).toNat < pc) = true := decide_eq_true (by omega)
    refine T.hchk b1 (T.hchk b2 (T.hchk b1 (T.hchk b3 (T.hiteN (fun h => absurd rfl h) (fun _ => T.hchk b1 (T.hchk b2 (T.hiteP (fun h => absurd o1 (by omega)) (fun _ => ?_))))))))
    refine T.hchk b1 (T.hchk b2 (T.hchk b1 (T.hchk b3 (T.hchk b4 (T.hchk b6 (T.hiteP (fun h => absurd o2 (by omega)) (fun _ => ?_)))))))
    refine T.hchk b1 (T.hchk b2 (T.hchk b1 (T.hchk b3 (T.hchk b4 (T.hchk b6 (T.hiteP (fun h => absurd o3 (by omega)) (fun _ => T.hiteP (fun h => absurd o4 (by omega)) (fun _ => T.hret ?_))))))))
    rw [hw]
    exact Round.go (i + 1) id (by omega) (by omega) (wy_sy x o G g other op len cap pr np pc u U un c d (i + 1) (by simp [wySy, tgM, spM, SubFr, slotAt, ren, below])) any_ff
  · have ei : i = un := by omega
    subst ei
    exact Round.any (.exit 0) (wySy x o G g other op len cap pr np pc u U i c d i) id (wy_sy x o G g other op len cap pr np pc u U i c d i (by simp [wySy, tgM, spM, SubFr, slotAt, ren, below])) hX

theorem wy_tail (x : FD) (o : OC) (G op key other : Int) (len cap : Nat) (hk0 : spOK x len cap) (pr : Nat → Int) (np pc : Nat) (hp : np ≤ pc) (hg : rgP x o G op len pr np) (hU : tgU np (usG x len op) (usL x len op).length) {Q : AV × AM → Prop} (hR : FnPost Try.prog Try.f4 3 Q (.ret, ⟨[(10, .bool true)], [none, none, none]⟩)) {C : List Code} (hC : C = (chainOf wyF).drop 3) :
    AWpL Try.prog (wyE2 x o G len cap) C (wyS0 x o G key other op len cap pr np pc) (FnPost Try.prog Try.f4 3 Q) := by
  have hE := wyE2_ok x o G len cap hk0
  have e := wy_b x o G key other op len cap pr np pc
  have en := wy_n x o G (ofG key G) other op len cap pr np pc
  have ezn := wy_zn x o G (ofG key G) other op len cap pr np pc
  have ezy := fun c d i => wy_zy x o G (ofG key G) other op len cap pr np pc (usG x len op) (owAt G key pr (usG x len op)) (usL x len op).length c d i
  have k0 := wy_k0
  have hl3 : ∀ x' ∈ ((chainOf wyF).drop 3).take 6, ∀ c' ∈ loopsIn x', LoopOK Try.prog (wyE2 x o G len cap) c' := noLoopsL_ok (by kernel_rfl)
  have hl10 : ∀ x' ∈ (chainOf wyF).drop 10, ∀ c' ∈ loopsIn x', LoopOK Try.prog (wyE2 x o G len cap) c' := noLoopsL_ok (by kernel_rfl)
  have hln : ∀ c' ∈ loopsIn wyC, LoopOK Try.prog (wyE2 x o G len cap) c' := noLoops (by kernel_rfl)
  rw [← hC] at e k0 hl3
  clear hC
  generalize (chainOf wyF).drop 10 = D at ezn ezy k0 hl10
  have hG := hg.1.1
  have hr := hg.2.1.2
  have op0 := hg.2.2.1
  have op1 := hg.2.2.2
  have hl : len ≤ cap := hk0.2.1
  have h8 : o.kd (0 + Int.toNat op) = 8 → (usL x len op).length = 0 := fun h => by
    have := hg.1.2.2 op.toNat (by omega) (by rwa [Nat.zero_add] at h)
    rwa [show ((op.toNat : Nat) : Int) = op by omega] at this
  have eow : ofG other G = ofG key G → owAt G other pr (usG x len op) = owAt G key pr (usG x len op) := fun h => by
    funext j
    unfold owAt
    rw [h]
  have lp := fun c d => wy_lp x o G key other op len cap hk0 hG pr np pc hp hr (usG x len op) (usL x len op).length c d hU
  have hun := hU.1
  have tU := hU
  generalize usG x len op = u at e hU ezn ezy eow lp
  generalize (usL x len op).length = un at e hU ezn ezy h8 lp hun
  have ret : ∀ st : St, slotAt st.fr 10 = some (.bool true) → Weak (wyE2 x o G len cap) (FnPost Try.prog Try.f4 3 Q) (.ret, st) := fun st hs =>
    ⟨id, ⟨[(10, .bool true)], [none, none, none]⟩, SubSt.mk (by simp [SubFr, hs, ren, below]) (Sub.nothing (n := 3) _), hR⟩
  have R0 : un = 0 → AWpL Try.prog (wyE2 x o G len cap) (.block 0 (.loop wyC) :: D) (wySn x o G (ofG key G) other op len cap pr np pc) (FnPost Try.prog Try.f4 3 Q) := fun h0 => by
    have s : SubSt 3 (rhoL [0, 1, 2, 3]) (wySn x o G (ofG key G) other op len cap pr np pc) (wySn x o G (ofG key G) other op len cap pr np pc) := subStL [0, 1, 2, 3] rfl rfl rfl (Nat.le_of_ble_eq_true rfl) (by simp [wySn, tgM, spM, SubFr, slotAt, ren, below, rhoL]) ⟨⟨_, rfl, x.ok⟩, ⟨_, rfl, ops_ok rfl (Nat.succ_pos _)⟩, ⟨_, rfl, in_ok⟩, ⟨_, rfl, box_ok rfl (by simp [wySn, tgM, spM])⟩, trivial⟩
    refine awpl_block (awpl_one (loop_free (fun _ : Unit => wySn x o G (ofG key G) other op len cap pr np pc) (fun _ => True) (fun _ => 0) (fun t ht => ?_) () trivial))
    refine code_sound hE _ hln _ _ (round_keep [1, 2, 4, 5, 11, 13, 14] (T.cut_eq en (T.hchkT (T.hret (Round.any (.exit 0) (wySn x o G (ofG key G) other op len cap pr np pc) (rhoL [0, 1, 2, 3]) s ?_)))))
    show AWpL Try.prog (wyE2 x o G len cap) D (wySn x o G (ofG key G) other op len cap pr np pc) _
    refine awpl_end (E := wyE2 x o G len cap) hE hl10 (weak_keep [10] (T.cut_eq ezn (T.hiteN (fun _ => T.hret (ret _ rfl)) (fun _ => ?_))))
    exact T.hneed ⟨rfl, rfl, rfl⟩ (T.hneed ⟨rfl, rfl⟩ (T.hneed ⟨IntRow.rows, rfl, hp, by decide, by decide⟩ (T.hneed hU (T.hiteP (fun _ => T.hchkT (T.hret (ret _ rfl))) (fun h => absurd h0 h)))))
  have R1 : un ≠ 0 → ∀ c d, un ≤ c → un ≤ d → AWpL Try.prog (wyE2 x o G len cap) (.block 0 (.loop wyC) :: D) (wySy x o G (ofG key G) other op len cap pr np pc u (owAt G key pr u) un c d 0) (FnPost Try.prog Try.f4 3 Q) := fun h0 c d hc hd => by
    refine awpl_block (awpl_one (lp c d hc hd ?_))
    show AWpL Try.prog (wyE2 x o G len cap) D (wySy x o G (ofG key G) other op len cap pr np pc u (owAt G key pr u) un c d un) _
    refine awpl_end (E := wyE2 x o G len cap) hE hl10 (weak_keep [10] (T.cut_eq (ezy c d un) (T.hiteN (fun _ => T.hret (ret _ rfl)) (fun heq => ?_))))
    refine T.hneed ⟨rfl, rfl, rfl⟩ (T.hneed ⟨rfl, rfl⟩ (T.hneed ⟨IntRow.rows, rfl, hp, by decide, by decide⟩ (T.hneed hU (T.hiteP (fun h => absurd h h0) (fun _ => T.hall fun c' => T.hasmP fun hc' => ?_)))))
    rw [eow heq]
    exact T.hneed ⟨rfl, rfl, rfl, fun _ => rfl⟩ (T.hneed ⟨rfl, rfl, rfl, fun _ => rfl⟩ (T.hchk (decide_eq_true (by omega)) (T.hchk (decide_eq_true (by omega)) (T.hchk (decide_eq_true (by omega)) (T.hchk (decide_eq_true rfl) (T.hneed (fun d hd => ⟨rfl, rfl⟩) (T.hchkT (T.hret (ret _ rfl)))))))))
  rw [← k0] at R0 R1
  refine awpl_cut (E := wyE2 x o G len cap) hE 6 hl3 (weak_keep [1, 2, 4, 5, 10, 11, 12, 13, 14] (T.cut_eq e ?_))
  have bo : (decide ((0 : Int) ≤ op) && decide (op < (len : Int))) = true := by simp only [Bool.and_eq_true, decide_eq_true_eq]; omega
  have bc : decide (0 + Int.toNat op < cap) = true := decide_eq_true (by omega)
  refine T.hneed ⟨rfl, rfl, rfl⟩ (T.hneed ⟨rfl, rfl⟩ (T.hneed ⟨IntRow.rows, rfl, hp, by decide, by decide⟩ (T.hneed hU (T.hiteP (fun h0 => ?_) (fun h0 => T.hall fun c => T.hasmP fun hc => ?_)))))
  · refine T.hneed ⟨rfl, rfl, rfl⟩ (T.hneed ⟨rfl, rfl⟩ (T.hiteP (fun h1 => T.hchkT (T.hchk bo (T.hchk bc (T.hiteE (fun _ => T.hchkT (T.hret ?_)) (fun _ => T.hret ?_))))) (fun h1 => absurd h0 h1)))
    · exact ⟨rhoL [0, 1, 2, 3], wySn x o G (ofG key G) other op len cap pr np pc, subStL [0, 1, 2, 3] rfl rfl rfl (Nat.le_of_ble_eq_true rfl) (by simp [wySn, tgM, spM, SubFr, slotAt, ren, below, rhoL]) ⟨⟨_, rfl, x.ok⟩, ⟨_, rfl, ops_ok rfl (Nat.succ_pos _)⟩, ⟨_, rfl, in_ok⟩, ⟨_, rfl, box_ok rfl (by simp [wySn, tgM, spM])⟩, trivial⟩, R0 h0⟩
    · exact ⟨rhoL [0, 1, 2, 3], wySn x o G (ofG key G) other op len cap pr np pc, subStL [0, 1, 2, 3] rfl rfl rfl (Nat.le_of_ble_eq_true rfl) (by simp [wySn, tgM, spM, SubFr, slotAt, ren, below, rhoL]) ⟨⟨_, rfl, x.ok⟩, ⟨_, rfl, ops_ok rfl (Nat.succ_pos _)⟩, ⟨_, rfl, in_ok⟩, ⟨_, rfl, box_ok rfl (by simp [wySn, tgM, spM])⟩, trivial⟩, R0 h0⟩
  · refine T.hneed ⟨rfl, rfl, rfl⟩ (T.hneed ⟨rfl, rfl⟩ (T.hiteP (fun h1 => absurd h1 h0) (fun h1 => T.hall fun d => T.hasmP fun hd => T.hiteN (fun h => absurd rfl h) (fun _ => T.hchk bo (T.hchk bc (T.hiteE (fun h => absurd (h8 h) h0) (fun _ => T.hret ?_)))))))
    exact ⟨rhoL [0, 1, 2, 3, 4, 5], wySy x o G (ofG key G) other op len cap pr np pc u (owAt G key pr u) un c d 0, subStL [0, 1, 2, 3, 4, 5] rfl rfl rfl (Nat.le_of_ble_eq_true rfl) (by simp [wySy, tgM, spM, SubFr, slotAt, ren, below, rhoL]) ⟨⟨_, rfl, x.ok⟩, ⟨_, rfl, ops_ok rfl (Nat.succ_pos _)⟩, ⟨_, rfl, in_ok⟩, ⟨_, rfl, box_ok rfl (by simp [wySy, tgM, spM])⟩, ⟨_, rfl, ap2_same⟩, ⟨_, rfl, ap_refl⟩, trivial⟩, R1 h0 c d hc hd⟩

theorem wy_2 (x : FD) (o : OC) (G op key other : Int) (len cap : Nat) (hw : x.wf .i64) (hl : len ≤ cap) (pr : Nat → Int) (np pc : Nat) (hp : np ≤ pc) (args : List AV) (m : AM) (ha : args = [spA G len cap, .sl 2 0 1 0 np pc, .int .i64 op, .int .i64 key, .int .i64 other]) (hm : m = tgM x o cap pr pc) : YesAt Try.prog 4 args m := by
  subst ha hm
  refine fn_okA (E := wyE1 x o G len cap) (c := wyF) Try.func4 rfl rfl rfl (Nat.le_of_ble_eq_true (by kernel_rfl)) fun Q hq => ?_
  have hR : FnPost Try.prog Try.f4 3 Q (.ret, ⟨[(10, .bool true)], [none, none, none]⟩) := yes_post wy_res hq rfl rfl
  have e := wy_a x o G key other op len cap pr np pc
  have hl3 : ∀ x' ∈ (chainOf wyF).take 3, ∀ c' ∈ loopsIn x', LoopOK Try.prog (wyE1 x o G len cap) c' := noLoopsL_ok (by kernel_rfl)
  have tail := fun (hk0 : spOK x len cap) (hg : rgP x o G op len pr np) (hU : tgU np (usG x len op) (usL x len op).length) => wy_tail x o G op key other len cap hk0 pr np pc hp hg hU hR rfl
  generalize chainOf wyF = C at e hl3 tail ⊢
  have ret : ∀ st, slotAt st.fr 10 = some (.bool true) → Weak (wyE1 x o G len cap) (Then (FnPost Try.prog Try.f4 3 Q) fun st' => AWpL Try.prog (wyE1 x o G len cap) (C.drop 3) st' (FnPost Try.prog Try.f4 3 Q)) (.ret, st) := fun st hs =>
    ⟨id, ⟨[(10, .bool true)], [none, none, none]⟩, SubSt.mk (by simp [SubFr, hs, ren, below]) (Sub.nothing (n := 3) _), hR⟩
  refine awpl_cut (E := wyE1 x o G len cap) (wyE1_ok x o G len cap hw hl) 3 hl3 (weak_keep [1, 2, 3, 4, 5, 10] (T.cut_eq e ?_))
  refine T.hneed ⟨rfl, rfl, rfl⟩ (T.hneed ⟨rfl, rfl⟩ (T.hneed ⟨IntRow.rows, rfl, hp⟩ (T.hall fun c => T.hasmP fun hc => T.hiteFP (fun _ => T.hret (ret _ rfl)) (fun h0 => T.hret ?_))))
  have hg : rgP x o G op len pr np := hc.resolve_left (fun h => h h0)
  have h12 : len ≤ 12 := hg.1.2.1.2
  have hn : np = len := hg.2.1.1
  have hk0 : spOK x len cap := ⟨hw, hl, by omega, fun r hr => Nat.le_trans (hw.le [r]) (hw.max [r])⟩
  have hU : tgU np (usG x len op) (usL x len op).length := by rw [hn]; exact us_rng x len op h12
  refine ⟨id, wyS0 x o G key other op len cap pr np pc, SubSt.mk (by simp [wyS0, tgM, spM, SubFr, slotAt, ren, below]) (Sub.of ⟨⟨_, rfl, x.ok⟩, ⟨_, rfl, ops_ok rfl (Nat.succ_pos _)⟩, ⟨_, rfl, in_ok⟩, ⟨_, rfl, box_ok rfl (by simp [wyS0, tgM, spM])⟩, trivial⟩ (fun _ _ _ _ h => h) (fun _ _ => rfl) (Nat.le_of_ble_eq_true rfl)), ?_⟩
  exact AWpL.env' (E := wyE1 x o G len cap) (E' := wyE2 x o G len cap) ((wyE2_nt x o G len cap).trans (wyE1_nt x o G len cap).symm) ((wyE2_n0 x o G len cap).trans (wyE1_n0 x o G len cap).symm) (tail hk0 hg hU)

theorem wy_law : ∀ args m, ArgsAVn [PK.agg [CK.int IntKind.i64, CK.sl [CK.int IntKind.i64, CK.sl [CK.int IntKind.i64], CK.int IntKind.i64, CK.int IntKind.i64, CK.int IntKind.i64, CK.int IntKind.i64, CK.int IntKind.i64, CK.int IntKind.i64]], PK.one (CK.sl [CK.int IntKind.i64]), PK.one (CK.int IntKind.i64), PK.one (CK.int IntKind.i64), PK.one (CK.int IntKind.i64)] [] args m → YesAt Try.prog 4 args m := by
  intro args m h
  obtain ⟨cs, _, m1, rfl, hc, h⟩ := argsN_agg h
  obtain ⟨G, _, rfl, _, hc1⟩ := cellsN_int hc
  rcases cellsN_sl hc1 with ⟨_, rfl, hd⟩ | ⟨len, cap, g, A, _, rfl, hA, hAl, h1, h2, h3, hd⟩
  · obtain ⟨rfl, rfl⟩ := cellsN_nil hd
    rcases argsN_sl h with ⟨_, rfl, k⟩ | ⟨np, pc, gp, A, _, rfl, hB, hBl, p1, p2, p3, k⟩
    · obtain ⟨op, _, rfl, _, k1⟩ := argsN_int k
      obtain ⟨op2, _, rfl, _, k2⟩ := argsN_int k1
      obtain ⟨key, _, rfl, _, k3⟩ := argsN_int k2
      obtain ⟨rfl, rfl⟩ := argsN_nil k3
      exact wy_0 G op op2 key _ _ rfl rfl
    · obtain rfl := fams_nil (fams_int hB)
      obtain ⟨op, _, rfl, _, k1⟩ := argsN_int k
      obtain ⟨op2, _, rfl, _, k2⟩ := argsN_int k1
      obtain ⟨key, _, rfl, _, k3⟩ := argsN_int k2
      obtain ⟨rfl, rfl⟩ := argsN_nil k3
      exact wy_0' G op op2 key (fun r => intV (gp r 0)) np pc _ _ rfl rfl
  · obtain ⟨rfl, rfl⟩ := cellsN_nil hd
    obtain ⟨x, A1, hx, hA2, rfl⟩ := fams_ints (fams_int hA)
    obtain rfl := fams_nil (fams_int (fams_int (fams_int (fams_int (fams_int (fams_int hA2))))))
    rcases argsN_sl h with ⟨_, rfl, k⟩ | ⟨np, pc, gp, A, _, rfl, hB, hBl, p1, p2, p3, k⟩
    · obtain ⟨op, _, rfl, _, k1⟩ := argsN_int k
      obtain ⟨op2, _, rfl, _, k2⟩ := argsN_int k1
      obtain ⟨key, _, rfl, _, k3⟩ := argsN_int k2
      obtain ⟨rfl, rfl⟩ := argsN_nil k3
      exact wy_1 x ⟨fun r => intV (g r 0), fun r => intV (g r 2), fun r => intV (g r 3), fun r => intV (g r 4), fun r => intV (g r 5), fun r => intV (g r 6), fun r => intV (g r 7)⟩ G op op2 key len cap hx h1 _ _ rfl rfl
    · obtain rfl := fams_nil (fams_int hB)
      obtain ⟨op, _, rfl, _, k1⟩ := argsN_int k
      obtain ⟨op2, _, rfl, _, k2⟩ := argsN_int k1
      obtain ⟨key, _, rfl, _, k3⟩ := argsN_int k2
      obtain ⟨rfl, rfl⟩ := argsN_nil k3
      exact wy_2 x ⟨fun r => intV (g r 0), fun r => intV (g r 2), fun r => intV (g r 3), fun r => intV (g r 4), fun r => intV (g r 5), fun r => intV (g r 6), fun r => intV (g r 7)⟩ G op op2 key len cap hx h1 (fun r => intV (gp r 0)) np pc p1 _ _ rfl rfl

end Go.Proofs.Ytnfngaapjodpcaa
