/-
  Layer 20: Alike: loops.
-/
import Derived.Test.YtnfngaapjodpcaaHLA
namespace Go.Proofs.Ytnfngaapjodpcaa
open Go.Ox

set_option maxRecDepth 100000
set_option maxHeartbeats 4000000
set_option linter.unusedVariables false
set_option linter.unusedSimpArgs false

theorem ak_s1 (x : FD) (o : OC) (cap : Nat) (pr : Nat → Int) (pc : Nat) (u U : Nat → Int) (un c : Nat) {fr' fr : List (Nat × AV)} (hf : SubFr (akM1 x o cap pr pc u U un c).length id fr' fr) : SubSt 3 id ⟨fr', akM1 x o cap pr pc u U un c⟩ ⟨fr, akM1 x o cap pr pc u U un c⟩ :=
  SubSt.mk hf (Sub.of ⟨⟨_, rfl, x.ok⟩, ⟨_, rfl, ops_ok rfl (Nat.succ_pos _)⟩, ⟨_, rfl, in_ok⟩, ⟨_, rfl, ap2_same⟩, trivial⟩ (fun _ _ _ _ h => h) (fun _ _ => rfl) (by simp [akM1, tgM, spM]))

theorem ak_s2 (x : FD) (o : OC) (cap : Nat) (pr : Nat → Int) (pc : Nat) (u U : Nat → Int) (un c : Nat) (v V : Nat → Int) (vn d : Nat) {fr' fr : List (Nat × AV)} (hf : SubFr (akM2 x o cap pr pc u U un c v V vn d).length id fr' fr) : SubSt 3 id ⟨fr', akM2 x o cap pr pc u U un c v V vn d⟩ ⟨fr, akM2 x o cap pr pc u U un c v V vn d⟩ :=
  SubSt.mk hf (Sub.of ⟨⟨_, rfl, x.ok⟩, ⟨_, rfl, ops_ok rfl (Nat.succ_pos _)⟩, ⟨_, rfl, in_ok⟩, ⟨_, rfl, ap2_same⟩, ⟨_, rfl, ap2_same⟩, trivial⟩ (fun _ _ _ _ h => h) (fun _ _ => rfl) (by simp [akM2, tgM, spM]))

theorem ak_in1 (x : FD) (o : OC) (G : Int) (len cap : Nat) (hk0 : spOK x len cap) (pr : Nat → Int) (np pc : Nat) (u U : Nat → Int) (un c i : Nat) {Q : Ex × St → Prop} (HX : Q (.exit 2, akO1 x o cap pr np pc u U un c i)) :
    AWp Try.prog (akE2 x o G len cap) (.loop akD) ⟨[(1, .sl 2 0 1 0 np pc), (11, .sl 3 0 2 0 un c), (12, .nils), (13, .int .i64 i), (14, .int .i64 0)], akM1 x o cap pr pc u U un c⟩ Q := by
  refine loop_free (fun _ : Unit => ⟨[(1, .sl 2 0 1 0 np pc), (11, .sl 3 0 2 0 un c), (12, .nils), (13, .int .i64 i), (14, .int .i64 0)], akM1 x o cap pr pc u U un c⟩) (fun _ => True) (fun _ => 0) (fun t ht => ?_) () trivial
  refine code_sound (akE2_ok x o G len cap hk0) _ (noLoops (by kernel_rfl)) _ _ (round_keep [1, 11, 12, 13] (T.cut_eq (ak_d1 x o G len cap pr np pc u U un c i) (T.hchkT (T.hret ?_))))
  exact Round.any (.exit 2) (akO1 x o cap pr np pc u U un c i) id (ak_s1 x o cap pr pc u U un c (by simp [akO1, akM1, tgM, spM, SubFr, slotAt, ren, below])) HX

theorem ak_in2 (x : FD) (o : OC) (G key : Int) (len cap : Nat) (hk0 : spOK x len cap) (pr : Nat → Int) (np pc : Nat) (hp : np ≤ pc) (u : Nat → Int) (un c : Nat) (v : Nat → Int) (vn d i : Nat) (hu : tgU np u un) (hv : tgU np v vn) (hc : un ≤ c) (hd : vn ≤ d) (hi : i < un) {Q : Ex × St → Prop} (HX : ∀ k, Q (.exit 2, akI2 x o cap pr np pc u (owAt G key pr u) un c v (owAt G key pr v) vn d i k)) :
    AWp Try.prog (akE2 x o G len cap) (.loop akD) (akI2 x o cap pr np pc u (owAt G key pr u) un c v (owAt G key pr v) vn d i 0) Q := by
  refine loop_free (fun k : Nat => akI2 x o cap pr np pc u (owAt G key pr u) un c v (owAt G key pr v) vn d i k) (fun k => k ≤ vn) (fun k => vn - k) (fun k hk => ?_) 0 (Nat.zero_le _)
  refine code_sound (akE2_ok x o G len cap hk0) _ (noLoops (by kernel_rfl)) _ _ (round_keep [1, 10, 11, 12, 13, 14] (T.cut_eq (ak_d2 x o G len cap pr np pc u (owAt G key pr u) un c v (owAt G key pr v) vn d i k) ?_))
  have hun := hu.1
  have hvn := hv.1
  refine T.hiteP (fun hk1 => ?_) (fun _ => T.hret (Round.any (.exit 2) (akI2 x o cap pr np pc u (owAt G key pr u) un c v (owAt G key pr v) vn d i k) id (ak_s2 x o cap pr pc u (owAt G key pr u) un c v (owAt G key pr v) vn d (by simp [akI2, akM2, tgM, spM, SubFr, slotAt, ren, below])) (HX k)))
  have hkv : k < vn := by omega
  obtain ⟨u1, u2⟩ := hu.2 i hi
  obtain ⟨v1, v2⟩ := hv.2 k hkv
  have hw : IntKind.wrap IntKind.i64 ((k : Int) + 1) = ((k + 1 : Nat) : Int) := by rw [IntWalk.i64_in _ (by omega)]; omega
  have ei : 0 + Int.toNat (i : Int) = i := by omega
  have ek : 0 + Int.toNat (k : Int) = k := by omega
  have eu : (if 0 + Int.toNat (i : Int) < un then u (0 + Int.toNat (i : Int)) else 0) = u i := by rw [if_pos (by omega), ei]
  have ev : (if 0 + Int.toNat (k : Int) < vn then v (0 + Int.toNat (k : Int)) else 0) = v k := by rw [if_pos (by omega), ek]
  have eU : (if 0 + Int.toNat (i : Int) < un then owAt G key pr u (0 + Int.toNat (i : Int)) else 0) = owAt G key pr u i := by rw [if_pos (by omega), ei]
  have eV : (if 0 + Int.toNat (k : Int) < vn then owAt G key pr v (0 + Int.toNat (k : Int)) else 0) = owAt G key pr v k := by rw [if_pos (by omega), ek]
  rw [eu, ev, eU, eV]
  have b1 : (decide ((0 : Int) ≤ (i : Int)) && decide ((i : Int) < (un : Int))) = true := by simp only [Bool.and_eq_true, decide_eq_true_eq]; omega
  have b2 : decide (0 + Int.toNat (i : Int) < c) = true := decide_eq_true (by omega)
  have b3 : (decide ((0 : Int) ≤ (k : Int)) && decide ((k : Int) < (vn : Int))) = true := by simp only [Bool.and_eq_true, decide_eq_true_eq]; omega
  have b4 : decide (0 + Int.toNat (k : Int) < d) = true := decide_eq_true (by omega)
  have pu : 0 + Int.toNat (u i) = (u i).toNat := by omega
  have pv : 0 + Int.toNat (v k) = (v k).toNat := by omega
  have nx : Round (akE2 x o G len cap) (fun k : Nat => akI2 x o cap pr np pc u (owAt G key pr u) un c v (owAt G key pr v) vn d i k) (fun k => k ≤ vn) (fun k => vn - k) (fun _ => .asm false .fail) Q k (.norm, akI2 x o cap pr np pc u (owAt G key pr u) un c v (owAt G key pr v) vn d i (k + 1)) :=
    Round.go (k + 1) id (by omega) (by omega) (ak_s2 x o cap pr pc u (owAt G key pr u) un c v (owAt G key pr v) vn d (by simp [akI2, akM2, tgM, spM, SubFr, slotAt, ren, below])) any_ff
  refine T.hchk b1 (T.hchk b2 (T.hchk (by simp only [Bool.and_eq_true, decide_eq_true_eq]; omega) (T.hchk (decide_eq_true (by omega)) (T.hchk b3 (T.hchk b4 (T.hchk (by simp only [Bool.and_eq_true, decide_eq_true_eq]; omega) (T.hchk (decide_eq_true (by omega)) (T.hiteE (fun he => T.hchk b1 (T.hchk b2 (T.hchk b3 (T.hchk b4 (T.hiteN (fun hne => ?_) (fun _ => T.hret ?_)))))) (fun _ => T.hret ?_)))))))))
  · refine absurd ?_ hne
    unfold owAt
    rw [← pu, ← pv, he]
  · rw [hw]
    exact nx
  · rw [hw]
    exact nx

theorem ak_mid1 (x : FD) (o : OC) (G : Int) (len cap : Nat) (hk0 : spOK x len cap) (pr : Nat → Int) (np pc : Nat) (u U : Nat → Int) (un c i : Nat) {Q : Ex × St → Prop} {B : List Code} (hB : B = chainOf akB) (HX : Q (.norm, akO1 x o cap pr np pc u U un c i)) :
    AWpL Try.prog (akE2 x o G len cap) B (akO1 x o cap pr np pc u U un c i) Q := by
  have hE := akE2_ok x o G len cap hk0
  have e := ak_e1 x o G len cap pr np pc u U un c i
  have hl1 : ∀ x' ∈ (chainOf akB).take 1, ∀ c' ∈ loopsIn x', LoopOK Try.prog (akE2 x o G len cap) c' := noLoopsL_ok (by kernel_rfl)
  rw [hB, ak_k2]
  generalize (chainOf akB).take 1 = B0 at e hl1 ⊢
  have go : AWpL Try.prog (akE2 x o G len cap) [.block 2 (.loop akD)] ⟨[(1, .sl 2 0 1 0 np pc), (11, .sl 3 0 2 0 un c), (12, .nils), (13, .int .i64 i), (14, .int .i64 0)], akM1 x o cap pr pc u U un c⟩ Q := by
    refine awpl_block (awpl_one (ak_in1 x o G len cap hk0 pr np pc u U un c i ?_))
    show AWpL Try.prog (akE2 x o G len cap) [] (akO1 x o cap pr np pc u U un c i) Q
    exact fun w0 X loc0 loc a w h => ⟨loc, _, HX, h⟩
  generalize [Code.block 2 (.loop akD)] = B2 at go ⊢
  exact awpl_app (l2 := B2) (awpl_end hE hl1 (weak_keep [1, 11, 12, 13, 14] (T.cut_eq e (T.hret ⟨id, _, ak_s1 x o cap pr pc u U un c (by simp [akM1, tgM, spM, SubFr, slotAt, ren, below]), go⟩))))

theorem ak_mid2 (x : FD) (o : OC) (G key : Int) (len cap : Nat) (hk0 : spOK x len cap) (pr : Nat → Int) (np pc : Nat) (hp : np ≤ pc) (u : Nat → Int) (un c : Nat) (v : Nat → Int) (vn d i : Nat) (hu : tgU np u un) (hv : tgU np v vn) (hc : un ≤ c) (hd : vn ≤ d) (hi : i < un) {Q : Ex × St → Prop} {B : List Code} (hB : B = chainOf akB) (HX : Q (.norm, akO2 x o cap pr np pc u (owAt G key pr u) un c v (owAt G key pr v) vn d i)) :
    AWpL Try.prog (akE2 x o G len cap) B (akO2 x o cap pr np pc u (owAt G key pr u) un c v (owAt G key pr v) vn d i) Q := by
  have hE := akE2_ok x o G len cap hk0
  have e := ak_e2 x o G len cap pr np pc u (owAt G key pr u) un c v (owAt G key pr v) vn d i
  have hl1 : ∀ x' ∈ (chainOf akB).take 1, ∀ c' ∈ loopsIn x', LoopOK Try.prog (akE2 x o G len cap) c' := noLoopsL_ok (by kernel_rfl)
  rw [hB, ak_k2]
  generalize (chainOf akB).take 1 = B0 at e hl1 ⊢
  have go : AWpL Try.prog (akE2 x o G len cap) [.block 2 (.loop akD)] (akI2 x o cap pr np pc u (owAt G key pr u) un c v (owAt G key pr v) vn d i 0) Q := by
    refine awpl_block (awpl_one (ak_in2 x o G key len cap hk0 pr np pc hp u un c v vn d i hu hv hc hd hi fun k => ?_))
    show AWpL Try.prog (akE2 x o G len cap) [] (akI2 x o cap pr np pc u (owAt G key pr u) un c v (owAt G key pr v) vn d i k) Q
    have s : SubSt 3 id (akI2 x o cap pr np pc u (owAt G key pr u) un c v (owAt G key pr v) vn d i k) (akO2 x o cap pr np pc u (owAt G key pr u) un c v (owAt G key pr v) vn d i) := ak_s2 x o cap pr pc u (owAt G key pr u) un c v (owAt G key pr v) vn d (by simp [akI2, akO2, akM2, tgM, spM, SubFr, slotAt, ren, below])
    exact AWpL.sub (E := akE2 x o G len cap) s fun w0 X loc0 loc a w h => ⟨loc, _, HX, h⟩
  generalize [Code.block 2 (.loop akD)] = B2 at go ⊢
  exact awpl_app (l2 := B2) (awpl_end hE hl1 (weak_keep [1, 11, 12, 13, 14] (T.cut_eq e (T.hret ⟨id, _, ak_s2 x o cap pr pc u (owAt G key pr u) un c v (owAt G key pr v) vn d (by simp [akI2, akO2, akM2, tgM, spM, SubFr, slotAt, ren, below]), go⟩))))

theorem ak_lp1 (x : FD) (o : OC) (G : Int) (len cap : Nat) (hk0 : spOK x len cap) (pr : Nat → Int) (np pc : Nat) (u U : Nat → Int) (un c : Nat) (h12 : un ≤ 12) {Q : Ex × St → Prop} (HX : Q (.exit 0, akO1 x o cap pr np pc u U un c un)) :
    AWp Try.prog (akE2 x o G len cap) (.loop akC) (akO1 x o cap pr np pc u U un c 0) Q := by
  have hE := akE2_ok x o G len cap hk0
  refine loop_free (fun i : Nat => akO1 x o cap pr np pc u U un c i) (fun i => i ≤ un) (fun i => un - i) (fun i hi => ?_) 0 (Nat.zero_le _)
  have e := ak_c1 x o G len cap pr np pc u U un c i
  have eg := ak_g1 x o G len cap pr np pc u U un c i
  have k1 := ak_k1
  have hl1 : ∀ x' ∈ (chainOf akC).take 2, ∀ c' ∈ loopsIn x', LoopOK Try.prog (akE2 x o G len cap) c' := noLoopsL_ok (by kernel_rfl)
  have hl3 : ∀ x' ∈ (chainOf akC).drop 3, ∀ c' ∈ loopsIn x', LoopOK Try.prog (akE2 x o G len cap) c' := noLoopsL_ok (by kernel_rfl)
  have hw : i < un → IntKind.wrap IntKind.i64 ((i : Int) + 1) = ((i + 1 : Nat) : Int) := fun _ => by rw [IntWalk.i64_in _ (by omega)]; omega
  refine awp_chain ?_
  generalize (chainOf akC).drop 3 = D at k1 hl3 eg
  generalize chainOf akC = CC at e k1 hl1 ⊢
  have self : ∀ (i' : Nat) {fr : List (Nat × AV)}, SubFr (akM1 x o cap pr pc u U un c).length id fr (akO1 x o cap pr np pc u U un c i').fr → SubSt 3 id ⟨fr, akM1 x o cap pr pc u U un c⟩ (akO1 x o cap pr np pc u U un c i') := fun i' fr hf => ak_s1 x o cap pr pc u U un c hf
  have go : i < un → AWpL Try.prog (akE2 x o G len cap) (.block 1 akB :: D) (akO1 x o cap pr np pc u U un c i) (Round (akE2 x o G len cap) (fun i : Nat => akO1 x o cap pr np pc u U un c i) (fun i => i ≤ un) (fun i => un - i) (fun _ => .asm false .fail) Q i) := fun hi1 => by
    refine awpl_block (ak_mid1 x o G len cap hk0 pr np pc u U un c i rfl ?_)
    show AWpL Try.prog (akE2 x o G len cap) D (akO1 x o cap pr np pc u U un c i) _
    exact awpl_end hE hl3 (weak_keep [1, 11, 12, 13] (T.cut_eq eg (T.hret ⟨id, akO1 x o cap pr np pc u U un c (i + 1), self (i + 1) (by simp [akO1, akM1, tgM, spM, SubFr, slotAt, ren, below, hw hi1]), Round.go (i + 1) id (by omega) (by omega) (self (i + 1) (by simp [akO1, akM1, tgM, spM, SubFr, slotAt, ren, below])) any_ff⟩)))
  rw [← k1] at go
  refine awpl_cut (E := akE2 x o G len cap) hE 2 hl1 (weak_keep [1, 11, 12, 13] (T.cut_eq e (T.hiteP (fun hi1 => T.hret ⟨id, akO1 x o cap pr np pc u U un c i, self i (by simp [akO1, akM1, tgM, spM, SubFr, slotAt, ren, below]), go (by omega)⟩) (fun hi' => T.hret ?_))))
  have ei : i = un := by omega
  subst ei
  exact ⟨id, akO1 x o cap pr np pc u U i c i, self i (by simp [akO1, akM1, tgM, spM, SubFr, slotAt, ren, below]), ⟨id, akO1 x o cap pr np pc u U i c i, self i (by simp [akO1, akM1, tgM, spM, SubFr, slotAt, ren, below]), HX⟩⟩

theorem ak_lp2 (x : FD) (o : OC) (G key : Int) (len cap : Nat) (hk0 : spOK x len cap) (pr : Nat → Int) (np pc : Nat) (hp : np ≤ pc) (u : Nat → Int) (un c : Nat) (v : Nat → Int) (vn d : Nat) (hu : tgU np u un) (hv : tgU np v vn) (hc : un ≤ c) (hd : vn ≤ d) {Q : Ex × St → Prop} (HX : Q (.exit 0, akO2 x o cap pr np pc u (owAt G key pr u) un c v (owAt G key pr v) vn d un)) :
    AWp Try.prog (akE2 x o G len cap) (.loop akC) (akO2 x o cap pr np pc u (owAt G key pr u) un c v (owAt G key pr v) vn d 0) Q := by
  have hE := akE2_ok x o G len cap hk0
  have h12 := hu.1
  refine loop_free (fun i : Nat => akO2 x o cap pr np pc u (owAt G key pr u) un c v (owAt G key pr v) vn d i) (fun i => i ≤ un) (fun i => un - i) (fun i hi => ?_) 0 (Nat.zero_le _)
  have e := ak_c2 x o G len cap pr np pc u (owAt G key pr u) un c v (owAt G key pr v) vn d i
  have eg := ak_g2 x o G len cap pr np pc u (owAt G key pr u) un c v (owAt G key pr v) vn d i
  have k1 := ak_k1
  have hl1 : ∀ x' ∈ (chainOf akC).take 2, ∀ c' ∈ loopsIn x', LoopOK Try.prog (akE2 x o G len cap) c' := noLoopsL_ok (by kernel_rfl)
  have hl3 : ∀ x' ∈ (chainOf akC).drop 3, ∀ c' ∈ loopsIn x', LoopOK Try.prog (akE2 x o G len cap) c' := noLoopsL_ok (by kernel_rfl)
  have hw : i < un → IntKind.wrap IntKind.i64 ((i : Int) + 1) = ((i + 1 : Nat) : Int) := fun _ => by rw [IntWalk.i64_in _ (by omega)]; omega
  have mid : ∀ (h : i < un) {Q' : Ex × St → Prop} {B : List Code}, B = chainOf akB → Q' (.norm, akO2 x o cap pr np pc u (owAt G key pr u) un c v (owAt G key pr v) vn d i) → AWpL Try.prog (akE2 x o G len cap) B (akO2 x o cap pr np pc u (owAt G key pr u) un c v (owAt G key pr v) vn d i) Q' := fun h {Q'} {B} hB hX => ak_mid2 x o G key len cap hk0 pr np pc hp u un c v vn d i hu hv hc hd h hB hX
  refine awp_chain ?_
  generalize (chainOf akC).drop 3 = D at k1 hl3 eg
  generalize chainOf akC = CC at e k1 hl1 ⊢
  generalize owAt G key pr u = U at e eg mid HX ⊢
  generalize owAt G key pr v = V at e eg mid HX ⊢
  have self : ∀ (i' : Nat) {fr : List (Nat × AV)}, SubFr (akM2 x o cap pr pc u U un c v V vn d).length id fr (akO2 x o cap pr np pc u U un c v V vn d i').fr → SubSt 3 id ⟨fr, akM2 x o cap pr pc u U un c v V vn d⟩ (akO2 x o cap pr np pc u U un c v V vn d i') := fun i' fr hf => ak_s2 x o cap pr pc u U un c v V vn d hf
  have go : i < un → AWpL Try.prog (akE2 x o G len cap) (.block 1 akB :: D) (akO2 x o cap pr np pc u U un c v V vn d i) (Round (akE2 x o G len cap) (fun i : Nat => akO2 x o cap pr np pc u U un c v V vn d i) (fun i => i ≤ un) (fun i => un - i) (fun _ => .asm false .fail) Q i) := fun hi1 => by
    refine awpl_block (mid hi1 rfl ?_)
    show AWpL Try.prog (akE2 x o G len cap) D (akO2 x o cap pr np pc u U un c v V vn d i) _
    exact awpl_end hE hl3 (weak_keep [1, 11, 12, 13] (T.cut_eq eg (T.hret ⟨id, akO2 x o cap pr np pc u U un c v V vn d (i + 1), self (i + 1) (by simp [akO2, akM2, tgM, spM, SubFr, slotAt, ren, below, hw hi1]), Round.go (i + 1) id (by omega) (by omega) (self (i + 1) (by simp [akO2, akM2, tgM, spM, SubFr, slotAt, ren, below])) any_ff⟩)))
  rw [← k1] at go
  refine awpl_cut (E := akE2 x o G len cap) hE 2 hl1 (weak_keep [1, 11, 12, 13] (T.cut_eq e (T.hiteP (fun hi1 => T.hret ⟨id, akO2 x o cap pr np pc u U un c v V vn d i, self i (by simp [akO2, akM2, tgM, spM, SubFr, slotAt, ren, below]), go (by omega)⟩) (fun hi' => T.hret ?_))))
  have ei : i = un := by omega
  subst ei
  exact ⟨id, akO2 x o cap pr np pc u U i c v V vn d i, self i (by simp [akO2, akM2, tgM, spM, SubFr, slotAt, ren, below]), ⟨id, akO2 x o cap pr np pc u U i c v V vn d i, self i (by simp [akO2, akM2, tgM, spM, SubFr, slotAt, ren, below]), HX⟩⟩



set_option maxRecDepth 100000
set_option maxHeartbeats 4000000
set_option linter.unusedVariables false
set_option linter.unusedSimpArgs false

noncomputable def akL0 : List (Nat × Func) := [(8, Try.f8)]

theorem akL0_ok : InlOK Try.prog akL0 := ⟨⟨fun args w => Try.call8 args w, Try.func8, rfl, by kernel_rfl⟩, trivial⟩

noncomputable def akL1 : List (Nat × Func) := [(8, Try.f8), (23, Try.f23)]

theorem akL1_ok : InlOK Try.prog akL1 := ⟨⟨fun args w => Try.call8 args w, Try.func8, rfl, by kernel_rfl⟩, ⟨fun args w => Try.call23 args w, Try.func23, rfl, by kernel_rfl⟩, trivial⟩

noncomputable def akN0 : List (Nat × Summ) := [(22, .pure fun args _ => ckN args), (9, .pure yesS)]

theorem akN0_ok : EnvOK Try.prog akN0 := EnvOK.cons ckN_ok (EnvOK.cons wk_ok EnvOK.nil)

noncomputable def akN1 (x : FD) (o : OC) (G : Int) (len cap : Nat) : List (Nat × Summ) := [(22, .eff (ckS x o G len cap)), (9, .pure yesS)]

theorem akN1_ok (x : FD) (o : OC) (G : Int) (len cap : Nat) (hw : x.wf .i64) (hl : len ≤ cap) : EnvOK Try.prog (akN1 x o G len cap) := EnvOK.cons (ckS_ok x o G len cap hw hl) (EnvOK.cons wk_ok EnvOK.nil)

noncomputable def akF0 (n0 : Nat) : Env := { nt := Try.f5.ntmps, n0 := n0, vec := true, fns := openAll (inl Try.prog akN0 akL0), loop := fun _ _ => .fail }

theorem akF0_ok (n0 : Nat) : EnvOK Try.prog (akF0 n0).fns := EnvOK.open_ (inl_ok akN0_ok akL0 akL0_ok)

noncomputable def akF1 (x : FD) (o : OC) (G : Int) (len cap : Nat) : Env := { nt := Try.f5.ntmps, n0 := 2, vec := true, fns := openAll (inl Try.prog (akN1 x o G len cap) akL1), loop := fun _ _ => .fail }

theorem akF1_ok (x : FD) (o : OC) (G : Int) (len cap : Nat) (hw : x.wf .i64) (hl : len ≤ cap) : EnvOK Try.prog (akF1 x o G len cap).fns := EnvOK.open_ (inl_ok (akN1_ok x o G len cap hw hl) akL1 akL1_ok)

theorem ak_0n (G op op2 key : Int) : T.cut (keepT [10] (acodeL Try.prog (akF0 0) ((chainOf akF).take 3) ⟨[(0, .agg [.int .i64 G, .nils]), (1, .nils), (2, .int .i64 op), (3, .int .i64 op2), (4, .int .i64 key)], []⟩)) [2, 0] = 
  T.all fun c => T.asm (decide (c ≠ (0 : Nat))) (T.ite ((↑c : Int) == (0 : Int)) T.fail (T.ret (Ex.ret, St.mk [((10 : Nat), AV.bool true)] [some (Blk.mk true [AV.int IntKind.i64 G, AV.nils] (0 : Nat) (0 : Nat) (fun x => []) [] none), some (Blk.mk true [AV.int IntKind.i64 G, AV.nils] (0 : Nat) (0 : Nat) (fun x => []) [] none)]))) := by
  kernel_rfl

theorem ak_0p (G op op2 key : Int) (pr : Nat → Int) (np pc : Nat) : T.cut (keepT [10] (acodeL Try.prog (akF0 1) ((chainOf akF).take 3) ⟨[(0, .agg [.int .i64 G, .nils]), (1, .sl 0 0 1 0 np pc), (2, .int .i64 op), (3, .int .i64 op2), (4, .int .i64 key)], [some (inB pc pr)]⟩)) [2, 0] = 
  T.all fun c =>
    T.asm (decide (c ≠ (0 : Nat))) (T.ite ((↑c : Int) == (0 : Int)) T.fail (T.ret (Ex.ret, St.mk [((10 : Nat), AV.bool true)] [some (Blk.mk false [] (1 : Nat) pc (fun a => [AV.int IntKind.i64 (pr a)]) [] none), some (Blk.mk true [AV.int IntKind.i64 G, AV.nils] (0 : Nat) (0 : Nat) (fun x => []) [] none), some (Blk.mk true [AV.int IntKind.i64 G, AV.nils] (0 : Nat) (0 : Nat) (fun x => []) [] none)]))) := by
  kernel_rfl

theorem ak_1n (x : FD) (o : OC) (G op op2 key : Int) (len cap : Nat) : T.cut (keepT [10] (acodeL Try.prog (akF1 x o G len cap) ((chainOf akF).take 3) ⟨[(0, spA G len cap), (1, .nils), (2, .int .i64 op), (3, .int .i64 op2), (4, .int .i64 key)], spM x o cap⟩)) [2, 16, 2, 0, 0, 2, 11, 2, 0, 2, 7, 2, 0, 0, 2, 2, 2, 0] = 
  T.need (G = G ∧ len = len ∧ cap = cap)
    (T.need
      (spIn x o cap
        [some (Blk.mk false [] (0 : Nat) (0 : Nat) (fun x => []) [] (some fun js => Mem.mk (FD.nl x js) (FD.ad x js) (FD.ln x js) (FD.cp x js) (1 : Nat) fun q => [AV.int IntKind.i64 (FD.z x (q :: js))])),
          some (Blk.mk false [] (8 : Nat) cap (fun r => [AV.int IntKind.i64 (OC.kd o r), AV.part (0 : Nat) [r], AV.int IntKind.i64 (OC.fo o r), AV.int IntKind.i64 (OC.fa o r), AV.int IntKind.i64 (OC.fb o r), AV.int IntKind.i64 (OC.pa o r), AV.int IntKind.i64 (OC.ra o r), AV.int IntKind.i64 (OC.co o r)]) [] none),
          some (Blk.mk true [AV.int IntKind.i64 G, AV.sl (1 : Nat) (0 : Nat) (8 : Nat) (0 : Nat) len cap] (0 : Nat) (0 : Nat) (fun x => []) [] none), some (Blk.mk true [AV.int IntKind.i64 G, AV.sl (1 : Nat) (0 : Nat) (8 : Nat) (0 : Nat) len cap] (0 : Nat) (0 : Nat) (fun x => []) [] none)])
      (T.all fun c =>
        T.asm (decide (c ≠ (0 : Nat) ∨ ckP x o G len))
          (T.ite ((↑c : Int) == (0 : Int))
            (T.ite ((0 : Int) != (↑len : Int))
              (T.ret
                (Ex.ret,
                  St.mk [((10 : Nat), AV.bool true)]
                    [some (Blk.mk false [] (0 : Nat) (0 : Nat) (fun x => []) [] (some fun js => Mem.mk (FD.nl x js) (FD.ad x js) (FD.ln x js) (FD.cp x js) (1 : Nat) fun q => [AV.int IntKind.i64 (FD.z x (q :: js))])),
                      some (Blk.mk false [] (8 : Nat) cap (fun r => [AV.int IntKind.i64 (OC.kd o r), AV.part (0 : Nat) [r], AV.int IntKind.i64 (OC.fo o r), AV.int IntKind.i64 (OC.fa o r), AV.int IntKind.i64 (OC.fb o r), AV.int IntKind.i64 (OC.pa o r), AV.int IntKind.i64 (OC.ra o r), AV.int IntKind.i64 (OC.co o r)]) [] none),
                      some (Blk.mk true [AV.int IntKind.i64 G, AV.sl (1 : Nat) (0 : Nat) (8 : Nat) (0 : Nat) len cap] (0 : Nat) (0 : Nat) (fun x => []) [] none), some (Blk.mk true [AV.int IntKind.i64 G, AV.sl (1 : Nat) (0 : Nat) (8 : Nat) (0 : Nat) len cap] (0 : Nat) (0 : Nat) (fun x => []) [] none),
                      some (Blk.mk true [AV.int IntKind.i64 G, AV.sl (1 : Nat) (0 : Nat) (8 : Nat) (0 : Nat) len cap] (0 : Nat) (0 : Nat) (fun x => []) [] none)]))
              (@T.chk (Ex × St) true
                (T.ite (decide (op ≥ (0 : Int)))
                  (T.ite (!decide (op < (↑len : Int)))
                    (T.ret
                      (Ex.ret,
                        St.mk [((10 : Nat), AV.bool true)]
                          [some (Blk.mk false [] (0 : Nat) (0 : Nat) (fun x => []) [] (some fun js => Mem.mk (FD.nl x js) (FD.ad x js) (FD.ln x js) (FD.cp x js) (1 : Nat) fun q => [AV.int IntKind.i64 (FD.z x (q :: js))])),
                            some (Blk.mk false [] (8 : Nat) cap (fun r => [AV.int IntKind.i64 (OC.kd o r), AV.part (0 : Nat) [r], AV.int IntKind.i64 (OC.fo o r), AV.int IntKind.i64 (OC.fa o r), AV.int IntKind.i64 (OC.fb o r), AV.int IntKind.i64 (OC.pa o r), AV.int IntKind.i64 (OC.ra o r), AV.int IntKind.i64 (OC.co o r)]) [] none),
                            some (Blk.mk true [AV.int IntKind.i64 G, AV.sl (1 : Nat) (0 : Nat) (8 : Nat) (0 : Nat) len cap] (0 : Nat) (0 : Nat) (fun x => []) [] none), some (Blk.mk true [AV.int IntKind.i64 G, AV.sl (1 : Nat) (0 : Nat) (8 : Nat) (0 : Nat) len cap] (0 : Nat) (0 : Nat) (fun x => []) [] none),
                            some (Blk.mk true [AV.int IntKind.i64 G, AV.sl (1 : Nat) (0 : Nat) (8 : Nat) (0 : Nat) len cap] (0 : Nat) (0 : Nat) (fun x => []) [] none)]))
                    (T.need (G = G ∧ len = len ∧ cap = cap)
                      (T.need
                        (spIn x o cap
                          [some (Blk.mk false [] (0 : Nat) (0 : Nat) (fun x => []) [] (some fun js => Mem.mk (FD.nl x js) (FD.ad x js) (FD.ln x js) (FD.cp x js) (1 : Nat) fun q => [AV.int IntKind.i64 (FD.z x (q :: js))])),
                            some (Blk.mk false [] (8 : Nat) cap (fun r => [AV.int IntKind.i64 (OC.kd o r), AV.part (0 : Nat) [r], AV.int IntKind.i64 (OC.fo o r), AV.int IntKind.i64 (OC.fa o r), AV.int IntKind.i64 (OC.fb o r), AV.int IntKind.i64 (OC.pa o r), AV.int IntKind.i64 (OC.ra o r), AV.int IntKind.i64 (OC.co o r)]) [] none),
                            some (Blk.mk true [AV.int IntKind.i64 G, AV.sl (1 : Nat) (0 : Nat) (8 : Nat) (0 : Nat) len cap] (0 : Nat) (0 : Nat) (fun x => []) [] none), some (Blk.mk true [AV.int IntKind.i64 G, AV.sl (1 : Nat) (0 : Nat) (8 : Nat) (0 : Nat) len cap] (0 : Nat) (0 : Nat) (fun x => []) [] none),
                            some (Blk.mk true [AV.int IntKind.i64 G, AV.sl (1 : Nat) (0 : Nat) (8 : Nat) (0 : Nat) len cap] (0 : Nat) (0 : Nat) (fun x => []) [] none), some (Blk.mk true [AV.int IntKind.i64 G, AV.sl (1 : Nat) (0 : Nat) (8 : Nat) (0 : Nat) len cap] (0 : Nat) (0 : Nat) (fun x => []) [] none)])
                        (T.all fun c =>
                          T.asm (decide (c ≠ (0 : Nat) ∨ ckP x o G len))
                            (T.ite ((↑c : Int) == (0 : Int))
                              (T.ite ((0 : Int) != (↑len : Int))
                                (T.ret
                                  (Ex.ret,
                                    St.mk [((10 : Nat), AV.bool true)]
                                      [some (Blk.mk false [] (0 : Nat) (0 : Nat) (fun x => []) [] (some fun js => Mem.mk (FD.nl x js) (FD.ad x js) (FD.ln x js) (FD.cp x js) (1 : Nat) fun q => [AV.int IntKind.i64 (FD.z x (q :: js))])),
                                        some (Blk.mk false [] (8 : Nat) cap (fun r => [AV.int IntKind.i64 (OC.kd o r), AV.part (0 : Nat) [r], AV.int IntKind.i64 (OC.fo o r), AV.int IntKind.i64 (OC.fa o r), AV.int IntKind.i64 (OC.fb o r), AV.int IntKind.i64 (OC.pa o r), AV.int IntKind.i64 (OC.ra o r), AV.int IntKind.i64 (OC.co o r)]) [] none),
                                        some (Blk.mk true [AV.int IntKind.i64 G, AV.sl (1 : Nat) (0 : Nat) (8 : Nat) (0 : Nat) len cap] (0 : Nat) (0 : Nat) (fun x => []) [] none), some (Blk.mk true [AV.int IntKind.i64 G, AV.sl (1 : Nat) (0 : Nat) (8 : Nat) (0 : Nat) len cap] (0 : Nat) (0 : Nat) (fun x => []) [] none),
                                        some (Blk.mk true [AV.int IntKind.i64 G, AV.sl (1 : Nat) (0 : Nat) (8 : Nat) (0 : Nat) len cap] (0 : Nat) (0 : Nat) (fun x => []) [] none), some (Blk.mk true [AV.int IntKind.i64 G, AV.sl (1 : Nat) (0 : Nat) (8 : Nat) (0 : Nat) len cap] (0 : Nat) (0 : Nat) (fun x => []) [] none),
                                        some (Blk.mk true [AV.int IntKind.i64 G, AV.sl (1 : Nat) (0 : Nat) (8 : Nat) (0 : Nat) len cap] (0 : Nat) (0 : Nat) (fun x => []) [] none)]))
                                (@T.chk (Ex × St) true
                                  (T.ite (decide (op2 ≥ (0 : Int)))
                                    (T.ite (!decide (op2 < (↑len : Int)))
                                      (T.ret
                                        (Ex.ret,
                                          St.mk [((10 : Nat), AV.bool true)]
                                            [some (Blk.mk false [] (0 : Nat) (0 : Nat) (fun x => []) [] (some fun js => Mem.mk (FD.nl x js) (FD.ad x js) (FD.ln x js) (FD.cp x js) (1 : Nat) fun q => [AV.int IntKind.i64 (FD.z x (q :: js))])),
                                              some (Blk.mk false [] (8 : Nat) cap (fun r => [AV.int IntKind.i64 (OC.kd o r), AV.part (0 : Nat) [r], AV.int IntKind.i64 (OC.fo o r), AV.int IntKind.i64 (OC.fa o r), AV.int IntKind.i64 (OC.fb o r), AV.int IntKind.i64 (OC.pa o r), AV.int IntKind.i64 (OC.ra o r), AV.int IntKind.i64 (OC.co o r)]) [] none),
                                              some (Blk.mk true [AV.int IntKind.i64 G, AV.sl (1 : Nat) (0 : Nat) (8 : Nat) (0 : Nat) len cap] (0 : Nat) (0 : Nat) (fun x => []) [] none), some (Blk.mk true [AV.int IntKind.i64 G, AV.sl (1 : Nat) (0 : Nat) (8 : Nat) (0 : Nat) len cap] (0 : Nat) (0 : Nat) (fun x => []) [] none),
                                              some (Blk.mk true [AV.int IntKind.i64 G, AV.sl (1 : Nat) (0 : Nat) (8 : Nat) (0 : Nat) len cap] (0 : Nat) (0 : Nat) (fun x => []) [] none), some (Blk.mk true [AV.int IntKind.i64 G, AV.sl (1 : Nat) (0 : Nat) (8 : Nat) (0 : Nat) len cap] (0 : Nat) (0 : Nat) (fun x => []) [] none),
                                              some (Blk.mk true [AV.int IntKind.i64 G, AV.sl (1 : Nat) (0 : Nat) (8 : Nat) (0 : Nat) len cap] (0 : Nat) (0 : Nat) (fun x => []) [] none)]))
                                      (T.ret
                                        (Ex.norm,
                                          St.mk [((10 : Nat), AV.ff)]
                                            [some (Blk.mk false [] (0 : Nat) (0 : Nat) (fun x => []) [] (some fun js => Mem.mk (FD.nl x js) (FD.ad x js) (FD.ln x js) (FD.cp x js) (1 : Nat) fun q => [AV.int IntKind.i64 (FD.z x (q :: js))])),
                                              some (Blk.mk false [] (8 : Nat) cap (fun r => [AV.int IntKind.i64 (OC.kd o r), AV.part (0 : Nat) [r], AV.int IntKind.i64 (OC.fo o r), AV.int IntKind.i64 (OC.fa o r), AV.int IntKind.i64 (OC.fb o r), AV.int IntKind.i64 (OC.pa o r), AV.int IntKind.i64 (OC.ra o r), AV.int IntKind.i64 (OC.co o r)]) [] none),
                                              some (Blk.mk true [AV.int IntKind.i64 G, AV.sl (1 : Nat) (0 : Nat) (8 : Nat) (0 : Nat) len cap] (0 : Nat) (0 : Nat) (fun x => []) [] none), some (Blk.mk true [AV.int IntKind.i64 G, AV.sl (1 : Nat) (0 : Nat) (8 : Nat) (0 : Nat) len cap] (0 : Nat) (0 : Nat) (fun x => []) [] none),
                                              some (Blk.mk true [AV.int IntKind.i64 G, AV.sl (1 : Nat) (0 : Nat) (8 : Nat) (0 : Nat) len cap] (0 : Nat) (0 : Nat) (fun x => []) [] none), some (Blk.mk true [AV.int IntKind.i64 G, AV.sl (1 : Nat) (0 : Nat) (8 : Nat) (0 : Nat) len cap] (0 : Nat) (0 : Nat) (fun x => []) [] none),
                                              some (Blk.mk true [AV.int IntKind.i64 G, AV.sl (1 : Nat) (0 : Nat) (8 : Nat) (0 : Nat) len cap] (0 : Nat) (0 : Nat) (fun x => []) [] none)])))
                                    (T.ret
                                      (Ex.ret,
                                        St.mk [((10 : Nat), AV.bool true)]
                                          [some (Blk.mk false [] (0 : Nat) (0 : Nat) (fun x => []) [] (some fun js => Mem.mk (FD.nl x js) (FD.ad x js) (FD.ln x js) (FD.cp x js) (1 : Nat) fun q => [AV.int IntKind.i64 (FD.z x (q :: js))])),
                                            some (Blk.mk false [] (8 : Nat) cap (fun r => [AV.int IntKind.i64 (OC.kd o r), AV.part (0 : Nat) [r], AV.int IntKind.i64 (OC.fo o r), AV.int IntKind.i64 (OC.fa o r), AV.int IntKind.i64 (OC.fb o r), AV.int IntKind.i64 (OC.pa o r), AV.int IntKind.i64 (OC.ra o r), AV.int IntKind.i64 (OC.co o r)]) [] none),
                                            some (Blk.mk true [AV.int IntKind.i64 G, AV.sl (1 : Nat) (0 : Nat) (8 : Nat) (0 : Nat) len cap] (0 : Nat) (0 : Nat) (fun x => []) [] none), some (Blk.mk true [AV.int IntKind.i64 G, AV.sl (1 : Nat) (0 : Nat) (8 : Nat) (0 : Nat) len cap] (0 : Nat) (0 : Nat) (fun x => []) [] none),
                                            some (Blk.mk true [AV.int IntKind.i64 G, AV.sl (1 : Nat) (0 : Nat) (8 : Nat) (0 : Nat) len cap] (0 : Nat) (0 : Nat) (fun x => []) [] none), some (Blk.mk true [AV.int IntKind.i64 G, AV.sl (1 : Nat) (0 : Nat) (8 : Nat) (0 : Nat) len cap] (0 : Nat) (0 : Nat) (fun x => []) [] none),
                                            some (Blk.mk true [AV.int IntKind.i64 G, AV.sl (1 : Nat) (0 : Nat) (8 : Nat) (0 : Nat) len cap] (0 : Nat) (0 : Nat) (fun x => []) [] none)])))))
                              (T.ret
                                (Ex.ret,
                                  St.mk [((10 : Nat), AV.bool true)]
                                    [some (Blk.mk false [] (0 : Nat) (0 : Nat) (fun x => []) [] (some fun js => Mem.mk (FD.nl x js) (FD.ad x js) (FD.ln x js) (FD.cp x js) (1 : Nat) fun q => [AV.int IntKind.i64 (FD.z x (q :: js))])),
                                      some (Blk.mk false [] (8 : Nat) cap (fun r => [AV.int IntKind.i64 (OC.kd o r), AV.part (0 : Nat) [r], AV.int IntKind.i64 (OC.fo o r), AV.int IntKind.i64 (OC.fa o r), AV.int IntKind.i64 (OC.fb o r), AV.int IntKind.i64 (OC.pa o r), AV.int IntKind.i64 (OC.ra o r), AV.int IntKind.i64 (OC.co o r)]) [] none),
                                      some (Blk.mk true [AV.int IntKind.i64 G, AV.sl (1 : Nat) (0 : Nat) (8 : Nat) (0 : Nat) len cap] (0 : Nat) (0 : Nat) (fun x => []) [] none), some (Blk.mk true [AV.int IntKind.i64 G, AV.sl (1 : Nat) (0 : Nat) (8 : Nat) (0 : Nat) len cap] (0 : Nat) (0 : Nat) (fun x => []) [] none),
                                      some (Blk.mk true [AV.int IntKind.i64 G, AV.sl (1 : Nat) (0 : Nat) (8 : Nat) (0 : Nat) len cap] (0 : Nat) (0 : Nat) (fun x => []) [] none), some (Blk.mk true [AV.int IntKind.i64 G, AV.sl (1 : Nat) (0 : Nat) (8 : Nat) (0 : Nat) len cap] (0 : Nat) (0 : Nat) (fun x => []) [] none)])))))))
                  (T.ret
                    (Ex.ret,
                      St.mk [((10 : Nat), AV.bool true)]
                        [some (Blk.mk false [] (0 : Nat) (0 : Nat) (fun x => []) [] (some fun js => Mem.mk (FD.nl x js) (FD.ad x js) (FD.ln x js) (FD.cp x js) (1 : Nat) fun q => [AV.int IntKind.i64 (FD.z x (q :: js))])),
                          some (Blk.mk false [] (8 : Nat) cap (fun r => [AV.int IntKind.i64 (OC.kd o r), AV.part (0 : Nat) [r], AV.int IntKind.i64 (OC.fo o r), AV.int IntKind.i64 (OC.fa o r), AV.int IntKind.i64 (OC.fb o r), AV.int IntKind.i64 (OC.pa o r), AV.int IntKind.i64 (OC.ra o r), AV.int IntKind.i64 (OC.co o r)]) [] none),
                          some (Blk.mk true [AV.int IntKind.i64 G, AV.sl (1 : Nat) (0 : Nat) (8 : Nat) (0 : Nat) len cap] (0 : Nat) (0 : Nat) (fun x => []) [] none), some (Blk.mk true [AV.int IntKind.i64 G, AV.sl (1 : Nat) (0 : Nat) (8 : Nat) (0 : Nat) len cap] (0 : Nat) (0 : Nat) (fun x => []) [] none),
                          some (Blk.mk true [AV.int IntKind.i64 G, AV.sl (1 : Nat) (0 : Nat) (8 : Nat) (0 : Nat) len cap] (0 : Nat) (0 : Nat) (fun x => []) [] none)])))))
            (T.ret
              (Ex.ret,
                St.mk [((10 : Nat), AV.bool true)]
                  [some (Blk.mk false [] (0 : Nat) (0 : Nat) (fun x => []) [] (some fun js => Mem.mk (FD.nl x js) (FD.ad x js) (FD.ln x js) (FD.cp x js) (1 : Nat) fun q => [AV.int IntKind.i64 (FD.z x (q :: js))])),
                    some (Blk.mk false [] (8 : Nat) cap (fun r => [AV.int IntKind.i64 (OC.kd o r), AV.part (0 : Nat) [r], AV.int IntKind.i64 (OC.fo o r), AV.int IntKind.i64 (OC.fa o r), AV.int IntKind.i64 (OC.fb o r), AV.int IntKind.i64 (OC.pa o r), AV.int IntKind.i64 (OC.ra o r), AV.int IntKind.i64 (OC.co o r)]) [] none),
                    some (Blk.mk true [AV.int IntKind.i64 G, AV.sl (1 : Nat) (0 : Nat) (8 : Nat) (0 : Nat) len cap] (0 : Nat) (0 : Nat) (fun x => []) [] none), some (Blk.mk true [AV.int IntKind.i64 G, AV.sl (1 : Nat) (0 : Nat) (8 : Nat) (0 : Nat) len cap] (0 : Nat) (0 : Nat) (fun x => []) [] none)]))))) := by
  kernel_rfl



set_option maxRecDepth 100000
set_option maxHeartbeats 4000000
set_option linter.unusedVariables false
set_option linter.unusedSimpArgs false

theorem ak_0 (G op op2 key : Int) (args : List AV) (m : AM) (ha : args = [.agg [.int .i64 G, .nils], .nils, .int .i64 op, .int .i64 op2, .int .i64 key]) (hm : m = []) : YesAt Try.prog 5 args m := by
  subst ha hm
  refine fn_okA (E := akF0 0) (c := akF) Try.func5 rfl rfl rfl (Nat.le_of_ble_eq_true (by kernel_rfl)) fun Q hq => ?_
  have hR : FnPost Try.prog Try.f5 0 Q (.ret, ⟨[(10, .bool true)], []⟩) := yes_post ak_res hq rfl rfl
  have e := ak_0n G op op2 key
  have hl3 : ∀ x' ∈ (chainOf akF).take 3, ∀ c' ∈ loopsIn x', LoopOK Try.prog (akF0 0) c' := noLoopsL_ok (by kernel_rfl)
  generalize chainOf akF = C at e hl3 ⊢
  refine awpl_cut (E := akF0 0) (akF0_ok 0) 3 hl3 (weak_keep [10] (T.cut_eq e (T.hall fun c => T.hasmP fun hc => T.hiteE (fun h => ?_) (fun h => T.hret ?_))))
  · exact absurd (by omega) hc
  · exact ⟨id, ⟨[(10, .bool true)], []⟩, SubSt.mk (by simp [SubFr, slotAt, ren, below]) (Sub.nothing (n := 0) _), hR⟩

theorem ak_0' (G op op2 key : Int) (pr : Nat → Int) (np pc : Nat) (args : List AV) (m : AM) (ha : args = [.agg [.int .i64 G, .nils], .sl 0 0 1 0 np pc, .int .i64 op, .int .i64 op2, .int .i64 key]) (hm : m = [some (inB pc pr)]) : YesAt Try.prog 5 args m := by
  subst ha hm
  refine fn_okA (E := akF0 1) (c := akF) Try.func5 rfl rfl rfl (Nat.le_of_ble_eq_true (by kernel_rfl)) fun Q hq => ?_
  have hR : FnPost Try.prog Try.f5 1 Q (.ret, ⟨[(10, .bool true)], [none]⟩) := yes_post ak_res hq rfl rfl
  have e := ak_0p G op op2 key pr np pc
  have hl3 : ∀ x' ∈ (chainOf akF).take 3, ∀ c' ∈ loopsIn x', LoopOK Try.prog (akF0 1) c' := noLoopsL_ok (by kernel_rfl)
  generalize chainOf akF = C at e hl3 ⊢
  refine awpl_cut (E := akF0 1) (akF0_ok 1) 3 hl3 (weak_keep [10] (T.cut_eq e (T.hall fun c => T.hasmP fun hc => T.hiteE (fun h => ?_) (fun h => T.hret ?_))))
  · exact absurd (by omega) hc
  · exact ⟨id, ⟨[(10, .bool true)], [none]⟩, SubSt.mk (by simp [SubFr, slotAt, ren, below]) (Sub.nothing (n := 1) _), hR⟩

theorem ak_1 (x : FD) (o : OC) (G op op2 key : Int) (len cap : Nat) (hw : x.wf .i64) (hl : len ≤ cap) (args : List AV) (m : AM) (ha : args = [spA G len cap, .nils, .int .i64 op, .int .i64 op2, .int .i64 key]) (hm : m = spM x o cap) : YesAt Try.prog 5 args m := by
  subst ha hm
  refine fn_okA (E := akF1 x o G len cap) (c := akF) Try.func5 rfl rfl rfl (Nat.le_of_ble_eq_true (by kernel_rfl)) fun Q hq => ?_
  have hR : FnPost Try.prog Try.f5 2 Q (.ret, ⟨[(10, .bool true)], [none, none]⟩) := yes_post ak_res hq rfl rfl
  have e := ak_1n x o G op op2 key len cap
  have hl3 : ∀ x' ∈ (chainOf akF).take 3, ∀ c' ∈ loopsIn x', LoopOK Try.prog (akF1 x o G len cap) c' := noLoopsL_ok (by kernel_rfl)
  generalize chainOf akF = C at e hl3 ⊢
  have ret : ∀ st, slotAt st.fr 10 = some (.bool true) → Weak (akF1 x o G len cap) (Then (FnPost Try.prog Try.f5 2 Q) fun st' => AWpL Try.prog (akF1 x o G len cap) (C.drop 3) st' (FnPost Try.prog Try.f5 2 Q)) (.ret, st) := fun st hs =>
    ⟨id, ⟨[(10, .bool true)], [none, none]⟩, SubSt.mk (by simp [SubFr, hs, ren, below]) (Sub.nothing (n := 2) _), hR⟩
  refine awpl_cut (E := akF1 x o G len cap) (akF1_ok x o G len cap hw hl) 3 hl3 (weak_keep [10] (T.cut_eq e (T.hneed ⟨rfl, rfl, rfl⟩ (T.hneed ⟨rfl, rfl⟩ (T.hall fun c => T.hasmP fun hc => T.hiteE (fun h => T.hiteN (fun _ => T.hret (ret _ rfl)) (fun h0 => ?_)) (fun h => T.hret (ret _ rfl)))))))
  rcases hc with hc | hc
  · exact absurd (by omega) hc
  · have := hc.2.1.1
    omega

theorem akE1_nt (x : FD) (o : OC) (G : Int) (len cap : Nat) : (akE1 x o G len cap).nt = Try.f5.ntmps := rfl

theorem akE2_nt (x : FD) (o : OC) (G : Int) (len cap : Nat) : (akE2 x o G len cap).nt = Try.f5.ntmps := rfl

theorem akE1_n0 (x : FD) (o : OC) (G : Int) (len cap : Nat) : (akE1 x o G len cap).n0 = 3 := rfl

theorem akE2_n0 (x : FD) (o : OC) (G : Int) (len cap : Nat) : (akE2 x o G len cap).n0 = 3 := rfl

theorem ak_tail (x : FD) (o : OC) (G op op2 key : Int) (len cap : Nat) (hk0 : spOK x len cap) (pr : Nat → Int) (np pc : Nat) (hp : np ≤ pc) (hU : tgU np (usG x len op) (usL x len op).length) (hV : tgU np (usG x len op2) (usL x len op2).length) {Q : AV × AM → Prop} (hR : FnPost Try.prog Try.f5 3 Q (.ret, ⟨[(10, .bool true)], [none, none, none]⟩)) {C : List Code} (hC : C = (chainOf akF).drop 3) :
    AWpL Try.prog (akE2 x o G len cap) C (akS0 x o G key op op2 len cap pr np pc) (FnPost Try.prog Try.f5 3 Q) := by
  have hE := akE2_ok x o G len cap hk0
  have e := ak_b x o G key op op2 len cap pr np pc
  have en := ak_n x o G len cap [none, none, none]
  have ez := ak_z x o G len cap [none, none, none]
  have k0 := ak_k0
  have hl3 : ∀ x' ∈ ((chainOf akF).drop 3).take 3, ∀ c' ∈ loopsIn x', LoopOK Try.prog (akE2 x o G len cap) c' := noLoopsL_ok (by kernel_rfl)
  have hl7 : ∀ x' ∈ (chainOf akF).drop 7, ∀ c' ∈ loopsIn x', LoopOK Try.prog (akE2 x o G len cap) c' := noLoopsL_ok (by kernel_rfl)
  have hln : ∀ x' ∈ (chainOf akC).take 2, ∀ c' ∈ loopsIn x', LoopOK Try.prog (akE2 x o G len cap) c' := noLoopsL_ok (by kernel_rfl)
  rw [← hC] at e k0 hl3
  clear hC
  generalize (chainOf akF).drop 7 = D at ez k0 hl7
  generalize usG x len op = u at e hU ⊢
  generalize (usL x len op).length = un at e hU ⊢
  generalize usG x len op2 = v at e hV ⊢
  generalize (usL x len op2).length = vn at e hV ⊢
  have Z : AWpL Try.prog (akE2 x o G len cap) D ⟨[], [none, none, none]⟩ (FnPost Try.prog Try.f5 3 Q) :=
    awpl_end (E := akE2 x o G len cap) hE hl7 (weak_keep [10] (T.cut_eq ez (T.hret ⟨id, ⟨[(10, .bool true)], [none, none, none]⟩, SubSt.mk (by simp [SubFr, slotAt, ren, below]) (Sub.nothing (n := 3) _), hR⟩)))
  have zs : ∀ st : St, SubSt 3 id st ⟨[], [none, none, none]⟩ := fun st => SubSt.mk (by simp [SubFr]) (Sub.nothing (n := 3) _)
  have R0 : AWpL Try.prog (akE2 x o G len cap) (.block 0 (.loop akC) :: D) ⟨[(11, .nils), (13, .int .i64 0)], [none, none, none]⟩ (FnPost Try.prog Try.f5 3 Q) := by
    refine awpl_block (awpl_one (loop_free (fun _ : Unit => ⟨[(11, .nils), (13, .int .i64 0)], [none, none, none]⟩) (fun _ => True) (fun _ => 0) (fun t ht => ?_) () trivial))
    refine awp_chain ?_
    generalize chainOf akC = CC at en hln ⊢
    refine awpl_cut (E := akE2 x o G len cap) hE 2 hln (weak_keep [] (T.cut_eq en (T.hchkT (T.hret ⟨id, ⟨[], [none, none, none]⟩, zs _, ⟨id, ⟨[], [none, none, none]⟩, zs _, ?_⟩⟩))))
    exact Z
  have R1 : ∀ c, un ≤ c → AWpL Try.prog (akE2 x o G len cap) (.block 0 (.loop akC) :: D) (akO1 x o cap pr np pc u (owAt G key pr u) un c 0) (FnPost Try.prog Try.f5 3 Q) := fun c hc => by
    refine awpl_block (awpl_one (ak_lp1 x o G len cap hk0 pr np pc u (owAt G key pr u) un c hU.1 ?_))
    show AWpL Try.prog (akE2 x o G len cap) D (akO1 x o cap pr np pc u (owAt G key pr u) un c un) _
    exact AWpL.sub (E := akE2 x o G len cap) (zs _) Z
  have R2 : ∀ c d, un ≤ c → vn ≤ d → AWpL Try.prog (akE2 x o G len cap) (.block 0 (.loop akC) :: D) (akO2 x o cap pr np pc u (owAt G key pr u) un c v (owAt G key pr v) vn d 0) (FnPost Try.prog Try.f5 3 Q) := fun c d hc hd => by
    refine awpl_block (awpl_one (ak_lp2 x o G key len cap hk0 pr np pc hp u un c v vn d hU hV hc hd ?_))
    show AWpL Try.prog (akE2 x o G len cap) D (akO2 x o cap pr np pc u (owAt G key pr u) un c v (owAt G key pr v) vn d un) _
    exact AWpL.sub (E := akE2 x o G len cap) (zs _) Z
  rw [← k0] at R0 R1 R2
  refine awpl_cut (E := akE2 x o G len cap) hE 3 hl3 (weak_keep [1, 11, 12, 13] (T.cut_eq e ?_))
  refine T.hneed ⟨rfl, rfl, rfl⟩ (T.hneed ⟨rfl, rfl⟩ (T.hneed ⟨IntRow.rows, rfl, hp, by decide, by decide⟩ (T.hneed hU (T.hiteP (fun h0 => ?_) (fun h0 => T.hall fun c => T.hasmP fun hc => ?_)))))
  · refine T.hneed ⟨rfl, rfl, rfl⟩ (T.hneed ⟨rfl, rfl⟩ (T.hneed ⟨IntRow.rows, rfl, hp, by decide, by decide⟩ (T.hneed hV (T.hiteP (fun h1 => T.hret ?_) (fun h1 => T.hall fun d => T.hasmP fun hd => T.hret ?_)))))
    · exact ⟨id, ⟨[(11, .nils), (13, .int .i64 0)], [none, none, none]⟩, SubSt.mk (by simp [SubFr, slotAt, ren, below]) (Sub.nothing (n := 3) _), R0⟩
    · exact ⟨id, ⟨[(11, .nils), (13, .int .i64 0)], [none, none, none]⟩, SubSt.mk (by simp [SubFr, slotAt, ren, below]) (Sub.nothing (n := 3) _), R0⟩
  · refine T.hneed ⟨rfl, rfl, rfl⟩ (T.hneed ⟨rfl, rfl⟩ (T.hneed ⟨IntRow.rows, rfl, hp, by decide, by decide⟩ (T.hneed hV (T.hiteP (fun h1 => T.hret ?_) (fun h1 => T.hall fun d => T.hasmP fun hd => T.hret ?_)))))
    · exact ⟨rhoL [0, 1, 2, 4], akO1 x o cap pr np pc u (owAt G key pr u) un c 0, subStL [0, 1, 2, 4] rfl rfl rfl (Nat.le_of_ble_eq_true rfl) (by simp [akO1, akM1, tgM, spM, SubFr, slotAt, ren, below, rhoL]) ⟨⟨_, rfl, x.ok⟩, ⟨_, rfl, ops_ok rfl (Nat.succ_pos _)⟩, ⟨_, rfl, in_ok⟩, ⟨_, rfl, ap2_same⟩, trivial⟩, R1 c hc⟩
    · exact ⟨rhoL [0, 1, 2, 4, 5], akO2 x o cap pr np pc u (owAt G key pr u) un c v (owAt G key pr v) vn d 0, subStL [0, 1, 2, 4, 5] rfl rfl rfl (Nat.le_of_ble_eq_true rfl) (by simp [akO2, akM2, tgM, spM, SubFr, slotAt, ren, below, rhoL]) ⟨⟨_, rfl, x.ok⟩, ⟨_, rfl, ops_ok rfl (Nat.succ_pos _)⟩, ⟨_, rfl, in_ok⟩, ⟨_, rfl, ap2_same⟩, ⟨_, rfl, ap2_same⟩, trivial⟩, R2 c d hc hd⟩

theorem ak_2 (x : FD) (o : OC) (G op op2 key : Int) (len cap : Nat) (hw : x.wf .i64) (hl : len ≤ cap) (pr : Nat → Int) (np pc : Nat) (hp : np ≤ pc) (args : List AV) (m : AM) (ha : args = [spA G len cap, .sl 2 0 1 0 np pc, .int .i64 op, .int .i64 op2, .int .i64 key]) (hm : m = tgM x o cap pr pc) : YesAt Try.prog 5 args m := by
  subst ha hm
  refine fn_okA (E := akE1 x o G len cap) (c := akF) Try.func5 rfl rfl rfl (Nat.le_of_ble_eq_true (by kernel_rfl)) fun Q hq => ?_
  have hR : FnPost Try.prog Try.f5 3 Q (.ret, ⟨[(10, .bool true)], [none, none, none]⟩) := yes_post ak_res hq rfl rfl
  have e := ak_a x o G key op op2 len cap pr np pc
  have hl3 : ∀ x' ∈ (chainOf akF).take 3, ∀ c' ∈ loopsIn x', LoopOK Try.prog (akE1 x o G len cap) c' := noLoopsL_ok (by kernel_rfl)
  have tail := fun (hk0 : spOK x len cap) (hU : tgU np (usG x len op) (usL x len op).length) (hV : tgU np (usG x len op2) (usL x len op2).length) => ak_tail x o G op op2 key len cap hk0 pr np pc hp hU hV hR rfl
  generalize chainOf akF = C at e hl3 tail ⊢
  have ret : ∀ st, slotAt st.fr 10 = some (.bool true) → Weak (akE1 x o G len cap) (Then (FnPost Try.prog Try.f5 3 Q) fun st' => AWpL Try.prog (akE1 x o G len cap) (C.drop 3) st' (FnPost Try.prog Try.f5 3 Q)) (.ret, st) := fun st hs =>
    ⟨id, ⟨[(10, .bool true)], [none, none, none]⟩, SubSt.mk (by simp [SubFr, hs, ren, below]) (Sub.nothing (n := 3) _), hR⟩
  refine awpl_cut (E := akE1 x o G len cap) (akE1_ok x o G len cap hw hl) 3 hl3 (weak_keep [1, 2, 3, 4, 5, 10] (T.cut_eq e ?_))
  refine T.hneed ⟨rfl, rfl, rfl⟩ (T.hneed ⟨rfl, rfl⟩ (T.hneed ⟨IntRow.rows, rfl, hp⟩ (T.hall fun c => T.hasmP fun hc => T.hiteFP (fun _ => T.hret (ret _ rfl)) (fun h0 => ?_))))
  refine T.hneed ⟨rfl, rfl, rfl⟩ (T.hneed ⟨rfl, rfl⟩ (T.hneed ⟨IntRow.rows, rfl, hp⟩ (T.hall fun d => T.hasmP fun hd => T.hiteFP (fun _ => T.hret (ret _ rfl)) (fun h1 => T.hret ?_))))
  have hg : rgP x o G op len pr np := hc.resolve_left (fun h => h h0)
  have h12 : len ≤ 12 := hg.1.2.1.2
  have hn : np = len := hg.2.1.1
  have hk0 : spOK x len cap := ⟨hw, hl, by omega, fun r hr => Nat.le_trans (hw.le [r]) (hw.max [r])⟩
  have hU : tgU np (usG x len op) (usL x len op).length := by rw [hn]; exact us_rng x len op h12
  have hV : tgU np (usG x len op2) (usL x len op2).length := by rw [hn]; exact us_rng x len op2 h12
  refine ⟨id, akS0 x o G key op op2 len cap pr np pc, SubSt.mk (by simp [akS0, tgM, spM, SubFr, slotAt, ren, below]) (Sub.of ⟨⟨_, rfl, x.ok⟩, ⟨_, rfl, ops_ok rfl (Nat.succ_pos _)⟩, ⟨_, rfl, in_ok⟩, ⟨_, rfl, box_ok rfl (by simp [akS0, tgM, spM])⟩, trivial⟩ (fun _ _ _ _ h => h) (fun _ _ => rfl) (Nat.le_of_ble_eq_true rfl)), ?_⟩
  exact AWpL.env' (E := akE1 x o G len cap) (E' := akE2 x o G len cap) ((akE2_nt x o G len cap).trans (akE1_nt x o G len cap).symm) ((akE2_n0 x o G len cap).trans (akE1_n0 x o G len cap).symm) (tail hk0 hU hV)

theorem ak_law : ∀ args m, ArgsAVn [PK.agg [CK.int IntKind.i64, CK.sl [CK.int IntKind.i64, CK.sl [CK.int IntKind.i64], CK.int IntKind.i64, CK.int IntKind.i64, CK.int IntKind.i64, CK.int IntKind.i64, CK.int IntKind.i64, CK.int IntKind.i64]], PK.one (CK.sl [CK.int IntKind.i64]), PK.one (CK.int IntKind.i64), PK.one (CK.int IntKind.i64), PK.one (CK.int IntKind.i64)] [] args m → YesAt Try.prog 5 args m := by
  intro args m h
  obtain ⟨cs, _, m1, rfl, hc, h⟩ := argsN_agg h
  obtain ⟨G, _, rfl, _, hc1⟩ := cellsN_int hc
  rcases cellsN_sl hc1 with ⟨_, rfl, hd⟩ | ⟨len, cap, g, A, _, rfl, hA, hAl, h1, h2, h3, hd⟩
  · obtain ⟨rfl, rfl⟩ := cellsN_nil hd
    rcases argsN_sl h with ⟨_, rfl, k⟩ | ⟨np, pc, gp, A, _, rfl, hB, hBl, p1, p2, p3, k⟩
    · obtain ⟨op, _, rfl, _, k1⟩ := argsN_int k
      obtain ⟨op2, _, rfl, _, k2⟩ := argsN_int k1
      obtain ⟨key, _, rfl, _, k3⟩ := argsN_int k2
      obtain ⟨rfl, rfl⟩ := argsN_nil k3
      exact ak_0 G op op2 key _ _ rfl rfl
    · obtain rfl := fams_nil (fams_int hB)
      obtain ⟨op, _, rfl, _, k1⟩ := argsN_int k
      obtain ⟨op2, _, rfl, _, k2⟩ := argsN_int k1
      obtain ⟨key, _, rfl, _, k3⟩ := argsN_int k2
      obtain ⟨rfl, rfl⟩ := argsN_nil k3
      exact ak_0' G op op2 key (fun r => intV (gp r 0)) np pc _ _ rfl rfl
  · obtain ⟨rfl, rfl⟩ := cellsN_nil hd
    obtain ⟨x, A1, hx, hA2, rfl⟩ := fams_ints (fams_int hA)
    obtain rfl := fams_nil (fams_int (fams_int (fams_int (fams_int (fams_int (fams_int hA2))))))
    rcases argsN_sl h with ⟨_, rfl, k⟩ | ⟨np, pc, gp, A, _, rfl, hB, hBl, p1, p2, p3, k⟩
    · obtain ⟨op, _, rfl, _, k1⟩ := argsN_int k
      obtain ⟨op2, _, rfl, _, k2⟩ := argsN_int k1
      obtain ⟨key, _, rfl, _, k3⟩ := argsN_int k2
      obtain ⟨rfl, rfl⟩ := argsN_nil k3
      exact ak_1 x ⟨fun r => intV (g r 0), fun r => intV (g r 2), fun r => intV (g r 3), fun r => intV (g r 4), fun r => intV (g r 5), fun r => intV (g r 6), fun r => intV (g r 7)⟩ G op op2 key len cap hx h1 _ _ rfl rfl
    · obtain rfl := fams_nil (fams_int hB)
      obtain ⟨op, _, rfl, _, k1⟩ := argsN_int k
      obtain ⟨op2, _, rfl, _, k2⟩ := argsN_int k1
      obtain ⟨key, _, rfl, _, k3⟩ := argsN_int k2
      obtain ⟨rfl, rfl⟩ := argsN_nil k3
      exact ak_2 x ⟨fun r => intV (g r 0), fun r => intV (g r 2), fun r => intV (g r 3), fun r => intV (g r 4), fun r => intV (g r 5), fun r => intV (g r 6), fun r => intV (g r 7)⟩ G op op2 key len cap hx h1 (fun r => intV (gp r 0)) np pc p1 _ _ rfl rfl

end Go.Proofs.Ytnfngaapjodpcaa
