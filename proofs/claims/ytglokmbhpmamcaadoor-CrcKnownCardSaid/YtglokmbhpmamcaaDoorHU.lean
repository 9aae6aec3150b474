/-
  Layer 2: Turns, Three.
-/
import Derived.Test.YtglokmbhpmamcaaDoorHT
namespace Go.Proofs.YtglokmbhpmamcaaDoor
open Go.Ox
set_option maxRecDepth 100000
set_option maxHeartbeats 4000000
set_option linter.unusedVariables false
set_option linter.unusedSimpArgs false

noncomputable def ltB2 : List (Nat × Summ) := (16, .eff turnedS) :: lwB

theorem ltB2_ok : EnvOK Tryd.prog ltB2 := EnvOK.cons turned_ok lwB_ok

theorem moreI_zz (f : Nat → Int) : moreI 0 f 0 = 0 := moreI_zero (by omega) f

def InB (f : Nat → Int) (n : Nat) : Prop := ∀ d, d < n → 0 ≤ f d ∧ f d < 256

theorem xrF_in {f g : Nat → Int} {N : Nat} (hf : InB f N) (hg : InB g N) : ∀ d, d < N → wI (xrF f g N N (0 + d)) = wI (f d) ^^^ wI (g d) ∧ 0 ≤ xrF f g N N (0 + d) ∧ xrF f g N N (0 + d) < 256 := by
  intro d hd
  have e : xrF f g N N (0 + d) = bits .xor .u8 (f d) (g d) := by
    unfold xrF tnF
    rw [Nat.zero_add, if_pos hd, Nat.min_self, if_pos hd]
  rw [e]
  exact xor8 (hf d hd) (hg d hd)

theorem moreI_xr {f g : Nat → Int} {N : Nat} (hf : InB f N) (hg : InB g N) : moreI 0 (fun i => xrF f g N N (0 + i)) N = iW (~~~ runP (fun i => wI (f i) ^^^ wI (g i)) (~~~ wI 0) N) := by
  unfold moreI moreW
  rw [runP_congr N fun i hi => (xrF_in hf hg i hi).1]

theorem turns_eq {f g : Nat → Int} {N : Nat} (hf : InB f N) (hg : InB g N) : bits .xor .u32 (moreI 0 f N) (moreI 0 (fun i => xrF f g N N (0 + i)) N) = iW (runP (fun i => wI (g i)) 0 N) := by
  rw [moreI_xr hf hg]
  unfold moreI moreW
  rw [xorW]
  congr 1
  have h := runP_xor (fun i => wI (f i)) (fun i => wI (g i)) (~~~ wI 0) 0 N
  rw [show (~~~ wI 0 : W32) ^^^ 0 = ~~~ wI 0 from BitVec.xor_zero] at h
  rw [h]
  generalize runP (fun i => wI (f i)) (~~~ wI 0) N = A
  generalize runP (fun i => wI (g i)) 0 N = B
  apply BitVec.eq_of_getLsbD_eq
  intro i hi
  simp only [BitVec.getLsbD_xor, BitVec.getLsbD_not, hi, decide_true, Bool.true_and]
  cases A.getLsbD i <;> cases B.getLsbD i <;> rfl

theorem three_eq {f g k : Nat → Int} {N : Nat} (hf : InB f N) (hg : InB g N) (hk : InB k N) : bits .xor .u32 (bits .xor .u32 (moreI 0 f N) (moreI 0 g N)) (moreI 0 k N) = moreI 0 (fun i => xrF (fun d => xrF f g N N (0 + d)) k N N (0 + i)) N := by
  have h1 : InB (fun d => xrF f g N N (0 + d)) N := fun d hd => (xrF_in hf hg d hd).2
  rw [moreI_xr h1 hk, runP_congr N fun i hi => by rw [(xrF_in hf hg i hi).1]]
  unfold moreI moreW
  rw [xorW, xorW]
  congr 1
  have e1 := runP_xor (fun i => wI (f i) ^^^ wI (g i)) (fun i => wI (k i)) (~~~ wI 0 ^^^ ~~~ wI 0) (~~~ wI 0) N
  have e0 : (~~~ wI 0 ^^^ ~~~ wI 0) ^^^ ~~~ wI 0 = ~~~ wI 0 := by rw [BitVec.xor_self]; exact BitVec.zero_xor
  have e2 := runP_xor (fun i => wI (f i)) (fun i => wI (g i)) (~~~ wI 0) (~~~ wI 0) N
  rw [e0, e2] at e1
  rw [e1]
  generalize runP (fun i => wI (f i)) (~~~ wI 0) N = A
  generalize runP (fun i => wI (g i)) (~~~ wI 0) N = B
  generalize runP (fun i => wI (k i)) (~~~ wI 0) N = C
  apply BitVec.eq_of_getLsbD_eq
  intro i hi
  simp only [BitVec.getLsbD_xor, BitVec.getLsbD_not, hi, decide_true, Bool.true_and]
  cases A.getLsbD i <;> cases B.getLsbD i <;> cases C.getLsbD i <;> rfl

end Go.Proofs.YtglokmbhpmamcaaDoor
