/-
  Layer 2: the document's More.
-/
import Derived.Test.YtglokmbhpmamcaaDoorHC
namespace Go.Proofs.YtglokmbhpmamcaaDoor
open Go.Ox
set_option maxRecDepth 100000
set_option maxHeartbeats 4000000
set_option linter.unusedVariables false
set_option linter.unusedSimpArgs false

theorem litG : (79764919 : Int) = iW GW := by decide

theorem and_one (x : W32) (k : Nat) : (x >>> k) &&& 1 = bitW x k := by
  apply BitVec.eq_of_getLsbD_eq
  intro i hi
  rw [BitVec.getLsbD_and, BitVec.getLsbD_ushiftRight, one_bit i hi]
  unfold bitW
  by_cases h : i = 0
  · subst h; cases hx : x.getLsbD k <;> simp [hx]
  · cases x.getLsbD k
    · simp [h]
    · simp only [if_true]; rw [one_bit i hi]; simp [h]

theorem bit_ne (a b : Bool) : (iW (if a then 1 else 0) != iW (if b then 1 else 0)) = (a != b) := by cases a <;> cases b <;> decide

theorem mb_loop : LoopOK Tryd.prog mrE (loopAt (loopAt (codeOf Tryd.f13) 0) 0) := by
  refine loopSumm_ok (E := mrE) mrF_ok (noLoops (by kernel_rfl)) mbSt mbInv (fun x => 8 - x.k) mbPick mbEnd ?_ (by kernel_rfl)
  rintro ⟨n, f, j, len, cp, r, i, k⟩ ⟨h1, h2, h3, h4⟩ Q hq
  dsimp only at h1 h2 h3 h4
  refine round_keep [1, 5, 6, 7] ?_
  rw [show mbSt ⟨n, f, j, len, cp, r, i, k⟩ = mrX n f j len cp (iW (runB r (gW f j i) k).reverse) i k from rfl, mb_tree]
  have hw : IntKind.wrap IntKind.i64 ((k : Int) + 1) = ((k + 1 : Nat) : Int) := by rw [IntWalk.i64_in _ (by omega)]; omega
  obtain ⟨u1, u2⟩ := toNat_u64 (show k < 1000 by omega)
  have hi0 : Int.toNat (i : Int) = i := by omega
  generalize hR : runB r (gW f j i) k = R
  have hF : f (j + i) = iW (gW f j i) := (iW_wI (n := f (j + i)) (by omega)).symm
  have e1 : Int.fdiv (iW R.reverse) (2 ^ 31) = iW (if R.getLsbD 0 then 1 else 0) := by rw [shrW, top_bit]
  have e2 : bits .and .u32 (IntKind.wrap .u32 (Int.fdiv (f (j + Int.toNat (i : Int))) (2 ^ min (Int.toNat (IntKind.wrap .u64 (k : Int))) 8))) 1 = iW (if (gW f j i).getLsbD k then 1 else 0) := by
    rw [hi0, u1, Nat.min_eq_left h3, hF, shrW, wrap_iW, lit1, andW, and_one]; rfl
  have e3 : IntKind.wrap .u32 (iW R.reverse * 2 ^ 1) = iW (R.reverse <<< 1) := shlW _
  rw [e1, e2, e3, bit_ne, litG, xorW]
  have hs := rev_step R ((gW f j i).getLsbD k)
  have hb : (bst (R ^^^ (if (gW f j i).getLsbD k then 1 else 0))).reverse = (runB r (gW f j i) (k + 1)).reverse := by rw [← hR]; rfl
  rw [hb] at hs
  refine T.hite (fun hk => ?_) (fun hk => ?_)
  · have hk : k < 8 := by have := of_decide_eq_true hk; omega
    refine T.hchk rfl (T.hchk (by simp; omega) (T.hchk (by simp; omega) (T.hchk (decide_eq_true u2) (T.hchk rfl (T.hite (fun hne => ?_) (fun hne => ?_))))))
    · have hne : ¬ R.getLsbD 0 = (gW f j i).getLsbD k := by simpa using hne
      rw [if_neg hne] at hs
      exact Round.go ⟨n, f, j, len, cp, r, i, k + 1⟩ id ⟨h1, h2, hk, h4⟩ (by dsimp only; omega) (SubSt.mk (by simp only [mbSt, mrX, hs, hw]; simp [SubFr, slotAt, ren, below]) (subInts (Nat.le_refl _))) hq
    · have hne : R.getLsbD 0 = (gW f j i).getLsbD k := by simpa using hne
      have hs : R.reverse <<< 1 = (runB r (gW f j i) (k + 1)).reverse := by rw [if_pos hne] at hs; simpa using hs
      exact Round.go ⟨n, f, j, len, cp, r, i, k + 1⟩ id ⟨h1, h2, hk, h4⟩ (by dsimp only; omega) (SubSt.mk (by simp only [mbSt, mrX, hs, hw]; simp [SubFr, slotAt, ren, below]) (subInts (Nat.le_refl _))) hq
  · have hk : k = 8 := by have := of_decide_eq_false hk; omega
    subst hk
    have hx : (gW f j i).toNat < 256 := by have := hF; unfold iW at this; omega
    rw [← hR, byteP_bits hx]
    refine Round.out id _ ?_ hq
    exact SubSt.mk (by simp [SubFr, slotAt, ren, below]) (subInts (Nat.le_refl _))

theorem ma_loop : LoopOK Tryd.prog mrE (loopAt (codeOf Tryd.f13) 0) := by
  refine loopSumm_ok (E := mrE) mrF_ok (oneLoop (by kernel_rfl) mb_loop) maSt maInv (fun x => x.len - x.i) maPick maEnd ?_ (by kernel_rfl)
  rintro ⟨n, f, j, len, cp, r, i, k⟩ ⟨h1, h2, h3, h4⟩ Q hq
  dsimp only at h1 h2 h3 h4
  refine round_keep [1, 5, 6] ?_
  rw [show maSt ⟨n, f, j, len, cp, r, i, k⟩ = maX n f j len cp (iW (runP (gW f j) r i).reverse) i from rfl, ma_tree]
  have hw : IntKind.wrap IntKind.i64 ((i : Int) + 1) = ((i + 1 : Nat) : Int) := by rw [IntWalk.i64_in _ (by omega)]; omega
  rw [wI_iW, rev_rev]
  refine T.hite (fun hi => ?_) (fun hi => ?_)
  · have hi : i < len := by have := of_decide_eq_true hi; omega
    refine T.hneed ⟨id, SubSt.mk (by simp [mbSt, mrX, runB, SubFr, slotAt, ren, below]) (subInts (Nat.le_refl _))⟩ (T.hneed ⟨h1, hi, Nat.zero_le _, h4 i hi⟩ (T.hret ?_))
    exact Round.go ⟨n, f, j, len, cp, r, i + 1, k⟩ id ⟨h1, h2, hi, h4⟩ (by dsimp only; omega) (SubSt.mk (by simp only [maSt, maX, hw, runP]; simp [SubFr, slotAt, ren, below]) (subInts (Nat.le_refl _))) hq
  · have hi : len = i := by have := of_decide_eq_false hi; omega
    subst hi
    refine Round.out id _ ?_ hq
    exact SubSt.mk (by simp [SubFr, slotAt, ren, below]) (subInts (Nat.le_refl _))

theorem xnot {s : Int} (h : 0 ≤ s ∧ s < 4294967296) : bits .xor .u32 s 4294967295 = iW (~~~ wI s) := by
  rw [litF]
  conv => lhs; rw [← iW_wI h]
  rw [xorW, BitVec.xor_allOnes]

theorem notX (a : W32) : bits .xor .u32 (iW a) 4294967295 = iW (~~~ a) := by rw [litF, xorW, BitVec.xor_allOnes]

theorem rng (a : W32) : (decide (0 ≤ iW a) && decide (iW a < 4294967296)) = true := by
  have := iW_lt a
  rw [Bool.and_eq_true, decide_eq_true_eq, decide_eq_true_eq]; exact this

theorem ref_eff1 (n : Nat) (f : Nat → Int) (j len cp : Nat) (s : Int) (h1 : j + len ≤ n) (h2 : len ≤ 4611686018427387904) (h3 : 0 ≤ s ∧ s < 4294967296) (h4 : ∀ d, d < len → 0 ≤ f (j + d) ∧ f (j + d) < 256) :
    EffAt Tryd.prog 13 [.int .u32 s, .sl 0 0 1 j len cp] [some (cbV n f)] (.ret (.int .u32 (moreI s (fun d => f (j + d)) len), [some (cbV n f)])) := by
  refine fn_ok (E := mrE) (c := codeOf Tryd.f13) Tryd.func13 rfl mrF_ok (oneLoop (by kernel_rfl) ma_loop) rfl rfl fun Q hq => ?_
  rw [mr_fn, xnot h3]
  simp only [wI_iW, rev_rev, notX]
  refine T.hchk (rng _) (T.hneed ⟨id, SubSt.mk (by simp [maSt, maX, SubFr, slotAt, ren, below, runP]) (subInts (Nat.le_refl _))⟩ (T.hneed ⟨h1, h2, Nat.zero_le _, h4⟩ (T.hchk (rng _) (T.hret ?_))))
  exact leaf_of id hq (by simp only [ren]; exact Alike.refl _) (by simp [below]) (subInts (Nat.le_refl _))

theorem ref_eff0 (s : Int) (h3 : 0 ≤ s ∧ s < 4294967296) : EffAt Tryd.prog 13 [.int .u32 s, .nils] [] (.ret (.int .u32 (moreI s (fun _ => 0) 0), [])) := by
  refine fn_ok (E := mrE1) (c := codeOf Tryd.f13) Tryd.func13 rfl mrF_ok (oneLoop (by kernel_rfl) (unroll_ok (E := mrE1) mrF_ok mrE0 rfl rfl rfl 1 (fun c' _ st Q hq => absurd hq (fun h => h)) (by kernel_rfl))) rfl rfl fun Q hq => ?_
  rw [mr_fn0, xnot h3]
  simp only [wI_iW, rev_rev, notX]
  refine T.hchk (rng _) (T.hite (fun h => by cases h) (fun _ => T.hchk (rng _) (T.hret ?_)))
  exact leaf_of id hq (by simp only [ren]; exact Alike.refl _) (by simp [below]) (Sub.nil _ _)

def refS : List AV → AM → T AV
  | [.int .u32 s, x], m => T.opt (intsArg .u8 m x) fun p => .need p.need (.chk p.chk (.chk (decide (p.len ≤ 4611686018427387904)) (.chk (decide (0 ≤ s) && decide (s < 4294967296)) (.need (∀ d, d < p.len → 0 ≤ p.at_ d ∧ p.at_ d < 256) (.ret (.int .u32 (moreI s p.at_ p.len)))))))
  | _, _ => .fail

theorem ref_ok : SummOK Tryd.prog 13 (.pure refS) := by
  refine ro_ok (fun args w => Tryd.call13 args w) ?_
  intro args m Q hq
  unfold refS at hq ⊢
  split at hq
  · rename_i s x
    obtain ⟨p, hp, hq⟩ := T.holds_opt hq
    obtain ⟨k1, k2, k3, k4, k5, hq⟩ := hq
    rw [hp]
    refine ⟨⟨k1, k2, k3, k4, k5, by simp [plain, T.holds]⟩, ?_⟩
    have k4 : 0 ≤ s ∧ s < 4294967296 := by simpa using k4
    rcases intsArg_some hp with ⟨rfl, rfl⟩ | ⟨id1, j1, l1, c1, b1, rfl, hb1, rfl⟩
    · exact ⟨⟨[], [.int .u32 s, .nils], [], rfl, by simp, trivial, fun _ _ h => (by cases h), by simp [belowL, below], by simp [renL, ren], (ref_eff0 s k4).mono fun Q h => h.2.2.2.2.2⟩⟩
    · exact ⟨⟨[id1], [.int .u32 s, .sl 0 0 1 j1 l1 c1], [some (intView .u8 b1)], rfl, by simp [AM.get_lt hb1], ⟨⟨_, hb1, IntRow.view k1 _ _⟩, trivial⟩, roOne rfl, by simp [belowL, below], by simp [renL, ren, out], (ref_eff1 b1.n (intAt b1) j1 l1 c1 s (by simpa using k2) (by simpa using k3) k4 k5).mono fun Q h => h.2.2.2.2.2⟩⟩
  · exact hq.elim

end Go.Proofs.YtglokmbhpmamcaaDoor
