/-
  Layer 2: turned, the contract.
-/
import Derived.Test.YtglokmbhpmamcaaDoorHR
namespace Go.Proofs.YtglokmbhpmamcaaDoor
open Go.Ox
set_option maxRecDepth 100000
set_option maxHeartbeats 4000000
set_option linter.unusedVariables false
set_option linter.unusedSimpArgs false

/-- Bytes turned by others. -/
def xrF (f g : Nat → Int) (n l r : Nat) : Int := tnF f g n (min n l) r

def tnT (n : Nat) (f : Nat → Int) (j len n2 : Nat) (f2 : Nat → Int) (j2 l2 : Nat) : T (AV × AM) :=
  .ite (decide (0 < len)) (.all fun c => .asm (decide (len ≤ c)) (.ret (.sl 2 0 1 0 len c, [some (cbV n f), some (cbV n2 f2), some (Blk.rows true 1 c fun r => [.int .u8 (xrF (fun d => f (j + d)) (fun d => f2 (j2 + d)) len l2 r)])])))
    (.ret (.nils, [some (cbV n f), some (cbV n2 f2)]))

theorem tn_eff (n : Nat) (f : Nat → Int) (j len cp n2 : Nat) (f2 : Nat → Int) (j2 l2 c2 : Nat) (h1 : j + len ≤ n) (h2 : len ≤ 4294967296) (h3 : j2 + l2 ≤ n2) (h4 : l2 ≤ 4611686018427387904) :
    EffAt Tryd.prog 16 [.sl 0 0 1 j len cp, .sl 1 0 1 j2 l2 c2] [some (cbV n f), some (cbV n2 f2)] (tnT n f j len n2 f2 j2 l2) := by
  refine fn_ok (E := tnE) (c := codeOf Tryd.f16) Tryd.func16 rfl tnG_ok (oneLoop (by kernel_rfl) tn_loop) rfl rfl fun Q hq => ?_
  rw [tn_fn]
  have e0 : ∀ (h : Nat → Int), (∀ r, r < len → h r = f (j + r)) → ∀ i r, tnF h (fun d => f2 (j2 + d)) len i r = tnF (fun d => f (j + d)) (fun d => f2 (j2 + d)) len i r := by
    intro h hh i r
    unfold tnF
    by_cases hr : r < len
    · rw [if_pos hr, if_pos hr, hh r hr]
    · rw [if_neg hr, if_neg hr]
  have e1 : ∀ r, r < len → (fun j_1 => if j_1 < len then f (j + (0 + j_1)) else 0) r = f (j + r) := fun r hr => by dsimp only; rw [if_pos hr, Nat.zero_add]
  refine T.hneed IntRow.rows (T.hchk (decide_eq_true h1) (T.hchk (decide_eq_true h2) (T.hiteP (fun h => T.hall fun c => T.hasmP fun hc => ?_) (fun h => ?_))))
  · refine T.hneed ⟨rhoL [0, 1, 2], subStL _ rfl rfl rfl (Nat.le_of_ble_eq_true rfl) (by simp [tnSt, tnX, SubFr, slotAt, ren, below, rhoL]) ⟨⟨_, rfl, BlkOK.rows' (fun h => h) fun r _ => LAlike.ints rfl⟩, ⟨_, rfl, BlkOK.rows' (fun h => h) fun r _ => LAlike.ints rfl⟩, ⟨_, rfl, BlkOK.rows' (fun h => h) fun r _ => LAlike.ints ?_⟩, trivial⟩⟩ (T.hneed ⟨h3, h4, h2, Nat.zero_le _, Nat.zero_le _, hc, (fun h => by cases h)⟩ (T.hret ?_))
    · unfold tnF
      by_cases hr : r < len
      · simp [hr]
      · simp [hr]
    · refine leaf_of (rhoL [0, 1, 2]) (hq.1 (decide_eq_true h) c (decide_eq_true hc)) (by simp [Alike, ren, conc, rhoL]) (by simp [below]) (subL _ rfl rfl rfl (Nat.le_of_ble_eq_true rfl) ⟨⟨_, rfl, BlkOK.rows' (fun h => h) fun r _ => LAlike.ints rfl⟩, ⟨_, rfl, BlkOK.rows' (fun h => h) fun r _ => LAlike.ints rfl⟩, ⟨_, rfl, BlkOK.rows' (fun h => h) fun r _ => LAlike.ints ?_⟩, trivial⟩)
      exact e0 _ e1 _ _
  · obtain rfl : len = 0 := by omega
    refine T.hneed ⟨rhoL [0, 1], subStL _ rfl rfl rfl (Nat.le_of_ble_eq_true rfl) (by simp [tnSt, SubFr, slotAt, ren, below, rhoL]) ⟨⟨_, rfl, BlkOK.rows' (fun h => h) fun r _ => LAlike.ints rfl⟩, ⟨_, rfl, BlkOK.rows' (fun h => h) fun r _ => LAlike.ints rfl⟩, trivial⟩⟩ (T.hneed ⟨h3, h4, Nat.zero_le _, Nat.le_refl _, Nat.zero_le _, Nat.le_refl _, fun _ => ⟨rfl, rfl⟩⟩ (T.hret ?_))
    exact leaf_of (rhoL [0, 1]) (hq.2 rfl) (by simp [Alike, ren, conc]) (by simp [below]) (subL _ rfl rfl rfl (Nat.le_of_ble_eq_true rfl) ⟨⟨_, rfl, BlkOK.rows' (fun h => h) fun r _ => LAlike.ints rfl⟩, ⟨_, rfl, BlkOK.rows' (fun h => h) fun r _ => LAlike.ints rfl⟩, trivial⟩)

theorem tn_unroll (n : Nat) : LoopOK Tryd.prog (tnE1 n) (loopAt (codeOf Tryd.f16) 0) :=
  unroll_ok (E := tnE1 n) tnG_ok (tnE0 n) rfl rfl rfl 1 (noLoops (by kernel_rfl)) (by kernel_rfl)

theorem tn_eff0 : EffAt Tryd.prog 16 [.nils, .nils] [] (.ret (.nils, [])) := by
  refine fn_ok (E := tnE1 0) (c := codeOf Tryd.f16) Tryd.func16 rfl tnG_ok (oneLoop (by kernel_rfl) (tn_unroll 0)) rfl rfl fun Q hq => ?_
  rw [tn_fn0]
  exact T.hite (fun h => by cases h) fun _ => leaf_of id hq (by simp [Alike, ren, conc]) (by simp [below]) (Sub.nil _ _)

theorem tn_effr (n2 : Nat) (f2 : Nat → Int) (j2 l2 c2 : Nat) : EffAt Tryd.prog 16 [.nils, .sl 0 0 1 j2 l2 c2] [some (cbV n2 f2)] (.ret (.nils, [some (cbV n2 f2)])) := by
  refine fn_ok (E := tnE1 1) (c := codeOf Tryd.f16) Tryd.func16 rfl tnG_ok (oneLoop (by kernel_rfl) (tn_unroll 1)) rfl rfl fun Q hq => ?_
  rw [tn_fnr]
  exact T.hite (fun h => by cases h) fun _ => leaf_of id hq (by simp [Alike, ren, conc]) (by simp [below]) (subInts (Nat.le_refl _))

theorem tn_effl (n : Nat) (f : Nat → Int) (j cp : Nat) (h1 : j ≤ n) : EffAt Tryd.prog 16 [.sl 0 0 1 j 0 cp, .nils] [some (cbV n f)] (.ret (.nils, [some (cbV n f)])) := by
  refine fn_ok (E := tnE1 1) (c := codeOf Tryd.f16) Tryd.func16 rfl tnG_ok (oneLoop (by kernel_rfl) (tn_unroll 1)) rfl rfl fun Q hq => ?_
  rw [tn_fnl]
  refine T.hneed IntRow.rows (T.hchk (decide_eq_true h1) (T.hchk (decide_eq_true (by omega)) (T.hiteP (fun h => absurd h (by omega)) (fun h => ?_))))
  exact T.hite (fun h => by cases h) fun _ => leaf_of id hq (by simp [Alike, ren, conc]) (by simp [below]) (subInts (Nat.le_refl _))

def turnedS : List AV → AM → T (AV × AM)
  | [.nils, .nils], m => lift [] m [] (.ret (.nils, []))
  | [.nils, .sl id 0 1 j l c], m => T.opt (m.get id) fun b => .need (IntRow .u8 b) (lift [id] m [some (cbV b.n (intAt b))] (.ret (.nils, [some (cbV b.n (intAt b))])))
  | [.sl id 0 1 j len c, .nils], m => T.opt (m.get id) fun b => .need (IntRow .u8 b) (.chk (decide (len = 0)) (.chk (decide (j ≤ b.n)) (lift [id] m [some (cbV b.n (intAt b))] (.ret (.nils, [some (cbV b.n (intAt b))])))))
  | [.sl id 0 1 j len c, .sl id2 0 1 j2 l2 c2], m => T.opt (m.get id) fun b => T.opt (m.get id2) fun b2 => .need (IntRow .u8 b) (.need (IntRow .u8 b2) (.chk (decide (j + len ≤ b.n)) (.chk (decide (len ≤ 4294967296)) (.chk (decide (j2 + l2 ≤ b2.n)) (.chk (decide (l2 ≤ 4611686018427387904))
      (lift [id, id2] m [some (cbV b.n (intAt b)), some (cbV b2.n (intAt b2))] (tnT b.n (intAt b) j len b2.n (intAt b2) j2 l2)))))))
  | _, _ => .fail

theorem turned_ok : SummOK Tryd.prog 16 (.eff turnedS) := by
  refine ⟨fun args w => Tryd.call16 args w, fun args m Q hq hb => ?_⟩
  unfold turnedS at hq
  split at hq
  · exact lift_ok tn_eff0 [] rfl (by simp) (Sub.nil _ _) (by simp [belowL, below]) (by simp [renL, ren]) Q hq hb
  · rename_i id j l c
    obtain ⟨b, hg, hr, hq⟩ := T.holds_opt hq
    exact lift_ok (argsc := [.nils, .sl 0 0 1 j l c]) (tn_effr b.n (intAt b) j l c) [id] rfl (by simp [AM.get_lt hg]) (Sub.ro ⟨⟨b, hg, IntRow.view hr _ _⟩, trivial⟩ (roOne rfl)) (by simp [belowL, below]) (by simp [renL, ren, out]) Q hq hb
  · rename_i id j len c
    obtain ⟨b, hg, hr, h1, h2, hq2⟩ := T.holds_opt hq
    obtain rfl : len = 0 := of_decide_eq_true h1
    exact lift_ok (argsc := [.sl 0 0 1 j 0 c, .nils]) (tn_effl b.n (intAt b) j c (of_decide_eq_true h2)) [id] rfl (by simp [AM.get_lt hg]) (Sub.ro ⟨⟨b, hg, IntRow.view hr _ _⟩, trivial⟩ (roOne rfl)) (by simp [belowL, below]) (by simp [renL, ren, out]) Q hq2 hb
  · rename_i id j len c id2 j2 l2 c2
    obtain ⟨b, hg, hq⟩ := T.holds_opt hq
    obtain ⟨b2, hg2, hr, hr2, h1, h2, h3, h4, hq⟩ := T.holds_opt hq
    exact lift_ok (argsc := [.sl 0 0 1 j len c, .sl 1 0 1 j2 l2 c2]) (tn_eff b.n (intAt b) j len c b2.n (intAt b2) j2 l2 c2 (of_decide_eq_true h1) (of_decide_eq_true h2) (of_decide_eq_true h3) (of_decide_eq_true h4)) [id, id2] rfl (by simp [AM.get_lt hg, AM.get_lt hg2]) (Sub.ro ⟨⟨b, hg, IntRow.view hr _ _⟩, ⟨b2, hg2, IntRow.view hr2 _ _⟩, trivial⟩ (roTwo rfl rfl)) (by simp [belowL, below]) (by simp [renL, ren, out]) Q hq hb
  · exact hq.elim

end Go.Proofs.YtglokmbhpmamcaaDoor
