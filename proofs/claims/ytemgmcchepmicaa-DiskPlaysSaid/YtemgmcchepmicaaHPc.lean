/-
  Layer 15: Plays: Same, as a contract.
-/
import Derived.Test.YtemgmcchepmicaaHPb
namespace Go.Proofs.Ytemgmcchepmicaa
open Go.Ox
set_option maxRecDepth 100000
set_option maxHeartbeats 16000000
set_option linter.unusedVariables false
set_option linter.unusedSimpArgs false

/-- Two areas with the same bytes. -/
def arEq (m : AM) : AV → AV → Prop
  | .nils, .nils => True
  | .sl i 0 1 0 n c, .sl i' 0 1 0 n' c' => ∃ b b', m.get i = some b ∧ m.get i' = some b' ∧ IntRow .u8 b ∧ IntRow .u8 b' ∧ n = n' ∧ (n ≤ b.n ∧ n ≤ b'.n ∧ n ≤ 262144) ∧ ∀ r, r < n → intAt b r = intAt b' r
  | _, _ => False

def Bare (b : Blk) : Prop := b.s = 0 ∧ b.n = 0 ∧ b.post = []

def saN (m : AM) (b b' : Blk) : Prop :=
  match b.pre, b'.pre with
  | [A0, .int .i64 s0, A1, .int .i64 s1, .int .i64 N], [.int .i64 N', A0', A1', .int .i64 t0, .int .i64 t1] => N = N' ∧ Bare b ∧ Bare b' ∧ arEq m A0 A0' ∧ arEq m A1 A1'
  | _, _ => False

def saT : List AV → AM → T AV
  | [.ptr i 0 0 0, .ptr i' 0 0 0], m => T.opt (m.get i) fun b => T.opt (m.get i') fun b' => .need (saN m b b') (.ret (.bool true))
  | _, _ => .fail

theorem bare_ok {n : Nat} {ρ : Nat → Nat} {b : Blk} {l : List AV} (h : Bare b) (hl : LAlike n ρ b.pre l) : BlkOK n ρ b (roB l) := by
  obtain ⟨h1, h2, h3⟩ := h
  exact ⟨fun h => (by cases h), hl, by rw [h1]; rfl, by rw [h2]; rfl, (fun j hj => absurd hj (Nat.not_lt_zero j)), by rw [h3]; trivial, trivial⟩

theorem saM_ro (h0 h1 : Bool) (N s0 t0 s1 t1 : Int) (n0 c0 b0 : Nat) (f0 : Nat → Int) (d0 e0 : Nat) (g0 : Nat → Int) (n1 c1 b1 : Nat) (f1 : Nat → Int) (d1 e1 : Nat) (g1 : Nat → Int) : ∀ id b, AM.get (saM h0 h1 N s0 t0 s1 t1 n0 c0 b0 f0 d0 e0 g0 n1 c1 b1 f1 d1 e1 g1) id = some b → b.rw = false := by
  intro id b h
  rw [AM.get_eq] at h
  cases h0 <;> cases h1 <;> simp only [saM] at h <;> rcases id with _ | _ | _ | _ | _ | _ | id <;> simp at h <;> (subst h; rfl)

theorem saT_ok : SummOK Try.prog 22 (.pure saT) := by
  refine ro_ok (fun args w => Try.call22 args w) ?_
  intro args m Q hq
  unfold saT at hq ⊢
  split at hq
  · rename_i i i'
    obtain ⟨b, hb, hq⟩ := T.holds_opt hq
    obtain ⟨b', hb', hq⟩ := T.holds_opt hq
    obtain ⟨hn, hq⟩ := hq
    simp only [hb, hb', T.opt]
    refine ⟨⟨hn, rfl⟩, ?_⟩
    have hn' := hn
    unfold saN at hn
    split at hn
    · rename_i A0 s0 A1 s1 N N' A0' A1' t0 t1 e e'
      obtain ⟨hN, k1, k2, a0, a1⟩ := hn
      subst hN
      unfold arEq at a0 a1
      split at a0
      · split at a1
        · exact ⟨⟨[i, i'], [.ptr 0 0 0 0, .ptr 1 0 0 0], saM false false N s0 t0 s1 t1 0 0 0 (fun _ => 0) 0 0 (fun _ => 0) 0 0 0 (fun _ => 0) 0 0 (fun _ => 0), rfl, by simp [AM.get_lt hb, AM.get_lt hb'], ⟨⟨b, hb, bare_ok k1 (by rw [e]; simp [LAlike, ren, below, AV.scalar, out, saM])⟩, ⟨b', hb', bare_ok k2 (by rw [e']; simp [LAlike, ren, below, AV.scalar, out, saM])⟩, trivial⟩, saM_ro _ _ _ _ _ _ _ _ _ _ _ _ _ _ _ _ _ _ _ _ _, by simp [belowL, below, saM], by simp [renL, ren, out], (sa_e00 N s0 t0 s1 t1 0 0 0 (fun _ => 0) 0 0 (fun _ => 0) 0 0 0 (fun _ => 0) 0 0 (fun _ => 0) ).mono fun Q h => h.2⟩⟩
        · rename_i x1 n1 c1 y1 m1 d1
          obtain ⟨p1, q1, u1, v1, r1, l1, hm1, w1, z1⟩ := a1
          subst hm1
          exact ⟨⟨[i, i', x1, y1], [.ptr 0 0 0 0, .ptr 1 0 0 0], saM false true N s0 t0 s1 t1 0 0 0 (fun _ => 0) 0 0 (fun _ => 0) n1 c1 p1.n (intAt p1) d1 q1.n (intAt q1), rfl, by simp [AM.get_lt hb, AM.get_lt hb', AM.get_lt u1, AM.get_lt v1], ⟨⟨b, hb, bare_ok k1 (by rw [e]; simp [LAlike, ren, below, AV.scalar, out, saM])⟩, ⟨b', hb', bare_ok k2 (by rw [e']; simp [LAlike, ren, below, AV.scalar, out, saM])⟩, ⟨p1, u1, r1.view _ _⟩, ⟨q1, v1, l1.view _ _⟩, trivial⟩, saM_ro _ _ _ _ _ _ _ _ _ _ _ _ _ _ _ _ _ _ _ _ _, by simp [belowL, below, saM], by simp [renL, ren, out], (sa_e01 N s0 t0 s1 t1 0 0 0 (fun _ => 0) 0 0 (fun _ => 0) n1 c1 p1.n (intAt p1) d1 q1.n (intAt q1) ⟨w1.1, w1.2.1, w1.2.2⟩ z1).mono fun Q h => h.2⟩⟩
        · exact a1.elim
      · rename_i x0 n0 c0 y0 m0 d0
        obtain ⟨p0, q0, u0, v0, r0, l0, hm0, w0, z0⟩ := a0
        subst hm0
        split at a1
        · exact ⟨⟨[i, i', x0, y0], [.ptr 0 0 0 0, .ptr 1 0 0 0], saM true false N s0 t0 s1 t1 n0 c0 p0.n (intAt p0) d0 q0.n (intAt q0) 0 0 0 (fun _ => 0) 0 0 (fun _ => 0), rfl, by simp [AM.get_lt hb, AM.get_lt hb', AM.get_lt u0, AM.get_lt v0], ⟨⟨b, hb, bare_ok k1 (by rw [e]; simp [LAlike, ren, below, AV.scalar, out, saM])⟩, ⟨b', hb', bare_ok k2 (by rw [e']; simp [LAlike, ren, below, AV.scalar, out, saM])⟩, ⟨p0, u0, r0.view _ _⟩, ⟨q0, v0, l0.view _ _⟩, trivial⟩, saM_ro _ _ _ _ _ _ _ _ _ _ _ _ _ _ _ _ _ _ _ _ _, by simp [belowL, below, saM], by simp [renL, ren, out], (sa_e10 N s0 t0 s1 t1 n0 c0 p0.n (intAt p0) d0 q0.n (intAt q0) 0 0 0 (fun _ => 0) 0 0 (fun _ => 0) ⟨w0.1, w0.2.1, w0.2.2⟩ z0).mono fun Q h => h.2⟩⟩
        · rename_i x1 n1 c1 y1 m1 d1
          obtain ⟨p1, q1, u1, v1, r1, l1, hm1, w1, z1⟩ := a1
          subst hm1
          exact ⟨⟨[i, i', x0, y0, x1, y1], [.ptr 0 0 0 0, .ptr 1 0 0 0], saM true true N s0 t0 s1 t1 n0 c0 p0.n (intAt p0) d0 q0.n (intAt q0) n1 c1 p1.n (intAt p1) d1 q1.n (intAt q1), rfl, by simp [AM.get_lt hb, AM.get_lt hb', AM.get_lt u0, AM.get_lt v0, AM.get_lt u1, AM.get_lt v1], ⟨⟨b, hb, bare_ok k1 (by rw [e]; simp [LAlike, ren, below, AV.scalar, out, saM])⟩, ⟨b', hb', bare_ok k2 (by rw [e']; simp [LAlike, ren, below, AV.scalar, out, saM])⟩, ⟨p0, u0, r0.view _ _⟩, ⟨q0, v0, l0.view _ _⟩, ⟨p1, u1, r1.view _ _⟩, ⟨q1, v1, l1.view _ _⟩, trivial⟩, saM_ro _ _ _ _ _ _ _ _ _ _ _ _ _ _ _ _ _ _ _ _ _, by simp [belowL, below, saM], by simp [renL, ren, out], (sa_e11 N s0 t0 s1 t1 n0 c0 p0.n (intAt p0) d0 q0.n (intAt q0) n1 c1 p1.n (intAt p1) d1 q1.n (intAt q1) ⟨w0.1, w0.2.1, w0.2.2⟩ z0 ⟨w1.1, w1.2.1, w1.2.2⟩ z1).mono fun Q h => h.2⟩⟩
        · exact a1.elim
      · exact a0.elim
    · exact hn.elim
  · exact hq.elim

end Go.Proofs.Ytemgmcchepmicaa
