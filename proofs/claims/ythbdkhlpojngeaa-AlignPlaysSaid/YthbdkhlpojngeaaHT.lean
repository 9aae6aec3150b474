/-
  Layer 19: an Align, and the document's.
-/
import Derived.Test.YthbdkhlpojngeaaHSB
namespace Go.Proofs.Ythbdkhlpojngeaa
open Go.Ox
set_option maxRecDepth 100000
set_option linter.unusedVariables false
set_option linter.unusedSimpArgs false

theorem hasN_iff (f : Nat → Int) (x : Int) : ∀ k i, hasN f x k i = true ↔ ∃ j, i ≤ j ∧ j < i + k ∧ f j = x
  | 0, i => by simp [hasN]; omega
  | k + 1, i => by
    simp only [hasN, Bool.or_eq_true, decide_eq_true_eq, hasN_iff f x k (i + 1)]
    constructor
    · rintro (h | ⟨j, h1, h2, h3⟩)
      · exact ⟨i, Nat.le_refl _, by omega, h⟩
      · exact ⟨j, by omega, by omega, h3⟩
    · rintro ⟨j, h1, h2, h3⟩
      by_cases e : j = i
      · subst e; exact .inl h3
      · exact .inr ⟨j, by omega, by omega, h3⟩

structure Rel (N : Nat) (t : AL) (s : RA) (f : Nat → Int) (len : Nat) : Prop where
  tn : t.n = N
  sn : s.n = N
  lo : 1 ≤ N
  hi : N ≤ 64
  ln : len < N
  d : t.d = s.d
  l : s.d = true → t.l = s.co
  c : t.c = len
  w : s.w = true ↔ 0 < len
  wn : s.w = true → t.w = s.no
  fb : ∀ j, j < len → 0 ≤ f j ∧ f j < N
  B : ∀ k, k < 96 → (t.B k = true ↔ ∃ j, j < len ∧ f j = (k : Int))

variable {N : Nat} {t : AL} {s : RA} {f : Nat → Int} {len : Nat} {i no : Int}

theorem Rel.has (h : Rel N t s f len) (k : Int) : blkA t k = hasN f k len 0 := by
  rw [Bool.eq_iff_iff, hasN_iff]
  simp only [blkA, Bool.and_eq_true, decide_eq_true_eq, h.tn, Nat.zero_le, true_and, Nat.zero_add]
  have := h.hi
  constructor
  · rintro ⟨h1, h2, h3⟩
    obtain ⟨j, h4, h5⟩ := (h.B k.toNat (by omega)).1 h3
    exact ⟨j, h4, by omega⟩
  · rintro ⟨j, h1, rfl⟩
    obtain ⟨h2, h3⟩ := h.fb j h1
    exact ⟨h2, h3, (h.B _ (by omega)).2 ⟨j, h1, by omega⟩⟩

theorem Rel.rf (h : Rel N t s f len) : rfA t i no ↔ rfR s i no = true := by
  unfold rfA rfR
  have h1 := h.l; have h2 := h.wn; have h3 := h.w; have h4 := h.c; have h5 := h.d; have h6 := h.tn; have h7 := h.sn
  cases hd : s.d <;> cases hw : s.w <;> simp_all <;> omega

theorem Rel.yes (h : Rel N t s f len) (hr : rfR s i no = true) : barR t i no = false ∧ bar t i no = t := by
  have := h.rf.2 hr
  exact ⟨by simp [barR, this], if_pos this⟩

theorem rfR_off (hr : rfR s i no = false) : 0 ≤ i ∧ i < s.n ∧ (s.w = true → s.no ≤ no) := by
  unfold rfR at hr
  simp only [Bool.or_eq_false_iff, Bool.and_eq_false_iff, decide_eq_false_iff_not] at hr
  refine ⟨by omega, by omega, fun hw => ?_⟩
  rcases hr.2.2.2 with h | h
  · rw [hw] at h; cases h
  · omega

/-- Where nothing is refused: how many there are then. -/
theorem Rel.nay (h : Rel N t s f len) (hr : rfR s i no = false) {n' : Nat} (hc : c2A t i no = (n' : Int)) : (((n' : Int) < s.n) → barR t i no = false ∧ bar t i no = moreA t i no) ∧ (¬ ((n' : Int) < s.n) → barR t i no = true ∧ bar t i no = fullA t no) := by
  have h0 : ¬ rfA t i no := fun hh => by rw [h.rf.1 hh] at hr; cases hr
  have e : fuA t i no ↔ ¬ ((n' : Int) < s.n) := by unfold fuA; rw [hc, h.tn, h.sn]
  constructor
  · intro hn
    have : ¬ fuA t i no := fun hh => e.1 hh hn
    exact ⟨by simp [barR, this], by rw [bar, if_neg h0, if_neg this]⟩
  · intro hn
    have := e.2 hn
    exact ⟨by simp [barR, this, h0], by rw [bar, if_neg h0, if_pos this]⟩

theorem Rel.fresh (h : Rel N t s f len) (hf : frR s no = true) : (∀ k, k < 96 → B1A t no k = false) ∧ c1A t no = 0 := by
  have hw : s.w = false ∨ s.no < no := by unfold frR at hf; simpa using hf
  have key : t.w = no → len = 0 := fun e => by
    rcases hw with hw | hw
    · have := h.w; rw [hw] at this; simp at this; exact this
    · cases hs : s.w with
      | false => have := h.w; rw [hs] at this; simp at this; exact this
      | true => have := h.wn hs; omega
  constructor
  · intro k hk
    unfold B1A
    by_cases e : t.w = no
    · rw [if_pos e]
      cases hb : t.B k with
      | false => rfl
      | true => obtain ⟨j, hj, _⟩ := (h.B k hk).1 hb; have := key e; omega
    · rw [if_neg e]
  · unfold c1A
    by_cases e : t.w = no
    · rw [if_pos e, h.c, key e]; rfl
    · rw [if_neg e]

theorem Rel.old (h : Rel N t s f len) (hr : rfR s i no = false) (hf : frR s no = false) : s.w = true ∧ s.no = no ∧ t.w = no := by
  have hw : s.w = true ∧ ¬ s.no < no := by unfold frR at hf; simpa using hf
  have := (rfR_off hr).2.2 hw.1
  have h1 := h.wn hw.1
  exact ⟨hw.1, by omega, by omega⟩

theorem Rel.c2_fresh (h : Rel N t s f len) (hr : rfR s i no = false) (hf : frR s no = true) : c2A t i no = ((1 : Nat) : Int) := by
  obtain ⟨g1, g2⟩ := h.fresh hf
  obtain ⟨r1, r2, _⟩ := rfR_off hr
  have := h.sn; have := h.hi
  unfold c2A
  rw [g1 i.toNat (by omega), g2]
  rfl

theorem Rel.c2_old (h : Rel N t s f len) (hr : rfR s i no = false) (hf : frR s no = false) : c2A t i no = ((if hasN f i len 0 = true then len else len + 1 : Nat) : Int) := by
  obtain ⟨g1, g2, g3⟩ := h.old hr hf
  obtain ⟨r1, r2, _⟩ := rfR_off hr
  have h1 := h.sn; have h2 := h.hi; have h3 := h.ln
  have hb := h.has i
  have e : blkA t i = t.B i.toNat := by simp [blkA, r1, h.tn]; intro _; omega
  unfold c2A B1A c1A
  rw [if_pos g3, if_pos g3, h.c, ← e, hb]
  by_cases hh : hasN f i len 0 = true
  · rw [if_pos hh, if_pos hh]
  · rw [if_neg hh, if_neg hh, IntWalk.i64_in _ (by omega)]; omega

theorem Rel.full (h : Rel N t s f len) (no : Int) (g : Nat → Int) : Rel N (fullA t no) (fuR s no) g 0 where
  tn := h.tn
  sn := h.sn
  lo := h.lo
  hi := h.hi
  ln := h.lo
  d := rfl
  l _ := rfl
  c := rfl
  w := by simp [fuR]
  wn hw := by simp [fuR] at hw
  fb j hj := absurd hj (Nat.not_lt_zero _)
  B k _ := by simp [fullA]

theorem Rel.one (h : Rel N t s f len) (hr : rfR s i no = false) (hf : frR s no = true) (hn : (1 : Int) < s.n) : Rel N (moreA t i no) (moR s no) (gA (fun _ => 0) 0 i 0) 1 := by
  obtain ⟨r1, r2, _⟩ := rfR_off hr
  have h1 := h.sn
  refine ⟨h.tn, h.sn, h.lo, h.hi, by omega, h.d, h.l, h.c2_fresh hr hf, by simp [moR], fun _ => rfl, fun j hj => ?_, fun k hk => ?_⟩
  · have : j = 0 := by omega
    subst this
    simp [gA]; omega
  · simp only [moreA, (h.fresh hf).1 k hk]
    constructor
    · intro hh
      by_cases e : k = i.toNat
      · exact ⟨0, by omega, by simp [gA]; omega⟩
      · simp [e] at hh
    · rintro ⟨j, hj, e⟩
      have : j = 0 := by omega
      subst this
      have : i = (k : Int) := by simpa [gA] using e
      simp [this]

theorem Rel.stay (h : Rel N t s f len) (hr : rfR s i no = false) (hf : frR s no = false) (hh : hasN f i len 0 = true) : Rel N (moreA t i no) (moR s no) f len := by
  obtain ⟨g1, g2, g3⟩ := h.old hr hf
  have hc := h.c2_old hr hf
  rw [if_pos hh] at hc
  obtain ⟨j0, _, hj0, e0⟩ := (hasN_iff _ _ _ _).1 hh
  refine ⟨h.tn, h.sn, h.lo, h.hi, h.ln, h.d, h.l, hc, ?_, fun _ => rfl, h.fb, fun k hk => ?_⟩
  · have := h.w.1 g1; simp [moR, this]
  · simp only [moreA, B1A, if_pos g3]
    by_cases e : k = i.toNat
    · rw [if_pos e]
      obtain ⟨r1, r2, _⟩ := rfR_off hr
      exact ⟨fun _ => ⟨j0, by omega, by omega⟩, fun _ => rfl⟩
    · rw [if_neg e]; exact h.B k hk

theorem Rel.more (h : Rel N t s f len) (hr : rfR s i no = false) (hf : frR s no = false) (hh : hasN f i len 0 = false) (hn : ((len + 1 : Nat) : Int) < s.n) (d : Nat) : Rel N (moreA t i no) (moR s no) (gA f len i d) (len + 1) := by
  obtain ⟨g1, g2, g3⟩ := h.old hr hf
  have hc := h.c2_old hr hf
  rw [if_neg (by rw [hh]; simp)] at hc
  obtain ⟨r1, r2, _⟩ := rfR_off hr
  have h1 := h.sn
  have gl : ∀ j, j < len → gA f len i d j = f j := fun j hj => by simp [gA, hj]
  have gn : gA f len i d len = i := by simp [gA]
  refine ⟨h.tn, h.sn, h.lo, h.hi, by omega, h.d, h.l, hc, by simp [moR], fun _ => rfl, fun j hj => ?_, fun k hk => ?_⟩
  · by_cases e : j < len
    · rw [gl j e]; exact h.fb j e
    · have : j = len := by omega
      subst this; rw [gn]; omega
  · simp only [moreA, B1A, if_pos g3]
    constructor
    · intro hb
      by_cases e : k = i.toNat
      · exact ⟨len, by omega, by rw [gn]; omega⟩
      · rw [if_neg e] at hb
        obtain ⟨j, hj, ej⟩ := (h.B k hk).1 hb
        exact ⟨j, by omega, by rw [gl j hj]; exact ej⟩
    · rintro ⟨j, hj, ej⟩
      by_cases e : j < len
      · rw [gl j e] at ej
        by_cases e2 : k = i.toNat
        · rw [if_pos e2]
        · rw [if_neg e2]; exact (h.B k hk).2 ⟨j, e, ej⟩
      · have : j = len := by omega
        subst this
        rw [gn] at ej
        rw [if_pos (by omega)]

end Go.Proofs.Ythbdkhlpojngeaa
