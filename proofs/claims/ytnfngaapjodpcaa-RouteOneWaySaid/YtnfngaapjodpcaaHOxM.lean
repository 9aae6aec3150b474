/-
  How it is shown that one state tells what another one does.
-/
import Derived.Test.YtnfngaapjodpcaaHOxL
set_option linter.unusedVariables false
set_option linter.unusedSimpArgs false
namespace Go.Ox

@[simp] theorem Alike_refl (v : AV) : Alike v v := fun _ => rfl
@[simp] theorem Alike_int (k : IntKind) (x y : Int) : Alike (.int k x) (.int k y) ↔ x = y :=
  ⟨fun h => by have := h (fun _ => LE.mk 0 0 noFam); simp only [conc] at this; injection this, fun h => by rw [h]; exact Alike_refl _⟩
@[simp] theorem Alike_bool (x y : Bool) : Alike (.bool x) (.bool y) ↔ x = y :=
  ⟨fun h => by have := h (fun _ => LE.mk 0 0 noFam); simp only [conc] at this; injection this, fun h => by rw [h]; exact Alike_refl _⟩
@[simp] theorem Alike_tt (y : Bool) : Alike .tt (.bool y) ↔ y = true :=
  ⟨fun h => by have := h (fun _ => LE.mk 0 0 noFam); simp only [conc] at this; injection this with h; exact h.symm, fun h => by rw [h]; exact fun _ => rfl⟩
@[simp] theorem Alike_ff (y : Bool) : Alike .ff (.bool y) ↔ y = false :=
  ⟨fun h => by have := h (fun _ => LE.mk 0 0 noFam); simp only [conc] at this; injection this with h; exact h.symm, fun h => by rw [h]; exact fun _ => rfl⟩
@[simp] theorem Alike_tt' (y : Bool) : Alike (.bool y) .tt ↔ y = true :=
  ⟨fun h => by have := h (fun _ => LE.mk 0 0 noFam); simp only [conc] at this; injection this, fun h => by rw [h]; exact fun _ => rfl⟩
@[simp] theorem Alike_ff' (y : Bool) : Alike (.bool y) .ff ↔ y = false :=
  ⟨fun h => by have := h (fun _ => LE.mk 0 0 noFam); simp only [conc] at this; injection this, fun h => by rw [h]; exact fun _ => rfl⟩
theorem Alike_sl {id k s j len cap j' len' cap' : Nat} (h1 : j = j') (h2 : len = len') (h3 : cap = cap') : Alike (.sl id k s j len cap) (.sl id k s j' len' cap') := by
  subst h1; subst h2; subst h3; exact Alike_refl _

/-- Lists alike, one by one. -/
def LAlike (n : Nat) (ρ : Nat → Nat) : List AV → List AV → Prop
  | [], [] => True
  | u :: l, v :: l' => (Alike u (ren ρ v) ∧ below n v ∧ v.scalar = true) ∧ LAlike n ρ l l'
  | _, _ => False

theorem LAlike.length {n : Nat} {ρ : Nat → Nat} : ∀ {l l' : List AV}, LAlike n ρ l l' → l.length = l'.length
  | [], [], _ => rfl
  | _ :: _, _ :: _, h => by simp [LAlike.length h.2]

theorem LAlike.at {n : Nat} {ρ : Nat → Nat} : ∀ {l l' : List AV}, LAlike n ρ l l' → ∀ i, below n (l'.getD i .ff) ∧ (l'.getD i .ff).scalar = true ∧ Alike (l.getD i .ff) (ren ρ (l'.getD i .ff))
  | [], [], _, i => by simp [below, AV.scalar, ren]
  | u :: l, v :: l', h, 0 => ⟨h.1.2.1, h.1.2.2, h.1.1⟩
  | u :: l, v :: l', h, i + 1 => by simpa using LAlike.at h.2 i

/-- A block tells what another one does. -/
structure BlkOK (n : Nat) (ρ : Nat → Nat) (b' b : Blk) : Prop where
  rw : b.rw = true → b'.rw = true
  pre : LAlike n ρ b'.pre b.pre
  seq : b'.s = b.s
  neq : b'.n = b.n
  f : ∀ j, j < b.n → LAlike n ρ (b'.f j) (b.f j)
  post : LAlike n ρ b'.post b.post
  fam : SubFam ρ n b'.fam b.fam

theorem BlkOK.cell {n : Nat} {ρ : Nat → Nat} {b' b : Blk} (h : BlkOK n ρ b' b) : b'.size = b.size ∧ (b.rw = true → b'.rw = true) ∧
    ∀ o, o < b.size → below n (b.cell o) ∧ (b.cell o).scalar = true ∧ Alike (b'.cell o) (ren ρ (b.cell o)) := by
  have hp := h.pre.length
  have hq := h.post.length
  refine ⟨by unfold Blk.size; rw [hp, h.seq, h.neq, hq], h.rw, fun o ho => ?_⟩
  unfold Blk.cell
  rw [hp, h.seq, h.neq]
  by_cases h1 : o < b.pre.length
  · simp only [h1, if_true]; exact h.pre.at o
  · simp only [h1, if_false]
    by_cases h2 : o - b.pre.length < b.n * b.s
    · simp only [h2, if_true]
      refine (h.f _ ?_).at _
      have hs : 0 < b.s := by
        rcases Nat.eq_zero_or_pos b.s with h | h
        · rw [h] at h2; omega
        · exact h
      rw [Nat.div_lt_iff_lt_mul hs]; exact h2
    · simp only [h2, if_false]; exact h.post.at _

/-- Blocks of a list, from a number on. -/
def SubBlks (n : Nat) (ρ : Nat → Nat) (m' : AM) : Nat → AM → Prop
  | _, [] => True
  | i, none :: l => SubBlks n ρ m' (i + 1) l
  | i, some b :: l => (∃ b', m'.get (ρ i) = some b' ∧ BlkOK n ρ b' b) ∧ SubBlks n ρ m' (i + 1) l

theorem SubBlks.get {n : Nat} {ρ : Nat → Nat} {m' : AM} : ∀ {l : AM} {i : Nat}, SubBlks n ρ m' i l → ∀ k b, AM.get l k = some b → ∃ b', m'.get (ρ (i + k)) = some b' ∧ BlkOK n ρ b' b
  | [], _, _, _, _, h => by cases h
  | none :: l, i, hs, 0, _, h => by cases h
  | none :: l, i, hs, k + 1, b, h => by
    have := SubBlks.get (l := l) (i := i + 1) hs k b h
    rw [show i + 1 + k = i + (k + 1) from by omega] at this
    exact this
  | some c :: l, i, hs, 0, b, h => by
    simp only [AM.get, Option.some.injEq] at h
    subst h
    exact hs.1
  | some c :: l, i, hs, k + 1, b, h => by
    have := SubBlks.get (l := l) (i := i + 1) hs.2 k b h
    rw [show i + 1 + k = i + (k + 1) from by omega] at this
    exact this

theorem Sub.of {n0 : Nat} {ρ : Nat → Nat} {m' m : AM} (h : SubBlks m.length ρ m' 0 m) (hinj : ∀ i j, i < m.length → j < m.length → i ≠ j → ρ i ≠ ρ j) (hb : ∀ i, i < n0 → ρ i = i) (hn : n0 ≤ m.length) : Sub n0 ρ m' m where
  blk id b hg := by
    obtain ⟨b', h1, h2⟩ := h.get id b hg
    rw [Nat.zero_add] at h1
    exact ⟨b', h1, h2.cell⟩
  sep id b id' b' hg hg' _ hne := hinj id id' (AM.get_lt hg) (AM.get_lt hg') hne
  base := hb
  nle := hn
  fam id b hg := by
    obtain ⟨b', h1, h2⟩ := h.get id b hg
    rw [Nat.zero_add] at h1
    exact ⟨b', h1, h2.fam⟩

theorem Sub.ofId {n0 : Nat} {m' m : AM} (h : SubBlks m.length id m' 0 m) (hn : n0 ≤ m.length) : Sub n0 id m' m :=
  Sub.of h (fun _ _ _ _ h => h) (fun _ _ => rfl) hn

theorem leaf_of {n0 : Nat} {Q : AV × AM → Prop} {v v' : AV} {m m' : AM} (ρ : Nat → Nat) (h : Q (v, m)) (ha : Alike v' (ren ρ v)) (hb : below m.length v) (hs : Sub n0 ρ m' m) : Leaf n0 Q (v', m') :=
  ⟨ρ, v, m, h, ha, hb, hs⟩

/-- A function without memory of its caller's. -/
theorem eff_ok {P : Program} {f : FuncId} {s : List AV → T (AV × AM)} (hc : CanEnter P f) (h : ∀ args Q, (s args).holds Q → plainL args = true ∧ EffAt P f args [] (s args)) :
    SummOK P f (.eff fun args m => lift [] m [] (s args)) := by
  refine ⟨hc, fun args m Q hq hb => ?_⟩
  have hq' := hq
  unfold lift at hq'
  rw [T.holds_bind] at hq'
  obtain ⟨hp, he⟩ := h args _ hq'
  exact lift_ok (args := args) (m := m) he [] rfl (by simp) (Sub.nil _ _) (plainL_below _ _ hp) (plainL_ren _ _ hp).symm Q hq hb

end Go.Ox
