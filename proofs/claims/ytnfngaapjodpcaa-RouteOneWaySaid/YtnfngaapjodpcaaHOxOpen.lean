/-
  Calls with members of families: they are opened first.
-/
import Derived.Test.YtnfngaapjodpcaaHOxN
set_option linter.unusedVariables false
set_option linter.unusedSimpArgs false
namespace Go.Ox

mutual
theorem ren_id : ∀ v, ren id v = v
  | .ptr .. | .sl .. | .part .. | .tt | .ff | .bool _ | .int _ _ | .str _ | .gp _ _ | .nilp | .nils | .esl _ | .nul _ => by simp [ren]
  | .fn _ a c => by simp [ren, renL_id a, renL_id c]
  | .agg cs => by simp [ren, renL_id cs]
  | .tup cs => by simp [ren, renL_id cs]
theorem renL_id : ∀ l, renL id l = l
  | [] => by simp [renL]
  | v :: l => by simp [renL, ren_id v, renL_id l]
end

/-- The first blocks alone. -/
theorem MR.trunc {w0 w0' : World} {X X0 : Nat → Prop} {loc loc0 : Loc} {m m' : AM} {w w1 : World} (h0 : MR w0' X0 loc0 m w1) (h : MR w0 X loc m' w) (hm : ∀ id b, m.get id = some b → m'.get id = some b) : MR w0 X loc m w := by
  have hs : Sub 0 id m' m := by
    refine ⟨fun i b hg => ⟨b, hm i b hg, rfl, fun h => h, fun o ho => ⟨h0.wf i b hg o ho, h0.sc i b hg o ho, by rw [ren_id]; exact Alike.refl _⟩⟩, fun _ _ _ _ _ _ _ h => h, fun _ hi => by omega, Nat.zero_le _, fun i b hg => ⟨b, hm i b hg, ?_⟩⟩
    cases hF : b.fam with
    | none => trivial
    | some F =>
      intro js
      refine ⟨rfl, rfl, rfl, rfl, rfl, fun hn o ho => ?_⟩
      rcases h0.fa i b F hg hF js with ⟨g1, _⟩ | ⟨_, B, O, _, _, _, g5⟩
      · rw [hn] at g1; cases g1
      · obtain ⟨_, c2, c3⟩ := g5 o ho
        exact ⟨c2, c3, by rw [ren_id]; exact Alike.refl _⟩
  exact h.sub hs

def openL : List AV → AM → T (List AV × AM)
  | [], m => .ret ([], m)
  | v :: l, m =>
    match v with
    | .part id js => (aopen m id js).bind fun r => (openL l r.2).bind fun q => .ret (r.1 :: q.1, q.2)
    | v => (openL l m).bind fun q => .ret (v :: q.1, q.2)

theorem aopen_app {m : AM} {id : Nat} {js : List Nat} {Q : AV × AM → Prop} (hq : (aopen m id js).holds Q) : (aopen m id js).holds fun r => Q r ∧ ∃ B, r.2 = m ++ B := by
  unfold aopen at *
  obtain ⟨b, hb, hq⟩ := T.holds_opt hq
  obtain ⟨F, hF, hq⟩ := T.holds_opt hq
  rw [hb]
  show (T.opt b.fam _).holds _
  rw [hF]
  exact ⟨fun h => ⟨hq.1 h, [], by simp⟩, fun h => ⟨hq.2 h, _, rfl⟩⟩

theorem openL_sound {w0 : World} {X : Nat → Prop} {w : World} : ∀ (l : List AV) (m : AM) (loc : Loc) (Q : List AV × AM → Prop), MR w0 X loc m w → belowL m.length l → (openL l m).holds Q →
    ∃ l' m' loc' B, Q (l', m') ∧ concL loc' l' = concL loc l ∧ belowL m'.length l' ∧ m' = m ++ B ∧ MR w0 X loc' m' w ∧ ∀ i, i < m.length → loc' i = loc i
  | [], m, loc, Q, h, _, hq => ⟨[], m, loc, [], hq, rfl, by simp [belowL], by simp, h, fun _ _ => rfl⟩
  | v :: l, m, loc, Q, h, hb, hq => by
    simp only [belowL] at hb
    have plainCase : ((openL l m).bind fun q => T.ret (v :: q.1, q.2)).holds Q → ∃ l' m' loc' B, Q (l', m') ∧ concL loc' l' = concL loc (v :: l) ∧ belowL m'.length l' ∧ m' = m ++ B ∧ MR w0 X loc' m' w ∧ ∀ i, i < m.length → loc' i = loc i := by
      intro hq
      rw [T.holds_bind] at hq
      obtain ⟨l', m', loc', B, hQ, h1, h2, h3, h4, h5⟩ := openL_sound l m loc _ h hb.2 hq
      refine ⟨v :: l', m', loc', B, hQ, by simp only [concL]; rw [h1, conc_congr h5 v hb.1], ?_, h3, h4, h5⟩
      simp only [belowL]
      exact ⟨below_mono (by rw [h3]; simp) v hb.1, h2⟩
    unfold openL at hq
    split at hq
    · rename_i id js
      rw [T.holds_bind] at hq
      obtain ⟨r, m1, loc1, ⟨hQ, B1, hB1⟩, h1, h2, h3, h4, h5⟩ := aopen_sound h (aopen_app hq)
      rw [T.holds_bind] at hQ
      obtain ⟨l', m', loc', B, hQ', g1, g2, g3, g4, g5⟩ := openL_sound l m1 loc1 _ h4 (belowL_mono h3 l hb.2) hQ
      dsimp only at hB1
      have hle : m1.length ≤ m'.length := by rw [g3]; simp
      refine ⟨r :: l', m', loc', B1 ++ B, hQ', ?_, ?_, by rw [g3, hB1, List.append_assoc], g4, fun i hi => (g5 i (Nat.lt_of_lt_of_le hi h3)).trans (h5 i hi)⟩
      · simp only [concL]
        rw [conc_congr g5 r h2, h1, g1, concL_congr h5 l hb.2]
      · simp only [belowL]
        exact ⟨below_mono hle r h2, g2⟩
    · exact plainCase hq

def openS : Summ → Summ
  | .eff s => .eff fun args m => (openL args m).bind fun r => s r.1 r.2
  | .pure s => .pure fun args m => (openL args m).bind fun r => (s r.1 r.2).bind fun v => match plain v with
    | true => .ret v
    | false => .fail
  | .ext s => .ext s

theorem open_ok {P : Program} {f : FuncId} : ∀ {s : Summ}, SummOK P f s → SummOK P f (openS s)
  | .eff s, h => by
    refine ⟨h.1, fun args m Q hq hb w0 X loc w hm => ?_⟩
    rw [T.holds_bind] at hq
    obtain ⟨l', m1, loc1, B, hQ, h1, h2, h3, h4, h5⟩ := openL_sound args m loc _ hm hb hq
    rw [← h1]
    refine (h.2 l' m1 Q hQ h2 w0 X loc1 w h4).mono ?_
    rintro e w' ⟨v, m', loc', g1, g2, g3, g4, g5, g6⟩
    have hle : m.length ≤ m1.length := by rw [h3]; simp
    exact ⟨v, m', loc', g1, g2, g3, by omega, g5, fun i hi => (g6 i (by omega)).trans (h5 i hi)⟩
  | .pure s, h => by
    refine ⟨h.1, fun args m Q hq hb w0 X loc w hm => ?_⟩
    rw [T.holds_bind, T.holds_bind] at hq
    obtain ⟨l', m1, loc1, B, hQ, h1, h2, h3, h4, h5⟩ := openL_sound args m loc _ hm hb hq
    rw [← h1]
    rw [T.holds_bind] at hQ
    have hQ' : ((s l' m1).bind fun v => T.ret (v, m1)).holds fun r => r.2 = m1 ∧ plain r.1 = true ∧ Q (r.1, m) := by
      rw [T.holds_bind]
      refine T.holds_mono ?_ _ hQ
      intro v hv
      cases hp : plain v with
      | true => rw [hp] at hv; exact ⟨rfl, hp, hv⟩
      | false => rw [hp] at hv; exact hv.elim
    refine (h.2 l' m1 _ hQ' h2 w0 X loc1 w h4).mono ?_
    rintro e w' ⟨v, m', loc', ⟨g0, gp, g1⟩, g2, g3, g4, g5, g6⟩
    dsimp only at g0 gp g1
    subst g0
    have hle : m.length ≤ m'.length := by rw [h3]; simp
    refine ⟨v, m, loc', g1, g2, plain_below _ _ gp, Nat.le_refl _, hm.trunc g5 (fun id b hg => ?_), fun i hi => (g6 i (by omega)).trans (h5 i hi)⟩
    rw [h3, AM.get_append_old _ (AM.get_lt hg)]
    exact hg
  | .ext s, h => h

def openAll : List (Nat × Summ) → List (Nat × Summ)
  | [] => []
  | (f, s) :: l => (f, openS s) :: openAll l

theorem EnvOK.open_ {P : Program} : ∀ {l : List (Nat × Summ)}, EnvOK P l → EnvOK P (openAll l) := by
  intro l h
  have hfind : ∀ (l : List (Nat × Summ)) f s, find (openAll l) f = some s → ∃ s0, find l f = some s0 ∧ s = openS s0 := by
    intro l
    induction l with
    | nil => intro f s hs; cases hs
    | cons p l ih =>
      obtain ⟨g, s1⟩ := p
      intro f s hs
      unfold openAll find at hs
      unfold find
      split at hs
      · rename_i he
        rw [if_pos he]
        exact ⟨s1, rfl, (Option.some.inj hs).symm⟩
      · rename_i he
        rw [if_neg he]
        exact ih f s hs
  intro f s hs
  obtain ⟨s0, h1, rfl⟩ := hfind l f s hs
  exact open_ok (h f s0 h1)

end Go.Ox
