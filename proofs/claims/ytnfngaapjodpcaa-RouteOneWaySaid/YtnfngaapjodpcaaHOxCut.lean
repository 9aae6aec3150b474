/-
  Code in pieces: between them a state is told anew, with less of it.
-/
import Derived.Test.YtnfngaapjodpcaaHOxP
set_option linter.unusedVariables false
set_option linter.unusedSimpArgs false
namespace Go.Ox

/-- Up to what is told less. -/
def Weak (E : Env) (Q : Ex × St → Prop) (r : Ex × St) : Prop := ∃ ρ st, SubSt E.n0 ρ r.2 st ∧ Q (r.1, st)

theorem PostOf.weak {E : Env} {w0 : World} {X : Nat → Prop} {loc0 : Loc} {Q : Ex × St → Prop} : ∀ e a w, PostOf E w0 X loc0 (Weak E Q) e a w → PostOf E w0 X loc0 Q e a w
  | .normal, _, _, ⟨loc, st, ⟨ρ, st2, h1, h2⟩, hs⟩ => ⟨_, st2, h2, hs.sub h1⟩
  | .exit id, _, _, ⟨loc, st, ⟨ρ, st2, h1, h2⟩, hs⟩ => ⟨_, st2, h2, hs.sub h1⟩
  | .ret, _, _, ⟨loc, st, ⟨ρ, st2, h1, h2⟩, hs⟩ => ⟨_, st2, h2, hs.sub h1⟩
  | .goto l, _, _, ⟨loc, st, ⟨ρ, st2, h1, h2⟩, hs⟩ => ⟨_, st2, h2, hs.sub h1⟩
  | .panic _, _, _, hq => hq
  | .outgrown, _, _, hq => hq

theorem AWp.mono {P : Program} {E : Env} {c : Code} {st : St} {Q R : Ex × St → Prop} (h : AWp P E c st Q) (hq : ∀ r, Q r → R r) : AWp P E c st R :=
  fun w0 X loc0 loc a w hs => wp_mono (h w0 X loc0 loc a w hs) (PostOf.mono hq)
theorem AWp.weak {P : Program} {E : Env} {c : Code} {st : St} {Q : Ex × St → Prop} (h : AWp P E c st (Weak E Q)) : AWp P E c st Q :=
  fun w0 X loc0 loc a w hs => wp_mono (h w0 X loc0 loc a w hs) PostOf.weak
theorem AWp.sub {P : Program} {E : Env} {c : Code} {st' st : St} {Q : Ex × St → Prop} {ρ : Nat → Nat} (hs : SubSt E.n0 ρ st' st) (h : AWp P E c st Q) : AWp P E c st' Q :=
  fun w0 X loc0 loc a w h' => h w0 X loc0 _ a w (h'.sub hs)

/-- Nothing more is done. -/
def AWpS (E : Env) (st : St) (Q : Ex × St → Prop) : Prop := ∀ w0 X loc0 loc a w, SR E.nt E.n0 w0 X loc0 loc st a w → PostOf E w0 X loc0 Q .normal a w

def chainOf : Code → List Code
  | .seq a b => chainOf a ++ chainOf b
  | c => [c]

def Then (Q : Ex × St → Prop) (k : St → Prop) (r : Ex × St) : Prop :=
  match r.1 with
  | .norm => k r.2
  | .exit id => Q (.exit id, r.2)
  | .ret => Q (.ret, r.2)
  | .goto l => Q (.goto l, r.2)

def AWpL (P : Program) (E : Env) : List Code → St → (Ex × St → Prop) → Prop
  | [], st, Q => AWpS E st Q
  | c :: l, st, Q => AWp P E c st (Then Q fun st' => AWpL P E l st' Q)

def acodeL (P : Program) (E : Env) : List Code → St → T (Ex × St)
  | [], st => .ret (.norm, st)
  | c :: l, st => (acode P E c st).bind fun r => match r.1 with
    | .norm => acodeL P E l r.2
    | e => .ret (e, r.2)

theorem AWpL.mono {P : Program} {E : Env} {Q R : Ex × St → Prop} (hq : ∀ r, Q r → R r) : ∀ {l : List Code} {st : St}, AWpL P E l st Q → AWpL P E l st R
  | [], st, h => fun w0 X loc0 loc a w hs => PostOf.mono hq .normal a w (h w0 X loc0 loc a w hs)
  | c :: l, st, h => AWp.mono h fun r hr => by
    obtain ⟨e, st'⟩ := r
    cases e with
    | norm => exact AWpL.mono hq hr
    | exit id => exact hq _ hr
    | ret => exact hq _ hr
    | goto l => exact hq _ hr

theorem AWpL.sub {P : Program} {E : Env} {Q : Ex × St → Prop} {ρ : Nat → Nat} : ∀ {l : List Code} {st' st : St}, SubSt E.n0 ρ st' st → AWpL P E l st Q → AWpL P E l st' Q
  | [], st', st, hs, h => fun w0 X loc0 loc a w h' => h w0 X loc0 _ a w (h'.sub hs)
  | c :: l, st', st, hs, h => AWp.sub hs h

theorem PostOf.thenWeak {E : Env} {w0 : World} {X : Nat → Prop} {loc0 : Loc} {Q : Ex × St → Prop} {K K' : St → Prop} (hk : ∀ st, K st → K' st) : ∀ e a w, PostOf E w0 X loc0 (Then (Weak E Q) K) e a w → PostOf E w0 X loc0 (Then Q K') e a w
  | .normal, _, _, ⟨loc, st, h, hs⟩ => ⟨loc, st, hk _ h, hs⟩
  | .exit id, _, _, ⟨loc, st, ⟨ρ, st2, h1, h2⟩, hs⟩ => ⟨_, st2, h2, hs.sub h1⟩
  | .ret, _, _, ⟨loc, st, ⟨ρ, st2, h1, h2⟩, hs⟩ => ⟨_, st2, h2, hs.sub h1⟩
  | .goto l, _, _, ⟨loc, st, ⟨ρ, st2, h1, h2⟩, hs⟩ => ⟨_, st2, h2, hs.sub h1⟩
  | .panic _, _, _, hq => hq
  | .outgrown, _, _, hq => hq

theorem AWpL.weak {P : Program} {E : Env} {Q : Ex × St → Prop} : ∀ {l : List Code} {st : St}, AWpL P E l st (Weak E Q) → AWpL P E l st Q
  | [], st, h => fun w0 X loc0 loc a w hs => PostOf.weak .normal a w (h w0 X loc0 loc a w hs)
  | c :: l, st, h => fun w0 X loc0 loc a w hs => wp_mono (h w0 X loc0 loc a w hs) (PostOf.thenWeak fun _ h => AWpL.weak h)

theorem awpl_unapp {P : Program} {E : Env} {Q : Ex × St → Prop} {l2 : List Code} : ∀ {l1 : List Code} {st : St}, AWpL P E (l1 ++ l2) st Q → AWpL P E l1 st (Then Q fun st' => AWpL P E l2 st' Q)
  | [], st, h => fun w0 X loc0 loc a w hs => ⟨loc, st, h, hs⟩
  | c :: l1, st, h => by
    refine AWp.mono h fun r hr => ?_
    obtain ⟨e, st'⟩ := r
    cases e with
    | norm => exact awpl_unapp hr
    | exit id => exact hr
    | ret => exact hr
    | goto l => exact hr

/-- A chain of codes is that of its pieces. -/
theorem awp_chain {P : Program} {E : Env} : ∀ {c : Code} {Q : Ex × St → Prop} {st : St}, AWpL P E (chainOf c) st Q → AWp P E c st Q := by
  have one : ∀ (c : Code) (Q : Ex × St → Prop) (st : St), AWpL P E [c] st Q → AWp P E c st Q := fun c Q st h w0 X loc0 loc a w hs => wp_mono (h w0 X loc0 loc a w hs) fun e a' w' he => by
    cases e with
    | normal => obtain ⟨loc', st', h1, h2⟩ := he; exact h1 w0 X loc0 loc' a' w' h2
    | exit id => exact he
    | ret => exact he
    | goto l => exact he
    | panic ch => exact he
    | outgrown => exact he
  intro c
  induction c with
  | seq x y ihx ihy =>
    intro Q st h w0 X loc0 loc a w hs
    refine wp_seq (wp_mono (ihx (awpl_unapp (l1 := chainOf x) h) w0 X loc0 loc a w hs) fun e a' w' he => ?_)
    cases e with
    | normal => obtain ⟨loc', st', h1, h2⟩ := he; exact ihy h1 w0 X loc0 loc' a' w' h2
    | exit id => exact he
    | ret => exact he
    | goto l => exact he
    | panic ch => exact he
    | outgrown => exact he
  | _ => exact fun h => one _ _ _ h

theorem awpl_code {P : Program} {E : Env} (hE : EnvOK P E.fns) {Q : Ex × St → Prop} : ∀ {l : List Code} {st : St}, (∀ c ∈ l, ∀ c' ∈ loopsIn c, LoopOK P E c') → (acodeL P E l st).holds Q → AWpL P E l st Q
  | [], st, _, h => fun w0 X loc0 loc a w hs => ⟨loc, st, h, hs⟩
  | c :: l, st, hL, h => by
    unfold acodeL at h
    rw [T.holds_bind] at h
    refine AWp.mono (fun w0 X loc0 loc a w hs => code_sound hE c (hL c (by simp)) st _ h w0 X loc0 loc a w hs) fun r hr => ?_
    obtain ⟨e, st'⟩ := r
    cases e with
    | norm => exact awpl_code hE (fun c' hc' => hL c' (by simp [hc'])) hr
    | exit id => exact hr
    | ret => exact hr
    | goto l => exact hr

theorem awpl_app {P : Program} {E : Env} {Q : Ex × St → Prop} {l2 : List Code} : ∀ {l1 : List Code} {st : St}, AWpL P E l1 st (Then Q fun st' => AWpL P E l2 st' Q) → AWpL P E (l1 ++ l2) st Q
  | [], st, h => by
    cases l2 with
    | nil =>
      intro w0 X loc0 loc a w hs
      obtain ⟨loc', st', h1, h2⟩ := h w0 X loc0 loc a w hs
      exact h1 w0 X loc0 loc' a w h2
    | cons c l =>
      intro w0 X loc0 loc a w hs
      obtain ⟨loc', st', h1, h2⟩ := h w0 X loc0 loc a w hs
      exact h1 w0 X loc0 loc' a w h2
  | c :: l1, st, h => by
    refine AWp.mono h fun r hr => ?_
    obtain ⟨e, st'⟩ := r
    cases e with
    | norm => exact awpl_app hr
    | exit id => exact hr
    | ret => exact hr
    | goto l => exact hr

/-- The first pieces by their tree; the others from a state that is told anew. -/
theorem awpl_cut {P : Program} {E : Env} (hE : EnvOK P E.fns) {Q : Ex × St → Prop} (n : Nat) {l : List Code} {st : St} (hL : ∀ c ∈ l.take n, ∀ c' ∈ loopsIn c, LoopOK P E c') (h : (acodeL P E (l.take n) st).holds (Weak E (Then Q fun st' => AWpL P E (l.drop n) st' Q))) : AWpL P E l st Q := by
  have := awpl_app (l2 := l.drop n) (AWpL.weak (awpl_code hE hL h))
  rwa [List.take_append_drop] at this

/-- The last pieces by their tree. -/
theorem awpl_end {P : Program} {E : Env} (hE : EnvOK P E.fns) {Q : Ex × St → Prop} {l : List Code} {st : St} (hL : ∀ c ∈ l, ∀ c' ∈ loopsIn c, LoopOK P E c') (h : (acodeL P E l st).holds (Weak E Q)) : AWpL P E l st Q :=
  AWpL.weak (awpl_code hE hL h)

/-- A block: its own pieces; left by its number, the others go on. -/
theorem awpl_block {P : Program} {E : Env} {Q : Ex × St → Prop} {id : Nat} {c : Code} {l : List Code} {st : St}
    (h : AWpL P E (chainOf c) st fun r => match r.1 with
      | .norm => AWpL P E l r.2 Q
      | .exit id' => if id' = id then AWpL P E l r.2 Q else Q (.exit id', r.2)
      | .ret => Q (.ret, r.2)
      | .goto l => Q (.goto l, r.2)) : AWpL P E (.block id c :: l) st Q := by
  intro w0 X loc0 loc a w hs
  refine wp_block (wp_mono (awp_chain h w0 X loc0 loc a w hs) fun e a' w' he => ?_)
  cases e with
  | normal => exact he
  | exit id' =>
    obtain ⟨loc', st', h1, h2⟩ := he
    simp only [Exit.inBlock]
    split
    · rename_i hid
      dsimp only at h1
      rw [if_pos hid] at h1
      exact ⟨loc', st', h1, h2⟩
    · rename_i hid
      dsimp only at h1
      rw [if_neg hid] at h1
      exact ⟨loc', st', h1, h2⟩
  | ret => exact he
  | goto l => exact he
  | panic ch => exact he
  | outgrown => exact he

theorem weak_keep {E : Env} {Q : Ex × St → Prop} (ts : List Nat) {t : T (Ex × St)} (h : (keepT ts t).holds (Weak E Q)) : t.holds (Weak E Q) := by
  unfold keepT at h
  rw [T.holds_bind] at h
  refine T.holds_mono ?_ _ h
  rintro ⟨e, st⟩ ⟨ρ, st2, h1, h2⟩
  exact ⟨ρ, st2, h1.keep, h2⟩

/-- One piece of a chain, a block's inner pieces. -/
def pieces (c : Code) (n : Nat) : List Code := (chainOf c).take n
def piecesFrom (c : Code) (n : Nat) : List Code := (chainOf c).drop n
def inBlk : Code → Code
  | .block _ c => c
  | c => c
def noLoopsL : List Code → Bool
  | [] => true
  | c :: l => (loopsIn c).isEmpty && noLoopsL l
theorem noLoopsL_ok {P : Program} {E : Env} : ∀ {l : List Code}, noLoopsL l = true → ∀ c ∈ l, ∀ c' ∈ loopsIn c, LoopOK P E c'
  | [], _, _, h => by cases h
  | d :: l, h, c, hc => by
    simp only [noLoopsL, Bool.and_eq_true, List.isEmpty_iff] at h
    rcases List.mem_cons.1 hc with rfl | hc
    · rw [h.1]; intro c' hc'; cases hc'
    · exact noLoopsL_ok h.2 c hc

end Go.Ox
