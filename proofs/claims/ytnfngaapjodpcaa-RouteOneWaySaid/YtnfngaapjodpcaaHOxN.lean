/-
  Loops that are run out; slices of numbers that are read.
-/
import Derived.Test.YtnfngaapjodpcaaHOxM
set_option linter.unusedVariables false
set_option linter.unusedSimpArgs false
namespace Go.Ox

/-! ### A loop of few rounds -/

def unrollN (P : Program) (E : Env) (c : Code) : Nat → St → T (Ex × St)
  | 0, _ => .fail
  | n + 1, st => (acode P E c st).bind fun r => match r.1 with
    | .norm => unrollN P E c n r.2
    | e => .ret (e, r.2)

theorem unroll_wp {P : Program} {E : Env} (hE : EnvOK P E.fns) {c : Code} (hL : ∀ c' ∈ loopsIn c, LoopOK P E c') (n : Nat) (st : St) (Q : Ex × St → Prop) (hq : (unrollN P E c n st).holds Q) : AWp P E (.loop c) st Q := by
  intro w0 X loc0 loc a w h
  refine wp_loop_rel (fun k a w => ∃ st loc, (unrollN P E c k st).holds Q ∧ SR E.nt E.n0 w0 X loc0 loc st a w) ?_ ⟨st, loc, hq, h⟩
  rintro k a w ⟨st, loc, hq, h⟩
  cases k with
  | zero => exact hq.elim
  | succ k =>
    unfold unrollN at hq
    rw [T.holds_bind] at hq
    refine wp_mono (code_sound hE c hL st _ hq w0 X loc0 loc a w h) ?_
    intro e a' w' he
    cases e with
    | normal =>
      obtain ⟨loc', st', hq', hs⟩ := he
      exact ⟨k, Nat.lt_succ_self k, st', loc', hq', hs⟩
    | exit id => exact he
    | ret => exact he
    | goto l => exact he
    | panic ch => exact he
    | outgrown => exact he

theorem unroll_ok {P : Program} {E : Env} (hE : EnvOK P E.fns) {c : Code} (E' : Env) (hn : E'.nt = E.nt) (h0 : E'.n0 = E.n0) (hf : E'.fns = E.fns) (n : Nat)
    (hL' : ∀ c' ∈ loopsIn c, LoopOK P E' c') (hl : E.loop (keyOf c) = unrollN P E' c n) (hs : isScopeB c = false := by kernel_rfl) : LoopOK P E c := by
  intro st Q hq w0 X loc0 loc a w h
  rw [hl] at hq
  rw [lcode_loop hs]
  have := unroll_wp (E := E') (by rw [hf]; exact hE) hL' n st Q hq w0 X loc0 loc a w (by rw [hn, h0]; exact h)
  refine wp_mono this ?_
  intro e a' w' he
  cases e <;> simp only [PostOf, hn, h0] at he ⊢ <;> exact he

/-! ### A scope: what is jumped to, so many times -/

def scopeN (P : Program) (E : Env) (c : Code) : Nat → Code → St → T (Ex × St)
  | 0, _, _ => .fail
  | n + 1, x, st => (acode P E x st).bind fun r => match r.1 with
    | .goto l => match findLabel c l with
      | some rest => scopeN P E c n rest r.2
      | none => .ret (.goto l, r.2)
    | e => .ret (e, r.2)

theorem wp_scope_rel {P : Program} {c : Code} {Q : Exit → Act → World → Prop} (R : Nat → Code → Act → World → Prop)
    (pass : ∀ n x a w, R n x a w → x.wp P (fun e a' w' => match e with
      | .goto l => (∃ rest m, findLabel c l = some rest ∧ m < n ∧ R m rest a' w') ∨ (findLabel c l = none ∧ Q (.goto l) a' w')
      | e => Q e a' w') a w) {n : Nat} {a : Act} {w : World} (h₀ : R n c a w) : (Code.scope c).wp P Q a w := by
  intro b k cs
  have key : ∀ n x a w, R n x a w → ∃ e a' w', Q e a' w' ∧ Arrives P (lone (b.at a (.code x :: .inScope c :: k)) cs w) b k cs e a' w' := by
    intro n
    induction n using Nat.strongRecOn with
    | _ n ih =>
      intro x a w hR
      obtain ⟨e, a₁, w₁, hq, harr⟩ := pass n x a w hR b (.inScope c :: k) cs
      cases e with
      | normal => exact ⟨.normal, a₁, w₁, hq, Steps.trans harr (.one step_inScope)⟩
      | exit id => exact ⟨.exit id, a₁, w₁, hq, fun k' hk => harr k' (by simp [exitTo, hk])⟩
      | goto l =>
        rcases hq with ⟨rest, m, h1, h2, h3⟩ | ⟨h1, h2⟩
        · have hg : gotoIn l (.inScope c :: k) = some (.code rest :: .inScope c :: k) := by simp [gotoIn, h1]
          obtain ⟨e₂, a₂, w₂, hq₂, harr₂⟩ := ih m h2 rest a₁ w₁ h3
          exact ⟨e₂, a₂, w₂, hq₂, .of_steps (harr _ hg) harr₂⟩
        · exact ⟨.goto l, a₁, w₁, h2, fun k' hk => harr k' (by simp [gotoIn, h1, hk])⟩
      | ret => exact ⟨_, a₁, w₁, hq, harr⟩
      | panic ch => exact ⟨_, a₁, w₁, hq, harr⟩
      | outgrown => exact ⟨_, a₁, w₁, hq, harr⟩
  obtain ⟨e, a', w', hq, harr⟩ := key n c a w h₀
  exact ⟨e, a', w', hq, .of_steps (.one step_scope) harr⟩

theorem findLabel_loops : ∀ {c : Code} {l : Nat} {rest : Code}, findLabel c l = some rest → ∀ c' ∈ loopsIn rest, c' ∈ loopsIn c
  | .seq a b, l, rest, h, c', hc' => by
    unfold findLabel at h
    split at h
    · rename_i r hr
      cases h
      rcases List.mem_append.1 hc' with h1 | h1
      · exact List.mem_append_left _ (findLabel_loops hr c' h1)
      · exact List.mem_append_right _ h1
    · exact List.mem_append_right _ (findLabel_loops h c' hc')
  | .label l', l, rest, h, c', hc' => by
    unfold findLabel at h
    split at h
    · cases h; cases hc'
    · cases h
  | .skip, _, _, h, _, _ => by cases h
  | .region .., _, _, h, _, _ => by cases h
  | .cond .., _, _, h, _, _ => by cases h
  | .loop .., _, _, h, _, _ => by cases h
  | .block .., _, _, h, _, _ => by cases h
  | .exit .., _, _, h, _, _ => by cases h
  | .scope .., _, _, h, _, _ => by cases h
  | .goto .., _, _, h, _, _ => by cases h
  | .ret .., _, _, h, _, _ => by cases h
  | .rangeFunc .., _, _, h, _, _ => by cases h

theorem scope_wp {P : Program} {E : Env} (hE : EnvOK P E.fns) {c : Code} (hL : ∀ c' ∈ loopsIn c, LoopOK P E c') (n : Nat) (st : St) (Q : Ex × St → Prop) (hq : (scopeN P E c n c st).holds Q) : AWp P E (.scope c) st Q := by
  intro w0 X loc0 loc a w h
  refine wp_scope_rel (fun k x a w => (∀ c' ∈ loopsIn x, c' ∈ loopsIn c) ∧ ∃ st loc, (scopeN P E c k x st).holds Q ∧ SR E.nt E.n0 w0 X loc0 loc st a w) ?_ ⟨fun _ h => h, st, loc, hq, h⟩
  rintro k x a w ⟨hx, st, loc, hq, h⟩
  cases k with
  | zero => exact hq.elim
  | succ k =>
    unfold scopeN at hq
    rw [T.holds_bind] at hq
    refine wp_mono (code_sound hE x (fun c' hc' => hL c' (hx c' hc')) st _ hq w0 X loc0 loc a w h) ?_
    intro e a' w' he
    cases e with
    | normal => exact he
    | exit id => exact he
    | ret => exact he
    | goto l =>
      obtain ⟨loc', st', hq', hs⟩ := he
      dsimp only at hq' ⊢
      split at hq'
      · rename_i rest hr
        exact .inl ⟨rest, k, hr, Nat.lt_succ_self k, findLabel_loops hr, st', loc', hq', hs⟩
      · rename_i hr
        exact .inr ⟨hr, loc', st', hq', hs⟩
    | panic ch => exact he
    | outgrown => exact he

theorem scope_ok {P : Program} {E : Env} (hE : EnvOK P E.fns) {c : Code} (E' : Env) (hn : E'.nt = E.nt) (h0 : E'.n0 = E.n0) (hf : E'.fns = E.fns) (n : Nat)
    (hL' : ∀ c' ∈ loopsIn c, LoopOK P E' c') (hl : E.loop (keyOf c) = fun st => scopeN P E' c n c st) : LoopOK P E (.scope c) := by
  intro st Q hq w0 X loc0 loc a w h
  have hq : (E.loop (keyOf c) st).holds Q := hq
  rw [hl] at hq
  have := scope_wp (E := E') (by rw [hf]; exact hE) hL' n st Q hq w0 X loc0 loc a w (by rw [hn, h0]; exact h)
  refine wp_mono this ?_
  intro e a' w' he
  cases e <;> simp only [PostOf, hn, h0] at he ⊢ <;> exact he

/-! ### Rows of numbers -/

def intAt (b : Blk) (j : Nat) : Int :=
  match b.f j with
  | [.int _ n] => n
  | _ => 0

def IntRow (k : IntKind) (b : Blk) : Prop := b.pre = [] ∧ b.s = 1 ∧ b.post = [] ∧ ∀ j, j < b.n → b.f j = [.int k (intAt b j)]

/-- Such a block, told anew; to be read alone. -/
def intView (k : IntKind) (b : Blk) : Blk := Blk.rows false 1 b.n fun j => [.int k (intAt b j)]

theorem IntRow.view {k : IntKind} {b : Blk} (h : IntRow k b) (n : Nat) (ρ : Nat → Nat) : BlkOK n ρ b (intView k b) := by
  obtain ⟨h1, h2, h3, h4⟩ := h
  refine ⟨fun h => (by cases h), (by rw [h1]; trivial), (by rw [h2]; rfl), rfl, fun j hj => ?_, (by rw [h3]; trivial), trivial⟩
  rw [h4 j hj]
  simp [intView, Blk.rows, LAlike, ren, below, AV.scalar]

theorem Sub.ro {ρ : Nat → Nat} {m' m : AM} (h : SubBlks m.length ρ m' 0 m) (hro : ∀ id b, m.get id = some b → b.rw = false) : Sub 0 ρ m' m where
  blk id b hg := by
    obtain ⟨b', h1, h2⟩ := h.get id b hg
    rw [Nat.zero_add] at h1
    exact ⟨b', h1, h2.cell⟩
  sep id b id' b' hg _ hr _ := by rw [hro id b hg] at hr; cases hr
  base i hi := by omega
  nle := Nat.zero_le _
  fam id b hg := by
    obtain ⟨b', h1, h2⟩ := h.get id b hg
    rw [Nat.zero_add] at h1
    exact ⟨b', h1, h2.fam⟩

theorem putAll_ro (l : List Nat) (n : Nat) (mc mc' : AM) (hro : ∀ i, rwAt mc i = false) : ∀ (js : List Nat) (i : Nat) (m : AM), putAll l n mc mc' js i m = m
  | [], _, _ => rfl
  | j :: js, i, m => by
    unfold putAll
    rw [hro i]
    exact putAll_ro l n mc mc' hro js (i + 1) m

/-- What is asked of a call that reads some blocks, and tells a plain value. -/
structure RoAt (P : Program) (f : FuncId) (args : List AV) (m : AM) (t : T AV) where
  l : List Nat
  argsc : List AV
  mc : AM
  len : l.length = mc.length
  lt : ∀ j ∈ l, j < m.length
  sub : SubBlks mc.length (out l m.length) m 0 mc
  ro : ∀ id b, mc.get id = some b → b.rw = false
  below : belowL mc.length argsc
  args : args = renL (out l m.length) argsc
  eff : EffAt P f argsc mc (t.bind fun v => .ret (v, mc))

theorem ro_ok {P : Program} {f : FuncId} {s : List AV → AM → T AV} (hc : CanEnter P f) (h : ∀ args m Q, (s args m).holds Q → (s args m).holds (fun v => plain v = true) ∧ Nonempty (RoAt P f args m (s args m))) : SummOK P f (.pure s) := by
  refine ⟨hc, fun args m Q hq hb => ?_⟩
  rw [T.holds_bind] at hq
  obtain ⟨hv, ⟨r⟩⟩ := h args m _ hq
  have hro : ∀ i, rwAt r.mc i = false := fun i => by
    unfold rwAt
    split
    · rename_i b hb; exact r.ro i b hb
    · rfl
  refine lift_ok r.eff r.l r.len r.lt (Sub.ro r.sub r.ro) r.below r.args Q ?_ hb
  unfold lift
  rw [T.holds_bind, T.holds_bind]
  refine T.holds_mono ?_ _ (T.holds_and _ hq hv)
  rintro v ⟨h1, h2⟩
  simp only [T.holds, plain_ren _ _ h2, putAll_ro _ _ _ _ hro]
  rw [show r.mc.drop r.l.length = [] from List.drop_eq_nil_of_le (by rw [r.len]; exact Nat.le_refl _)]
  simp only [news, List.append_nil]
  exact h1

/-- A leaf that keeps the memory that came in. -/
theorem leaf_keep {n0 : Nat} {Q : AV × AM → Prop} {v : AV} {m' m : AM} (h : Q (v, m)) (hp : plain v = true) (hs : Sub n0 id m' m) : Leaf n0 Q (v, m') :=
  ⟨id, v, m, h, by rw [plain_ren _ _ hp]; exact Alike_refl _, plain_below _ _ hp, hs⟩

theorem Sub.same {n0 : Nat} {m : AM} (hn : n0 ≤ m.length) (h : SubBlks m.length id m 0 m) : Sub n0 id m m := Sub.ofId h hn

/-- A slice of numbers as an argument: what is to be shown of it, its length, its numbers. -/
structure IntsArg where
  need : Prop
  chk : Bool
  len : Nat
  at_ : Nat → Int

/-- No slice, as an empty one. -/
def nrm : AV → AV
  | .nils => .esl none
  | v => v
theorem nrm_conc (v : AV) (loc : Loc) : conc loc (nrm v) = conc loc v := by cases v <;> rfl
theorem nrm_below {n : Nat} {v : AV} (h : below n v) : below n (nrm v) := by cases v <;> exact h
theorem nrmL_conc (loc : Loc) : ∀ l : List AV, concL loc (l.map nrm) = concL loc l
  | [] => rfl
  | v :: l => by simp only [List.map_cons, concL, nrm_conc, nrmL_conc loc l]
theorem nrmL_below {n : Nat} : ∀ {l : List AV}, belowL n l → belowL n (l.map nrm)
  | [], h => h
  | v :: l, h => by simp only [List.map_cons, belowL] at *; exact ⟨nrm_below h.1, nrmL_below h.2⟩
theorem eff_nrm {P : Program} {f : FuncId} {s : List AV → AM → T (AV × AM)} (h : SummOK P f (.eff s)) : SummOK P f (.eff fun args m => s (args.map nrm) m) := by
  refine ⟨h.1, fun args m Q hq hb w0 X loc w hm => ?_⟩
  have := h.2 (args.map nrm) m Q hq (nrmL_below hb) w0 X loc w hm
  rw [nrmL_conc] at this
  exact this
theorem pure_nrm {P : Program} {f : FuncId} {s : List AV → AM → T AV} (h : SummOK P f (.pure s)) : SummOK P f (.pure fun args m => s (args.map nrm) m) :=
  ⟨h.1, (eff_nrm (s := fun args m => (s args m).bind fun v => .ret (v, m)) h).2⟩

def intsArg (k : IntKind) (m : AM) : AV → Option IntsArg
  | .esl _ => some ⟨True, true, 0, fun _ => 0⟩
  | .sl id 0 1 j len _ =>
    match m.get id with
    | some b => some ⟨IntRow k b, decide (j + len ≤ b.n), len, fun i => intAt b (j + i)⟩
    | none => none
  | _ => none

end Go.Ox
