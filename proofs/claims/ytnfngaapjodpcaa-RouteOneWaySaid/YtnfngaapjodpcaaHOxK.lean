/-
  Numbers of blocks that are turned; loops; functions.
-/
import Derived.Test.YtnfngaapjodpcaaHOxJ
import Derived.KernelRfl
set_option linter.unusedVariables false
set_option linter.unusedSimpArgs false
namespace Go.Ox

mutual
def ren (ρ : Nat → Nat) : AV → AV
  | .ptr id k s j => .ptr (ρ id) k s j
  | .sl id k s j len cap => .sl (ρ id) k s j len cap
  | .fn f a c => .fn f (renL ρ a) (renL ρ c)
  | .agg cs => .agg (renL ρ cs)
  | .tup vs => .tup (renL ρ vs)
  | .part id js => .part (ρ id) js
  | .tt => .tt
  | .ff => .ff
  | .bool b => .bool b
  | .int k n => .int k n
  | .str s => .str s
  | .gp g o => .gp g o
  | .nilp => .nilp
  | .nils => .nils
  | .esl a => .esl a
  | .nul k => .nul k
def renL (ρ : Nat → Nat) : List AV → List AV
  | [] => []
  | v :: l => ren ρ v :: renL ρ l
end

theorem renL_eq (ρ : Nat → Nat) (l : List AV) : renL ρ l = l.map (ren ρ) := by
  induction l with
  | nil => simp [renL]
  | cons v l ih => simp [renL, ih]

mutual
theorem conc_ren (loc : Loc) (ρ : Nat → Nat) : ∀ v, conc loc (ren ρ v) = conc (fun i => loc (ρ i)) v
  | .ptr _ _ _ _ | .sl _ _ _ _ _ _ | .part _ _ | .tt | .ff | .bool _ | .int _ _ | .str _ | .gp _ _ | .nilp | .nils | .esl _ | .nul _ => by simp [ren, conc]
  | .fn _ a c => by simp [ren, conc, concL_ren loc ρ a, concL_ren loc ρ c]
  | .agg cs => by simp [ren, conc, concL_ren loc ρ cs]
  | .tup cs => by simp [ren, conc, concL_ren loc ρ cs]
theorem concL_ren (loc : Loc) (ρ : Nat → Nat) : ∀ l, concL loc (renL ρ l) = concL (fun i => loc (ρ i)) l
  | [] => by simp [renL, concL]
  | v :: l => by simp [renL, concL, conc_ren loc ρ v, concL_ren loc ρ l]
end

theorem scalar_ren (ρ : Nat → Nat) (v : AV) : (ren ρ v).scalar = v.scalar := by cases v <;> rfl
theorem all_scalar_ren (ρ : Nat → Nat) (l : List AV) : (renL ρ l).all AV.scalar = l.all AV.scalar := by
  induction l with
  | nil => rfl
  | cons v l ih => simp [renL, scalar_ren, ih]

mutual
theorem below_ren {n m : Nat} {ρ : Nat → Nat} (h : ∀ i, i < n → ρ i < m) : ∀ v, below n v → below m (ren ρ v)
  | .ptr _ _ _ _, hv => by simp only [below, ren] at *; exact h _ hv
  | .sl _ _ _ _ _ _, hv => by simp only [below, ren] at *; exact h _ hv
  | .part _ _, hv => by simp only [below, ren] at *; exact h _ hv
  | .fn _ a c, hv => by simp only [below, ren] at *; exact ⟨belowL_ren h a hv.1, belowL_ren h c hv.2⟩
  | .agg cs, hv => by simp only [below, ren] at *; exact ⟨belowL_ren h cs hv.1, by rw [all_scalar_ren]; exact hv.2⟩
  | .tup cs, hv => by simp only [below, ren] at *; exact belowL_ren h cs hv
  | .tt, _ | .ff, _ | .bool _, _ | .int _ _, _ | .str _, _ | .gp _ _, _ | .nilp, _ | .nils, _ | .esl _, _ | .nul _, _ => by simp [below, ren]
theorem belowL_ren {n m : Nat} {ρ : Nat → Nat} (h : ∀ i, i < n → ρ i < m) : ∀ l, belowL n l → belowL m (renL ρ l)
  | [], _ => by simp [belowL, renL]
  | v :: l, hv => by simp only [belowL, renL] at *; exact ⟨below_ren h v hv.1, belowL_ren h l hv.2⟩
end

/-- Two values that stand for one. -/
def Alike (u v : AV) : Prop := ∀ loc, conc loc u = conc loc v

theorem Alike.refl (v : AV) : Alike v v := fun _ => rfl

/-- A member tells what another one does. -/
def SubMem (ρ : Nat → Nat) (n : Nat) (M' M : Mem) : Prop :=
  M'.nil = M.nil ∧ M'.adr = M.adr ∧ M'.len = M.len ∧ M'.cap = M.cap ∧ M'.s = M.s ∧ (M.nil = false → ∀ o, o < M.blk.size → below n (M.blk.cell o) ∧ (M.blk.cell o).scalar = true ∧ Alike (M'.blk.cell o) (ren ρ (M.blk.cell o)))

def SubFam (ρ : Nat → Nat) (n : Nat) : Option (List Nat → Mem) → Option (List Nat → Mem) → Prop
  | _, none => True
  | some F', some F => ∀ js, SubMem ρ n (F' js) (F js)
  | none, some _ => False

theorem Mem.size_blk (M : Mem) : M.blk.size = M.cap * M.s := by simp [Mem.blk, Blk.rows, Blk.size]

/-- What m tells, m' tells, under other numbers. -/
structure Sub (n0 : Nat) (ρ : Nat → Nat) (m' m : AM) : Prop where
  blk : ∀ id b, m.get id = some b → ∃ b', m'.get (ρ id) = some b' ∧ b'.size = b.size ∧ (b.rw = true → b'.rw = true) ∧
    ∀ o, o < b.size → below m.length (b.cell o) ∧ (b.cell o).scalar = true ∧ Alike (b'.cell o) (ren ρ (b.cell o))
  sep : ∀ id b id' b', m.get id = some b → m.get id' = some b' → b.rw = true → id ≠ id' → ρ id ≠ ρ id'
  base : ∀ i, i < n0 → ρ i = i
  nle : n0 ≤ m.length
  fam : ∀ id b, m.get id = some b → ∃ b', m'.get (ρ id) = some b' ∧ SubFam ρ m.length b'.fam b.fam

theorem MR.sub {w0 : World} {X : Nat → Prop} {loc : Loc} {m' m : AM} {w : World} (h : MR w0 X loc m' w) {n0 : Nat} {ρ : Nat → Nat} (hs : Sub n0 ρ m' m) : MR w0 X (fun i => loc (ρ i)) m w where
  cell id b hg o ho := by
    obtain ⟨b', h1, h2, _, h4⟩ := hs.blk id b hg
    obtain ⟨_, _, h5⟩ := h4 o ho
    have := h.cell (ρ id) b' h1 o (by rw [h2]; exact ho)
    rw [h5 loc, conc_ren] at this
    exact this
  wf id b hg o ho := by obtain ⟨b', _, _, _, h4⟩ := hs.blk id b hg; exact (h4 o ho).1
  sc id b hg o ho := by obtain ⟨b', _, _, _, h4⟩ := hs.blk id b hg; exact (h4 o ho).2.1
  lt id b hg := by obtain ⟨b', h1, _⟩ := hs.blk id b hg; exact h.lt _ b' h1
  free id b hg hr o ho := by
    obtain ⟨b', h1, h2, h3, _⟩ := hs.blk id b hg
    exact h.free (ρ id) b' h1 (h3 hr) o (by rw [h2]; exact ho)
  sep id b id' b' hg hg' hr hne := by
    obtain ⟨c, h1, _, h3, _⟩ := hs.blk id b hg
    obtain ⟨c', h1', _⟩ := hs.blk id' b' hg'
    exact h.sep _ c _ c' h1 h1' (h3 hr) (hs.sep id b id' b' hg hg' hr hne)
  own id b hg hr := by
    obtain ⟨c, h1, _, h3, _⟩ := hs.blk id b hg
    exact h.own _ c h1 (h3 hr)
  size := h.size
  keep := h.keep
  os := h.os
  tape := h.tape
  output := h.output
  gl := h.gl
  fa id b F hg hF js := by
    obtain ⟨b', h1, h2⟩ := hs.fam id b hg
    rw [hF] at h2
    cases hF' : b'.fam with
    | none => rw [hF'] at h2; exact h2.elim
    | some F' =>
      rw [hF'] at h2
      obtain ⟨e1, e0, e2, e3, e4, e5⟩ := h2 js
      rcases h.fa _ b' F' h1 hF' js with ⟨g1, g2⟩ | ⟨g1, B, O, g2, g3, g4, g5⟩
      · exact .inl ⟨by rw [← e1]; exact g1, by rw [g2, e0]⟩
      · refine .inr ⟨by rw [← e1]; exact g1, B, O, by rw [g2, e2, e3], g3, fun id' c hg' hr' => ?_, fun o ho => ?_⟩
        · obtain ⟨c', k1, _, k3, _⟩ := hs.blk id' c hg'
          exact g4 _ c' k1 (k3 hr')
        · obtain ⟨k1, k2, k3⟩ := e5 (by rw [← e1]; exact g1) o ho
          obtain ⟨c1, _, _⟩ := g5 o (by rw [Mem.size_blk] at ho ⊢; rw [e3, e4]; exact ho)
          rw [k3 loc, conc_ren] at c1
          exact ⟨c1, k1, k2⟩

/-- What a frame tells, another one tells, under other numbers. -/
def SubFr (n : Nat) (ρ : Nat → Nat) (fr' : List (Nat × AV)) : List (Nat × AV) → Prop
  | [] => True
  | (t, v) :: l => (∃ v', slotAt fr' t = some v' ∧ Alike v' (ren ρ v) ∧ below n v) ∧ SubFr n ρ fr' l

theorem SubFr.slotAt {n : Nat} {ρ : Nat → Nat} {fr' : List (Nat × AV)} : ∀ {fr : List (Nat × AV)}, SubFr n ρ fr' fr → ∀ t v, slotAt fr t = some v → ∃ v', slotAt fr' t = some v' ∧ Alike v' (ren ρ v) ∧ below n v
  | [], _, t, v, h => by cases h
  | (u, x) :: l, hs, t, v, h => by
    simp only [SubFr] at hs
    unfold Ox.slotAt at h
    split at h
    · rename_i he
      subst he
      simp only [Option.some.injEq] at h
      subst h
      exact hs.1
    · exact hs.2.slotAt t v h

def SubSt (n0 : Nat) (ρ : Nat → Nat) (st' st : St) : Prop := SubFr st.m.length ρ st'.fr st.fr ∧ Sub n0 ρ st'.m st.m

theorem SR.sub {nt n0 : Nat} {w0 : World} {X : Nat → Prop} {loc0 loc : Loc} {st' st : St} {a : Act} {w : World} (h : SR nt n0 w0 X loc0 loc st' a w) {ρ : Nat → Nat} (hs : SubSt n0 ρ st' st) :
    SR nt n0 w0 X loc0 (fun i => loc (ρ i)) st a w where
  fr := ⟨h.fr.size, fun t v hv => by
    obtain ⟨v', h1, h2, h3⟩ := hs.1.slotAt t v hv
    obtain ⟨g1, g2, _⟩ := h.fr.val t v' h1
    exact ⟨g1, by rw [g2, h2 loc, conc_ren], h3⟩⟩
  mr := h.mr.sub hs.2
  defers := h.defers
  nle := hs.2.nle
  base i hi := by rw [hs.2.base i hi]; exact h.base i hi

/-! ### Loops -/

theorem wp_loop_rel {P : Program} {c : Code} {Q : Exit → Act → World → Prop} (R : Nat → Act → World → Prop)
    (round : ∀ n a w, R n a w → c.wp P (Exit.then (fun a' w' => ∃ m, m < n ∧ R m a' w') Q) a w) {n : Nat} {a : Act} {w : World} (h₀ : R n a w) : (Code.loop c).wp P Q a w := by
  intro b k cs
  have key : ∀ n a w, R n a w → ∃ e a' w', Q e a' w' ∧ Arrives P (lone (b.at a (.code c :: .inLoop c :: k)) cs w) b k cs e a' w' := by
    intro n
    induction n using Nat.strongRecOn with
    | _ n ih =>
      intro a w hR
      obtain ⟨e, a₁, w₁, hq, harr⟩ := round n a w hR b (.inLoop c :: k) cs
      cases e with
      | normal =>
        obtain ⟨m, hlt, hR₁⟩ := hq
        obtain ⟨e₂, a₂, w₂, hq₂, harr₂⟩ := ih m hlt a₁ w₁ hR₁
        exact ⟨e₂, a₂, w₂, hq₂, .of_steps (Steps.trans harr (.one step_inLoop)) harr₂⟩
      | exit id => exact ⟨_, a₁, w₁, hq, .pass (x := .inLoop c) rfl (fun _ _ => .inl (by simp)) harr⟩
      | goto l => exact ⟨_, a₁, w₁, hq, .pass (x := .inLoop c) rfl (fun _ _ => .inl (by simp)) harr⟩
      | ret => exact ⟨_, a₁, w₁, hq, .pass (x := .inLoop c) rfl (fun _ _ => .inl (by simp)) harr⟩
      | panic ch => exact ⟨_, a₁, w₁, hq, .pass (x := .inLoop c) rfl (fun _ _ => .inl (by simp)) harr⟩
      | outgrown => exact ⟨_, a₁, w₁, hq, .pass (x := .inLoop c) rfl (fun _ _ => .inl (by simp)) harr⟩
  obtain ⟨e, a', w', hq, harr⟩ := key n a w h₀
  exact ⟨e, a', w', hq, .of_steps (.one step_loop) harr⟩

/-- What a round leaves: it goes on, from another state; or it is over. -/
def Round {ι : Type} (E : Env) (σ : ι → St) (inv : ι → Prop) (μ : ι → Nat) (exit : ι → T (Ex × St)) (Q : Ex × St → Prop) (x : ι) (r : Ex × St) : Prop :=
  match r.1 with
  | .norm => ∃ y ρ, inv y ∧ μ y < μ x ∧ SubSt E.n0 ρ r.2 (σ y) ∧ (exit y).holds Q
  | e => ∃ ρ st', SubSt E.n0 ρ r.2 st' ∧ Q (e, st')

theorem loop_rule {P : Program} {E : Env} (hE : EnvOK P E.fns) {c : Code} (hL : ∀ c' ∈ loopsIn c, LoopOK P E c') {ι : Type} (σ : ι → St) (inv : ι → Prop) (μ : ι → Nat) (exit : ι → T (Ex × St))
    (round : ∀ x, inv x → ∀ Q, (exit x).holds Q → (acode P E c (σ x)).holds (Round E σ inv μ exit Q x)) :
    ∀ x, inv x → ∀ Q, (exit x).holds Q → AWp P E (.loop c) (σ x) Q := by
  intro x hx Q hq w0 X loc0 loc a w h
  refine wp_loop_rel (fun n a w => ∃ x loc, inv x ∧ μ x = n ∧ (exit x).holds Q ∧ SR E.nt E.n0 w0 X loc0 loc (σ x) a w) ?_ ⟨x, loc, hx, rfl, hq, h⟩
  rintro n a w ⟨x, loc, hx, rfl, hq, h⟩
  refine wp_mono (code_sound hE c hL (σ x) _ (round x hx Q hq) w0 X loc0 loc a w h) ?_
  intro e a' w' he
  cases e with
  | normal =>
    obtain ⟨loc', st', ⟨y, ρ, h1, h2, h3, h4⟩, hs⟩ := he
    exact ⟨μ y, h2, y, _, h1, rfl, h4, hs.sub h3⟩
  | exit id =>
    obtain ⟨loc', st', ⟨ρ, st2, h1, h2⟩, hs⟩ := he
    exact ⟨_, st2, h2, hs.sub h1⟩
  | ret =>
    obtain ⟨loc', st', ⟨ρ, st2, h1, h2⟩, hs⟩ := he
    exact ⟨_, st2, h2, hs.sub h1⟩
  | goto l =>
    obtain ⟨loc', st', ⟨ρ, st2, h1, h2⟩, hs⟩ := he
    exact ⟨_, st2, h2, hs.sub h1⟩
  | panic ch => exact he
  | outgrown => exact he

/-- A loop, told by what it comes to from a state of a kind. -/
def keepFr (fr : List (Nat × AV)) : List Nat → List (Nat × AV)
  | [] => []
  | t :: ts =>
    match slotAt fr t with
    | some v => (t, v) :: keepFr fr ts
    | none => keepFr fr ts

def keep (ts : List Nat) (st : St) : St := ⟨keepFr st.fr ts, st.m⟩

theorem look_keepFr {fr : List (Nat × AV)} : ∀ {ts : List Nat} {t : Nat} {v : AV}, slotAt (keepFr fr ts) t = some v → slotAt fr t = some v
  | [], _, _, h => by cases h
  | u :: ts, t, v, h => by
    unfold keepFr at h
    split at h
    · rename_i x hx
      unfold slotAt at h
      split at h
      · rename_i he
        subst he
        rw [hx]; exact h
      · exact look_keepFr h
    · exact look_keepFr h

theorem SubFr.keep {n : Nat} {ρ : Nat → Nat} {fr' : List (Nat × AV)} {ts : List Nat} : ∀ {fr : List (Nat × AV)}, SubFr n ρ (keepFr fr' ts) fr → SubFr n ρ fr' fr
  | [], _ => trivial
  | (_, _) :: _, ⟨⟨v', h1, h2⟩, h3⟩ => ⟨⟨v', look_keepFr h1, h2⟩, h3.keep⟩

theorem SubSt.keep {n0 : Nat} {ρ : Nat → Nat} {st' st : St} {ts : List Nat} (h : SubSt n0 ρ (keep ts st') st) : SubSt n0 ρ st' st := ⟨h.1.keep, h.2⟩

def slots (st : St) : List Nat := st.fr.map Prod.fst

def loopSumm {ι : Type} (n0 : Nat) (σ : ι → St) (inv : ι → Prop) (pick : St → Option ι) (exit : ι → T (Ex × St)) (st : St) : T (Ex × St) :=
  T.opt (pick st) fun x => .need (∃ ρ, SubSt n0 ρ (keep (slots (σ x)) st) (σ x)) (.need (inv x) (exit x))

theorem loopSumm_ok {P : Program} {E : Env} (hE : EnvOK P E.fns) {c : Code} (hL : ∀ c' ∈ loopsIn c, LoopOK P E c') {ι : Type} (σ : ι → St) (inv : ι → Prop) (μ : ι → Nat) (pick : St → Option ι) (exit : ι → T (Ex × St))
    (round : ∀ x, inv x → ∀ Q, (exit x).holds Q → (acode P E c (σ x)).holds (Round E σ inv μ exit Q x)) (hl : E.loop (keyOf c) = loopSumm E.n0 σ inv pick exit) (hs : isScopeB c = false := by kernel_rfl) : LoopOK P E c := by
  intro st Q hq w0 X loc0 loc a w h
  rw [hl] at hq
  rw [lcode_loop hs]
  obtain ⟨x, _, ⟨ρ, hs⟩, hi, hq⟩ := T.holds_opt hq
  exact loop_rule hE hL σ inv μ exit round x hi Q hq w0 X loc0 _ a w (h.sub hs.keep)

/-! ### Functions -/

def enum (k : Nat) : List AV → List (Nat × AV)
  | [] => []
  | v :: l => (k, v) :: enum (k + 1) l

theorem look_enum : ∀ (l : List AV) (k t : Nat) (v : AV), slotAt (enum k l) t = some v → k ≤ t ∧ l[t - k]? = some v
  | [], _, _, _, h => by cases h
  | x :: l, k, t, v, h => by
    unfold enum slotAt at h
    split at h
    · rename_i he
      subst he
      simp only [Option.some.injEq] at h
      subst h
      simp
    · rename_i hne
      obtain ⟨h1, h2⟩ := look_enum l (k + 1) t v h
      refine ⟨by omega, ?_⟩
      rw [show t - k = (t - (k + 1)) + 1 from by omega, List.getElem?_cons_succ]
      exact h2

def aresults (P : Program) : List ResultVar → St → T (List AV)
  | [], _ => .ret []
  | .tmp t :: l, st => T.opt (slotAt st.fr t) fun v => (aresults P l st).bind fun vs => .ret (v :: vs)
  | .cell a t :: l, st => T.opt (slotAt st.fr a) fun p => (aload P st.m t p).bind fun v => (aresults P l st).bind fun vs => .ret (v :: vs)

theorem aload_addr {P : Program} {m : AM} {t : TypeId} {p : AV} {Q : AV → Prop} (h : (aload P m t p).holds Q) (loc : Loc) (w : World) :
    ∃ a, (asAddr (conc loc p)).run P w = .ok a w ∧ (Instr.loadAt t (conc loc p)) = loadVar t a := by
  cases p with
  | ptr id k s j => exact ⟨_, by simp [conc, asAddr]; rfl, by simp [conc, Instr.loadAt, Instr.sureAddr]⟩
  | gp g o => exact ⟨_, by simp [conc, asAddr]; rfl, by simp [conc, Instr.loadAt, Instr.sureAddr]⟩
  | _ => simp [aload, T.holds] at h

theorem aresults_sound {P : Program} {nt n0 : Nat} {w0 : World} {X : Nat → Prop} {loc0 loc : Loc} {st : St} {a : Act} {w : World} (h : SR nt n0 w0 X loc0 loc st a w) : ∀ (l : List ResultVar) (Q : List AV → Prop), (aresults P l st).holds Q →
    ∃ vs, Q vs ∧ belowL st.m.length vs ∧ (l.mapM (m := Sem) fun
      | .tmp t => pure (a.tmps.getD t undef)
      | .cell x t => do loadVar t (← asAddr (a.tmps.getD x undef))).run P w = .ok (concL loc vs) w
  | [], Q, hq => ⟨[], hq, by simp [belowL], by simp [concL]⟩
  | .tmp t :: l, Q, hq => by
    obtain ⟨v, hv, hq⟩ := T.holds_opt hq
    rw [T.holds_bind] at hq
    obtain ⟨_, g2, g3⟩ := h.fr.val t v hv
    obtain ⟨vs, hQ, hb, hrun⟩ := aresults_sound h l _ hq
    refine ⟨_, hQ, by simp only [belowL]; exact ⟨g3, hb⟩, ?_⟩
    rw [List.mapM_cons]
    simp only [Sem.run_bind, Sem.run_pure, Result.andThen_ok, hrun, g2, concL]
  | .cell x t :: l, Q, hq => by
    obtain ⟨p, hp, hq⟩ := T.holds_opt hq
    obtain ⟨_, g2, g3⟩ := h.fr.val x p hp
    obtain ⟨ad, e1, e2⟩ := aload_addr (by rw [T.holds_bind] at hq; exact hq) loc w
    rw [T.holds_bind] at hq
    obtain ⟨v, hq, hbv, hl⟩ := aload_sound (P := P) h.mr hq
    rw [T.holds_bind] at hq
    obtain ⟨vs, hQ, hb, hrun⟩ := aresults_sound h l _ hq
    refine ⟨_, hQ, by simp only [belowL]; exact ⟨hbv, hb⟩, ?_⟩
    rw [e2] at hl
    rw [List.mapM_cons]
    simp only [Sem.run_bind, g2, e1, Result.andThen_ok, hl, hrun, Sem.run_pure, concL]

def oneOf : List AV → AV
  | [v] => v
  | vs => .tup vs

def afn (P : Program) (E : Env) (fn : Func) (c : Code) (args : List AV) (m : AM) : T (AV × AM) :=
  if args.length ≤ E.nt then
    (acode P E c ⟨enum 0 args, m⟩).bind fun r => match r.1 with
      | .exit _ => .fail
      | .goto _ => .fail
      | _ => (aresults P fn.results.toList r.2).bind fun vs => .ret (oneOf vs, r.2.m)
  else .fail

/-- A result, under other numbers, with less of the memory. -/
def Leaf (n0 : Nat) (Q : AV × AM → Prop) (r : AV × AM) : Prop :=
  ∃ ρ v m, Q (v, m) ∧ Alike r.1 (ren ρ v) ∧ below m.length v ∧ Sub n0 ρ r.2 m

/-- What is said of one call. -/
def EffAt (P : Program) (f : FuncId) (args : List AV) (m : AM) (t : T (AV × AM)) : Prop :=
  ∀ Q, t.holds Q → belowL m.length args → ∀ w0 X loc w, MR w0 X loc m w →
    Calls P f (concL loc args).toArray w fun e w' => ∃ v m' loc', Q (v, m') ∧ e = .returned (conc loc' v) ∧ below m'.length v ∧ m.length ≤ m'.length ∧ MR w0 X loc' m' w' ∧ ∀ i, i < m.length → loc' i = loc i

theorem fn_ok {P : Program} {E : Env} {f : FuncId} {fn : Func} {c : Code} (hf : P.funcs[f]? = some fn) (hb : fn.body = some c) (hE : EnvOK P E.fns) (hL : ∀ c' ∈ loopsIn c, LoopOK P E c') (hnt : E.nt = fn.ntmps)
    {args : List AV} {m : AM} (hn0 : E.n0 = m.length) {t : T (AV × AM)} (ht : ∀ Q, t.holds Q → (afn P E fn c args m).holds (Leaf m.length Q)) : EffAt P f args m t := by
  intro Q hq hargs w0 X loc w hm
  have hq := ht Q hq
  unfold afn at hq
  split at hq
  · rename_i hlen
    rw [T.holds_bind] at hq
    refine calls_of_wp hf hb ?_
    have hsize : (concL loc args).toArray.size = args.length := by simp [concL_length]
    have hsr : SR E.nt E.n0 w0 X loc loc ⟨enum 0 args, m⟩ { tmps := (concL loc args).toArray ++ Array.replicate (fn.ntmps - (concL loc args).toArray.size) undef, defers := [] } w := by
      refine ⟨⟨by simp [concL_length, hnt]; omega, fun t v hv => ?_⟩, hm, rfl, by rw [hn0]; exact Nat.le_refl _, fun _ _ => rfl⟩
      obtain ⟨_, hv⟩ := look_enum args 0 t v hv
      simp only [Nat.sub_zero] at hv
      have htl : t < args.length := by
        rcases Nat.lt_or_ge t args.length with h | h
        · exact h
        · simp [List.getElem?_eq_none h] at hv
      refine ⟨by omega, ?_, (belowL_iff _ _).1 hargs v (List.mem_of_getElem? hv)⟩
      have hv' : args[t] = v := by rw [List.getElem?_eq_getElem htl] at hv; simpa using hv
      simp [Array.getD_eq_getD_getElem?, Array.getElem?_append, htl, concL_eq, hv']
    have key : ∀ loc' st a w', (aresults P fn.results.toList st).holds (fun vs => Leaf m.length Q (oneOf vs, st.m)) → SR E.nt E.n0 w0 X loc loc' st a w' →
        a.defers = [] ∧ ∃ v, (results fn a.tmps).run P w' = .ok v w' ∧ ∃ v' m' loc', Q (v', m') ∧ Ending.returned v = .returned (conc loc' v') ∧ below m'.length v' ∧ m.length ≤ m'.length ∧ MR w0 X loc' m' w' ∧ ∀ i, i < m.length → loc' i = loc i := by
      intro loc' st a w' hr hs
      obtain ⟨vs, ⟨ρ, v, m', hQ, hal, hbv, hsub⟩, hb, hrun⟩ := aresults_sound hs _ _ hr
      refine ⟨hs.defers, conc loc' (oneOf vs), ?_, v, m', fun i => loc' (ρ i), hQ, ?_, hbv, hsub.nle, hs.mr.sub hsub, ?_⟩
      · have hm' : (fn.results.mapM (m := Sem) fun
            | .tmp t => pure (a.tmps.getD t undef)
            | .cell x t => do loadVar t (← asAddr (a.tmps.getD x undef))).run P w' = .ok (concL loc' vs).toArray w' := by
          rw [← Array.toArray_toList (xs := fn.results), List.mapM_toArray, Sem.run_map, hrun]; rfl
        have hres : results fn a.tmps = (fn.results.mapM (m := Sem) fun
            | .tmp t => pure (a.tmps.getD t undef)
            | .cell x t => do loadVar t (← asAddr (a.tmps.getD x undef))) >>= fun vs => pure (if h : vs.size = 1 then vs[0] else .tuple vs) := rfl
        rw [hres, Sem.run_bind, hm', Result.andThen_ok]
        cases vs with
        | nil => simp [oneOf, conc, concL]
        | cons x l =>
          cases l with
          | nil => simp [oneOf, concL]
          | cons y l => simp [oneOf, conc, concL]
      · rw [hal loc', conc_ren]
      · intro i hi
        show loc' (ρ i) = loc i
        rw [hsub.base i hi]
        exact hs.base i (by rw [hn0]; exact hi)
    refine wp_mono (code_sound hE c hL _ _ hq w0 X loc loc _ w hsr) ?_
    intro e a' w' he
    cases e with
    | normal =>
      obtain ⟨loc', st', hr, hs⟩ := he
      simp only [T.holds_bind] at hr
      exact key loc' st' a' w' hr hs
    | ret =>
      obtain ⟨loc', st', hr, hs⟩ := he
      simp only [T.holds_bind] at hr
      exact key loc' st' a' w' hr hs
    | exit id => obtain ⟨_, _, hr, _⟩ := he; exact hr.elim
    | goto l => obtain ⟨_, _, hr, _⟩ := he; exact hr.elim
    | panic ch => exact he.elim
    | outgrown => exact he.elim
  · exact hq.elim

/-- What a function's code is asked to come to. -/
def FnPost (P : Program) (fn : Func) (n0 : Nat) (Q : AV × AM → Prop) (r : Ex × St) : Prop :=
  match r.1 with
  | .exit _ => False
  | .goto _ => False
  | _ => (aresults P fn.results.toList r.2).holds fun vs => Leaf n0 Q (oneOf vs, r.2.m)

theorem fn_okW {P : Program} {E : Env} {f : FuncId} {fn : Func} {c : Code} (hf : P.funcs[f]? = some fn) (hb : fn.body = some c) (hnt : E.nt = fn.ntmps)
    {args : List AV} {m : AM} (hn0 : E.n0 = m.length) (hlen : args.length ≤ E.nt) {t : T (AV × AM)} (ht : ∀ Q, t.holds Q → AWp P E c ⟨enum 0 args, m⟩ (FnPost P fn m.length Q)) : EffAt P f args m t := by
  intro Q hq hargs w0 X loc w hm
  refine calls_of_wp hf hb ?_
  have hsize : (concL loc args).toArray.size = args.length := by simp [concL_length]
  have hsr : SR E.nt E.n0 w0 X loc loc ⟨enum 0 args, m⟩ { tmps := (concL loc args).toArray ++ Array.replicate (fn.ntmps - (concL loc args).toArray.size) undef, defers := [] } w := by
    refine ⟨⟨by simp [concL_length, hnt]; omega, fun t v hv => ?_⟩, hm, rfl, by rw [hn0]; exact Nat.le_refl _, fun _ _ => rfl⟩
    obtain ⟨_, hv⟩ := look_enum args 0 t v hv
    simp only [Nat.sub_zero] at hv
    have htl : t < args.length := by
      rcases Nat.lt_or_ge t args.length with h | h
      · exact h
      · simp [List.getElem?_eq_none h] at hv
    refine ⟨by omega, ?_, (belowL_iff _ _).1 hargs v (List.mem_of_getElem? hv)⟩
    have hv' : args[t] = v := by rw [List.getElem?_eq_getElem htl] at hv; simpa using hv
    simp [Array.getD_eq_getD_getElem?, Array.getElem?_append, htl, concL_eq, hv']
  have key : ∀ loc' st a w', (aresults P fn.results.toList st).holds (fun vs => Leaf m.length Q (oneOf vs, st.m)) → SR E.nt E.n0 w0 X loc loc' st a w' →
      a.defers = [] ∧ ∃ v, (results fn a.tmps).run P w' = .ok v w' ∧ ∃ v' m' loc', Q (v', m') ∧ Ending.returned v = .returned (conc loc' v') ∧ below m'.length v' ∧ m.length ≤ m'.length ∧ MR w0 X loc' m' w' ∧ ∀ i, i < m.length → loc' i = loc i := by
    intro loc' st a w' hr hs
    obtain ⟨vs, ⟨ρ, v, m', hQ, hal, hbv, hsub⟩, hb, hrun⟩ := aresults_sound hs _ _ hr
    refine ⟨hs.defers, conc loc' (oneOf vs), ?_, v, m', fun i => loc' (ρ i), hQ, ?_, hbv, hsub.nle, hs.mr.sub hsub, ?_⟩
    · have hm' : (fn.results.mapM (m := Sem) fun
          | .tmp t => pure (a.tmps.getD t undef)
          | .cell x t => do loadVar t (← asAddr (a.tmps.getD x undef))).run P w' = .ok (concL loc' vs).toArray w' := by
        rw [← Array.toArray_toList (xs := fn.results), List.mapM_toArray, Sem.run_map, hrun]; rfl
      have hres : results fn a.tmps = (fn.results.mapM (m := Sem) fun
          | .tmp t => pure (a.tmps.getD t undef)
          | .cell x t => do loadVar t (← asAddr (a.tmps.getD x undef))) >>= fun vs => pure (if h : vs.size = 1 then vs[0] else .tuple vs) := rfl
      rw [hres, Sem.run_bind, hm', Result.andThen_ok]
      cases vs with
      | nil => simp [oneOf, conc, concL]
      | cons x l =>
        cases l with
        | nil => simp [oneOf, concL]
        | cons y l => simp [oneOf, conc, concL]
    · rw [hal loc', conc_ren]
    · intro i hi
      show loc' (ρ i) = loc i
      rw [hsub.base i hi]
      exact hs.base i (by rw [hn0]; exact hi)
  refine wp_mono (ht Q hq w0 X loc loc _ w hsr) ?_
  intro e a' w' he
  cases e with
  | normal =>
    obtain ⟨loc', st', hr, hs⟩ := he
    exact key loc' st' a' w' hr hs
  | ret =>
    obtain ⟨loc', st', hr, hs⟩ := he
    exact key loc' st' a' w' hr hs
  | exit id => obtain ⟨_, _, hr, _⟩ := he; exact hr.elim
  | goto l => obtain ⟨_, _, hr, _⟩ := he; exact hr.elim
  | panic ch => exact he.elim
  | outgrown => exact he.elim

theorem below_oneOf {n : Nat} {vs : List AV} (h : belowL n vs) : below n (oneOf vs) := by
  match vs, h with
  | [], h => simp [oneOf, below, belowL]
  | [x], h => simpa [oneOf, belowL] using h
  | x :: y :: l, h => simpa [oneOf, below] using h

/-- A function's outcome is what its code comes to. -/
theorem fn_any {P : Program} {E : Env} {f : FuncId} {fn : Func} {c : Code} (hf : P.funcs[f]? = some fn) (hb : fn.body = some c) (hE : EnvOK P E.fns) (hL : ∀ c' ∈ loopsIn c, LoopOK P E c') (hnt : E.nt = fn.ntmps)
    {args : List AV} {m : AM} (hn0 : E.n0 = m.length) : EffAt P f args m (afn P E fn c args m) := by
  intro Q hq hargs w0 X loc w hm
  unfold afn at hq
  split at hq
  · rename_i hlen
    rw [T.holds_bind] at hq
    refine calls_of_wp hf hb ?_
    have hsize : (concL loc args).toArray.size = args.length := by simp [concL_length]
    have hsr : SR E.nt E.n0 w0 X loc loc ⟨enum 0 args, m⟩ { tmps := (concL loc args).toArray ++ Array.replicate (fn.ntmps - (concL loc args).toArray.size) undef, defers := [] } w := by
      refine ⟨⟨by simp [concL_length, hnt]; omega, fun t v hv => ?_⟩, hm, rfl, by rw [hn0]; exact Nat.le_refl _, fun _ _ => rfl⟩
      obtain ⟨_, hv⟩ := look_enum args 0 t v hv
      simp only [Nat.sub_zero] at hv
      have htl : t < args.length := by
        rcases Nat.lt_or_ge t args.length with h | h
        · exact h
        · simp [List.getElem?_eq_none h] at hv
      refine ⟨by omega, ?_, (belowL_iff _ _).1 hargs v (List.mem_of_getElem? hv)⟩
      have hv' : args[t] = v := by rw [List.getElem?_eq_getElem htl] at hv; simpa using hv
      simp [Array.getD_eq_getD_getElem?, Array.getElem?_append, htl, concL_eq, hv']
    have key : ∀ loc' st a w', (aresults P fn.results.toList st).holds (fun vs => Q (oneOf vs, st.m)) → SR E.nt E.n0 w0 X loc loc' st a w' →
        a.defers = [] ∧ ∃ v, (results fn a.tmps).run P w' = .ok v w' ∧ ∃ v' m' loc', Q (v', m') ∧ Ending.returned v = .returned (conc loc' v') ∧ below m'.length v' ∧ m.length ≤ m'.length ∧ MR w0 X loc' m' w' ∧ ∀ i, i < m.length → loc' i = loc i := by
      intro loc' st a w' hr hs
      obtain ⟨vs, hQ, hb, hrun⟩ := aresults_sound hs _ _ hr
      refine ⟨hs.defers, conc loc' (oneOf vs), ?_, oneOf vs, st.m, loc', hQ, rfl, below_oneOf hb, by have := hs.nle; omega, hs.mr, fun i hi => hs.base i (by omega)⟩
      have hm' : (fn.results.mapM (m := Sem) fun
            | .tmp t => pure (a.tmps.getD t undef)
            | .cell x t => do loadVar t (← asAddr (a.tmps.getD x undef))).run P w' = .ok (concL loc' vs).toArray w' := by
          rw [← Array.toArray_toList (xs := fn.results), List.mapM_toArray, Sem.run_map, hrun]; rfl
      have hres : results fn a.tmps = (fn.results.mapM (m := Sem) fun
            | .tmp t => pure (a.tmps.getD t undef)
            | .cell x t => do loadVar t (← asAddr (a.tmps.getD x undef))) >>= fun vs => pure (if h : vs.size = 1 then vs[0] else .tuple vs) := rfl
      rw [hres, Sem.run_bind, hm', Result.andThen_ok]
      cases vs with
      | nil => simp [oneOf, conc, concL]
      | cons x l =>
        cases l with
        | nil => simp [oneOf, concL]
        | cons y l => simp [oneOf, conc, concL]
    refine wp_mono (code_sound hE c hL _ _ hq w0 X loc loc _ w hsr) ?_
    intro e a' w' he
    cases e with
    | normal =>
      obtain ⟨loc', st', hr, hs⟩ := he
      simp only [T.holds_bind] at hr
      exact key loc' st' a' w' hr hs
    | ret =>
      obtain ⟨loc', st', hr, hs⟩ := he
      simp only [T.holds_bind] at hr
      exact key loc' st' a' w' hr hs
    | exit id => obtain ⟨_, _, hr, _⟩ := he; exact hr.elim
    | goto l => obtain ⟨_, _, hr, _⟩ := he; exact hr.elim
    | panic ch => exact he.elim
    | outgrown => exact he.elim
  · exact hq.elim

/-! ### A call out of a greater memory -/

def renB (ρ : Nat → Nat) (b : Blk) : Blk := { b with pre := renL ρ b.pre, f := fun j => renL ρ (b.f j), post := renL ρ b.post, fam := none }

theorem renL_getD (ρ : Nat → Nat) (l : List AV) (i : Nat) : (renL ρ l).getD i .ff = ren ρ (l.getD i .ff) := by
  simp only [renL_eq, List.getD_eq_getElem?_getD, List.getElem?_map]
  cases l[i]? <;> rfl

theorem renL_length (ρ : Nat → Nat) (l : List AV) : (renL ρ l).length = l.length := by simp [renL_eq]

theorem renB_size (ρ : Nat → Nat) (b : Blk) : (renB ρ b).size = b.size := by simp [renB, Blk.size, renL_length]
theorem renB_cell (ρ : Nat → Nat) (b : Blk) (o : Nat) : (renB ρ b).cell o = ren ρ (b.cell o) := by
  unfold Blk.cell renB
  dsimp only
  rw [renL_length]
  split
  · exact renL_getD _ _ _
  · split
    · exact renL_getD _ _ _
    · exact renL_getD _ _ _

/-- The numbers out there: those of the list, then new ones. -/
def out (l : List Nat) (n : Nat) (i : Nat) : Nat :=
  match l[i]? with
  | some j => j
  | none => n + (i - l.length)

/-- Whether a block is one that may be written. -/
def rwAt (m : AM) (i : Nat) : Bool :=
  match m.get i with
  | some b => b.rw
  | none => false

/-- The memory out there behind the call: the blocks of the list that could be written, as they are now. -/
def putAll (l : List Nat) (n : Nat) (mc mc' : AM) : List Nat → Nat → AM → AM
  | [], _, m => m
  | j :: js, i, m => putAll l n mc mc' js (i + 1) (if rwAt mc i = true then m.put j ((mc'.get i).map (renB (out l n))) else m)

def news (l : List Nat) (n : Nat) : AM → AM
  | [] => []
  | some b :: m => (if b.rw = true then some (renB (out l n) b) else none) :: news l n m
  | none :: m => none :: news l n m

def lift (l : List Nat) (m mc : AM) (t : T (AV × AM)) : T (AV × AM) :=
  t.bind fun r => .ret (ren (out l m.length) r.1, putAll l m.length mc r.2 l 0 m ++ news l m.length (r.2.drop l.length))

theorem length_putAll (l : List Nat) (n : Nat) (mc mc' : AM) : ∀ (js : List Nat) (i : Nat) (m : AM), (putAll l n mc mc' js i m).length = m.length
  | [], _, _ => rfl
  | j :: js, i, m => by
    unfold putAll
    rw [length_putAll l n mc mc' js]
    split
    · exact AM.length_put _ _ _
    · rfl

theorem get_putAll (l : List Nat) (n : Nat) (mc mc' : AM) : ∀ (js : List Nat) (i : Nat) (m : AM) (j : Nat) (b : Blk), (∀ x ∈ js, x < m.length) → (putAll l n mc mc' js i m).get j = some b →
    (∃ p b', js[p]? = some j ∧ rwAt mc (i + p) = true ∧ mc'.get (i + p) = some b' ∧ b = renB (out l n) b') ∨ (m.get j = some b ∧ ∀ p, js[p]? = some j → rwAt mc (i + p) = false)
  | [], _, _, _, _, _, h => .inr ⟨h, fun p hp => by simp at hp⟩
  | x :: js, i, m, j, b, hlt, h => by
    unfold putAll at h
    have hlen : (if rwAt mc i = true then m.put x ((mc'.get i).map (renB (out l n))) else m).length = m.length := by
      split
      · exact AM.length_put _ _ _
      · rfl
    rcases get_putAll l n mc mc' js (i + 1) _ j b (fun y hy => by rw [hlen]; exact hlt y (by simp [hy])) h with ⟨p, b', h1, h2, h3, h4⟩ | ⟨h1, h2⟩
    · exact .inl ⟨p + 1, b', by simpa using h1, by rw [show i + (p + 1) = i + 1 + p from by omega]; exact h2, by rw [show i + (p + 1) = i + 1 + p from by omega]; exact h3, h4⟩
    · have hrest : ∀ p, (x :: js)[p + 1]? = some j → rwAt mc (i + (p + 1)) = false := fun p hp => by
        rw [show i + (p + 1) = i + 1 + p from by omega]; exact h2 p (by simpa using hp)
      by_cases hr : rwAt mc i = true
      · rw [if_pos hr] at h1
        by_cases hx : x = j
        · subst hx
          rw [AM.get_put_same _ (hlt x (by simp))] at h1
          cases hb : mc'.get i with
          | none => simp [hb] at h1
          | some b' =>
            simp [hb] at h1
            exact .inl ⟨0, b', by simp, hr, hb, h1.symm⟩
        · rw [AM.get_put_ne _ hx] at h1
          refine .inr ⟨h1, fun p hp => ?_⟩
          cases p with
          | zero => simp at hp; exact absurd hp hx
          | succ p => exact hrest p hp
      · rw [if_neg hr] at h1
        refine .inr ⟨h1, fun p hp => ?_⟩
        cases p with
        | zero => simpa using hr
        | succ p => exact hrest p hp

theorem get_news (l : List Nat) (n : Nat) : ∀ (m : AM) (j : Nat) (b : Blk), (news l n m).get j = some b → ∃ b', m.get j = some b' ∧ b'.rw = true ∧ b = renB (out l n) b'
  | [], _, _, h => by cases h
  | none :: m, 0, _, h => by cases h
  | none :: m, j + 1, b, h => get_news l n m j b h
  | some c :: m, 0, b, h => by
    simp only [news, AM.get] at h
    split at h
    · rename_i hr
      simp only [Option.some.injEq] at h
      exact ⟨c, rfl, hr, h.symm⟩
    · cases h
  | some c :: m, j + 1, b, h => get_news l n m j b h

theorem length_news (l : List Nat) (n : Nat) : ∀ m : AM, (news l n m).length = m.length
  | [] => rfl
  | none :: m => by simp [news, length_news l n m]
  | some c :: m => by simp [news, length_news l n m]

theorem MR.rebase {w0 : World} {X X' : Nat → Prop} {loc : Loc} {m : AM} {w : World} (h : MR w0 X loc m w) (hX : ∀ id b, m.get id = some b → b.rw = true → X' (loc id).1) (hX' : ∀ k, X' k → ∃ id b, m.get id = some b ∧ b.rw = true ∧ (loc id).1 = k) : MR w X' loc m w :=
  ⟨h.cell, h.wf, h.sc, h.lt, h.free, h.sep, fun id b hg hr => .inl (hX id b hg hr), Nat.le_refl _, fun _ _ _ => rfl, rfl, rfl, rfl, fun g k l hg => by
    obtain ⟨g1, g2, g3⟩ := h.gl g k l hg
    refine ⟨Nat.lt_of_lt_of_le g1 h.size, fun hx => ?_, fun i hi => ?_⟩
    · obtain ⟨id, b, e1, e2, e3⟩ := hX' g hx
      rcases h.own id b e1 e2 with e | e
      · exact g2 (e3 ▸ e)
      · rw [e3] at e; omega
    · rw [← g3 i hi]; exact cell?_same (h.keep g g1 g2), h.fa⟩

theorem lift_ok {P : Program} {f : FuncId} {args argsc : List AV} {m mc : AM} {t : T (AV × AM)} (h : EffAt P f argsc mc t) (l : List Nat) (hl : l.length = mc.length) (hlt : ∀ j ∈ l, j < m.length)
    (hsub : Sub 0 (out l m.length) m mc) (hbc : belowL mc.length argsc) (hargs : args = renL (out l m.length) argsc) : EffAt P f args m (lift l m mc t) := by
  intro Q hq _ w0 X loc w hm
  unfold lift at hq
  rw [T.holds_bind] at hq
  have hin : ∀ i j, l[i]? = some j → out l m.length i = j ∧ i < l.length := fun i j h => ⟨by simp [out, h], by
    rcases Nat.lt_or_ge i l.length with h' | h'
    · exact h'
    · simp [List.getElem?_eq_none h'] at h⟩
  have hge : ∀ i, l.length ≤ i → out l m.length i = m.length + (i - l.length) := fun i h => by simp [out, List.getElem?_eq_none h]
  have hltk : ∀ i, i < l.length → ∃ j, l[i]? = some j ∧ out l m.length i = j ∧ j < m.length := fun i h => by
    refine ⟨l[i], List.getElem?_eq_getElem h, by simp [out, h], hlt _ (List.getElem_mem h)⟩
  let X' : Nat → Prop := fun k => ∃ i b, mc.get i = some b ∧ b.rw = true ∧ (loc (out l m.length i)).1 = k
  have hmc : MR w X' (fun i => loc (out l m.length i)) mc w := (hm.sub hsub).rebase (fun id b hg hr => ⟨id, b, hg, hr, rfl⟩) (fun k h => h)
  have hcalls := h _ hq hbc w X' _ w hmc
  rw [← concL_ren, ← hargs] at hcalls
  refine hcalls.mono ?_
  rintro e w' ⟨v, mc', locc, hQ, rfl, hbv, hle, hm', hloc⟩
  let loc' : Loc := fun j => if j < m.length then loc j else locc (l.length + (j - m.length))
  have hold : ∀ j, j < m.length → loc' j = loc j := fun j hj => by simp [loc', hj]
  have hnew : ∀ i, i < mc'.length → loc' (out l m.length i) = locc i := fun i hi => by
    by_cases hk : i < l.length
    · obtain ⟨j, _, h2, h3⟩ := hltk i hk
      rw [h2, hold j h3, hloc i (by omega), h2]
    · rw [hge i (by omega)]
      simp only [loc']
      rw [if_neg (by omega), show l.length + (m.length + (i - l.length) - m.length) = i from by omega]
  have hlenN : (putAll l m.length mc mc' l 0 m ++ news l m.length (mc'.drop l.length)).length = m.length + (mc'.length - l.length) := by
    rw [List.length_append, length_putAll, length_news, List.length_drop]
  have hρ : ∀ i, i < mc'.length → out l m.length i < (putAll l m.length mc mc' l 0 m ++ news l m.length (mc'.drop l.length)).length := fun i hi => by
    rw [hlenN]
    by_cases hk : i < l.length
    · obtain ⟨j, _, h2, h3⟩ := hltk i hk
      omega
    · rw [hge i (by omega)]; omega
  have hconc : ∀ x, below mc'.length x → conc loc' (ren (out l m.length) x) = conc locc x := fun x hx => by
    rw [conc_ren]; exact conc_congr hnew x hx
  -- the two kinds of blocks
  have hkinds : ∀ j b, AM.get (putAll l m.length mc mc' l 0 m ++ news l m.length (mc'.drop l.length)) j = some b →
      (m.get j = some b ∧ ∀ i, out l m.length i = j → i < l.length → rwAt mc i = false) ∨
      (∃ i b', i < mc'.length ∧ out l m.length i = j ∧ mc'.get i = some b' ∧ b = renB (out l m.length) b' ∧ ((i < l.length ∧ rwAt mc i = true) ∨ b'.rw = true)) := by
    intro j b hg
    by_cases hj : j < m.length
    · rw [AM.get_append_old _ (by rw [length_putAll]; exact hj)] at hg
      rcases get_putAll l m.length mc mc' l 0 m j b hlt hg with ⟨p, b', h1, h2, h3, h4⟩ | ⟨h1, h2⟩
      · obtain ⟨e1, e2⟩ := hin p j h1
        simp only [Nat.zero_add] at h2 h3
        exact .inr ⟨p, b', AM.get_lt h3, e1, h3, h4, .inl ⟨e2, h2⟩⟩
      · refine .inl ⟨h1, fun i hi hk => ?_⟩
        obtain ⟨j', e1, e2, _⟩ := hltk i hk
        have := h2 i (by rw [e1]; rw [← hi, e2])
        simpa using this
    · have hg2 : (news l m.length (mc'.drop l.length)).get (j - m.length) = some b := by
        rw [AM.get_eq, List.getElem?_append_right (by rw [length_putAll]; omega), length_putAll] at hg
        rw [AM.get_eq]; exact hg
      obtain ⟨b', h1, h2, h3⟩ := get_news l m.length _ _ _ hg2
      have h4 : mc'.get (l.length + (j - m.length)) = some b' := by
        rw [AM.get_eq] at h1 ⊢
        rw [List.getElem?_drop] at h1
        exact h1
      exact .inr ⟨_, b', AM.get_lt h4, by rw [hge _ (by omega)]; omega, h4, h3, .inr h2⟩
  have hrwm : ∀ i, rwAt mc i = true → ∃ b, m.get (out l m.length i) = some b ∧ b.rw = true := fun i hi => by
    unfold rwAt at hi
    split at hi
    · rename_i b hb
      obtain ⟨b', h1, _, h3, _⟩ := hsub.blk i b hb
      exact ⟨b', h1, h3 hi⟩
    · cases hi
  have hX : ∀ k, X' k → ∃ i, rwAt mc i = true ∧ i < l.length ∧ (loc (out l m.length i)).1 = k := fun k ⟨i, b, h1, h2, h3⟩ => ⟨i, by simp [rwAt, h1, h2], by have := AM.get_lt h1; omega, h3⟩
  have hkeepA : ∀ j b, m.get j = some b → (∀ i, out l m.length i = j → i < l.length → rwAt mc i = false) → w'.heap[(loc j).1]? = w.heap[(loc j).1]? := by
    intro j b hg hn
    refine hm'.keep _ (hm.lt j b hg) fun hx => ?_
    obtain ⟨i, h1, h2, h3⟩ := hX _ hx
    obtain ⟨c, e1, e2⟩ := hrwm i h1
    by_cases hij : out l m.length i = j
    · rw [hn i hij h2] at h1; cases h1
    · exact hm.sep _ c j b e1 hg e2 hij h3
  refine ⟨_, _, loc', hQ, by rw [hconc v hbv], below_ren hρ v hbv, by rw [hlenN]; omega, ?_, hold⟩
  refine ⟨?_, ?_, ?_, ?_, ?_, ?_, ?_, Nat.le_trans hm.size hm'.size, ?_, hm'.os.trans hm.os, hm'.tape.trans hm.tape, hm'.output.trans hm.output, hm.gl, ?_⟩
  · intro j b hg o ho
    rcases hkinds j b hg with ⟨h1, h2⟩ | ⟨i, b', hi, rfl, h1, rfl, _⟩
    · have hp : place loc' j o = place loc j o := by unfold place; rw [hold j (AM.get_lt h1)]
      rw [hp, cell?_same (w := w) (by simpa [place] using hkeepA j b h1 h2), conc_congr hold _ (hm.wf j b h1 o ho)]
      exact hm.cell j b h1 o ho
    · rw [renB_size] at ho
      have hp : place loc' (out l m.length i) o = place locc i o := by unfold place; rw [hnew i hi]
      rw [hp, renB_cell, hconc _ (hm'.wf i b' h1 o ho)]
      exact hm'.cell i b' h1 o ho
  · intro j b hg o ho
    rcases hkinds j b hg with ⟨h1, h2⟩ | ⟨i, b', hi, rfl, h1, rfl, _⟩
    · exact below_mono (by rw [hlenN]; omega) _ (hm.wf j b h1 o ho)
    · rw [renB_size] at ho
      rw [renB_cell]
      exact below_ren hρ _ (hm'.wf i b' h1 o ho)
  · intro j b hg o ho
    rcases hkinds j b hg with ⟨h1, h2⟩ | ⟨i, b', hi, rfl, h1, rfl, _⟩
    · exact hm.sc j b h1 o ho
    · rw [renB_size] at ho
      rw [renB_cell, scalar_ren]
      exact hm'.sc i b' h1 o ho
  · intro j b hg
    rcases hkinds j b hg with ⟨h1, h2⟩ | ⟨i, b', hi, rfl, h1, rfl, _⟩
    · rw [hold j (AM.get_lt h1)]; exact Nat.lt_of_lt_of_le (hm.lt j b h1) hm'.size
    · rw [hnew i hi]; exact hm'.lt i b' h1
  · intro j b hg hr o ho
    rcases hkinds j b hg with ⟨h1, h2⟩ | ⟨i, b', hi, rfl, h1, rfl, _⟩
    · have hp : place loc' j o = place loc j o := by unfold place; rw [hold j (AM.get_lt h1)]
      rw [hp, frozen?_same (w := w) (by simpa [place] using hkeepA j b h1 h2)]
      exact hm.free j b h1 hr o ho
    · rw [renB_size] at ho
      have hp : place loc' (out l m.length i) o = place locc i o := by unfold place; rw [hnew i hi]
      rw [hp]
      exact hm'.free i b' h1 hr o ho
  · -- apart
    have hAB : ∀ j b i b', m.get j = some b → (∀ i, out l m.length i = j → i < l.length → rwAt mc i = false) → i < mc'.length → mc'.get i = some b' → ((i < l.length ∧ rwAt mc i = true) ∨ b'.rw = true) → (loc j).1 ≠ (locc i).1 := by
      intro j b i b' h1 h2 hi h3 h4 heq
      have hin' : ∀ i', rwAt mc i' = true → i' < l.length → (loc (out l m.length i')).1 ≠ (loc j).1 := fun i' hr hk => by
        obtain ⟨c, e1, e2⟩ := hrwm i' hr
        refine hm.sep _ c j b e1 h1 e2 fun hij => ?_
        rw [h2 i' hij hk] at hr; cases hr
      rcases h4 with ⟨hk, hr⟩ | hr
      · rw [hloc i (by omega)] at heq
        exact hin' i hr hk heq.symm
      · rcases hm'.own i b' h3 hr with hx | hx
        · obtain ⟨i', e1, e2, e3⟩ := hX _ hx
          exact hin' i' e1 e2 (e3.trans heq.symm)
        · have := hm.lt j b h1
          rw [heq] at this
          omega
    intro j b j' b2 hg hg' hr hne
    rcases hkinds j b hg with ⟨h1, h2⟩ | ⟨i, b', hi, rfl, h1, rfl, h3⟩ <;> rcases hkinds j' b2 hg' with ⟨g1, g2⟩ | ⟨i', b2', hi', rfl, g1, rfl, g3⟩
    · rw [hold j (AM.get_lt h1), hold j' (AM.get_lt g1)]; exact hm.sep j b j' b2 h1 g1 hr hne
    · rw [hold j (AM.get_lt h1), hnew i' hi']; exact hAB j b i' b2' h1 h2 hi' g1 g3
    · rw [hnew i hi, hold j' (AM.get_lt g1)]; exact (hAB j' b2 i b' g1 g2 hi h1 h3).symm
    · rw [hnew i hi, hnew i' hi']; exact hm'.sep i b' i' b2' h1 g1 hr fun e => hne (by rw [e])
  · intro j b hg hr
    rcases hkinds j b hg with ⟨h1, h2⟩ | ⟨i, b', hi, rfl, h1, rfl, _⟩
    · rw [hold j (AM.get_lt h1)]; exact hm.own j b h1 hr
    · rw [hnew i hi]
      rcases hm'.own i b' h1 hr with hx | hx
      · obtain ⟨i', e1, e2, e3⟩ := hX _ hx
        obtain ⟨c, f1, f2⟩ := hrwm i' e1
        rw [← e3]
        exact hm.own _ c f1 f2
      · exact .inr (Nat.le_trans hm.size hx)
  · intro k hk hx
    rw [hm'.keep k (Nat.lt_of_lt_of_le hk hm.size) fun hx' => ?_]
    · exact hm.keep k hk hx
    · obtain ⟨i', e1, e2, e3⟩ := hX _ hx'
      obtain ⟨c, f1, f2⟩ := hrwm i' e1
      rcases hm.own _ c f1 f2 with h | h
      · rw [e3] at h; exact hx h
      · rw [e3] at h; omega
  · refine hm.fa.to (fun j b F hg hF => ?_) hold (by rw [hlenN]; omega) hm'.size (fun j b hg hr => ?_) (fun B hB hn => ?_)
    · rcases hkinds j b hg with ⟨h1, _⟩ | ⟨i, b', _, _, _, rfl, _⟩
      · exact ⟨b, h1, hF⟩
      · cases hF
    · rcases hkinds j b hg with ⟨h1, h2⟩ | ⟨i, b', hi, rfl, h1, rfl, _⟩
      · exact .inl ⟨j, b, h1, hr, by rw [hold j (AM.get_lt h1)]⟩
      · rw [hnew i hi]
        rcases hm'.own i b' h1 hr with hx | hx
        · obtain ⟨i', e1, e2, e3⟩ := hX _ hx
          obtain ⟨c, f1, f2⟩ := hrwm i' e1
          exact .inl ⟨_, c, f1, f2, e3⟩
        · exact .inr hx
    · refine hm'.keep B hB fun hx => ?_
      obtain ⟨i', e1, _, e3⟩ := hX _ hx
      obtain ⟨c, f1, f2⟩ := hrwm i' e1
      exact hn _ c f1 f2 e3

end Go.Ox
