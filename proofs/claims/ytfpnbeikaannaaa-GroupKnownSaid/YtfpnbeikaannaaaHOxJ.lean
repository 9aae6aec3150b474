/-
  Regions, code, functions.
-/
import Derived.Test.YtfpnbeikaannaaaHOxI
import Derived.Test.YtfpnbeikaannaaaHOxR
namespace Go.Ox

structure St where
  fr : List (Nat × AV)
  m : AM

inductive Ex where
  | norm
  | exit (id : Nat)
  | ret

/-- What a function comes to: one that leaves the known memory as it is; any one. -/
inductive Summ where
  | pure (s : List AV → AM → T AV)
  | eff (s : List AV → AM → T (AV × AM))

structure Env where
  nt : Nat
  n0 : Nat
  fns : List (Nat × Summ)
  loop : Nat → St → T (Ex × St)

def find : List (Nat × Summ) → Nat → Option Summ
  | [], _ => none
  | (g, s) :: l, f => if g = f then some s else find l f

def CanEnter (P : Program) (f : FuncId) : Prop := ∀ args w, (callFunc f args).run P w = .ok (.enter f args) w

def EffOK (P : Program) (f : FuncId) (s : List AV → AM → T (AV × AM)) : Prop :=
  CanEnter P f ∧ ∀ args m Q, (s args m).holds Q → belowL m.length args → ∀ w0 X loc w, MR w0 X loc m w →
    Calls P f (concL loc args).toArray w fun e w' => ∃ v m' loc', Q (v, m') ∧ e = .returned (conc loc' v) ∧ below m'.length v ∧ m.length ≤ m'.length ∧ MR w0 X loc' m' w' ∧ ∀ i, i < m.length → loc' i = loc i

def PureOK (P : Program) (f : FuncId) (s : List AV → AM → T AV) : Prop := EffOK P f fun args m => (s args m).bind fun v => .ret (v, m)

def SummOK (P : Program) (f : FuncId) : Summ → Prop
  | .pure s => PureOK P f s
  | .eff s => EffOK P f s

def EnvOK (P : Program) (l : List (Nat × Summ)) : Prop := ∀ f s, find l f = some s → SummOK P f s

theorem EnvOK.nil {P : Program} : EnvOK P [] := fun _ _ h => by cases h
theorem EnvOK.cons {P : Program} {f : Nat} {s : Summ} {l : List (Nat × Summ)} (h : SummOK P f s) (hl : EnvOK P l) : EnvOK P ((f, s) :: l) := by
  intro g t hg
  unfold find at hg
  split at hg
  · rename_i he
    subst he
    simp only [Option.some.injEq] at hg
    subst hg
    exact h
  · exact hl g t hg

def acallee (fr : List (Nat × AV)) (o : Op) : Option (FuncId × List AV) :=
  match o with
  | .call { callee := .value f, args, .. } =>
    match ev fr f, evL fr args.toList with
    | some (.fn (.func g) a c), some vs => some (g, a ++ vs ++ c)
    | _, _ => none
  | _ => none

theorem belowL_append {n : Nat} {a b : List AV} (ha : belowL n a) (hb : belowL n b) : belowL n (a ++ b) :=
  (belowL_iff _ _).2 fun v hv => (List.mem_append.1 hv).elim ((belowL_iff _ _).1 ha v) ((belowL_iff _ _).1 hb v)

theorem acallee_sound {P : Program} {nt : Nat} {loc : Loc} {n : Nat} {fr : List (Nat × AV)} {a : Act} (hF : FR nt loc n fr a.tmps) {o : Oper} {g : FuncId} {vs : List AV} (h : acallee fr o.op = some (g, vs)) (hc : CanEnter P g) (w : World) :
    belowL n vs ∧ (execOp a.eval o).run P w = .ok (.enter g (concL loc vs).toArray) w := by
  unfold acallee at h
  split at h
  · rename_i f args ats heq
    split at h
    · rename_i g' x y us hf hu
      simp only [Option.some.injEq, Prod.mk.injEq] at h
      obtain ⟨rfl, rfl⟩ := h
      obtain ⟨f1, f2⟩ := ev_sound hF hf
      obtain ⟨u1, u2⟩ := evL_sound hF hu
      simp only [below] at f2
      refine ⟨belowL_append (belowL_append f2.1 u2) f2.2, ?_⟩
      unfold execOp
      rw [heq]
      simp only [resolve, f1, conc, Deferred.ofValue, Sem.run_bind, Sem.run_pure, Result.andThen_ok, invoke]
      rw [toArray_map, u1, hc]
      simp [concL_append]
    · cases h
  · cases h

structure SR (nt n0 : Nat) (w0 : World) (X : Nat → Prop) (loc0 loc : Loc) (st : St) (a : Act) (w : World) : Prop where
  fr : FR nt loc st.m.length st.fr a.tmps
  mr : MR w0 X loc st.m w
  defers : a.defers = []
  nle : n0 ≤ st.m.length
  base : ∀ i, i < n0 → loc i = loc0 i

def putSt (nt : Nat) (dst : Option Tmp) (v : AV) (st : St) : T St :=
  match dst with
  | some d => if d < nt then .ret ⟨(d, v) :: st.fr, st.m⟩ else .fail
  | none => .ret st

theorem putSt_sound {nt n0 : Nat} {w0 : World} {X : Nat → Prop} {loc0 loc : Loc} {st : St} {a : Act} {w : World} (h : SR nt n0 w0 X loc0 loc st a w) {dst : Option Tmp} {v : AV} (hv : below st.m.length v) {Q : St → Prop}
    (hq : (putSt nt dst v st).holds Q) : ∃ st', Q st' ∧ SR nt n0 w0 X loc0 loc st' (a.put dst (conc loc v)) w := by
  cases dst with
  | none => exact ⟨st, hq, h⟩
  | some d =>
    simp only [putSt] at hq
    split at hq
    · rename_i hd
      exact ⟨_, hq, h.fr.put hd hv, h.mr, h.defers, h.nle, h.base⟩
    · exact hq.elim

theorem SR.move {nt n0 : Nat} {w0 : World} {X : Nat → Prop} {loc0 loc loc' : Loc} {st : St} {m' : AM} {a : Act} {w w' : World} (h : SR nt n0 w0 X loc0 loc st a w) (hm : MR w0 X loc' m' w') (hl : st.m.length ≤ m'.length) (hloc : ∀ i, i < st.m.length → loc' i = loc i) :
    SR nt n0 w0 X loc0 loc' ⟨st.fr, m'⟩ a w' :=
  ⟨h.fr.move hl hloc, hm, h.defers, Nat.le_trans h.nle hl, fun i hi => (hloc i (Nat.lt_of_lt_of_le hi h.nle)).trans (h.base i hi)⟩

def astep (P : Program) (E : Env) (o : Oper) (st : St) : T St :=
  match aopP P st.fr st.m o.op with
  | some t => t.bind fun v => putSt E.nt o.dst v st
  | none =>
    match acallee st.fr o.op with
    | some (g, args) =>
      match find E.fns g with
      | some (.pure s) => (s args st.m).bind fun v => putSt E.nt o.dst v st
      | some (.eff s) => (s args st.m).bind fun r => putSt E.nt o.dst r.1 ⟨st.fr, r.2⟩
      | none => .fail
    | none => (aopE P st.fr st.m o.op).bind fun r => putSt E.nt o.dst r.1 ⟨st.fr, r.2⟩

theorem undef_conc (loc : Loc) : conc loc (.tup []) = undef := by simp [conc, concL, undef]

theorem astep_sound {P : Program} {E : Env} (hE : EnvOK P E.fns) {w0 : World} {X : Nat → Prop} {loc0 loc : Loc} {st : St} {a : Act} {w : World} (h : SR E.nt E.n0 w0 X loc0 loc st a w) {o : Oper} {Q : St → Prop}
    (hq : (astep P E o st).holds Q) {next : Act → World → Prop} {Qx : Exit → Act → World → Prop} (hn : ∀ st' a' w' loc', Q st' → SR E.nt E.n0 w0 X loc0 loc' st' a' w' → next a' w') : o.wp P a w next Qx := by
  have heff : ∀ {g : FuncId} {args : List AV} {s : List AV → AM → T (AV × AM)}, acallee st.fr o.op = some (g, args) → EffOK P g s → (s args st.m).holds (fun r => (putSt E.nt o.dst r.1 ⟨st.fr, r.2⟩).holds Q) → o.wp P a w next Qx := by
    intro g args s hc hs hq
    obtain ⟨hce, hs⟩ := hs
    obtain ⟨hb, hrun⟩ := acallee_sound h.fr hc hce w
    unfold Oper.wp
    rw [hrun, Oper.upon_enter]
    refine (hs args st.m _ hq hb w0 X loc w h.mr).mono ?_
    rintro e w' ⟨v, m', loc', hQ, rfl, hbv, hle, hm, hl⟩
    obtain ⟨st', hQ', hsr⟩ := putSt_sound (h.move hm hle hl) hbv hQ
    exact hn _ _ _ _ hQ' hsr
  unfold astep at hq
  split at hq
  · rename_i t ht
    rw [T.holds_bind] at hq
    obtain ⟨v, hQ, hb, hrun⟩ := aopP_sound h.fr h.mr ht hq
    unfold Oper.wp
    rw [hrun, Oper.upon_value]
    obtain ⟨st', hQ', hsr⟩ := putSt_sound h hb hQ
    exact hn _ _ _ _ hQ' hsr
  · split at hq
    · rename_i g args hc
      split at hq
      · rename_i s hs
        refine heff hc (hE g _ hs) ?_
        rw [T.holds_bind] at hq ⊢
        exact hq
      · rename_i s hs
        rw [T.holds_bind] at hq
        exact heff hc (hE g _ hs) hq
      · exact hq.elim
    · rw [T.holds_bind] at hq
      obtain ⟨v, m', loc', w', hQ, hbv, hle, hm, hl, hrun⟩ := aopE_sound h.fr h.mr hq
      obtain ⟨st', hQ', hsr⟩ := putSt_sound (h.move hm hle hl) hbv hQ
      unfold Oper.wp
      rcases hrun with hrun | ⟨hrun, rfl⟩
      · rw [hrun, Oper.upon_value]; exact hn _ _ _ _ hQ' hsr
      · rw [hrun, Oper.upon_skip, ← undef_conc loc']; exact hn _ _ _ _ hQ' hsr

/-! ### Guards -/

def guardSlot (all : List Oper) (j : Nat) : Option Tmp := (all[j]?).bind (·.dst)

theorem yielded_at {nt : Nat} {loc : Loc} {n : Nat} {fr : List (Nat × AV)} {a : Act} (hF : FR nt loc n fr a.tmps) {all : List Oper} {ops : Array Oper} (ha : ops.toList = all) {j d : Nat} (hd : guardSlot all j = some d) {v : AV} (hv : slotAt fr d = some v) :
    yielded ops a.tmps j = match conc loc v with | .bool b => some b | _ => none := by
  obtain ⟨h1, h2, _⟩ := hF.val d v hv
  subst ha
  have hd' : (ops[j]?).bind (·.dst) = some d := by simpa [guardSlot] using hd
  have hlt : d < a.tmps.size := by rw [hF.size]; exact h1
  have ht : a.tmps[d]? = some (conc loc v) := by
    rw [← h2, Array.getElem?_eq_getElem hlt]
    simp [Array.getD_eq_getD_getElem?, Array.getElem?_eq_getElem hlt]
  unfold yielded
  rw [hd']
  simp only [Option.bind_some, ht]
  split <;> simp_all

theorem FR.retell {nt : Nat} {loc : Loc} {n : Nat} {fr : List (Nat × AV)} {tmps : Array Value} (h : FR nt loc n fr tmps) {d : Nat} {v u : AV} (hv : slotAt fr d = some v) (hc : conc loc u = conc loc v) (hb : below n u) : FR nt loc n ((d, u) :: fr) tmps where
  size := h.size
  val t x hx := by
    unfold slotAt at hx
    split at hx
    · rename_i he
      subst he
      simp only [Option.some.injEq] at hx
      subst hx
      obtain ⟨h1, h2, _⟩ := h.val _ v hv
      exact ⟨h1, h2.trans hc.symm, hb⟩
    · exact h.val t x hx

/-- Whether an operation is wanted; the frame in which the guard is told. -/
inductive Want where
  | run
  | skip
  | ask (b : Bool) (d : Tmp) (want : Bool)
  | lost

def wantOf (all : List Oper) (fr : List (Nat × AV)) (o : Oper) : Want :=
  match o.guard with
  | none => .run
  | some (j, want) =>
    match guardSlot all j with
    | none => .lost
    | some d =>
      match slotAt fr d with
      | some .tt => if want = true then .run else .skip
      | some .ff => if want = true then .skip else .run
      | some (.bool b) => .ask b d want
      | some (.tup []) => .skip
      | _ => .lost

theorem wantOf_run {nt : Nat} {loc : Loc} {n : Nat} {fr : List (Nat × AV)} {a : Act} (hF : FR nt loc n fr a.tmps) {all : List Oper} {ops : Array Oper} (ha : ops.toList = all) {o : Oper} (h : wantOf all fr o = .run) :
    Region.wanted o (yielded ops a.tmps) = true := by
  unfold wantOf at h
  unfold Region.wanted
  split at h
  · rename_i hg; rw [hg]
  · rename_i j want hg
    rw [hg]
    split at h
    · cases h
    · rename_i d hd
      split at h
      · rename_i hl; split at h
        · rename_i hw; subst hw; simp [yielded_at hF ha hd hl, conc]
        · cases h
      · rename_i hl; split at h
        · cases h
        · rename_i hw; simp [yielded_at hF ha hd hl, conc]; simpa using hw
      · cases h
      · cases h
      · cases h

theorem wantOf_skip {nt : Nat} {loc : Loc} {n : Nat} {fr : List (Nat × AV)} {a : Act} (hF : FR nt loc n fr a.tmps) {all : List Oper} {ops : Array Oper} (ha : ops.toList = all) {o : Oper} (h : wantOf all fr o = .skip) :
    Region.wanted o (yielded ops a.tmps) = false := by
  unfold wantOf at h
  unfold Region.wanted
  split at h
  · cases h
  · rename_i j want hg
    rw [hg]
    split at h
    · cases h
    · rename_i d hd
      split at h
      · rename_i hl; split at h
        · cases h
        · rename_i hw; simp [yielded_at hF ha hd hl, conc]; simpa using hw
      · rename_i hl; split at h
        · rename_i hw; subst hw; simp [yielded_at hF ha hd hl, conc]
        · cases h
      · cases h
      · rename_i hl; simp [yielded_at hF ha hd hl, conc]
      · cases h

theorem wantOf_ask {nt : Nat} {loc : Loc} {n : Nat} {fr : List (Nat × AV)} {a : Act} (hF : FR nt loc n fr a.tmps) {all : List Oper} {ops : Array Oper} (ha : ops.toList = all) {o : Oper} {b : Bool} {d : Tmp} {want : Bool} (h : wantOf all fr o = .ask b d want) :
    slotAt fr d = some (.bool b) ∧ Region.wanted o (yielded ops a.tmps) = (b == want) := by
  unfold wantOf at h
  unfold Region.wanted
  split at h
  · cases h
  · rename_i j want' hg
    rw [hg]
    split at h
    · cases h
    · rename_i d' hd
      split at h
      · split at h <;> cases h
      · split at h <;> cases h
      · rename_i b' hl
        injection h with h1 h2 h3
        subst h1; subst h2; subst h3
        refine ⟨hl, ?_⟩
        simp [yielded_at hF ha hd hl, conc]
      · cases h
      · cases h

/-! ### Regions in the order of the text -/

def tellB (d : Tmp) (b : Bool) (st : St) : St := ⟨(d, if b = true then .tt else .ff) :: st.fr, st.m⟩

theorem SR.tell {nt n0 : Nat} {w0 : World} {X : Nat → Prop} {loc0 loc : Loc} {st : St} {a : Act} {w : World} (h : SR nt n0 w0 X loc0 loc st a w) {d : Tmp} {b : Bool} (hl : slotAt st.fr d = some (.bool b)) : SR nt n0 w0 X loc0 loc (tellB d b st) a w :=
  ⟨h.fr.retell hl (by cases b <;> simp [conc]) (by cases b <;> simp [below]), h.mr, h.defers, h.nle, h.base⟩

def aops (P : Program) (E : Env) (all : List Oper) : List Oper → St → T St
  | [], st => .ret st
  | o :: rest, st =>
    match wantOf all st.fr o with
    | .run => (astep P E o st).bind fun st => aops P E all rest st
    | .skip => (putSt E.nt o.dst (.tup []) st).bind fun st => aops P E all rest st
    | .ask b d want =>
      .ite b
        (match want with
          | true => (astep P E o (tellB d true st)).bind fun st => aops P E all rest st
          | false => (putSt E.nt o.dst (.tup []) (tellB d true st)).bind fun st => aops P E all rest st)
        (match want with
          | true => (putSt E.nt o.dst (.tup []) (tellB d false st)).bind fun st => aops P E all rest st
          | false => (astep P E o (tellB d false st)).bind fun st => aops P E all rest st)
    | .lost => .fail

theorem aops_sound {P : Program} {E : Env} (hE : EnvOK P E.fns) {w0 : World} {X : Nat → Prop} {loc0 : Loc} {ops : Array Oper} {all : List Oper} (ha : ops.toList = all) {Q : St → Prop} {Qx : Exit → Act → World → Prop}
    (hx : ∀ st' a' w' loc', Q st' → SR E.nt E.n0 w0 X loc0 loc' st' a' w' → Qx .normal a' w') :
    ∀ (l : List Oper) (loc : Loc) (st : St) (a : Act) (w : World), SR E.nt E.n0 w0 X loc0 loc st a w → (aops P E all l st).holds Q → wpList P ops Qx l a w
  | [], loc, st, a, w, h, hq => hx st a w loc hq h
  | o :: rest, loc, st, a, w, h, hq => by
    have hrun : ∀ st, SR E.nt E.n0 w0 X loc0 loc st a w → Region.wanted o (yielded ops a.tmps) = true → ((astep P E o st).bind fun st => aops P E all rest st).holds Q → wpList P ops Qx (o :: rest) a w := by
      intro st h hw hq
      rw [T.holds_bind] at hq
      unfold wpList
      rw [if_pos hw]
      exact .inl (astep_sound hE h hq fun st' a' w' loc' hQ hsr => aops_sound hE ha hx rest loc' st' a' w' hsr hQ)
    have hskip : ∀ st, SR E.nt E.n0 w0 X loc0 loc st a w → Region.wanted o (yielded ops a.tmps) = false → ((putSt E.nt o.dst (.tup []) st).bind fun st => aops P E all rest st).holds Q → wpList P ops Qx (o :: rest) a w := by
      intro st h hw hq
      rw [T.holds_bind] at hq
      unfold wpList
      rw [if_neg (by rw [hw]; simp)]
      obtain ⟨st', hQ, hsr⟩ := putSt_sound h (v := .tup []) (by simp [below, belowL]) hq
      rw [undef_conc] at hsr
      exact aops_sound hE ha hx rest loc st' _ w hsr hQ
    unfold aops at hq
    split at hq
    · rename_i hw; exact hrun st h (wantOf_run h.fr ha hw) hq
    · rename_i hw; exact hskip st h (wantOf_skip h.fr ha hw) hq
    · rename_i b d want hw
      obtain ⟨hl, hwd⟩ := wantOf_ask h.fr ha hw
      have ht := h.tell hl
      cases b with
      | true =>
        have hq := hq.1 rfl
        cases want with
        | true => exact hrun _ ht (by simpa using hwd) hq
        | false => exact hskip _ ht (by simpa using hwd) hq
      | false =>
        have hq := hq.2 rfl
        cases want with
        | true => exact hskip _ ht (by simpa using hwd) hq
        | false => exact hrun _ ht (by simpa using hwd) hq
    · exact hq.elim

theorem aopsRow_sound {P : Program} {E : Env} (hE : EnvOK P E.fns) {w0 : World} {X : Nat → Prop} {loc0 : Loc} {ops : Array Oper} {all : List Oper} (ha : ops.toList = all) {l2 : List Oper} {Q : St → Prop} {Qx : Exit → Act → World → Prop}
    (hx : ∀ st' a' w' loc', Q st' → SR E.nt E.n0 w0 X loc0 loc' st' a' w' → wpStill P ops w' (fun a => Qx .normal a w') l2 a') :
    ∀ (l : List Oper) (loc : Loc) (st : St) (a : Act) (w : World), SR E.nt E.n0 w0 X loc0 loc st a w → (aops P E all l st).holds Q → wpRow P ops Qx l2 l a w
  | [], loc, st, a, w, h, hq => hx st a w loc hq h
  | o :: rest, loc, st, a, w, h, hq => by
    have hrun : ∀ st, SR E.nt E.n0 w0 X loc0 loc st a w → Region.wanted o (yielded ops a.tmps) = true → ((astep P E o st).bind fun st => aops P E all rest st).holds Q → wpRow P ops Qx l2 (o :: rest) a w := by
      intro st h hw hq
      rw [T.holds_bind] at hq
      unfold wpRow
      rw [if_pos hw]
      exact astep_sound hE h hq fun st' a' w' loc' hQ hsr => aopsRow_sound hE ha hx rest loc' st' a' w' hsr hQ
    have hskip : ∀ st, SR E.nt E.n0 w0 X loc0 loc st a w → Region.wanted o (yielded ops a.tmps) = false → ((putSt E.nt o.dst (.tup []) st).bind fun st => aops P E all rest st).holds Q → wpRow P ops Qx l2 (o :: rest) a w := by
      intro st h hw hq
      rw [T.holds_bind] at hq
      unfold wpRow
      rw [if_neg (by rw [hw]; simp)]
      obtain ⟨st', hQ, hsr⟩ := putSt_sound h (v := .tup []) (by simp [below, belowL]) hq
      rw [undef_conc] at hsr
      exact aopsRow_sound hE ha hx rest loc st' _ w hsr hQ
    unfold aops at hq
    split at hq
    · rename_i hw; exact hrun st h (wantOf_run h.fr ha hw) hq
    · rename_i hw; exact hskip st h (wantOf_skip h.fr ha hw) hq
    · rename_i b d want hw
      obtain ⟨hl, hwd⟩ := wantOf_ask h.fr ha hw
      have ht := h.tell hl
      cases b with
      | true =>
        have hq := hq.1 rfl
        cases want with
        | true => exact hrun _ ht (by simpa using hwd) hq
        | false => exact hskip _ ht (by simpa using hwd) hq
      | false =>
        have hq := hq.2 rfl
        cases want with
        | true => exact hskip _ ht (by simpa using hwd) hq
        | false => exact hrun _ ht (by simpa using hwd) hq
    · exact hq.elim

/-! ### Regions that draw their order -/

def putFr (nt : Nat) (dst : Option Tmp) (v : AV) (fr : List (Nat × AV)) : T (List (Nat × AV)) :=
  match dst with
  | some d => if d < nt then .ret ((d, v) :: fr) else .fail
  | none => .ret fr

theorem putFr_sound {nt n : Nat} {loc : Loc} {fr : List (Nat × AV)} {a : Act} (h : FR nt loc n fr a.tmps) {dst : Option Tmp} {v : AV} (hv : below n v) {Q : List (Nat × AV) → Prop}
    (hq : (putFr nt dst v fr).holds Q) : ∃ fr', Q fr' ∧ FR nt loc n fr' (a.put dst (conc loc v)).tmps := by
  cases dst with
  | none => exact ⟨fr, hq, h⟩
  | some d =>
    simp only [putFr] at hq
    split at hq
    · rename_i hd; exact ⟨_, hq, h.put hd hv⟩
    · exact hq.elim

/-- The value of an operation that only reads. -/
def valQ (P : Program) (E : Env) (m : AM) (o : Oper) (fr : List (Nat × AV)) : T AV :=
  match aopP P fr m o.op with
  | some t => if t.quiet = true then t else .fail
  | none =>
    match acallee fr o.op with
    | some (g, args) =>
      match find E.fns g with
      | some (.pure s) => if (s args m).quiet = true then s args m else .fail
      | _ => .fail
    | none => .fail

theorem MR.locCongr {w0 : World} {X : Nat → Prop} {loc loc' : Loc} {m : AM} {w : World} (h : MR w0 X loc' m w) (hl : ∀ i, i < m.length → loc' i = loc i) : MR w0 X loc m w := by
  have hp : ∀ id b, AM.get m id = some b → ∀ o, place loc id o = place loc' id o := fun id b hg o => by unfold place; rw [hl id (AM.get_lt hg)]
  refine ⟨fun id b hg o ho => ?_, h.wf, h.sc, fun id b hg => ?_, fun id b hg hr o ho => ?_, fun id b id' b' hg hg' hr hne => ?_, fun id b hg hr => ?_, h.size, h.keep, h.os, h.tape, h.output, h.calm⟩
  · rw [hp id b hg o, ← conc_congr hl _ (h.wf id b hg o ho)]; exact h.cell id b hg o ho
  · rw [← hl id (AM.get_lt hg)]; exact h.lt id b hg
  · rw [hp id b hg o]; exact h.free id b hg hr o ho
  · rw [← hl id (AM.get_lt hg), ← hl id' (AM.get_lt hg')]; exact h.sep id b id' b' hg hg' hr hne
  · rw [← hl id (AM.get_lt hg)]; exact h.own id b hg hr

theorem valQ_sound {P : Program} {E : Env} (hE : EnvOK P E.fns) {w0 : World} {X : Nat → Prop} {loc : Loc} {m : AM} {o : Oper} {fr : List (Nat × AV)} {a : Act} (hF : FR E.nt loc m.length fr a.tmps) {w : World} (hw : MR w0 X loc m w) {Q : AV → Prop} (hq : (valQ P E m o fr).holds Q) :
    ∃ v, Q v ∧ below m.length v ∧ ∀ w, MR w0 X loc m w → o.quietAt P a (fun w' => MR w0 X loc m w') w (conc loc v) := by
  unfold valQ at hq
  split at hq
  · rename_i t ht
    split at hq
    · rename_i hqt
      obtain ⟨v, hv, hone⟩ := T.quiet_one t hqt hq
      obtain ⟨v', e, hb, _⟩ := aopP_sound hF hw ht hone
      subst e
      refine ⟨_, hv, hb, fun w' hw' => ?_⟩
      obtain ⟨v', e, _, hrun⟩ := aopP_sound hF hw' ht hone
      subst e
      unfold Oper.quietAt
      rw [hrun]
      exact ⟨rfl, rfl⟩
    · exact hq.elim
  · split at hq
    · rename_i g args hc
      split at hq
      · rename_i s hs
        split at hq
        · rename_i hqt
          obtain ⟨v, hv, hone⟩ := T.quiet_one _ hqt hq
          obtain ⟨hce, hs⟩ := hE g _ hs
          have hone' : ((s args m).bind fun v => T.ret (v, m)).holds (fun r => r = (v, m)) := by
            rw [T.holds_bind]
            exact T.holds_mono (fun u (hu : u = v) => by subst hu; rfl) _ hone
          obtain ⟨hb, _⟩ := acallee_sound hF hc hce w
          have hcalls := hs args m _ hone' hb
          have hbv : below m.length v := by
            obtain ⟨e, w', fr', ⟨v', m', loc', he, _, hb', _⟩, _⟩ := hcalls w0 X loc w hw []
            injection he with h1 h2
            subst h1; subst h2
            exact hb'
          refine ⟨v, hv, hbv, fun w' hw' => ?_⟩
          obtain ⟨_, hrun⟩ := acallee_sound hF hc hce w'
          unfold Oper.quietAt
          rw [hrun]
          refine ⟨rfl, (hcalls w0 X loc w' hw').mono ?_⟩
          rintro e w2 ⟨v', m', loc', he, rfl, hb', _, hm', hl'⟩
          injection he with h1 h2
          subst h1; subst h2
          exact ⟨by rw [conc_congr hl' _ hb'], hm'.locCongr hl'⟩
        · exact hq.elim
      · exact hq.elim
    · exact hq.elim

def aopsQ (P : Program) (E : Env) (all : List Oper) (m : AM) : List Oper → List (Nat × AV) → T (List (Nat × AV))
  | [], fr => .ret fr
  | o :: rest, fr =>
    match wantOf all fr o with
    | .run => ((valQ P E m o fr).bind fun v => putFr E.nt o.dst v fr).bind fun fr => aopsQ P E all m rest fr
    | .skip => (putFr E.nt o.dst (.tup []) fr).bind fun fr => aopsQ P E all m rest fr
    | .ask b d want =>
      .ite b
        (match want with
          | true => ((valQ P E m o ((d, .tt) :: fr)).bind fun v => putFr E.nt o.dst v ((d, .tt) :: fr)).bind fun fr => aopsQ P E all m rest fr
          | false => (putFr E.nt o.dst (.tup []) ((d, .tt) :: fr)).bind fun fr => aopsQ P E all m rest fr)
        (match want with
          | true => (putFr E.nt o.dst (.tup []) ((d, .ff) :: fr)).bind fun fr => aopsQ P E all m rest fr
          | false => ((valQ P E m o ((d, .ff) :: fr)).bind fun v => putFr E.nt o.dst v ((d, .ff) :: fr)).bind fun fr => aopsQ P E all m rest fr)
    | .lost => .fail

theorem put_defers (a : Act) (dst : Option Tmp) (v : Value) : (a.put dst v).defers = a.defers := by cases dst <;> rfl

theorem aopsQ_sound {P : Program} {E : Env} (hE : EnvOK P E.fns) {w0 : World} {X : Nat → Prop} {loc : Loc} {m : AM} {ops : Array Oper} {all : List Oper} (ha : ops.toList = all) {w : World} (hw : MR w0 X loc m w) {Q : List (Nat × AV) → Prop} {Qx : Act → Prop}
    (hx : ∀ fr' (a' : Act), Q fr' → FR E.nt loc m.length fr' a'.tmps → a'.defers = [] → Qx a') :
    ∀ (l : List Oper) (fr : List (Nat × AV)) (a : Act), FR E.nt loc m.length fr a.tmps → a.defers = [] → (aopsQ P E all m l fr).holds Q → wpQuiet P ops (fun w' => MR w0 X loc m w') Qx l a
  | [], fr, a, h, hd, hq => hx fr a hq h hd
  | o :: rest, fr, a, h, hd, hq => by
    have hrun : ∀ fr, FR E.nt loc m.length fr a.tmps → Region.wanted o (yielded ops a.tmps) = true → (((valQ P E m o fr).bind fun v => putFr E.nt o.dst v fr).bind fun fr => aopsQ P E all m rest fr).holds Q →
        wpQuiet P ops (fun w' => MR w0 X loc m w') Qx (o :: rest) a := by
      intro fr h hwt hq
      rw [T.holds_bind, T.holds_bind] at hq
      obtain ⟨v, hv, hb, hquiet⟩ := valQ_sound hE h hw hq
      obtain ⟨fr', hQ, hF⟩ := putFr_sound h hb hv
      unfold wpQuiet
      rw [if_pos hwt]
      exact ⟨conc loc v, hquiet, aopsQ_sound hE ha hw hx rest fr' _ hF (by rw [put_defers]; exact hd) hQ⟩
    have hskip : ∀ fr, FR E.nt loc m.length fr a.tmps → Region.wanted o (yielded ops a.tmps) = false → ((putFr E.nt o.dst (.tup []) fr).bind fun fr => aopsQ P E all m rest fr).holds Q →
        wpQuiet P ops (fun w' => MR w0 X loc m w') Qx (o :: rest) a := by
      intro fr h hwt hq
      rw [T.holds_bind] at hq
      obtain ⟨fr', hQ, hF⟩ := putFr_sound h (v := .tup []) (by simp [below, belowL]) hq
      rw [undef_conc] at hF
      unfold wpQuiet
      rw [if_neg (by rw [hwt]; simp)]
      exact aopsQ_sound hE ha hw hx rest fr' _ hF (by rw [put_defers]; exact hd) hQ
    unfold aopsQ at hq
    split at hq
    · rename_i hwt; exact hrun fr h (wantOf_run h ha hwt) hq
    · rename_i hwt; exact hskip fr h (wantOf_skip h ha hwt) hq
    · rename_i b d want hwt
      obtain ⟨hl, hwd⟩ := wantOf_ask h ha hwt
      cases b with
      | true =>
        have hq := hq.1 rfl
        have ht := h.retell hl (u := .tt) (by simp [conc]) (by simp [below])
        cases want with
        | true => exact hrun _ ht (by simpa using hwd) hq
        | false => exact hskip _ ht (by simpa using hwd) hq
      | false =>
        have hq := hq.2 rfl
        have ht := h.retell hl (u := .ff) (by simp [conc]) (by simp [below])
        cases want with
        | true => exact hskip _ ht (by simpa using hwd) hq
        | false => exact hrun _ ht (by simpa using hwd) hq
    · exact hq.elim

/-! ### Regions that draw their order, with a tail in the order of the text -/

def aopsS (P : Program) (E : Env) (all : List Oper) (m : AM) : List Oper → List (Nat × AV) → T (List (Nat × AV))
  | [], fr => .ret fr
  | o :: rest, fr =>
    match wantOf all fr o with
    | .run => ((T.opt (aopP P fr m o.op) id).bind fun v => putFr E.nt o.dst v fr).bind fun fr => aopsS P E all m rest fr
    | .skip => (putFr E.nt o.dst (.tup []) fr).bind fun fr => aopsS P E all m rest fr
    | .ask b d want =>
      .ite b
        (match want with
          | true => ((T.opt (aopP P ((d, .tt) :: fr) m o.op) id).bind fun v => putFr E.nt o.dst v ((d, .tt) :: fr)).bind fun fr => aopsS P E all m rest fr
          | false => (putFr E.nt o.dst (.tup []) ((d, .tt) :: fr)).bind fun fr => aopsS P E all m rest fr)
        (match want with
          | true => (putFr E.nt o.dst (.tup []) ((d, .ff) :: fr)).bind fun fr => aopsS P E all m rest fr
          | false => ((T.opt (aopP P ((d, .ff) :: fr) m o.op) id).bind fun v => putFr E.nt o.dst v ((d, .ff) :: fr)).bind fun fr => aopsS P E all m rest fr)
    | .lost => .fail

theorem aopsS_sound {P : Program} {E : Env} {w0 : World} {X : Nat → Prop} {loc : Loc} {m : AM} {ops : Array Oper} {all : List Oper} (ha : ops.toList = all) {w : World} (hw : MR w0 X loc m w) {Q : List (Nat × AV) → Prop} {Qx : Act → Prop}
    (hx : ∀ fr' (a' : Act), Q fr' → FR E.nt loc m.length fr' a'.tmps → a'.defers = [] → Qx a') :
    ∀ (l : List Oper) (fr : List (Nat × AV)) (a : Act), FR E.nt loc m.length fr a.tmps → a.defers = [] → (aopsS P E all m l fr).holds Q → wpStill P ops w Qx l a
  | [], fr, a, h, hd, hq => hx fr a hq h hd
  | o :: rest, fr, a, h, hd, hq => by
    have hrun : ∀ fr, FR E.nt loc m.length fr a.tmps → Region.wanted o (yielded ops a.tmps) = true → (((T.opt (aopP P fr m o.op) id).bind fun v => putFr E.nt o.dst v fr).bind fun fr => aopsS P E all m rest fr).holds Q →
        wpStill P ops w Qx (o :: rest) a := by
      intro fr h hwt hq
      rw [T.holds_bind, T.holds_bind] at hq
      obtain ⟨t, ht, hq⟩ := T.holds_opt hq
      obtain ⟨v, hv, hb, hrun⟩ := aopP_sound h hw ht hq
      obtain ⟨fr', hQ, hF⟩ := putFr_sound h hb hv
      unfold wpStill
      rw [if_pos hwt]
      unfold Oper.still
      rw [hrun, Oper.stillUpon_value]
      exact aopsS_sound ha hw hx rest fr' _ hF (by rw [put_defers]; exact hd) hQ
    have hskip : ∀ fr, FR E.nt loc m.length fr a.tmps → Region.wanted o (yielded ops a.tmps) = false → ((putFr E.nt o.dst (.tup []) fr).bind fun fr => aopsS P E all m rest fr).holds Q →
        wpStill P ops w Qx (o :: rest) a := by
      intro fr h hwt hq
      rw [T.holds_bind] at hq
      obtain ⟨fr', hQ, hF⟩ := putFr_sound h (v := .tup []) (by simp [below, belowL]) hq
      rw [undef_conc] at hF
      unfold wpStill
      rw [if_neg (by rw [hwt]; simp)]
      exact aopsS_sound ha hw hx rest fr' _ hF (by rw [put_defers]; exact hd) hQ
    unfold aopsS at hq
    split at hq
    · rename_i hwt; exact hrun fr h (wantOf_run h ha hwt) hq
    · rename_i hwt; exact hskip fr h (wantOf_skip h ha hwt) hq
    · rename_i b d want hwt
      obtain ⟨hl, hwd⟩ := wantOf_ask h ha hwt
      cases b with
      | true =>
        have hq := hq.1 rfl
        have ht := h.retell hl (u := .tt) (by simp [conc]) (by simp [below])
        cases want with
        | true => exact hrun _ ht (by simpa using hwd) hq
        | false => exact hskip _ ht (by simpa using hwd) hq
      | false =>
        have hq := hq.2 rfl
        have ht := h.retell hl (u := .ff) (by simp [conc]) (by simp [below])
        cases want with
        | true => exact hskip _ ht (by simpa using hwd) hq
        | false => exact hrun _ ht (by simpa using hwd) hq
    · exact hq.elim

def effOp (E : Env) : Op → Bool
  | .alloc .. => true
  | .box .. => true
  | .store .. => true
  | .buildSlice .. => true
  | .makeSlice .. => true
  | .call { callee := .builtin .append, .. } => true
  | .call { callee := .value (.func g), .. } => match find E.fns g with
    | some (.eff _) => true
    | _ => false
  | _ => false

/-- Where what changes something begins, and how many more of it there are. -/
def midOf (E : Env) (ops : Array Oper) : Option (Nat × Nat) :=
  let n := ops.toList.findIdx fun o => effOp E o.op
  if n < ops.size then
    let k := ops.size - n - 1 - ops.toList.reverse.findIdx fun o => effOp E o.op
    (if midB ops n k = true then some (n, k) else (((List.range n).map fun i => (i, n + k - i)).find? fun x => midB ops x.1 x.2))
  else none

theorem midOf_spec {E : Env} {ops : Array Oper} {x : Nat × Nat} (h : midOf E ops = some x) : midB ops x.1 x.2 = true := by
  unfold midOf at h
  dsimp only at h
  split at h
  · split at h
    · rename_i h1
      simp only [Option.some.injEq] at h
      subst h; exact h1
    · simpa using List.find?_some h
  · cases h

/-! ### Code -/

def keyOf : Code → Nat
  | .region id _ _ => id
  | .seq a _ => keyOf a
  | .cond _ a _ => keyOf a
  | .block _ c => keyOf c
  | .loop c => keyOf c
  | .scope c => keyOf c
  | _ => 0

def acode (P : Program) (E : Env) : Code → St → T (Ex × St)
  | .skip, st => .ret (.norm, st)
  | .seq a b, st => (acode P E a st).bind fun r => match r.1 with
    | .norm => acode P E b r.2
    | e => .ret (e, r.2)
  | .cond c x y, st =>
    match ev st.fr c with
    | some .tt => acode P E x st
    | some .ff => acode P E y st
    | some (.bool b) =>
      match c with
      | .tmp d => .ite b (acode P E x (tellB d true st)) (acode P E y (tellB d false st))
      | _ => .ite b (acode P E x st) (acode P E y st)
    | _ => .fail
  | .block id c, st => (acode P E c st).bind fun r => match r.1 with
    | .exit id' => if id' = id then .ret (.norm, r.2) else .ret (.exit id', r.2)
    | e => .ret (e, r.2)
  | .loop c, st => E.loop (keyOf c) st
  | .exit id, st => .ret (.exit id, st)
  | .ret, st => .ret (.ret, st)
  | .region _ ops draw, st =>
    if draw = true then
      (if P.follows .mixedOrders = true then
        (match midOf E ops with
          | some x => (aopsS P E ops.toList st.m (ops.toList.take x.1) st.fr).bind fun fr => (aops P E ops.toList ((ops.toList.drop x.1).take (x.2 + 1)) ⟨fr, st.m⟩).bind fun st =>
            (aopsS P E ops.toList st.m (ops.toList.drop (x.1 + (x.2 + 1))) st.fr).bind fun fr => .ret (.norm, ⟨fr, st.m⟩)
          | none => if Region.lexB .any ops = true then (aopsQ P E ops.toList st.m ops.toList st.fr).bind fun fr => .ret (.norm, ⟨fr, st.m⟩) else .fail)
      else .fail)
    else (aops P E ops.toList ops.toList st).bind fun st => .ret (.norm, st)
  | _, _ => .fail

def loopsIn : Code → List Code
  | .seq a b => loopsIn a ++ loopsIn b
  | .cond _ a b => loopsIn a ++ loopsIn b
  | .block _ c => loopsIn c
  | .loop c => [c]
  | _ => []

def PostOf (E : Env) (w0 : World) (X : Nat → Prop) (loc0 : Loc) (Q : Ex × St → Prop) : Exit → Act → World → Prop
  | .normal, a, w => ∃ loc st, Q (.norm, st) ∧ SR E.nt E.n0 w0 X loc0 loc st a w
  | .exit id, a, w => ∃ loc st, Q (.exit id, st) ∧ SR E.nt E.n0 w0 X loc0 loc st a w
  | .ret, a, w => ∃ loc st, Q (.ret, st) ∧ SR E.nt E.n0 w0 X loc0 loc st a w
  | _, _, _ => False

def AWp (P : Program) (E : Env) (c : Code) (st : St) (Q : Ex × St → Prop) : Prop :=
  ∀ w0 X loc0 loc a w, SR E.nt E.n0 w0 X loc0 loc st a w → c.wp P (PostOf E w0 X loc0 Q) a w

def LoopOK (P : Program) (E : Env) (c : Code) : Prop := ∀ st Q, (E.loop (keyOf c) st).holds Q → AWp P E (.loop c) st Q

theorem PostOf.mono {E : Env} {w0 : World} {X : Nat → Prop} {loc0 : Loc} {Q R : Ex × St → Prop} (h : ∀ r, Q r → R r) : ∀ e a w, PostOf E w0 X loc0 Q e a w → PostOf E w0 X loc0 R e a w
  | .normal, _, _, ⟨loc, st, hq, hs⟩ => ⟨loc, st, h _ hq, hs⟩
  | .exit _, _, _, ⟨loc, st, hq, hs⟩ => ⟨loc, st, h _ hq, hs⟩
  | .ret, _, _, ⟨loc, st, hq, hs⟩ => ⟨loc, st, h _ hq, hs⟩
  | .goto _, _, _, hq => hq
  | .panic _, _, _, hq => hq
  | .outgrown, _, _, hq => hq

theorem code_sound {P : Program} {E : Env} (hE : EnvOK P E.fns) : ∀ (c : Code), (∀ c' ∈ loopsIn c, LoopOK P E c') → ∀ (st : St) (Q : Ex × St → Prop), (acode P E c st).holds Q → AWp P E c st Q
  | .skip, _, st, Q, hq => fun w0 X loc0 loc a w h => wp_skip ⟨loc, st, hq, h⟩
  | .exit id, _, st, Q, hq => fun w0 X loc0 loc a w h => wp_exit ⟨loc, st, hq, h⟩
  | .ret, _, st, Q, hq => fun w0 X loc0 loc a w h => wp_ret ⟨loc, st, hq, h⟩
  | .loop c, hL, st, Q, hq => hL c (by simp [loopsIn]) st Q hq
  | .seq x y, hL, st, Q, hq => by
    intro w0 X loc0 loc a w h
    simp only [acode, T.holds_bind] at hq
    have h1 := code_sound hE x (fun c' hc' => hL c' (by simp [loopsIn, hc'])) st _ hq w0 X loc0 loc a w h
    refine wp_seq (wp_mono h1 ?_)
    intro e a' w' he
    cases e with
    | normal =>
      obtain ⟨loc', st', hQ, hs⟩ := he
      exact code_sound hE y (fun c' hc' => hL c' (by simp [loopsIn, hc'])) st' Q hQ w0 X loc0 loc' a' w' hs
    | exit id => exact he
    | ret => exact he
    | goto l => exact he
    | panic ch => exact he
    | outgrown => exact he
  | .cond c x y, hL, st, Q, hq => by
    intro w0 X loc0 loc a w h
    have hx := fun st' hq' => code_sound hE x (fun c' hc' => hL c' (by simp [loopsIn, hc'])) st' Q hq' w0 X loc0 loc a w
    have hy := fun st' hq' => code_sound hE y (fun c' hc' => hL c' (by simp [loopsIn, hc'])) st' Q hq' w0 X loc0 loc a w
    unfold acode at hq
    split at hq
    · rename_i hc
      obtain ⟨h1, _⟩ := ev_sound h.fr hc
      exact wp_cond_true (by rw [h1]; rfl) (hx st hq h)
    · rename_i hc
      obtain ⟨h1, _⟩ := ev_sound h.fr hc
      exact wp_cond_false (by rw [h1]; rfl) (hy st hq h)
    · rename_i b hc
      obtain ⟨h1, _⟩ := ev_sound h.fr hc
      simp only [conc] at h1
      split at hq
      · rename_i d
        have ht := h.tell (d := d) (b := b) hc
        cases b with
        | true => exact wp_cond_true h1 (hx _ (hq.1 rfl) ht)
        | false => exact wp_cond_false h1 (hy _ (hq.2 rfl) ht)
      · cases b with
        | true => exact wp_cond_true h1 (hx _ (hq.1 rfl) h)
        | false => exact wp_cond_false h1 (hy _ (hq.2 rfl) h)
    · exact hq.elim
  | .block id c, hL, st, Q, hq => by
    intro w0 X loc0 loc a w h
    simp only [acode, T.holds_bind] at hq
    have h1 := code_sound hE c (fun c' hc' => hL c' (by simp [loopsIn, hc'])) st _ hq w0 X loc0 loc a w h
    refine wp_block (wp_mono h1 ?_)
    intro e a' w' he
    cases e with
    | normal => exact he
    | exit id' =>
      obtain ⟨loc', st', hQ, hs⟩ := he
      simp only [Exit.inBlock]
      split
      · rename_i hid
        dsimp only at hQ
        rw [if_pos hid] at hQ
        exact ⟨loc', st', hQ, hs⟩
      · rename_i hid
        dsimp only at hQ
        rw [if_neg hid] at hQ
        exact ⟨loc', st', hQ, hs⟩
    | ret => exact he
    | goto l => exact he
    | panic ch => exact he
    | outgrown => exact he
  | .region id ops draw, _, st, Q, hq => by
    intro w0 X loc0 loc a w h
    unfold acode at hq
    cases draw with
    | false =>
      simp only [Bool.false_eq_true, if_false, T.holds_bind] at hq
      exact wp_region_list (aops_sound hE rfl (fun st' a' w' loc' hQ hs => ⟨loc', st', hQ, hs⟩) ops.toList loc st a w h hq)
    | true =>
      simp only [if_true] at hq
      split at hq
      · rename_i hc
        split at hq
        · rename_i x hx
          have hB := midOf_spec hx
          obtain ⟨l⟩ := ops
          rw [T.holds_bind] at hq
          refine wp_region_mid (l := l) x.1 x.2 hc hB ?_
          refine aopsS_sound (ops := l.toArray) (by simp) (h.mr.drewN (w.drawn + 1)) (fun fr' a' hQ hF hd => ?_) _ st.fr a h.fr h.defers hq
          rw [T.holds_bind] at hQ
          refine aopsRow_sound hE (by simp) (fun st' a'' w' loc' hQ hs => ?_) _ loc ⟨fr', st.m⟩ a' _ ⟨hF, h.mr.drewN _, hd, h.nle, h.base⟩ hQ
          rw [T.holds_bind] at hQ
          exact aopsS_sound (ops := l.toArray) (by simp) hs.mr (fun fr2 a3 hQ hF hd => ⟨loc', ⟨fr2, st'.m⟩, hQ, hF, hs.mr, hd, hs.nle, hs.base⟩) _ st'.fr a'' hs.fr hs.defers hQ
        · split at hq
          · rename_i hB
            rw [T.holds_bind] at hq
            refine wp_region_quiet (C := fun w' => MR w0 X loc st.m w') hc hB (h.mr.drewN _) ?_
            exact aopsQ_sound hE rfl h.mr (fun fr' a' hQ hF hd w' hw' => ⟨loc, ⟨fr', st.m⟩, hQ, hF, hw', hd, h.nle, h.base⟩) ops.toList st.fr a h.fr h.defers hq
          · exact hq.elim
      · exact hq.elim
  | .rangeFunc .., _, _, _, hq => hq.elim
  | .scope _, _, _, _, hq => hq.elim
  | .label _, _, _, _, hq => hq.elim
  | .goto _, _, _, _, hq => hq.elim
  | .refuse _, _, _, _, hq => hq.elim

end Go.Ox
