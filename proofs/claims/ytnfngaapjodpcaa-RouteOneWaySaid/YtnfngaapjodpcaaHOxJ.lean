/-
  Regions, code, functions.
-/
import Derived.Test.YtnfngaapjodpcaaHOxI
import Derived.Test.YtnfngaapjodpcaaHOxR
set_option linter.unusedVariables false
set_option linter.unusedSimpArgs false
namespace Go.Ox

structure St where
  fr : List (Nat × AV)
  m : AM

inductive Ex where
  | norm
  | exit (id : Nat)
  | ret
  | goto (l : Nat)

/-- What a function comes to: one that leaves the known memory as it is; any one. -/
inductive Summ where
  | pure (s : List AV → AM → T AV)
  | eff (s : List AV → AM → T (AV × AM))
  | ext (s : List AV → T AV)

structure Env where
  nt : Nat
  n0 : Nat
  fns : List (Nat × Summ)
  loop : Nat → St → T (Ex × St)
  vec : Bool := false

def find : List (Nat × Summ) → Nat → Option Summ
  | [], _ => none
  | (g, s) :: l, f => if g = f then some s else find l f

def CanEnter (P : Program) (f : FuncId) : Prop := ∀ args w, (callFunc f args).run P w = .ok (.enter f args) w

def EffOK (P : Program) (f : FuncId) (s : List AV → AM → T (AV × AM)) : Prop :=
  CanEnter P f ∧ ∀ args m Q, (s args m).holds Q → belowL m.length args → ∀ w0 X loc w, MR w0 X loc m w →
    Calls P f (concL loc args).toArray w fun e w' => ∃ v m' loc', Q (v, m') ∧ e = .returned (conc loc' v) ∧ below m'.length v ∧ m.length ≤ m'.length ∧ MR w0 X loc' m' w' ∧ ∀ i, i < m.length → loc' i = loc i

def PureOK (P : Program) (f : FuncId) (s : List AV → AM → T AV) : Prop := EffOK P f fun args m => (s args m).bind fun v => .ret (v, m)

/-- A function without a body, of numbers, for which the model stands in. -/
def ExtOK (P : Program) (f : FuncId) (s : List AV → T AV) : Prop :=
  ∀ args Q, (s args).holds Q → ∀ loc w, ∃ v, Q v ∧ (∀ n, below n v) ∧ (callFunc f (concL loc args).toArray).run P w = .ok (.value (conc loc v)) w
def SummOK (P : Program) (f : FuncId) : Summ → Prop
  | .pure s => PureOK P f s
  | .eff s => EffOK P f s
  | .ext s => ExtOK P f s

def EnvOK (P : Program) (l : List (Nat × Summ)) : Prop := ∀ f s, find l f = some s → SummOK P f s

theorem EnvOK.nil {P : Program} : EnvOK P [] := fun _ _ h => by cases h
theorem EnvOK.cons {P : Program} {f : Nat} {s : Summ} {l : List (Nat × Summ)} (h : SummOK P f s) (hl : EnvOK P l) : EnvOK P ((f, s) :: l) := by
  intro g t hg
  unfold find at hg
  split at hg
  · rename_i he
    subst he
    simp only [Option.some.injEq] at hg
    subst hg
    exact h
  · exact hl g t hg

def acallee (fr : List (Nat × AV)) (o : Op) : Option (FuncId × List AV) :=
  match o with
  | .call { callee := .value f, args, .. } =>
    match ev fr f, evL fr args.toList with
    | some (.fn (.func g) a c), some vs => some (g, a ++ vs ++ c)
    | _, _ => none
  | _ => none

theorem belowL_append {n : Nat} {a b : List AV} (ha : belowL n a) (hb : belowL n b) : belowL n (a ++ b) :=
  (belowL_iff _ _).2 fun v hv => (List.mem_append.1 hv).elim ((belowL_iff _ _).1 ha v) ((belowL_iff _ _).1 hb v)

theorem acallee_sound {P : Program} {nt : Nat} {loc : Loc} {n : Nat} {fr : List (Nat × AV)} {a : Act} (hF : FR nt loc n fr a.tmps) {o : Oper} {g : FuncId} {vs : List AV} (h : acallee fr o.op = some (g, vs)) (hc : CanEnter P g) (w : World) :
    belowL n vs ∧ (execOp a.eval o).run P w = .ok (.enter g (concL loc vs).toArray) w := by
  unfold acallee at h
  split at h
  · rename_i f args ats heq
    split at h
    · rename_i g' x y us hf hu
      simp only [Option.some.injEq, Prod.mk.injEq] at h
      obtain ⟨rfl, rfl⟩ := h
      obtain ⟨f1, f2⟩ := ev_sound hF hf
      obtain ⟨u1, u2⟩ := evL_sound hF hu
      simp only [below] at f2
      refine ⟨belowL_append (belowL_append f2.1 u2) f2.2, ?_⟩
      unfold execOp
      rw [heq]
      simp only [resolve, f1, conc, Deferred.ofValue, Sem.run_bind, Sem.run_pure, Result.andThen_ok, invoke]
      rw [toArray_map, u1, hc]
      simp [concL_append]
    · cases h
  · cases h

theorem acallee_run {P : Program} {nt : Nat} {loc : Loc} {n : Nat} {fr : List (Nat × AV)} {a : Act} (hF : FR nt loc n fr a.tmps) {o : Oper} {g : FuncId} {vs : List AV} (h : acallee fr o.op = some (g, vs)) (w : World) {v : Value}
    (hr : (callFunc g (concL loc vs).toArray).run P w = .ok (.value v) w) : (execOp a.eval o).run P w = .ok (.value v) w := by
  unfold acallee at h
  split at h
  · rename_i f args ats heq
    split at h
    · rename_i g' x y us hf hu
      simp only [Option.some.injEq, Prod.mk.injEq] at h
      obtain ⟨rfl, rfl⟩ := h
      obtain ⟨f1, f2⟩ := ev_sound hF hf
      obtain ⟨u1, u2⟩ := evL_sound hF hu
      unfold execOp
      rw [heq]
      simp only [resolve, f1, conc, Deferred.ofValue, Sem.run_bind, Sem.run_pure, Result.andThen_ok, invoke]
      rw [toArray_map, u1]
      simp only [concL_append] at hr
      have e : ((concL loc x).toArray ++ (concL loc us).toArray ++ (concL loc y).toArray) = (concL loc x ++ concL loc us ++ concL loc y).toArray := by simp
      rw [e, hr]
    · cases h
  · cases h

structure SR (nt n0 : Nat) (w0 : World) (X : Nat → Prop) (loc0 loc : Loc) (st : St) (a : Act) (w : World) : Prop where
  fr : FR nt loc st.m.length st.fr a.tmps
  mr : MR w0 X loc st.m w
  defers : a.defers = []
  nle : n0 ≤ st.m.length
  base : ∀ i, i < n0 → loc i = loc0 i

def putSt (nt : Nat) (dst : Option Tmp) (v : AV) (st : St) : T St :=
  match dst with
  | some d => if d < nt then .ret ⟨(d, v) :: st.fr, st.m⟩ else .fail
  | none => .ret st

theorem putSt_sound {nt n0 : Nat} {w0 : World} {X : Nat → Prop} {loc0 loc : Loc} {st : St} {a : Act} {w : World} (h : SR nt n0 w0 X loc0 loc st a w) {dst : Option Tmp} {v : AV} (hv : below st.m.length v) {Q : St → Prop}
    (hq : (putSt nt dst v st).holds Q) : ∃ st', Q st' ∧ SR nt n0 w0 X loc0 loc st' (a.put dst (conc loc v)) w := by
  cases dst with
  | none => exact ⟨st, hq, h⟩
  | some d =>
    simp only [putSt] at hq
    split at hq
    · rename_i hd
      exact ⟨_, hq, h.fr.put hd hv, h.mr, h.defers, h.nle, h.base⟩
    · exact hq.elim

theorem SR.move {nt n0 : Nat} {w0 : World} {X : Nat → Prop} {loc0 loc loc' : Loc} {st : St} {m' : AM} {a : Act} {w w' : World} (h : SR nt n0 w0 X loc0 loc st a w) (hm : MR w0 X loc' m' w') (hl : st.m.length ≤ m'.length) (hloc : ∀ i, i < st.m.length → loc' i = loc i) :
    SR nt n0 w0 X loc0 loc' ⟨st.fr, m'⟩ a w' :=
  ⟨h.fr.move hl hloc, hm, h.defers, Nat.le_trans h.nle hl, fun i hi => (hloc i (Nat.lt_of_lt_of_le hi h.nle)).trans (h.base i hi)⟩

def astep0 (P : Program) (E : Env) (o : Oper) (st : St) : T St :=
  match aopP P st.fr st.m o.op with
  | some t => t.bind fun v => putSt E.nt o.dst v st
  | none =>
    match acallee st.fr o.op with
    | some (g, args) =>
      match find E.fns g with
      | some (.pure s) => (s args st.m).bind fun v => putSt E.nt o.dst v st
      | some (.eff s) => (s args st.m).bind fun r => putSt E.nt o.dst r.1 ⟨st.fr, r.2⟩
      | some (.ext s) => (s args).bind fun v => putSt E.nt o.dst v st
      | none => .fail
    | none => (aopE E.vec P st.fr st.m o.op).bind fun r => putSt E.nt o.dst r.1 ⟨st.fr, r.2⟩

theorem undef_conc (loc : Loc) : conc loc (.tup []) = undef := by simp [conc, concL, undef]

theorem astep0_sound {P : Program} {E : Env} (hE : EnvOK P E.fns) {w0 : World} {X : Nat → Prop} {loc0 loc : Loc} {st : St} {a : Act} {w : World} (h : SR E.nt E.n0 w0 X loc0 loc st a w) {o : Oper} {Q : St → Prop}
    (hq : (astep0 P E o st).holds Q) {next : Act → World → Prop} {Qx : Exit → Act → World → Prop} (hn : ∀ st' a' w' loc', Q st' → SR E.nt E.n0 w0 X loc0 loc' st' a' w' → next a' w') : o.wp P a w next Qx := by
  have heff : ∀ {g : FuncId} {args : List AV} {s : List AV → AM → T (AV × AM)}, acallee st.fr o.op = some (g, args) → EffOK P g s → (s args st.m).holds (fun r => (putSt E.nt o.dst r.1 ⟨st.fr, r.2⟩).holds Q) → o.wp P a w next Qx := by
    intro g args s hc hs hq
    obtain ⟨hce, hs⟩ := hs
    obtain ⟨hb, hrun⟩ := acallee_sound h.fr hc hce w
    unfold Oper.wp
    rw [hrun, Oper.upon_enter]
    refine (hs args st.m _ hq hb w0 X loc w h.mr).mono ?_
    rintro e w' ⟨v, m', loc', hQ, rfl, hbv, hle, hm, hl⟩
    obtain ⟨st', hQ', hsr⟩ := putSt_sound (h.move hm hle hl) hbv hQ
    exact hn _ _ _ _ hQ' hsr
  unfold astep0 at hq
  split at hq
  · rename_i t ht
    rw [T.holds_bind] at hq
    obtain ⟨v, hQ, hb, hrun⟩ := aopP_sound h.fr h.mr ht hq
    unfold Oper.wp
    rw [hrun, Oper.upon_value]
    obtain ⟨st', hQ', hsr⟩ := putSt_sound h hb hQ
    exact hn _ _ _ _ hQ' hsr
  · split at hq
    · rename_i g args hc
      split at hq
      · rename_i s hs
        refine heff hc (hE g _ hs) ?_
        rw [T.holds_bind] at hq ⊢
        exact hq
      · rename_i s hs
        rw [T.holds_bind] at hq
        exact heff hc (hE g _ hs) hq
      · rename_i s hs
        rw [T.holds_bind] at hq
        obtain ⟨v, hQ, hb, hr⟩ := (hE g _ hs : ExtOK P g s) args _ hq loc w
        have hrun := acallee_run h.fr hc w hr
        unfold Oper.wp
        rw [hrun, Oper.upon_value]
        obtain ⟨st', hQ', hsr⟩ := putSt_sound h (hb _) hQ
        exact hn _ _ _ _ hQ' hsr
      · exact hq.elim
    · rw [T.holds_bind] at hq
      obtain ⟨v, m', loc', w', hQ, hbv, hle, hm, hl, hrun⟩ := aopE_sound h.fr h.mr hq
      obtain ⟨st', hQ', hsr⟩ := putSt_sound (h.move hm hle hl) hbv hQ
      unfold Oper.wp
      rcases hrun with hrun | ⟨hrun, rfl⟩
      · rw [hrun, Oper.upon_value]; exact hn _ _ _ _ hQ' hsr
      · rw [hrun, Oper.upon_skip, ← undef_conc loc']; exact hn _ _ _ _ hQ' hsr

/-! ### Members of families -/

def aopen (m : AM) (id : Nat) (js : List Nat) : T (AV × AM) :=
  T.opt (m.get id) fun b => T.opt b.fam fun F => .ite (F js).nil (.ret (.esl (F js).adr, m)) (.ret (.sl m.length 0 (F js).s 0 (F js).len (F js).cap, m ++ [some (F js).blk]))

theorem aopen_sound {w0 : World} {X : Nat → Prop} {loc : Loc} {m : AM} {w : World} (h : MR w0 X loc m w) {id : Nat} {js : List Nat} {Q : AV × AM → Prop} (hq : (aopen m id js).holds Q) :
    ∃ v m' loc', Q (v, m') ∧ conc loc' v = conc loc (.part id js) ∧ below m'.length v ∧ m.length ≤ m'.length ∧ MR w0 X loc' m' w ∧ ∀ i, i < m.length → loc' i = loc i := by
  obtain ⟨b, hg, hq⟩ := T.holds_opt hq
  obtain ⟨F, hF, hq⟩ := T.holds_opt hq
  rcases h.open_ hg hF js with ⟨h1, h2⟩ | ⟨h1, loc', h2, h3, h4⟩
  · exact ⟨_, _, loc, hq.1 h1, h2.symm, by simp [below], Nat.le_refl _, h, fun _ _ => rfl⟩
  · exact ⟨_, _, loc', hq.2 h1, h4, by simp [below], by simp, h2, h3⟩

/-- What was told last, opened. -/
def openTop (st : St) : T St :=
  match st.fr with
  | (d, .part id js) :: fr => (aopen st.m id js).bind fun r => .ret ⟨(d, r.1) :: fr, r.2⟩
  | _ => .ret st

theorem openTop_sound {nt n0 : Nat} {w0 : World} {X : Nat → Prop} {loc0 loc : Loc} {st : St} {a : Act} {w : World} (h : SR nt n0 w0 X loc0 loc st a w) {Q : St → Prop} (hq : (openTop st).holds Q) :
    ∃ st' loc', Q st' ∧ SR nt n0 w0 X loc0 loc' st' a w := by
  unfold openTop at hq
  split at hq
  · rename_i d id js fr hfr
    rw [T.holds_bind] at hq
    obtain ⟨v, m', loc', hQ, h1, h2, h3, h4, h5⟩ := aopen_sound h.mr hq
    have hm := h.move h4 h3 h5
    refine ⟨_, loc', hQ, ⟨hm.fr.size, fun t u hu => ?_⟩, h4, h.defers, hm.nle, hm.base⟩
    have hvis := hm.fr.val
    simp only [hfr] at hvis
    by_cases he : d = t
    · subst he
      rw [slotAt, if_pos rfl] at hu
      obtain rfl := Option.some.inj hu
      have hv := h.fr.val
      rw [hfr] at hv
      obtain ⟨g1, g2, g3⟩ := hv d (.part id js) (by rw [slotAt, if_pos rfl])
      exact ⟨g1, by rw [g2, h1], h2⟩
    · rw [slotAt, if_neg he] at hu
      exact hvis t u (by rw [slotAt, if_neg he]; exact hu)
  · exact ⟨st, loc, hq, h⟩

/-- All that a frame tells, opened. -/
def openFr : List Nat → St → T St
  | [], st => .ret st
  | t :: ts, st =>
    match slotAt st.fr t with
    | some (.part id js) => (aopen st.m id js).bind fun r => openFr ts ⟨(t, r.1) :: st.fr, r.2⟩
    | _ => openFr ts st

theorem openFr_sound {nt n0 : Nat} {w0 : World} {X : Nat → Prop} {loc0 : Loc} {a : Act} {w : World} {Q : St → Prop} : ∀ (ts : List Nat) (loc : Loc) (st : St), SR nt n0 w0 X loc0 loc st a w → (openFr ts st).holds Q →
    ∃ st' loc', Q st' ∧ SR nt n0 w0 X loc0 loc' st' a w
  | [], loc, st, h, hq => ⟨st, loc, hq, h⟩
  | t :: ts, loc, st, h, hq => by
    unfold openFr at hq
    split at hq
    · rename_i id js hs
      rw [T.holds_bind] at hq
      obtain ⟨v, m', loc', hQ, h1, h2, h3, h4, h5⟩ := aopen_sound h.mr hq
      have hm := h.move h4 h3 h5
      obtain ⟨g1, g2, g3⟩ := h.fr.val t _ hs
      refine openFr_sound ts loc' ⟨(t, v) :: st.fr, m'⟩ ⟨⟨hm.fr.size, fun u x hx => ?_⟩, h4, h.defers, hm.nle, hm.base⟩ hQ
      by_cases he : t = u
      · subst he
        rw [slotAt, if_pos rfl] at hx
        obtain rfl := Option.some.inj hx
        exact ⟨g1, by rw [g2, h1], h2⟩
      · rw [slotAt, if_neg he] at hx
        exact hm.fr.val u x hx
    · exact openFr_sound ts loc st h hq

def AV.isPart : AV → Bool
  | .part .. => true
  | _ => false

def partSlots : List (Nat × AV) → List Nat
  | [] => []
  | (t, v) :: l => if v.isPart = true then t :: partSlots l else partSlots l

def openSt (st : St) : T St := openFr (partSlots st.fr) st

theorem openSt_sound {nt n0 : Nat} {w0 : World} {X : Nat → Prop} {loc0 loc : Loc} {st : St} {a : Act} {w : World} (h : SR nt n0 w0 X loc0 loc st a w) {Q : St → Prop} (hq : (openSt st).holds Q) :
    ∃ st' loc', Q st' ∧ SR nt n0 w0 X loc0 loc' st' a w := openFr_sound _ loc st h hq

def astep (P : Program) (E : Env) (o : Oper) (st : St) : T St := (astep0 P E o st).bind openTop

theorem astep_sound {P : Program} {E : Env} (hE : EnvOK P E.fns) {w0 : World} {X : Nat → Prop} {loc0 loc : Loc} {st : St} {a : Act} {w : World} (h : SR E.nt E.n0 w0 X loc0 loc st a w) {o : Oper} {Q : St → Prop}
    (hq : (astep P E o st).holds Q) {next : Act → World → Prop} {Qx : Exit → Act → World → Prop} (hn : ∀ st' a' w' loc', Q st' → SR E.nt E.n0 w0 X loc0 loc' st' a' w' → next a' w') : o.wp P a w next Qx := by
  unfold astep at hq
  rw [T.holds_bind] at hq
  refine astep0_sound hE h hq fun st' a' w' loc' hQ hsr => ?_
  obtain ⟨st2, loc2, hQ2, hsr2⟩ := openTop_sound hsr hQ
  exact hn st2 a' w' loc2 hQ2 hsr2

/-! ### Guards -/

def guardSlot (all : List Oper) (j : Nat) : Option Tmp := (all[j]?).bind (·.dst)

theorem yielded_at {nt : Nat} {loc : Loc} {n : Nat} {fr : List (Nat × AV)} {a : Act} (hF : FR nt loc n fr a.tmps) {all : List Oper} {ops : Array Oper} (ha : ops.toList = all) {j d : Nat} (hd : guardSlot all j = some d) {v : AV} (hv : slotAt fr d = some v) :
    yielded ops a.tmps j = match conc loc v with | .bool b => some b | _ => none := by
  obtain ⟨h1, h2, _⟩ := hF.val d v hv
  subst ha
  have hd' : (ops[j]?).bind (·.dst) = some d := by simpa [guardSlot] using hd
  have hlt : d < a.tmps.size := by rw [hF.size]; exact h1
  have ht : a.tmps[d]? = some (conc loc v) := by
    rw [← h2, Array.getElem?_eq_getElem hlt]
    simp [Array.getD_eq_getD_getElem?, Array.getElem?_eq_getElem hlt]
  unfold yielded
  rw [hd']
  simp only [Option.bind_some, ht]
  split <;> simp_all

theorem FR.retell {nt : Nat} {loc : Loc} {n : Nat} {fr : List (Nat × AV)} {tmps : Array Value} (h : FR nt loc n fr tmps) {d : Nat} {v u : AV} (hv : slotAt fr d = some v) (hc : conc loc u = conc loc v) (hb : below n u) : FR nt loc n ((d, u) :: fr) tmps where
  size := h.size
  val t x hx := by
    unfold slotAt at hx
    split at hx
    · rename_i he
      subst he
      simp only [Option.some.injEq] at hx
      subst hx
      obtain ⟨h1, h2, _⟩ := h.val _ v hv
      exact ⟨h1, h2.trans hc.symm, hb⟩
    · exact h.val t x hx

/-- Whether an operation is wanted; the frame in which the guard is told. -/
inductive Want where
  | run
  | skip
  | ask (b : Bool) (d : Tmp) (want : Bool)
  | lost

def wantOf (all : List Oper) (fr : List (Nat × AV)) (o : Oper) : Want :=
  match o.guard with
  | none => .run
  | some (j, want) =>
    match guardSlot all j with
    | none => .lost
    | some d =>
      match slotAt fr d with
      | some .tt => if want = true then .run else .skip
      | some .ff => if want = true then .skip else .run
      | some (.bool b) => .ask b d want
      | some (.tup []) => .skip
      | _ => .lost

theorem wantOf_run {nt : Nat} {loc : Loc} {n : Nat} {fr : List (Nat × AV)} {a : Act} (hF : FR nt loc n fr a.tmps) {all : List Oper} {ops : Array Oper} (ha : ops.toList = all) {o : Oper} (h : wantOf all fr o = .run) :
    Region.wanted o (yielded ops a.tmps) = true := by
  unfold wantOf at h
  unfold Region.wanted
  split at h
  · rename_i hg; rw [hg]
  · rename_i j want hg
    rw [hg]
    split at h
    · cases h
    · rename_i d hd
      split at h
      · rename_i hl; split at h
        · rename_i hw; subst hw; simp [yielded_at hF ha hd hl, conc]
        · cases h
      · rename_i hl; split at h
        · cases h
        · rename_i hw; simp [yielded_at hF ha hd hl, conc]; simpa using hw
      · cases h
      · cases h
      · cases h

theorem wantOf_skip {nt : Nat} {loc : Loc} {n : Nat} {fr : List (Nat × AV)} {a : Act} (hF : FR nt loc n fr a.tmps) {all : List Oper} {ops : Array Oper} (ha : ops.toList = all) {o : Oper} (h : wantOf all fr o = .skip) :
    Region.wanted o (yielded ops a.tmps) = false := by
  unfold wantOf at h
  unfold Region.wanted
  split at h
  · cases h
  · rename_i j want hg
    rw [hg]
    split at h
    · cases h
    · rename_i d hd
      split at h
      · rename_i hl; split at h
        · cases h
        · rename_i hw; simp [yielded_at hF ha hd hl, conc]; simpa using hw
      · rename_i hl; split at h
        · rename_i hw; subst hw; simp [yielded_at hF ha hd hl, conc]
        · cases h
      · cases h
      · rename_i hl; simp [yielded_at hF ha hd hl, conc]
      · cases h

theorem wantOf_ask {nt : Nat} {loc : Loc} {n : Nat} {fr : List (Nat × AV)} {a : Act} (hF : FR nt loc n fr a.tmps) {all : List Oper} {ops : Array Oper} (ha : ops.toList = all) {o : Oper} {b : Bool} {d : Tmp} {want : Bool} (h : wantOf all fr o = .ask b d want) :
    slotAt fr d = some (.bool b) ∧ Region.wanted o (yielded ops a.tmps) = (b == want) := by
  unfold wantOf at h
  unfold Region.wanted
  split at h
  · cases h
  · rename_i j want' hg
    rw [hg]
    split at h
    · cases h
    · rename_i d' hd
      split at h
      · split at h <;> cases h
      · split at h <;> cases h
      · rename_i b' hl
        injection h with h1 h2 h3
        subst h1; subst h2; subst h3
        refine ⟨hl, ?_⟩
        simp [yielded_at hF ha hd hl, conc]
      · cases h
      · cases h

/-! ### Regions in the order of the text -/

def tellB (d : Tmp) (b : Bool) (st : St) : St := ⟨(d, if b = true then .tt else .ff) :: st.fr, st.m⟩

theorem SR.tell {nt n0 : Nat} {w0 : World} {X : Nat → Prop} {loc0 loc : Loc} {st : St} {a : Act} {w : World} (h : SR nt n0 w0 X loc0 loc st a w) {d : Tmp} {b : Bool} (hl : slotAt st.fr d = some (.bool b)) : SR nt n0 w0 X loc0 loc (tellB d b st) a w :=
  ⟨h.fr.retell hl (by cases b <;> simp [conc]) (by cases b <;> simp [below]), h.mr, h.defers, h.nle, h.base⟩

def aops (P : Program) (E : Env) (all : List Oper) : List Oper → St → T St
  | [], st => .ret st
  | o :: rest, st =>
    match wantOf all st.fr o with
    | .run => (astep P E o st).bind fun st => aops P E all rest st
    | .skip => (putSt E.nt o.dst (.tup []) st).bind fun st => aops P E all rest st
    | .ask b d want =>
      .ite b
        (match want with
          | true => (astep P E o (tellB d true st)).bind fun st => aops P E all rest st
          | false => (putSt E.nt o.dst (.tup []) (tellB d true st)).bind fun st => aops P E all rest st)
        (match want with
          | true => (putSt E.nt o.dst (.tup []) (tellB d false st)).bind fun st => aops P E all rest st
          | false => (astep P E o (tellB d false st)).bind fun st => aops P E all rest st)
    | .lost => .fail

theorem aops_sound {P : Program} {E : Env} (hE : EnvOK P E.fns) {w0 : World} {X : Nat → Prop} {loc0 : Loc} {ops : Array Oper} {all : List Oper} (ha : ops.toList = all) {Q : St → Prop} {Qx : Exit → Act → World → Prop}
    (hx : ∀ st' a' w' loc', Q st' → SR E.nt E.n0 w0 X loc0 loc' st' a' w' → Qx .normal a' w') :
    ∀ (l : List Oper) (loc : Loc) (st : St) (a : Act) (w : World), SR E.nt E.n0 w0 X loc0 loc st a w → (aops P E all l st).holds Q → wpList P ops Qx l a w
  | [], loc, st, a, w, h, hq => hx st a w loc hq h
  | o :: rest, loc, st, a, w, h, hq => by
    have hrun : ∀ st, SR E.nt E.n0 w0 X loc0 loc st a w → Region.wanted o (yielded ops a.tmps) = true → ((astep P E o st).bind fun st => aops P E all rest st).holds Q → wpList P ops Qx (o :: rest) a w := by
      intro st h hw hq
      rw [T.holds_bind] at hq
      unfold wpList
      rw [if_pos hw]
      exact .inl (astep_sound hE h hq fun st' a' w' loc' hQ hsr => aops_sound hE ha hx rest loc' st' a' w' hsr hQ)
    have hskip : ∀ st, SR E.nt E.n0 w0 X loc0 loc st a w → Region.wanted o (yielded ops a.tmps) = false → ((putSt E.nt o.dst (.tup []) st).bind fun st => aops P E all rest st).holds Q → wpList P ops Qx (o :: rest) a w := by
      intro st h hw hq
      rw [T.holds_bind] at hq
      unfold wpList
      rw [if_neg (by rw [hw]; simp)]
      obtain ⟨st', hQ, hsr⟩ := putSt_sound h (v := .tup []) (by simp [below, belowL]) hq
      rw [undef_conc] at hsr
      exact aops_sound hE ha hx rest loc st' _ w hsr hQ
    unfold aops at hq
    split at hq
    · rename_i hw; exact hrun st h (wantOf_run h.fr ha hw) hq
    · rename_i hw; exact hskip st h (wantOf_skip h.fr ha hw) hq
    · rename_i b d want hw
      obtain ⟨hl, hwd⟩ := wantOf_ask h.fr ha hw
      have ht := h.tell hl
      cases b with
      | true =>
        have hq := hq.1 rfl
        cases want with
        | true => exact hrun _ ht (by simpa using hwd) hq
        | false => exact hskip _ ht (by simpa using hwd) hq
      | false =>
        have hq := hq.2 rfl
        cases want with
        | true => exact hskip _ ht (by simpa using hwd) hq
        | false => exact hrun _ ht (by simpa using hwd) hq
    · exact hq.elim

theorem aopsRow_sound {P : Program} {E : Env} (hE : EnvOK P E.fns) {w0 : World} {X : Nat → Prop} {loc0 : Loc} {ops : Array Oper} {all : List Oper} (ha : ops.toList = all) {l2 : List Oper} {Q : St → Prop} {Qx : Exit → Act → World → Prop}
    (hx : ∀ st' a' w' loc', Q st' → SR E.nt E.n0 w0 X loc0 loc' st' a' w' → wpStill P ops w' (fun a => Qx .normal a w') l2 a') :
    ∀ (l : List Oper) (loc : Loc) (st : St) (a : Act) (w : World), SR E.nt E.n0 w0 X loc0 loc st a w → (aops P E all l st).holds Q → wpRow P ops Qx l2 l a w
  | [], loc, st, a, w, h, hq => hx st a w loc hq h
  | o :: rest, loc, st, a, w, h, hq => by
    have hrun : ∀ st, SR E.nt E.n0 w0 X loc0 loc st a w → Region.wanted o (yielded ops a.tmps) = true → ((astep P E o st).bind fun st => aops P E all rest st).holds Q → wpRow P ops Qx l2 (o :: rest) a w := by
      intro st h hw hq
      rw [T.holds_bind] at hq
      unfold wpRow
      rw [if_pos hw]
      exact astep_sound hE h hq fun st' a' w' loc' hQ hsr => aopsRow_sound hE ha hx rest loc' st' a' w' hsr hQ
    have hskip : ∀ st, SR E.nt E.n0 w0 X loc0 loc st a w → Region.wanted o (yielded ops a.tmps) = false → ((putSt E.nt o.dst (.tup []) st).bind fun st => aops P E all rest st).holds Q → wpRow P ops Qx l2 (o :: rest) a w := by
      intro st h hw hq
      rw [T.holds_bind] at hq
      unfold wpRow
      rw [if_neg (by rw [hw]; simp)]
      obtain ⟨st', hQ, hsr⟩ := putSt_sound h (v := .tup []) (by simp [below, belowL]) hq
      rw [undef_conc] at hsr
      exact aopsRow_sound hE ha hx rest loc st' _ w hsr hQ
    unfold aops at hq
    split at hq
    · rename_i hw; exact hrun st h (wantOf_run h.fr ha hw) hq
    · rename_i hw; exact hskip st h (wantOf_skip h.fr ha hw) hq
    · rename_i b d want hw
      obtain ⟨hl, hwd⟩ := wantOf_ask h.fr ha hw
      have ht := h.tell hl
      cases b with
      | true =>
        have hq := hq.1 rfl
        cases want with
        | true => exact hrun _ ht (by simpa using hwd) hq
        | false => exact hskip _ ht (by simpa using hwd) hq
      | false =>
        have hq := hq.2 rfl
        cases want with
        | true => exact hskip _ ht (by simpa using hwd) hq
        | false => exact hrun _ ht (by simpa using hwd) hq
    · exact hq.elim

/-! ### Regions that draw their order -/

def putFr (nt : Nat) (dst : Option Tmp) (v : AV) (fr : List (Nat × AV)) : T (List (Nat × AV)) :=
  match dst with
  | some d => if d < nt then .ret ((d, v) :: fr) else .fail
  | none => .ret fr

theorem putFr_sound {nt n : Nat} {loc : Loc} {fr : List (Nat × AV)} {a : Act} (h : FR nt loc n fr a.tmps) {dst : Option Tmp} {v : AV} (hv : below n v) {Q : List (Nat × AV) → Prop}
    (hq : (putFr nt dst v fr).holds Q) : ∃ fr', Q fr' ∧ FR nt loc n fr' (a.put dst (conc loc v)).tmps := by
  cases dst with
  | none => exact ⟨fr, hq, h⟩
  | some d =>
    simp only [putFr] at hq
    split at hq
    · rename_i hd; exact ⟨_, hq, h.put hd hv⟩
    · exact hq.elim

/-- The value of an operation that only reads. -/
def valQ (P : Program) (E : Env) (m : AM) (o : Oper) (fr : List (Nat × AV)) : T AV :=
  match aopP P fr m o.op with
  | some t => if t.quiet = true then t else .fail
  | none =>
    match acallee fr o.op with
    | some (g, args) =>
      match find E.fns g with
      | some (.pure s) => if (s args m).quiet = true then s args m else .fail
      | _ => .fail
    | none => .fail

theorem MR.locCongr {w0 : World} {X : Nat → Prop} {loc loc' : Loc} {m : AM} {w : World} (h : MR w0 X loc' m w) (hl : ∀ i, i < m.length → loc' i = loc i) : MR w0 X loc m w := by
  have hp : ∀ id b, AM.get m id = some b → ∀ o, place loc id o = place loc' id o := fun id b hg o => by unfold place; rw [hl id (AM.get_lt hg)]
  refine ⟨fun id b hg o ho => ?_, h.wf, h.sc, fun id b hg => ?_, fun id b hg hr o ho => ?_, fun id b id' b' hg hg' hr hne => ?_, fun id b hg hr => ?_, h.size, h.keep, h.os, h.tape, h.output, h.gl, h.fa.to (fun _ b _ hg hF => ⟨b, hg, hF⟩) (fun i hi => (hl i hi).symm) (Nat.le_refl _) (Nat.le_refl _) (fun id b hg hr => .inl ⟨id, b, hg, hr, by rw [hl id (AM.get_lt hg)]⟩) (fun _ _ _ => rfl)⟩
  · rw [hp id b hg o, ← conc_congr hl _ (h.wf id b hg o ho)]; exact h.cell id b hg o ho
  · rw [← hl id (AM.get_lt hg)]; exact h.lt id b hg
  · rw [hp id b hg o]; exact h.free id b hg hr o ho
  · rw [← hl id (AM.get_lt hg), ← hl id' (AM.get_lt hg')]; exact h.sep id b id' b' hg hg' hr hne
  · rw [← hl id (AM.get_lt hg)]; exact h.own id b hg hr

theorem valQ_sound {P : Program} {E : Env} (hE : EnvOK P E.fns) {w0 : World} {X : Nat → Prop} {loc : Loc} {m : AM} {o : Oper} {fr : List (Nat × AV)} {a : Act} (hF : FR E.nt loc m.length fr a.tmps) {w : World} (hw : MR w0 X loc m w) {Q : AV → Prop} (hq : (valQ P E m o fr).holds Q) :
    ∃ v, Q v ∧ below m.length v ∧ ∀ w, MR w0 X loc m w → o.quietAt P a (fun w' => MR w0 X loc m w') w (conc loc v) := by
  unfold valQ at hq
  split at hq
  · rename_i t ht
    split at hq
    · rename_i hqt
      obtain ⟨v, hv, hone⟩ := T.quiet_one t hqt hq
      obtain ⟨v', e, hb, _⟩ := aopP_sound hF hw ht hone
      subst e
      refine ⟨_, hv, hb, fun w' hw' => ?_⟩
      obtain ⟨v', e, _, hrun⟩ := aopP_sound hF hw' ht hone
      subst e
      unfold Oper.quietAt
      rw [hrun]
      exact ⟨rfl, rfl⟩
    · exact hq.elim
  · split at hq
    · rename_i g args hc
      split at hq
      · rename_i s hs
        split at hq
        · rename_i hqt
          obtain ⟨v, hv, hone⟩ := T.quiet_one _ hqt hq
          obtain ⟨hce, hs⟩ := hE g _ hs
          have hone' : ((s args m).bind fun v => T.ret (v, m)).holds (fun r => r = (v, m)) := by
            rw [T.holds_bind]
            exact T.holds_mono (fun u (hu : u = v) => by subst hu; rfl) _ hone
          obtain ⟨hb, _⟩ := acallee_sound hF hc hce w
          have hcalls := hs args m _ hone' hb
          have hbv : below m.length v := by
            obtain ⟨e, w', fr', ⟨v', m', loc', he, _, hb', _⟩, _⟩ := hcalls w0 X loc w hw []
            injection he with h1 h2
            subst h1; subst h2
            exact hb'
          refine ⟨v, hv, hbv, fun w' hw' => ?_⟩
          obtain ⟨_, hrun⟩ := acallee_sound hF hc hce w'
          unfold Oper.quietAt
          rw [hrun]
          refine ⟨rfl, (hcalls w0 X loc w' hw').mono ?_⟩
          rintro e w2 ⟨v', m', loc', he, rfl, hb', _, hm', hl'⟩
          injection he with h1 h2
          subst h1; subst h2
          exact ⟨by rw [conc_congr hl' _ hb'], hm'.locCongr hl'⟩
        · exact hq.elim
      · exact hq.elim
    · exact hq.elim

def aopsQ (P : Program) (E : Env) (all : List Oper) (m : AM) : List Oper → List (Nat × AV) → T (List (Nat × AV))
  | [], fr => .ret fr
  | o :: rest, fr =>
    match wantOf all fr o with
    | .run => ((valQ P E m o fr).bind fun v => putFr E.nt o.dst v fr).bind fun fr => aopsQ P E all m rest fr
    | .skip => (putFr E.nt o.dst (.tup []) fr).bind fun fr => aopsQ P E all m rest fr
    | .ask b d want =>
      .ite b
        (match want with
          | true => ((valQ P E m o ((d, .tt) :: fr)).bind fun v => putFr E.nt o.dst v ((d, .tt) :: fr)).bind fun fr => aopsQ P E all m rest fr
          | false => (putFr E.nt o.dst (.tup []) ((d, .tt) :: fr)).bind fun fr => aopsQ P E all m rest fr)
        (match want with
          | true => (putFr E.nt o.dst (.tup []) ((d, .ff) :: fr)).bind fun fr => aopsQ P E all m rest fr
          | false => ((valQ P E m o ((d, .ff) :: fr)).bind fun v => putFr E.nt o.dst v ((d, .ff) :: fr)).bind fun fr => aopsQ P E all m rest fr)
    | .lost => .fail

theorem put_defers (a : Act) (dst : Option Tmp) (v : Value) : (a.put dst v).defers = a.defers := by cases dst <;> rfl

theorem aopsQ_sound {P : Program} {E : Env} (hE : EnvOK P E.fns) {w0 : World} {X : Nat → Prop} {loc : Loc} {m : AM} {ops : Array Oper} {all : List Oper} (ha : ops.toList = all) {w : World} (hw : MR w0 X loc m w) {Q : List (Nat × AV) → Prop} {Qx : Act → Prop}
    (hx : ∀ fr' (a' : Act), Q fr' → FR E.nt loc m.length fr' a'.tmps → a'.defers = [] → Qx a') :
    ∀ (l : List Oper) (fr : List (Nat × AV)) (a : Act), FR E.nt loc m.length fr a.tmps → a.defers = [] → (aopsQ P E all m l fr).holds Q → wpQuiet P ops (fun w' => MR w0 X loc m w') Qx l a
  | [], fr, a, h, hd, hq => hx fr a hq h hd
  | o :: rest, fr, a, h, hd, hq => by
    have hrun : ∀ fr, FR E.nt loc m.length fr a.tmps → Region.wanted o (yielded ops a.tmps) = true → (((valQ P E m o fr).bind fun v => putFr E.nt o.dst v fr).bind fun fr => aopsQ P E all m rest fr).holds Q →
        wpQuiet P ops (fun w' => MR w0 X loc m w') Qx (o :: rest) a := by
      intro fr h hwt hq
      rw [T.holds_bind, T.holds_bind] at hq
      obtain ⟨v, hv, hb, hquiet⟩ := valQ_sound hE h hw hq
      obtain ⟨fr', hQ, hF⟩ := putFr_sound h hb hv
      unfold wpQuiet
      rw [if_pos hwt]
      exact ⟨conc loc v, hquiet, aopsQ_sound hE ha hw hx rest fr' _ hF (by rw [put_defers]; exact hd) hQ⟩
    have hskip : ∀ fr, FR E.nt loc m.length fr a.tmps → Region.wanted o (yielded ops a.tmps) = false → ((putFr E.nt o.dst (.tup []) fr).bind fun fr => aopsQ P E all m rest fr).holds Q →
        wpQuiet P ops (fun w' => MR w0 X loc m w') Qx (o :: rest) a := by
      intro fr h hwt hq
      rw [T.holds_bind] at hq
      obtain ⟨fr', hQ, hF⟩ := putFr_sound h (v := .tup []) (by simp [below, belowL]) hq
      rw [undef_conc] at hF
      unfold wpQuiet
      rw [if_neg (by rw [hwt]; simp)]
      exact aopsQ_sound hE ha hw hx rest fr' _ hF (by rw [put_defers]; exact hd) hQ
    unfold aopsQ at hq
    split at hq
    · rename_i hwt; exact hrun fr h (wantOf_run h ha hwt) hq
    · rename_i hwt; exact hskip fr h (wantOf_skip h ha hwt) hq
    · rename_i b d want hwt
      obtain ⟨hl, hwd⟩ := wantOf_ask h ha hwt
      cases b with
      | true =>
        have hq := hq.1 rfl
        have ht := h.retell hl (u := .tt) (by simp [conc]) (by simp [below])
        cases want with
        | true => exact hrun _ ht (by simpa using hwd) hq
        | false => exact hskip _ ht (by simpa using hwd) hq
      | false =>
        have hq := hq.2 rfl
        have ht := h.retell hl (u := .ff) (by simp [conc]) (by simp [below])
        cases want with
        | true => exact hskip _ ht (by simpa using hwd) hq
        | false => exact hrun _ ht (by simpa using hwd) hq
    · exact hq.elim

/-! ### Regions that draw their order, with a tail in the order of the text -/

def aopsS (P : Program) (E : Env) (all : List Oper) (m : AM) : List Oper → List (Nat × AV) → T (List (Nat × AV))
  | [], fr => .ret fr
  | o :: rest, fr =>
    match wantOf all fr o with
    | .run => ((T.opt (aopP P fr m o.op) id).bind fun v => putFr E.nt o.dst v fr).bind fun fr => aopsS P E all m rest fr
    | .skip => (putFr E.nt o.dst (.tup []) fr).bind fun fr => aopsS P E all m rest fr
    | .ask b d want =>
      .ite b
        (match want with
          | true => ((T.opt (aopP P ((d, .tt) :: fr) m o.op) id).bind fun v => putFr E.nt o.dst v ((d, .tt) :: fr)).bind fun fr => aopsS P E all m rest fr
          | false => (putFr E.nt o.dst (.tup []) ((d, .tt) :: fr)).bind fun fr => aopsS P E all m rest fr)
        (match want with
          | true => (putFr E.nt o.dst (.tup []) ((d, .ff) :: fr)).bind fun fr => aopsS P E all m rest fr
          | false => ((T.opt (aopP P ((d, .ff) :: fr) m o.op) id).bind fun v => putFr E.nt o.dst v ((d, .ff) :: fr)).bind fun fr => aopsS P E all m rest fr)
    | .lost => .fail

theorem aopsS_sound {P : Program} {E : Env} {w0 : World} {X : Nat → Prop} {loc : Loc} {m : AM} {ops : Array Oper} {all : List Oper} (ha : ops.toList = all) {w : World} (hw : MR w0 X loc m w) {Q : List (Nat × AV) → Prop} {Qx : Act → Prop}
    (hx : ∀ fr' (a' : Act), Q fr' → FR E.nt loc m.length fr' a'.tmps → a'.defers = [] → Qx a') :
    ∀ (l : List Oper) (fr : List (Nat × AV)) (a : Act), FR E.nt loc m.length fr a.tmps → a.defers = [] → (aopsS P E all m l fr).holds Q → wpStill P ops w Qx l a
  | [], fr, a, h, hd, hq => hx fr a hq h hd
  | o :: rest, fr, a, h, hd, hq => by
    have hrun : ∀ fr, FR E.nt loc m.length fr a.tmps → Region.wanted o (yielded ops a.tmps) = true → (((T.opt (aopP P fr m o.op) id).bind fun v => putFr E.nt o.dst v fr).bind fun fr => aopsS P E all m rest fr).holds Q →
        wpStill P ops w Qx (o :: rest) a := by
      intro fr h hwt hq
      rw [T.holds_bind, T.holds_bind] at hq
      obtain ⟨t, ht, hq⟩ := T.holds_opt hq
      obtain ⟨v, hv, hb, hrun⟩ := aopP_sound h hw ht hq
      obtain ⟨fr', hQ, hF⟩ := putFr_sound h hb hv
      unfold wpStill
      rw [if_pos hwt]
      unfold Oper.still
      rw [hrun, Oper.stillUpon_value]
      exact aopsS_sound ha hw hx rest fr' _ hF (by rw [put_defers]; exact hd) hQ
    have hskip : ∀ fr, FR E.nt loc m.length fr a.tmps → Region.wanted o (yielded ops a.tmps) = false → ((putFr E.nt o.dst (.tup []) fr).bind fun fr => aopsS P E all m rest fr).holds Q →
        wpStill P ops w Qx (o :: rest) a := by
      intro fr h hwt hq
      rw [T.holds_bind] at hq
      obtain ⟨fr', hQ, hF⟩ := putFr_sound h (v := .tup []) (by simp [below, belowL]) hq
      rw [undef_conc] at hF
      unfold wpStill
      rw [if_neg (by rw [hwt]; simp)]
      exact aopsS_sound ha hw hx rest fr' _ hF (by rw [put_defers]; exact hd) hQ
    unfold aopsS at hq
    split at hq
    · rename_i hwt; exact hrun fr h (wantOf_run h ha hwt) hq
    · rename_i hwt; exact hskip fr h (wantOf_skip h ha hwt) hq
    · rename_i b d want hwt
      obtain ⟨hl, hwd⟩ := wantOf_ask h ha hwt
      cases b with
      | true =>
        have hq := hq.1 rfl
        have ht := h.retell hl (u := .tt) (by simp [conc]) (by simp [below])
        cases want with
        | true => exact hrun _ ht (by simpa using hwd) hq
        | false => exact hskip _ ht (by simpa using hwd) hq
      | false =>
        have hq := hq.2 rfl
        have ht := h.retell hl (u := .ff) (by simp [conc]) (by simp [below])
        cases want with
        | true => exact hskip _ ht (by simpa using hwd) hq
        | false => exact hrun _ ht (by simpa using hwd) hq
    · exact hq.elim

def effOp (E : Env) : Op → Bool
  | .alloc .. => true
  | .box .. => true
  | .store .. => true
  | .buildSlice .. => true
  | .makeSlice .. => true
  | .call { callee := .builtin .append, .. } => true
  | .call { callee := .value (.func g), .. } => match find E.fns g with
    | some (.eff _) => true
    | some (.ext _) => true
    | _ => false
  | _ => false

/-- What changes something, or calls. -/
def effOp2 (E : Env) (o : Op) : Bool := effOp E o || (match o with | .call { callee := .value _, .. } => true | _ => false)

/-- Where what changes something begins, and how many more of it there are. -/
def midOf (E : Env) (ops : Array Oper) : Option (Nat × Nat) :=
  let n := ops.toList.findIdx fun o => effOp2 E o.op
  if n < ops.size then
    let k := ops.size - n - 1 - ops.toList.reverse.findIdx fun o => effOp2 E o.op
    (if midB ops n k = true then some (n, k) else (((List.range n).map fun i => (i, n + k - i)).find? fun x => midB ops x.1 x.2))
  else none

theorem midOf_spec {E : Env} {ops : Array Oper} {x : Nat × Nat} (h : midOf E ops = some x) : midB ops x.1 x.2 = true := by
  unfold midOf at h
  dsimp only at h
  split at h
  · split at h
    · rename_i h1
      simp only [Option.some.injEq] at h
      subst h; exact h1
    · simpa using List.find?_some h
  · cases h

/-- Each of them. -/
def eachT {α : Type} : List Nat → (Nat → T α) → T α
  | [], _ => .fail
  | [i], k => k i
  | i :: j :: l, k => .all fun c => .ite (decide (c = 0)) (k i) (eachT (j :: l) k)

theorem eachT_holds {α : Type} {Q : α → Prop} {k : Nat → T α} : ∀ {l : List Nat}, (eachT l k).holds Q → ∀ i ∈ l, (k i).holds Q
  | [], h, _, _ => h.elim
  | [i], h, j, hj => by
    simp only [List.mem_cons, List.not_mem_nil, or_false] at hj
    subst hj; exact h
  | i :: j :: l, h, x, hx => by
    rcases List.mem_cons.1 hx with rfl | hx
    · exact (h 0).1 rfl
    · exact eachT_holds ((h 1).2 rfl) x hx

/-! ### Regions whose reads float about what changes something -/

/-- What changes something; a call that is made in one case alone. -/
def effO (E : Env) (o : Oper) : Bool := effOp E o.op || (o.guard.isSome && effOp2 E o.op)

def waitsOn (o : Oper) (j : Nat) : Bool := o.after.any fun e => Region.binds .any e && e.on == j
def depsIn (o : Oper) (D : List Nat) : Bool := o.after.all fun e => !Region.binds .any e || D.contains e.on
/-- What others tell that an operation does not wait for. -/
def bads (all : List Oper) (o : Oper) : List Nat := all.zipIdx.filterMap fun p => if waitsOn o p.2 = true then none else p.1.dst
def dropFr (bs : List Nat) : List (Nat × AV) → List (Nat × AV)
  | [] => []
  | p :: fr => if bs.contains p.1 = true then dropFr bs fr else p :: dropFr bs fr

theorem slotAt_drop {bs : List Nat} : ∀ {fr : List (Nat × AV)} {t : Nat} {v : AV}, slotAt (dropFr bs fr) t = some v → slotAt fr t = some v ∧ t ∉ bs
  | [], _, _, h => by simp [dropFr, slotAt] at h
  | p :: fr, t, v, h => by
    obtain ⟨d, u⟩ := p
    unfold dropFr at h
    split at h
    · rename_i hb
      obtain ⟨h1, h2⟩ := slotAt_drop h
      refine ⟨?_, h2⟩
      unfold slotAt
      rw [if_neg (fun e => by subst e; exact h2 (by simpa using hb))]
      exact h1
    · rename_i hb
      unfold slotAt at h ⊢
      by_cases e : d = t
      · subst e
        rw [if_pos rfl] at h ⊢
        exact ⟨h, by simpa using hb⟩
      · rw [if_neg e] at h ⊢
        exact slotAt_drop h

theorem dropFr_bad {bs : List Nat} {d : Nat} {v : AV} {fr : List (Nat × AV)} (h : bs.contains d = true) : dropFr bs ((d, v) :: fr) = dropFr bs fr := by
  simp only [dropFr, h, if_true]

def lis (listed : Array Bool) (j : Nat) : Prop := listed.getD j false = true

structure FRL (nt : Nat) (loc : Loc) (n : Nat) (ops : Array Oper) (listed : Array Bool) (fr : List (Nat × AV)) (tmps : Array Value) : Prop where
  size : tmps.size = nt
  val : ∀ t v, slotAt fr t = some v → (∀ (j : Nat) (o : Oper), ops[j]? = some o → o.dst = some t → lis listed j) → t < nt ∧ tmps.getD t undef = conc loc v ∧ below n v

theorem bads_spec {ops : Array Oper} {all : List Oper} (ha : ops.toList = all) {o : Oper} {t : Nat} (h : t ∉ bads all o) {j : Nat} {oj : Oper} (hj : ops[j]? = some oj) (hd : oj.dst = some t) : waitsOn o j = true := by
  subst ha
  cases hw : waitsOn o j with
  | true => rfl
  | false =>
    refine (h ?_).elim
    unfold bads
    rw [List.mem_filterMap]
    refine ⟨(oj, j), ?_, ?_⟩
    · rw [List.mem_zipIdx_iff_getElem?]
      simpa using hj
    · simp [hw, hd]

theorem waitsOn_spec {o : Oper} {j : Nat} (h : waitsOn o j = true) : ∃ e ∈ o.after, Region.binds .any e = true ∧ e.on = j := by
  unfold waitsOn at h
  obtain ⟨e, he, hb⟩ := Array.any_eq_true'.1 h
  simp only [Bool.and_eq_true, beq_iff_eq] at hb
  exact ⟨e, he, hb.1, hb.2⟩

theorem FRL.drop {nt : Nat} {loc : Loc} {n : Nat} {ops : Array Oper} {all : List Oper} (ha : ops.toList = all) {listed : Array Bool} {fr : List (Nat × AV)} {tmps : Array Value} (h : FRL nt loc n ops listed fr tmps) {o : Oper}
    (hr : ∀ e ∈ o.after, Region.binds .any e = true → listed.getD e.on false = true) : FR nt loc n (dropFr (bads all o) fr) tmps := by
  refine ⟨h.size, fun t v hv => ?_⟩
  obtain ⟨h1, h2⟩ := slotAt_drop hv
  refine h.val t v h1 fun j oj hj hd => ?_
  obtain ⟨e, he, hb, rfl⟩ := waitsOn_spec (bads_spec ha h2 hj hd)
  exact hr e he hb

/-- An operation that only reads, or calls what leaves the known memory as it is. -/
def aread1 (P : Program) (E : Env) (o : Oper) (fr : List (Nat × AV)) (m : AM) : T AV :=
  match aopP P fr m o.op with
  | some t => t
  | none => match acallee fr o.op with
    | some (g, args) => match find E.fns g with
      | some (.pure s) => s args m
      | _ => .fail
    | none => .fail

def areadV (P : Program) (E : Env) (all : List Oper) (o : Oper) (fr : List (Nat × AV)) (m : AM) : T AV :=
  match wantOf all fr o with
  | .run => aread1 P E o fr m
  | .skip => .ret (.tup [])
  | .ask b _ want => match want with
    | true => .ite b (aread1 P E o fr m) (.ret (.tup []))
    | false => .ite b (.ret (.tup [])) (aread1 P E o fr m)
  | .lost => .fail

def memFree : Op → Bool
  | .move .. => true
  | .assign .. => true
  | .pick .. => true
  | .fieldAddr .. => true
  | .field .. => true
  | .indexAddr .. => true
  | .extract .. => true
  | .binOp .. => true
  | .unOp .. => true
  | .convert .. => true
  | .build .. => true
  | _ => false

theorem aread1_free {P : Program} {E : Env} {o : Oper} {fr : List (Nat × AV)} (h : memFree o.op = true) (m m' : AM) : aread1 P E o fr m = aread1 P E o fr m' := by
  unfold aread1
  generalize o.op = op at h
  cases op <;> first | rfl | (simp [memFree] at h)

theorem areadV_free {P : Program} {E : Env} {all : List Oper} {o : Oper} {fr : List (Nat × AV)} (h : memFree o.op = true) (m m' : AM) : areadV P E all o fr m = areadV P E all o fr m' := by
  unfold areadV
  rw [aread1_free h m m']

/-- What comes of an operation that leaves the known memory as it is. -/
def Back (w0 : World) (X : Nat → Prop) (loc : Loc) (m : AM) (dst : Option Tmp) (v : AV) (a : Act) (K : Act → World → Prop) : Prop :=
  ∀ w' loc', MR w0 X loc' m w' → (∀ i, i < m.length → loc' i = loc i) → K (a.put dst (conc loc' v)) w'

theorem areadV_sound {P : Program} {E : Env} (hE : EnvOK P E.fns) {nt : Nat} {w0 : World} {X : Nat → Prop} {loc : Loc} {m : AM} {w : World} {fr : List (Nat × AV)} {a : Act} {ops : Array Oper} {all : List Oper} (ha : ops.toList = all) (hF : FR nt loc m.length fr a.tmps) (hM : MR w0 X loc m w)
    {i : Nat} {o : Oper} (ho : ops[i]? = some o) {v : AV} (hq : (areadV P E all o fr m).holds fun u => u = v) {Qx : Exit → Act → World → Prop} : below m.length v ∧ ∀ K : Act → World → Prop, Back w0 X loc m o.dst v a K → wpOp P ops Qx i K a w := by
  have hin : ∀ K : Act → World → Prop, Region.wanted o (yielded ops a.tmps) = true → o.wp P a w K Qx → wpOp P ops Qx i K a w := by
    intro K hw h
    unfold wpOp
    rw [ho]
    dsimp only
    rw [if_pos hw]
    exact .inl h
  have hbel : ∀ {g : FuncId} {args : List AV} {s : List AV → AM → T AV}, acallee fr o.op = some (g, args) → PureOK P g s → (s args m).holds (fun u => u = v) → below m.length v := by
    intro g args s hc hs hq
    obtain ⟨hb, _⟩ := acallee_sound hF hc hs.1 w
    have : ((s args m).bind fun v => T.ret (v, m)).holds fun r => r = (v, m) := by
      rw [T.holds_bind]
      exact T.holds_mono (fun u hu => by rw [hu]; rfl) _ hq
    obtain ⟨e, w', _, hr, _⟩ := hs.2 args m _ this hb w0 X loc w hM []
    obtain ⟨v', m', loc', hQ, _, hbv, _⟩ := hr
    simp only [Prod.mk.injEq] at hQ
    obtain ⟨rfl, rfl⟩ := hQ
    exact hbv
  have hrun : Region.wanted o (yielded ops a.tmps) = true → (aread1 P E o fr m).holds (fun u => u = v) → below m.length v ∧ ∀ K : Act → World → Prop, Back w0 X loc m o.dst v a K → wpOp P ops Qx i K a w := by
    intro hw hq
    unfold aread1 at hq
    split at hq
    · rename_i t ht
      obtain ⟨u, rfl, hb, hr⟩ := aopP_sound hF hM ht hq
      refine ⟨hb, fun K hK => hin K hw ?_⟩
      unfold Oper.wp
      rw [hr, Oper.upon_value]
      exact hK w loc hM (fun _ _ => rfl)
    · split at hq
      · rename_i g args hc
        split at hq
        · rename_i s hs
          have hso := hE g _ hs
          refine ⟨hbel hc hso hq, fun K hK => hin K hw ?_⟩
          obtain ⟨hb, hrun⟩ := acallee_sound hF hc hso.1 w
          have hq' : ((s args m).bind fun v => T.ret (v, m)).holds fun r => r = (v, m) := by
            rw [T.holds_bind]
            exact T.holds_mono (fun u hu => by rw [hu]; rfl) _ hq
          unfold Oper.wp
          rw [hrun, Oper.upon_enter]
          refine (hso.2 args m _ hq' hb w0 X loc w hM).mono ?_
          rintro e w' ⟨v', m', loc', hQ, rfl, hbv, hle, hm, hl⟩
          simp only [Prod.mk.injEq] at hQ
          obtain ⟨rfl, rfl⟩ := hQ
          exact hK w' loc' hm hl
        · exact hq.elim
      · exact hq.elim
  have hskip : Region.wanted o (yielded ops a.tmps) = false → AV.tup [] = v → below m.length v ∧ ∀ K : Act → World → Prop, Back w0 X loc m o.dst v a K → wpOp P ops Qx i K a w := by
    rintro hw rfl
    refine ⟨by simp [below, belowL], fun K hK => ?_⟩
    unfold wpOp
    rw [ho]
    dsimp only
    rw [if_neg (by rw [hw]; simp), ← undef_conc loc]
    exact hK w loc hM (fun _ _ => rfl)
  unfold areadV at hq
  split at hq
  · rename_i hw; exact hrun (wantOf_run hF ha hw) hq
  · rename_i hw; exact hskip (wantOf_skip hF ha hw) hq
  · rename_i b d want hw
    obtain ⟨_, hwd⟩ := wantOf_ask hF ha hw
    cases b <;> cases want
    · exact hrun (by simpa using hwd) (hq.2 rfl)
    · exact hskip (by simpa using hwd) (hq.2 rfl)
    · exact hskip (by simpa using hwd) (hq.1 rfl)
    · exact hrun (by simpa using hwd) (hq.1 rfl)
  · exact hq.elim

def astepV (P : Program) (E : Env) (o : Oper) (fr : List (Nat × AV)) (m : AM) : T (AV × AM) :=
  match aopP P fr m o.op with
  | some t => t.bind fun v => .ret (v, m)
  | none =>
    match acallee fr o.op with
    | some (g, args) =>
      match find E.fns g with
      | some (.pure s) => (s args m).bind fun v => .ret (v, m)
      | some (.eff s) => s args m
      | some (.ext s) => (s args).bind fun v => .ret (v, m)
      | none => .fail
    | none => aopE E.vec P fr m o.op

/-- What comes of an operation that changes something. -/
def StepTo (w0 : World) (X : Nat → Prop) (loc : Loc) (m : AM) (Q : AV × AM → Prop) (dst : Option Tmp) (a : Act) (K : Act → World → Prop) : Prop :=
  ∀ v m' w' loc', Q (v, m') → below m'.length v → m.length ≤ m'.length → MR w0 X loc' m' w' → (∀ i, i < m.length → loc' i = loc i) → K (a.put dst (conc loc' v)) w'

theorem astepV_sound {P : Program} {E : Env} (hE : EnvOK P E.fns) {nt : Nat} {w0 : World} {X : Nat → Prop} {loc : Loc} {m : AM} {w : World} {fr : List (Nat × AV)} {a : Act} (hF : FR nt loc m.length fr a.tmps) (hM : MR w0 X loc m w) {o : Oper} {Q : AV × AM → Prop}
    (hq : (astepV P E o fr m).holds Q) {K : Act → World → Prop} {Qx : Exit → Act → World → Prop} (hn : StepTo w0 X loc m Q o.dst a K) : o.wp P a w K Qx := by
  have heff : ∀ {g : FuncId} {args : List AV} {s : List AV → AM → T (AV × AM)}, acallee fr o.op = some (g, args) → EffOK P g s → (s args m).holds Q → o.wp P a w K Qx := by
    intro g args s hc hs hq
    obtain ⟨hce, hs⟩ := hs
    obtain ⟨hb, hrun⟩ := acallee_sound hF hc hce w
    unfold Oper.wp
    rw [hrun, Oper.upon_enter]
    refine (hs args m _ hq hb w0 X loc w hM).mono ?_
    rintro e w' ⟨v, m', loc', hQ, rfl, hbv, hle, hm, hl⟩
    exact hn v m' w' loc' hQ hbv hle hm hl
  unfold astepV at hq
  split at hq
  · rename_i t ht
    rw [T.holds_bind] at hq
    obtain ⟨v, hQ, hb, hrun⟩ := aopP_sound hF hM ht hq
    unfold Oper.wp
    rw [hrun, Oper.upon_value]
    exact hn v m w loc hQ hb (Nat.le_refl _) hM (fun _ _ => rfl)
  · split at hq
    · rename_i g args hc
      split at hq
      · rename_i s hs
        refine heff hc (hE g _ hs) ?_
        rw [T.holds_bind] at hq ⊢
        exact hq
      · rename_i s hs
        exact heff hc (hE g _ hs) hq
      · rename_i s hs
        rw [T.holds_bind] at hq
        obtain ⟨v, hQ, hb, hr⟩ := (hE g _ hs : ExtOK P g s) args _ hq loc w
        have hrun := acallee_run hF hc w hr
        unfold Oper.wp
        rw [hrun, Oper.upon_value]
        exact hn v m w loc hQ (hb _) (Nat.le_refl _) hM (fun _ _ => rfl)
      · exact hq.elim
    · obtain ⟨v, m', loc', w', hQ, hbv, hle, hm, hl, hrun⟩ := aopE_sound hF hM hq
      unfold Oper.wp
      rcases hrun with hrun | ⟨hrun, rfl⟩
      · rw [hrun, Oper.upon_value]; exact hn v m' w' loc' hQ hbv hle hm hl
      · rw [hrun, Oper.upon_skip, ← undef_conc loc']; exact hn _ m' w' loc' hQ hbv hle hm hl

def aeffV (P : Program) (E : Env) (all : List Oper) (o : Oper) (fr : List (Nat × AV)) (m : AM) : T (AV × AM) :=
  match wantOf all fr o with
  | .run => astepV P E o fr m
  | .skip => .ret (.tup [], m)
  | .ask b _ want => match want with
    | true => .ite b (astepV P E o fr m) (.ret (.tup [], m))
    | false => .ite b (.ret (.tup [], m)) (astepV P E o fr m)
  | .lost => .fail

theorem aeffV_sound {P : Program} {E : Env} (hE : EnvOK P E.fns) {nt : Nat} {w0 : World} {X : Nat → Prop} {loc : Loc} {m : AM} {w : World} {fr : List (Nat × AV)} {a : Act} {ops : Array Oper} {all : List Oper} (ha : ops.toList = all) (hF : FR nt loc m.length fr a.tmps) (hM : MR w0 X loc m w)
    {i : Nat} {o : Oper} (ho : ops[i]? = some o) {Q : AV × AM → Prop} (hq : (aeffV P E all o fr m).holds Q) {K : Act → World → Prop} {Qx : Exit → Act → World → Prop} (hn : StepTo w0 X loc m Q o.dst a K) : wpOp P ops Qx i K a w := by
  have hrun : Region.wanted o (yielded ops a.tmps) = true → (astepV P E o fr m).holds Q → wpOp P ops Qx i K a w := by
    intro hw hq
    unfold wpOp
    rw [ho]
    dsimp only
    rw [if_pos hw]
    exact .inl (astepV_sound hE hF hM hq hn)
  have hskip : Region.wanted o (yielded ops a.tmps) = false → Q (.tup [], m) → wpOp P ops Qx i K a w := by
    intro hw hq
    unfold wpOp
    rw [ho]
    dsimp only
    rw [if_neg (by rw [hw]; simp), ← undef_conc loc]
    exact hn _ m w loc hq (by simp [below, belowL]) (Nat.le_refl _) hM (fun _ _ => rfl)
  unfold aeffV at hq
  split at hq
  · rename_i hw; exact hrun (wantOf_run hF ha hw) hq
  · rename_i hw; exact hskip (wantOf_skip hF ha hw) hq
  · rename_i b d want hw
    obtain ⟨_, hwd⟩ := wantOf_ask hF ha hw
    cases b <;> cases want
    · exact hrun (by simpa using hwd) (hq.2 rfl)
    · exact hskip (by simpa using hwd) (hq.2 rfl)
    · exact hskip (by simpa using hwd) (hq.1 rfl)
    · exact hrun (by simpa using hwd) (hq.1 rfl)
  · exact hq.elim

/-- Whether what is told at d is of no concern to those that were told already. -/
def freshB (E : Env) (all : List Oper) (ops : Array Oper) (D : List Nat) (d : Nat) : Bool :=
  D.all fun j => match ops[j]? with
    | some oj => effO E oj || ((bads all oj).contains d && oj.dst != some d)
    | none => true

/-- All that only reads, as far as it can be told. -/
def clo (P : Program) (E : Env) (all : List Oper) (ops : Array Oper) (m : AM) : List Nat → List Nat → List (Nat × AV) → T (List Nat × List (Nat × AV))
  | [], D, fr => .ret (D, fr)
  | i :: l, D, fr =>
    match ops[i]? with
    | none => clo P E all ops m l D fr
    | some o =>
      if (effO E o || D.contains i || !depsIn o D) = true then clo P E all ops m l D fr
      else if (areadV P E all o (dropFr (bads all o) fr) m).quiet = true then
        (areadV P E all o (dropFr (bads all o) fr) m).bind fun v =>
          match o.dst with
          | some d => if (decide (d < E.nt) && (bads all o).contains d && freshB E all ops D d) = true then clo P E all ops m l (i :: D) ((d, v) :: fr) else .fail
          | none => clo P E all ops m l (i :: D) fr
      else .fail

/-- Told or not: a truth is what it is. -/
def AV.bn : AV → AV
  | .tt => .bool true
  | .ff => .bool false
  | v => v

theorem conc_bn (loc : Loc) (v : AV) : conc loc v.bn = conc loc v := by
  cases v <;> simp [AV.bn, conc]

theorem below_bn (n : Nat) (v : AV) : below n v.bn ↔ below n v := by
  cases v <;> simp [AV.bn, below]

/-- What is read of one slot, ahead of all that write it. -/
def OldRd (P : Program) (E : Env) (all : List Oper) (ops : Array Oper) (fr0 : List (Nat × AV)) (i : Nat) (o : Oper) (v : AV) : Prop :=
  ∃ t x, slotAt fr0 t = some x ∧ (∀ (j : Nat) (oj : Oper), ops[j]? = some oj → oj.dst = some t → waitsOn oj i = true) ∧ ∀ m, (areadV P E all o [(t, x)] m).holds fun u => u = v

def Reads (P : Program) (E : Env) (all : List Oper) (ops : Array Oper) (fr0 : List (Nat × AV)) (listed : Array Bool) (D : List Nat) (fr : List (Nat × AV)) (m : AM) : Prop :=
  ∀ i ∈ D, ¬ lis listed i → ∀ o, ops[i]? = some o → effO E o = false ∧ ∃ v, ((areadV P E all o (dropFr (bads all o) fr) m).holds (fun u => u = v) ∨ OldRd P E all ops fr0 i o v) ∧ ∀ d, o.dst = some d → (∃ x, slotAt fr d = some x ∧ x.bn = v.bn) ∧ d < E.nt

def Topo (ops : Array Oper) : List Nat → Prop
  | [] => True
  | i :: D => (∃ o, ops[i]? = some o ∧ depsIn o D = true) ∧ Topo ops D

theorem slotAt_cons_ne {fr : List (Nat × AV)} {d t : Nat} {v : AV} (h : d ≠ t) : slotAt ((d, v) :: fr) t = slotAt fr t := by
  rw [slotAt, if_neg h]

theorem clo_sound {P : Program} {E : Env} {all : List Oper} {ops : Array Oper} {m : AM} {fr0 : List (Nat × AV)} {listed : Array Bool} {loc : Loc} {tmps : Array Value} {K : List Nat × List (Nat × AV) → Prop} :
    ∀ (l D : List Nat) (fr : List (Nat × AV)), Topo ops D → Reads P E all ops fr0 listed D fr m → FRL E.nt loc m.length ops listed fr tmps → (∀ j, lis listed j → j ∈ D) → (clo P E all ops m l D fr).holds K →
      ∃ D' fr', K (D', fr') ∧ Topo ops D' ∧ Reads P E all ops fr0 listed D' fr' m ∧ FRL E.nt loc m.length ops listed fr' tmps ∧ (∀ j ∈ D, j ∈ D') ∧ ∀ j ∈ D', j ∈ D ∨ ∃ o, ops[j]? = some o ∧ effO E o = false
  | [], D, fr, ht, hr, hf, _, hq => ⟨D, fr, hq, ht, hr, hf, fun _ h => h, fun _ h => .inl h⟩
  | i :: l, D, fr, ht, hr, hf, hl, hq => by
    unfold clo at hq
    split at hq
    · exact clo_sound l D fr ht hr hf hl hq
    · rename_i o ho
      split at hq
      · exact clo_sound l D fr ht hr hf hl hq
      · rename_i hc
        simp only [Bool.or_eq_true, not_or, Bool.not_eq_true, Bool.not_eq_eq_eq_not, Bool.not_true] at hc
        obtain ⟨⟨c1, c2⟩, c3⟩ := hc
        have c3 : depsIn o D = true := by simpa using c3
        have hnot : i ∉ D := by simpa using c2
        split at hq
        · rename_i hquiet
          rw [T.holds_bind] at hq
          obtain ⟨v, hv, hev⟩ := T.quiet_one _ hquiet hq
          have fin : ∀ fr2, (∀ j ∈ D, ¬ lis listed j → ∀ oj, ops[j]? = some oj → effO E oj = false → dropFr (bads all oj) fr2 = dropFr (bads all oj) fr ∧ ∀ d, oj.dst = some d → slotAt fr2 d = slotAt fr d) → dropFr (bads all o) fr2 = dropFr (bads all o) fr →
              (∀ d, o.dst = some d → slotAt fr2 d = some v ∧ d < E.nt) → FRL E.nt loc m.length ops listed fr2 tmps → (clo P E all ops m l (i :: D) fr2).holds K →
              ∃ D' fr', K (D', fr') ∧ Topo ops D' ∧ Reads P E all ops fr0 listed D' fr' m ∧ FRL E.nt loc m.length ops listed fr' tmps ∧ (∀ j ∈ D, j ∈ D') ∧ ∀ j ∈ D', j ∈ D ∨ ∃ o, ops[j]? = some o ∧ effO E o = false := by
            intro fr2 h1 h2 h3 h4 h5
            obtain ⟨D', fr', g1, g2, g3, g4, g5, g6⟩ := clo_sound l (i :: D) fr2 ⟨⟨o, ho, c3⟩, ht⟩ (fun j hj hjl oj hoj => by
              rcases List.mem_cons.1 hj with rfl | hj
              · rw [ho] at hoj
                obtain rfl := Option.some.inj hoj
                exact ⟨c1, v, .inl (by rw [h2]; exact hev), fun d hd => ⟨⟨v, (h3 d hd).1, rfl⟩, (h3 d hd).2⟩⟩
              · obtain ⟨e1, u, e2, e3⟩ := hr j hj hjl oj hoj
                obtain ⟨f1, f2⟩ := h1 j hj hjl oj hoj e1
                exact ⟨e1, u, by rw [f1]; exact e2, fun d hd => by rw [f2 d hd]; exact e3 d hd⟩) h4 (fun j hj => List.mem_cons_of_mem _ (hl j hj)) h5
            exact ⟨D', fr', g1, g2, g3, g4, fun j hj => g5 j (List.mem_cons_of_mem _ hj), fun j hj => by
              rcases g6 j hj with h | h
              · rcases List.mem_cons.1 h with rfl | h
                · exact .inr ⟨o, ho, c1⟩
                · exact .inl h
              · exact .inr h⟩
          split at hv
          · rename_i d hd
            split at hv
            · rename_i hck
              simp only [Bool.and_eq_true, decide_eq_true_eq] at hck
              obtain ⟨⟨k1, k2⟩, k3⟩ := hck
              refine fin ((d, v) :: fr) (fun j hj hjl oj hoj heff => ?_) (dropFr_bad k2) (fun d' hd' => ?_) ?_ hv
              · have := List.all_eq_true.1 k3 j hj
                rw [hoj] at this
                simp only [heff, Bool.false_or, Bool.and_eq_true, bne_iff_ne, ne_eq] at this
                exact ⟨dropFr_bad this.1, fun d' hd' => slotAt_cons_ne (fun e => this.2 (by rw [hd', e]))⟩
              · rw [hd] at hd'
                obtain rfl := Option.some.inj hd'
                exact ⟨by simp [slotAt], k1⟩
              · refine ⟨hf.size, fun t u ht' hall => ?_⟩
                by_cases e : d = t
                · subst e
                  exact absurd (hl i (hall i o ho hd)) hnot
                · rw [slotAt_cons_ne e] at ht'
                  exact hf.val t u ht' hall
            · exact hv.elim
          · rename_i hd
            exact fin fr (fun _ _ _ _ _ _ => ⟨rfl, fun _ _ => rfl⟩) rfl (fun d' hd' => by rw [hd] at hd'; cases hd') hf hv
        · exact hq.elim

/-- Those that may come behind it read what they read ahead of it. -/
def recheck (P : Program) (E : Env) (all : List Oper) (ops : Array Oper) (m : AM) (fr : List (Nat × AV)) : List Nat → T Unit
  | [] => .ret ()
  | i :: l =>
    match ops[i]? with
    | none => .fail
    | some o =>
      if (areadV P E all o (dropFr (bads all o) fr) m).quiet = true then
        (areadV P E all o (dropFr (bads all o) fr) m).bind fun v =>
          match o.dst with
          | some d => T.opt (slotAt fr d) fun u => .need (v.bn = u.bn) (recheck P E all ops m fr l)
          | none => recheck P E all ops m fr l
      else .fail

theorem recheck_sound {P : Program} {E : Env} {all : List Oper} {ops : Array Oper} {m : AM} {fr : List (Nat × AV)} {K : Unit → Prop} :
    ∀ (l : List Nat), (recheck P E all ops m fr l).holds K → K () ∧ ∀ i ∈ l, ∀ o, ops[i]? = some o → ∃ v, (areadV P E all o (dropFr (bads all o) fr) m).holds (fun u => u = v) ∧ ∀ d, o.dst = some d → ∃ x, slotAt fr d = some x ∧ x.bn = v.bn
  | [], h => ⟨h, fun _ h => by cases h⟩
  | i :: l, h => by
    unfold recheck at h
    split at h
    · exact h.elim
    · rename_i o ho
      split at h
      · rename_i hquiet
        rw [T.holds_bind] at h
        obtain ⟨v, hv, hev⟩ := T.quiet_one _ hquiet h
        split at hv
        · rename_i d hd
          obtain ⟨u, hu, hvu, hrest⟩ := T.holds_opt hv
          obtain ⟨k1, k2⟩ := recheck_sound l hrest
          refine ⟨k1, fun j hj oj hoj => ?_⟩
          rcases List.mem_cons.1 hj with rfl | hj
          · rw [ho] at hoj
            obtain rfl := Option.some.inj hoj
            exact ⟨v, hev, fun d' hd' => by rw [hd] at hd'; obtain rfl := Option.some.inj hd'; exact ⟨u, hu, hvu.symm⟩⟩
          · exact k2 j hj oj hoj
        · rename_i hd
          obtain ⟨k1, k2⟩ := recheck_sound l hv
          refine ⟨k1, fun j hj oj hoj => ?_⟩
          rcases List.mem_cons.1 hj with rfl | hj
          · rw [ho] at hoj
            obtain rfl := Option.some.inj hoj
            exact ⟨v, hev, fun d' hd' => by rw [hd] at hd'; cases hd'⟩
          · exact k2 j hj oj hoj
      · exact h.elim

def closedB (E : Env) (ops : Array Oper) (D : List Nat) : Bool :=
  (List.range ops.size).all fun i => D.contains i || (match ops[i]? with
    | some o => effO E o || !depsIn o D
    | none => true)

def floatB (E : Env) (ops : Array Oper) (o : Oper) (j : Nat) : Bool :=
  match ops[j]? with
  | some oj => !effO E oj && !waitsOn o j
  | none => false

/-- Those to which it is all one: they do not look at the memory, nor at what it tells. -/
def skipB (all : List Oper) (ops : Array Oper) (o : Oper) (j : Nat) : Bool :=
  match ops[j]? with
  | some oj => memFree oj.op && (match o.dst with
    | some d => (bads all oj).contains d && oj.dst != some d
    | none => true)
  | none => false

/-- One operation that changes something, and what can be told behind it. -/
def aeff1 (P : Program) (E : Env) (all : List Oper) (ops : Array Oper) (told : Bool) (e : Nat) (D : List Nat) (o : Oper) (k : List Nat → List (Nat × AV) → AM → T St) (fr : List (Nat × AV)) (m : AM) : T St :=
  (aeffV P E all o (dropFr (bads all o) fr) m).bind fun r =>
    (putFr E.nt o.dst r.1 fr).bind fun fr' =>
      (recheck P E all ops r.2 fr' (D.filter fun j => floatB E ops o j && (told || !skipB all ops o j))).bind fun _ =>
        (clo P E all ops r.2 (List.range ops.size) (e :: D) fr').bind fun x => k x.1 x.2 r.2

/-- Those of the others that may come next. -/
def nextB (E : Env) (ops : Array Oper) (D : List Nat) (i : Nat) : Bool :=
  match ops[i]? with
  | some o => effO E o && depsIn o D
  | none => false

def aepo (P : Program) (E : Env) (all : List Oper) (ops : Array Oper) : Nat → List Nat → List Nat → List (Nat × AV) → AM → T St
  | 0, effs, D, fr, m => match effs with
    | [] => if ((List.range ops.size).all fun i => D.contains i) = true then .ret ⟨fr, m⟩ else .fail
    | _ :: _ => .fail
  | n + 1, effs, D, fr, m => match effs with
    | [] => if ((List.range ops.size).all fun i => D.contains i) = true then .ret ⟨fr, m⟩ else .fail
    | x :: l =>
      if (closedB E ops D && (x :: l).all (fun i => !D.contains i)) = true then
        eachT ((x :: l).filter (nextB E ops D)) fun e =>
          match ops[e]? with
          | none => .fail
          | some o =>
            match wantOf all (dropFr (bads all o) fr) o with
            | .ask b d _ => .ite b (aeff1 P E all ops true e D o (aepo P E all ops n ((x :: l).filter (· != e))) ((d, .tt) :: fr) m) (aeff1 P E all ops true e D o (aepo P E all ops n ((x :: l).filter (· != e))) ((d, .ff) :: fr) m)
            | _ => aeff1 P E all ops false e D o (aepo P E all ops n ((x :: l).filter (· != e))) fr m
      else .fail

def writersB (ops : Array Oper) (t i : Nat) : Bool :=
  (List.range ops.size).all fun j => match ops[j]? with
    | some oj => oj.dst != some t || waitsOn oj i
    | none => true

/-- Moves out of slots that are written later in the same region: they read what stood there ahead of it. -/
def cloOld (P : Program) (E : Env) (all : List Oper) (ops : Array Oper) (fr0 : List (Nat × AV)) : List Nat → List Nat → List (Nat × AV) → List Nat × List (Nat × AV)
  | [], D, fr => (D, fr)
  | i :: l, D, fr =>
    match ops[i]? with
    | none => cloOld P E all ops fr0 l D fr
    | some o =>
      match o.op, o.dst with
      | .move (.tmp t), some d =>
        if ((bads all o).contains t && writersB ops t i && depsIn o [] && !effO E o && decide (d < E.nt) && (D.all fun j => match ops[j]? with | some oj => oj.dst != some d | none => true)) = true then
          match slotAt fr0 t with
          | some x => match areadV P E all o [(t, x)] [] with
            | .ret v => cloOld P E all ops fr0 l (i :: D) ((d, v) :: fr)
            | _ => cloOld P E all ops fr0 l D fr
          | none => cloOld P E all ops fr0 l D fr
        else cloOld P E all ops fr0 l D fr
      | _, _ => cloOld P E all ops fr0 l D fr

theorem depsIn_nil {o : Oper} (h : depsIn o [] = true) (D : List Nat) : depsIn o D = true := by
  unfold depsIn at h ⊢
  refine Array.all_eq_true_iff_forall_mem.2 fun e he => ?_
  have := Array.all_eq_true_iff_forall_mem.1 h e he
  cases hb : Region.binds .any e with
  | false => rfl
  | true => rw [hb] at this; simp at this

theorem writersB_spec {ops : Array Oper} {t i : Nat} (h : writersB ops t i = true) {j : Nat} {oj : Oper} (hj : ops[j]? = some oj) (hd : oj.dst = some t) : waitsOn oj i = true := by
  have := List.all_eq_true.1 h j (List.mem_range.2 (Array.getElem?_eq_some_iff.1 hj).1)
  rw [hj] at this
  simpa [hd] using this

theorem cloOld_sound {P : Program} {E : Env} {all : List Oper} {ops : Array Oper} {m : AM} {fr0 : List (Nat × AV)} {listed : Array Bool} {loc : Loc} {n : Nat} {tmps : Array Value} (hno : ∀ j, ¬ lis listed j) :
    ∀ (l D : List Nat) (fr : List (Nat × AV)), Topo ops D → (∀ i ∈ D, ∀ o, ops[i]? = some o → effO E o = false ∧ ∃ v, OldRd P E all ops fr0 i o v ∧ ∀ d, o.dst = some d → slotAt fr d = some v ∧ d < E.nt) → FRL E.nt loc n ops listed fr tmps →
      Topo ops (cloOld P E all ops fr0 l D fr).1 ∧ Reads P E all ops fr0 listed (cloOld P E all ops fr0 l D fr).1 (cloOld P E all ops fr0 l D fr).2 m ∧ FRL E.nt loc n ops listed (cloOld P E all ops fr0 l D fr).2 tmps
  | [], D, fr, ht, hr, hf => ⟨ht, fun i hi _ o ho => by
      obtain ⟨h1, v, h2, h3⟩ := hr i hi o ho
      exact ⟨h1, v, .inr h2, fun d hd => ⟨⟨v, (h3 d hd).1, rfl⟩, (h3 d hd).2⟩⟩, hf⟩
  | i :: l, D, fr, ht, hr, hf => by
    unfold cloOld
    split
    · exact cloOld_sound hno l D fr ht hr hf
    · rename_i o ho
      split
      · rename_i t d hop hd
        split
        · rename_i hc
          simp only [Bool.and_eq_true, decide_eq_true_eq, Bool.not_eq_true'] at hc
          obtain ⟨⟨⟨⟨⟨c1, c2⟩, c3⟩, c4⟩, c5⟩, c6⟩ := hc
          split
          · rename_i x hx
            split
            · rename_i v hv
              refine cloOld_sound hno l (i :: D) ((d, v) :: fr) ⟨⟨o, ho, depsIn_nil c3 D⟩, ht⟩ (fun j hj oj hoj => ?_) ⟨hf.size, fun t' u ht' hall => ?_⟩
              · rcases List.mem_cons.1 hj with rfl | hj
                · rw [ho] at hoj
                  obtain rfl := Option.some.inj hoj
                  refine ⟨c4, v, ⟨t, x, hx, fun k ok hk hdk => writersB_spec c2 hk hdk, fun m' => ?_⟩, fun d' hd' => ?_⟩
                  · rw [areadV_free (by rw [hop]; rfl) m' [], hv]; rfl
                  · rw [hd] at hd'
                    obtain rfl := Option.some.inj hd'
                    exact ⟨by simp [slotAt], c5⟩
                · obtain ⟨h1, u, h2, h3⟩ := hr j hj oj hoj
                  refine ⟨h1, u, h2, fun d' hd' => ?_⟩
                  have := List.all_eq_true.1 c6 j hj
                  rw [hoj] at this
                  have hne : d ≠ d' := fun e => by dsimp only at this; rw [hd', e] at this; simp at this
                  rw [slotAt_cons_ne hne]
                  exact h3 d' hd'
              · by_cases e : d = t'
                · subst e
                  exact absurd (hall i o ho hd) (hno i)
                · rw [slotAt_cons_ne e] at ht'
                  exact hf.val t' u ht' hall
            · exact cloOld_sound hno l D fr ht hr hf
          · exact cloOld_sound hno l D fr ht hr hf
        · exact cloOld_sound hno l D fr ht hr hf
      · exact cloOld_sound hno l D fr ht hr hf

def afree (P : Program) (E : Env) (ops : Array Oper) (st : St) : T St :=
  (clo P E ops.toList ops st.m (List.range ops.size) (cloOld P E ops.toList ops st.fr (List.range ops.size) [] st.fr).1 (cloOld P E ops.toList ops st.fr (List.range ops.size) [] st.fr).2).bind fun x =>
    aepo P E ops.toList ops ops.size ((List.range ops.size).filter fun i => match ops[i]? with | some o => effO E o | none => false) x.1 x.2 st.m

structure FInv (P : Program) (E : Env) (ops : Array Oper) (w0 : World) (X : Nat → Prop) (loc0 : Loc) (fr0 : List (Nat × AV)) (listed : Array Bool) (a : Act) (w : World) (U effs D : List Nat) (fr : List (Nat × AV)) (m : AM) (loc : Loc) : Prop where
  size : listed.size = ops.size
  sub : ∀ j, lis listed j → j ∈ D
  un : ∀ j, j < ops.size → ¬ lis listed j → j ∈ U
  topo : Topo ops D
  cov : ∀ j o, ops[j]? = some o → effO E o = true → j ∈ D ∨ j ∈ effs
  rds : Reads P E ops.toList ops fr0 listed D fr m
  frl : FRL E.nt loc m.length ops listed fr a.tmps
  mr : MR w0 X loc m w
  defers : a.defers = []
  nle : E.n0 ≤ m.length
  base : ∀ i, i < E.n0 → loc i = loc0 i
  cl : ∀ (j : Nat) (o : Oper), ops[j]? = some o → lis listed j → ∀ e ∈ o.after, Region.binds .any e = true → lis listed e.on
  old : ∀ t x, slotAt fr0 t = some x → (∀ (j : Nat) (o : Oper), ops[j]? = some o → o.dst = some t → ¬ lis listed j) → t < E.nt ∧ a.tmps.getD t undef = conc loc x ∧ below m.length x

theorem depsIn_spec {o : Oper} {D : List Nat} (h : depsIn o D = true) : ∀ e ∈ o.after, Region.binds .any e = true → e.on ∈ D := by
  intro e he hb
  have := Array.all_eq_true_iff_forall_mem.1 h e he
  simpa [hb] using this

theorem topo_ready {ops : Array Oper} {listed : Array Bool} (hs : listed.size = ops.size) : ∀ (D : List Nat), Topo ops D → (∃ i ∈ D, ¬ lis listed i) → Region.ready .any ops listed ≠ []
  | [], _, ⟨i, hi, _⟩ => by cases hi
  | i :: D, ht, hex => by
    by_cases h : ∃ j ∈ D, ¬ lis listed j
    · exact topo_ready hs D ht.2 h
    · obtain ⟨⟨o, ho, hd⟩, _⟩ := ht
      have hun : ¬ lis listed i := by
        obtain ⟨j, hj, hjl⟩ := hex
        rcases List.mem_cons.1 hj with rfl | hj
        · exact hjl
        · exact absurd ⟨j, hj, hjl⟩ h
      have hlt : i < listed.size := by rw [hs]; exact (Array.getElem?_eq_some_iff.1 ho).1
      have : i ∈ Region.ready .any ops listed := mem_ready.2 ⟨getD_in hlt (by simpa [lis] using hun), o, ho, fun e he hb => by
        have := depsIn_spec hd e he hb
        exact Classical.byContradiction fun hn => h ⟨_, this, hn⟩⟩
      intro hnil
      rw [hnil] at this
      cases this

theorem FRL.full {nt : Nat} {loc : Loc} {n : Nat} {ops : Array Oper} {listed : Array Bool} {fr : List (Nat × AV)} {tmps : Array Value} (h : FRL nt loc n ops listed fr tmps) (hall : ∀ j, j < ops.size → lis listed j) : FR nt loc n fr tmps :=
  ⟨h.size, fun t v hv => h.val t v hv fun j _ hj _ => hall j (Array.getElem?_eq_some_iff.1 hj).1⟩

theorem FRL.retell {nt : Nat} {loc : Loc} {n : Nat} {ops : Array Oper} {listed : Array Bool} {fr : List (Nat × AV)} {tmps : Array Value} (h : FRL nt loc n ops listed fr tmps) {d : Nat} {v u : AV} (hv : slotAt fr d = some v) (hc : conc loc u = conc loc v) (hb : below n u) : FRL nt loc n ops listed ((d, u) :: fr) tmps := by
  refine ⟨h.size, fun t x ht hall => ?_⟩
  by_cases e : d = t
  · subst e
    rw [slotAt, if_pos rfl] at ht
    obtain rfl := Option.some.inj ht
    obtain ⟨h1, h2, _⟩ := h.val d v hv hall
    exact ⟨h1, h2.trans hc.symm, hb⟩
  · rw [slotAt_cons_ne e] at ht
    exact h.val t x ht hall

/-- The next one that changes something. -/
def aone (P : Program) (E : Env) (all : List Oper) (ops : Array Oper) (k : Nat) (effs D : List Nat) (fr : List (Nat × AV)) (m : AM) (e : Nat) : T St :=
  match ops[e]? with
  | none => .fail
  | some o =>
    match wantOf all (dropFr (bads all o) fr) o with
    | .ask b d _ => .ite b (aeff1 P E all ops true e D o (aepo P E all ops k (effs.filter (· != e))) ((d, .tt) :: fr) m) (aeff1 P E all ops true e D o (aepo P E all ops k (effs.filter (· != e))) ((d, .ff) :: fr) m)
    | _ => aeff1 P E all ops false e D o (aepo P E all ops k (effs.filter (· != e))) fr m

theorem aepo_nil {P : Program} {E : Env} {all : List Oper} {ops : Array Oper} {k : Nat} {D : List Nat} {fr : List (Nat × AV)} {m : AM} {Q : St → Prop} (h : (aepo P E all ops k [] D fr m).holds Q) :
    (∀ j, j < ops.size → j ∈ D) ∧ Q ⟨fr, m⟩ := by
  cases k <;> (
    unfold aepo at h
    dsimp only at h
    split at h
    · rename_i hc
      exact ⟨fun j hj => by simpa using List.all_eq_true.1 hc j (List.mem_range.2 hj), h⟩
    · exact h.elim)

theorem aepo_cons {P : Program} {E : Env} {all : List Oper} {ops : Array Oper} {k x : Nat} {l D : List Nat} {fr : List (Nat × AV)} {m : AM} {Q : St → Prop} (h : (aepo P E all ops k (x :: l) D fr m).holds Q) :
    ∃ k', closedB E ops D = true ∧ (∀ i ∈ x :: l, i ∉ D) ∧ (eachT ((x :: l).filter (nextB E ops D)) (aone P E all ops k' (x :: l) D fr m)).holds Q := by
  cases k with
  | zero => unfold aepo at h; exact h.elim
  | succ k =>
    unfold aepo at h
    dsimp only at h
    split at h
    · rename_i hc
      simp only [Bool.and_eq_true] at hc
      exact ⟨k, hc.1, fun i hi => by simpa using List.all_eq_true.1 hc.2 i hi, h⟩
    · exact h.elim

theorem eachT_some {α : Type} {Q : α → Prop} {k : Nat → T α} {l : List Nat} (h : (eachT l k).holds Q) : ∃ i, i ∈ l := by
  cases l with
  | nil => exact h.elim
  | cons i l => exact ⟨i, List.mem_cons_self⟩

theorem afree_any {P : Program} {E : Env} (hE : EnvOK P E.fns) {ops : Array Oper} {w0 : World} {X : Nat → Prop} {loc0 : Loc} {fr0 : List (Nat × AV)} {Q : St → Prop} {Qx : Exit → Act → World → Prop}
    (hx : ∀ st' a' w' loc', Q st' → SR E.nt E.n0 w0 X loc0 loc' st' a' w' → Qx .normal a' w') :
    ∀ (n : Nat) (listed : Array Bool) (a : Act) (w : World) (U : List Nat) (k : Nat) (effs D : List Nat) (fr : List (Nat × AV)) (m : AM) (loc : Loc), U.length ≤ n → FInv P E ops w0 X loc0 fr0 listed a w U effs D fr m loc → (aepo P E ops.toList ops k effs D fr m).holds Q → wpAny P .any ops Qx n listed a w := by
  intro n
  induction n with
  | zero =>
    intro listed a w U k effs D fr m loc hU h hq
    have hU : U = [] := List.length_eq_zero_iff.1 (by omega)
    subst hU
    have hall : ∀ j, j < ops.size → lis listed j := fun j hj => Classical.byContradiction fun hn => by cases h.un j hj hn
    refine ⟨?_, ?_⟩
    · refine List.eq_nil_iff_forall_not_mem.2 fun i hi => ?_
      obtain ⟨h1, o, ho, _⟩ := mem_ready.1 hi
      have := hall i (Array.getElem?_eq_some_iff.1 ho).1
      rw [lis, getD_both h1] at this
      cases this
    · cases effs with
      | nil => exact hx _ a w loc (aepo_nil hq).2 ⟨h.frl.full hall, h.mr, h.defers, h.nle, h.base⟩
      | cons e es =>
        obtain ⟨k', c1, c2, c3⟩ := aepo_cons hq
        obtain ⟨i, hi⟩ := eachT_some c3
        obtain ⟨hi1, hi2⟩ := List.mem_filter.1 hi
        unfold nextB at hi2
        split at hi2
        · rename_i o ho
          exact absurd (h.sub i (hall i (Array.getElem?_eq_some_iff.1 ho).1)) (c2 i hi1)
        · cases hi2
  | succ n ih =>
    intro listed a w U k effs D fr m loc hU h hq
    have hstep : ∀ i, i ∈ Region.ready .any ops listed → listed.getD i false = false ∧ i < listed.size := fun i hi => by
      obtain ⟨h1, o, ho, _⟩ := mem_ready.1 hi
      exact ⟨getD_both h1, by rw [h.size]; exact (Array.getElem?_eq_some_iff.1 ho).1⟩
    have hset : ∀ i, i < listed.size → ∀ j, lis (listed.setIfInBounds i true) j ↔ j = i ∨ lis listed j := by
      intro i hi j
      by_cases hij : i = j
      · subst hij
        simp [lis, hi]
      · rw [lis, getD_set_ne false hij]
        exact ⟨fun hh => .inr hh, fun hh => hh.resolve_left (fun e => hij e.symm)⟩
    have hun : ∀ i, i < listed.size → listed.getD i false = false → ∀ j, j < ops.size → ¬ lis (listed.setIfInBounds i true) j → j ∈ U.erase i := by
      intro i hi _ j hj hn
      have hn := mt (hset i hi j).2 hn
      simp only [not_or] at hn
      exact (List.mem_erase_of_ne hn.1).2 (h.un j hj hn.2)
    have hlen : ∀ i, i < listed.size → listed.getD i false = false → (U.erase i).length ≤ n := by
      intro i hi hf
      have hm : i ∈ U := h.un i (by rw [← h.size]; exact hi) (by simp [lis, hf])
      rw [List.length_erase_of_mem hm]; omega
    have hin : ∀ (o : Oper), (∀ e ∈ o.after, Region.binds .any e = true → listed.getD e.on false = true) → depsIn o D = true := fun o hdep => Array.all_eq_true_iff_forall_mem.2 fun x hxm => by
      cases hb : Region.binds .any x with
      | false => rfl
      | true => simpa using h.sub _ (hdep x hxm hb)
    have hcl : ∀ i, i < listed.size → ∀ o, ops[i]? = some o → (∀ e ∈ o.after, Region.binds .any e = true → listed.getD e.on false = true) → ∀ (j : Nat) (oj : Oper), ops[j]? = some oj → lis (listed.setIfInBounds i true) j → ∀ e ∈ oj.after, Region.binds .any e = true → lis (listed.setIfInBounds i true) e.on := by
      intro i hi o ho hdep j oj hoj hj e he hb
      rcases (hset i hi j).1 hj with rfl | hj
      · rw [ho] at hoj
        obtain rfl := Option.some.inj hoj
        exact (hset _ hi e.on).2 (.inr (hdep e he hb))
      · exact (hset i hi e.on).2 (.inr (h.cl j oj hoj hj e he hb))
    have hold : ∀ i, i < listed.size → ∀ o, ops[i]? = some o → ∀ (loc' : Loc) (m' : AM) (v : Value), (∀ q, q < m.length → loc' q = loc q) → m.length ≤ m'.length → ∀ t x, slotAt fr0 t = some x → (∀ (j : Nat) (oj : Oper), ops[j]? = some oj → oj.dst = some t → ¬ lis (listed.setIfInBounds i true) j) → t < E.nt ∧ (a.put o.dst v).tmps.getD t undef = conc loc' x ∧ below m'.length x := by
      intro i hi o ho loc' m' v hloc hle t x ht hall
      obtain ⟨k1, k2, k3⟩ := h.old t x ht fun j oj hoj hdj hl => hall j oj hoj hdj ((hset i hi j).2 (.inr hl))
      refine ⟨k1, ?_, below_mono hle _ k3⟩
      rw [conc_congr hloc x k3, ← k2]
      cases hd : o.dst with
      | none => rfl
      | some d =>
        have hne : d ≠ t := fun e => hall i o ho (by rw [hd, e]) ((hset i hi i).2 (.inl rfl))
        simp [Act.put, Array.getD_eq_getD_getElem?, Array.getElem?_setIfInBounds_ne hne]
    -- a reading operation
    have hread : ∀ i, i ∈ Region.ready .any ops listed → i ∈ D → wpOp P ops Qx i (wpAny P .any ops Qx n (listed.setIfInBounds i true)) a w := by
      intro i hi hD
      obtain ⟨hf, hlt⟩ := hstep i hi
      obtain ⟨_, o, ho, hdep⟩ := mem_ready.1 hi
      obtain ⟨heff, v, hv, hdst⟩ := h.rds i hD (by simp [lis, hf]) o ho
      have key : below m.length v ∧ ∀ K : Act → World → Prop, Back w0 X loc m o.dst v a K → wpOp P ops Qx i K a w := by
        rcases hv with hv | ⟨t, x, o1, o2, o3⟩
        · exact areadV_sound (P := P) (Qx := Qx) hE rfl (h.frl.drop rfl hdep) h.mr ho hv
        · have hFR : FR E.nt loc m.length [(t, x)] a.tmps := ⟨h.frl.size, fun t' v' hv' => by
            by_cases e : t = t'
            · subst e
              rw [slotAt, if_pos rfl] at hv'
              obtain rfl := Option.some.inj hv'
              exact h.old t x o1 fun j oj hoj hdj hlj => by
                obtain ⟨y, hy, hyb, hyo⟩ := waitsOn_spec (o2 j oj hoj hdj)
                have := h.cl j oj hoj hlj y hy hyb
                rw [hyo, lis, hf] at this
                cases this
            · rw [slotAt_cons_ne e] at hv'
              simp [slotAt] at hv'⟩
          exact areadV_sound (P := P) (Qx := Qx) hE rfl hFR h.mr ho (o3 m)
      obtain ⟨hb, hwp⟩ := key
      refine hwp _ fun w' loc' hm' hloc => ih _ _ w' (U.erase i) k effs D fr m loc' (hlen i hlt hf) ⟨by simpa using h.size, fun j hj => ?_, hun i hlt hf, h.topo, h.cov, ?_, ?_, hm', by rw [put_defers]; exact h.defers, h.nle, fun q hq => (hloc q (Nat.lt_of_lt_of_le hq h.nle)).trans (h.base q hq), hcl i hlt o ho hdep, hold i hlt o ho loc' m _ hloc (Nat.le_refl _)⟩ hq
      · rcases (hset i hlt j).1 hj with rfl | hj
        · exact hD
        · exact h.sub j hj
      · intro j hj hjl oj hoj
        exact h.rds j hj (fun hh => hjl ((hset i hlt j).2 (.inr hh))) oj hoj
      · have old : ∀ t x, slotAt fr t = some x → (∀ (j : Nat) (oj : Oper), ops[j]? = some oj → oj.dst = some t → lis listed j) → t < E.nt ∧ a.tmps.getD t undef = conc loc' x ∧ below m.length x := fun t x ht hall => by
          obtain ⟨k1, k2, k3⟩ := h.frl.val t x ht hall
          exact ⟨k1, by rw [k2, conc_congr hloc x k3], k3⟩
        cases hd : o.dst with
        | none =>
          refine ⟨h.frl.size, fun t x ht hall => old t x ht fun j oj hoj hdj => ?_⟩
          rcases (hset i hlt j).1 (hall j oj hoj hdj) with rfl | hh
          · rw [ho] at hoj
            obtain rfl := Option.some.inj hoj
            rw [hd] at hdj; cases hdj
          · exact hh
        | some d =>
          obtain ⟨⟨x0, hs, hbn⟩, hdn⟩ := hdst d hd
          have hcn : conc loc' x0 = conc loc' v := by rw [← conc_bn loc' x0, hbn, conc_bn]
          have hb0 : below m.length x0 := (below_bn _ _).1 (by rw [hbn]; exact (below_bn _ _).2 hb)
          refine ⟨by simp [Act.put, h.frl.size], fun t x ht hall => ?_⟩
          by_cases e : d = t
          · subst e
            rw [hs] at ht
            obtain rfl := Option.some.inj ht
            exact ⟨hdn, by simp [Act.put, Array.getD_eq_getD_getElem?, h.frl.size, hdn, hcn], hb0⟩
          · have := old t x ht fun j oj hoj hdj => by
              rcases (hset i hlt j).1 (hall j oj hoj hdj) with rfl | hh
              · rw [ho] at hoj
                obtain rfl := Option.some.inj hoj
                rw [hd] at hdj
                exact absurd (Option.some.inj hdj) e
              · exact hh
            refine ⟨this.1, ?_, this.2.2⟩
            rw [← this.2.1]
            simp [Act.put, Array.getD_eq_getD_getElem?, Array.getElem?_setIfInBounds_ne e]
    cases effs with
    | nil =>
      obtain ⟨hallD, hQ⟩ := aepo_nil hq
      refine ⟨fun hr => ?_, fun i hi => hread i hi (hallD i (by rw [← h.size]; exact (hstep i hi).2))⟩
      have hall : ∀ j, j < ops.size → lis listed j := fun j hj => Classical.byContradiction fun hn => topo_ready h.size D h.topo ⟨j, hallD j hj, hn⟩ hr
      exact hx _ a w loc hQ ⟨h.frl.full hall, h.mr, h.defers, h.nle, h.base⟩
    | cons e0 es =>
      obtain ⟨k', c4, c2, c3⟩ := aepo_cons hq
      refine ⟨fun hr => ?_, fun i hi => ?_⟩
      · exfalso
        by_cases hex : ∃ j ∈ D, ¬ lis listed j
        · exact topo_ready h.size D h.topo hex hr
        · obtain ⟨e, he⟩ := eachT_some c3
          obtain ⟨he1, he2⟩ := List.mem_filter.1 he
          unfold nextB at he2
          split at he2
          · rename_i o ho
            simp only [Bool.and_eq_true] at he2
            have helt : e < ops.size := (Array.getElem?_eq_some_iff.1 ho).1
            have heun : listed.getD e false = false := by
              cases hl : listed.getD e false with
              | false => rfl
              | true => exact absurd (h.sub e hl) (c2 e he1)
            have : e ∈ Region.ready .any ops listed := mem_ready.2 ⟨getD_in (by rw [h.size]; exact helt) heun, o, ho, fun x hxm hb => by
              have := depsIn_spec he2.2 x hxm hb
              exact Classical.byContradiction fun hn => hex ⟨_, this, hn⟩⟩
            rw [hr] at this; cases this
          · cases he2
      · obtain ⟨hf, hlt⟩ := hstep i hi
        obtain ⟨_, o, ho, hdep⟩ := mem_ready.1 hi
        by_cases hiD : i ∈ D
        · exact hread i hi hiD
        · -- one that changes something
          have hie : effO E o = true := by
            have := List.all_eq_true.1 c4 i (List.mem_range.2 (by rw [← h.size]; exact hlt))
            rw [ho] at this
            simp only [Bool.or_eq_true, Bool.not_eq_true'] at this
            rcases this with hh | hh | hh
            · exact absurd (by simpa using hh) hiD
            · exact hh
            · rw [hin o hdep] at hh; cases hh
          have hmem : i ∈ e0 :: es := (h.cov i o ho hie).resolve_left hiD
          have hq := eachT_holds c3 i (List.mem_filter.2 ⟨hmem, by unfold nextB; rw [ho]; simp [hie, hin o hdep]⟩)
          unfold aone at hq
          rw [ho] at hq
          dsimp only at hq
          have h1 : ∃ fr1 told, FRL E.nt loc m.length ops listed fr1 a.tmps ∧ (told = false → fr1 = fr) ∧ (aeff1 P E ops.toList ops told i D o (aepo P E ops.toList ops k' ((e0 :: es).filter (· != i))) fr1 m).holds Q := by
            split at hq
            · rename_i b d want hw
              obtain ⟨hl, _⟩ := wantOf_ask (h.frl.drop rfl hdep) rfl hw
              have hl := (slotAt_drop hl).1
              cases b with
              | true => exact ⟨_, true, h.frl.retell hl (by simp [conc]) (by simp [below]), (fun h => by cases h), hq.1 rfl⟩
              | false => exact ⟨_, true, h.frl.retell hl (by simp [conc]) (by simp [below]), (fun h => by cases h), hq.2 rfl⟩
            · exact ⟨fr, false, h.frl, fun _ => rfl, hq⟩
          obtain ⟨fr1, told, hf1, htold, hq⟩ := h1
          unfold aeff1 at hq
          rw [T.holds_bind] at hq
          refine aeffV_sound hE rfl (hf1.drop rfl hdep) h.mr ho hq ?_
          intro v m' w' loc' hr hbv hle hm' hloc
          rw [T.holds_bind] at hr
          have hput : ∃ fr', (∀ j oj, ops[j]? = some oj → skipB ops.toList ops o j = true → dropFr (bads ops.toList oj) fr' = dropFr (bads ops.toList oj) fr1 ∧ ∀ d, oj.dst = some d → slotAt fr' d = slotAt fr1 d) ∧
              ((recheck P E ops.toList ops m' fr' (D.filter fun j => floatB E ops o j && (told || !skipB ops.toList ops o j))).bind fun _ => (clo P E ops.toList ops m' (List.range ops.size) (i :: D) fr').bind fun x => aepo P E ops.toList ops k' ((e0 :: es).filter (· != i)) x.1 x.2 m').holds Q ∧
              FRL E.nt loc' m'.length ops (listed.setIfInBounds i true) fr' (a.put o.dst (conc loc' v)).tmps := by
            have old : ∀ t x, slotAt fr1 t = some x → (∀ (j : Nat) (oj : Oper), ops[j]? = some oj → oj.dst = some t → lis listed j) → t < E.nt ∧ a.tmps.getD t undef = conc loc' x ∧ below m'.length x := fun t x ht hall => by
              obtain ⟨k1, k2, k3⟩ := hf1.val t x ht hall
              exact ⟨k1, by rw [k2, conc_congr hloc x k3], below_mono hle _ k3⟩
            cases hd : o.dst with
            | none =>
              rw [hd] at hr
              refine ⟨fr1, fun _ _ _ _ => ⟨rfl, fun _ _ => rfl⟩, hr, hf1.size, fun t x ht hall => old t x ht fun j oj hoj hdj => ?_⟩
              rcases (hset i hlt j).1 (hall j oj hoj hdj) with rfl | hh
              · rw [ho] at hoj
                obtain rfl := Option.some.inj hoj
                rw [hd] at hdj; cases hdj
              · exact hh
            | some d =>
              rw [hd] at hr
              unfold putFr at hr
              dsimp only at hr
              split at hr
              · rename_i hdn
                refine ⟨(d, v) :: fr1, fun j oj hoj hsk => ?_, hr, by simp [Act.put, hf1.size], fun t x ht hall => ?_⟩
                · unfold skipB at hsk
                  rw [hoj] at hsk
                  dsimp only at hsk
                  rw [hd] at hsk
                  simp only [Bool.and_eq_true, bne_iff_ne, ne_eq] at hsk
                  exact ⟨dropFr_bad hsk.2.1, fun d' hd' => slotAt_cons_ne (fun e => hsk.2.2 (by rw [hd', e]))⟩
                by_cases e : d = t
                · subst e
                  rw [slotAt, if_pos rfl] at ht
                  obtain rfl := Option.some.inj ht
                  exact ⟨hdn, by simp [Act.put, Array.getD_eq_getD_getElem?, hf1.size, hdn], hbv⟩
                · rw [slotAt_cons_ne e] at ht
                  have := old t x ht fun j oj hoj hdj => by
                    rcases (hset i hlt j).1 (hall j oj hoj hdj) with rfl | hh
                    · rw [ho] at hoj
                      obtain rfl := Option.some.inj hoj
                      rw [hd] at hdj
                      exact absurd (Option.some.inj hdj) e
                    · exact hh
                  refine ⟨this.1, ?_, this.2.2⟩
                  rw [← this.2.1]
                  simp [Act.put, Array.getD_eq_getD_getElem?, Array.getElem?_setIfInBounds_ne e]
              · exact hr.elim
          obtain ⟨fr', hsame, hr, hfrl⟩ := hput
          rw [T.holds_bind] at hr
          obtain ⟨hr, hre⟩ := recheck_sound _ hr
          rw [T.holds_bind] at hr
          have hsub : ∀ j, lis (listed.setIfInBounds i true) j → j ∈ i :: D := fun j hj => by
            rcases (hset i hlt j).1 hj with rfl | hj
            · exact List.mem_cons_self
            · exact List.mem_cons_of_mem _ (h.sub j hj)
          have hrds : Reads P E ops.toList ops fr0 (listed.setIfInBounds i true) (i :: D) fr' m' := by
            intro j hj hjl oj hoj
            have hjn := mt (hset i hlt j).2 hjl
            simp only [not_or] at hjn
            have hjD : j ∈ D := (List.mem_cons.1 hj).resolve_left hjn.1
            obtain ⟨f1, u0, f2, f3⟩ := h.rds j hjD hjn.2 oj hoj
            have hfl : floatB E ops o j = true := by
              unfold floatB
              rw [hoj]
              simp only [f1, Bool.not_false, Bool.true_and, Bool.not_eq_true']
              cases hw : waitsOn o j with
              | false => rfl
              | true =>
                obtain ⟨x, hxm, hb, hon⟩ := waitsOn_spec hw
                have := hdep x hxm hb
                rw [hon] at this
                exact absurd this hjn.2
            by_cases hsk : told = false ∧ skipB ops.toList ops o j = true
            · obtain ⟨s1, s2⟩ := hsame j oj hoj hsk.2
              have hmf : memFree oj.op = true := by
                have := hsk.2
                unfold skipB at this
                rw [hoj] at this
                simp only [Bool.and_eq_true] at this
                exact this.1
              obtain rfl := htold hsk.1
              exact ⟨f1, u0, by rw [s1, areadV_free hmf m' m]; exact f2, fun d hd => ⟨by rw [s2 d hd]; exact (f3 d hd).1, (f3 d hd).2⟩⟩
            · have hsk' : (told || !skipB ops.toList ops o j) = true := by
                cases told <;> cases hs : skipB ops.toList ops o j <;> simp_all
              obtain ⟨u, g1, g2⟩ := hre j (List.mem_filter.2 ⟨hjD, by rw [hfl, hsk']; rfl⟩) oj hoj
              exact ⟨f1, u, .inl g1, fun d hd => ⟨g2 d hd, (f3 d hd).2⟩⟩
          obtain ⟨D', fr2, g1, g2, g3, g4, g5, g6⟩ := clo_sound _ (i :: D) fr' ⟨⟨o, ho, hin o hdep⟩, h.topo⟩ hrds hfrl hsub hr
          refine ih _ _ w' (U.erase i) k' _ D' fr2 m' loc' (hlen i hlt hf) ⟨by simpa using h.size, fun j hj => g5 j (hsub j hj), hun i hlt hf, g2, fun j oj hoj hje => ?_, g3, g4, hm', by rw [put_defers]; exact h.defers, Nat.le_trans h.nle hle, fun q hq => (hloc q (Nat.lt_of_lt_of_le hq h.nle)).trans (h.base q hq), hcl i hlt o ho hdep, hold i hlt o ho loc' m' _ hloc hle⟩ g1
          rcases h.cov j oj hoj hje with hh | hh
          · exact .inl (g5 j (List.mem_cons_of_mem _ hh))
          · by_cases hji : j = i
            · subst hji
              exact .inl (g5 _ List.mem_cons_self)
            · exact .inr (List.mem_filter.2 ⟨hh, by simpa using hji⟩)

theorem afree_sound {P : Program} {E : Env} (hE : EnvOK P E.fns) {ops : Array Oper} {w0 : World} {X : Nat → Prop} {loc0 loc : Loc} {Q : St → Prop} {Qx : Exit → Act → World → Prop}
    (hx : ∀ st' a' w' loc', Q st' → SR E.nt E.n0 w0 X loc0 loc' st' a' w' → Qx .normal a' w') {st : St} {a : Act} {w : World} (h : SR E.nt E.n0 w0 X loc0 loc st a w) (hq : (afree P E ops st).holds Q) :
    wpAny P .any ops Qx ops.size (Array.replicate ops.size false) a w := by
  unfold afree at hq
  rw [T.holds_bind] at hq
  have hno : ∀ j, ¬ lis (Array.replicate ops.size false) j := fun j hj => by rw [lis, getD_replicate_false] at hj; cases hj
  obtain ⟨q1, q2, q3⟩ := cloOld_sound (P := P) (E := E) (all := ops.toList) (ops := ops) (m := st.m) (fr0 := st.fr) (loc := loc) (n := st.m.length) (tmps := a.tmps) hno (List.range ops.size) [] st.fr trivial (fun _ hj => by cases hj) ⟨h.fr.size, fun t v ht _ => h.fr.val t v ht⟩
  obtain ⟨D, fr, g1, g2, g3, g4, g5, g6⟩ := clo_sound (listed := Array.replicate ops.size false) (loc := loc) (tmps := a.tmps) _ _ _ q1 q2 q3 (fun j hj => absurd hj (hno j)) hq
  refine afree_any (fr0 := st.fr) hE hx ops.size _ a w (List.range ops.size) _ _ D fr st.m loc (by simp) ⟨by simp, fun j hj => absurd hj (hno j), fun j hj _ => List.mem_range.2 hj, g2, fun j o ho he => .inr ?_, g3, g4, h.mr, h.defers, h.nle, h.base, fun j _ _ hj => absurd hj (hno j), fun t x ht _ => h.fr.val t x ht⟩ g1
  rw [List.mem_filter, ho]
  exact ⟨List.mem_range.2 (Array.getElem?_eq_some_iff.1 ho).1, he⟩

/-! ### Code -/

def keyOf : Code → Nat
  | .region id _ _ => id
  | .seq a _ => keyOf a
  | .cond _ a _ => keyOf a
  | .block _ c => keyOf c
  | .loop c => keyOf c
  | .scope c => keyOf c
  | _ => 0

def isScopeB : Code → Bool
  | .scope _ => true
  | _ => false

def acode (P : Program) (E : Env) : Code → St → T (Ex × St)
  | .skip, st => .ret (.norm, st)
  | .seq a b, st => (acode P E a st).bind fun r => match r.1 with
    | .norm => acode P E b r.2
    | e => .ret (e, r.2)
  | .cond c x y, st =>
    match ev st.fr c with
    | some .tt => acode P E x st
    | some .ff => acode P E y st
    | some (.bool b) =>
      match c with
      | .tmp d => .ite b (acode P E x (tellB d true st)) (acode P E y (tellB d false st))
      | _ => .ite b (acode P E x st) (acode P E y st)
    | _ => .fail
  | .block id c, st => (acode P E c st).bind fun r => match r.1 with
    | .exit id' => if id' = id then .ret (.norm, r.2) else .ret (.exit id', r.2)
    | e => .ret (e, r.2)
  | .loop c, st => if isScopeB c = true then .fail else E.loop (keyOf c) st
  | .scope c, st => E.loop (keyOf c) st
  | .label _, st => .ret (.norm, st)
  | .goto l, st => .ret (.goto l, st)
  | .exit id, st => .ret (.exit id, st)
  | .ret, st => .ret (.ret, st)
  | .region _ ops draw, st =>
    if draw = true then
      (if P.follows .mixedOrders = true then
        (match midOf E ops with
          | some x => (aopsS P E ops.toList st.m (ops.toList.take x.1) st.fr).bind fun fr => (openSt ⟨fr, st.m⟩).bind fun st => (aops P E ops.toList ((ops.toList.drop x.1).take (x.2 + 1)) st).bind fun st =>
            (aopsS P E ops.toList st.m (ops.toList.drop (x.1 + (x.2 + 1))) st.fr).bind fun fr => (openSt ⟨fr, st.m⟩).bind fun st => .ret (.norm, st)
          | none => if (ops.toList.any fun o => effOp E o.op) = true then ((afree P E ops st).bind fun st => (openSt st).bind fun st => .ret (.norm, st)) else if Region.lexB .any ops = true then (aopsQ P E ops.toList st.m ops.toList st.fr).bind fun fr => (openSt ⟨fr, st.m⟩).bind fun st => .ret (.norm, st) else .fail)
      else .fail)
    else (aops P E ops.toList ops.toList st).bind fun st => .ret (.norm, st)
  | _, _ => .fail

def loopsIn : Code → List Code
  | .seq a b => loopsIn a ++ loopsIn b
  | .cond _ a b => loopsIn a ++ loopsIn b
  | .block _ c => loopsIn c
  | .loop c => [c]
  | .scope c => [.scope c]
  | _ => []

/-- What such a piece stands for: a loop of it, or a scope. -/
def lcode : Code → Code
  | .scope c => .scope c
  | c => .loop c

theorem lcode_loop {c : Code} (h : isScopeB c = false) : lcode c = .loop c := by
  cases c <;> first | rfl | cases h

def PostOf (E : Env) (w0 : World) (X : Nat → Prop) (loc0 : Loc) (Q : Ex × St → Prop) : Exit → Act → World → Prop
  | .normal, a, w => ∃ loc st, Q (.norm, st) ∧ SR E.nt E.n0 w0 X loc0 loc st a w
  | .exit id, a, w => ∃ loc st, Q (.exit id, st) ∧ SR E.nt E.n0 w0 X loc0 loc st a w
  | .ret, a, w => ∃ loc st, Q (.ret, st) ∧ SR E.nt E.n0 w0 X loc0 loc st a w
  | .goto l, a, w => ∃ loc st, Q (.goto l, st) ∧ SR E.nt E.n0 w0 X loc0 loc st a w
  | _, _, _ => False

def AWp (P : Program) (E : Env) (c : Code) (st : St) (Q : Ex × St → Prop) : Prop :=
  ∀ w0 X loc0 loc a w, SR E.nt E.n0 w0 X loc0 loc st a w → c.wp P (PostOf E w0 X loc0 Q) a w

def LoopOK (P : Program) (E : Env) (c : Code) : Prop := ∀ st Q, (E.loop (keyOf c) st).holds Q → AWp P E (lcode c) st Q

theorem PostOf.mono {E : Env} {w0 : World} {X : Nat → Prop} {loc0 : Loc} {Q R : Ex × St → Prop} (h : ∀ r, Q r → R r) : ∀ e a w, PostOf E w0 X loc0 Q e a w → PostOf E w0 X loc0 R e a w
  | .normal, _, _, ⟨loc, st, hq, hs⟩ => ⟨loc, st, h _ hq, hs⟩
  | .exit _, _, _, ⟨loc, st, hq, hs⟩ => ⟨loc, st, h _ hq, hs⟩
  | .ret, _, _, ⟨loc, st, hq, hs⟩ => ⟨loc, st, h _ hq, hs⟩
  | .goto _, _, _, ⟨loc, st, hq, hs⟩ => ⟨loc, st, h _ hq, hs⟩
  | .panic _, _, _, hq => hq
  | .outgrown, _, _, hq => hq

theorem code_sound {P : Program} {E : Env} (hE : EnvOK P E.fns) : ∀ (c : Code), (∀ c' ∈ loopsIn c, LoopOK P E c') → ∀ (st : St) (Q : Ex × St → Prop), (acode P E c st).holds Q → AWp P E c st Q
  | .skip, _, st, Q, hq => fun w0 X loc0 loc a w h => wp_skip ⟨loc, st, hq, h⟩
  | .exit id, _, st, Q, hq => fun w0 X loc0 loc a w h => wp_exit ⟨loc, st, hq, h⟩
  | .ret, _, st, Q, hq => fun w0 X loc0 loc a w h => wp_ret ⟨loc, st, hq, h⟩
  | .loop c, hL, st, Q, hq => by
    unfold acode at hq
    split at hq
    · exact hq.elim
    · rename_i hs
      have hs : isScopeB c = false := by simpa using hs
      have := hL c (by simp [loopsIn]) st Q hq
      rwa [lcode_loop hs] at this
  | .scope c, hL, st, Q, hq => hL (.scope c) (by simp [loopsIn]) st Q hq
  | .label _, _, st, Q, hq => fun w0 X loc0 loc a w h => wp_label ⟨loc, st, hq, h⟩
  | .goto l, _, st, Q, hq => fun w0 X loc0 loc a w h => wp_goto ⟨loc, st, hq, h⟩
  | .seq x y, hL, st, Q, hq => by
    intro w0 X loc0 loc a w h
    simp only [acode, T.holds_bind] at hq
    have h1 := code_sound hE x (fun c' hc' => hL c' (by simp [loopsIn, hc'])) st _ hq w0 X loc0 loc a w h
    refine wp_seq (wp_mono h1 ?_)
    intro e a' w' he
    cases e with
    | normal =>
      obtain ⟨loc', st', hQ, hs⟩ := he
      exact code_sound hE y (fun c' hc' => hL c' (by simp [loopsIn, hc'])) st' Q hQ w0 X loc0 loc' a' w' hs
    | exit id => exact he
    | ret => exact he
    | goto l => exact he
    | panic ch => exact he
    | outgrown => exact he
  | .cond c x y, hL, st, Q, hq => by
    intro w0 X loc0 loc a w h
    have hx := fun st' hq' => code_sound hE x (fun c' hc' => hL c' (by simp [loopsIn, hc'])) st' Q hq' w0 X loc0 loc a w
    have hy := fun st' hq' => code_sound hE y (fun c' hc' => hL c' (by simp [loopsIn, hc'])) st' Q hq' w0 X loc0 loc a w
    unfold acode at hq
    split at hq
    · rename_i hc
      obtain ⟨h1, _⟩ := ev_sound h.fr hc
      exact wp_cond_true (by rw [h1]; rfl) (hx st hq h)
    · rename_i hc
      obtain ⟨h1, _⟩ := ev_sound h.fr hc
      exact wp_cond_false (by rw [h1]; rfl) (hy st hq h)
    · rename_i b hc
      obtain ⟨h1, _⟩ := ev_sound h.fr hc
      simp only [conc] at h1
      split at hq
      · rename_i d
        have ht := h.tell (d := d) (b := b) hc
        cases b with
        | true => exact wp_cond_true h1 (hx _ (hq.1 rfl) ht)
        | false => exact wp_cond_false h1 (hy _ (hq.2 rfl) ht)
      · cases b with
        | true => exact wp_cond_true h1 (hx _ (hq.1 rfl) h)
        | false => exact wp_cond_false h1 (hy _ (hq.2 rfl) h)
    · exact hq.elim
  | .block id c, hL, st, Q, hq => by
    intro w0 X loc0 loc a w h
    simp only [acode, T.holds_bind] at hq
    have h1 := code_sound hE c (fun c' hc' => hL c' (by simp [loopsIn, hc'])) st _ hq w0 X loc0 loc a w h
    refine wp_block (wp_mono h1 ?_)
    intro e a' w' he
    cases e with
    | normal => exact he
    | exit id' =>
      obtain ⟨loc', st', hQ, hs⟩ := he
      simp only [Exit.inBlock]
      split
      · rename_i hid
        dsimp only at hQ
        rw [if_pos hid] at hQ
        exact ⟨loc', st', hQ, hs⟩
      · rename_i hid
        dsimp only at hQ
        rw [if_neg hid] at hQ
        exact ⟨loc', st', hQ, hs⟩
    | ret => exact he
    | goto l => exact he
    | panic ch => exact he
    | outgrown => exact he
  | .region id ops draw, _, st, Q, hq => by
    intro w0 X loc0 loc a w h
    unfold acode at hq
    cases draw with
    | false =>
      simp only [Bool.false_eq_true, if_false, T.holds_bind] at hq
      exact wp_region_list (aops_sound hE rfl (fun st' a' w' loc' hQ hs => ⟨loc', st', hQ, hs⟩) ops.toList loc st a w h hq)
    | true =>
      simp only [if_true] at hq
      split at hq
      · rename_i hc
        split at hq
        · rename_i x hx
          have hB := midOf_spec hx
          obtain ⟨l⟩ := ops
          rw [T.holds_bind] at hq
          refine wp_region_mid (l := l) x.1 x.2 hc hB ?_
          refine aopsS_sound (ops := l.toArray) (by simp) (h.mr.drewN (w.drawn + 1)) (fun fr' a' hQ hF hd => ?_) _ st.fr a h.fr h.defers hq
          rw [T.holds_bind] at hQ
          obtain ⟨st1, loc1, hQ, hs1⟩ := openSt_sound (st := ⟨fr', st.m⟩) (SR.mk hF (h.mr.drewN _) hd h.nle h.base) hQ
          rw [T.holds_bind] at hQ
          refine aopsRow_sound hE (by simp) (fun st' a'' w' loc' hQ hs => ?_) _ loc1 st1 a' _ hs1 hQ
          rw [T.holds_bind] at hQ
          refine aopsS_sound (ops := l.toArray) (by simp) hs.mr (fun fr2 a3 hQ hF hd => ?_) _ st'.fr a'' hs.fr hs.defers hQ
          rw [T.holds_bind] at hQ
          obtain ⟨st2, loc2, hQ2, hs2⟩ := openSt_sound (st := ⟨fr2, st'.m⟩) (SR.mk hF hs.mr hd hs.nle hs.base) hQ
          exact ⟨loc2, st2, hQ2, hs2⟩
        · split at hq
          · rw [T.holds_bind] at hq
            refine wp_region_any hc (afree_sound hE (fun st' a' w' loc' hQ hs => by
              rw [T.holds_bind] at hQ
              obtain ⟨st2, loc2, hQ2, hs2⟩ := openSt_sound hs hQ
              exact ⟨loc2, st2, hQ2, hs2⟩) (st := st) (a := a) (w := { w with drawn := w.drawn + 1 }) ⟨h.fr, h.mr.drewN _, h.defers, h.nle, h.base⟩ hq)
          split at hq
          · rename_i hB
            rw [T.holds_bind] at hq
            refine wp_region_quiet (C := fun w' => MR w0 X loc st.m w') hc hB (h.mr.drewN _) ?_
            refine aopsQ_sound hE rfl h.mr (fun fr' a' hQ hF hd w' hw' => ?_) ops.toList st.fr a h.fr h.defers hq
            rw [T.holds_bind] at hQ
            obtain ⟨st2, loc2, hQ2, hs2⟩ := openSt_sound (st := ⟨fr', st.m⟩) (SR.mk hF hw' hd h.nle h.base) hQ
            exact ⟨loc2, st2, hQ2, hs2⟩
          · exact hq.elim
      · exact hq.elim
  | .rangeFunc .., _, _, _, hq => hq.elim
  | .refuse _, _, _, _, hq => hq.elim

end Go.Ox
