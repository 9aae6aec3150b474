/-
  One operation.
-/
import Derived.Test.YtnfngaapjodpcaaHOxH
set_option linter.unusedVariables false
set_option linter.unusedSimpArgs false
namespace Go.Ox

def AV.isTup : AV → Bool
  | .tup _ => true
  | _ => false

theorem isTup_false {v : AV} (h : v.isTup = false) : ∀ l, v ≠ .tup l := by
  intro l hl; subst hl; cases h

def evL (fr : List (Nat × AV)) : List Operand → Option (List AV)
  | [] => some []
  | x :: l =>
    match ev fr x, evL fr l with
    | some v, some vs => some (v :: vs)
    | _, _ => none

theorem evL_sound {nt : Nat} {loc : Loc} {n : Nat} {fr : List (Nat × AV)} {a : Act} (h : FR nt loc n fr a.tmps) : ∀ {l : List Operand} {vs : List AV}, evL fr l = some vs →
    l.map a.eval = concL loc vs ∧ belowL n vs
  | [], vs, hv => by simp only [evL, Option.some.injEq] at hv; subst hv; simp [concL, belowL]
  | x :: l, vs, hv => by
    unfold evL at hv
    cases hx : ev fr x with
    | none => simp [hx] at hv
    | some v =>
      cases hl : evL fr l with
      | none => simp [hx, hl] at hv
      | some vs' =>
        simp [hx, hl] at hv
        subst hv
        obtain ⟨h1, h2⟩ := ev_sound h hx
        obtain ⟨h3, h4⟩ := evL_sound h hl
        simp [concL, belowL, h1, h2, h3, h4]

def evP (fr : List (Nat × AV)) : List (Nat × Operand) → Option (List (Nat × AV))
  | [] => some []
  | (i, x) :: l =>
    match ev fr x, evP fr l with
    | some v, some vs => if v.isTup = true then none else some ((i, v) :: vs)
    | _, _ => none

theorem evP_sound {nt : Nat} {loc : Loc} {n : Nat} {fr : List (Nat × AV)} {a : Act} (h : FR nt loc n fr a.tmps) : ∀ {l : List (Nat × Operand)} {vs : List (Nat × AV)}, evP fr l = some vs →
    l.map (fun p => (p.1, a.eval p.2)) = vs.map (fun p => (p.1, conc loc p.2)) ∧ ∀ p ∈ vs, below n p.2 ∧ ∀ l, p.2 ≠ .tup l
  | [], vs, hv => by simp only [evP, Option.some.injEq] at hv; subst hv; simp
  | (i, x) :: l, vs, hv => by
    unfold evP at hv
    cases hx : ev fr x with
    | none => simp [hx] at hv
    | some v =>
      cases hl : evP fr l with
      | none => simp [hx, hl] at hv
      | some vs' =>
        simp only [hx, hl] at hv
        split at hv
        · cases hv
        · rename_i ht
          simp only [Option.some.injEq] at hv
          subst hv
          obtain ⟨h1, h2⟩ := ev_sound h hx
          obtain ⟨h3, h4⟩ := evP_sound h hl
          refine ⟨by simp [h1, h3], ?_⟩
          intro p hp
          rcases List.mem_cons.1 hp with rfl | hp
          · exact ⟨h2, isTup_false (by simpa using ht)⟩
          · exact h4 p hp

def evO (fr : List (Nat × AV)) : Option Operand → Option (Option AV)
  | none => some none
  | some x => (ev fr x).map some

theorem evO_sound {nt : Nat} {loc : Loc} {n : Nat} {fr : List (Nat × AV)} {a : Act} (h : FR nt loc n fr a.tmps) {x : Option Operand} {v : Option AV} (hv : evO fr x = some v) :
    x.map a.eval = v.map (conc loc) := by
  cases x with
  | none => simp only [evO, Option.some.injEq] at hv; subst hv; rfl
  | some x =>
    simp only [evO] at hv
    cases hx : ev fr x with
    | none => simp [hx] at hv
    | some u =>
      simp [hx] at hv
      subst hv
      simp [(ev_sound h hx).1]

def litOf : Operand → Option Nat
  | .const (.int _ n) => some n.toNat
  | _ => none

theorem litOf_sound {fr : List (Nat × AV)} {x : Operand} {v : AV} (hv : ev fr x = some v) : ∀ c, litOf x = some c → ∀ k a, v = .int k a → a.toNat = c := by
  intro c hc k a hva
  unfold litOf at hc
  split at hc
  · simp only [Option.some.injEq] at hc
    simp only [ev, ofVal, ofVal0, Option.some.injEq] at hv
    rw [hva] at hv
    injection hv with h1 h2
    rw [← h2]; exact hc
  · cases hc

/-- Bytes that become bytes: the row is marked. -/
def isMark (P : Program) (s d : TypeId) : Bool :=
  match P.underlying s, P.underlying d with
  | some (.slice _), some (.slice e) => s == d && (match P.underlying e with
    | some (.int .u8) => true
    | _ => false)
  | _, _ => false

def amark (m : AM) (x : AV) : T (AV × AM) :=
  match x with
  | .sl id k s j l c => T.opt (m.get id) fun b => if b.rw = true then .ret (.sl id k s j l c, m.put id (some { b with rw := false })) else .fail
  | _ => .fail

theorem amark_sound {P : Program} {w0 : World} {X : Nat → Prop} {loc : Loc} {m : AM} {w : World} (hM : MR w0 X loc m w) {s d : TypeId} (hk : isMark P s d = true) {x : AV} (hx : below m.length x) {Q : AV × AM → Prop} (hq : (amark m x).holds Q) :
    ∃ v m' w', Q (v, m') ∧ below m'.length v ∧ m'.length = m.length ∧ MR w0 X loc m' w' ∧ (convert s d (conc loc x)).run P w = .ok (conc loc v) w' := by
  unfold amark at hq
  split at hq
  · rename_i id k st j l c
    obtain ⟨b, hg, hq⟩ := T.holds_opt hq
    split at hq
    · rename_i hr
      have hconv : ∃ w', (markStringish ⟨(loc id).1, (loc id).2 + (k + j * st), none⟩).run P w = .ok () w' ∧ MR w0 X loc (m.put id (some { b with rw := false })) w' := by
        unfold markStringish
        cases hs : w.shape? (loc id).1 with
        | none => exact ⟨w.freeze ⟨(loc id).1, 0, none⟩ 0, by simp [hs, World.freeze], hM.mark hg hr 0 0⟩
        | some p => exact ⟨w.freeze ⟨(loc id).1, p.2, none⟩ 1, by simp [hs], hM.mark hg hr p.2 1⟩
      obtain ⟨w', h1, h2⟩ := hconv
      refine ⟨_, _, w', hq, by rw [AM.length_put]; exact hx, AM.length_put _ _ _, h2, ?_⟩
      unfold isMark at hk
      split at hk
      · rename_i e0 e hs hd
        simp only [Bool.and_eq_true, beq_iff_eq] at hk
        obtain ⟨rfl, hk⟩ := hk
        split at hk
        · rename_i he
          obtain rfl : e0 = e := by rw [hs] at hd; simpa using hd
          simp only [conc, convert, Sem.run_bind, run_underlying hs, Result.andThen_ok, run_underlying he, beq_self_eq_true, h1, Sem.run_pure]
        · cases hk
      · cases hk
    · exact hq.elim
  · exact hq.elim

/-- An operation that leaves the memory as it is. -/
def aopP (P : Program) (fr : List (Nat × AV)) (m : AM) (o : Op) : Option (T AV) :=
  match o with
  | .move x => some (T.opt (ev fr x) .ret)
  | .assign x => some (T.opt (ev fr x) .ret)
  | .pick c a b => some (T.opt (ev fr c) fun c => T.opt (ev fr a) fun a => T.opt (ev fr b) fun b => apick c a b)
  | .load t a => some (T.opt (ev fr a) fun a => aload P m t a)
  | .nilCheck x => some (T.opt (ev fr x) fun v => match v with
      | .ptr id k s j => .ret (.ptr id k s j)
      | .fn (.func f) a c => .ret (.fn (.func f) a c)
      | _ => .fail)
  | .binOp op t x y _ => some (T.opt (ev fr x) fun x => T.opt (ev fr y) fun y => abin P op t x y)
  | .unOp op _ x => some (T.opt (ev fr x) fun x => T.opt (aun op x) .ret)
  | .convert s d x => if isMark P s d = true then none else some (T.opt (ev fr x) fun x => T.opt (aconv P s d x) .ret)
  | .build t parts => some (T.opt (evP fr parts.toList) fun ps => abuild P t ps)
  | .makeFunc f a c => some (T.opt (evL fr a.toList) fun a => T.opt (evL fr c.toList) fun c => .ret (.fn f a c))
  | .slice t x l h mx => some (T.opt (ev fr x) fun x => T.opt (evO fr l) fun l => T.opt (evO fr h) fun h => T.opt (evO fr mx) fun mx => aslice' P t x l h mx)
  | .fieldAddr t x f => some (T.opt (ev fr x) fun x => T.opt (afield P t x f) .ret)
  | .field t x f => some (T.opt (ev fr x) fun x => T.opt (apart P t x f) .ret)
  | .indexAddr t x ix => some (T.opt (ev fr x) fun x => T.opt (ev fr ix) fun v => aindexAt P t x v (litOf ix))
  | .index t x ix => some (T.opt (ev fr x) fun x => T.opt (ev fr ix) fun v => aindex P t x v (litOf ix))
  | .extract x i => some (T.opt (ev fr x) fun x => T.opt (aextract x i) .ret)
  | .call { callee := .builtin .len, args, argTypes } =>
    match args.toList, argTypes.toList with
    | [x], [t] => some (T.opt (ev fr x) fun x => T.opt (alen P t x) .ret)
    | _, _ => some .fail
  | .call { callee := .builtin .cap, args, argTypes } =>
    match args.toList, argTypes.toList with
    | [x], [t] => some (T.opt (ev fr x) fun x => T.opt (acap P t x) .ret)
    | _, _ => some .fail
  | .call { callee := .builtin .min, args, .. } => some (T.opt (evL fr args.toList) fun l => match l with
      | [] => .fail
      | x :: l => T.opt (amin x l) .ret)
  | .call { callee := .builtin .max, args, .. } => some (T.opt (evL fr args.toList) fun l => match l with
      | [] => .fail
      | x :: l => T.opt (amax x l) .ret)
  | _ => none

theorem toArray_map {α β : Type} (f : α → β) (xs : Array α) : xs.map f = (xs.toList.map f).toArray := by
  apply Array.ext'; simp

theorem run_value {P : Program} {s : Sem Value} {v : Value} {w : World} (h : s.run P w = .ok v w) : (do pure (Next.value (← s)) : Sem Next).run P w = .ok (.value v) w := by
  rw [Sem.run_bind, h]; rfl

theorem aopP_sound {P : Program} {nt : Nat} {w0 : World} {X : Nat → Prop} {loc : Loc} {m : AM} {w : World} {fr : List (Nat × AV)} {a : Act} (hF : FR nt loc m.length fr a.tmps) (hM : MR w0 X loc m w) {o : Oper} {t : T AV} {Q : AV → Prop}
    (ho : aopP P fr m o.op = some t) (hq : t.holds Q) : ∃ v, Q v ∧ below m.length v ∧ (execOp a.eval o).run P w = .ok (.value (conc loc v)) w := by
  unfold aopP at ho
  unfold execOp
  split at ho <;> first | (cases ho; done) | (simp only [Option.some.injEq] at ho; subst ho) | skip
  -- move, assign
  · rename_i x heq
    rw [heq]
    obtain ⟨v, hv, hq⟩ := T.holds_opt hq
    obtain ⟨h1, h2⟩ := ev_sound hF hv
    exact ⟨v, hq, h2, by simp [h1]⟩
  · rename_i x heq
    rw [heq]
    obtain ⟨v, hv, hq⟩ := T.holds_opt hq
    obtain ⟨h1, h2⟩ := ev_sound hF hv
    exact ⟨v, hq, h2, by simp [h1]⟩
  -- pick
  · rename_i heq
    rw [heq]
    obtain ⟨c, hc, hq⟩ := T.holds_opt hq
    obtain ⟨x, hx, hq⟩ := T.holds_opt hq
    obtain ⟨y, hy, hq⟩ := T.holds_opt hq
    obtain ⟨c1, c2⟩ := ev_sound hF hc
    obtain ⟨x1, x2⟩ := ev_sound hF hx
    obtain ⟨y1, y2⟩ := ev_sound hF hy
    obtain ⟨v, e1, e2, e3⟩ := apick_sound (P := P) hq loc m.length x2 y2 w
    exact ⟨v, e1, e2, by simp only [c1, x1, y1]; exact e3⟩
  -- load
  · rename_i heq
    rw [heq]
    obtain ⟨x, hx, hq⟩ := T.holds_opt hq
    obtain ⟨x1, x2⟩ := ev_sound hF hx
    obtain ⟨v, e1, e2, e3⟩ := aload_sound hM hq
    exact ⟨v, e1, e2, by simp only [x1]; exact run_value e3⟩
  -- nilCheck
  · rename_i heq
    rw [heq]
    obtain ⟨x, hx, hq⟩ := T.holds_opt hq
    obtain ⟨x1, x2⟩ := ev_sound hF hx
    dsimp only
    rw [x1]
    split at hq
    · exact ⟨_, hq, x2, by simp [conc]⟩
    · exact ⟨_, hq, x2, by simp [conc]⟩
    · exact hq.elim
  -- binOp
  · rename_i heq
    rw [heq]
    obtain ⟨x, hx, hq⟩ := T.holds_opt hq
    obtain ⟨y, hy, hq⟩ := T.holds_opt hq
    obtain ⟨x1, x2⟩ := ev_sound hF hx
    obtain ⟨y1, y2⟩ := ev_sound hF hy
    obtain ⟨v, e1, e2, e3⟩ := abin_sound (P := P) hq loc m.length x2 y2 w _ _
    exact ⟨v, e1, e2, by simp only [x1, y1]; exact run_value e3⟩
  -- unOp
  · rename_i heq
    rw [heq]
    obtain ⟨x, hx, hq⟩ := T.holds_opt hq
    obtain ⟨v, hv, hq⟩ := T.holds_opt hq
    obtain ⟨x1, x2⟩ := ev_sound hF hx
    obtain ⟨e2, e3⟩ := aun_sound (P := P) hv loc m.length w
    exact ⟨v, hq, e2, by simp only [x1]; exact run_value e3⟩
  -- convert
  · rename_i heq
    rw [heq]
    split at ho
    · cases ho
    simp only [Option.some.injEq] at ho
    subst ho
    obtain ⟨x, hx, hq⟩ := T.holds_opt hq
    obtain ⟨v, hv, hq⟩ := T.holds_opt hq
    obtain ⟨x1, x2⟩ := ev_sound hF hx
    obtain ⟨e2, e3⟩ := aconv_sound (P := P) hv loc m.length w
    exact ⟨v, hq, e2, by simp only [x1]; exact run_value e3⟩
  -- build
  · rename_i parts heq
    rw [heq]
    obtain ⟨ps, hps, hq⟩ := T.holds_opt hq
    obtain ⟨p1, p2⟩ := evP_sound hF hps
    obtain ⟨v, e1, e2, e3⟩ := abuild_sound (P := P) hq loc m.length p2 w
    refine ⟨v, e1, e2, ?_⟩
    have : (parts.map fun (i, x) => (i, a.eval x)) = (ps.map fun p => (p.1, conc loc p.2)).toArray := by
      rw [toArray_map]; exact congrArg _ p1
    dsimp only
    rw [this]
    exact run_value e3
  -- makeFunc
  · rename_i heq
    rw [heq]
    obtain ⟨x, hx, hq⟩ := T.holds_opt hq
    obtain ⟨y, hy, hq⟩ := T.holds_opt hq
    obtain ⟨x1, x2⟩ := evL_sound hF hx
    obtain ⟨y1, y2⟩ := evL_sound hF hy
    refine ⟨_, hq, by simp only [below]; exact ⟨x2, y2⟩, ?_⟩
    dsimp only
    rw [toArray_map, toArray_map, x1, y1]
    simp [Instr.makeFunc, conc]
  -- slice
  · rename_i heq
    rw [heq]
    obtain ⟨x, hx, hq⟩ := T.holds_opt hq
    obtain ⟨l, hl, hq⟩ := T.holds_opt hq
    obtain ⟨h, hh, hq⟩ := T.holds_opt hq
    obtain ⟨mx, hmx, hq⟩ := T.holds_opt hq
    obtain ⟨x1, x2⟩ := ev_sound hF hx
    obtain ⟨v, e1, e2, e3⟩ := aslice'_sound (P := P) hq loc m.length x2 w
    exact ⟨v, e1, e2, by simp only [x1, evO_sound hF hl, evO_sound hF hh, evO_sound hF hmx]; exact run_value e3⟩
  -- fieldAddr
  · rename_i heq
    rw [heq]
    obtain ⟨x, hx, hq⟩ := T.holds_opt hq
    obtain ⟨v, hv, hq⟩ := T.holds_opt hq
    obtain ⟨x1, x2⟩ := ev_sound hF hx
    obtain ⟨e2, e3⟩ := afield_sound (P := P) hv loc m.length x2 w
    exact ⟨v, hq, e2, by simp only [x1]; exact run_value e3⟩
  -- field
  · rename_i heq
    rw [heq]
    obtain ⟨x, hx, hq⟩ := T.holds_opt hq
    obtain ⟨v, hv, hq⟩ := T.holds_opt hq
    obtain ⟨x1, x2⟩ := ev_sound hF hx
    obtain ⟨e2, e3⟩ := apart_sound (P := P) hv loc m.length x2 w
    exact ⟨v, hq, e2, by simp only [x1]; exact run_value e3⟩
  -- indexAddr
  · rename_i heq
    rw [heq]
    obtain ⟨x, hx, hq⟩ := T.holds_opt hq
    obtain ⟨y, hy, hq⟩ := T.holds_opt hq
    obtain ⟨x1, x2⟩ := ev_sound hF hx
    obtain ⟨y1, y2⟩ := ev_sound hF hy
    obtain ⟨v, e1, e2, e3⟩ := aindexAt_sound (P := P) hq (litOf_sound hy) loc m.length x2 w
    exact ⟨v, e1, e2, by simp only [x1, y1]; exact run_value e3⟩
  -- index
  · rename_i heq
    rw [heq]
    obtain ⟨x, hx, hq⟩ := T.holds_opt hq
    obtain ⟨y, hy, hq⟩ := T.holds_opt hq
    obtain ⟨x1, x2⟩ := ev_sound hF hx
    obtain ⟨y1, y2⟩ := ev_sound hF hy
    obtain ⟨v, e1, e2, e3⟩ := aindex_sound (P := P) hq (litOf_sound hy) loc m.length x2 w
    exact ⟨v, e1, e2, by simp only [x1, y1]; exact run_value e3⟩
  -- extract
  · rename_i heq
    rw [heq]
    obtain ⟨x, hx, hq⟩ := T.holds_opt hq
    obtain ⟨v, hv, hq⟩ := T.holds_opt hq
    obtain ⟨x1, x2⟩ := ev_sound hF hx
    obtain ⟨e2, e3⟩ := aextract_sound (P := P) hv loc m.length x2 w
    exact ⟨v, hq, e2, by simp only [x1]; exact run_value e3⟩
  -- len
  · rename_i args argTypes heq
    rw [heq]
    split at ho
    · rename_i x ty hx ht
      simp only [Option.some.injEq] at ho
      subst ho
      obtain ⟨x', hx', hq⟩ := T.holds_opt hq
      obtain ⟨v, hv, hq⟩ := T.holds_opt hq
      obtain ⟨x1, x2⟩ := ev_sound hF hx'
      obtain ⟨e2, e3⟩ := alen_sound (P := P) hv loc m.length o.type w
      refine ⟨v, hq, e2, ?_⟩
      obtain rfl : args = #[x] := by apply Array.ext'; simpa using hx
      obtain rfl : argTypes = #[ty] := by apply Array.ext'; simpa using ht
      simp only [resolve, Sem.run_bind, Sem.run_pure, Result.andThen_ok, invoke, builtin, List.map_toArray, List.map_cons, List.map_nil, x1, e3]
    · simp only [Option.some.injEq] at ho; subst ho; exact hq.elim
  -- cap
  · rename_i args argTypes heq
    rw [heq]
    split at ho
    · rename_i x ty hx ht
      simp only [Option.some.injEq] at ho
      subst ho
      obtain ⟨x', hx', hq⟩ := T.holds_opt hq
      obtain ⟨v, hv, hq⟩ := T.holds_opt hq
      obtain ⟨x1, x2⟩ := ev_sound hF hx'
      obtain ⟨e2, e3⟩ := acap_sound (P := P) hv loc m.length o.type w
      refine ⟨v, hq, e2, ?_⟩
      obtain rfl : args = #[x] := by apply Array.ext'; simpa using hx
      obtain rfl : argTypes = #[ty] := by apply Array.ext'; simpa using ht
      simp only [resolve, Sem.run_bind, Sem.run_pure, Result.andThen_ok, invoke, builtin, List.map_toArray, List.map_cons, List.map_nil, x1, e3]
    · simp only [Option.some.injEq] at ho; subst ho; exact hq.elim
  -- min
  · rename_i args argTypes heq
    rw [heq]
    obtain ⟨l, hl, hq⟩ := T.holds_opt hq
    obtain ⟨l1, l2⟩ := evL_sound hF hl
    split at hq
    · exact hq.elim
    · rename_i x l
      obtain ⟨v, hv, hq⟩ := T.holds_opt hq
      simp only [belowL] at l2
      obtain ⟨e2, e3⟩ := amin_sound (P := P) (loc := loc) w l x v hv l2.1
      refine ⟨v, hq, e2, ?_⟩
      simp only [resolve, Sem.run_bind, Sem.run_pure, Result.andThen_ok, invoke, builtin, Builtin.min_]
      rw [toArray_map, l1]
      simp only [concL, e3, Result.andThen_ok]
  -- max
  · rename_i args argTypes heq
    rw [heq]
    obtain ⟨l, hl, hq⟩ := T.holds_opt hq
    obtain ⟨l1, l2⟩ := evL_sound hF hl
    split at hq
    · exact hq.elim
    · rename_i x l
      obtain ⟨v, hv, hq⟩ := T.holds_opt hq
      simp only [belowL] at l2
      obtain ⟨e2, e3⟩ := amax_sound (P := P) (loc := loc) w l x v hv l2.1
      refine ⟨v, hq, e2, ?_⟩
      simp only [resolve, Sem.run_bind, Sem.run_pure, Result.andThen_ok, invoke, builtin, Builtin.max_]
      rw [toArray_map, l1]
      simp only [concL, e3, Result.andThen_ok]

/-- An operation that makes or writes memory. -/
def aopE (vec : Bool) (P : Program) (fr : List (Nat × AV)) (m : AM) (o : Op) : T (AV × AM) :=
  match o with
  | .alloc t => aalloc P m t
  | .box _ x => T.opt (ev fr x) fun v => if v.isTup = true then .fail else .ret (abox m v)
  | .store t a x => T.opt (ev fr a) fun a => T.opt (ev fr x) fun v => (astore P m t a v).bind fun m' => .ret (.tup [], m')
  | .buildSlice t len parts => T.opt (evP fr parts.toList) fun ps => abuildSlice P m t len ps
  | .makeSlice t l c => T.opt (ev fr l) fun l => T.opt (ev fr c) fun c => amake P m t l c
  | .call { callee := .builtin .append, args, argTypes } =>
    match args.toList, argTypes.toList with
    | [x, y], [t, u] => if t = u then T.opt (ev fr x) fun x => T.opt (ev fr y) fun y => aappendB vec P m t x y else .fail
    | _, _ => .fail
  | .convert s d x => if isMark P s d = true then T.opt (ev fr x) fun x => amark m x else .fail
  | _ => .fail

theorem aopE_sound {P : Program} {nt : Nat} {w0 : World} {X : Nat → Prop} {loc : Loc} {m : AM} {w : World} {fr : List (Nat × AV)} {a : Act} (hF : FR nt loc m.length fr a.tmps) (hM : MR w0 X loc m w) {o : Oper} {Q : AV × AM → Prop}
    {vec : Bool} (hq : (aopE vec P fr m o.op).holds Q) : ∃ v m' loc' w', Q (v, m') ∧ below m'.length v ∧ m.length ≤ m'.length ∧ MR w0 X loc' m' w' ∧ (∀ i, i < m.length → loc' i = loc i) ∧
      ((execOp a.eval o).run P w = .ok (.value (conc loc' v)) w' ∨ ((execOp a.eval o).run P w = .ok .skip w' ∧ v = .tup [])) := by
  unfold aopE at hq
  unfold execOp
  split at hq
  · rename_i heq
    rw [heq]
    obtain ⟨v, m', loc', w', e1, e2, e3, e4, e5, e6⟩ := aalloc_sound hM hq
    refine ⟨v, m', loc', w', e1, e2, e3, e4, e5, .inl ?_⟩
    simp only [Sem.run_bind, e6]; rfl
  · rename_i el _ heq
    rw [heq]
    obtain ⟨x, hx, hq⟩ := T.holds_opt hq
    obtain ⟨x1, x2⟩ := ev_sound hF hx
    split at hq
    · exact hq.elim
    · rename_i ht
      obtain ⟨loc', w', e1, e2, e3⟩ := abox_sound (P := P) hM x el x2 (isTup_false (by simpa using ht))
      refine ⟨_, _, loc', w', hq, by simp [below], by simp, e2, e3, .inl ?_⟩
      simp only [x1, Sem.run_bind, e1]; rfl
  · rename_i heq
    rw [heq]
    obtain ⟨x, hx, hq⟩ := T.holds_opt hq
    obtain ⟨y, hy, hq⟩ := T.holds_opt hq
    obtain ⟨x1, x2⟩ := ev_sound hF hx
    obtain ⟨y1, y2⟩ := ev_sound hF hy
    rw [T.holds_bind] at hq
    obtain ⟨m', w', e1, e2, e3, e4⟩ := astore_sound hM y2 hq
    refine ⟨_, _, loc, w', e1, by simp [below, belowL], by omega, e3, fun _ _ => rfl, .inr ⟨?_, rfl⟩⟩
    simp only [x1, y1, Sem.run_bind, e4]; rfl
  · rename_i parts heq
    rw [heq]
    obtain ⟨ps, hps, hq⟩ := T.holds_opt hq
    obtain ⟨p1, p2⟩ := evP_sound hF hps
    obtain ⟨v, m', loc', w', e1, e2, e3, e4, e5, e6⟩ := abuildSlice_sound hM hq p2
    refine ⟨v, m', loc', w', e1, e2, e3, e4, e5, .inl ?_⟩
    have : (parts.map fun (i, x) => (i, a.eval x)) = (ps.map fun p => (p.1, conc loc p.2)).toArray := by
      rw [toArray_map]; exact congrArg _ p1
    dsimp only
    rw [this, Sem.run_bind, e6]; rfl
  · rename_i heq
    rw [heq]
    obtain ⟨x, hx, hq⟩ := T.holds_opt hq
    obtain ⟨y, hy, hq⟩ := T.holds_opt hq
    obtain ⟨x1, x2⟩ := ev_sound hF hx
    obtain ⟨y1, y2⟩ := ev_sound hF hy
    obtain ⟨v, m', loc', w', e1, e2, e3, e4, e5, e6⟩ := amake_sound hM hq
    refine ⟨v, m', loc', w', e1, e2, e3, e4, e5, .inl ?_⟩
    simp only [x1, y1, Sem.run_bind, e6]; rfl
  · rename_i args argTypes heq
    rw [heq]
    split at hq
    · rename_i x y t u hx ht
      split at hq
      · rename_i htu
        subst htu
        obtain ⟨x', hx', hq⟩ := T.holds_opt hq
        obtain ⟨y', hy', hq⟩ := T.holds_opt hq
        obtain ⟨x1, x2⟩ := ev_sound hF hx'
        obtain ⟨y1, y2⟩ := ev_sound hF hy'
        obtain ⟨v, m', loc', w', e1, e2, e3, e4, e5, e6⟩ := aappendB_sound (ty := o.type) hM x2 hq
        refine ⟨v, m', loc', w', e1, e2, e3, e4, e5, .inl ?_⟩
        obtain rfl : args = #[x, y] := by apply Array.ext'; simpa using hx
        obtain rfl : argTypes = #[t, t] := by apply Array.ext'; simpa using ht
        simp only [resolve, Sem.run_bind, Sem.run_pure, Result.andThen_ok, invoke, builtin, List.map_toArray, List.map_cons, List.map_nil, x1, y1, e6]
      · exact hq.elim
    · exact hq.elim
  · rename_i heq
    rw [heq]
    split at hq
    · rename_i hk
      obtain ⟨x, hx, hq⟩ := T.holds_opt hq
      obtain ⟨x1, x2⟩ := ev_sound hF hx
      obtain ⟨v, m', w', e1, e2, e3, e4, e5⟩ := amark_sound hM hk x2 hq
      refine ⟨v, m', loc, w', e1, e2, by omega, e4, fun _ _ => rfl, .inl ?_⟩
      simp only [x1, Sem.run_bind, e5]; rfl
    · exact hq.elim
  · exact hq.elim

end Go.Ox
