/-
  Functions told by their own code; trees of which the closed tests are decided.
-/
import Derived.Test.YtnfngaapjodpcaaHOxX
import Derived.Test.YtnfngaapjodpcaaHOxOpen
set_option linter.unusedVariables false
set_option linter.unusedSimpArgs false
namespace Go.Ox

/-! ### Loops run out, at any depth -/

def findK : List Code → Nat → Option Code
  | [], _ => none
  | c :: l, k => if keyOf c = k then some c else findK l k
def nodupB : List Nat → Bool
  | [] => true
  | x :: l => !(l.contains x) && nodupB l
theorem findK_mem : ∀ (l : List Code), nodupB (l.map keyOf) = true → ∀ c ∈ l, findK l (keyOf c) = some c
  | [], _, _, h => by cases h
  | d :: l, hn, c, h => by
    simp only [List.map_cons, nodupB, Bool.and_eq_true, Bool.not_eq_true', List.contains_eq_mem, decide_eq_false_iff_not] at hn
    rcases List.mem_cons.1 h with rfl | h
    · simp [findK]
    · have : keyOf d ≠ keyOf c := fun e => hn.1 (by rw [e]; exact List.mem_map_of_mem h)
      rw [findK, if_neg this]
      exact findK_mem l hn.2 c h
/-- What lies within a loop, or a scope. -/
def inL : Code → List Code
  | .scope c => loopsIn c
  | c => loopsIn c

/-- The loops within, so deep, have keys apart. -/
def keysB : Nat → List Code → Bool
  | 0, l => l.isEmpty
  | d + 1, l => nodupB (l.map keyOf) && l.all fun c => keysB d (inL c)

noncomputable def runE (P : Program) (nt n0 : Nat) (fns : List (Nat × Summ)) (n : Nat) : Nat → List Code → Env
  | 0, _ => { nt, n0, fns, loop := fun _ _ => .fail, vec := true }
  | d + 1, l => { nt, n0, fns, vec := true, loop := fun k st => match findK l k with
    | some (.scope c) => scopeN P (runE P nt n0 fns n d (loopsIn c)) c n c st
    | some c => unrollN P (runE P nt n0 fns n d (loopsIn c)) c n st
    | none => .fail }

theorem runE_nt {P : Program} {nt n0 : Nat} {fns : List (Nat × Summ)} {n : Nat} : ∀ (d : Nat) (l : List Code), (runE P nt n0 fns n d l).nt = nt ∧ (runE P nt n0 fns n d l).n0 = n0 ∧ (runE P nt n0 fns n d l).fns = fns
  | 0, _ => ⟨rfl, rfl, rfl⟩
  | _ + 1, _ => ⟨rfl, rfl, rfl⟩

theorem runE_ok {P : Program} {nt n0 : Nat} {fns : List (Nat × Summ)} (hE : EnvOK P fns) {n : Nat} : ∀ (d : Nat) (l : List Code), keysB d l = true → ∀ c ∈ l, LoopOK P (runE P nt n0 fns n d l) c
  | 0, l, h, c, hc => by
    simp only [keysB, List.isEmpty_iff] at h
    subst h; cases hc
  | d + 1, l, h, c, hc => by
    simp only [keysB, Bool.and_eq_true, List.all_eq_true] at h
    by_cases hs : isScopeB c = true
    · obtain ⟨c0, rfl⟩ : ∃ c0, c = .scope c0 := by cases c <;> first | exact ⟨_, rfl⟩ | cases hs
      obtain ⟨a1, a2, a3⟩ := runE_nt (P := P) (nt := nt) (n0 := n0) (fns := fns) (n := n) d (loopsIn c0)
      refine scope_ok (E := runE P nt n0 fns n (d + 1) l) hE (runE P nt n0 fns n d (loopsIn c0)) a1 a2 a3 n (runE_ok hE d (loopsIn c0) (h.2 _ hc)) ?_
      funext st
      show (match findK l (keyOf (.scope c0)) with
        | some (.scope c) => scopeN P (runE P nt n0 fns n d (loopsIn c)) c n c st
        | some c => unrollN P (runE P nt n0 fns n d (loopsIn c)) c n st
        | none => .fail) = _
      rw [findK_mem l h.1 _ hc]
    · have hs : isScopeB c = false := by simpa using hs
      have hin : inL c = loopsIn c := by cases c <;> first | rfl | cases hs
      obtain ⟨a1, a2, a3⟩ := runE_nt (P := P) (nt := nt) (n0 := n0) (fns := fns) (n := n) d (loopsIn c)
      refine unroll_ok (E := runE P nt n0 fns n (d + 1) l) hE (runE P nt n0 fns n d (loopsIn c)) a1 a2 a3 n (runE_ok hE d (loopsIn c) (by rw [← hin]; exact h.2 c hc)) ?_ hs
      funext st
      show (match findK l (keyOf c) with
        | some (.scope c) => scopeN P (runE P nt n0 fns n d (loopsIn c)) c n c st
        | some c => unrollN P (runE P nt n0 fns n d (loopsIn c)) c n st
        | none => .fail) = _
      rw [findK_mem l h.1 c hc]
      split
      · rename_i heq; cases heq; cases hs
      · rename_i heq; cases heq; rfl
      · rename_i heq; cases heq

/-- A function told by its code, its loops run out. -/
noncomputable def inFn (P : Program) (fns : List (Nat × Summ)) (fn : Func) : Summ :=
  .eff fun args m => afn P (runE P fn.ntmps m.length fns 10000 4 (loopsIn (codeOf fn))) fn (codeOf fn) args m

theorem inFn_ok {P : Program} {fns : List (Nat × Summ)} (hE : EnvOK P fns) {f : FuncId} {fn : Func} (hc : CanEnter P f) (hf : P.funcs[f]? = some fn) (hb : fn.body = some (codeOf fn)) (hk : keysB 4 (loopsIn (codeOf fn)) = true) : SummOK P f (inFn P fns fn) := by
  refine ⟨hc, fun args m Q hq hb' => ?_⟩
  obtain ⟨a1, a2, a3⟩ := runE_nt (P := P) (nt := fn.ntmps) (n0 := m.length) (fns := fns) (n := 10000) 4 (loopsIn (codeOf fn))
  exact fn_any hf hb (by rw [a3]; exact hE) (runE_ok hE 4 _ hk) a1 a2 Q hq hb'

/-- Functions told by their codes, the inner ones behind. -/
noncomputable def inl (P : Program) (base : List (Nat × Summ)) : List (Nat × Func) → List (Nat × Summ)
  | [] => base
  | (f, fn) :: l => (f, openS (inFn P (inl P base l) fn)) :: inl P base l
def InlOK (P : Program) : List (Nat × Func) → Prop
  | [] => True
  | (f, fn) :: l => (CanEnter P f ∧ P.funcs[f]? = some fn ∧ fn.body = some (codeOf fn) ∧ keysB 4 (loopsIn (codeOf fn)) = true) ∧ InlOK P l
theorem inl_ok {P : Program} {base : List (Nat × Summ)} (hb : EnvOK P base) : ∀ (l : List (Nat × Func)), InlOK P l → EnvOK P (inl P base l)
  | [], _ => hb
  | (f, fn) :: l, ⟨⟨h1, h2, h3, h4⟩, h⟩ => EnvOK.cons (open_ok (inFn_ok (inl_ok hb l h) h1 h2 h3 h4)) (inl_ok hb l h)

/-- A law (or any function) with such callees. -/
noncomputable def inlE (P : Program) (base : List (Nat × Summ)) (l : List (Nat × Func)) (fn : Func) (n0 : Nat) : Env := runE P fn.ntmps n0 (inl P base l) 10000 4 (loopsIn (codeOf fn))

theorem inlE_walks {P : Program} {base : List (Nat × Summ)} (hb : EnvOK P base) {l : List (Nat × Func)} (hl : InlOK P l) {fn : Func} (hk : keysB 4 (loopsIn (codeOf fn)) = true) {args : List AV} {m : AM}
    (h : ((afn P (inlE P base l fn m.length) fn (codeOf fn) args m).bind fun r => .ret r.1).holds fun v => v.yes = true) : Walks P fn (codeOf fn) args m := by
  obtain ⟨a1, a2, a3⟩ := runE_nt (P := P) (nt := fn.ntmps) (n0 := m.length) (fns := inl P base l) (n := 10000) 4 (loopsIn (codeOf fn))
  exact ⟨inlE P base l fn m.length, by unfold inlE; rw [a3]; exact inl_ok hb l hl, runE_ok (inl_ok hb l hl) 4 _ hk, a1, a2, by rw [T.holds_bind] at h; exact h⟩

/-! ### Closed tests -/

/-- 1: the test is true; 0: it is false; 2 k: both ways, the first one's hints are k. -/
def T.cut {α : Type} : T α → List Nat → T α
  | .ret a, _ => .ret a
  | .chk b t, h => .chk b (t.cut h)
  | .need p t, h => .need p (t.cut h)
  | .asm b t, h => .asm b (t.cut h)
  | .all k, h => .all fun c => (k c).cut h
  | .alf k, h => .alf fun c => (k c).cut h
  | .fail, _ => .fail
  | .ite b t e, h => match h with
    | 1 :: h => .chk b (t.cut h)
    | 0 :: h => .chk (!b) (e.cut h)
    | 2 :: k :: h => .ite b (t.cut (h.take k)) (e.cut (h.drop k))
    | _ => .ite b t e

theorem T.cut_holds {α : Type} {Q : α → Prop} : ∀ (t : T α) (h : List Nat), (t.cut h).holds Q → t.holds Q
  | .ret _, _, hq => hq
  | .chk _ t, h, hq => ⟨hq.1, T.cut_holds t h hq.2⟩
  | .need _ t, h, hq => ⟨hq.1, T.cut_holds t h hq.2⟩
  | .asm _ t, h, hq => fun hb => T.cut_holds t h (hq hb)
  | .all k, h, hq => fun c => T.cut_holds (k c) h (hq c)
  | .alf k, h, hq => fun c => T.cut_holds (k c) h (hq c)
  | .fail, _, hq => hq
  | .ite b t e, h, hq => by
    unfold T.cut at hq
    split at hq
    · exact ⟨fun _ => T.cut_holds t _ hq.2, fun hb => by rw [hb] at hq; exact absurd hq.1 (by decide)⟩
    · exact ⟨fun hb => by rw [hb] at hq; exact absurd hq.1 (by decide), fun _ => T.cut_holds e _ hq.2⟩
    · exact ⟨fun hb => T.cut_holds t _ (hq.1 hb), fun hb => T.cut_holds e _ (hq.2 hb)⟩
    · exact hq

theorem T.cut_eq {α : Type} {Q : α → Prop} {t u : T α} {h : List Nat} (e : t.cut h = u) (hu : u.holds Q) : t.holds Q := T.cut_holds t h (e ▸ hu)

/-- A function of no arguments that tells true, whatever else it does. -/
def yesS : List AV → AM → T AV
  | [], _ => .ret (.bool true)
  | _, _ => .fail
theorem yes_ok {P : Program} {base : List (Nat × Summ)} (hb : EnvOK P base) {l : List (Nat × Func)} (hl : InlOK P l) {f : FuncId} {fn : Func} (hc : CanEnter P f) (hf : P.funcs[f]? = some fn) (hbd : fn.body = some (codeOf fn)) (hk : keysB 4 (loopsIn (codeOf fn)) = true)
    (h' : (vfn P (inlE P base l fn 0) fn (codeOf fn) []).holds fun v => v.yes = true) : SummOK P f (.pure yesS) := by
  have h := vfn_yes h'
  obtain ⟨a1, a2, a3⟩ := runE_nt (P := P) (nt := fn.ntmps) (n0 := 0) (fns := inl P base l) (n := 10000) 4 (loopsIn (codeOf fn))
  refine pure_weak (s := fun args _ => (fun (a : List AV) => match a with
    | [] => T.ret (AV.bool true)
    | _ => .fail) args) (pure_ok hc fun args Q hq => ?_) ?_
  · split at hq
    · refine ⟨rfl, rfl, fun Q hq hbl w0 X loc w hm => ?_⟩
      have := fn_ok (P := P) (E := inlE P base l fn 0) (f := f) (fn := fn) (c := codeOf fn) (args := []) (m := []) (t := .ret (.bool true, [])) hf hbd (by unfold inlE; rw [a3]; exact inl_ok hb l hl) (runE_ok (inl_ok hb l hl) 4 _ hk) a1 a2
        (fun Q hq => T.holds_mono (fun r hr => ⟨id, .bool true, [], hq, fun loc => by rw [AV.yes_conc hr]; simp [ren, conc], by simp [below], Sub.nil _ _⟩) _ h)
      exact this Q hq hbl w0 X loc w hm
    · exact hq.elim
  · intro args m Q hq
    unfold yesS at hq
    split at hq
    · exact hq
    · exact hq.elim

theorem closed_walks {P : Program} {base : List (Nat × Summ)} (hb : EnvOK P base) {l : List (Nat × Func)} (hl : InlOK P l) {fn : Func} (hk : keysB 4 (loopsIn (codeOf fn)) = true)
    (h : (vfn P (inlE P base l fn 0) fn (codeOf fn) []).holds fun v => v.yes = true) : Walks P fn (codeOf fn) [] [] := by
  obtain ⟨a1, a2, a3⟩ := runE_nt (P := P) (nt := fn.ntmps) (n0 := 0) (fns := inl P base l) (n := 10000) 4 (loopsIn (codeOf fn))
  exact ⟨inlE P base l fn 0, by unfold inlE; rw [a3]; exact inl_ok hb l hl, runE_ok (inl_ok hb l hl) 4 _ hk, a1, a2, vfn_yes h⟩

end Go.Ox
