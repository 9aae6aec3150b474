/-
  Functions and laws in pieces.
-/
import Derived.Test.YtnfngaapjodpcaaHOxCut
import Derived.Test.YtnfngaapjodpcaaHOxNest
import Derived.Test.YtnfngaapjodpcaaHOxZ
namespace Go.Ox
open Go.RowKit Go.WideShapes Go.ChangeShapes
set_option maxRecDepth 100000
set_option linter.unusedVariables false
set_option linter.unusedSimpArgs false

theorem fn_okA {P : Program} {E : Env} {f : FuncId} {fn : Func} {c : Code} (hf : P.funcs[f]? = some fn) (hb : fn.body = some c) (hnt : E.nt = fn.ntmps)
    {args : List AV} {m : AM} (hn0 : E.n0 = m.length) (hlen : args.length ≤ E.nt) {t : T (AV × AM)} (ht : ∀ Q, t.holds Q → AWpL P E (chainOf c) ⟨enum 0 args, m⟩ (FnPost P fn m.length Q)) : EffAt P f args m t :=
  fn_okW hf hb hnt hn0 hlen fun Q hq => awp_chain (ht Q hq)

/-- A law's walk, however it goes. -/
def YesAt (P : Program) (f : FuncId) (args : List AV) (m : AM) : Prop := EffAt P f args m (.ret (.tt, List.replicate m.length none))

theorem yes_post {P : Program} {fn : Func} {n0 k : Nat} {m : AM} {Q : AV × AM → Prop} (hr : fn.results.toList = [.tmp k]) (hq : Q (.tt, List.replicate n0 none)) {fr : List (Nat × AV)} {v : AV} (hs : slotAt fr k = some v) (hy : v.yes = true) :
    FnPost P fn n0 Q (.ret, ⟨fr, m⟩) := by
  unfold FnPost
  rw [hr]
  simp only [aresults, hs]
  exact ⟨id, .tt, _, hq, fun loc => by show conc loc v = _; rw [AV.yes_conc hy]; simp [ren, conc], by simp [below], Sub.nothing _⟩

theorem law_argsE {P : Program} {f : FuncId} {fn : Func} {c : Code} (hf : P.funcs[f]? = some fn) (hb : fn.body = some c) (ps : List PK) (hps : fn.params.toList.mapM (pkOf P 12) = some ps) (hflat : ps.all PK.deep = true)
    (walk : ∀ args m, ArgsAVn ps [] args m → YesAt P f args m)
    {H : Type} {enc : TypeId × Value → H} {w : World} (hgl : GlobIn w (fun _ => False)) {base : Nat} {args : Array Value} {ds : List (DataW H)} {pl : List MemPlace} (hA : DataW.TrodAll enc P w 0 (fun _ => true) true fn.params.toList args.toList ds pl)
    (hval : ∀ (j : Nat) t v, fn.params[j]? = some t → args[j]? = some v → Value.okWide P w .any base t v) :
    Calls P f args w fun e w' => e = .returned (.bool true) ∧ Below w.heap.size w w' := by
  obtain ⟨l, m, loc, h1, h2, h3, h4⟩ := lend_argsN fn.params.toList ps args.toList ds pl [] (fun _ => LE.mk 0 0 noFam) hps hflat hA (fun j t v ht hv => ⟨.any, base, hval j t v (by simpa using ht) (by simpa using hv)⟩) (MR.none w _ _ hgl) (fun _ _ h => by cases h)
  have := walk l m h1 (fun r => r = (.tt, List.replicate m.length none)) rfl h3 w (fun _ => False) loc w h4.mr
  rw [show (concL loc l).toArray = args from by rw [h2]] at this
  refine this.mono ?_
  rintro e w' ⟨v, m', loc', hQ, rfl, _, _, hmr, _⟩
  simp only [Prod.mk.injEq] at hQ
  obtain ⟨rfl, rfl⟩ := hQ
  exact ⟨by simp [conc], hmr.below'⟩

theorem walks_yes {P : Program} {f : FuncId} {fn : Func} {c : Code} (hf : P.funcs[f]? = some fn) (hb : fn.body = some c) {args : List AV} {m : AM} (h : Walks P fn c args m) : YesAt P f args m := by
  obtain ⟨E, e1, e2, e3, e4, e5⟩ := h.walk
  exact fn_ok hf hb e1 e2 e3 e4 fun Q hq =>
    T.holds_mono (fun r hr => ⟨id, .tt, _, hq, fun loc => by rw [AV.yes_conc hr]; simp [ren, conc], by simp [below], Sub.nothing _⟩) _ e5

theorem awpl_one {P : Program} {E : Env} {Q : Ex × St → Prop} {c : Code} {st : St} (h : AWp P E c st Q) : AWpL P E [c] st Q := by
  have h2 : AWpL P E (([] : List Code) ++ [c]) st Q := by
    intro w0 X loc0 loc a w hs
    refine wp_mono (h w0 X loc0 loc a w hs) fun e a' w' he => ?_
    cases e with
    | normal =>
      obtain ⟨loc', st', h1, h2⟩ := he
      exact ⟨loc', st', fun w0' X' loc0' loc'' a'' w'' hs' => ⟨loc'', st', h1, hs'⟩, h2⟩
    | exit id => exact he
    | ret => exact he
    | goto l => exact he
    | panic ch => exact he
    | outgrown => exact he
  exact h2

/-- A loop by an invariant, left to whatever is asked. -/
theorem loop_free {P : Program} {E : Env} {c : Code} {ι : Type} (σ : ι → St) (inv : ι → Prop) (μ : ι → Nat) {Q : Ex × St → Prop}
    (round : ∀ x, inv x → AWp P E c (σ x) (Round E σ inv μ (fun _ => .asm false .fail) Q x)) (x : ι) (hx : inv x) : AWp P E (.loop c) (σ x) Q := by
  intro w0 X loc0 loc a w h
  refine wp_loop_rel (fun n a w => ∃ x loc, inv x ∧ μ x = n ∧ SR E.nt E.n0 w0 X loc0 loc (σ x) a w) ?_ ⟨x, _, hx, rfl, h⟩
  rintro n a w ⟨x, loc, hx, rfl, h⟩
  refine wp_mono (round x hx w0 X loc0 loc a w h) ?_
  intro e a' w' he
  cases e with
  | normal =>
    obtain ⟨loc', st', ⟨y, ρ, h1, h2, h3, h4⟩, hs⟩ := he
    exact ⟨μ y, h2, y, _, h1, rfl, hs.sub h3⟩
  | exit id =>
    obtain ⟨loc', st', ⟨ρ, st2, h1, h2⟩, hs⟩ := he
    exact ⟨_, st2, h2, hs.sub h1⟩
  | ret =>
    obtain ⟨loc', st', ⟨ρ, st2, h1, h2⟩, hs⟩ := he
    exact ⟨_, st2, h2, hs.sub h1⟩
  | goto l =>
    obtain ⟨loc', st', ⟨ρ, st2, h1, h2⟩, hs⟩ := he
    exact ⟨_, st2, h2, hs.sub h1⟩
  | panic ch => exact he
  | outgrown => exact he

theorem any_ff {α : Type} {Q : α → Prop} : (T.asm false (.fail : T α)).holds Q := fun h => by cases h

theorem AWpL.env' {P : Program} {E E' : Env} (hn : E'.nt = E.nt) (h0 : E'.n0 = E.n0) {Q : Ex × St → Prop} : ∀ {l : List Code} {st : St}, AWpL P E' l st Q → AWpL P E l st Q
  | [], st, h => fun w0 X loc0 loc a w hs => by
    have := h w0 X loc0 loc a w (by rw [hn, h0]; exact hs)
    simpa only [PostOf, hn, h0] using this
  | c :: l, st, h => AWp.env hn h0 (AWp.mono h fun r hr => by
    obtain ⟨e, st'⟩ := r
    cases e with
    | norm => exact AWpL.env' hn h0 hr
    | exit id => exact hr
    | ret => exact hr
    | goto l => exact hr)

theorem awpl_split {P : Program} {E : Env} {Q : Ex × St → Prop} (n : Nat) {l : List Code} {st : St} (h : AWpL P E (l.take n) st (Then Q fun st' => AWpL P E (l.drop n) st' Q)) : AWpL P E l st Q := by
  have := awpl_app (l2 := l.drop n) h
  rwa [List.take_append_drop] at this

theorem yes_bind {t : T (AV × AM)} (h : (t.bind fun r => (.ret r.1 : T AV)).holds fun v => v.yes = true) : t.holds fun r => r.1.yes = true := (T.holds_bind t).1 h

/-- 'holds', shut: the elaborator does not look into it. -/
structure Hold {α : Type} (t : T α) (Q : α → Prop) : Prop where
  h : t.holds Q

theorem Hold.walks {P : Program} {fn : Func} {c : Code} {args : List AV} {m : AM} (E : Env) (h1 : EnvOK P E.fns) (h2 : ∀ c' ∈ loopsIn c, LoopOK P E c') (h3 : E.nt = fn.ntmps) (h4 : E.n0 = m.length) (h : Hold ((afn P E fn c args m).bind fun r => (.ret r.1 : T AV)) fun v => v.yes = true) : Walks P fn c args m :=
  ⟨E, h1, h2, h3, h4, (T.holds_bind _).1 h.h⟩

theorem Hold.cut {α : Type} {Q : α → Prop} {t u : T α} {h : List Nat} (e : t.cut h = u) (hu : Hold u Q) : Hold t Q := ⟨T.cut_eq e hu.h⟩

/-- How a pass through a scope may end: by a jump to its label (less is left then), or as what stands outside asks. -/
def ScopeR {ι : Type} (E : Env) (σ : ι → St) (inv : ι → Prop) (μ : ι → Nat) (l0 n : Nat) (Q : Ex × St → Prop) (r : Ex × St) : Prop :=
  match r.1 with
  | .goto l => l = l0 ∧ ∃ y ρ, inv y ∧ μ y < n ∧ SubSt E.n0 ρ r.2 (σ y)
  | e => ∃ ρ st', SubSt E.n0 ρ r.2 st' ∧ Q (e, st')

/-- A scope by an invariant of what holds at its label. -/
theorem scope_free {P : Program} {E : Env} {c rest : Code} {l0 : Nat} (hl : findLabel c l0 = some rest) {ι : Type} (σ : ι → St) (inv : ι → Prop) (μ : ι → Nat) (B : Nat) {Q : Ex × St → Prop}
    (round : ∀ x, inv x → AWp P E rest (σ x) (ScopeR E σ inv μ l0 (μ x) Q)) {st : St} (first : AWp P E c st (ScopeR E σ inv μ l0 B Q)) (hB : ∀ y, inv y → μ y < B) : AWp P E (.scope c) st Q := by
  intro w0 X loc0 loc a w h
  refine wp_scope_rel (fun n x a w => x.wp P (PostOf E w0 X loc0 (ScopeR E σ inv μ l0 n Q)) a w) ?_ (n := B) (first w0 X loc0 loc a w h)
  intro n x a w hx
  refine wp_mono hx ?_
  intro e a' w' he
  cases e with
  | normal => obtain ⟨loc', st', ⟨ρ, st2, h1, h2⟩, hs⟩ := he; exact ⟨_, st2, h2, hs.sub h1⟩
  | exit id => obtain ⟨loc', st', ⟨ρ, st2, h1, h2⟩, hs⟩ := he; exact ⟨_, st2, h2, hs.sub h1⟩
  | ret => obtain ⟨loc', st', ⟨ρ, st2, h1, h2⟩, hs⟩ := he; exact ⟨_, st2, h2, hs.sub h1⟩
  | goto l =>
    obtain ⟨loc', st', ⟨h1, y, ρ, h2, h3, h4⟩, hs⟩ := he
    subst h1
    exact .inl ⟨rest, μ y, hl, h3, round y h2 w0 X loc0 _ a' w' (hs.sub h4)⟩
  | panic ch => exact he
  | outgrown => exact he

end Go.Ox
