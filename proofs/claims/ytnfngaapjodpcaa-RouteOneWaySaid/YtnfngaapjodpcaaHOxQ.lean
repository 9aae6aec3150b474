/-
  Slices of numbers that came in: blocks to be read alone; a law of such arguments out of its tree.
-/
import Derived.Test.YtnfngaapjodpcaaHOxP
import Derived.Below
set_option linter.unusedVariables false
set_option linter.unusedSimpArgs false
namespace Go.Ox
open Go.RowKit

theorem MR.below' {w w' : World} {loc : Loc} {m : AM} (h : MR w (fun _ => False) loc m w') : Below w.heap.size w w' :=
  ⟨h.os, h.tape, h.output, h.size, fun k hk => h.keep k hk id⟩

/-- One more block, to be read alone, where none is written. -/
theorem MR.lend {w0 : World} {X : Nat → Prop} {loc : Loc} {m : AM} {w : World} (h : MR w0 X loc m w) (hro : ∀ id b, m.get id = some b → b.rw = false) (b : Blk) (hb : b.rw = false) (hbf : b.fam = Option.none) (p : LE) (hlt : p.1 < w.heap.size)
    (hc : ∀ o, o < b.size → w.cell? ⟨p.1, p.2 + o, Option.none⟩ = some (conc loc (b.cell o))) (hw : ∀ o, o < b.size → below m.length (b.cell o)) (hsc : ∀ o, o < b.size → (b.cell o).scalar = true) :
    MR w0 X (addLoc loc m.length p) (m ++ [some b]) w :=
  h.lendAt b hb hbf p hlt (fun id c hg hr => by rw [hro id c hg] at hr; cases hr) hc hw hsc

/-- A law whose arguments lead to blocks that are read alone. -/
theorem law_lent {P : Program} {E : Env} {f : FuncId} {fn : Func} {c : Code} (hf : P.funcs[f]? = some fn) (hb : fn.body = some c) (hE : EnvOK P E.fns) (hL : ∀ c' ∈ loopsIn c, LoopOK P E c') (hnt : E.nt = fn.ntmps)
    (args : List AV) (m : AM) (hn0 : E.n0 = m.length) (hp : belowL m.length args) (hm : SubBlks m.length id m 0 m) {loc : Loc} {vs : Array Value} (hvs : (concL loc args).toArray = vs)
    (ht : (afn P E fn c args m).holds fun r => r.1.yes = true ∧ Sub m.length id r.2 m) (w : World) (hw : MR w (fun _ => False) loc m w) :
    Calls P f vs w fun e w' => e = .returned (.bool true) ∧ Below w.heap.size w w' := by
  have he : EffAt P f args m (.ret (.tt, m)) := fn_ok hf hb hE hL hnt hn0 fun Q hq =>
    T.holds_mono (fun r hr => ⟨id, .tt, m, hq, fun loc => by rw [AV.yes_conc hr.1]; simp [ren, conc], by simp [below], hr.2⟩) _ ht
  have := he (fun r => r = (.tt, m)) rfl hp w (fun _ => False) loc w hw
  rw [hvs] at this
  refine this.mono ?_
  rintro e w' ⟨v, m', loc', hQ, rfl, _, _, hmr, _⟩
  simp only [Prod.mk.injEq] at hQ
  obtain ⟨rfl, rfl⟩ := hQ
  exact ⟨by simp [conc], hmr.below'⟩

end Go.Ox
