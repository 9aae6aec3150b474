/-
  Layer 19: AlignPlays: the barriers of a round (lemmas).
-/
import Derived.Test.YthbdkhlpojngeaaHPZ
import Derived.Test.YthbdkhlpojngeaaHOxZ
namespace Go.Proofs.Ythbdkhlpojngeaa
open Go.Ox
set_option maxRecDepth 100000
set_option maxHeartbeats 2000000
set_option linter.unusedVariables false
set_option linter.unusedSimpArgs false

theorem AWpL.env' {P : Program} {E E' : Env} (hn : E'.nt = E.nt) (h0 : E'.n0 = E.n0) {Q : Ex × St → Prop} : ∀ {l : List Code} {st : St}, AWpL P E' l st Q → AWpL P E l st Q
  | [], st, h => fun w0 X loc0 loc a w hs => by
    have := h w0 X loc0 loc a w (by rw [hn, h0]; exact hs)
    simpa only [PostOf, hn, h0] using this
  | c :: l, st, h => AWp.env hn h0 (AWp.mono h fun r hr => by
    obtain ⟨e, st'⟩ := r
    cases e with
    | norm => exact AWpL.env' hn h0 hr
    | exit id => exact hr
    | ret => exact hr
    | goto l => exact hr)

theorem awpl_split {P : Program} {E : Env} {Q : Ex × St → Prop} (n : Nat) {l : List Code} {st : St} (h : AWpL P E (l.take n) st (Then Q fun st' => AWpL P E (l.drop n) st' Q)) : AWpL P E l st Q := by
  have := awpl_app (l2 := l.drop n) h
  rwa [List.take_append_drop] at this

end Go.Proofs.Ythbdkhlpojngeaa
