/-
  'RouteOneWay': for every input the law returns true, and its arguments read as before. No further condition.
-/
import Derived.Test.YtnfngaapjodpcaaRows
import Derived.Test.YtnfngaapjodpcaaHQB
import Derived.Test.YtnfngaapjodpcaaHOxNest
import Derived.WalkKit
import Derived.ProofKit
import Derived.OpenShut
namespace Go.Proofs.Ytnfngaapjodpcaa.routeOneWay
open Go.ChangeShapes Go.WideShapes Go.ChangeAt Go.RowKit Go.Ox
set_option linter.unusedVariables false

theorem own : ownKnob Try.prog.godebug = none := by kernel_rfl
theorem laidOut : laidOutB Try.prog = true := by kernel_rfl

theorem walk : ∀ args m, ArgsAVn [PK.agg [CK.int IntKind.i64, CK.sl [CK.int IntKind.i64, CK.sl [CK.int IntKind.i64], CK.int IntKind.i64, CK.int IntKind.i64, CK.int IntKind.i64, CK.int IntKind.i64, CK.int IntKind.i64, CK.int IntKind.i64]], PK.one (CK.sl [CK.int IntKind.i64]), PK.one (CK.int IntKind.i64), PK.one (CK.int IntKind.i64), PK.one (CK.int IntKind.i64)] [] args m → YesAt Try.prog 4 args m := by
  exact wy_law

set_option maxRecDepth 100000 in
theorem lifted (os : Os) (started : os.Started) (H : Type) (enc : TypeId × Value → H) :
    ReturnsInHanded {} Try.checked os 4 .any (Rows.routeOneWaySpec.pre6 enc Try.prog Try.f4 Rows.routeOneWayRow.domain false) (Rows.routeOneWaySpec.post enc Try.prog Try.f4 false true false false) := by
  refine returnsInHanded_of_change (C := Try.checked) own started (by kernel_rfl) Try.func4
    (ChangeSpec.witness6 (enc := enc) (C := Try.checked) false ⟨#[], #[.agg #[.int .i64 0, .slice none 0 0], .slice none 0 0, .int .i64 0, .int .i64 0, .int .i64 0], []⟩ 8 (by kernel_rfl) (by kernel_rfl) (by kernel_rfl) (by kernel_rfl)) ?_
  intro W base args ds gs before hval0 hW hcnd _
  have hW' := hW
  obtain ⟨p, q, hA, hV, rfl, hfz, hnd⟩ := hW
  obtain ⟨rfl, rfl⟩ := trodVars_none hV
  have hl0 : ds.length = 5 := (trodAll_length _ _ _ _ hA).trans (by kernel_rfl)
  obtain ⟨d0, l0, e0, hl1⟩ := listS hl0
  subst e0
  obtain ⟨d1, l1, e1, hl2⟩ := listS hl1
  subst e1
  obtain ⟨d2, l2, e2, hl3⟩ := listS hl2
  subst e2
  obtain ⟨d3, l3, e3, hl4⟩ := listS hl3
  subst e3
  obtain ⟨d4, l4, e4, hl5⟩ := listS hl4
  subst e4
  obtain rfl := list0 hl5
  refine (law_argsE Try.func4 rfl [PK.agg [CK.int IntKind.i64, CK.sl [CK.int IntKind.i64, CK.sl [CK.int IntKind.i64], CK.int IntKind.i64, CK.int IntKind.i64, CK.int IntKind.i64, CK.int IntKind.i64, CK.int IntKind.i64, CK.int IntKind.i64]], PK.one (CK.sl [CK.int IntKind.i64]), PK.one (CK.int IntKind.i64), PK.one (CK.int IntKind.i64), PK.one (CK.int IntKind.i64)] (by kernel_rfl) (by kernel_rfl) walk (fun g k l h => by cases h) hA hval0).mono fun e W' ⟨he, bel⟩ => ?_
  subst he
  exact ⟨_, rfl, _, _, _, [], _, [], hW', trodAll_mk1 (shut_bool Try.underlying4 _), trodAll_below laidOut bel _ _ _ _ (by kernel_rfl) hA, rfl, bel.frame _, fun h => by cases h⟩

theorem over : Rows.routeOneWayRow.holds Try.pinned (OpenSpec.ofChange Rows.routeOneWaySpec) :=
  OpenClaim.holds_of_wide 4 Try.f4 rfl rfl rfl rfl rfl rfl rfl ⟨rfl, rfl, rfl, rfl, rfl⟩ rfl rfl rfl rfl rfl (by kernel_rfl) Try.func4 (by kernel_rfl)
    (of_decide_eq_true (by kernel_rfl)) (by unfold Func.isWrapper; first | (rw [if_pos (by decide +kernel)]; kernel_rfl) | (rw [if_neg (by decide +kernel)]; exact ⟨rfl, rfl⟩))
    (fun os started H enc _ => lifted os started H enc)

theorem proved : Rows.RouteOneWaySaid :=
  over
end Go.Proofs.Ytnfngaapjodpcaa.routeOneWay
