/-
  Layer 27: deviation, New, May.
-/
import Derived.Test.YtmhlkcboajgigaaProg
import Derived.Test.YtmhlkcboajgigaaHOxW
namespace Go.Proofs.Ytmhlkcboajgigaa
open Go.Ox
set_option maxRecDepth 100000
set_option linter.unusedVariables false
set_option linter.unusedSimpArgs false

noncomputable def dvE : Env := { nt := Try.f18.ntmps, n0 := 0, fns := [], loop := fun _ _ => .fail }
noncomputable def nwE : Env := { nt := Try.f9.ntmps, n0 := 0, fns := [], loop := fun _ _ => .fail }
noncomputable def myE : Env := { nt := Try.f8.ntmps, n0 := 0, fns := [], loop := fun _ _ => .fail }

theorem dv_fn (a b : Int) : vfn Try.prog dvE Try.f18 (codeOf Try.f18) [.int .i64 a, .int .i64 b] = 
  T.ret (AV.int IntKind.u64 (IntKind.wrap IntKind.u64 (IntKind.wrap IntKind.u64 (if b > a then b else a) - IntKind.wrap IntKind.u64 (if b < a then b else a)))) := by
  kernel_rfl

theorem nw_fn (a b : Int) : afn Try.prog nwE Try.f9 (codeOf Try.f9) [.int .i64 a, .int .i64 b] [] = 
  T.ret (AV.ptr (0 : Nat) (0 : Nat) (0 : Nat) (0 : Nat), [some (Blk.mk true [AV.int IntKind.i64 a, AV.int IntKind.i64 b, AV.int IntKind.i64 (0 : Int), AV.ff] (0 : Nat) (0 : Nat) (fun x => []) [] none)]) := by
  kernel_rfl

theorem my_fn (a : Int) : vfn Try.prog myE Try.f8 (codeOf Try.f8) [.int .i64 a] = 
  T.ite (a == (-9223372036854775808 : Int)) (T.ret (AV.int IntKind.i64 (1 : Int))) (T.ret (AV.int IntKind.i64 (if IntKind.wrap IntKind.i64 ((0 : Int) - a) > if a > (1 : Int) then a else (1 : Int) then IntKind.wrap IntKind.i64 ((0 : Int) - a) else if a > (1 : Int) then a else (1 : Int)))) := by
  kernel_rfl

/-- How far two numbers are apart. -/
def dvG (a b : Int) : Int := IntKind.wrap .u64 (IntKind.wrap .u64 (if b > a then b else a) - IntKind.wrap .u64 (if b < a then b else a))
theorem dvG_eq {a b : Int} (ha : -9223372036854775808 ≤ a ∧ a ≤ 9223372036854775807) (hb : -9223372036854775808 ≤ b ∧ b ≤ 9223372036854775807) : dvG a b = if a < b then b - a else a - b := by
  unfold dvG
  simp only [IntKind.wrap_u64]
  repeat' split
  all_goals omega
def myG (a : Int) : Int := if a = -9223372036854775808 then 1 else if IntKind.wrap .i64 (0 - a) > (if a > 1 then a else 1) then IntKind.wrap .i64 (0 - a) else if a > 1 then a else 1
theorem myG_pos (a : Int) : 1 ≤ myG a := by
  unfold myG
  repeat' split
  all_goals omega

def dvS : List AV → T AV
  | [.int .i64 a, .int .i64 b] => .ret (.int .u64 (dvG a b))
  | _ => .fail
def myS : List AV → T AV
  | [.int .i64 a] => .ret (.int .i64 (myG a))
  | _ => .fail

theorem dv_ok : SummOK Try.prog 18 (.pure fun args _ => dvS args) := by
  refine val_fn (E := dvE) (c := codeOf Try.f18) (fun args w => Try.call18 args w) Try.func18 rfl (EnvOK.nil) (noLoops (by kernel_rfl)) rfl rfl ?_
  intro args Q hq
  unfold dvS at hq ⊢
  split at hq
  · refine ⟨rfl, _, rfl, fun Q h => h, rfl, ?_⟩
    rw [dv_fn]
    exact T.hret (Ox.Alike_refl _)
  · exact hq.elim

theorem my_ok : SummOK Try.prog 8 (.pure fun args _ => myS args) := by
  refine val_fn (E := myE) (c := codeOf Try.f8) (fun args w => Try.call8 args w) Try.func8 rfl (EnvOK.nil) (noLoops (by kernel_rfl)) rfl rfl ?_
  intro args Q hq
  unfold myS at hq ⊢
  split at hq
  · rename_i a
    refine ⟨rfl, _, rfl, fun Q h => h, rfl, ?_⟩
    rw [my_fn]
    refine T.hite (fun h => ?_) (fun h => ?_)
    · have h : a = -9223372036854775808 := by simpa using h
      have e : myG a = 1 := if_pos h
      rw [e]; exact T.hret (Ox.Alike_refl _)
    · have h : ¬ a = -9223372036854775808 := by simpa using h
      have e : myG a = _ := if_neg h
      rw [e]; exact T.hret (Ox.Alike_refl _)
  · exact hq.elim

end Go.Proofs.Ytmhlkcboajgigaa
