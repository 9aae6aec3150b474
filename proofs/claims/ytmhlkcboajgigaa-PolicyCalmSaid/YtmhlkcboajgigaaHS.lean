/-
  Layer 27: PolicyCalm: the law.
-/
import Derived.Test.YtmhlkcboajgigaaHR
namespace Go.Proofs.Ytmhlkcboajgigaa
open Go.Ox
set_option maxRecDepth 100000
set_option linter.unusedVariables false
set_option linter.unusedSimpArgs false

noncomputable def caZ : Env := { laE Try.f4.ntmps with n0 := 0, loop := fun k => if k = 9 then unrollN Try.prog { laE Try.f4.ntmps with n0 := 0, loop := fun _ _ => .fail } (loopAt (codeOf Try.f4) 0) 1 else fun _ => .fail }

theorem ca_fn0 (cd sl : Int) : T.cut (afn Try.prog caZ Try.f4 (codeOf Try.f4) [.int .i64 cd, .int .i64 sl, .nils] []) [0] = 
  T.chk true
    (T.chk true
      (@T.chk (AV × AM) true
        (T.ret
          (AV.bool true,
            [some (Blk.mk true [AV.int IntKind.i64 (IntKind.wrap IntKind.i64 ((1 : Int) + if (1048576 : Int) < (1 : Int) then (0 : Int) else cd % (1048576 : Int))), AV.int IntKind.i64 (IntKind.wrap IntKind.i64 ((1 : Int) + if (1048576 : Int) < (1 : Int) then (0 : Int) else sl % (1048576 : Int))), AV.int IntKind.i64 (0 : Int), AV.bool false] (0 : Nat) (0 : Nat) (fun j => []) [] none)])))) := by
  kernel_rfl

theorem ca_holds (cd sl : Int) (x y : FD) (now no : Nat → Int) (idle : Nat → Bool) (len cap : Nat) (h1 : len ≤ cap) (h2 : cap ≤ maxLen) (hx : x.wf .i64) (hy : y.wf .i64) : (afn Try.prog caE Try.f4 (codeOf Try.f4) [.int .i64 cd, .int .i64 sl, .sl 2 0 5 0 len cap] (qsMem ⟨x, y, now, no, idle, len, cap⟩)).holds fun r => r.1.yes = true := by
  rw [ca_fn ⟨x, y, now, no, idle, len, cap⟩ cd sl]
  have b1 : 0 ≤ cd % 1048576 := Int.emod_nonneg _ (by decide)
  have b2 : cd % 1048576 < 1048576 := Int.emod_lt_of_pos _ (by decide)
  have c1 : 0 ≤ sl % 1048576 := Int.emod_nonneg _ (by decide)
  have c2 : sl % 1048576 < 1048576 := Int.emod_lt_of_pos _ (by decide)
  have i1 : (if (1048576 : Int) < 1 then 0 else cd % 1048576) = cd % 1048576 := if_neg (by decide)
  have i2 : (if (1048576 : Int) < 1 then 0 else sl % 1048576) = sl % 1048576 := if_neg (by decide)
  have w1 : IntKind.wrap .i64 (1 + cd % 1048576) = 1 + cd % 1048576 := w64 (by omega) (by omega)
  have w2 : IntKind.wrap .i64 (1 + sl % 1048576) = 1 + sl % 1048576 := w64 (by omega) (by omega)
  have w3 : IntKind.wrap .i64 (0 - (1 + cd % 1048576)) = - (1 + cd % 1048576) := by rw [w64 (by omega) (by omega)]; omega
  simp only [i1, i2, w1, w2, w3]
  refine T.hchk rfl (T.hchk rfl (T.hneed ⟨id, SubSt.mk (by simp [caSt, caX, SubFr, slotAt, ren, below, qsMem]) (qs_sub ?_ ?_ rfl rfl (pol_blk (by simp)))⟩ (T.hneed ⟨h1, h2, ?_, ?_, by dsimp only; omega, by dsimp only; omega, by dsimp only; omega, by dsimp only; omega, Int.le_refl _, by simp, by simp, by simp, fun _ => rfl, fun h => by cases h⟩ (T.hret rfl))))
  · exact congrArg some (congrArg Blk.family (funext fun js => by rfl))
  · exact congrArg some (congrArg Blk.family (funext fun js => by rfl))
  · exact ⟨hx.nil, hx.pos, hx.le, hx.max, hx.z⟩
  · exact ⟨hy.nil, hy.pos, hy.le, hy.max, hy.z⟩

theorem ca_walk (cd sl : Int) (x y : FD) (now no : Nat → Int) (idle : Nat → Bool) (len cap : Nat) (h1 : len ≤ cap) (h2 : cap ≤ maxLen) (hx : x.wf .i64) (hy : y.wf .i64) (args : List AV) (m : AM) (ha : args = [.int .i64 cd, .int .i64 sl, .sl 2 0 5 0 len cap]) (hm : m = qsMem ⟨x, y, now, no, idle, len, cap⟩) :
    Walks Try.prog Try.f4 (codeOf Try.f4) args m := by
  subst ha hm
  exact ⟨caE, laE_ok _, oneLoop (by kernel_rfl) ca_loop, rfl, rfl, ca_holds cd sl x y now no idle len cap h1 h2 hx hy⟩

theorem ca_walk0 (cd sl : Int) (args : List AV) (m : AM) (ha : args = [.int .i64 cd, .int .i64 sl, .nils]) (hm : m = []) :
    Walks Try.prog Try.f4 (codeOf Try.f4) args m := by
  subst ha hm
  refine ⟨caZ, laE_ok _, oneLoop (by kernel_rfl) (unroll_ok (E := caZ) (laE_ok _) { laE Try.f4.ntmps with n0 := 0, loop := fun _ _ => .fail } rfl rfl rfl 1 (noLoops (by kernel_rfl)) (by kernel_rfl)), rfl, rfl, T.cut_eq (ca_fn0 cd sl) ?_⟩
  repeat' first | with_reducible refine T.hchk ?_ ?_ | with_reducible refine T.hret ?_
  all_goals rfl

theorem ca_law : ∀ args m, ArgsAVn [PK.one (CK.int IntKind.i64), PK.one (CK.int IntKind.i64), PK.one (CK.sl [CK.int IntKind.i64, CK.sl [CK.int IntKind.i64], CK.sl [CK.int IntKind.i64], CK.int IntKind.i64, CK.bool])] [] args m → Walks Try.prog Try.f4 (codeOf Try.f4) args m := by
  intro args m h
  obtain ⟨cd, _, rfl, _, h⟩ := argsN_int h
  obtain ⟨sl, _, rfl, hs, h⟩ := argsN_int h
  rcases argsN_sl h with ⟨_, rfl, hh⟩ | ⟨len, cap, g, A, _, rfl, hA, hl, h1, h2, h3, hh⟩
  · obtain ⟨rfl, rfl⟩ := argsN_nil hh
    exact ca_walk0 cd sl _ _ rfl rfl
  · obtain ⟨rfl, rfl⟩ := argsN_nil hh
    obtain ⟨x, A1, hx, hA2, rfl⟩ := fams_ints (fams_int hA)
    obtain ⟨y, A2, hy, hA3, rfl⟩ := fams_ints hA2
    obtain rfl := fams_nil (fams_bool (fams_int hA3))
    exact ca_walk cd sl x y (fun r => intV (g r 0)) (fun r => intV (g r 3)) (fun r => boolV (g r 4)) len cap h1 h2 hx hy _ _ rfl rfl

end Go.Proofs.Ytmhlkcboajgigaa
