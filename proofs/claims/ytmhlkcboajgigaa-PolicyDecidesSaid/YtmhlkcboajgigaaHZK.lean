/-
  Layer 27: PolicyDecides: the law.
-/
import Derived.Test.YtmhlkcboajgigaaHZJ
namespace Go.Proofs.Ytmhlkcboajgigaa
open Go.Ox
set_option maxRecDepth 100000
set_option linter.unusedVariables false
set_option linter.unusedSimpArgs false

theorem pd_first (x : NO) (hx : pdInv x) (h1 : x.i < 200) (h2 : x.i < x.q.len) {R : Ex × St → Prop} (hR : ∀ l d, R (.norm, noX { x with l := l, d := d } [] [])) (hY : R (.ret, ⟨[(6, .bool true)], List.replicate 3 none⟩)) :
    AWpL Try.prog pdE (chainOf pdB) (noX x []  []) R := by
  have mid := fun now no hl hl' => pd_mid x now no hx hl hl' hR
  obtain ⟨q, c, s, l, d, i⟩ := x
  obtain ⟨a1, a2, a3, a4, a5, a6, a7, a8⟩ := hx
  dsimp only at a1 a2 a3 a4 a5 a6 a7 a8 h1 h2 mid
  refine awpl_cut (E := pdE) (ldE_ok _) 5 (noLoopsL_ok (by kernel_rfl)) (weak_keep [2, 6, 7, 8, 9, 10, 11, 12] (T.cut_eq (pd_t2 q c s l d i) ?_))
  have go : ∀ (X : AM) (now no : Int), q.x.ln [i] ≤ 50 → q.y.ln [i] ≤ 50 → (Weak pdE (Then R fun st' => AWpL Try.prog pdE ((chainOf pdB).drop 5) st' R)) (.norm, ⟨[(2, .sl 2 0 5 0 q.len q.cap), (7, .ptr 3 0 0 0), (8, .ptr 4 0 0 0), (9, .int .i64 i), (10, .ptr 5 0 0 0), (11, .int .i64 now), (12, .int .i64 no)], qsMem q ++ some (polB c s l d) :: some (polB c s l d) :: some (xB q (0 + (i : Int).toNat)) :: X⟩) := fun X now no hl hl' =>
    ⟨id, noX ⟨q, c, s, l, d, i⟩ [(10, .ptr 5 0 0 0), (11, .int .i64 now), (12, .int .i64 no)] [some (xB q i)], SubSt.mk (by simp [noX, SubFr, slotAt, ren, below, qsMem]) (no_sub rfl rfl rfl rfl rfl rfl (pol_blk (by simp)) (pol_blk (by simp)) ⟨⟨_, rfl, by simpa using xB_ok (by simp [qsMem])⟩, trivial⟩), mid now no hl hl'⟩
  have no : ∀ (fr : List (Nat × AV)) (X : AM), (Weak pdE (Then R fun st' => AWpL Try.prog pdE ((chainOf pdB).drop 5) st' R)) (.ret, ⟨(2, .sl 2 0 5 0 q.len q.cap) :: (6, .bool true) :: fr, X⟩) := fun fr X =>
    ⟨id, ⟨[(6, .bool true)], List.replicate 3 none⟩, SubSt.mk (by simp [SubFr, slotAt, ren, below]) (Sub.nothing (n := 3) _), hY⟩
  clear mid hR hY
  have hx1 := a3.nil [i]
  have hx2 := a3.nil [0 + (i : Int).toNat]
  have hy1 := a4.nil [i]
  have hy2 := a4.nil [0 + (i : Int).toNat]
  repeat' first | with_reducible refine T.hneed rfl ?_ | with_reducible refine T.hneed trivial ?_ | with_reducible refine T.hiteP (fun _ => ?_) (fun _ => ?_) | with_reducible refine T.hite (fun _ => ?_) (fun _ => ?_) | with_reducible refine T.hchk ?_ ?_ | with_reducible refine T.hret ?_
  all_goals first
    | rfl
    | exact no _ _
    | (refine go _ _ _ ?_ ?_ <;> simp_all <;> done)
    | (refine go _ _ _ ?_ ?_ <;> simp_all <;> omega)
    | (simp; omega)
    | (simp_all; done)
    | (simp_all; omega)
    | skip

theorem pd_C : (chainOf pdC).drop 2 = .block 1 pdB :: (chainOf pdC).drop 3 := by kernel_rfl

theorem pd_loop : LoopOK Try.prog pdE (loopAt (codeOf Try.f3) 0) := by
  refine loop_any (E := pdE) noSt pdInv (fun x => 200 - x.i) noPick (fun _ => endR 3 6) ?_ (by kernel_rfl)
  intro x hx Q hq
  have hx0 := hx
  have hqX : Q (.exit 0, ⟨[], List.replicate 3 none⟩) := (hq 0).1 rfl
  have hqR : Q (.ret, ⟨[(6, .bool true)], List.replicate 3 none⟩) := (hq 1).2 rfl
  obtain ⟨q, c, s, l, d, i⟩ := x
  refine awp_chain (awpl_cut (E := pdE) (ldE_ok _) 2 (noLoopsL_ok (by kernel_rfl)) (weak_keep [2, 7, 8, 9] ?_))
  show T.holds (keepT [2, 7, 8, 9] (acodeL Try.prog pdE ((chainOf pdC).take 2) (noX ⟨q, c, s, l, d, i⟩ [] []))) _
  rw [pd_t1]
  obtain ⟨a1, a2, a3, a4, a5, a6, a7, a8⟩ := hx
  dsimp only at a1 a2 a3 a4 a5 a6 a7 a8
  refine T.hiteP (fun h2 => T.hiteP (fun h1 => T.hret ?_) (fun _ => T.hret ?_)) (fun _ => T.hret ?_)
  · refine ⟨id, noX ⟨q, c, s, l, d, i⟩ [] [], SubSt.mk (by simp [noX, SubFr, slotAt, ren, below, qsMem]) (no_sub rfl rfl rfl rfl rfl rfl (pol_blk (by simp)) (pol_blk (by simp)) trivial), ?_⟩
    show AWpL Try.prog pdE ((chainOf pdC).drop 2) _ _
    rw [pd_C]
    refine awpl_block (pd_first ⟨q, c, s, l, d, i⟩ hx0 (by dsimp only; omega) (by dsimp only; omega) (fun l' d' => ?_) ?_)
    · refine awpl_end (E := pdE) (ldE_ok _) (noLoopsL_ok (by kernel_rfl)) (weak_keep [2, 7, 8, 9] ?_)
      show T.holds (keepT [2, 7, 8, 9] (acodeL Try.prog pdE ((chainOf pdC).drop 3) (noX ⟨q, c, s, l', d', i⟩ [] []))) _
      rw [pd_t5]
      have hw : IntKind.wrap IntKind.i64 ((i : Int) + 1) = ((i + 1 : Nat) : Int) := by rw [IntWalk.i64_in _ (by omega)]; omega
      exact T.hret ⟨id, noX ⟨q, c, s, l', d', i + 1⟩ [] [], SubSt.mk (by simp [noX, SubFr, slotAt, ren, below, qsMem, hw]) (no_sub rfl rfl rfl rfl rfl rfl (pol_blk (by simp)) (pol_blk (by simp)) trivial),
        Round.go ⟨q, c, s, l', d', i + 1⟩ id ⟨a1, a2, a3, a4, a5, a6, by dsimp only; omega, by dsimp only; omega⟩ (by dsimp only; omega) (SubSt.mk (by simp [noSt, noX, SubFr, slotAt, ren, below, qsMem]) (no_sub rfl rfl rfl rfl rfl rfl (pol_blk (by simp)) (pol_blk (by simp)) trivial)) hq⟩
    · exact ⟨id, ⟨[(6, .bool true)], List.replicate 3 none⟩, SubSt.mk (by simp [SubFr, slotAt, ren, below]) (Sub.nothing (n := 3) _), hqR⟩
  · refine ⟨id, ⟨[], List.replicate 3 none⟩, SubSt.mk (by simp [SubFr]) (Sub.nothing (n := 3) _), ?_⟩
    exact ⟨id, ⟨[], List.replicate 3 none⟩, SubSt.mk (by simp [SubFr]) (Sub.nothing (n := 3) _), hqX⟩
  · refine ⟨id, ⟨[], List.replicate 3 none⟩, SubSt.mk (by simp [SubFr]) (Sub.nothing (n := 3) _), ?_⟩
    exact ⟨id, ⟨[], List.replicate 3 none⟩, SubSt.mk (by simp [SubFr]) (Sub.nothing (n := 3) _), hqX⟩

noncomputable def pdZ : Env := { ldE Try.f3.ntmps with n0 := 0, loop := fun k => if k = 8 then unrollN Try.prog { ldE Try.f3.ntmps with n0 := 0, loop := fun _ _ => .fail } (loopAt (codeOf Try.f3) 0) 1 else fun _ => .fail }

theorem pd_fn0 (cd sl : Int) : afn Try.prog pdZ Try.f3 (codeOf Try.f3) [.int .i64 cd, .int .i64 sl, .nils] [] = 
  T.ite false (T.ite true T.fail (T.ret (AV.bool true, [some (Blk.mk true [AV.int IntKind.i64 (myG cd), AV.int IntKind.i64 (myG sl), AV.int IntKind.i64 (0 : Int), AV.bool false] (0 : Nat) (0 : Nat) (fun j => []) [] none), some (Blk.mk true [AV.int IntKind.i64 (myG cd), AV.int IntKind.i64 (myG sl), AV.int IntKind.i64 (0 : Int), AV.bool false] (0 : Nat) (0 : Nat) (fun j => []) [] none)])))
    (T.ret (AV.bool true, [some (Blk.mk true [AV.int IntKind.i64 (myG cd), AV.int IntKind.i64 (myG sl), AV.int IntKind.i64 (0 : Int), AV.bool false] (0 : Nat) (0 : Nat) (fun j => []) [] none), some (Blk.mk true [AV.int IntKind.i64 (myG cd), AV.int IntKind.i64 (myG sl), AV.int IntKind.i64 (0 : Int), AV.bool false] (0 : Nat) (0 : Nat) (fun j => []) [] none)])) := by
  kernel_rfl

theorem pdE_fns : EnvOK Try.prog pdE.fns := ldE_ok _
theorem pdE_loops : ∀ c' ∈ loopsIn (codeOf Try.f3), LoopOK Try.prog pdE c' := oneLoop (by kernel_rfl) pd_loop
theorem pdZ_fns : EnvOK Try.prog pdZ.fns := ldE_ok _
theorem pdZ_loops : ∀ c' ∈ loopsIn (codeOf Try.f3), LoopOK Try.prog pdZ c' := oneLoop (by kernel_rfl) (unroll_ok (E := pdZ) pdZ_fns { ldE Try.f3.ntmps with n0 := 0, loop := fun _ _ => .fail } rfl rfl rfl 1 (noLoops (by kernel_rfl)) (by kernel_rfl))

theorem pd_walk (cd sl : Int) (x y : FD) (now no : Nat → Int) (idle : Nat → Bool) (len cap : Nat) (h1 : len ≤ cap) (h2 : cap ≤ maxLen) (hx : x.wf .i64) (hy : y.wf .i64) (hs : sl ≤ 9223372036854775807) (args : List AV) (m : AM) (ha : args = [.int .i64 cd, .int .i64 sl, .sl 2 0 5 0 len cap]) (hm : m = qsMem ⟨x, y, now, no, idle, len, cap⟩) :
    Walks Try.prog Try.f3 (codeOf Try.f3) args m := by
  subst ha hm
  refine ⟨pdE, pdE_fns, pdE_loops, rfl, rfl, ?_⟩
  rw [pd_fn ⟨x, y, now, no, idle, len, cap⟩ cd sl]
  repeat' first | with_reducible refine T.hchk rfl ?_ | with_reducible refine T.h_ff ?_
  refine T.hneed ⟨id, SubSt.mk (by simp [noSt, noX, SubFr, slotAt, ren, below, qsMem]) (no_sub ?_ ?_ rfl rfl rfl rfl (pol_blk (by simp)) (pol_blk (by simp)) trivial)⟩ (T.hneed ⟨h1, h2, ?_, ?_, myG_pos sl, my_hi hs, Nat.zero_le _, Nat.zero_le _⟩ (T.hall fun c => T.hite (fun _ => T.hret rfl) (fun _ => T.hret rfl)))
  · exact congrArg some (congrArg Blk.family (funext fun js => by rfl))
  · exact congrArg some (congrArg Blk.family (funext fun js => by rfl))
  · exact ⟨hx.nil, hx.pos, hx.le, hx.max, hx.z⟩
  · exact ⟨hy.nil, hy.pos, hy.le, hy.max, hy.z⟩

theorem pd_walk0 (cd sl : Int) (args : List AV) (m : AM) (ha : args = [.int .i64 cd, .int .i64 sl, .nils]) (hm : m = []) :
    Walks Try.prog Try.f3 (codeOf Try.f3) args m := by
  subst ha hm
  refine ⟨pdZ, pdZ_fns, pdZ_loops, rfl, rfl, ?_⟩
  rw [pd_fn0]
  repeat' first | with_reducible refine T.h_ff ?_ | with_reducible refine T.h_tt ?_ | with_reducible refine T.hchk ?_ ?_ | with_reducible refine T.hret ?_
  all_goals rfl

theorem pd_law : ∀ args m, ArgsAVn [PK.one (CK.int IntKind.i64), PK.one (CK.int IntKind.i64), PK.one (CK.sl [CK.int IntKind.i64, CK.sl [CK.int IntKind.i64], CK.sl [CK.int IntKind.i64], CK.int IntKind.i64, CK.bool])] [] args m → Walks Try.prog Try.f3 (codeOf Try.f3) args m := by
  intro args m h
  obtain ⟨cd, _, rfl, _, h⟩ := argsN_int h
  obtain ⟨sl, _, rfl, hs, h⟩ := argsN_int h
  rcases argsN_sl h with ⟨_, rfl, hh⟩ | ⟨len, cap, g, A, _, rfl, hA, hl, h1, h2, h3, hh⟩
  · obtain ⟨rfl, rfl⟩ := argsN_nil hh
    exact pd_walk0 cd sl _ _ rfl rfl
  · obtain ⟨rfl, rfl⟩ := argsN_nil hh
    obtain ⟨x, A1, hx, hA2, rfl⟩ := fams_ints (fams_int hA)
    obtain ⟨y, A2, hy, hA3, rfl⟩ := fams_ints hA2
    obtain rfl := fams_nil (fams_bool (fams_int hA3))
    exact pd_walk cd sl x y (fun r => intV (g r 0)) (fun r => intV (g r 3)) (fun r => boolV (g r 4)) len cap h1 h2 hx hy (bounds_i64 hs).2 _ _ rfl rfl

end Go.Proofs.Ytmhlkcboajgigaa
