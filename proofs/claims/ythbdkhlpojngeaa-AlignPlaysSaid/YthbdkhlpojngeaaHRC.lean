/-
  Layer 19: AlignPlays.
-/
import Derived.Test.YthbdkhlpojngeaaHRB
namespace Go.Proofs.Ythbdkhlpojngeaa
open Go.Ox
set_option maxRecDepth 100000
set_option maxHeartbeats 1000000
set_option linter.unusedVariables false
set_option linter.unusedSimpArgs false

noncomputable def plZ : Env := { plB Try.f3.ntmps with n0 := 0, loop := fun _ _ => .fail }
noncomputable def plN : Env := { plB Try.f3.ntmps with n0 := 0, loop := fun k => if k = 7 then unrollN Try.prog plZ (loopAt (codeOf Try.f3) 0) 1 else fun _ => .fail }

theorem plN_fn (N : Int) : afn Try.prog plN Try.f3 (codeOf Try.f3) [.int .i64 N, .nils] [] = 
  T.chk true
    (T.ite false
      (T.ite true T.fail
        (T.ret
          (AV.bool true,
            [some (Blk.mk true [AV.int IntKind.i64 (clampA (IntKind.wrap IntKind.i64 ((1 : Int) + if (64 : Int) < (1 : Int) then (0 : Int) else N % (64 : Int))))] (1 : Nat) (96 : Nat) (fun j => [AV.bool false]) [AV.int IntKind.i64 (0 : Int), AV.int IntKind.i64 (0 : Int), AV.int IntKind.i64 (0 : Int), AV.bool false] none),
              some (Blk.mk true [AV.int IntKind.i64 (IntKind.wrap IntKind.i64 ((1 : Int) + if (64 : Int) < (1 : Int) then (0 : Int) else N % (64 : Int))), AV.nils, AV.bool false, AV.bool false, AV.int IntKind.i64 (0 : Int), AV.int IntKind.i64 (0 : Int)] (0 : Nat) (0 : Nat) (fun j => []) [] none)])))
      (T.ret
        (AV.bool true,
          [some (Blk.mk true [AV.int IntKind.i64 (clampA (IntKind.wrap IntKind.i64 ((1 : Int) + if (64 : Int) < (1 : Int) then (0 : Int) else N % (64 : Int))))] (1 : Nat) (96 : Nat) (fun j => [AV.bool false]) [AV.int IntKind.i64 (0 : Int), AV.int IntKind.i64 (0 : Int), AV.int IntKind.i64 (0 : Int), AV.bool false] none),
            some (Blk.mk true [AV.int IntKind.i64 (IntKind.wrap IntKind.i64 ((1 : Int) + if (64 : Int) < (1 : Int) then (0 : Int) else N % (64 : Int))), AV.nils, AV.bool false, AV.bool false, AV.int IntKind.i64 (0 : Int), AV.int IntKind.i64 (0 : Int)] (0 : Nat) (0 : Nat) (fun j => []) [] none)]))) := by
  kernel_rfl

theorem plN_ok : EnvOK Try.prog plN.fns := plE_ok
theorem plN_loops : ∀ c' ∈ loopsIn (codeOf Try.f3), LoopOK Try.prog plN c' := oneLoop (by kernel_rfl) (unroll_ok (E := plN) plN_ok plZ rfl rfl rfl 1 (fun c' _ st Q hq => absurd hq (fun h => h)) (by kernel_rfl))
theorem plE_loops : ∀ c' ∈ loopsIn (codeOf Try.f3), LoopOK Try.prog plE c' := oneLoop (by kernel_rfl) pl_loop

theorem plV (N : Int) : 1 ≤ IntKind.wrap .i64 (1 + if (64 : Int) < 1 then 0 else N % 64) ∧ IntKind.wrap .i64 (1 + if (64 : Int) < 1 then 0 else N % 64) ≤ 64 := by
  rw [if_neg (by omega), IntWalk.i64_in _ (by omega)]
  omega

theorem pl_start {V : Int} (h1 : 1 ≤ V) (h2 : V ≤ 64) : Rel V.toNat (newA V) ⟨V, false, false, 0, 0⟩ (fun _ => 0) 0 where
  tn := by show clampA V = _; unfold clampA; rw [if_neg (by rw [if_neg (by omega)]; omega), if_neg (by omega)]; omega
  sn := by show V = _; omega
  lo := by omega
  hi := by omega
  ln := by omega
  d := rfl
  l h := by cases h
  c := rfl
  w := by simp
  wn h := by cases h
  fb j hj := absurd hj (Nat.not_lt_zero _)
  B k _ := by simp [newA]

theorem plE_walk (N : Int) (z y : Nat → Int) (len cap : Nat) (hl : len ≤ cap) (args : List AV) (m : AM) (ha : args = [.int .i64 N, .sl 0 0 2 0 len cap]) (hm : m = [some (Blk.rows false 2 cap fun r => [.int .i64 (z r), .int .i64 (y r)])]) :
    Walks Try.prog Try.f3 (codeOf Try.f3) args m := by
  subst ha hm
  refine ⟨plE, plE_ok, plE_loops, rfl, rfl, ?_⟩
  rw [pl_fn N z y len cap]
  obtain ⟨v1, v2⟩ := plV N
  generalize IntKind.wrap .i64 (1 + if (64 : Int) < 1 then 0 else N % 64) = V at v1 v2
  have hV : ((V.toNat : Nat) : Int) = V := by omega
  refine T.hchk rfl (T.hneed ⟨id, SubSt.mk ?_ ?_⟩ (T.hneed ⟨hl, pl_start v1 v2, Nat.le_refl 0, fun _ => rfl, Nat.zero_le _, Nat.zero_le _⟩ (T.hret rfl)))
  · simp [plSt, plF, plM, plT, plL, SubFr, slotAt, ren, below, hV]
  · exact Sub.ofId ⟨⟨_, rfl, BlkOK.rows' (fun h => h) fun j _ => by simp [intA, LAlike, ren, below, AV.scalar]⟩, ⟨_, rfl, alOK rfl (fun j _ => by simp [LAlike, ren, below, AV.scalar, newA, stA, renB, alB, boolA, renL, Blk.rows]) rfl rfl rfl (by simp [newA, stA, renB, alB, boolA, renL, ren])⟩, ⟨_, rfl, ra_blk rfl rfl rfl (by simp [plL, ren]) (by simp [plL, below]) rfl (by simp [raOf, renB, raB, renL, ren, boolA]) (by simp [raOf, renB, raB, renL, ren, boolA])⟩, trivial⟩ (by show 1 ≤ _; simp [plSt, plM])

theorem plN_walk (N : Int) (args : List AV) (m : AM) (ha : args = [.int .i64 N, .nils]) (hm : m = []) : Walks Try.prog Try.f3 (codeOf Try.f3) args m := by
  subst ha hm
  refine ⟨plN, plN_ok, plN_loops, rfl, rfl, ?_⟩
  rw [plN_fn]
  repeat' first | with_reducible refine T.h_ff ?_ | with_reducible refine T.h_tt ?_ | with_reducible refine T.hchk ?_ ?_ | with_reducible refine T.hret ?_
  all_goals first | rfl | (simp; done)

theorem pl_law : ∀ args m, ArgsAV [PK.one (CK.int IntKind.i64), PK.one (CK.sl [CK.int IntKind.i64, CK.int IntKind.i64])] [] args m → Walks Try.prog Try.f3 (codeOf Try.f3) args m := by
  intro args m h
  obtain ⟨n, _, rfl, hn, h⟩ := args_int h
  rcases args_sl h with ⟨_, rfl, hh⟩ | ⟨len, cap, g, _, rfl, hl, hc, hz, hh⟩
  · obtain ⟨rfl, rfl⟩ := args_nil hh
    exact plN_walk n _ _ rfl rfl
  · obtain ⟨rfl, rfl⟩ := args_nil hh
    exact plE_walk n (fun r => intV (g r 0)) (fun r => intV (g r 1)) len cap hl _ _ rfl rfl

end Go.Proofs.Ythbdkhlpojngeaa
