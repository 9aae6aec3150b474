/-
  Layer 19: Fair, the end.
-/
import Derived.Test.YthbdkhlpojngeaaHG
namespace Go.Proofs.Ythbdkhlpojngeaa
open Go.Ox
set_option maxRecDepth 100000
set_option linter.unusedVariables false
set_option linter.unusedSimpArgs false

theorem good_bar {n : Nat} {s : AL} (h : good n s) (i : Int) {no : Int} (hno : no ≤ 1000) : good n (bar s i no) := by
  obtain ⟨ha, hb, hc⟩ := h
  unfold bar
  split
  · exact ⟨ha, hb, hc⟩
  · split
    · exact ⟨ha, hno, hno⟩
    · exact ⟨ha, hno, hc⟩

theorem clamp64 {N : Nat} (h : N ≤ 64) : clampA (N : Int) = N := by
  unfold clampA; rw [if_neg (by rw [if_neg (by omega)]; omega), if_neg (by omega)]

theorem good_run {N : Nat} (h : N ≤ 64) (z y : Nat → Int) : ∀ i, good N (runA z y (newA N) i)
  | 0 => ⟨clamp64 h, by show (0 : Int) ≤ 1000; decide, by show (0 : Int) ≤ 1000; decide⟩
  | i + 1 => good_bar (good_run h z y i) _ (by have := Int.tmod_lt_of_pos (y i) (show (0 : Int) < 1001 by omega); omega)

theorem f1_sub {b1 b2 : Nat → Int} {cap : Nat} {s : AL} {m : AM} (h0 : m.get 0 = some (f1R b1 b2 cap)) (h1 : m.get 1 = some (alB s)) :
    Sub 1 id m [some (f1R b1 b2 cap), some (alB s)] :=
  Sub.ofId ⟨⟨_, h0, BlkOK.rows' (fun h => h) fun j _ => by simp [LAlike, ren, below, AV.scalar]⟩, ⟨_, h1, al_blk rfl (fun _ _ => rfl) rfl rfl rfl rfl⟩, trivial⟩ (by simp)

theorem f1_loop : LoopOK Try.prog faE (loopAt (codeOf Try.f5) 0) := by
  refine loopSumm_ok (E := faE) (laE_ok _) (noLoops (by kernel_rfl)) f1St f1Inv (fun x => 300 - x.i) f1Pick f1End ?_ (by kernel_rfl)
  rintro ⟨n, first, z, y, len, cap, i⟩ ⟨hn, h64, hlc, hil, hi⟩ Q hq
  dsimp only at hn h64 hlc hil hi
  refine round_keep [0, 1, 2, 7, 8] ?_
  rw [f1_tree]
  have hg := (good_run h64 z y i).1
  have hw : IntKind.wrap IntKind.i64 ((i : Int) + 1) = ((i + 1 : Nat) : Int) := by rw [IntWalk.i64_in _ (by omega)]; omega
  dsimp only
  simp only [st1, st2, hw, Int.toNat_natCast, Nat.zero_add]
  have out : min len 300 = i → Round faE f1St f1Inv (fun x => 300 - x.i) f1End Q ⟨n, first, z, y, len, cap, i⟩ (.exit 0, (⟨[(0, .int .i64 n), (1, .sl 0 0 2 0 len cap), (2, .int .i64 first), (7, .ptr 1 0 0 0), (8, .int .i64 i)], [some (f1R z y cap), some (alB (runA z y (newA n) i))]⟩ : St)) := by
    intro hm
    have hh : Sub 1 id [some (f1R z y cap), some (alB (runA z y (newA n) i))] [none, some (alB (runA z y (newA n) (min len 300)))] := by
      rw [hm]; exact sub1 (al_blk rfl (fun _ _ => rfl) rfl rfl rfl rfl) rfl
    exact Round.out id ⟨[(0, .int .i64 n), (2, .int .i64 first), (7, .ptr 1 0 0 0)], [none, some (alB (runA z y (newA n) (min len 300)))]⟩ (SubSt.mk (by simp [SubFr, slotAt, ren, below]) (by exact hh)) hq
  refine T.hiteP (fun h1 => T.hiteP (fun h3 => ?_) (fun h3 => out (by omega))) (fun h1 => out (by omega))
  have h1 : i < len := by omega
  have h3 : i < 300 := by omega
  have hh : Sub 1 id [some (f1R z y cap), some (alB (runA z y (newA n) (i + 1)))] [some (f1R z y cap), some (alB (runA z y (newA n) (i + 1)))] := f1_sub rfl rfl
  repeat' first | refine T.hneed isAl ?_ | refine T.hiteP (fun _ => ?_) (fun _ => ?_) | refine T.hiteE (fun _ => ?_) (fun _ => ?_) | refine T.hiteN (fun _ => ?_) (fun _ => ?_) | refine T.hiteFP (fun _ => ?_) (fun _ => ?_) | refine T.hiteFE (fun _ => ?_) (fun _ => ?_) | refine T.hiteF (fun _ => ?_) (fun _ => ?_) | refine T.hite (fun _ => ?_) (fun _ => ?_) | refine T.hneed rfl ?_ | refine T.hneed IntRow.rows ?_ | refine T.hneed trivial ?_ | refine T.hchk ?_ ?_ | refine T.hall (fun _ => ?_) | refine T.hasm (fun _ => ?_)
  all_goals (try refine T.hret ?_)
  all_goals first
    | contradiction
    | exact Round.go ⟨n, first, z, y, len, cap, i + 1⟩ id ⟨hn, h64, hlc, h1, h3⟩ (by dsimp only; omega) (SubSt.mk (by simp [f1St, SubFr, slotAt, ren, below]) (by exact hh)) hq
    | exact decide_eq_true (show (runA z y (newA n) i).n ≤ 96 by omega)
    | (simp; done)
    | (simp; omega)
    | rfl

theorem fa_loopsE : ∀ c' ∈ loopsIn (codeOf Try.f5), LoopOK Try.prog faE c' := by
  have h : loopsIn (codeOf Try.f5) = [loopAt (codeOf Try.f5) 0, loopAt (codeOf Try.f5) 1] := by kernel_rfl
  intro c' hc
  rw [h] at hc
  simp only [List.mem_cons, List.not_mem_nil, or_false] at hc
  rcases hc with rfl | rfl
  · exact f1_loop
  · exact f2_loopE
theorem fa_loopsN : ∀ c' ∈ loopsIn (codeOf Try.f5), LoopOK Try.prog faN c' := by
  have h : loopsIn (codeOf Try.f5) = [loopAt (codeOf Try.f5) 0, loopAt (codeOf Try.f5) 1] := by kernel_rfl
  intro c' hc
  rw [h] at hc
  simp only [List.mem_cons, List.not_mem_nil, or_false] at hc
  rcases hc with rfl | rfl
  · exact unroll_ok (E := faN) (laE_ok _) faZ rfl rfl rfl 1 (noLoops (by kernel_rfl)) (by kernel_rfl)
  · exact f2_loopN

theorem faE_holds (n first : Int) (z y : Nat → Int) (len cap : Nat) (hlc : len ≤ cap) : (afn Try.prog faE Try.f5 (codeOf Try.f5) [.int .i64 n, .sl 0 0 2 0 len cap, .int .i64 first] [some (f1R z y cap)]).holds fun r => r.1.yes = true := by
  rw [fa_fnE]
  have p1 := Int.emod_nonneg n (show (64 : Int) ≠ 0 by omega)
  have p2 := Int.emod_lt_of_pos n (show (0 : Int) < 64 by omega)
  rw [if_neg (show ¬ (64 : Int) < 1 by omega), show IntKind.wrap .i64 (1 + n % 64) = 1 + n % 64 from IntWalk.i64_in _ (by omega)]
  obtain ⟨N, hN⟩ : ∃ N : Nat, 1 + n % 64 = (N : Int) := ⟨(1 + n % 64).toNat, by omega⟩
  rw [hN]
  simp only [Int.toNat_natCast]
  rw [if_neg (show ¬ (N : Int) < 1 by omega)]
  have q1 := Int.emod_nonneg first (show (N : Int) ≠ 0 by omega)
  have q2 := Int.emod_lt_of_pos first (show (0 : Int) < N by omega)
  obtain ⟨F, hF⟩ : ∃ F : Nat, first % (N : Int) = (F : Int) := ⟨(first % (N : Int)).toNat, by omega⟩
  rw [hF]
  have h64 : N ≤ 64 := by omega
  have hFN : F < N := by omega
  have hg := good_run h64 z y (min len 300)
  simp only [Int.toNat_natCast, st1, st2]
  have rf : rfA (fuW N 2000) (F : Int) 2000 := .inr (.inr (.inl ⟨rfl, Int.le_refl _⟩))
  have rf' : rfA (fuW N 2000) (F : Int) 1999 := .inr (.inr (.inl ⟨rfl, by show (1999 : Int) ≤ 2000; decide⟩))
  have e1 : barR (fuW N 2000) (F : Int) 2000 = false := by simp [barR, rf]
  have e2 : bar (fuW N 2000) (F : Int) 2000 = fuW N 2000 := if_pos rf
  have e3 : barR (fuW N 2000) (F : Int) 1999 = false := by simp [barR, rf']
  have e4 : bar (fuW N 2000) (F : Int) 1999 = fuW N 2000 := if_pos rf'
  simp only [e1, e2, e3, e4, st1, st2, fu_blk]
  have s0 : Sub 1 id [some (f1R z y cap), some (alB (newA N))] [some (f1R z y cap), some (alB (newA N))] := f1_sub rfl rfl
  have s1 : Sub 1 id [none, some (alB (runA z y (newA N) (min len 300)))] [none, some (alB (runA z y (newA N) (min len 300)))] := sub1 (al_blk rfl (fun _ _ => rfl) rfl rfl rfl rfl) rfl
  refine T.hchk rfl (T.hneed ⟨id, SubSt.mk (by simp [f1St, SubFr, slotAt, ren, below]) (by exact s0)⟩ (T.hneed ⟨by dsimp only; omega, h64, hlc, Nat.zero_le _, Nat.zero_le _⟩ (T.hchk (by simp; omega) (T.hneed ⟨id, SubSt.mk (by simp [f2St, f2, SubFr, slotAt, ren, below]) (by exact s1)⟩ (T.hneed ⟨by dsimp only; omega, h64, hFN, hg, rfl⟩ ?_)))))
  repeat' first | refine T.hneed isAl ?_ | refine T.hiteP (fun _ => ?_) (fun _ => ?_) | refine T.hiteE (fun _ => ?_) (fun _ => ?_) | refine T.hiteN (fun _ => ?_) (fun _ => ?_) | refine T.hiteFP (fun _ => ?_) (fun _ => ?_) | refine T.hiteFE (fun _ => ?_) (fun _ => ?_) | refine T.hiteF (fun _ => ?_) (fun _ => ?_) | refine T.hite (fun _ => ?_) (fun _ => ?_) | refine T.hneed rfl ?_ | refine T.hneed IntRow.rows ?_ | refine T.hneed trivial ?_ | refine T.hchk ?_ ?_ | refine T.hall (fun _ => ?_) | refine T.hasm (fun _ => ?_)
  all_goals (try refine T.hret ?_)
  all_goals first
    | contradiction
    | exact decide_eq_true (show (N : Int) ≤ 96 by omega)
    | rfl

theorem faN_holds (n first : Int) : (afn Try.prog faN Try.f5 (codeOf Try.f5) [.int .i64 n, .nils, .int .i64 first] []).holds fun r => r.1.yes = true := by
  rw [fa_fnN]
  have p1 := Int.emod_nonneg n (show (64 : Int) ≠ 0 by omega)
  have p2 := Int.emod_lt_of_pos n (show (0 : Int) < 64 by omega)
  rw [if_neg (show ¬ (64 : Int) < 1 by omega), show IntKind.wrap .i64 (1 + n % 64) = 1 + n % 64 from IntWalk.i64_in _ (by omega)]
  obtain ⟨N, hN⟩ : ∃ N : Nat, 1 + n % 64 = (N : Int) := ⟨(1 + n % 64).toNat, by omega⟩
  rw [hN]
  simp only [Int.toNat_natCast]
  rw [if_neg (show ¬ (N : Int) < 1 by omega)]
  have q1 := Int.emod_nonneg first (show (N : Int) ≠ 0 by omega)
  have q2 := Int.emod_lt_of_pos first (show (0 : Int) < N by omega)
  obtain ⟨F, hF⟩ : ∃ F : Nat, first % (N : Int) = (F : Int) := ⟨(first % (N : Int)).toNat, by omega⟩
  rw [hF]
  have h64 : N ≤ 64 := by omega
  have hFN : F < N := by omega
  have hg := good_run h64 (fun _ => 0) (fun _ => 0) 0
  simp only [Int.toNat_natCast, st1, st2]
  have rf : rfA (fuW N 2000) (F : Int) 2000 := .inr (.inr (.inl ⟨rfl, Int.le_refl _⟩))
  have rf' : rfA (fuW N 2000) (F : Int) 1999 := .inr (.inr (.inl ⟨rfl, by show (1999 : Int) ≤ 2000; decide⟩))
  have e1 : barR (fuW N 2000) (F : Int) 2000 = false := by simp [barR, rf]
  have e2 : bar (fuW N 2000) (F : Int) 2000 = fuW N 2000 := if_pos rf
  have e3 : barR (fuW N 2000) (F : Int) 1999 = false := by simp [barR, rf']
  have e4 : bar (fuW N 2000) (F : Int) 1999 = fuW N 2000 := if_pos rf'
  simp only [e1, e2, e3, e4, st1, st2, fu_blk]
  have s1 : Sub 0 id [some (alB (newA N))] [some (alB (newA N))] := sub0 (al_blk rfl (fun _ _ => rfl) rfl rfl rfl rfl) rfl
  refine T.hchk rfl (T.hite (fun h => absurd h (by decide)) (fun _ => T.hchk (by simp; omega) (T.hneed ⟨id, SubSt.mk (by simp [f2St, f2, SubFr, slotAt, ren, below]) (by exact s1)⟩ (T.hneed ⟨by dsimp only; omega, h64, hFN, hg, rfl⟩ ?_))))
  repeat' first | refine T.hneed isAl ?_ | refine T.hiteP (fun _ => ?_) (fun _ => ?_) | refine T.hiteE (fun _ => ?_) (fun _ => ?_) | refine T.hiteN (fun _ => ?_) (fun _ => ?_) | refine T.hiteFP (fun _ => ?_) (fun _ => ?_) | refine T.hiteFE (fun _ => ?_) (fun _ => ?_) | refine T.hiteF (fun _ => ?_) (fun _ => ?_) | refine T.hite (fun _ => ?_) (fun _ => ?_) | refine T.hneed rfl ?_ | refine T.hneed IntRow.rows ?_ | refine T.hneed trivial ?_ | refine T.hchk ?_ ?_ | refine T.hall (fun _ => ?_) | refine T.hasm (fun _ => ?_)
  all_goals (try refine T.hret ?_)
  all_goals first
    | contradiction
    | exact decide_eq_true (show (N : Int) ≤ 96 by omega)
    | rfl

theorem fa_law : ∀ args m, ArgsAV [PK.one (CK.int IntKind.i64), PK.one (CK.sl [CK.int IntKind.i64, CK.int IntKind.i64]), PK.one (CK.int IntKind.i64)] [] args m → Walks Try.prog Try.f5 (codeOf Try.f5) args m := by
  intro args m h
  obtain ⟨n, _, rfl, hn, h⟩ := args_int h
  rcases args_sl h with ⟨_, rfl, hh⟩ | ⟨len, cap, g, _, rfl, hl, hc, hz, hh⟩
  · obtain ⟨first, _, rfl, hf, hh⟩ := args_int hh
    obtain ⟨rfl, rfl⟩ := args_nil hh
    exact ⟨faN, laE_ok _, fa_loopsN, rfl, rfl, faN_holds n first⟩
  · obtain ⟨first, _, rfl, hf, hh⟩ := args_int hh
    obtain ⟨rfl, rfl⟩ := args_nil hh
    exact ⟨faE, laE_ok _, fa_loopsE, rfl, rfl, faE_holds n first (fun r => intV (g r 0)) (fun r => intV (g r 1)) len cap hl⟩

end Go.Proofs.Ythbdkhlpojngeaa
