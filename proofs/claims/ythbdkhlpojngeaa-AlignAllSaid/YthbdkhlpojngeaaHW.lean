/-
  Layer 19: All.
-/
import Derived.Test.YthbdkhlpojngeaaHV
namespace Go.Proofs.Ythbdkhlpojngeaa
open Go.Ox
set_option maxRecDepth 100000
set_option linter.unusedVariables false
set_option linter.unusedSimpArgs false

theorem cntB_le (B : Nat → Bool) : ∀ n, cntB B n ≤ n
  | 0 => Nat.le_refl _
  | n + 1 => by have := cntB_le B n; simp only [cntB]; split <;> omega
theorem cntB_none : ∀ n, cntB (fun _ => false) n = 0
  | 0 => rfl
  | n + 1 => by simp [cntB, cntB_none n]
theorem cntB_all {B : Nat → Bool} : ∀ n, n ≤ cntB B n → ∀ k, k < n → B k = true
  | 0, _, k, h => by omega
  | n + 1, h, k, hk => by
    have h1 := cntB_le B n
    simp only [cntB] at h
    cases hb : B n with
    | false => rw [hb] at h; simp at h; omega
    | true =>
      rw [hb] at h; simp at h
      by_cases e : k = n
      · rw [e]; exact hb
      · exact cntB_all n (by omega) k (by omega)
theorem cntB_ins (m : Nat) (B : Nat → Bool) : ∀ n, cntB (fun j => if j = m then true else B j) n = cntB B n + (if m < n ∧ B m = false then 1 else 0)
  | 0 => by simp [cntB]
  | n + 1 => by
    simp only [cntB, cntB_ins m B n]
    by_cases hm : n = m
    · subst hm; rcases Bool.eq_false_or_eq_true (B n) with hb | hb <;> simp [hb]
    · have e : (m < n + 1 ∧ B m = false) ↔ (m < n ∧ B m = false) := by constructor <;> rintro ⟨a, b⟩ <;> exact ⟨by omega, b⟩
      simp only [if_neg hm, e]; omega

/-- What a barrier does to an Align that keeps count. -/
theorem step {n : Nat} {s : AL} {I no : Int} (hn : 1 ≤ n) (h64 : n ≤ 64) (h1 : s.n = n) (hc : s.c = (cntS s n : Nat)) (hl : cntS s n < n) :
    (barR s I no = false ∧ (bar s I no).n = n ∧ (bar s I no).c = (cntS (bar s I no) n : Nat) ∧ cntS (bar s I no) n < n ∧ (bar s I no).d = s.d ∧ (bar s I no).l = s.l ∧
      ∀ k, k < n → (bar s I no).B k = true → (I = (k : Int) ∧ (bar s I no).w = no) ∨ (s.B k = true ∧ s.w = (bar s I no).w)) ∨
    (barR s I no = true ∧ bar s I no = fullA s no ∧ ¬ (s.d = true ∧ no ≤ s.l) ∧ ∀ k, k < n → I = (k : Int) ∨ (s.B k = true ∧ s.w = no)) := by
  by_cases hr : rfA s I no
  · have e1 : barR s I no = false := by simp [barR, hr]
    have e2 : bar s I no = s := if_pos hr
    rw [e1, e2]
    exact .inl ⟨rfl, h1, hc, hl, rfl, rfl, fun k _ hb => .inr ⟨hb, rfl⟩⟩
  · have h0 : 0 ≤ I := Decidable.byContradiction fun h => hr (.inl (by omega))
    have hI : I < n := Decidable.byContradiction fun h => hr (.inr (.inl (by omega)))
    obtain ⟨m, rfl⟩ : ∃ m : Nat, I = (m : Int) := ⟨I.toNat, by omega⟩
    have hm : m < n := by omega
    have c1 : c1A s no = (cntB (B1A s no) n : Nat) := by
      unfold c1A
      by_cases hw : s.w = no
      · have : B1A s no = s.B := by funext j; simp [B1A, hw]
        rw [if_pos hw, this, hc]; rfl
      · have : B1A s no = fun _ => false := by funext j; simp [B1A, hw]
        rw [if_neg hw, this, cntB_none]; rfl
    have c1n := cntB_le (B1A s no) n
    have c2 : c2A s m no = (cntB (fun j => if j = m then true else B1A s no j) n : Nat) := by
      unfold c2A
      rw [cntB_ins, c1, Int.toNat_natCast]
      cases hb : B1A s no m with
      | true => simp
      | false => simp only [Bool.false_eq_true, if_false, hm, and_self, if_true]; rw [IntWalk.i64_in _ (by omega)]; omega
    by_cases hf : fuA s m no
    · refine .inr ⟨by simp [barR, hr, hf], by rw [bar, if_neg hr, if_pos hf], fun h => hr (.inr (.inr (.inl h))), fun k hk => ?_⟩
      have hf' : ¬ c2A s m no < s.n := hf
      rw [c2, h1] at hf'
      have this : (if k = m then true else B1A s no k) = true := cntB_all (B := fun j => if j = m then true else B1A s no j) n (by omega) k hk
      by_cases e : k = m
      · exact .inl (by rw [e])
      · rw [if_neg e] at this
        unfold B1A at this
        by_cases hw : s.w = no
        · rw [if_pos hw] at this; exact .inr ⟨this, hw⟩
        · rw [if_neg hw] at this; cases this
    · have e2 : bar s m no = moreA s m no := by rw [bar, if_neg hr, if_neg hf]
      have hf' : c2A s m no < s.n := Decidable.not_not.1 hf
      have e3 : cntS (moreA s m no) n = cntB (fun j => if j = m then true else B1A s no j) n := by
        unfold cntS moreA; simp only [Int.toNat_natCast]
      rw [e2]
      refine .inl ⟨by simp [barR, hf], h1, by rw [e3]; exact c2, by rw [e3]; rw [c2, h1] at hf'; omega, rfl, rfl, fun k hk hb => ?_⟩
      have hb : (if k = m then true else B1A s no k) = true := by simpa [moreA] using hb
      by_cases e : k = m
      · exact .inl ⟨by rw [e], rfl⟩
      · rw [if_neg e] at hb
        unfold B1A at hb
        by_cases hw : s.w = no
        · rw [if_pos hw] at hb; exact .inr ⟨hb, hw⟩
        · rw [if_neg hw] at hb; cases hb

theorem aaB_loop : LoopOK Try.prog aaE (loopAt (loopAt (codeOf Try.f4) 0) 0) := by
  refine loopSumm_ok (E := aaE) (laE_ok _) (noLoops (by kernel_rfl)) aaB aaIB (fun x => x.n - x.k) aaPB aaXB ?_ (by kernel_rfl)
  rintro ⟨n, z, y, len, cap, s, last, frm, any, i, done, bl, k, br, j⟩ ⟨h1, h64, hk, hb⟩ Q hq
  dsimp only at h1 h64 hk hb
  refine round_keep [0, 1, 5, 6, 7, 8, 9, 10, 11, 12] ?_
  rw [aaB_tree]
  have hbn := cntB_le s.B k
  have hb' : bl = cntB s.B k := hb
  have hw1 : IntKind.wrap IntKind.i64 ((bl : Int) + 1) = ((bl + 1 : Nat) : Int) := by rw [IntWalk.i64_in _ (by omega)]; omega
  have hw2 : IntKind.wrap IntKind.i64 ((k : Int) + 1) = ((k + 1 : Nat) : Int) := by rw [IntWalk.i64_in _ (by omega)]; omega
  dsimp only
  simp only [st1, hw1, hw2]
  refine T.hiteP (fun h => ?_) (fun h => ?_)
  · have h : k < n := by omega
    have e : blkA s (k : Int) = s.B k := by simp [blkA, h1, h]
    rw [e]
    have hh : Sub 1 id [some (f1R z y cap), some (alB s)] [some (f1R z y cap), some (alB s)] := f1_sub rfl rfl
    refine T.hneed isAl (T.hchk (decide_eq_true (show s.n ≤ 96 by omega)) (T.hite (fun hs => ?_) (fun hs => ?_)))
    · exact Round.go ⟨n, z, y, len, cap, s, last, frm, any, i, done, bl + 1, k + 1, br, j⟩ id ⟨h1, h64, h, by show bl + 1 = cntB s.B k + _; rw [hs, hb']; rfl⟩ (by dsimp only; omega) (SubSt.mk (by simp [aaB, aaM, SubFr, slotAt, ren, below]) (by exact hh)) hq
    · exact Round.go ⟨n, z, y, len, cap, s, last, frm, any, i, done, bl, k + 1, br, j⟩ id ⟨h1, h64, h, by show bl = cntB s.B k + _; rw [hs, hb']; rfl⟩ (by dsimp only; omega) (SubSt.mk (by simp [aaB, aaM, SubFr, slotAt, ren, below]) (by exact hh)) hq
  · obtain rfl : k = n := by omega
    have hh : Sub 1 id [some (f1R z y cap), some (alB s)] [some (f1R z y cap), some (alB s)] := f1_sub rfl rfl
    exact Round.out id ⟨[(0, .int .i64 k), (1, .sl 0 0 2 0 len cap), (5, .ptr 1 0 0 0), (6, .int .i64 last), (7, .int .i64 frm), (8, .bool any), (9, .int .i64 i), (10, .bool done), (11, .int .i64 (cntS s k : Nat))], [some (f1R z y cap), some (alB s)]⟩ (SubSt.mk (by simp [SubFr, slotAt, ren, below, hb]) (by exact hh)) hq

theorem aaD_loop : LoopOK Try.prog aaE (loopAt (loopAt (loopAt (codeOf Try.f4) 0) 1) 0) := by
  refine loopSumm_ok (E := aaE) (laE_ok _) (noLoops (by kernel_rfl)) aaD aaID (fun x => x.i + 1 - x.j) aaPD aaXD ?_ (by kernel_rfl)
  rintro ⟨n, z, y, len, cap, s, last, frm, any, i, done, bl, k, br, j⟩ ⟨h64, hlc, hil, hi, hf, hk, hj, hb⟩ Q hq
  dsimp only [brA] at h64 hlc hil hi hf hk hj hb
  refine round_keep [0, 1, 5, 7, 9, 13, 14, 15] ?_
  rw [aaD_tree]
  have hw : IntKind.wrap IntKind.i64 ((j : Int) + 1) = ((j + 1 : Nat) : Int) := by rw [IntWalk.i64_in _ (by omega)]; omega
  dsimp only
  simp only [hw, Int.toNat_natCast, Nat.zero_add]
  have hh : Sub 1 id [some (f1R z y cap), some (alB s)] [some (f1R z y cap), some (alB s)] := f1_sub rfl rfl
  refine T.hiteP (fun h => ?_) (fun h => ?_)
  · have h : j ≤ i := by omega
    refine T.hite (fun hbr => ?_) (fun hbr => ?_)
    · exact Round.go ⟨n, z, y, len, cap, s, last, frm, any, i, done, bl, k, true, j + 1⟩ id ⟨h64, hlc, hil, hi, hf, hk, by dsimp only; omega, .inl rfl⟩ (by dsimp only; omega) (SubSt.mk (by simp [aaD, aaM, SubFr, slotAt, ren, below]) (by exact hh)) hq
    · have hb' : ∃ j', j ≤ j' ∧ j' ≤ i ∧ z j' = k ∧ y j' = y i := by
        rcases hb with hb | hb
        · rw [hb] at hbr; cases hbr
        · exact hb
      obtain ⟨j', g1, g2, g3, g4⟩ := hb'
      refine T.hchk (by simp; omega) (T.hchk (by simp; omega) (T.hite (fun hz => ?_) (fun hz => ?_)))
      · refine T.hchk (by simp; omega) (T.hchk (by simp; omega) (T.hchk (by simp; omega) (T.hchk (by simp; omega) ?_)))
        refine Round.go ⟨n, z, y, len, cap, s, last, frm, any, i, done, bl, k, y j == y i, j + 1⟩ id ⟨h64, hlc, hil, hi, hf, hk, by dsimp only; omega, ?_⟩ (by dsimp only; omega) (SubSt.mk (by simp [aaD, aaM, SubFr, slotAt, ren, below]) (by exact hh)) hq
        by_cases e : j' = j
        · left; subst e; simpa using g4
        · exact .inr ⟨j', by dsimp only; omega, g2, g3, g4⟩
      · refine Round.go ⟨n, z, y, len, cap, s, last, frm, any, i, done, bl, k, false, j + 1⟩ id ⟨h64, hlc, hil, hi, hf, hk, by dsimp only; omega, ?_⟩ (by dsimp only; omega) (SubSt.mk (by simp [aaD, aaM, SubFr, slotAt, ren, below]) (by exact hh)) hq
        by_cases e : j' = j
        · subst e; simp [g3] at hz
        · exact .inr ⟨j', by dsimp only; omega, g2, g3, g4⟩
  · have hbr : br = true := by
      rcases hb with hb | ⟨j', g1, g2, _⟩
      · exact hb
      · omega
    subst hbr
    exact Round.out id ⟨[(0, .int .i64 n), (1, .sl 0 0 2 0 len cap), (5, .ptr 1 0 0 0), (7, .int .i64 frm), (9, .int .i64 i), (13, .int .i64 k), (14, .bool true)], [some (f1R z y cap), some (alB s)]⟩ (SubSt.mk (by simp [SubFr, slotAt, ren, below]) (by exact hh)) hq

theorem aaC_loop : LoopOK Try.prog aaE (loopAt (loopAt (codeOf Try.f4) 0) 1) := by
  refine loopSumm_ok (E := aaE) (laE_ok _) (oneLoop (by kernel_rfl) aaD_loop) aaC aaIC (fun x => x.n - x.k) aaPC aaXC ?_ (by kernel_rfl)
  rintro ⟨n, z, y, len, cap, s, last, frm, any, i, done, bl, k, br, j⟩ ⟨h64, hlc, hil, hi, hf, hk, hb⟩ Q hq
  dsimp only [brA] at h64 hlc hil hi hf hk hb
  refine round_keep [0, 1, 5, 7, 9, 13] ?_
  rw [aaC_tree]
  have hw : IntKind.wrap IntKind.i64 ((k : Int) + 1) = ((k + 1 : Nat) : Int) := by rw [IntWalk.i64_in _ (by omega)]; omega
  dsimp only
  simp only [hw, Int.toNat_natCast, st1]
  have hh : Sub 1 id [some (f1R z y cap), some (alB s)] [some (f1R z y cap), some (alB s)] := f1_sub rfl rfl
  refine T.hiteP (fun h => ?_) (fun h => ?_)
  · have h : k < n := by omega
    obtain ⟨j', g1, g2, g3, g4⟩ := hb k h
    refine T.hneed ⟨id, SubSt.mk (by simp [aaD, aaM, SubFr, slotAt, ren, below]) (by exact hh)⟩ (T.hneed ⟨h64, hlc, hil, hi, hf, h, by dsimp only; omega, .inr ⟨j', g1, g2, g3, g4⟩⟩ (T.hite (fun hx => by cases hx) (fun _ => ?_)))
    exact Round.go ⟨n, z, y, len, cap, s, last, frm, any, i, done, bl, k + 1, br, j⟩ id ⟨h64, hlc, hil, hi, hf, h, hb⟩ (by dsimp only; omega) (SubSt.mk (by simp [aaC, aaM, SubFr, slotAt, ren, below]) (by exact hh)) hq
  · exact Round.out id ⟨[(0, .int .i64 n), (1, .sl 0 0 2 0 len cap), (5, .ptr 1 0 0 0), (7, .int .i64 frm), (9, .int .i64 i)], [some (f1R z y cap), some (alB s)]⟩ (SubSt.mk (by simp [SubFr, slotAt, ren, below]) (by exact hh)) hq

theorem colZ_f1 (z y : Nat → Int) (cap : Nat) : colZ (f1R z y cap) = z := rfl
theorem colY_f1 (z y : Nat → Int) (cap : Nat) : colY (f1R z y cap) = y := rfl
theorem cnt_full (s : AL) (no : Int) (n : Nat) : cntS (fullA s no) n = 0 := cntB_none n
theorem aa_inner : ∀ c' ∈ loopsIn (loopAt (codeOf Try.f4) 0), LoopOK Try.prog aaE c' := by
  have h : loopsIn (loopAt (codeOf Try.f4) 0) = [loopAt (loopAt (codeOf Try.f4) 0) 0, loopAt (loopAt (codeOf Try.f4) 0) 1] := by kernel_rfl
  intro c' hc
  rw [h] at hc
  simp only [List.mem_cons, List.not_mem_nil, or_false] at hc
  rcases hc with rfl | rfl
  · exact aaB_loop
  · exact aaC_loop

theorem aaA_loop : LoopOK Try.prog aaE (loopAt (codeOf Try.f4) 0) := by
  refine loopSumm_ok (E := aaE) (laE_ok _) aa_inner aaA aaIA (fun x => x.len - x.i) aaPA aaXA ?_ (by kernel_rfl)
  rintro ⟨n, z, y, len, cap, s, last, frm, any, i, done, bl, k, br, j⟩ ⟨hn, h64, hlc, hil, hi, hf, h1, hc, hl, ha, hla, hB⟩ Q hq
  dsimp only at hn h64 hlc hil hi hf h1 hc hl ha hla hB
  refine round_keep [0, 1, 5, 6, 7, 8, 9] ?_
  rw [aaA_tree]
  have hw : IntKind.wrap IntKind.i64 ((i : Int) + 1) = ((i + 1 : Nat) : Int) := by rw [IntWalk.i64_in _ (by omega)]; omega
  have out : ∀ st, Round aaE aaA aaIA (fun x => x.len - x.i) aaXA Q ⟨n, z, y, len, cap, s, last, frm, any, i, done, bl, k, br, j⟩ (.exit 0, st) := fun st => Round.out id ⟨[], [none]⟩ (SubSt.mk trivial (Sub.nothing (n := 1) _)) hq
  dsimp only
  simp only [st1, st2, hw, Int.toNat_natCast, Nat.zero_add, colZ_f1, colY_f1]
  refine T.hiteP (fun hi' => T.hiteP (fun h300 => ?_) (fun _ => out _)) (fun _ => out _)
  have hi' : i < len := by omega
  have h300 : i < 300 := by omega
  rcases step (I := z i) (no := y i) hn h64 h1 hc hl with ⟨e1, g1, g2, g3, g4, g5, g6⟩ | ⟨e1, e2, g1, g2⟩
  · simp only [e1]
    have hh : Sub 1 id [some (f1R z y cap), some (alB (bar s (z i) (y i)))] [some (f1R z y cap), some (alB (bar s (z i) (y i)))] := f1_sub rfl rfl
    refine T.hchk (by simp; omega) (T.hchk (by simp; omega) (T.hchk (by simp; omega) (T.hchk (by simp; omega) (T.hneed isAl (T.hchk (decide_eq_true (show s.n ≤ 96 by omega)) (T.hneed ⟨id, SubSt.mk (by simp [aaB, aaM, SubFr, slotAt, ren, below, boolA]) (by exact hh)⟩ (T.hneed ⟨g1, h64, Nat.zero_le _, rfl⟩ ?_)))))))
    refine T.hite (fun h => absurd h (by simp; omega)) (fun _ => T.hite (fun h => by cases h) (fun _ => T.hite (fun _ => ?_) (fun h => by cases h)))
    refine Round.go ⟨n, z, y, len, cap, bar s (z i) (y i), last, frm, any, i + 1, done, bl, k, br, j⟩ id ⟨hn, h64, hlc, hi', h300, by dsimp only; omega, g1, g2, g3, by dsimp only; rw [ha, g4], fun h => by dsimp only; rw [g5]; exact hla h, fun k hk hb => ?_⟩ (by dsimp only; omega) (SubSt.mk (by simp [aaA, aaM, SubFr, slotAt, ren, below, boolA]) (by exact hh)) hq
    rcases g6 k hk hb with ⟨e, e'⟩ | ⟨e, e'⟩
    · exact ⟨i, hf, Nat.lt_succ_self _, e, e'.symm⟩
    · obtain ⟨j', a, b, c, d⟩ := hB k hk e
      exact ⟨j', a, Nat.lt_succ_of_lt b, c, by dsimp only; rw [d, e']⟩
  · simp only [e1, e2, cnt_full]
    have hh : Sub 1 id [some (f1R z y cap), some (alB (fullA s (y i)))] [some (f1R z y cap), some (alB (fullA s (y i)))] := f1_sub rfl rfl
    refine T.hchk (by simp; omega) (T.hchk (by simp; omega) (T.hchk (by simp; omega) (T.hchk (by simp; omega) (T.hneed isAl (T.hchk (decide_eq_true (show s.n ≤ 96 by omega)) (T.hneed ⟨id, SubSt.mk (by simp [aaB, aaM, SubFr, slotAt, ren, below, boolA]) (by exact hh)⟩ (T.hneed ⟨h1, h64, Nat.zero_le _, rfl⟩ ?_)))))))
    refine T.hite (fun h => absurd h (by simp; omega)) (fun _ => T.hite (fun _ => T.hiteP (fun h => absurd h (by simp)) (fun _ => ?_)) (fun h => by cases h))
    refine T.hite (fun hany => T.hchk (by simp; omega) (T.hchk (by simp; omega) (T.hiteP (fun h => ?_) (fun _ => ?_)))) (fun _ => ?_)
    · have hany : any = true := hany
      exact absurd ⟨by rw [← ha]; exact hany, by rw [← hla hany]; exact h⟩ g1
    all_goals
      refine T.hite (fun h => by cases h) (fun _ => T.hneed ⟨id, SubSt.mk (by simp [aaC, aaM, SubFr, slotAt, ren, below, boolA]) (by exact hh)⟩ (T.hneed ⟨h64, hlc, hi', hi, hf, Nat.zero_le _, fun k hk => ?_⟩ (T.hchk (by simp; omega) (T.hchk (by simp; omega) ?_))))
      · rcases g2 k hk with e | ⟨e, e'⟩
        · exact ⟨i, hf, Nat.le_refl _, e, rfl⟩
        · obtain ⟨j', a, b, c, d⟩ := hB k hk e
          exact ⟨j', a, Nat.le_of_lt b, c, by dsimp only; rw [d, e']⟩
      · exact Round.go ⟨n, z, y, len, cap, fullA s (y i), y i, i + 1, true, i + 1, done, bl, k, br, j⟩ id ⟨hn, h64, hlc, hi', h300, Nat.le_refl _, h1, by dsimp only; rw [cnt_full]; rfl, by dsimp only; rw [cnt_full]; omega, rfl, fun _ => rfl, fun k hk hb => by cases hb⟩ (by dsimp only; omega) (SubSt.mk (by simp [aaA, aaM, SubFr, slotAt, ren, below, boolA]) (by exact hh)) hq

theorem aaE_holds (n : Int) (z y : Nat → Int) (len cap : Nat) (hlc : len ≤ cap) : (afn Try.prog aaE Try.f4 (codeOf Try.f4) [.int .i64 n, .sl 0 0 2 0 len cap] [some (f1R z y cap)]).holds fun r => r.1.yes = true := by
  rw [aa_fnE]
  have p1 := Int.emod_nonneg n (show (64 : Int) ≠ 0 by omega)
  have p2 := Int.emod_lt_of_pos n (show (0 : Int) < 64 by omega)
  rw [if_neg (show ¬ (64 : Int) < 1 by omega), show IntKind.wrap .i64 (1 + n % 64) = 1 + n % 64 from IntWalk.i64_in _ (by omega)]
  obtain ⟨N, hN⟩ : ∃ N : Nat, 1 + n % 64 = (N : Int) := ⟨(1 + n % 64).toNat, by omega⟩
  rw [hN]
  have h64 : N ≤ 64 := by omega
  simp only [Int.toNat_natCast, st1, st2, colZ_f1, colY_f1]
  have s0 : Sub 1 id [some (f1R z y cap), some (alB (newA N))] [some (f1R z y cap), some (alB (newA N))] := f1_sub rfl rfl
  have c0 : cntS (newA N) N = 0 := cntB_none N
  refine T.hchk rfl (T.hneed ⟨id, SubSt.mk (by simp [aaA, aaM, SubFr, slotAt, ren, below, boolA]) (by exact s0)⟩ (T.hneed ⟨by dsimp only; omega, h64, hlc, Nat.zero_le _, Nat.zero_le _, Nat.le_refl _, clamp64 h64, by dsimp only; rw [c0]; rfl, by dsimp only; rw [c0]; omega, rfl, fun h => (by cases h), fun k hk hb => by cases hb⟩ rfl))

theorem aaN_holds (n : Int) : (afn Try.prog aaN Try.f4 (codeOf Try.f4) [.int .i64 n, .nils] []).holds fun r => r.1.yes = true := by
  rw [aa_fnN]
  exact T.hchk rfl (T.hite (fun h => absurd h (by decide)) (fun _ => rfl))

theorem aa_law : ∀ args m, ArgsAV [PK.one (CK.int IntKind.i64), PK.one (CK.sl [CK.int IntKind.i64, CK.int IntKind.i64])] [] args m → Walks Try.prog Try.f4 (codeOf Try.f4) args m := by
  intro args m h
  obtain ⟨n, _, rfl, hn, h⟩ := args_int h
  rcases args_sl h with ⟨_, rfl, hh⟩ | ⟨len, cap, g, _, rfl, hl, hc, hz, hh⟩
  · obtain ⟨rfl, rfl⟩ := args_nil hh
    exact ⟨aaN, laE_ok _, oneLoop (by kernel_rfl) (unroll_ok (E := aaN) (laE_ok _) aaZ rfl rfl rfl 1 (fun c' _ st Q hq => absurd hq (fun h => h)) (by kernel_rfl)), rfl, rfl, aaN_holds n⟩
  · obtain ⟨rfl, rfl⟩ := args_nil hh
    exact ⟨aaE, laE_ok _, oneLoop (by kernel_rfl) aaA_loop, rfl, rfl, aaE_holds n (fun r => intV (g r 0)) (fun r => intV (g r 1)) len cap hl⟩

end Go.Proofs.Ythbdkhlpojngeaa
