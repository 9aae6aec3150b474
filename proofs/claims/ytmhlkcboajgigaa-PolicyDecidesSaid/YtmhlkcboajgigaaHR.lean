/-
  Layer 27: PolicyCalm: the walk.
-/
import Derived.Test.YtmhlkcboajgigaaHQ
namespace Go.Proofs.Ytmhlkcboajgigaa
open Go.Ox
set_option maxRecDepth 100000
set_option linter.unusedVariables false
set_option linter.unusedSimpArgs false

theorem qs_sub {q : QS} {m : AM} {b' b : Blk} (h0 : m.get 0 = some (q.x.blk .i64)) (h1 : m.get 1 = some (q.y.blk .i64)) (h2 : m.get 2 = some (Blk.rows false 5 q.cap fun r => [.int .i64 (q.now r), .part 0 [r], .part 1 [r], .int .i64 (q.no r), .bool (q.idle r)])) (h3 : m.get 3 = some b') (hb : BlkOK 4 id b' b) :
    Sub 3 id m (qsMem q ++ [some b]) :=
  Sub.ofId ⟨⟨_, h0, FD.ok _⟩, ⟨_, h1, FD.ok _⟩, ⟨_, h2, BlkOK.rows' (fun h => h) fun j _ => by simp [LAlike, ren, below, AV.scalar, qsMem]⟩, ⟨_, h3, hb⟩, trivial⟩ (by simp [qsMem])

theorem pol_blk' {n : Nat} {ρ : Nat → Nat} {c s l l' : Int} {D : AV} {d : Bool} {F : Nat → List AV} (hl : l' = l) (h : Ox.Alike D (.bool d)) : BlkOK n ρ ⟨true, [.int .i64 c, .int .i64 s, .int .i64 l', D], 0, 0, F, [], none⟩ (polB c s l d) := by
  subst hl; exact pol_blk h

theorem off_one {cur tar sl : Int} (h1 : -1073741824 < cur) (h2 : cur < 1073741824) (h3 : -1073741824 < tar) (h4 : tar < 1073741824) (h5 : 1 ≤ sl) (h6 : sl ≤ 1048576) :
    offA (fun j => List.getD [cur] j 0) (fun j => List.getD [tar] j 0) 1 1 sl = decide (sl ≤ cur - tar ∨ sl ≤ tar - cur) := by
  unfold offA
  have e : min 1 1 = 1 := rfl
  rw [e]
  simp only [anyR, faR, Bool.or_false]
  have e1 : dvG cur tar = if cur < tar then tar - cur else cur - tar := dvG_eq (by omega) (by omega)
  have e2 : IntKind.wrap .u64 sl = sl := by rw [IntKind.wrap_u64]; omega
  simp only [Int.toNat_natCast, List.getD_cons_zero, e1, e2]
  rw [decide_eq_decide]
  split <;> omega

theorem w64 {a : Int} (h1 : -9223372036854775808 ≤ a) (h2 : a ≤ 9223372036854775807) : IntKind.wrap .i64 a = a := IntWalk.i64_in _ (by omega)

theorem ca_C : (chainOf caC).drop 2 = .block 1 caB :: (chainOf caC).drop 3 := by kernel_rfl

/-- Behind the question: what the round leaves. -/
def caNext (x : CA) : Prop := x.q.len ≤ x.q.cap ∧ x.q.cap ≤ maxLen ∧ x.q.x.wf .i64 ∧ x.q.y.wf .i64 ∧ 1 ≤ x.cd ∧ x.cd ≤ 1048576 ∧ 1 ≤ x.sl ∧ x.sl ≤ 1048576 ∧ 0 ≤ x.now ∧ x.now ≤ (x.i + 1) * 1048576 ∧ x.i < 200 ∧ x.i < x.q.len ∧
  (x.d = false → x.last = - x.cd) ∧ (x.d = true → x.last = x.l ∧ 0 ≤ x.l ∧ x.l ≤ x.now)

theorem deA_iff {c l : Int} {d : Bool} {now no : Int} {idle off : Bool} : deA c l d now no idle off = true ↔ (no = 0 ∧ idle = true ∧ off = true) ∧ ¬ (d = true ∧ IntKind.wrap .i64 (now - l) < c) := by
  unfold deA
  cases idle <;> cases off <;> cases d <;> simp

theorem ca_rest (x : CA) (cur tar : Int) (hx : caNext x) (h1 : -1073741824 < cur) (h2 : cur < 1073741824) (h3 : -1073741824 < tar) (h4 : tar < 1073741824) {R : Ex × St → Prop}
    (hR : ∀ x', caNext x' → x'.i = x.i → x'.q = x.q → R (.norm, caX x' [])) :
    AWpL Try.prog caE (((chainOf caB).drop 5).drop 2) (caX x [(11, .int .i64 cur), (12, .int .i64 tar)]) R := by
  obtain ⟨q, cd, sl, now, last, l, d, i⟩ := x
  obtain ⟨a1, a2, a3, a4, a5, a6, a7, a8, a9, a10, a11, a12, a13, a14⟩ := hx
  dsimp only at a1 a2 a3 a4 a5 a6 a7 a8 a9 a10 a11 a12 a13 a14
  refine awpl_end (E := caE) (laE_ok _) (noLoopsL_ok (by kernel_rfl)) (weak_keep [0, 1, 2, 7, 8, 9, 10] (T.cut_eq (ca_t4 q cd sl now last l d i cur tar) ?_))
  have hoff := off_one h1 h2 h3 h4 a7 a8
  have w1 : IntKind.wrap .i64 (cur - tar) = cur - tar := w64 (by omega) (by omega)
  have w2 : IntKind.wrap .i64 (tar - cur) = tar - cur := w64 (by omega) (by omega)
  have w3 : IntKind.wrap .i64 (now - last) = now - last := by
    cases d with
    | true => obtain ⟨b1, b2, b3⟩ := a14 rfl; exact w64 (by omega) (by omega)
    | false => have := a13 rfl; exact w64 (by omega) (by omega)
  have w4 : d = true → IntKind.wrap .i64 (now - l) = now - last := fun h => by obtain ⟨b1, b2, b3⟩ := a14 h; rw [← b1]; exact w3
  have w5 : d = false → now - last ≥ cd := fun h => by have := a13 h; omega
  have hde : ∀ no idle, deA cd l d now no idle (offA (fun j => List.getD [cur] j 0) (fun j => List.getD [tar] j 0) 1 1 sl) = (decide (no = 0) && (idle && (decide (sl ≤ cur - tar ∨ sl ≤ tar - cur) && decide (now - last ≥ cd)))) := fun no idle => by
    rw [Bool.eq_iff_iff, deA_iff, hoff]
    simp only [Bool.and_eq_true, decide_eq_true_eq]
    cases d with
    | true => rw [w4 rfl]; simp only [true_and, Int.not_lt, ge_iff_le, and_assoc]
    | false => have := w5 rfl; simp only [Bool.false_eq_true, false_and, not_false_eq_true, and_true, ge_iff_le, this, and_assoc]
  have yes : ∀ (X : AM) (D : AV) (F : Nat → List AV) (b' : Int), Ox.Alike D (.bool true) → b' = now → (Weak caE R) (.norm, ⟨[(0, .int .i64 cd), (1, .int .i64 sl), (2, .sl 2 0 5 0 q.len q.cap), (7, .ptr 3 0 0 0), (8, .int .i64 now), (9, .int .i64 now), (10, .int .i64 i)], qsMem q ++ some ⟨true, [.int .i64 cd, .int .i64 sl, .int .i64 b', D], 0, 0, F, [], none⟩ :: X⟩) := fun X D F b' hD hb =>
    ⟨id, caX ⟨q, cd, sl, now, now, now, true, i⟩ [], SubSt.mk (by simp [caX, SubFr, slotAt, ren, below, qsMem]) (qs_sub rfl rfl rfl rfl (pol_blk' hb hD)),
      hR ⟨q, cd, sl, now, now, now, true, i⟩ ⟨a1, a2, a3, a4, a5, a6, a7, a8, a9, a10, a11, a12, (fun h => by cases h), fun _ => ⟨rfl, a9, Int.le_refl _⟩⟩ rfl rfl⟩
  have nay : ∀ (X : AM) (D : AV) (F : Nat → List AV) (b' : Int), Ox.Alike D (.bool d) → b' = l → (Weak caE R) (.norm, ⟨[(0, .int .i64 cd), (1, .int .i64 sl), (2, .sl 2 0 5 0 q.len q.cap), (7, .ptr 3 0 0 0), (8, .int .i64 now), (9, .int .i64 last), (10, .int .i64 i)], qsMem q ++ some ⟨true, [.int .i64 cd, .int .i64 sl, .int .i64 b', D], 0, 0, F, [], none⟩ :: X⟩) := fun X D F b' hD hb =>
    ⟨id, caX ⟨q, cd, sl, now, last, l, d, i⟩ [], SubSt.mk (by simp [caX, SubFr, slotAt, ren, below, qsMem]) (qs_sub rfl rfl rfl rfl (pol_blk' hb hD)),
      hR ⟨q, cd, sl, now, last, l, d, i⟩ ⟨a1, a2, a3, a4, a5, a6, a7, a8, a9, a10, a11, a12, a13, a14⟩ rfl rfl⟩
  simp only [List.getD_cons_zero, List.getD_cons_succ, intB, boolB, hde, w1, w2, w3]
  clear hde hoff hR
  repeat' first | with_reducible refine T.hneed (isPol (.inr (.inr ⟨_, rfl⟩))) ?_ | with_reducible refine T.hneed ints_row ?_ | with_reducible refine T.hneed rfl ?_ | with_reducible refine T.hiteP (fun _ => ?_) (fun _ => ?_) | with_reducible refine T.hiteE (fun _ => ?_) (fun _ => ?_) | with_reducible refine T.hite (fun _ => ?_) (fun _ => ?_) | with_reducible refine T.hchk ?_ ?_ | with_reducible refine T.hret ?_
  all_goals first
    | rfl
    | (refine yes _ _ _ _ ?_ ?_ <;> simp_all <;> done)
    | (refine nay _ _ _ _ ?_ ?_ <;> simp_all <;> done)
    | (refine nay _ _ _ _ ?_ ?_ <;> rw [show decide (now - last ≥ cd) = false from decide_eq_false (by assumption)] <;> simp <;> done)
    | (refine nay _ _ _ _ ?_ ?_ <;> rw [show decide (sl ≤ cur - tar ∨ sl ≤ tar - cur) = false from decide_eq_false (by omega)] <;> simp <;> done)
    | (exfalso; simp_all; done)
    | (exfalso; simp_all; omega)
    | (simp; omega)
    | skip

theorem ca_first (x : CA) (hx : caInv x) (h1 : x.i < 200) (h2 : x.i < x.q.len) {R : Ex × St → Prop} (hR : ∀ x', caNext x' → x'.i = x.i → x'.q = x.q → R (.norm, caX x' [])) :
    AWpL Try.prog caE (chainOf caB) (caX x []) R := by
  obtain ⟨q, cd, sl, now, last, l, d, i⟩ := x
  obtain ⟨a1, a2, a3, a4, a5, a6, a7, a8, a9, a10, a11, a12, a13, a14⟩ := hx
  dsimp only at a1 a2 a3 a4 a5 a6 a7 a8 a9 a10 a11 a12 a13 a14 h1 h2
  have hp0 : 0 ≤ q.now (0 + (i : Int).toNat) % 1048576 := Int.emod_nonneg _ (by decide)
  have hp1 : q.now (0 + (i : Int).toNat) % 1048576 < 1048576 := Int.emod_lt_of_pos _ (by decide)
  have hw : IntKind.wrap .i64 (now + q.now (0 + (i : Int).toNat) % 1048576) = now + q.now (0 + (i : Int).toNat) % 1048576 := w64 (by omega) (by omega)
  have t1 : ∀ z : Int, -1073741824 < z.tmod 1073741824 ∧ z.tmod 1073741824 < 1073741824 := fun z => by
    have g1 := Int.tmod_lt_of_pos z (show (0 : Int) < 1073741824 by decide)
    have g2 := Int.lt_tmod_of_pos z (show (0 : Int) < 1073741824 by decide)
    omega
  have key : ∀ cur : Int, -1073741824 < cur → cur < 1073741824 → AWpL Try.prog caE ((chainOf caB).drop 5) (caX ⟨q, cd, sl, now + q.now (0 + (i : Int).toNat) % 1048576, last, l, d, i⟩ [(11, .int .i64 cur), (12, .int .i64 0)]) R := fun cur c1 c2 => by
    refine awpl_cut (E := caE) (laE_ok _) 2 (noLoopsL_ok (by kernel_rfl)) (weak_keep [0, 1, 2, 7, 8, 9, 10, 11, 12] (T.cut_eq (ca_t3 q cd sl (now + q.now (0 + (i : Int).toNat) % 1048576) last l d i cur) ?_))
    have go : ∀ (X : AM) (tar : Int), -1073741824 < tar → tar < 1073741824 → (Weak caE (Then R fun st' => AWpL Try.prog caE (((chainOf caB).drop 5).drop 2) st' R)) (.norm, ⟨[(0, .int .i64 cd), (1, .int .i64 sl), (2, .sl 2 0 5 0 q.len q.cap), (7, .ptr 3 0 0 0), (8, .int .i64 (now + q.now (0 + (i : Int).toNat) % 1048576)), (9, .int .i64 last), (10, .int .i64 i), (11, .int .i64 cur), (12, .int .i64 tar)], qsMem q ++ some (polB cd sl l d) :: X⟩) := fun X tar b1 b2 =>
      ⟨id, caX ⟨q, cd, sl, now + q.now (0 + (i : Int).toNat) % 1048576, last, l, d, i⟩ [(11, .int .i64 cur), (12, .int .i64 tar)], SubSt.mk (by simp [caX, SubFr, slotAt, ren, below, qsMem]) (qs_sub rfl rfl rfl rfl (pol_blk (by simp))),
        ca_rest _ cur tar ⟨a1, a2, a3, a4, a5, a6, a7, a8, by dsimp only; omega, by dsimp only; omega, h1, h2, a13, fun h => by have := a14 h; dsimp only; omega⟩ c1 c2 b1 b2 hR⟩
    have hy := a4.pos [0 + (i : Int).toNat]
    repeat' first | with_reducible refine T.hiteP (fun _ => ?_) (fun _ => ?_) | with_reducible refine T.hite (fun _ => ?_) (fun _ => ?_) | with_reducible refine T.hchk ?_ ?_ | with_reducible refine T.hret ?_
    all_goals first
      | rfl
      | exact go _ _ (by decide) (by decide)
      | exact go _ _ (t1 _).1 (t1 _).2
      | (simp; omega)
      | (simp_all; done)
      | (simp_all; omega)
  refine awpl_cut (E := caE) (laE_ok _) 5 (noLoopsL_ok (by kernel_rfl)) (weak_keep [0, 1, 2, 7, 8, 9, 10, 11, 12] (T.cut_eq (ca_t2 q cd sl now last l d i) ?_))
  have go : ∀ (X : AM) (cur : Int), -1073741824 < cur → cur < 1073741824 → (Weak caE (Then R fun st' => AWpL Try.prog caE ((chainOf caB).drop 5) st' R)) (.norm, ⟨[(0, .int .i64 cd), (1, .int .i64 sl), (2, .sl 2 0 5 0 q.len q.cap), (7, .ptr 3 0 0 0), (8, .int .i64 (IntKind.wrap .i64 (now + if (1048576 : Int) < 1 then 0 else q.now (0 + (i : Int).toNat) % 1048576))), (9, .int .i64 last), (10, .int .i64 i), (11, .int .i64 cur), (12, .int .i64 0)], qsMem q ++ some (polB cd sl l d) :: X⟩) := fun X cur b1 b2 =>
    ⟨id, caX ⟨q, cd, sl, now + q.now (0 + (i : Int).toNat) % 1048576, last, l, d, i⟩ [(11, .int .i64 cur), (12, .int .i64 0)], SubSt.mk (by simp [caX, SubFr, slotAt, ren, below, qsMem]; simpa using hw) (qs_sub rfl rfl rfl rfl (pol_blk (by simp))), key cur b1 b2⟩
  have hy := a3.pos [0 + (i : Int).toNat]
  repeat' first | with_reducible refine T.hiteP (fun _ => ?_) (fun _ => ?_) | with_reducible refine T.hite (fun _ => ?_) (fun _ => ?_) | with_reducible refine T.hchk ?_ ?_ | with_reducible refine T.hret ?_
  all_goals first
    | rfl
    | exact go _ _ (by decide) (by decide)
    | exact go _ _ (t1 _).1 (t1 _).2
    | (simp; omega)
    | (simp_all; done)
    | (simp_all; omega)

theorem ca_loop : LoopOK Try.prog caE (loopAt (codeOf Try.f4) 0) := by
  refine loop_any (E := caE) caSt caInv (fun x => 200 - x.i) caPick (fun _ => endN 3) ?_ (by kernel_rfl)
  intro x hx Q hq
  have hx0 := hx
  have hq : Q (.exit 0, ⟨[], List.replicate 3 none⟩) := hq
  obtain ⟨q, cd, sl, now, last, l, d, i⟩ := x
  refine awp_chain (awpl_cut (E := caE) (laE_ok _) 2 (noLoopsL_ok (by kernel_rfl)) (weak_keep [0, 1, 2, 7, 8, 9, 10] ?_))
  show T.holds (keepT [0, 1, 2, 7, 8, 9, 10] (acodeL Try.prog caE ((chainOf caC).take 2) (caX ⟨q, cd, sl, now, last, l, d, i⟩ []))) _
  rw [ca_t1]
  refine T.hiteP (fun h2 => T.hiteP (fun h1 => T.hret ?_) (fun _ => T.hret ?_)) (fun _ => T.hret ?_)
  · refine ⟨id, caX ⟨q, cd, sl, now, last, l, d, i⟩ [], SubSt.mk (by simp [caX, SubFr, slotAt, ren, below, qsMem]) (qs_sub rfl rfl rfl rfl (pol_blk (by simp))), ?_⟩
    show AWpL Try.prog caE ((chainOf caC).drop 2) _ _
    rw [ca_C]
    refine awpl_block (ca_first ⟨q, cd, sl, now, last, l, d, i⟩ hx0 (by dsimp only; omega) (by dsimp only; omega) fun x' hx' hi' hq' => ?_)
    obtain ⟨q', cd', sl', now', last', l', d', i'⟩ := x'
    dsimp only at hi' hq'
    subst hi' hq'
    obtain ⟨a1, a2, a3, a4, a5, a6, a7, a8, a9, a10, a11, a12, a13, a14⟩ := hx'
    dsimp only at a1 a2 a3 a4 a5 a6 a7 a8 a9 a10 a11 a12 a13 a14
    refine awpl_end (E := caE) (laE_ok _) (noLoopsL_ok (by kernel_rfl)) (weak_keep [0, 1, 2, 7, 8, 9, 10] ?_)
    rw [ca_t5]
    have hw : IntKind.wrap IntKind.i64 ((i' : Int) + 1) = ((i' + 1 : Nat) : Int) := by rw [IntWalk.i64_in _ (by omega)]; omega
    exact T.hret ⟨id, caX ⟨q', cd', sl', now', last', l', d', i' + 1⟩ [], SubSt.mk (by simp [caX, SubFr, slotAt, ren, below, qsMem, hw]) (qs_sub rfl rfl rfl rfl (pol_blk (by simp))),
      Round.go ⟨q', cd', sl', now', last', l', d', i' + 1⟩ id ⟨a1, a2, a3, a4, a5, a6, a7, a8, a9, by dsimp only; omega, by dsimp only; omega, by dsimp only; omega, a13, a14⟩ (by dsimp only; omega) (SubSt.mk (by simp [caSt, caX, SubFr, slotAt, ren, below, qsMem]) (qs_sub rfl rfl rfl rfl (pol_blk (by simp)))) hq⟩
  · refine ⟨id, ⟨[], List.replicate 3 none⟩, SubSt.mk (by simp [SubFr]) (Sub.nothing (n := 3) _), ?_⟩
    exact ⟨id, ⟨[], List.replicate 3 none⟩, SubSt.mk (by simp [SubFr]) (Sub.nothing (n := 3) _), hq⟩
  · refine ⟨id, ⟨[], List.replicate 3 none⟩, SubSt.mk (by simp [SubFr]) (Sub.nothing (n := 3) _), ?_⟩
    exact ⟨id, ⟨[], List.replicate 3 none⟩, SubSt.mk (by simp [SubFr]) (Sub.nothing (n := 3) _), hq⟩

end Go.Proofs.Ytmhlkcboajgigaa
