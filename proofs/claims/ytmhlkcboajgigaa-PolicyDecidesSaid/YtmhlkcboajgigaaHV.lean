/-
  Layer 27: PolicyNotes: the walk.
-/
import Derived.Test.YtmhlkcboajgigaaHU
namespace Go.Proofs.Ytmhlkcboajgigaa
open Go.Ox
set_option maxRecDepth 100000
set_option linter.unusedVariables false
set_option linter.unusedSimpArgs false

theorem off_self {h : Nat → Int} {s : Int} (h1 : 1 ≤ s) (h2 : s ≤ 9223372036854775807) (lb : Nat) : offA h h lb lb s = false := by
  cases e : offA h h lb lb s with
  | false => rfl
  | true =>
    obtain ⟨j, _, _, hj⟩ := (anyR_iff _ _ _).1 e
    have e1 : dvG (h j) (h j) = 0 := by unfold dvG; rw [Int.sub_self]; rfl
    have e2 : IntKind.wrap .u64 s = s := by rw [IntKind.wrap_u64]; omega
    simp only [faR, Int.toNat_natCast, decide_eq_true_eq, e1, e2] at hj
    omega
theorem my_hi {a : Int} (h : a ≤ 9223372036854775807) : myG a ≤ 9223372036854775807 := by
  unfold myG
  simp only [IntKind.wrap_i64]
  repeat' split
  all_goals omega

theorem no_sub {q : QS} {m : AM} {n : Nat} {b1' b1 b2' b2 : Blk} {mx : AM} (h0 : m.get 0 = some (q.x.blk .i64)) (h1 : m.get 1 = some (q.y.blk .i64)) (h2 : m.get 2 = some (Blk.rows false 5 q.cap fun r => [.int .i64 (q.now r), .part 0 [r], .part 1 [r], .int .i64 (q.no r), .bool (q.idle r)])) (h3 : m.get 3 = some b1') (h4 : m.get 4 = some b2')
    (hn : n = (qsMem q ++ some b1 :: some b2 :: mx).length) (hb : BlkOK n id b1' b1) (hb2 : BlkOK n id b2' b2) (hx : SubBlks n id m 5 mx) : Sub 3 id m (qsMem q ++ some b1 :: some b2 :: mx) := by
  subst hn
  refine Sub.ofId ⟨⟨_, h0, FD.ok _⟩, ⟨_, h1, FD.ok _⟩, ⟨_, h2, BlkOK.rows' (fun h => h) fun j _ => by simp [LAlike, ren, below, AV.scalar, qsMem]⟩, ⟨_, h3, hb⟩, ⟨_, h4, hb2⟩, hx⟩ (by simp [qsMem])

theorem xB_ok {q : QS} {i n : Nat} (hn : 2 ≤ n) : BlkOK n id (xB q i) (xB q i) :=
  ⟨fun h => h, by simp [xB, LAlike, ren, below, AV.scalar]; omega, rfl, rfl, (fun j hj => absurd hj (Nat.not_lt_zero _)), trivial, trivial⟩

theorem no_C : (chainOf noC).drop 2 = .block 1 noB :: (chainOf noC).drop 3 := by kernel_rfl

theorem deA_no {c l : Int} {d : Bool} {now : Int} {idle off : Bool} : deA c l d now 14 idle off = false := by simp [deA]
theorem deA_busy {c l : Int} {d : Bool} {now no : Int} {off : Bool} : deA c l d now no false off = false := by simp [deA]
theorem deA_near {c l : Int} {d : Bool} {now no : Int} {idle : Bool} : deA c l d now no idle false = false := by simp [deA]

theorem no_last (x : NO) (now : Int) (hx : noInv x) (hl : x.q.x.ln [x.i] ≤ 50) {R : Ex × St → Prop} (hR : ∀ l d, R (.norm, noX { x with l := l, d := d } [] [])) :
    AWpL Try.prog noE (((chainOf noB).drop 4).drop 2) (noX x [(10, .ptr 5 0 0 0), (11, .int .i64 now)] [some (xB x.q x.i)]) R := by
  obtain ⟨q, c, s, l, d, i⟩ := x
  obtain ⟨a1, a2, a3, a4, a5, a6, a7, a8⟩ := hx
  dsimp only at a1 a2 a3 a4 a5 a6 a7 a8 hl
  refine awpl_end (E := noE) (laO_ok _) (noLoopsL_ok (by kernel_rfl)) (weak_keep [2, 6, 7, 8, 9] (T.cut_eq (no_t4 q c s l d i now) ?_))
  have go : ∀ (X : AM) (l1 l2 : Int) (D1 D2 : AV) (d' : Bool) (F G : Nat → List AV), l1 = l2 → Ox.Alike D1 (.bool d') → Ox.Alike D2 (.bool d') → (Weak noE R) (.norm, ⟨[(2, .sl 2 0 5 0 q.len q.cap), (7, .ptr 3 0 0 0), (8, .ptr 4 0 0 0), (9, .int .i64 i)], qsMem q ++ some ⟨true, [.int .i64 c, .int .i64 s, .int .i64 l1, D1], 0, 0, F, [], none⟩ :: some ⟨true, [.int .i64 c, .int .i64 s, .int .i64 l2, D2], 0, 0, G, [], none⟩ :: X⟩) := fun X l1 l2 D1 D2 d' F G hl hD1 hD2 =>
    ⟨id, noX ⟨q, c, s, l2, d', i⟩ [] [], SubSt.mk (by simp [noX, SubFr, slotAt, ren, below, qsMem]) (no_sub rfl rfl rfl rfl rfl rfl (pol_blk' hl hD1) (pol_blk' rfl hD2) trivial), hR l2 d'⟩
  clear hR
  have hx1 := a3.le [i]
  have hy1 := a4.le [i]
  have hp1 := a3.pos [i]
  have hp2 := a4.pos [i]
  repeat' first | with_reducible refine T.hneed (isPol (.inr (.inr ⟨_, rfl⟩))) ?_ | with_reducible refine T.hneed IntRow.rows ?_ | with_reducible refine T.hneed rfl ?_ | with_reducible refine T.hneed trivial ?_ | with_reducible refine T.hiteP (fun _ => ?_) (fun _ => ?_) | with_reducible refine T.hite (fun _ => ?_) (fun _ => ?_) | with_reducible refine T.hchk ?_ ?_ | with_reducible refine T.hret ?_
  all_goals first
    | rfl
    | exact go _ _ _ _ _ _ _ _ rfl (Ox.Alike_refl _) (Ox.Alike_refl _)
    | (simp_all; done)
    | (simp_all; omega)
    | skip

theorem no_mid (x : NO) (now : Int) (hx : noInv x) (hl : x.q.x.ln [x.i] ≤ 50) {R : Ex × St → Prop} (hR : ∀ l d, R (.norm, noX { x with l := l, d := d } [] [])) :
    AWpL Try.prog noE ((chainOf noB).drop 4) (noX x [(10, .ptr 5 0 0 0), (11, .int .i64 now)] [some (xB x.q x.i)]) R := by
  have key := no_last x now hx hl hR
  obtain ⟨q, c, s, l, d, i⟩ := x
  obtain ⟨a1, a2, a3, a4, a5, a6, a7, a8⟩ := hx
  dsimp only at a1 a2 a3 a4 a5 a6 a7 a8 hl
  refine awpl_cut (E := noE) (laO_ok _) 2 (noLoopsL_ok (by kernel_rfl)) (weak_keep [2, 6, 7, 8, 9, 10, 11] (T.cut_eq (no_t3 q c s l d i now) ?_))
  have go : ∀ (X : AM) (l2 : Int) (D2 : AV) (G : Nat → List AV), l2 = l → Ox.Alike D2 (.bool d) → (Weak noE (Then R fun st' => AWpL Try.prog noE (((chainOf noB).drop 4).drop 2) st' R)) (.norm, ⟨[(2, .sl 2 0 5 0 q.len q.cap), (7, .ptr 3 0 0 0), (8, .ptr 4 0 0 0), (9, .int .i64 i), (10, .ptr 5 0 0 0), (11, .int .i64 now)], qsMem q ++ some (polB c s l d) :: some ⟨true, [.int .i64 c, .int .i64 s, .int .i64 l2, D2], 0, 0, G, [], none⟩ :: some (xB q i) :: X⟩) := fun X l2 D2 G hl hD2 =>
    ⟨id, noX ⟨q, c, s, l, d, i⟩ [(10, .ptr 5 0 0 0), (11, .int .i64 now)] [some (xB q i)], SubSt.mk (by simp [noX, SubFr, slotAt, ren, below, qsMem]) (no_sub rfl rfl rfl rfl rfl rfl (pol_blk (by simp)) (pol_blk' hl hD2) ⟨⟨_, rfl, xB_ok (by simp [qsMem])⟩, trivial⟩), key⟩
  clear hR key
  have hx1 := a3.le [i]
  have hy1 := a4.le [i]
  have hp1 := a3.pos [i]
  have hp2 := a4.pos [i]
  have hoff := off_self (h := fun j => FD.z q.x [j, i]) a5 a6 (FD.ln q.x [i])
  simp only [deA_no, deA_busy, hoff, deA_near, Bool.or_false, if_false, Bool.false_eq_true, reduceCtorEq]
  repeat' first | with_reducible refine T.hneed (isPol (.inr (.inr ⟨_, rfl⟩))) ?_ | with_reducible refine T.hneed IntRow.rows ?_ | with_reducible refine T.hneed rfl ?_ | with_reducible refine T.hneed trivial ?_ | with_reducible refine T.hiteP (fun _ => ?_) (fun _ => ?_) | with_reducible refine T.hite (fun _ => ?_) (fun _ => ?_) | with_reducible refine T.hchk ?_ ?_ | with_reducible refine T.hret ?_
  all_goals first
    | rfl
    | exact go _ _ _ _ rfl (Ox.Alike_refl _)
    | (simp_all; done)
    | (simp_all; omega)
    | skip

end Go.Proofs.Ytmhlkcboajgigaa
