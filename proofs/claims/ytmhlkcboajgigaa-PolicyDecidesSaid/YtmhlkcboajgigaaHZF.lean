/-
  Layer 27: PolicyDecides: the walk of the last piece.
-/
import Derived.Test.YtmhlkcboajgigaaHZE
import Derived.Test.YtmhlkcboajgigaaHZB
import Derived.Test.YtmhlkcboajgigaaHZC
import Derived.Test.YtmhlkcboajgigaaHZD
namespace Go.Proofs.Ytmhlkcboajgigaa
open Go.Ox
set_option maxRecDepth 100000
set_option linter.unusedVariables false
set_option linter.unusedSimpArgs false

theorem pd_ss (x : NO) (now no : Int) (cx : Nat) (cy : Nat) (hx : pdInv x) (hl : x.q.x.ln [x.i] ≤ 50) (hl' : x.q.y.ln [x.i] ≤ 50) (h0 : 0 < x.q.x.ln [x.i]) (hcx : x.q.x.ln [x.i] ≤ cx) (h0' : 0 < x.q.y.ln [x.i]) (hcy : x.q.y.ln [x.i] ≤ cy) {R : Ex × St → Prop} (hR : ∀ l d, R (.norm, noX { x with l := l, d := d } [] [])) :
    AWpL Try.prog pdE (((chainOf pdB).drop 5).drop 2) (noX x [(10, .ptr 5 0 0 0), (11, .int .i64 now), (12, .int .i64 no), (13, .sl 6 0 1 0 (x.q.x.ln [x.i]) cx), (14, .sl 7 0 1 0 (x.q.y.ln [x.i]) cy)] [some (xB x.q x.i), some (cpB (fun j => x.q.x.z [j, x.i]) (x.q.x.ln [x.i]) cx), some (cpB (fun j => x.q.y.z [j, x.i]) (x.q.y.ln [x.i]) cy)]) R := by
  obtain ⟨q, c, s, l, d, i⟩ := x
  obtain ⟨a1, a2, a3, a4, a5, a6, a7, a8⟩ := hx
  dsimp only at a1 a2 a3 a4 a5 a6 a7 a8 hl hl' h0 h0' hcx hcy
  refine awpl_end (E := pdE) (ldE_ok _) (noLoopsL_ok (by kernel_rfl)) (weak_keep [2, 6, 7, 8, 9] (T.cut_eq (pd_tss q c s l d i now no cx cy) ?_))
  have go : ∀ (X : AM) (l1 l2 : Int) (D1 D2 : AV) (d' : Bool) (F G : Nat → List AV), l1 = l2 → Ox.Alike D1 (.bool d') → Ox.Alike D2 (.bool d') → (Weak pdE R) (.norm, ⟨[(2, .sl 2 0 5 0 q.len q.cap), (7, .ptr 3 0 0 0), (8, .ptr 4 0 0 0), (9, .int .i64 i)], qsMem q ++ some ⟨true, [.int .i64 c, .int .i64 s, .int .i64 l1, D1], 0, 0, F, [], none⟩ :: some ⟨true, [.int .i64 c, .int .i64 s, .int .i64 l2, D2], 0, 0, G, [], none⟩ :: X⟩) := fun X l1 l2 D1 D2 d' F G hl hD1 hD2 =>
    ⟨id, noX ⟨q, c, s, l2, d', i⟩ [] [], SubSt.mk (by simp [noX, SubFr, slotAt, ren, below, qsMem]) (no_sub rfl rfl rfl rfl rfl rfl (pol_blk' hl hD1) (pol_blk' rfl hD2) trivial), hR l2 d'⟩
  clear hR
  have hx1 := a3.le [i]
  have hy1 := a4.le [i]
  have hp1 := a3.pos [i]
  have hp2 := a4.pos [i]
  have hq1 := a3.nil [i]
  have hq2 := a4.nil [i]
  have hN : (∀ j, j < q.x.ln [i] → InI (q.x.z [j, i])) ∧ (∀ j, j < q.y.ln [i] → InI (q.y.z [j, i])) ∧ 1 ≤ s ∧ s ≤ 9223372036854775807 := ⟨fun j h => inI_of (a3.z [i] j (by omega)), fun j h => inI_of (a4.z [i] j (by omega)), a5, a6⟩
  have hnx := nl_no a3 (js := [i]) h0
  have hE1 := eqN_cp (fun j => q.x.z [j, i]) (q.x.ln [i])
  have hny := nl_no a4 (js := [i]) h0'
  have hE2 := eqN_cp (fun j => q.y.z [j, i]) (q.y.ln [i])
  have hO := off_cp (fun j => q.x.z [j, i]) (fun j => q.y.z [j, i]) (q.x.ln [i]) (q.y.ln [i]) s
  simp only [beq_self_eq_true, Bool.not_true, Bool.not_false, decide_true, Bool.true_and, Bool.and_true, de_off, Bool.or_false, Bool.false_eq_true, if_false, hnx, hE1, hny, hE2, hO]
  repeat' first | with_reducible refine T.h_ff ?_ | with_reducible refine T.h_tt ?_ | with_reducible refine T.hneed (isPol (.inr (.inr ⟨_, rfl⟩))) ?_ | with_reducible refine T.hneed IntRow.rows ?_ | with_reducible refine T.hneed rfl ?_ | with_reducible refine T.hneed (show AV.bool false = AV.ff from rfl) ?_ | with_reducible refine T.hneed trivial ?_ | refine T.hneed hN ?_ | with_reducible refine T.hiteP (fun _ => ?_) (fun _ => ?_) | with_reducible refine T.hite (fun _ => ?_) (fun _ => ?_) | with_reducible refine T.hchk ?_ ?_ | with_reducible refine T.hret ?_
  all_goals first
    | rfl
    | exact go _ _ _ _ _ _ _ _ rfl (Ox.Alike_refl _) (Ox.Alike_refl _)
    | (simp_all; done)
    | (simp_all; omega)
    | (simp_all [eqN]; done)
    | skip

theorem pd_sn (x : NO) (now no : Int) (cx : Nat) (hx : pdInv x) (hl : x.q.x.ln [x.i] ≤ 50) (hl' : x.q.y.ln [x.i] ≤ 50) (h0 : 0 < x.q.x.ln [x.i]) (hcx : x.q.x.ln [x.i] ≤ cx) (h0' : x.q.y.ln [x.i] = 0) {R : Ex × St → Prop} (hR : ∀ l d, R (.norm, noX { x with l := l, d := d } [] [])) :
    AWpL Try.prog pdE (((chainOf pdB).drop 5).drop 2) (noX x [(10, .ptr 5 0 0 0), (11, .int .i64 now), (12, .int .i64 no), (13, .sl 6 0 1 0 (x.q.x.ln [x.i]) cx), (14, .nils)] [some (xB x.q x.i), some (cpB (fun j => x.q.x.z [j, x.i]) (x.q.x.ln [x.i]) cx)]) R := by
  obtain ⟨q, c, s, l, d, i⟩ := x
  obtain ⟨a1, a2, a3, a4, a5, a6, a7, a8⟩ := hx
  dsimp only at a1 a2 a3 a4 a5 a6 a7 a8 hl hl' h0 h0' hcx
  refine awpl_end (E := pdE) (ldE_ok _) (noLoopsL_ok (by kernel_rfl)) (weak_keep [2, 6, 7, 8, 9] (T.cut_eq (pd_tsn q c s l d i now no cx) ?_))
  have go : ∀ (X : AM) (l1 l2 : Int) (D1 D2 : AV) (d' : Bool) (F G : Nat → List AV), l1 = l2 → Ox.Alike D1 (.bool d') → Ox.Alike D2 (.bool d') → (Weak pdE R) (.norm, ⟨[(2, .sl 2 0 5 0 q.len q.cap), (7, .ptr 3 0 0 0), (8, .ptr 4 0 0 0), (9, .int .i64 i)], qsMem q ++ some ⟨true, [.int .i64 c, .int .i64 s, .int .i64 l1, D1], 0, 0, F, [], none⟩ :: some ⟨true, [.int .i64 c, .int .i64 s, .int .i64 l2, D2], 0, 0, G, [], none⟩ :: X⟩) := fun X l1 l2 D1 D2 d' F G hl hD1 hD2 =>
    ⟨id, noX ⟨q, c, s, l2, d', i⟩ [] [], SubSt.mk (by simp [noX, SubFr, slotAt, ren, below, qsMem]) (no_sub rfl rfl rfl rfl rfl rfl (pol_blk' hl hD1) (pol_blk' rfl hD2) trivial), hR l2 d'⟩
  clear hR
  have hx1 := a3.le [i]
  have hy1 := a4.le [i]
  have hp1 := a3.pos [i]
  have hp2 := a4.pos [i]
  have hq1 := a3.nil [i]
  have hq2 := a4.nil [i]
  have hN : (∀ j, j < q.x.ln [i] → InI (q.x.z [j, i])) ∧ (∀ j, j < q.y.ln [i] → InI (q.y.z [j, i])) ∧ 1 ≤ s ∧ s ≤ 9223372036854775807 := ⟨fun j h => inI_of (a3.z [i] j (by omega)), fun j h => inI_of (a4.z [i] j (by omega)), a5, a6⟩
  have hnx := nl_no a3 (js := [i]) h0
  have hE1 := eqN_cp (fun j => q.x.z [j, i]) (q.x.ln [i])
  have hO := off_z (f := fun j => q.x.z [j, i]) (g := fun j => q.y.z [j, i]) (s := s) (la := q.x.ln [i]) (lb := q.y.ln [i]) (by omega)
  simp only [beq_self_eq_true, Bool.not_true, Bool.not_false, decide_true, Bool.true_and, Bool.and_true, de_off, Bool.or_false, Bool.false_eq_true, if_false, hnx, hE1, hO]
  repeat' first | with_reducible refine T.h_ff ?_ | with_reducible refine T.h_tt ?_ | with_reducible refine T.hneed (isPol (.inr (.inr ⟨_, rfl⟩))) ?_ | with_reducible refine T.hneed IntRow.rows ?_ | with_reducible refine T.hneed rfl ?_ | with_reducible refine T.hneed (show AV.bool false = AV.ff from rfl) ?_ | with_reducible refine T.hneed trivial ?_ | refine T.hneed hN ?_ | with_reducible refine T.hiteP (fun _ => ?_) (fun _ => ?_) | with_reducible refine T.hite (fun _ => ?_) (fun _ => ?_) | with_reducible refine T.hchk ?_ ?_ | with_reducible refine T.hret ?_
  all_goals first
    | rfl
    | exact go _ _ _ _ _ _ _ _ rfl (Ox.Alike_refl _) (Ox.Alike_refl _)
    | (simp_all; done)
    | (simp_all; omega)
    | (simp_all [eqN]; done)
    | skip

theorem pd_nn (x : NO) (now no : Int) (hx : pdInv x) (hl : x.q.x.ln [x.i] ≤ 50) (hl' : x.q.y.ln [x.i] ≤ 50) (h0 : x.q.x.ln [x.i] = 0) (h0' : x.q.y.ln [x.i] = 0) {R : Ex × St → Prop} (hR : ∀ l d, R (.norm, noX { x with l := l, d := d } [] [])) :
    AWpL Try.prog pdE (((chainOf pdB).drop 5).drop 2) (noX x [(10, .ptr 5 0 0 0), (11, .int .i64 now), (12, .int .i64 no), (13, .nils), (14, .nils)] [some (xB x.q x.i)]) R := by
  obtain ⟨q, c, s, l, d, i⟩ := x
  obtain ⟨a1, a2, a3, a4, a5, a6, a7, a8⟩ := hx
  dsimp only at a1 a2 a3 a4 a5 a6 a7 a8 hl hl' h0 h0'
  refine awpl_end (E := pdE) (ldE_ok _) (noLoopsL_ok (by kernel_rfl)) (weak_keep [2, 6, 7, 8, 9] (T.cut_eq (pd_tnn q c s l d i now no) ?_))
  have go : ∀ (X : AM) (l1 l2 : Int) (D1 D2 : AV) (d' : Bool) (F G : Nat → List AV), l1 = l2 → Ox.Alike D1 (.bool d') → Ox.Alike D2 (.bool d') → (Weak pdE R) (.norm, ⟨[(2, .sl 2 0 5 0 q.len q.cap), (7, .ptr 3 0 0 0), (8, .ptr 4 0 0 0), (9, .int .i64 i)], qsMem q ++ some ⟨true, [.int .i64 c, .int .i64 s, .int .i64 l1, D1], 0, 0, F, [], none⟩ :: some ⟨true, [.int .i64 c, .int .i64 s, .int .i64 l2, D2], 0, 0, G, [], none⟩ :: X⟩) := fun X l1 l2 D1 D2 d' F G hl hD1 hD2 =>
    ⟨id, noX ⟨q, c, s, l2, d', i⟩ [] [], SubSt.mk (by simp [noX, SubFr, slotAt, ren, below, qsMem]) (no_sub rfl rfl rfl rfl rfl rfl (pol_blk' hl hD1) (pol_blk' rfl hD2) trivial), hR l2 d'⟩
  clear hR
  have hx1 := a3.le [i]
  have hy1 := a4.le [i]
  have hp1 := a3.pos [i]
  have hp2 := a4.pos [i]
  have hq1 := a3.nil [i]
  have hq2 := a4.nil [i]
  have hN : (∀ j, j < q.x.ln [i] → InI (q.x.z [j, i])) ∧ (∀ j, j < q.y.ln [i] → InI (q.y.z [j, i])) ∧ 1 ≤ s ∧ s ≤ 9223372036854775807 := ⟨fun j h => inI_of (a3.z [i] j (by omega)), fun j h => inI_of (a4.z [i] j (by omega)), a5, a6⟩
  have hO := off_z (f := fun j => q.x.z [j, i]) (g := fun j => q.y.z [j, i]) (s := s) (la := q.x.ln [i]) (lb := q.y.ln [i]) (by omega)
  simp only [beq_self_eq_true, Bool.not_true, Bool.not_false, decide_true, Bool.true_and, Bool.and_true, de_off, Bool.or_false, Bool.false_eq_true, if_false, hO]
  repeat' first | with_reducible refine T.h_ff ?_ | with_reducible refine T.h_tt ?_ | with_reducible refine T.hneed (isPol (.inr (.inr ⟨_, rfl⟩))) ?_ | with_reducible refine T.hneed IntRow.rows ?_ | with_reducible refine T.hneed rfl ?_ | with_reducible refine T.hneed (show AV.bool false = AV.ff from rfl) ?_ | with_reducible refine T.hneed trivial ?_ | refine T.hneed hN ?_ | with_reducible refine T.hiteP (fun _ => ?_) (fun _ => ?_) | with_reducible refine T.hite (fun _ => ?_) (fun _ => ?_) | with_reducible refine T.hchk ?_ ?_ | with_reducible refine T.hret ?_
  all_goals first
    | rfl
    | exact go _ _ _ _ _ _ _ _ rfl (Ox.Alike_refl _) (Ox.Alike_refl _)
    | (simp_all; done)
    | (simp_all; omega)
    | (simp_all [eqN]; done)
    | skip

theorem pd_ns (x : NO) (now no : Int) (cy : Nat) (hx : pdInv x) (hl : x.q.x.ln [x.i] ≤ 50) (hl' : x.q.y.ln [x.i] ≤ 50) (h0 : x.q.x.ln [x.i] = 0) (h0' : 0 < x.q.y.ln [x.i]) (hcy : x.q.y.ln [x.i] ≤ cy) {R : Ex × St → Prop} (hR : ∀ l d, R (.norm, noX { x with l := l, d := d } [] [])) :
    AWpL Try.prog pdE (((chainOf pdB).drop 5).drop 2) (noX x [(10, .ptr 5 0 0 0), (11, .int .i64 now), (12, .int .i64 no), (13, .nils), (14, .sl 6 0 1 0 (x.q.y.ln [x.i]) cy)] [some (xB x.q x.i), some (cpB (fun j => x.q.y.z [j, x.i]) (x.q.y.ln [x.i]) cy)]) R := by
  obtain ⟨q, c, s, l, d, i⟩ := x
  obtain ⟨a1, a2, a3, a4, a5, a6, a7, a8⟩ := hx
  dsimp only at a1 a2 a3 a4 a5 a6 a7 a8 hl hl' h0 h0' hcy
  refine awpl_end (E := pdE) (ldE_ok _) (noLoopsL_ok (by kernel_rfl)) (weak_keep [2, 6, 7, 8, 9] (T.cut_eq (pd_tns q c s l d i now no cy) ?_))
  have go : ∀ (X : AM) (l1 l2 : Int) (D1 D2 : AV) (d' : Bool) (F G : Nat → List AV), l1 = l2 → Ox.Alike D1 (.bool d') → Ox.Alike D2 (.bool d') → (Weak pdE R) (.norm, ⟨[(2, .sl 2 0 5 0 q.len q.cap), (7, .ptr 3 0 0 0), (8, .ptr 4 0 0 0), (9, .int .i64 i)], qsMem q ++ some ⟨true, [.int .i64 c, .int .i64 s, .int .i64 l1, D1], 0, 0, F, [], none⟩ :: some ⟨true, [.int .i64 c, .int .i64 s, .int .i64 l2, D2], 0, 0, G, [], none⟩ :: X⟩) := fun X l1 l2 D1 D2 d' F G hl hD1 hD2 =>
    ⟨id, noX ⟨q, c, s, l2, d', i⟩ [] [], SubSt.mk (by simp [noX, SubFr, slotAt, ren, below, qsMem]) (no_sub rfl rfl rfl rfl rfl rfl (pol_blk' hl hD1) (pol_blk' rfl hD2) trivial), hR l2 d'⟩
  clear hR
  have hx1 := a3.le [i]
  have hy1 := a4.le [i]
  have hp1 := a3.pos [i]
  have hp2 := a4.pos [i]
  have hq1 := a3.nil [i]
  have hq2 := a4.nil [i]
  have hN : (∀ j, j < q.x.ln [i] → InI (q.x.z [j, i])) ∧ (∀ j, j < q.y.ln [i] → InI (q.y.z [j, i])) ∧ 1 ≤ s ∧ s ≤ 9223372036854775807 := ⟨fun j h => inI_of (a3.z [i] j (by omega)), fun j h => inI_of (a4.z [i] j (by omega)), a5, a6⟩
  have hny := nl_no a4 (js := [i]) h0'
  have hE2 := eqN_cp (fun j => q.y.z [j, i]) (q.y.ln [i])
  have hO := off_z (f := fun j => q.x.z [j, i]) (g := fun j => q.y.z [j, i]) (s := s) (la := q.x.ln [i]) (lb := q.y.ln [i]) (by omega)
  simp only [beq_self_eq_true, Bool.not_true, Bool.not_false, decide_true, Bool.true_and, Bool.and_true, de_off, Bool.or_false, Bool.false_eq_true, if_false, hny, hE2, hO]
  repeat' first | with_reducible refine T.h_ff ?_ | with_reducible refine T.h_tt ?_ | with_reducible refine T.hneed (isPol (.inr (.inr ⟨_, rfl⟩))) ?_ | with_reducible refine T.hneed IntRow.rows ?_ | with_reducible refine T.hneed rfl ?_ | with_reducible refine T.hneed (show AV.bool false = AV.ff from rfl) ?_ | with_reducible refine T.hneed trivial ?_ | refine T.hneed hN ?_ | with_reducible refine T.hiteP (fun _ => ?_) (fun _ => ?_) | with_reducible refine T.hite (fun _ => ?_) (fun _ => ?_) | with_reducible refine T.hchk ?_ ?_ | with_reducible refine T.hret ?_
  all_goals first
    | rfl
    | exact go _ _ _ _ _ _ _ _ rfl (Ox.Alike_refl _) (Ox.Alike_refl _)
    | (simp_all; done)
    | (simp_all; omega)
    | (simp_all [eqN]; done)
    | skip

end Go.Proofs.Ytmhlkcboajgigaa
