/-
  Layer 27: PolicyDecides: the walk of the copies.
-/
import Derived.Test.YtmhlkcboajgigaaHZF
import Derived.Test.YtmhlkcboajgigaaHOxZ
namespace Go.Proofs.Ytmhlkcboajgigaa
open Go.Ox
set_option maxRecDepth 100000
set_option linter.unusedVariables false
set_option linter.unusedSimpArgs false

theorem xB_okL {q : QS} {i n : Nat} {ρ : Nat → Nat} (h0 : ρ 0 = 0) (h1 : ρ 1 = 1) (hn : 2 ≤ n) : BlkOK n ρ (xB q i) (xB q i) :=
  ⟨fun h => h, by simp [xB, LAlike, ren, below, AV.scalar, h0, h1]; omega, rfl, rfl, (fun j hj => absurd hj (Nat.not_lt_zero _)), trivial, trivial⟩

theorem qs_okL {q : QS} {n : Nat} {ρ : Nat → Nat} (h0 : ρ 0 = 0) (h1 : ρ 1 = 1) (hn : 2 ≤ n) : BlkOK n ρ (Blk.rows false 5 q.cap fun r => [.int .i64 (q.now r), .part 0 [r], .part 1 [r], .int .i64 (q.no r), .bool (q.idle r)]) (Blk.rows false 5 q.cap fun r => [.int .i64 (q.now r), .part 0 [r], .part 1 [r], .int .i64 (q.no r), .bool (q.idle r)]) :=
  BlkOK.rows' (fun h => h) fun j _ => by simp [LAlike, ren, below, AV.scalar, h0, h1]; omega

theorem cp_okL {z z' : Nat → Int} {len c n : Nat} {ρ : Nat → Nat} (h : ∀ j, z' j = if j < len then z j else 0) : BlkOK n ρ (Blk.rows true 1 c fun j => [.int .i64 (z' j)]) (cpB z len c) :=
  BlkOK.rows' (fun h => h) fun j _ => LAlike.ints (h j)

theorem pd_mid (x : NO) (now no : Int) (hx : pdInv x) (hl : x.q.x.ln [x.i] ≤ 50) (hl' : x.q.y.ln [x.i] ≤ 50) {R : Ex × St → Prop} (hR : ∀ l d, R (.norm, noX { x with l := l, d := d } [] [])) :
    AWpL Try.prog pdE ((chainOf pdB).drop 5) (noX x [(10, .ptr 5 0 0 0), (11, .int .i64 now), (12, .int .i64 no)] [some (xB x.q x.i)]) R := by
  have knn := fun h0 h0' => pd_nn x now no hx hl hl' h0 h0' hR
  have kns := fun cy h0 h0' hcy => pd_ns x now no cy hx hl hl' h0 h0' hcy hR
  have ksn := fun cx h0 hcx h0' => pd_sn x now no cx hx hl hl' h0 hcx h0' hR
  have kss := fun cx cy h0 hcx h0' hcy => pd_ss x now no cx cy hx hl hl' h0 hcx h0' hcy hR
  obtain ⟨q, c, s, l, d, i⟩ := x
  obtain ⟨a1, a2, a3, a4, a5, a6, a7, a8⟩ := hx
  dsimp only at a1 a2 a3 a4 a5 a6 a7 a8 hl hl' knn kns ksn kss
  clear hR
  refine awpl_cut (E := pdE) (ldE_ok _) 2 (noLoopsL_ok (by kernel_rfl)) (weak_keep [2, 6, 7, 8, 9, 10, 11, 12, 13, 14] (T.cut_eq (pd_t3 q c s l d i now no) ?_))
  have nn : ∀ (X : AM), q.x.ln [i] = 0 → q.y.ln [i] = 0 → (Weak pdE (Then R fun st' => AWpL Try.prog pdE (((chainOf pdB).drop 5).drop 2) st' R)) (.norm, ⟨[(2, .sl 2 0 5 0 q.len q.cap), (7, .ptr 3 0 0 0), (8, .ptr 4 0 0 0), (9, .int .i64 i), (10, .ptr 5 0 0 0), (11, .int .i64 now), (12, .int .i64 no), (13, .nils), (14, .nils)], qsMem q ++ some (polB c s l d) :: some (polB c s l d) :: some (xB q i) :: X⟩) := fun X h0 h0' =>
    ⟨id, noX ⟨q, c, s, l, d, i⟩ [(10, .ptr 5 0 0 0), (11, .int .i64 now), (12, .int .i64 no), (13, .nils), (14, .nils)] [some (xB q i)], SubSt.mk (by simp [noX, SubFr, slotAt, ren, below, qsMem]) (no_sub rfl rfl rfl rfl rfl rfl (pol_blk (by simp)) (pol_blk (by simp)) ⟨⟨_, rfl, xB_ok (by simp [qsMem])⟩, trivial⟩), knn h0 h0'⟩
  have sn : ∀ (o : Option Blk) (X : AM) (cx : Nat) (z' : Nat → Int), 0 < q.x.ln [i] → q.x.ln [i] ≤ cx → q.y.ln [i] = 0 → (∀ j, z' j = if j < q.x.ln [i] then q.x.z [j, i] else 0) → (Weak pdE (Then R fun st' => AWpL Try.prog pdE (((chainOf pdB).drop 5).drop 2) st' R)) (.norm, ⟨[(2, .sl 2 0 5 0 q.len q.cap), (7, .ptr 3 0 0 0), (8, .ptr 4 0 0 0), (9, .int .i64 i), (10, .ptr 5 0 0 0), (11, .int .i64 now), (12, .int .i64 no), (13, .sl 7 0 1 0 (q.x.ln [i]) cx), (14, .nils)], qsMem q ++ some (polB c s l d) :: some (polB c s l d) :: some (xB q i) :: o :: some (Blk.rows true 1 cx fun j => [.int .i64 (z' j)]) :: X⟩) := fun o X cx z' h0 h0' h0'' hz =>
    ⟨rhoL [0, 1, 2, 3, 4, 5, 7], noX ⟨q, c, s, l, d, i⟩ [(10, .ptr 5 0 0 0), (11, .int .i64 now), (12, .int .i64 no), (13, .sl 6 0 1 0 (q.x.ln [i]) cx), (14, .nils)] [some (xB q i), some (cpB (fun j => q.x.z [j, i]) (q.x.ln [i]) cx)], subStL [0, 1, 2, 3, 4, 5, 7] rfl rfl rfl (Nat.le_of_ble_eq_true rfl) (by simp [noX, SubFr, slotAt, ren, below, rhoL]) ⟨⟨_, rfl, FD.ok _⟩, ⟨_, rfl, FD.ok _⟩, ⟨_, rfl, qs_okL rfl rfl (by simp)⟩, ⟨_, rfl, pol_blk (by simp)⟩, ⟨_, rfl, pol_blk (by simp)⟩, ⟨_, rfl, xB_okL rfl rfl (by simp)⟩, ⟨_, rfl, cp_okL hz⟩, trivial⟩, ksn cx h0 h0' h0''⟩
  have ns7 : ∀ (o : Option Blk) (X : AM) (cy : Nat) (z' : Nat → Int), q.x.ln [i] = 0 → 0 < q.y.ln [i] → q.y.ln [i] ≤ cy → (∀ j, z' j = if j < q.y.ln [i] then q.y.z [j, i] else 0) → (Weak pdE (Then R fun st' => AWpL Try.prog pdE (((chainOf pdB).drop 5).drop 2) st' R)) (.norm, ⟨[(2, .sl 2 0 5 0 q.len q.cap), (7, .ptr 3 0 0 0), (8, .ptr 4 0 0 0), (9, .int .i64 i), (10, .ptr 5 0 0 0), (11, .int .i64 now), (12, .int .i64 no), (13, .nils), (14, .sl 7 0 1 0 (q.y.ln [i]) cy)], qsMem q ++ some (polB c s l d) :: some (polB c s l d) :: some (xB q i) :: o :: some (Blk.rows true 1 cy fun j => [.int .i64 (z' j)]) :: X⟩) := fun o X cy z' h0 h0' h0'' hz =>
    ⟨rhoL [0, 1, 2, 3, 4, 5, 7], noX ⟨q, c, s, l, d, i⟩ [(10, .ptr 5 0 0 0), (11, .int .i64 now), (12, .int .i64 no), (13, .nils), (14, .sl 6 0 1 0 (q.y.ln [i]) cy)] [some (xB q i), some (cpB (fun j => q.y.z [j, i]) (q.y.ln [i]) cy)], subStL [0, 1, 2, 3, 4, 5, 7] rfl rfl rfl (Nat.le_of_ble_eq_true rfl) (by simp [noX, SubFr, slotAt, ren, below, rhoL]) ⟨⟨_, rfl, FD.ok _⟩, ⟨_, rfl, FD.ok _⟩, ⟨_, rfl, qs_okL rfl rfl (by simp)⟩, ⟨_, rfl, pol_blk (by simp)⟩, ⟨_, rfl, pol_blk (by simp)⟩, ⟨_, rfl, xB_okL rfl rfl (by simp)⟩, ⟨_, rfl, cp_okL hz⟩, trivial⟩, kns cy h0 h0' h0''⟩
  have ns8 : ∀ (o o' : Option Blk) (X : AM) (cy : Nat) (z' : Nat → Int), q.x.ln [i] = 0 → 0 < q.y.ln [i] → q.y.ln [i] ≤ cy → (∀ j, z' j = if j < q.y.ln [i] then q.y.z [j, i] else 0) → (Weak pdE (Then R fun st' => AWpL Try.prog pdE (((chainOf pdB).drop 5).drop 2) st' R)) (.norm, ⟨[(2, .sl 2 0 5 0 q.len q.cap), (7, .ptr 3 0 0 0), (8, .ptr 4 0 0 0), (9, .int .i64 i), (10, .ptr 5 0 0 0), (11, .int .i64 now), (12, .int .i64 no), (13, .nils), (14, .sl 8 0 1 0 (q.y.ln [i]) cy)], qsMem q ++ some (polB c s l d) :: some (polB c s l d) :: some (xB q i) :: o :: o' :: some (Blk.rows true 1 cy fun j => [.int .i64 (z' j)]) :: X⟩) := fun o o' X cy z' h0 h0' h0'' hz =>
    ⟨rhoL [0, 1, 2, 3, 4, 5, 8], noX ⟨q, c, s, l, d, i⟩ [(10, .ptr 5 0 0 0), (11, .int .i64 now), (12, .int .i64 no), (13, .nils), (14, .sl 6 0 1 0 (q.y.ln [i]) cy)] [some (xB q i), some (cpB (fun j => q.y.z [j, i]) (q.y.ln [i]) cy)], subStL [0, 1, 2, 3, 4, 5, 8] rfl rfl rfl (Nat.le_of_ble_eq_true rfl) (by simp [noX, SubFr, slotAt, ren, below, rhoL]) ⟨⟨_, rfl, FD.ok _⟩, ⟨_, rfl, FD.ok _⟩, ⟨_, rfl, qs_okL rfl rfl (by simp)⟩, ⟨_, rfl, pol_blk (by simp)⟩, ⟨_, rfl, pol_blk (by simp)⟩, ⟨_, rfl, xB_okL rfl rfl (by simp)⟩, ⟨_, rfl, cp_okL hz⟩, trivial⟩, kns cy h0 h0' h0''⟩
  have ss : ∀ (o o' : Option Blk) (X : AM) (cx cy : Nat) (z' w' : Nat → Int), 0 < q.x.ln [i] → q.x.ln [i] ≤ cx → 0 < q.y.ln [i] → q.y.ln [i] ≤ cy → (∀ j, z' j = if j < q.x.ln [i] then q.x.z [j, i] else 0) → (∀ j, w' j = if j < q.y.ln [i] then q.y.z [j, i] else 0) → (Weak pdE (Then R fun st' => AWpL Try.prog pdE (((chainOf pdB).drop 5).drop 2) st' R)) (.norm, ⟨[(2, .sl 2 0 5 0 q.len q.cap), (7, .ptr 3 0 0 0), (8, .ptr 4 0 0 0), (9, .int .i64 i), (10, .ptr 5 0 0 0), (11, .int .i64 now), (12, .int .i64 no), (13, .sl 7 0 1 0 (q.x.ln [i]) cx), (14, .sl 9 0 1 0 (q.y.ln [i]) cy)], qsMem q ++ some (polB c s l d) :: some (polB c s l d) :: some (xB q i) :: o :: some (Blk.rows true 1 cx fun j => [.int .i64 (z' j)]) :: o' :: some (Blk.rows true 1 cy fun j => [.int .i64 (w' j)]) :: X⟩) := fun o o' X cx cy z' w' h0 h0' h1 h1' hz hw =>
    ⟨rhoL [0, 1, 2, 3, 4, 5, 7, 9], noX ⟨q, c, s, l, d, i⟩ [(10, .ptr 5 0 0 0), (11, .int .i64 now), (12, .int .i64 no), (13, .sl 6 0 1 0 (q.x.ln [i]) cx), (14, .sl 7 0 1 0 (q.y.ln [i]) cy)] [some (xB q i), some (cpB (fun j => q.x.z [j, i]) (q.x.ln [i]) cx), some (cpB (fun j => q.y.z [j, i]) (q.y.ln [i]) cy)], subStL [0, 1, 2, 3, 4, 5, 7, 9] rfl rfl rfl (Nat.le_of_ble_eq_true rfl) (by simp [noX, SubFr, slotAt, ren, below, rhoL]) ⟨⟨_, rfl, FD.ok _⟩, ⟨_, rfl, FD.ok _⟩, ⟨_, rfl, qs_okL rfl rfl (by simp)⟩, ⟨_, rfl, pol_blk (by simp)⟩, ⟨_, rfl, pol_blk (by simp)⟩, ⟨_, rfl, xB_okL rfl rfl (by simp)⟩, ⟨_, rfl, cp_okL hz⟩, ⟨_, rfl, cp_okL hw⟩, trivial⟩, kss cx cy h0 h0' h1 h1'⟩
  clear knn kns ksn kss
  have hx1 := a3.le [i]
  have hy1 := a4.le [i]
  have hq1 := a3.nil [i]
  have hq2 := a4.nil [i]
  repeat' first | with_reducible refine T.hneed IntRow.rows ?_ | with_reducible refine T.hneed rfl ?_ | with_reducible refine T.hneed trivial ?_ | with_reducible refine T.hall (fun _ => ?_) | with_reducible refine T.hasm (fun _ => ?_) | with_reducible refine T.hiteP (fun _ => ?_) (fun _ => ?_) | with_reducible refine T.hite (fun _ => ?_) (fun _ => ?_) | with_reducible refine T.hchk ?_ ?_ | with_reducible refine T.hret ?_
  all_goals first
    | rfl
    | (refine nn _ ?_ ?_ <;> simp_all <;> done)
    | (refine nn _ ?_ ?_ <;> simp_all <;> omega)
    | (refine sn _ _ _ _ ?_ ?_ ?_ (fun j => ?_) <;> simp_all <;> done)
    | (refine sn _ _ _ _ ?_ ?_ ?_ (fun j => ?_) <;> simp_all <;> omega)
    | (refine ns7 _ _ _ _ ?_ ?_ ?_ (fun j => ?_) <;> simp_all <;> done)
    | (refine ns7 _ _ _ _ ?_ ?_ ?_ (fun j => ?_) <;> simp_all <;> omega)
    | (refine ns8 _ _ _ _ _ ?_ ?_ ?_ (fun j => ?_) <;> simp_all <;> done)
    | (refine ns8 _ _ _ _ _ ?_ ?_ ?_ (fun j => ?_) <;> simp_all <;> omega)
    | (refine ss _ _ _ _ _ _ _ ?_ ?_ ?_ ?_ (fun j => ?_) (fun j => ?_) <;> simp_all <;> done)
    | (simp; omega)
    | (simp_all; done)
    | (simp_all; omega)
    | skip

end Go.Proofs.Ytmhlkcboajgigaa
