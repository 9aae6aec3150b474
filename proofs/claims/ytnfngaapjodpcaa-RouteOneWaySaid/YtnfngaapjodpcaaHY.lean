/-
  Layer 20: Roots' follow: its loop.
-/
import Derived.Test.YtnfngaapjodpcaaHT
namespace Go.Proofs.Ytnfngaapjodpcaa
open Go.Ox

set_option maxRecDepth 100000
set_option maxHeartbeats 4000000
set_option linter.unusedVariables false
set_option linter.unusedSimpArgs false

theorem rw_sl {n i j a c : Nat} {ρ : Nat → Nat} {F : Nat → List AV} (h : ρ i = j) (hi : i < n) : BlkOK n ρ (Blk.mk true [.sl j 0 1 0 a c] 0 0 F [] none) (rwC (.sl i 0 1 0 a c)) :=
  ⟨fun h => h, by simp [rwC, LAlike, ren, below, AV.scalar, h, hi], rfl, rfl, (fun j hj => absurd hj (Nat.not_lt_zero _)), trivial, trivial⟩

theorem rw_nil {n : Nat} {ρ : Nat → Nat} {F : Nat → List AV} : BlkOK n ρ (Blk.mk true [.nils] 0 0 F [] none) (rwC .nils) :=
  ⟨fun h => h, by simp [rwC, LAlike, ren, below, AV.scalar], rfl, rfl, (fun j hj => absurd hj (Nat.not_lt_zero _)), trivial, trivial⟩

theorem rw_F {n : Nat} {ρ : Nat → Nat} {F : Nat → List AV} (h2 : ρ 2 = 2) (h3 : ρ 3 = 3) (h5 : ρ 5 = 5) (h6 : ρ 6 = 6) (hn : 6 < n) : BlkOK n ρ (Blk.mk true [foF] 0 0 F [] none) (rwC foF) :=
  ⟨fun h => h, by simp only [rwC, foF, LAlike, ren, renL, h2, h3, h5, h6]; exact ⟨⟨by simp, by simp [below, belowL]; omega, rfl⟩, trivial⟩, rfl, rfl, (fun j hj => absurd hj (Nat.not_lt_zero _)), trivial, trivial⟩

theorem in_ok {n c : Nat} {ρ : Nat → Nat} {z : Nat → Int} : BlkOK n ρ (inB c z) (inB c z) := BlkOK.rows' (fun h => h) fun j _ => LAlike.ints rfl

theorem set_ok {n c i : Nat} {ρ : Nat → Nat} {p : Nat → Bool} : BlkOK n ρ (Blk.mk true [] 1 c (fun r => Blk.setRow (1 == 1) (fun j => [AV.bool (p j)]) (0 + Int.toNat (i : Int)) 0 AV.tt r) [] none) (booB true c (putB p i)) := by
  simp only [Blk.setRow_eq]
  refine BlkOK.rows (fun h => h) fun r _ => ?_
  have e : 0 + Int.toNat (i : Int) = i := by omega
  rw [e]
  by_cases h : r = i
  · simp [h, putB, LAlike, ren, below, AV.scalar]
  · simp [h, putB, LAlike, ren, below, AV.scalar]

theorem booA_B (len : Nat) (p : Nat → Bool) : booA (booB true len p) = p := rfl

/-- A state of the loop, whose list is nil, at 7 or at 8. -/
def foI (len N : Nat) (y : OX) : Prop := orInv len y ∧ cntF y.p len ≤ N

def foZ (x : FD) (o : OC) (G : Int) (len cap : Nat) (z : Nat → Int) (L C : Nat) (y : OX × Bool × Nat) : St := foLp x o G len cap y.1 y.2.1 z L C y.2.2

theorem fo_rA (x : FD) (o : OC) (G : Int) (len cap k : Nat) (hE : EnvOK Try.prog (foE x o G len cap k 7).fns) (p : Nat → Bool) (n c : Nat) (f : Nat → Int) (z : Nat → Int) (L C : Nat) (hL : L ≤ C) (hL' : L ≤ 9223372036854775807) (i N : Nat) (hN : N < k) (hy : foI len N ⟨p, false, n, c, f⟩) (I : OX × Bool × Nat → Prop) (μ : OX × Bool × Nat → Nat) (Q : Ex × St → Prop)
    (U : ∀ q, cntF q len ≤ cntF p len → i < L → I (⟨q, false, n, c, f⟩, false, i + 1) ∧ μ (⟨q, false, n, c, f⟩, false, i + 1) < μ (⟨p, false, n, c, f⟩, false, i))
    (V : ∀ y, y.hs = true → foI len N y → i < L → I (y, false, i + 1) ∧ μ (y, false, i + 1) < μ (⟨p, false, n, c, f⟩, false, i))
    (X : Q (.exit 0, foZ x o G len cap z L C (⟨p, false, n, c, f⟩, false, i))) :
    AWp Try.prog (foE x o G len cap k 7) foC (foZ x o G len cap z L C (⟨p, false, n, c, f⟩, false, i)) (Round (foE x o G len cap k 7) (foZ x o G len cap z L C) I μ (fun _ => .asm false .fail) Q (⟨p, false, n, c, f⟩, false, i)) := by
  obtain ⟨⟨h1, h2, h3⟩, h4⟩ := hy
  dsimp only at h1 h2 h3 h4
  refine code_sound hE _ (noLoops (by kernel_rfl)) _ _ (round_keep [4, 42, 43, 44] (T.cut_eq (fo_t0 x o G len cap k 7 p n c f z L C i) ?_))
  rw [booA_B]
  have hw : i < L → IntKind.wrap IntKind.i64 ((i : Int) + 1) = ((i + 1 : Nat) : Int) := fun h => by rw [IntWalk.i64_in _ (by omega)]; omega
  refine T.hiteP (fun hi => ?_) (fun hi => T.hret (Round.any (.exit 0) (foZ x o G len cap z L C (⟨p, false, n, c, f⟩, false, i)) (rhoL [0, 1, 2, 3, 4, 5, 6, 7]) (subStL [0, 1, 2, 3, 4, 5, 6, 7] rfl rfl rfl (Nat.le_of_ble_eq_true rfl) (by simp [foZ, foLp, foK, foM, foH, spM, SubFr, slotAt, ren, below, rhoL]) ⟨⟨_, rfl, x.ok⟩, ⟨_, rfl, ops_ok rfl (Nat.succ_pos _)⟩, ⟨_, rfl, box_ok rfl (by simp [foZ, foLp, foM, foH, spM])⟩, ⟨_, rfl, rw_nil⟩, ⟨_, rfl, boo_ok fun h => h⟩, ⟨_, rfl, rw_sl rfl (by simp [foZ, foLp, foM, foH, spM])⟩, ⟨_, rfl, rw_F rfl rfl rfl rfl (by simp [foZ, foLp, foM, foH, spM])⟩, ⟨_, rfl, in_ok⟩, trivial⟩) X))
  have hi : i < L := by omega
  have hw := hw hi
  refine T.hchk (by simp only [Bool.and_eq_true, decide_eq_true_eq]; omega) (T.hchk (decide_eq_true (by omega)) (T.hneed ⟨⟨rfl, rfl⟩, rfl, rfl, rfl⟩ (T.hneed ⟨rfl, rfl, rfl, rfl, rfl, fun j _ => rfl⟩ (T.hneed rfl (T.hchk (decide_eq_true (by omega)) (T.half fun q => T.hasmP fun hq => T.hall fun kk => T.hiteP (fun hk => T.hret ?_) (fun hk => ?_)))))))
  · obtain ⟨u1, u2⟩ := U (truB q) hq hi
    exact Round.go (⟨truB q, false, n, c, f⟩, false, i + 1) _ u1 u2 (subStL [0, 1, 2, 3, 4, 5, 6, 7] rfl rfl rfl (Nat.le_of_ble_eq_true rfl) (by simp [foZ, foLp, foK, foM, foH, spM, SubFr, slotAt, ren, below, rhoL, hw]) ⟨⟨_, rfl, x.ok⟩, ⟨_, rfl, ops_ok rfl (Nat.succ_pos _)⟩, ⟨_, rfl, box_ok rfl (by simp [foZ, foLp, foM, foH, spM])⟩, ⟨_, rfl, rw_nil⟩, ⟨_, rfl, boo_ok fun h => h⟩, ⟨_, rfl, rw_sl rfl (by simp [foZ, foLp, foM, foH, spM])⟩, ⟨_, rfl, rw_F rfl rfl rfl rfl (by simp [foZ, foLp, foM, foH, spM])⟩, ⟨_, rfl, in_ok⟩, trivial⟩) any_ff
  · refine T.hall fun n' => T.hall fun c' => T.half fun f' => T.hasmP fun hh => T.hret ?_
    obtain ⟨u1, u2⟩ := V ⟨truB q, true, n', c', f'⟩ rfl ⟨⟨fun _ => hh.1, (fun h => by cases h), hh.2⟩, Nat.le_trans hq h4⟩ hi
    exact Round.go (⟨truB q, true, n', c', f'⟩, false, i + 1) _ u1 u2 (subStL [0, 1, 2, 3, 4, 5, 6, 8, 7] rfl rfl rfl (Nat.le_of_ble_eq_true rfl) (by simp [foZ, foLp, foK, foM, foH, spM, SubFr, slotAt, ren, below, rhoL, hw]) ⟨⟨_, rfl, x.ok⟩, ⟨_, rfl, ops_ok rfl (Nat.succ_pos _)⟩, ⟨_, rfl, box_ok rfl (by simp [foZ, foLp, foM, foH, spM])⟩, ⟨_, rfl, rw_sl rfl (by simp [foZ, foLp, foM, foH, spM])⟩, ⟨_, rfl, boo_ok fun h => h⟩, ⟨_, rfl, rw_sl rfl (by simp [foZ, foLp, foM, foH, spM])⟩, ⟨_, rfl, rw_F rfl rfl rfl rfl (by simp [foZ, foLp, foM, foH, spM])⟩, ⟨_, rfl, i64_same⟩, ⟨_, rfl, in_ok⟩, trivial⟩) any_ff

theorem fo_rB (x : FD) (o : OC) (G : Int) (len cap k : Nat) (hE : EnvOK Try.prog (foE x o G len cap k 7).fns) (p : Nat → Bool) (n c : Nat) (f : Nat → Int) (z : Nat → Int) (L C : Nat) (hL : L ≤ C) (hL' : L ≤ 9223372036854775807) (i N : Nat) (hN : N < k) (hy : foI len N ⟨p, true, n, c, f⟩) (I : OX × Bool × Nat → Prop) (μ : OX × Bool × Nat → Nat) (Q : Ex × St → Prop)
    (U : ∀ q, cntF q len ≤ cntF p len → i < L → I (⟨q, true, n, c, f⟩, false, i + 1) ∧ μ (⟨q, true, n, c, f⟩, false, i + 1) < μ (⟨p, true, n, c, f⟩, false, i))
    (V : ∀ y, y.hs = true → foI len N y → i < L → I (y, false, i + 1) ∧ μ (y, false, i + 1) < μ (⟨p, true, n, c, f⟩, false, i))
    (X : Q (.exit 0, foZ x o G len cap z L C (⟨p, true, n, c, f⟩, false, i))) :
    AWp Try.prog (foE x o G len cap k 7) foC (foZ x o G len cap z L C (⟨p, true, n, c, f⟩, false, i)) (Round (foE x o G len cap k 7) (foZ x o G len cap z L C) I μ (fun _ => .asm false .fail) Q (⟨p, true, n, c, f⟩, false, i)) := by
  obtain ⟨⟨h1, h2, h3⟩, h4⟩ := hy
  dsimp only at h1 h2 h3 h4
  refine code_sound hE _ (noLoops (by kernel_rfl)) _ _ (round_keep [4, 42, 43, 44] (T.cut_eq (fo_t1 x o G len cap k 7 p n c f z L C i) ?_))
  rw [booA_B]
  have hw : i < L → IntKind.wrap IntKind.i64 ((i : Int) + 1) = ((i + 1 : Nat) : Int) := fun h => by rw [IntWalk.i64_in _ (by omega)]; omega
  refine T.hiteP (fun hi => ?_) (fun hi => T.hret (Round.any (.exit 0) (foZ x o G len cap z L C (⟨p, true, n, c, f⟩, false, i)) (rhoL [0, 1, 2, 3, 4, 5, 6, 7, 8]) (subStL [0, 1, 2, 3, 4, 5, 6, 7, 8] rfl rfl rfl (Nat.le_of_ble_eq_true rfl) (by simp [foZ, foLp, foK, foM, foH, spM, SubFr, slotAt, ren, below, rhoL]) ⟨⟨_, rfl, x.ok⟩, ⟨_, rfl, ops_ok rfl (Nat.succ_pos _)⟩, ⟨_, rfl, box_ok rfl (by simp [foZ, foLp, foM, foH, spM])⟩, ⟨_, rfl, rw_sl rfl (by simp [foZ, foLp, foM, foH, spM])⟩, ⟨_, rfl, boo_ok fun h => h⟩, ⟨_, rfl, rw_sl rfl (by simp [foZ, foLp, foM, foH, spM])⟩, ⟨_, rfl, rw_F rfl rfl rfl rfl (by simp [foZ, foLp, foM, foH, spM])⟩, ⟨_, rfl, i64_same⟩, ⟨_, rfl, in_ok⟩, trivial⟩) X))
  have hi : i < L := by omega
  have hw := hw hi
  refine T.hchk (by simp only [Bool.and_eq_true, decide_eq_true_eq]; omega) (T.hchk (decide_eq_true (by omega)) (T.hneed ⟨⟨rfl, rfl⟩, rfl, rfl, rfl⟩ (T.hneed ⟨rfl, rfl, rfl, rfl, rfl, fun j _ => rfl⟩ (T.hneed ⟨rfl, IsI64.rows, by decide⟩ (T.hchk (decide_eq_true ⟨by omega, h1 rfl, h3⟩) (T.half fun q => T.hasmP fun hq => T.hall fun kk => T.hiteP (fun hk => T.hret ?_) (fun hk => ?_)))))))
  · obtain ⟨u1, u2⟩ := U (truB q) hq hi
    exact Round.go (⟨truB q, true, n, c, f⟩, false, i + 1) _ u1 u2 (subStL [0, 1, 2, 3, 4, 5, 6, 7, 8] rfl rfl rfl (Nat.le_of_ble_eq_true rfl) (by simp [foZ, foLp, foK, foM, foH, spM, SubFr, slotAt, ren, below, rhoL, hw]) ⟨⟨_, rfl, x.ok⟩, ⟨_, rfl, ops_ok rfl (Nat.succ_pos _)⟩, ⟨_, rfl, box_ok rfl (by simp [foZ, foLp, foM, foH, spM])⟩, ⟨_, rfl, rw_sl rfl (by simp [foZ, foLp, foM, foH, spM])⟩, ⟨_, rfl, boo_ok fun h => h⟩, ⟨_, rfl, rw_sl rfl (by simp [foZ, foLp, foM, foH, spM])⟩, ⟨_, rfl, rw_F rfl rfl rfl rfl (by simp [foZ, foLp, foM, foH, spM])⟩, ⟨_, rfl, i64_same⟩, ⟨_, rfl, in_ok⟩, trivial⟩) any_ff
  · refine T.hall fun n' => T.hall fun c' => T.half fun f' => T.hasmP fun hh => T.hret ?_
    obtain ⟨u1, u2⟩ := V ⟨truB q, true, n', c', f'⟩ rfl ⟨⟨fun _ => hh.1, (fun h => by cases h), hh.2⟩, Nat.le_trans hq h4⟩ hi
    exact Round.go (⟨truB q, true, n', c', f'⟩, false, i + 1) _ u1 u2 (subStL [0, 1, 2, 3, 4, 5, 6, 9, 8] rfl rfl rfl (Nat.le_of_ble_eq_true rfl) (by simp [foZ, foLp, foK, foM, foH, spM, SubFr, slotAt, ren, below, rhoL, hw]) ⟨⟨_, rfl, x.ok⟩, ⟨_, rfl, ops_ok rfl (Nat.succ_pos _)⟩, ⟨_, rfl, box_ok rfl (by simp [foZ, foLp, foM, foH, spM])⟩, ⟨_, rfl, rw_sl rfl (by simp [foZ, foLp, foM, foH, spM])⟩, ⟨_, rfl, boo_ok fun h => h⟩, ⟨_, rfl, rw_sl rfl (by simp [foZ, foLp, foM, foH, spM])⟩, ⟨_, rfl, rw_F rfl rfl rfl rfl (by simp [foZ, foLp, foM, foH, spM])⟩, ⟨_, rfl, i64_same⟩, ⟨_, rfl, in_ok⟩, trivial⟩) any_ff

theorem fo_rC (x : FD) (o : OC) (G : Int) (len cap k : Nat) (hE : EnvOK Try.prog (foE x o G len cap k 8).fns) (p : Nat → Bool) (n c : Nat) (f : Nat → Int) (z : Nat → Int) (L C : Nat) (hL : L ≤ C) (hL' : L ≤ 9223372036854775807) (i N : Nat) (hN : N < k) (hy : foI len N ⟨p, true, n, c, f⟩) (I : OX × Bool × Nat → Prop) (μ : OX × Bool × Nat → Nat) (Q : Ex × St → Prop)
    (U : ∀ q, cntF q len ≤ cntF p len → i < L → I (⟨q, true, n, c, f⟩, false, i + 1) ∧ μ (⟨q, true, n, c, f⟩, false, i + 1) < μ (⟨p, true, n, c, f⟩, false, i))
    (V : ∀ y, y.hs = true → foI len N y → i < L → I (y, true, i + 1) ∧ μ (y, true, i + 1) < μ (⟨p, true, n, c, f⟩, false, i))
    (X : Q (.exit 0, foZ x o G len cap z L C (⟨p, true, n, c, f⟩, false, i))) :
    AWp Try.prog (foE x o G len cap k 8) foC (foZ x o G len cap z L C (⟨p, true, n, c, f⟩, false, i)) (Round (foE x o G len cap k 8) (foZ x o G len cap z L C) I μ (fun _ => .asm false .fail) Q (⟨p, true, n, c, f⟩, false, i)) := by
  obtain ⟨⟨h1, h2, h3⟩, h4⟩ := hy
  dsimp only at h1 h2 h3 h4
  refine code_sound hE _ (noLoops (by kernel_rfl)) _ _ (round_keep [4, 42, 43, 44] (T.cut_eq (fo_t1 x o G len cap k 8 p n c f z L C i) ?_))
  rw [booA_B]
  have hw : i < L → IntKind.wrap IntKind.i64 ((i : Int) + 1) = ((i + 1 : Nat) : Int) := fun h => by rw [IntWalk.i64_in _ (by omega)]; omega
  refine T.hiteP (fun hi => ?_) (fun hi => T.hret (Round.any (.exit 0) (foZ x o G len cap z L C (⟨p, true, n, c, f⟩, false, i)) (rhoL [0, 1, 2, 3, 4, 5, 6, 7, 8]) (subStL [0, 1, 2, 3, 4, 5, 6, 7, 8] rfl rfl rfl (Nat.le_of_ble_eq_true rfl) (by simp [foZ, foLp, foK, foM, foH, spM, SubFr, slotAt, ren, below, rhoL]) ⟨⟨_, rfl, x.ok⟩, ⟨_, rfl, ops_ok rfl (Nat.succ_pos _)⟩, ⟨_, rfl, box_ok rfl (by simp [foZ, foLp, foM, foH, spM])⟩, ⟨_, rfl, rw_sl rfl (by simp [foZ, foLp, foM, foH, spM])⟩, ⟨_, rfl, boo_ok fun h => h⟩, ⟨_, rfl, rw_sl rfl (by simp [foZ, foLp, foM, foH, spM])⟩, ⟨_, rfl, rw_F rfl rfl rfl rfl (by simp [foZ, foLp, foM, foH, spM])⟩, ⟨_, rfl, i64_same⟩, ⟨_, rfl, in_ok⟩, trivial⟩) X))
  have hi : i < L := by omega
  have hw := hw hi
  refine T.hchk (by simp only [Bool.and_eq_true, decide_eq_true_eq]; omega) (T.hchk (decide_eq_true (by omega)) (T.hneed ⟨⟨rfl, rfl⟩, rfl, rfl, rfl⟩ (T.hneed ⟨rfl, rfl, rfl, rfl, rfl, fun j _ => rfl⟩ (T.hneed ⟨rfl, IsI64.rows, by decide⟩ (T.hchk (decide_eq_true ⟨by omega, h1 rfl, h3⟩) (T.half fun q => T.hasmP fun hq => T.hall fun kk => T.hiteP (fun hk => T.hret ?_) (fun hk => ?_)))))))
  · obtain ⟨u1, u2⟩ := U (truB q) hq hi
    exact Round.go (⟨truB q, true, n, c, f⟩, false, i + 1) _ u1 u2 (subStL [0, 1, 2, 3, 4, 5, 6, 7, 8] rfl rfl rfl (Nat.le_of_ble_eq_true rfl) (by simp [foZ, foLp, foK, foM, foH, spM, SubFr, slotAt, ren, below, rhoL, hw]) ⟨⟨_, rfl, x.ok⟩, ⟨_, rfl, ops_ok rfl (Nat.succ_pos _)⟩, ⟨_, rfl, box_ok rfl (by simp [foZ, foLp, foM, foH, spM])⟩, ⟨_, rfl, rw_sl rfl (by simp [foZ, foLp, foM, foH, spM])⟩, ⟨_, rfl, boo_ok fun h => h⟩, ⟨_, rfl, rw_sl rfl (by simp [foZ, foLp, foM, foH, spM])⟩, ⟨_, rfl, rw_F rfl rfl rfl rfl (by simp [foZ, foLp, foM, foH, spM])⟩, ⟨_, rfl, i64_same⟩, ⟨_, rfl, in_ok⟩, trivial⟩) any_ff
  · refine T.hall fun n' => T.hall fun c' => T.half fun f' => T.hasmP fun hh => T.hret ?_
    obtain ⟨u1, u2⟩ := V ⟨truB q, true, n', c', f'⟩ rfl ⟨⟨fun _ => hh.1, (fun h => by cases h), hh.2⟩, Nat.le_trans hq h4⟩ hi
    exact Round.go (⟨truB q, true, n', c', f'⟩, true, i + 1) _ u1 u2 (subStL [0, 1, 2, 3, 4, 5, 6, 7, 9, 8] rfl rfl rfl (Nat.le_of_ble_eq_true rfl) (by simp [foZ, foLp, foK, foM, foH, spM, SubFr, slotAt, ren, below, rhoL, hw]) ⟨⟨_, rfl, x.ok⟩, ⟨_, rfl, ops_ok rfl (Nat.succ_pos _)⟩, ⟨_, rfl, box_ok rfl (by simp [foZ, foLp, foM, foH, spM])⟩, ⟨_, rfl, rw_sl rfl (by simp [foZ, foLp, foM, foH, spM])⟩, ⟨_, rfl, boo_ok fun h => h⟩, ⟨_, rfl, rw_sl rfl (by simp [foZ, foLp, foM, foH, spM])⟩, ⟨_, rfl, rw_F rfl rfl rfl rfl (by simp [foZ, foLp, foM, foH, spM])⟩, ⟨_, rfl, i64_same⟩, ⟨_, rfl, in_ok⟩, trivial⟩) any_ff

theorem fo_rD (x : FD) (o : OC) (G : Int) (len cap k : Nat) (hE : EnvOK Try.prog (foE x o G len cap k 8).fns) (p : Nat → Bool) (n c : Nat) (f : Nat → Int) (z : Nat → Int) (L C : Nat) (hL : L ≤ C) (hL' : L ≤ 9223372036854775807) (i N : Nat) (hN : N < k) (hy : foI len N ⟨p, true, n, c, f⟩) (I : OX × Bool × Nat → Prop) (μ : OX × Bool × Nat → Nat) (Q : Ex × St → Prop)
    (U : ∀ q, cntF q len ≤ cntF p len → i < L → I (⟨q, true, n, c, f⟩, true, i + 1) ∧ μ (⟨q, true, n, c, f⟩, true, i + 1) < μ (⟨p, true, n, c, f⟩, true, i))
    (V : ∀ y, y.hs = true → foI len N y → i < L → I (y, true, i + 1) ∧ μ (y, true, i + 1) < μ (⟨p, true, n, c, f⟩, true, i))
    (X : Q (.exit 0, foZ x o G len cap z L C (⟨p, true, n, c, f⟩, true, i))) :
    AWp Try.prog (foE x o G len cap k 8) foC (foZ x o G len cap z L C (⟨p, true, n, c, f⟩, true, i)) (Round (foE x o G len cap k 8) (foZ x o G len cap z L C) I μ (fun _ => .asm false .fail) Q (⟨p, true, n, c, f⟩, true, i)) := by
  obtain ⟨⟨h1, h2, h3⟩, h4⟩ := hy
  dsimp only at h1 h2 h3 h4
  refine code_sound hE _ (noLoops (by kernel_rfl)) _ _ (round_keep [4, 42, 43, 44] (T.cut_eq (fo_t2 x o G len cap k 8 p n c f z L C i) ?_))
  rw [booA_B]
  have hw : i < L → IntKind.wrap IntKind.i64 ((i : Int) + 1) = ((i + 1 : Nat) : Int) := fun h => by rw [IntWalk.i64_in _ (by omega)]; omega
  refine T.hiteP (fun hi => ?_) (fun hi => T.hret (Round.any (.exit 0) (foZ x o G len cap z L C (⟨p, true, n, c, f⟩, true, i)) (rhoL [0, 1, 2, 3, 4, 5, 6, 7, 8, 9]) (subStL [0, 1, 2, 3, 4, 5, 6, 7, 8, 9] rfl rfl rfl (Nat.le_of_ble_eq_true rfl) (by simp [foZ, foLp, foK, foM, foH, spM, SubFr, slotAt, ren, below, rhoL]) ⟨⟨_, rfl, x.ok⟩, ⟨_, rfl, ops_ok rfl (Nat.succ_pos _)⟩, ⟨_, rfl, box_ok rfl (by simp [foZ, foLp, foM, foH, spM])⟩, ⟨_, rfl, rw_sl rfl (by simp [foZ, foLp, foM, foH, spM])⟩, ⟨_, rfl, boo_ok fun h => h⟩, ⟨_, rfl, rw_sl rfl (by simp [foZ, foLp, foM, foH, spM])⟩, ⟨_, rfl, rw_F rfl rfl rfl rfl (by simp [foZ, foLp, foM, foH, spM])⟩, ⟨_, rfl, i64_same⟩, ⟨_, rfl, in_ok⟩, trivial⟩) X))
  have hi : i < L := by omega
  have hw := hw hi
  refine T.hchk (by simp only [Bool.and_eq_true, decide_eq_true_eq]; omega) (T.hchk (decide_eq_true (by omega)) (T.hneed ⟨⟨rfl, rfl⟩, rfl, rfl, rfl⟩ (T.hneed ⟨rfl, rfl, rfl, rfl, rfl, fun j _ => rfl⟩ (T.hneed ⟨rfl, IsI64.rows, by decide⟩ (T.hchk (decide_eq_true ⟨by omega, h1 rfl, h3⟩) (T.half fun q => T.hasmP fun hq => T.hall fun kk => T.hiteP (fun hk => T.hret ?_) (fun hk => ?_)))))))
  · obtain ⟨u1, u2⟩ := U (truB q) hq hi
    exact Round.go (⟨truB q, true, n, c, f⟩, true, i + 1) _ u1 u2 (subStL [0, 1, 2, 3, 4, 5, 6, 7, 8, 9] rfl rfl rfl (Nat.le_of_ble_eq_true rfl) (by simp [foZ, foLp, foK, foM, foH, spM, SubFr, slotAt, ren, below, rhoL, hw]) ⟨⟨_, rfl, x.ok⟩, ⟨_, rfl, ops_ok rfl (Nat.succ_pos _)⟩, ⟨_, rfl, box_ok rfl (by simp [foZ, foLp, foM, foH, spM])⟩, ⟨_, rfl, rw_sl rfl (by simp [foZ, foLp, foM, foH, spM])⟩, ⟨_, rfl, boo_ok fun h => h⟩, ⟨_, rfl, rw_sl rfl (by simp [foZ, foLp, foM, foH, spM])⟩, ⟨_, rfl, rw_F rfl rfl rfl rfl (by simp [foZ, foLp, foM, foH, spM])⟩, ⟨_, rfl, i64_same⟩, ⟨_, rfl, in_ok⟩, trivial⟩) any_ff
  · refine T.hall fun n' => T.hall fun c' => T.half fun f' => T.hasmP fun hh => T.hret ?_
    obtain ⟨u1, u2⟩ := V ⟨truB q, true, n', c', f'⟩ rfl ⟨⟨fun _ => hh.1, (fun h => by cases h), hh.2⟩, Nat.le_trans hq h4⟩ hi
    exact Round.go (⟨truB q, true, n', c', f'⟩, true, i + 1) _ u1 u2 (subStL [0, 1, 2, 3, 4, 5, 6, 7, 10, 9] rfl rfl rfl (Nat.le_of_ble_eq_true rfl) (by simp [foZ, foLp, foK, foM, foH, spM, SubFr, slotAt, ren, below, rhoL, hw]) ⟨⟨_, rfl, x.ok⟩, ⟨_, rfl, ops_ok rfl (Nat.succ_pos _)⟩, ⟨_, rfl, box_ok rfl (by simp [foZ, foLp, foM, foH, spM])⟩, ⟨_, rfl, rw_sl rfl (by simp [foZ, foLp, foM, foH, spM])⟩, ⟨_, rfl, boo_ok fun h => h⟩, ⟨_, rfl, rw_sl rfl (by simp [foZ, foLp, foM, foH, spM])⟩, ⟨_, rfl, rw_F rfl rfl rfl rfl (by simp [foZ, foLp, foM, foH, spM])⟩, ⟨_, rfl, i64_same⟩, ⟨_, rfl, in_ok⟩, trivial⟩) any_ff



set_option maxRecDepth 100000
set_option maxHeartbeats 4000000
set_option linter.unusedVariables false
set_option linter.unusedSimpArgs false

theorem fo_subM (x : FD) (o : OC) (G : Int) (len cap : Nat) (y : OX) (d : Bool) (n0 : Nat) (hn : n0 ≤ (foM x o G len cap y d).length) (l : AM) : Sub n0 id (foM x o G len cap y d ++ l) (foM x o G len cap y d) := by
  obtain ⟨p, hs, n, c, f⟩ := y
  cases hs
  · exact Sub.of ⟨⟨_, rfl, x.ok⟩, ⟨_, rfl, ops_ok rfl (Nat.succ_pos _)⟩, ⟨_, rfl, box_ok rfl (by simp [foM, foH, spM])⟩, ⟨_, rfl, rw_nil⟩, ⟨_, rfl, boo_ok fun h => h⟩, ⟨_, rfl, rw_sl rfl (by simp [foM, foH, spM])⟩, ⟨_, rfl, rw_F rfl rfl rfl rfl (by simp [foM, foH, spM])⟩, trivial⟩ (fun _ _ _ _ h => h) (fun _ _ => rfl) hn
  · cases d
    · exact Sub.of ⟨⟨_, rfl, x.ok⟩, ⟨_, rfl, ops_ok rfl (Nat.succ_pos _)⟩, ⟨_, rfl, box_ok rfl (by simp [foM, foH, spM])⟩, ⟨_, rfl, rw_sl rfl (by simp [foM, foH, spM])⟩, ⟨_, rfl, boo_ok fun h => h⟩, ⟨_, rfl, rw_sl rfl (by simp [foM, foH, spM])⟩, ⟨_, rfl, rw_F rfl rfl rfl rfl (by simp [foM, foH, spM])⟩, ⟨_, rfl, i64_same⟩, trivial⟩ (fun _ _ _ _ h => h) (fun _ _ => rfl) hn
    · exact Sub.of ⟨⟨_, rfl, x.ok⟩, ⟨_, rfl, ops_ok rfl (Nat.succ_pos _)⟩, ⟨_, rfl, box_ok rfl (by simp [foM, foH, spM])⟩, ⟨_, rfl, rw_sl rfl (by simp [foM, foH, spM])⟩, ⟨_, rfl, boo_ok fun h => h⟩, ⟨_, rfl, rw_sl rfl (by simp [foM, foH, spM])⟩, ⟨_, rfl, rw_F rfl rfl rfl rfl (by simp [foM, foH, spM])⟩, ⟨_, rfl, i64_same⟩, trivial⟩ (fun _ _ _ _ h => h) (fun _ _ => rfl) hn

theorem tru_of (p : Nat → Bool) : truB (fun r => if p r = true then 0 else 1) = p := by
  funext r
  unfold truB
  by_cases h : p r = true
  · simp [h]
  · have h : p r = false := by simpa using h
    simp [h]

theorem fo_res' (e : Ex) (he : e = .ret ∨ e = .norm) (n0 : Nat) (Q : AV × AM → Prop) (fr : List (Nat × AV)) (m : AM) (h : Leaf n0 Q (.tup [], m)) : FnPost Try.prog Try.f49 n0 Q (e, ⟨fr, m⟩) := by
  unfold FnPost
  rw [fo_res]
  rcases he with rfl | rfl
  · exact h
  · exact h

/-- What a state of follow may have come to. -/
def foJA (len N : Nat) (y : OX) (d : Bool) : Prop := foI len N y ∧ d = false

theorem fo_postA (x : FD) (o : OC) (G : Int) (len cap : Nat) (p : Nat → Bool) (Q : AV × AM → Prop) (hq : (foT x o G len cap ⟨p, false, 0, 0, fun _ => 0⟩).holds Q) (e : Ex) (he : e = .ret ∨ e = .norm) (fr : List (Nat × AV)) (y : OX) (d : Bool) (hy : foJA len (cntF p len)  y d) (l : AM) :
    FnPost Try.prog Try.f49 7 Q (e, ⟨fr, foM x o G len cap y d ++ l⟩) := by
  refine fo_res' e he _ _ _ _ ?_
  obtain ⟨p', hs, n', c', f'⟩ := y
  obtain ⟨⟨⟨h1, h2, h3⟩, h4⟩, h5⟩ := hy
  dsimp only at h1 h2 h3 h4 h5
  have q := hq (fun r => if p' r = true then 0 else 1) (by rw [tru_of]; exact decide_eq_true h4)
  rw [tru_of] at q
  subst h5
  cases hs
  · have q := (q 0).1 (decide_eq_true rfl)
    exact ⟨id, .tup [], _, q, by simp [Ox.Alike, conc, ren, renL], by simp [below, belowL], fo_subM x o G len cap ⟨p', false, n', c', f'⟩ false _ (by simp [foM, foH, spM]) l⟩
  · have q := (q 1).2 (decide_eq_false (by decide)) n' c' f' (decide_eq_true ⟨h1 rfl, h3⟩)
    exact ⟨id, .tup [], _, q, by simp [Ox.Alike, conc, ren, renL], by simp [below, belowL], fo_subM x o G len cap ⟨p', true, n', c', f'⟩ false _ (by simp [foM, foH, spM]) l⟩

theorem fo_loopA (x : FD) (o : OC) (G : Int) (len cap k : Nat) (hE : EnvOK Try.prog (foE x o G len cap k 7).fns) (p : Nat → Bool) (hk : cntF p len < k + 1) (Q : AV × AM → Prop) (hq : (foT x o G len cap ⟨p, false, 0, 0, fun _ => 0⟩).holds Q) (N : Nat) (hN : N + 1 = cntF p len) (y : OX) (d : Bool) (hy : foJA len N  y d) (z : Nat → Int) (L C : Nat) (hL : L ≤ C) (hL' : L ≤ 9223372036854775807) :
    AWpL Try.prog (foE x o G len cap k 7) [.block 0 (.loop foC)] (foLp x o G len cap y d z L C 0) (FnPost Try.prog Try.f49 7 Q) := by
  refine awpl_block (awpl_one (loop_free (foZ x o G len cap z L C) (fun t => foJA len N  t.1 t.2.1 ∧ t.2.2 ≤ L) (fun t => L - t.2.2) (fun t ht => ?_) (y, d, 0) ⟨hy, Nat.zero_le _⟩))
  have X : ∀ t : OX × Bool × Nat, foJA len N  t.1 t.2.1 → AWpL Try.prog (foE x o G len cap k 7) [] (foZ x o G len cap z L C t) (FnPost Try.prog Try.f49 7 Q) := fun t ht w0 X loc0 loc a w h =>
    ⟨loc, _, fo_postA x o G len cap p Q hq .norm (.inr rfl) _ t.1 t.2.1 ⟨⟨ht.1.1, by have := ht.1.2; omega⟩, ht.2⟩ _, h⟩
  obtain ⟨y, d, i⟩ := t
  obtain ⟨hy, hi⟩ := ht
  dsimp only at hy hi
  have hX := X (y, d, i) hy
  obtain ⟨p', hs, n', c', f'⟩ := y
  obtain ⟨hy1, hy2⟩ := hy
  have hy1' := hy1
  obtain ⟨⟨h1, h2, h3⟩, h4⟩ := hy1
  dsimp only at h1 h2 h3 h4 hy2
  subst hy2
  cases hs
  · exact fo_rA x o G len cap k hE p' n' c' f' z L C hL hL' i N (by omega) hy1' _ _ _ (fun q hq hi => ⟨⟨⟨⟨⟨h1, h2, by dsimp only; omega⟩, by dsimp only; omega⟩, rfl⟩, hi⟩, by dsimp only; omega⟩) (fun y hy hfo hi => ⟨⟨⟨hfo, rfl⟩, hi⟩, by dsimp only; omega⟩) hX
  · exact fo_rB x o G len cap k hE p' n' c' f' z L C hL hL' i N (by omega) hy1' _ _ _ (fun q hq hi => ⟨⟨⟨⟨⟨h1, h2, by dsimp only; omega⟩, by dsimp only; omega⟩, rfl⟩, hi⟩, by dsimp only; omega⟩) (fun y hy hfo hi => ⟨⟨⟨hfo, rfl⟩, hi⟩, by dsimp only; omega⟩) hX

theorem fo_nilA (x : FD) (o : OC) (G : Int) (len cap k : Nat) (hE : EnvOK Try.prog (foE x o G len cap k 7).fns) (p : Nat → Bool) (Q : AV × AM → Prop) (hq : (foT x o G len cap ⟨p, false, 0, 0, fun _ => 0⟩).holds Q) (y : OX) (d : Bool) (hy : foJA len (cntF p len)  y d) :
    AWpL Try.prog (foE x o G len cap k 7) [.block 0 (.loop foC)] ⟨[(43, .int .i64 0), (44, .int .i64 0)], foM x o G len cap y d⟩ (FnPost Try.prog Try.f49 7 Q) := by
  refine awpl_block (awpl_one (loop_free (fun _ : Unit => ⟨[(43, .int .i64 0), (44, .int .i64 0)], foM x o G len cap y d⟩) (fun _ => True) (fun _ => 0) (fun t ht => ?_) () trivial))
  refine code_sound hE _ (noLoops (by kernel_rfl)) _ _ (round_keep [] (T.cut_eq (fo_n x o G len cap k 7 _) (T.hchkT (T.hret ?_))))
  have sub : Sub 7 id (foM x o G len cap y d) (foM x o G len cap y d) := by
    have := fo_subM x o G len cap y d 7 (by obtain ⟨p', hs, n', c', f'⟩ := y; have h5 := hy.2; (try dsimp only at h5); cases hs <;> cases d <;> simp_all [foM, foH, spM]) []
    rwa [List.append_nil] at this
  refine Round.any (.exit 0) ⟨[], foM x o G len cap y d⟩ id (SubSt.mk (by simp [SubFr]) sub) ?_
  show AWpL Try.prog (foE x o G len cap k 7) [] ⟨[], foM x o G len cap y d⟩ _
  have := fo_postA x o G len cap p Q hq .norm (.inr rfl) [] y d hy []
  rw [List.append_nil] at this
  exact fun w0 X loc0 loc a w h => ⟨loc, _, this, h⟩

/-- What a state of follow may have come to. -/
def foJB (len N : Nat) (n c : Nat) (f : Nat → Int) (y : OX) (d : Bool) : Prop := foI len N y ∧ y.hs = true ∧ (d = false → y.n = n ∧ y.c = c ∧ y.f = f)

theorem fo_postB (x : FD) (o : OC) (G : Int) (len cap : Nat) (p : Nat → Bool) (n c : Nat) (f : Nat → Int) (Q : AV × AM → Prop) (hq : (foT x o G len cap ⟨p, true, n, c, f⟩).holds Q) (e : Ex) (he : e = .ret ∨ e = .norm) (fr : List (Nat × AV)) (y : OX) (d : Bool) (hy : foJB len (cntF p len) n c f y d) (l : AM) :
    FnPost Try.prog Try.f49 8 Q (e, ⟨fr, foM x o G len cap y d ++ l⟩) := by
  refine fo_res' e he _ _ _ _ ?_
  obtain ⟨p', hs, n', c', f'⟩ := y
  obtain ⟨⟨⟨h1, h2, h3⟩, h4⟩, h5⟩ := hy
  dsimp only at h1 h2 h3 h4 h5
  have q := hq (fun r => if p' r = true then 0 else 1) (by rw [tru_of]; exact decide_eq_true h4)
  rw [tru_of] at q
  obtain ⟨h5, h6⟩ := h5
  subst h5
  cases d
  · obtain ⟨rfl, rfl, rfl⟩ := h6 rfl
    have q := (q 0).1 (decide_eq_true rfl)
    exact ⟨id, .tup [], _, q, by simp [Ox.Alike, conc, ren, renL], by simp [below, belowL], fo_subM x o G len cap ⟨p', true, n', c', f'⟩ false _ (by simp [foM, foH, spM]) l⟩
  · have q := (q 1).2 (decide_eq_false (by decide)) n' c' f' (decide_eq_true ⟨h1 rfl, h3⟩)
    exact ⟨id, .tup [], _, q, by simp [Ox.Alike, conc, ren, renL], by simp [below, belowL], fo_subM x o G len cap ⟨p', true, n', c', f'⟩ true _ (by simp [foM, foH, spM]) l⟩

theorem fo_loopB (x : FD) (o : OC) (G : Int) (len cap k : Nat) (hE : EnvOK Try.prog (foE x o G len cap k 8).fns) (p : Nat → Bool) (n c : Nat) (f : Nat → Int) (hk : cntF p len < k + 1) (Q : AV × AM → Prop) (hq : (foT x o G len cap ⟨p, true, n, c, f⟩).holds Q) (N : Nat) (hN : N + 1 = cntF p len) (y : OX) (d : Bool) (hy : foJB len N n c f y d) (z : Nat → Int) (L C : Nat) (hL : L ≤ C) (hL' : L ≤ 9223372036854775807) :
    AWpL Try.prog (foE x o G len cap k 8) [.block 0 (.loop foC)] (foLp x o G len cap y d z L C 0) (FnPost Try.prog Try.f49 8 Q) := by
  refine awpl_block (awpl_one (loop_free (foZ x o G len cap z L C) (fun t => foJB len N n c f t.1 t.2.1 ∧ t.2.2 ≤ L) (fun t => L - t.2.2) (fun t ht => ?_) (y, d, 0) ⟨hy, Nat.zero_le _⟩))
  have X : ∀ t : OX × Bool × Nat, foJB len N n c f t.1 t.2.1 → AWpL Try.prog (foE x o G len cap k 8) [] (foZ x o G len cap z L C t) (FnPost Try.prog Try.f49 8 Q) := fun t ht w0 X loc0 loc a w h =>
    ⟨loc, _, fo_postB x o G len cap p n c f Q hq .norm (.inr rfl) _ t.1 t.2.1 ⟨⟨ht.1.1, by have := ht.1.2; omega⟩, ht.2⟩ _, h⟩
  obtain ⟨y, d, i⟩ := t
  obtain ⟨hy, hi⟩ := ht
  dsimp only at hy hi
  have hX := X (y, d, i) hy
  obtain ⟨p', hs, n', c', f'⟩ := y
  obtain ⟨hy1, hy2⟩ := hy
  have hy1' := hy1
  obtain ⟨⟨h1, h2, h3⟩, h4⟩ := hy1
  dsimp only at h1 h2 h3 h4 hy2
  obtain ⟨hy2, hy3⟩ := hy2
  subst hy2
  cases d
  · obtain ⟨rfl, rfl, rfl⟩ := hy3 rfl
    exact fo_rC x o G len cap k hE p' n' c' f' z L C hL hL' i N (by omega) hy1' _ _ _ (fun q hq hi => ⟨⟨⟨⟨⟨h1, h2, by dsimp only; omega⟩, by dsimp only; omega⟩, rfl, fun _ => ⟨rfl, rfl, rfl⟩⟩, hi⟩, by dsimp only; omega⟩) (fun y hy hfo hi => ⟨⟨⟨hfo, hy, fun h => by cases h⟩, hi⟩, by dsimp only; omega⟩) hX
  · exact fo_rD x o G len cap k hE p' n' c' f' z L C hL hL' i N (by omega) hy1' _ _ _ (fun q hq hi => ⟨⟨⟨⟨⟨h1, h2, by dsimp only; omega⟩, by dsimp only; omega⟩, rfl, fun h => by cases h⟩, hi⟩, by dsimp only; omega⟩) (fun y hy hfo hi => ⟨⟨⟨hfo, hy, fun h => by cases h⟩, hi⟩, by dsimp only; omega⟩) hX

theorem fo_nilB (x : FD) (o : OC) (G : Int) (len cap k : Nat) (hE : EnvOK Try.prog (foE x o G len cap k 8).fns) (p : Nat → Bool) (n c : Nat) (f : Nat → Int) (Q : AV × AM → Prop) (hq : (foT x o G len cap ⟨p, true, n, c, f⟩).holds Q) (y : OX) (d : Bool) (hy : foJB len (cntF p len) n c f y d) :
    AWpL Try.prog (foE x o G len cap k 8) [.block 0 (.loop foC)] ⟨[(43, .int .i64 0), (44, .int .i64 0)], foM x o G len cap y d⟩ (FnPost Try.prog Try.f49 8 Q) := by
  refine awpl_block (awpl_one (loop_free (fun _ : Unit => ⟨[(43, .int .i64 0), (44, .int .i64 0)], foM x o G len cap y d⟩) (fun _ => True) (fun _ => 0) (fun t ht => ?_) () trivial))
  refine code_sound hE _ (noLoops (by kernel_rfl)) _ _ (round_keep [] (T.cut_eq (fo_n x o G len cap k 8 _) (T.hchkT (T.hret ?_))))
  have sub : Sub 8 id (foM x o G len cap y d) (foM x o G len cap y d) := by
    have := fo_subM x o G len cap y d 8 (by obtain ⟨p', hs, n', c', f'⟩ := y; have h5 := hy.2; (try dsimp only at h5); cases hs <;> cases d <;> simp_all [foM, foH, spM]) []
    rwa [List.append_nil] at this
  refine Round.any (.exit 0) ⟨[], foM x o G len cap y d⟩ id (SubSt.mk (by simp [SubFr]) sub) ?_
  show AWpL Try.prog (foE x o G len cap k 8) [] ⟨[], foM x o G len cap y d⟩ _
  have := fo_postB x o G len cap p n c f Q hq .norm (.inr rfl) [] y d hy []
  rw [List.append_nil] at this
  exact fun w0 X loc0 loc a w h => ⟨loc, _, this, h⟩



set_option maxRecDepth 100000
set_option maxHeartbeats 4000000
set_option linter.unusedVariables false
set_option linter.unusedSimpArgs false

theorem fo_effA (x : FD) (o : OC) (G : Int) (len cap k : Nat) (hk0 : spOK x len cap) (hE : EnvOK Try.prog (foE x o G len cap k 7).fns) (p : Nat → Bool) (h0 : cntF p len ≤ len) (hk : cntF p len < k + 1) (i : Int) :
    EffAt Try.prog 49 [.int .i64 i, .ptr 2 0 0 0, .ptr 5 0 0 0, .ptr 3 0 0 0, .ptr 6 0 0 0] (foM x o G len cap ⟨p, false, 0, 0, fun _ => 0⟩ false) (foT x o G len cap ⟨p, false, 0, 0, fun _ => 0⟩) := by
  refine fn_okA (E := (foE x o G len cap k 7)) (c := codeOf Try.f49) Try.func49 rfl rfl rfl (Nat.le_of_ble_eq_true (by kernel_rfl)) fun Q hq => ?_
  obtain ⟨hw, hl, hb, hm⟩ := hk0
  have hle := hw.le
  have hcl := cntF_le p len
  have e0 := fo_p0 x o G len cap k 7 p 0 0 (fun _ => 0)
  have em := fo_m0 x o G len cap k 7 p 0 0 (fun _ => 0)
  have hl0 : ∀ x' ∈ (chainOf (codeOf Try.f49)).take 6, ∀ c' ∈ loopsIn x', LoopOK Try.prog (foE x o G len cap k 7) c' := noLoopsL_ok (by kernel_rfl)
  rw [fo_ch]
  have post := fun fr y d hy => fo_postA x o G len cap p Q hq .ret (.inl rfl) fr y d hy []
  have nl := fo_nilA x o G len cap k hE p Q hq
  have lp := fun N hN y d hy z L C hL hL' => fo_loopA x o G len cap k hE p hk Q hq N hN y d hy z L C hL hL'
  generalize (chainOf (codeOf Try.f49)).take 6 = C0 at e0 em hl0 ⊢
  generalize hB : [Code.block 0 (.loop foC)] = B0 at nl lp ⊢
  have sub : Sub 7 id (foM x o G len cap ⟨p, false, 0, 0, fun _ => 0⟩ false) (foM x o G len cap ⟨p, false, 0, 0, fun _ => 0⟩ false) := by
    have := fo_subM x o G len cap ⟨p, false, 0, 0, fun _ => 0⟩ false 7 (by simp [foM, foH, spM]) []
    rwa [List.append_nil] at this
  have back : ∀ fr, Weak (foE x o G len cap k 7) (Then (FnPost Try.prog Try.f49 7 Q) fun st' => AWpL Try.prog (foE x o G len cap k 7) B0 st' (FnPost Try.prog Try.f49 7 Q)) (.ret, ⟨fr, foM x o G len cap ⟨p, false, 0, 0, fun _ => 0⟩ false⟩) := fun fr =>
    ⟨id, ⟨[], foM x o G len cap ⟨p, false, 0, 0, fun _ => 0⟩ false⟩, SubSt.mk (by simp [SubFr]) sub, by
      have := post [] ⟨p, false, 0, 0, fun _ => 0⟩ false ⟨⟨⟨(fun h => by cases h), (fun _ => rfl), by dsimp only; omega⟩, Nat.le_refl _⟩, rfl⟩
      rw [List.append_nil] at this
      exact this⟩
  rcases i with i | i
  · refine awpl_app (l2 := B0) (awpl_end (E := (foE x o G len cap k 7)) hE hl0 (weak_keep [4, 42, 43, 44] (T.cut_eq (e0 i) ?_)))
    refine T.hchkT (T.hiteP (fun hi => T.hret (back _)) (fun hi => ?_))
    have hi : i < len := by omega
    have hi' : 0 + Int.toNat (i : Int) < cap := by omega
    have ei : 0 + Int.toNat (i : Int) = i := by omega
    have c1 : (decide ((0 : Int) ≤ (i : Int)) && decide ((i : Int) < (len : Int))) = true := by simp only [Bool.and_eq_true, decide_eq_true_eq]; omega
    have c2 : decide (0 + Int.toNat (i : Int) < len) = true := decide_eq_true (by omega)
    have c3 : decide (0 + Int.toNat (i : Int) < cap) = true := decide_eq_true hi'
    refine T.hchk c1 (T.hchk c2 (T.hite (fun hp => T.hret (back _)) (fun hp => ?_)))
    have hp : p i = false := by rw [ei] at hp; exact hp
    have hcnt := cntF_put hp len hi
    have lp := lp (cntF (putB p i) len) hcnt
    refine T.hchk c1 (T.hchk c2 (T.hchk c1 (T.hchk c3 (T.hite (fun hs => ?_) (fun hs => ?_)))))
    · exact T.hchkT (T.hchkT (T.hchkT (T.hall fun c' => T.hasmP fun hc => T.hchk c1 (T.hchk c3 (T.hite (fun hz => T.hret ⟨rhoL [0, 1, 2, 3, 4, 5, 6, 8], ⟨[(43, .int .i64 0), (44, .int .i64 0)], foM x o G len cap ⟨putB p i, true, 1, c', _⟩ false⟩, subStL [0, 1, 2, 3, 4, 5, 6, 8] rfl rfl rfl (Nat.le_of_ble_eq_true rfl) (by simp [foM, foH, spM, SubFr, slotAt, ren, below, rhoL]) ⟨⟨_, rfl, x.ok⟩, ⟨_, rfl, ops_ok rfl (Nat.succ_pos _)⟩, ⟨_, rfl, box_ok rfl (by simp [foLp, foM, foH, spM])⟩, ⟨_, rfl, rw_sl rfl (by simp [foLp, foM, foH, spM])⟩, ⟨_, rfl, set_ok⟩, ⟨_, rfl, rw_sl rfl (by simp [foLp, foM, foH, spM])⟩, ⟨_, rfl, rw_F rfl rfl rfl rfl (by simp [foLp, foM, foH, spM])⟩, ⟨_, rfl, i64_ok⟩, trivial⟩, nl _ false ⟨⟨⟨(fun _ => hc), (fun h => by cases h), by dsimp only; omega⟩, by dsimp only; omega⟩, rfl⟩⟩) (fun hz => T.hret ⟨rhoL [0, 1, 2, 3, 4, 5, 6, 8, 9], foLp x o G len cap ⟨putB p i, true, 1, c', _⟩ false (fun a => x.z [a, 0 + Int.toNat (i : Int)]) (x.ln [0 + Int.toNat (i : Int)]) (x.cp [0 + Int.toNat (i : Int)]) 0, subStL [0, 1, 2, 3, 4, 5, 6, 8, 9] rfl rfl rfl (Nat.le_of_ble_eq_true rfl) (by simp [foLp, foK, foM, foH, spM, SubFr, slotAt, ren, below, rhoL]) ⟨⟨_, rfl, x.ok⟩, ⟨_, rfl, ops_ok rfl (Nat.succ_pos _)⟩, ⟨_, rfl, box_ok rfl (by simp [foLp, foM, foH, spM])⟩, ⟨_, rfl, rw_sl rfl (by simp [foLp, foM, foH, spM])⟩, ⟨_, rfl, set_ok⟩, ⟨_, rfl, rw_sl rfl (by simp [foLp, foM, foH, spM])⟩, ⟨_, rfl, rw_F rfl rfl rfl rfl (by simp [foLp, foM, foH, spM])⟩, ⟨_, rfl, i64_ok⟩, ⟨_, rfl, in_ok⟩, trivial⟩, lp _ false ⟨⟨⟨(fun _ => hc), (fun h => by cases h), by dsimp only; omega⟩, Nat.le_refl _⟩, rfl⟩ _ _ _ (hle _) (hm _ hi')⟩))))))
    · exact T.hchk c1 (T.hchk c3 (T.hite (fun hz => T.hret ⟨rhoL [0, 1, 2, 3, 4, 5, 6], ⟨[(43, .int .i64 0), (44, .int .i64 0)], foM x o G len cap ⟨putB p i, false, 0, 0, fun _ => 0⟩ false⟩, subStL [0, 1, 2, 3, 4, 5, 6] rfl rfl rfl (Nat.le_of_ble_eq_true rfl) (by simp [foM, foH, spM, SubFr, slotAt, ren, below, rhoL]) ⟨⟨_, rfl, x.ok⟩, ⟨_, rfl, ops_ok rfl (Nat.succ_pos _)⟩, ⟨_, rfl, box_ok rfl (by simp [foLp, foM, foH, spM])⟩, ⟨_, rfl, rw_nil⟩, ⟨_, rfl, set_ok⟩, ⟨_, rfl, rw_sl rfl (by simp [foLp, foM, foH, spM])⟩, ⟨_, rfl, rw_F rfl rfl rfl rfl (by simp [foLp, foM, foH, spM])⟩, trivial⟩, nl _ false ⟨⟨⟨(fun h => by cases h), (fun _ => rfl), by dsimp only; omega⟩, by dsimp only; omega⟩, rfl⟩⟩) (fun hz => T.hret ⟨rhoL [0, 1, 2, 3, 4, 5, 6, 7], foLp x o G len cap ⟨putB p i, false, 0, 0, fun _ => 0⟩ false (fun a => x.z [a, 0 + Int.toNat (i : Int)]) (x.ln [0 + Int.toNat (i : Int)]) (x.cp [0 + Int.toNat (i : Int)]) 0, subStL [0, 1, 2, 3, 4, 5, 6, 7] rfl rfl rfl (Nat.le_of_ble_eq_true rfl) (by simp [foLp, foK, foM, foH, spM, SubFr, slotAt, ren, below, rhoL]) ⟨⟨_, rfl, x.ok⟩, ⟨_, rfl, ops_ok rfl (Nat.succ_pos _)⟩, ⟨_, rfl, box_ok rfl (by simp [foLp, foM, foH, spM])⟩, ⟨_, rfl, rw_nil⟩, ⟨_, rfl, set_ok⟩, ⟨_, rfl, rw_sl rfl (by simp [foLp, foM, foH, spM])⟩, ⟨_, rfl, rw_F rfl rfl rfl rfl (by simp [foLp, foM, foH, spM])⟩, ⟨_, rfl, in_ok⟩, trivial⟩, lp _ false ⟨⟨⟨(fun h => by cases h), (fun _ => rfl), by dsimp only; omega⟩, Nat.le_refl _⟩, rfl⟩ _ _ _ (hle _) (hm _ hi')⟩)))
  · refine awpl_app (l2 := B0) (awpl_end (E := (foE x o G len cap k 7)) hE hl0 (weak_keep [] (T.cut_eq (em i) ?_)))
    exact T.hiteP (fun h => T.hret (back _)) (fun h => absurd (Int.negSucc_lt_zero i) h)

theorem fo_effB (x : FD) (o : OC) (G : Int) (len cap k : Nat) (hk0 : spOK x len cap) (hE : EnvOK Try.prog (foE x o G len cap k 8).fns) (p : Nat → Bool) (n c : Nat) (f : Nat → Int) (hn : n ≤ c) (h0 : n + cntF p len ≤ len) (hk : cntF p len < k + 1) (i : Int) :
    EffAt Try.prog 49 [.int .i64 i, .ptr 2 0 0 0, .ptr 5 0 0 0, .ptr 3 0 0 0, .ptr 6 0 0 0] (foM x o G len cap ⟨p, true, n, c, f⟩ false) (foT x o G len cap ⟨p, true, n, c, f⟩) := by
  refine fn_okA (E := (foE x o G len cap k 8)) (c := codeOf Try.f49) Try.func49 rfl rfl rfl (Nat.le_of_ble_eq_true (by kernel_rfl)) fun Q hq => ?_
  obtain ⟨hw, hl, hb, hm⟩ := hk0
  have hle := hw.le
  have hcl := cntF_le p len
  have e0 := fo_p1 x o G len cap k 8 p n c f
  have em := fo_m1 x o G len cap k 8 p n c f
  have hl0 : ∀ x' ∈ (chainOf (codeOf Try.f49)).take 6, ∀ c' ∈ loopsIn x', LoopOK Try.prog (foE x o G len cap k 8) c' := noLoopsL_ok (by kernel_rfl)
  rw [fo_ch]
  have post := fun fr y d hy => fo_postB x o G len cap p n c f Q hq .ret (.inl rfl) fr y d hy []
  have nl := fo_nilB x o G len cap k hE p n c f Q hq
  have lp := fun N hN y d hy z L C hL hL' => fo_loopB x o G len cap k hE p n c f hk Q hq N hN y d hy z L C hL hL'
  generalize (chainOf (codeOf Try.f49)).take 6 = C0 at e0 em hl0 ⊢
  generalize hB : [Code.block 0 (.loop foC)] = B0 at nl lp ⊢
  have sub : Sub 8 id (foM x o G len cap ⟨p, true, n, c, f⟩ false) (foM x o G len cap ⟨p, true, n, c, f⟩ false) := by
    have := fo_subM x o G len cap ⟨p, true, n, c, f⟩ false 8 (by simp [foM, foH, spM]) []
    rwa [List.append_nil] at this
  have back : ∀ fr, Weak (foE x o G len cap k 8) (Then (FnPost Try.prog Try.f49 8 Q) fun st' => AWpL Try.prog (foE x o G len cap k 8) B0 st' (FnPost Try.prog Try.f49 8 Q)) (.ret, ⟨fr, foM x o G len cap ⟨p, true, n, c, f⟩ false⟩) := fun fr =>
    ⟨id, ⟨[], foM x o G len cap ⟨p, true, n, c, f⟩ false⟩, SubSt.mk (by simp [SubFr]) sub, by
      have := post [] ⟨p, true, n, c, f⟩ false ⟨⟨⟨(fun _ => hn), (fun h => by cases h), h0⟩, Nat.le_refl _⟩, rfl, fun _ => ⟨rfl, rfl, rfl⟩⟩
      rw [List.append_nil] at this
      exact this⟩
  rcases i with i | i
  · refine awpl_app (l2 := B0) (awpl_end (E := (foE x o G len cap k 8)) hE hl0 (weak_keep [4, 42, 43, 44] (T.cut_eq (e0 i) ?_)))
    refine T.hchkT (T.hiteP (fun hi => T.hret (back _)) (fun hi => ?_))
    have hi : i < len := by omega
    have hi' : 0 + Int.toNat (i : Int) < cap := by omega
    have ei : 0 + Int.toNat (i : Int) = i := by omega
    have c1 : (decide ((0 : Int) ≤ (i : Int)) && decide ((i : Int) < (len : Int))) = true := by simp only [Bool.and_eq_true, decide_eq_true_eq]; omega
    have c2 : decide (0 + Int.toNat (i : Int) < len) = true := decide_eq_true (by omega)
    have c3 : decide (0 + Int.toNat (i : Int) < cap) = true := decide_eq_true hi'
    refine T.hchk c1 (T.hchk c2 (T.hite (fun hp => T.hret (back _)) (fun hp => ?_)))
    have hp : p i = false := by rw [ei] at hp; exact hp
    have hcnt := cntF_put hp len hi
    have lp := lp (cntF (putB p i) len) hcnt
    refine T.hchk c1 (T.hchk c2 (T.hchk c1 (T.hchk c3 (T.hite (fun hs => ?_) (fun hs => ?_)))))
    · exact T.hchkT (T.hchk (decide_eq_true (by omega)) (T.hchk (decide_eq_true hn) (T.hchk (decide_eq_true (by omega)) (T.hall fun c' => T.hall fun dd => T.hasmP fun hc => T.hchk c1 (T.hchk c3 (T.hite (fun hz => T.hret ⟨rhoL [0, 1, 2, 3, 4, 5, 6, 7, 9], ⟨[(43, .int .i64 0), (44, .int .i64 0)], foM x o G len cap ⟨putB p i, true, n + 1, c', _⟩ true⟩, subStL [0, 1, 2, 3, 4, 5, 6, 7, 9] rfl rfl rfl (Nat.le_of_ble_eq_true rfl) (by simp [foM, foH, spM, SubFr, slotAt, ren, below, rhoL]) ⟨⟨_, rfl, x.ok⟩, ⟨_, rfl, ops_ok rfl (Nat.succ_pos _)⟩, ⟨_, rfl, box_ok rfl (by simp [foLp, foM, foH, spM])⟩, ⟨_, rfl, rw_sl rfl (by simp [foLp, foM, foH, spM])⟩, ⟨_, rfl, set_ok⟩, ⟨_, rfl, rw_sl rfl (by simp [foLp, foM, foH, spM])⟩, ⟨_, rfl, rw_F rfl rfl rfl rfl (by simp [foLp, foM, foH, spM])⟩, ⟨_, rfl, i64_ok⟩, trivial⟩, nl _ true ⟨⟨⟨(fun _ => hc.1), (fun h => by cases h), by dsimp only; omega⟩, by dsimp only; omega⟩, rfl, fun h => by cases h⟩⟩) (fun hz => T.hret ⟨rhoL [0, 1, 2, 3, 4, 5, 6, 7, 9, 10], foLp x o G len cap ⟨putB p i, true, n + 1, c', _⟩ true (fun a => x.z [a, 0 + Int.toNat (i : Int)]) (x.ln [0 + Int.toNat (i : Int)]) (x.cp [0 + Int.toNat (i : Int)]) 0, subStL [0, 1, 2, 3, 4, 5, 6, 7, 9, 10] rfl rfl rfl (Nat.le_of_ble_eq_true rfl) (by simp [foLp, foK, foM, foH, spM, SubFr, slotAt, ren, below, rhoL]) ⟨⟨_, rfl, x.ok⟩, ⟨_, rfl, ops_ok rfl (Nat.succ_pos _)⟩, ⟨_, rfl, box_ok rfl (by simp [foLp, foM, foH, spM])⟩, ⟨_, rfl, rw_sl rfl (by simp [foLp, foM, foH, spM])⟩, ⟨_, rfl, set_ok⟩, ⟨_, rfl, rw_sl rfl (by simp [foLp, foM, foH, spM])⟩, ⟨_, rfl, rw_F rfl rfl rfl rfl (by simp [foLp, foM, foH, spM])⟩, ⟨_, rfl, i64_ok⟩, ⟨_, rfl, in_ok⟩, trivial⟩, lp _ true ⟨⟨⟨(fun _ => hc.1), (fun h => by cases h), by dsimp only; omega⟩, Nat.le_refl _⟩, rfl, fun h => by cases h⟩ _ _ _ (hle _) (hm _ hi')⟩)))))))
    · exact T.hchk c1 (T.hchk c3 (T.hite (fun hz => T.hret ⟨rhoL [0, 1, 2, 3, 4, 5, 6, 7], ⟨[(43, .int .i64 0), (44, .int .i64 0)], foM x o G len cap ⟨putB p i, true, n, c, f⟩ false⟩, subStL [0, 1, 2, 3, 4, 5, 6, 7] rfl rfl rfl (Nat.le_of_ble_eq_true rfl) (by simp [foM, foH, spM, SubFr, slotAt, ren, below, rhoL]) ⟨⟨_, rfl, x.ok⟩, ⟨_, rfl, ops_ok rfl (Nat.succ_pos _)⟩, ⟨_, rfl, box_ok rfl (by simp [foLp, foM, foH, spM])⟩, ⟨_, rfl, rw_sl rfl (by simp [foLp, foM, foH, spM])⟩, ⟨_, rfl, set_ok⟩, ⟨_, rfl, rw_sl rfl (by simp [foLp, foM, foH, spM])⟩, ⟨_, rfl, rw_F rfl rfl rfl rfl (by simp [foLp, foM, foH, spM])⟩, ⟨_, rfl, i64_same⟩, trivial⟩, nl _ false ⟨⟨⟨(fun _ => hn), (fun h => by cases h), by dsimp only; omega⟩, by dsimp only; omega⟩, rfl, fun _ => ⟨rfl, rfl, rfl⟩⟩⟩) (fun hz => T.hret ⟨rhoL [0, 1, 2, 3, 4, 5, 6, 7, 8], foLp x o G len cap ⟨putB p i, true, n, c, f⟩ false (fun a => x.z [a, 0 + Int.toNat (i : Int)]) (x.ln [0 + Int.toNat (i : Int)]) (x.cp [0 + Int.toNat (i : Int)]) 0, subStL [0, 1, 2, 3, 4, 5, 6, 7, 8] rfl rfl rfl (Nat.le_of_ble_eq_true rfl) (by simp [foLp, foK, foM, foH, spM, SubFr, slotAt, ren, below, rhoL]) ⟨⟨_, rfl, x.ok⟩, ⟨_, rfl, ops_ok rfl (Nat.succ_pos _)⟩, ⟨_, rfl, box_ok rfl (by simp [foLp, foM, foH, spM])⟩, ⟨_, rfl, rw_sl rfl (by simp [foLp, foM, foH, spM])⟩, ⟨_, rfl, set_ok⟩, ⟨_, rfl, rw_sl rfl (by simp [foLp, foM, foH, spM])⟩, ⟨_, rfl, rw_F rfl rfl rfl rfl (by simp [foLp, foM, foH, spM])⟩, ⟨_, rfl, i64_same⟩, ⟨_, rfl, in_ok⟩, trivial⟩, lp _ false ⟨⟨⟨(fun _ => hn), (fun h => by cases h), by dsimp only; omega⟩, Nat.le_refl _⟩, rfl, fun _ => ⟨rfl, rfl, rfl⟩⟩ _ _ _ (hle _) (hm _ hi')⟩)))
  · refine awpl_app (l2 := B0) (awpl_end (E := (foE x o G len cap k 8)) hE hl0 (weak_keep [] (T.cut_eq (em i) ?_)))
    exact T.hiteP (fun h => T.hret (back _)) (fun h => absurd (Int.negSucc_lt_zero i) h)



set_option maxRecDepth 100000
set_option maxHeartbeats 4000000
set_option linter.unusedVariables false
set_option linter.unusedSimpArgs false

theorem BooRow.ok {B : Blk} {len n : Nat} {ρ : Nat → Nat} (h : BooRow B len) : BlkOK n ρ B (booB true len (booA B)) := by
  obtain ⟨h5, h1, h2, h3, h6, h4⟩ := h
  subst h6
  refine ⟨fun _ => h5, (by rw [h1]; trivial), (by rw [h2]; rfl), rfl, fun j hj => ?_, (by rw [h3]; trivial), trivial⟩
  rw [h4 j hj]
  simp [LAlike, ren, below, AV.scalar, booB, Blk.rows]

theorem out7 {l : List Nat} {n : Nat} (x : Nat) (hx : x < 7) : Ox.out ([0, 1, 2, 3, 4, 5, 6] ++ l) n x = x := by
  have : x = 0 ∨ x = 1 ∨ x = 2 ∨ x = 3 ∨ x = 4 ∨ x = 5 ∨ x = 6 := by omega
  rcases this with rfl | rfl | rfl | rfl | rfl | rfl | rfl <;> rfl

theorem foS_ok (x : FD) (o : OC) (G : Int) (len cap : Nat) (hk0 : spOK x len cap) : ∀ k, SummOK Try.prog 49 (.eff (foS x o G len cap k))
  | 0 => by
    refine ⟨fun args w => Try.call49 args w, ?_⟩
    intro args m Q hq
    unfold foS at hq
    split at hq
    · obtain ⟨LB, hLB, hq⟩ := T.holds_opt hq
      obtain ⟨S, hS, hq⟩ := T.holds_opt hq
      obtain ⟨_, _, hq⟩ := hq
      split at hq
      · obtain ⟨_, h, _⟩ := hq
        exact absurd (of_decide_eq_true h) (Nat.not_lt_zero _)
      · obtain ⟨B, hB, hq⟩ := T.holds_opt hq
        obtain ⟨_, h, _⟩ := hq
        exact absurd (of_decide_eq_true h).1 (Nat.not_lt_zero _)
      · exact hq.elim
    · exact hq.elim
  | k + 1 => by
    have ih := foS_ok x o G len cap hk0 k
    have hE : ∀ n0, EnvOK Try.prog (foE x o G len cap k n0).fns := fun n0 => EnvOK.open_ (EnvOK.cons ih EnvOK.nil)
    refine ⟨fun args w => Try.call49 args w, ?_⟩
    intro args m Q hq
    unfold foS at hq
    split at hq
    · rename_i i
      obtain ⟨LB, hLB, hq⟩ := T.holds_opt hq
      obtain ⟨S, hS, hq⟩ := T.holds_opt hq
      obtain ⟨⟨⟨m0, m1⟩, m2, m5, m6⟩, hB, hq⟩ := hq
      split at hq
      · obtain ⟨rfl, h, hq⟩ := hq
        have h := of_decide_eq_true h
        refine lift_ok (fo_effA x o G len cap k hk0 (hE 7) (booA S) (cntF_le _ _) h i) [0, 1, 2, 3, 4, 5, 6] rfl (by simp [AM.get_lt m0, AM.get_lt m1, AM.get_lt m2, AM.get_lt hLB, AM.get_lt hS, AM.get_lt m5, AM.get_lt m6]) (Sub.of ⟨⟨_, m0, x.ok⟩, ⟨_, m1, ops_ok rfl (Nat.succ_pos _)⟩, ⟨_, m2, box_ok rfl (by simp [foM, foH, spM])⟩, ⟨_, hLB, rw_nil⟩, ⟨_, hS, hB.ok⟩, ⟨_, m5, rw_sl rfl (by simp [foM, foH, spM])⟩, ⟨_, m6, rw_F rfl rfl rfl rfl (by simp [foM, foH, spM])⟩, trivial⟩ (fun a b ha hb hab => ?_) (fun a ha => absurd ha (Nat.not_lt_zero _)) (Nat.zero_le _)) (by simp [belowL, below, foM, foH, spM]) (by simp [renL, ren, Ox.out]) Q hq
        simp [foM, foH, spM] at ha hb
        have e1 := out7 (l := []) (n := m.length) a ha
        have e2 := out7 (l := []) (n := m.length) b hb
        simp only [List.append_nil] at e1 e2
        rw [e1, e2]
        exact hab
      · rename_i b n c _
        obtain ⟨B, hBB, hq⟩ := T.holds_opt hq
        obtain ⟨⟨rfl, hI, hb7⟩, h, hq⟩ := hq
        have h := of_decide_eq_true h
        refine lift_ok (fo_effB x o G len cap k hk0 (hE 8) (booA S) n c (intAt B) h.2.1 h.2.2 h.1 i) [0, 1, 2, 3, 4, 5, 6, b] rfl (by simp [AM.get_lt m0, AM.get_lt m1, AM.get_lt m2, AM.get_lt hLB, AM.get_lt hS, AM.get_lt m5, AM.get_lt m6, AM.get_lt hBB]) (Sub.of ⟨⟨_, m0, x.ok⟩, ⟨_, m1, ops_ok rfl (Nat.succ_pos _)⟩, ⟨_, m2, box_ok rfl (by simp [foM, foH, spM])⟩, ⟨_, hLB, rw_sl rfl (by simp [foM, foH, spM])⟩, ⟨_, hS, hB.ok⟩, ⟨_, m5, rw_sl rfl (by simp [foM, foH, spM])⟩, ⟨_, m6, rw_F rfl rfl rfl rfl (by simp [foM, foH, spM])⟩, ⟨_, hBB, hI.ok⟩, trivial⟩ (fun a a' ha ha' hab => ?_) (fun a ha => absurd ha (Nat.not_lt_zero _)) (Nat.zero_le _)) (by simp [belowL, below, foM, foH, spM]) (by simp [renL, ren, Ox.out]) Q hq
        simp [foM, foH, spM] at ha ha'
        have e7 : Ox.out [0, 1, 2, 3, 4, 5, 6, b] m.length 7 = b := rfl
        have e1 := fun h => out7 (l := [b]) (n := m.length) a h
        have e2 := fun h => out7 (l := [b]) (n := m.length) a' h
        simp only [List.cons_append, List.nil_append] at e1 e2
        by_cases g1 : a < 7 <;> by_cases g2 : a' < 7
        · rw [e1 g1, e2 g2]; exact hab
        · have : a' = 7 := by omega
          subst this
          rw [e1 g1, e7]; omega
        · have : a = 7 := by omega
          subst this
          rw [e2 g2, e7]; omega
        · omega
      · exact hq.elim
    · exact hq.elim

noncomputable def roB (x : FD) (o : OC) (G : Int) (len cap : Nat) : List (Nat × Summ) := [(49, .eff (foS x o G len cap (len + 1))), (50, .eff stS)]

noncomputable def roE (x : FD) (o : OC) (G : Int) (len cap : Nat) : Env := { nt := Try.f48.ntmps, n0 := 2, vec := true, fns := openAll (roB x o G len cap), loop := fun _ _ => .fail }

theorem roE_ok (x : FD) (o : OC) (G : Int) (len cap : Nat) (hk0 : spOK x len cap) : EnvOK Try.prog (roE x o G len cap).fns := EnvOK.open_ (EnvOK.cons (foS_ok x o G len cap hk0 (len + 1)) (EnvOK.cons stS_ok EnvOK.nil))

theorem ro_a (x : FD) (o : OC) (G : Int) (len cap : Nat) (op : Int) : T.cut (keepT [1, 5, 7] (acodeL Try.prog (roE x o G len cap) ((chainOf (codeOf Try.f48)).take 5) ⟨[(0, spA G len cap), (1, .int .i64 op)], spM x o cap⟩)) [] = 
  T.chk (makeOk (1 : Nat) (↑len : Int) (↑len : Int))
    (T.ret
      (Ex.norm,
        St.mk [((1 : Nat), AV.int IntKind.i64 op), ((5 : Nat), AV.ptr (3 : Nat) (0 : Nat) (0 : Nat) (0 : Nat)), ((7 : Nat), AV.ptr (6 : Nat) (0 : Nat) (0 : Nat) (0 : Nat))]
          [some (Blk.mk false [] (0 : Nat) (0 : Nat) (fun x => []) [] (some fun js => Mem.mk (FD.nl x js) (FD.ad x js) (FD.ln x js) (FD.cp x js) (1 : Nat) fun q => [AV.int IntKind.i64 (FD.z x (q :: js))])),
            some (Blk.mk false [] (8 : Nat) cap (fun r => [AV.int IntKind.i64 (OC.kd o r), AV.part (0 : Nat) [r], AV.int IntKind.i64 (OC.fo o r), AV.int IntKind.i64 (OC.fa o r), AV.int IntKind.i64 (OC.fb o r), AV.int IntKind.i64 (OC.pa o r), AV.int IntKind.i64 (OC.ra o r), AV.int IntKind.i64 (OC.co o r)]) [] none),
            some (Blk.mk true [AV.int IntKind.i64 G, AV.sl (1 : Nat) (0 : Nat) (8 : Nat) (0 : Nat) len cap] (0 : Nat) (0 : Nat) (fun x => []) [] none), some (Blk.mk true [AV.nils] (0 : Nat) (0 : Nat) (fun x => []) [] none), some (Blk.mk true [] (1 : Nat) (Int.toNat (↑len : Int)) (fun x => [AV.ff]) [] none),
            some (Blk.mk true [AV.sl (4 : Nat) (0 : Nat) (1 : Nat) (0 : Nat) (Int.toNat (↑len : Int)) (Int.toNat (↑len : Int))] (0 : Nat) (0 : Nat) (fun a => []) [] none),
            some (Blk.mk true [AV.fn (Fn.func (49 : Nat)) [] [AV.ptr (2 : Nat) (0 : Nat) (0 : Nat) (0 : Nat), AV.ptr (5 : Nat) (0 : Nat) (0 : Nat) (0 : Nat), AV.ptr (3 : Nat) (0 : Nat) (0 : Nat) (0 : Nat), AV.ptr (6 : Nat) (0 : Nat) (0 : Nat) (0 : Nat)]] (0 : Nat) (0 : Nat) (fun a => []) [] none)])) := by
  kernel_rfl

theorem ro_b (x : FD) (o : OC) (G : Int) (len cap : Nat) (op : Int) : T.cut (keepT [4] (acodeL Try.prog (roE x o G len cap) ((chainOf (codeOf Try.f48)).drop 5) ⟨[(1, .int .i64 op), (5, .ptr 3 0 0 0), (7, .ptr 6 0 0 0)], foM x o G len cap ⟨fun _ => false, false, 0, 0, fun _ => 0⟩ false⟩)) [2, 0] = 
  T.need
    (spIn x o cap
        [some (Blk.mk false [] (0 : Nat) (0 : Nat) (fun x => []) [] (some fun js => Mem.mk (FD.nl x js) (FD.ad x js) (FD.ln x js) (FD.cp x js) (1 : Nat) fun q => [AV.int IntKind.i64 (FD.z x (q :: js))])),
          some (Blk.mk false [] (8 : Nat) cap (fun r => [AV.int IntKind.i64 (OC.kd o r), AV.part (0 : Nat) [r], AV.int IntKind.i64 (OC.fo o r), AV.int IntKind.i64 (OC.fa o r), AV.int IntKind.i64 (OC.fb o r), AV.int IntKind.i64 (OC.pa o r), AV.int IntKind.i64 (OC.ra o r), AV.int IntKind.i64 (OC.co o r)]) [] none),
          some (Blk.mk true [AV.int IntKind.i64 G, AV.sl (1 : Nat) (0 : Nat) (8 : Nat) (0 : Nat) len cap] (0 : Nat) (0 : Nat) (fun x => []) [] none), some (Blk.mk true [AV.nils] (0 : Nat) (0 : Nat) (fun x => []) [] none), some (Blk.mk true [] (1 : Nat) len (fun j => [AV.bool false]) [] none),
          some (Blk.mk true [AV.sl (4 : Nat) (0 : Nat) (1 : Nat) (0 : Nat) len len] (0 : Nat) (0 : Nat) (fun x => []) [] none),
          some (Blk.mk true [AV.fn (Fn.func (49 : FuncId)) [] [AV.ptr (2 : Nat) (0 : Nat) (0 : Nat) (0 : Nat), AV.ptr (5 : Nat) (0 : Nat) (0 : Nat) (0 : Nat), AV.ptr (3 : Nat) (0 : Nat) (0 : Nat) (0 : Nat), AV.ptr (6 : Nat) (0 : Nat) (0 : Nat) (0 : Nat)]] (0 : Nat) (0 : Nat) (fun x => []) [] none)] ∧
      some (Blk.mk true [AV.int IntKind.i64 G, AV.sl (1 : Nat) (0 : Nat) (8 : Nat) (0 : Nat) len cap] (0 : Nat) (0 : Nat) (fun x => []) [] none) = some (Blk.mk true [AV.int IntKind.i64 G, AV.sl (1 : Nat) (0 : Nat) (8 : Nat) (0 : Nat) len cap] (0 : Nat) (0 : Nat) (fun x => []) [] none) ∧
        some (Blk.mk true [AV.sl (4 : Nat) (0 : Nat) (1 : Nat) (0 : Nat) len len] (0 : Nat) (0 : Nat) (fun x => []) [] none) = some (Blk.mk true [AV.sl (4 : Nat) (0 : Nat) (1 : Nat) (0 : Nat) len len] (0 : Nat) (0 : Nat) (fun x => []) [] none) ∧
          some (Blk.mk true [AV.fn (Fn.func (49 : FuncId)) [] [AV.ptr (2 : Nat) (0 : Nat) (0 : Nat) (0 : Nat), AV.ptr (5 : Nat) (0 : Nat) (0 : Nat) (0 : Nat), AV.ptr (3 : Nat) (0 : Nat) (0 : Nat) (0 : Nat), AV.ptr (6 : Nat) (0 : Nat) (0 : Nat) (0 : Nat)]] (0 : Nat) (0 : Nat) (fun x => []) [] none) =
            some (Blk.mk true [AV.fn (Fn.func (49 : FuncId)) [] [AV.ptr (2 : Nat) (0 : Nat) (0 : Nat) (0 : Nat), AV.ptr (5 : Nat) (0 : Nat) (0 : Nat) (0 : Nat), AV.ptr (3 : Nat) (0 : Nat) (0 : Nat) (0 : Nat), AV.ptr (6 : Nat) (0 : Nat) (0 : Nat) (0 : Nat)]] (0 : Nat) (0 : Nat) (fun x => []) [] none))
    (T.need (BooRow (Blk.mk true [] (1 : Nat) len (fun j => [AV.bool false]) [] none) len)
      (T.need (Blk.mk true [AV.nils] (0 : Nat) (0 : Nat) (fun x => []) [] none = Blk.mk true [AV.nils] (0 : Nat) (0 : Nat) (fun x => []) [] none)
        (T.chk (decide (cntF (booA (booB true len fun x => false)) len < len + (1 : Nat)))
          (T.alf fun c =>
            T.asm (decide (cntF (truB c) len ≤ cntF (booA (booB true len fun x => false)) len))
              (T.all fun c_1 =>
                T.ite (decide (c_1 = (0 : Nat)))
                  (T.ret
                    (Ex.ret,
                      St.mk [((4 : Nat), AV.nils)]
                        [some (Blk.mk false [] (0 : Nat) (0 : Nat) (fun x => []) [] (some fun js => Mem.mk (FD.nl x js) (FD.ad x js) (FD.ln x js) (FD.cp x js) (1 : Nat) fun q => [AV.int IntKind.i64 (FD.z x (q :: js))])),
                          some (Blk.mk false [] (8 : Nat) cap (fun r => [AV.int IntKind.i64 (OC.kd o r), AV.part (0 : Nat) [r], AV.int IntKind.i64 (OC.fo o r), AV.int IntKind.i64 (OC.fa o r), AV.int IntKind.i64 (OC.fb o r), AV.int IntKind.i64 (OC.pa o r), AV.int IntKind.i64 (OC.ra o r), AV.int IntKind.i64 (OC.co o r)]) [] none),
                          some (Blk.mk true [AV.int IntKind.i64 G, AV.sl (1 : Nat) (0 : Nat) (8 : Nat) (0 : Nat) len cap] (0 : Nat) (0 : Nat) (fun j => []) [] none), some (Blk.mk true [AV.nils] (0 : Nat) (0 : Nat) (fun j => []) [] none), some (Blk.mk true [] (1 : Nat) len (fun j => [AV.bool (truB c j)]) [] none),
                          some (Blk.mk true [AV.sl (4 : Nat) (0 : Nat) (1 : Nat) (0 : Nat) len len] (0 : Nat) (0 : Nat) (fun j => []) [] none),
                          some (Blk.mk true [AV.fn (Fn.func (49 : FuncId)) [] [AV.ptr (2 : Nat) (0 : Nat) (0 : Nat) (0 : Nat), AV.ptr (5 : Nat) (0 : Nat) (0 : Nat) (0 : Nat), AV.ptr (3 : Nat) (0 : Nat) (0 : Nat) (0 : Nat), AV.ptr (6 : Nat) (0 : Nat) (0 : Nat) (0 : Nat)]] (0 : Nat) (0 : Nat) (fun j => []) [] none)]))
                  (T.all fun c_2 =>
                    T.all fun c_3 =>
                      T.alf fun c_4 =>
                        T.asm (decide (c_2 ≤ c_3 ∧ c_2 + cntF (truB c) len ≤ len))
                          (T.need (IsI64 (Blk.mk true [] (1 : Nat) c_3 (fun j => [AV.int IntKind.i64 (c_4 j)]) [] none) c_3)
                            (T.chk (decide (c_2 ≤ c_3 ∧ c_2 ≤ (12 : Nat)))
                              (T.alf fun c_5 =>
                                T.ret
                                  (Ex.ret,
                                    St.mk [((4 : Nat), AV.sl (7 : Nat) (0 : Nat) (1 : Nat) (0 : Nat) c_2 c_3)]
                                      [some (Blk.mk false [] (0 : Nat) (0 : Nat) (fun x => []) [] (some fun js => Mem.mk (FD.nl x js) (FD.ad x js) (FD.ln x js) (FD.cp x js) (1 : Nat) fun q => [AV.int IntKind.i64 (FD.z x (q :: js))])),
                                        some (Blk.mk false [] (8 : Nat) cap (fun r => [AV.int IntKind.i64 (OC.kd o r), AV.part (0 : Nat) [r], AV.int IntKind.i64 (OC.fo o r), AV.int IntKind.i64 (OC.fa o r), AV.int IntKind.i64 (OC.fb o r), AV.int IntKind.i64 (OC.pa o r), AV.int IntKind.i64 (OC.ra o r), AV.int IntKind.i64 (OC.co o r)]) [] none),
                                        some (Blk.mk true [AV.int IntKind.i64 G, AV.sl (1 : Nat) (0 : Nat) (8 : Nat) (0 : Nat) len cap] (0 : Nat) (0 : Nat) (fun j => []) [] none), some (Blk.mk true [AV.sl (7 : Nat) (0 : Nat) (1 : Nat) (0 : Nat) c_2 c_3] (0 : Nat) (0 : Nat) (fun j => []) [] none), some (Blk.mk true [] (1 : Nat) len (fun j => [AV.bool (truB c j)]) [] none),
                                        some (Blk.mk true [AV.sl (4 : Nat) (0 : Nat) (1 : Nat) (0 : Nat) len len] (0 : Nat) (0 : Nat) (fun j => []) [] none),
                                        some (Blk.mk true [AV.fn (Fn.func (49 : FuncId)) [] [AV.ptr (2 : Nat) (0 : Nat) (0 : Nat) (0 : Nat), AV.ptr (5 : Nat) (0 : Nat) (0 : Nat) (0 : Nat), AV.ptr (3 : Nat) (0 : Nat) (0 : Nat) (0 : Nat), AV.ptr (6 : Nat) (0 : Nat) (0 : Nat) (0 : Nat)]] (0 : Nat) (0 : Nat) (fun j => []) [] none),
                                        some (Blk.mk true [] (1 : Nat) c_3 (fun j => [AV.int IntKind.i64 (c_5 j)]) [] none)])))))))))) := by
  kernel_rfl

theorem ro_res : Try.f48.results.toList = [.tmp 4] := by
  kernel_rfl



set_option maxRecDepth 100000
set_option maxHeartbeats 4000000
set_option linter.unusedVariables false
set_option linter.unusedSimpArgs false

def roT (x : FD) (o : OC) (len cap : Nat) : T (AV × AM) :=
  .all fun k => .ite (decide (k = 0)) (.ret (.nils, spM x o cap)) (.all fun n => .asm (decide (n ≤ len)) (.all fun c => .asm (decide (n ≤ c)) (.alf fun g => .ret (.sl 2 0 1 0 n c, spM x o cap ++ [some (i64B c g)]))))

theorem ro_eff (x : FD) (o : OC) (G : Int) (len cap : Nat) (hk0 : spOK x len cap) (h12 : len ≤ 12) (op : Int) :
    EffAt Try.prog 48 [spA G len cap, .int .i64 op] (spM x o cap) (roT x o len cap) := by
  refine fn_okA (E := roE x o G len cap) (c := codeOf Try.f48) Try.func48 rfl rfl rfl (Nat.le_of_ble_eq_true (by kernel_rfl)) fun Q hq => ?_
  have ea := ro_a x o G len cap op
  have eb := ro_b x o G len cap op
  have hE := roE_ok x o G len cap hk0
  have hl5 : ∀ x' ∈ (chainOf (codeOf Try.f48)).take 5, ∀ c' ∈ loopsIn x', LoopOK Try.prog (roE x o G len cap) c' := noLoopsL_ok (by kernel_rfl)
  have hl6 : ∀ x' ∈ (chainOf (codeOf Try.f48)).drop 5, ∀ c' ∈ loopsIn x', LoopOK Try.prog (roE x o G len cap) c' := noLoopsL_ok (by kernel_rfl)
  generalize hD : (chainOf (codeOf Try.f48)).drop 5 = D at eb hl6
  generalize hC : chainOf (codeOf Try.f48) = C at ea hl5 ⊢
  rw [hC] at hD
  have post : ∀ (fr : List (Nat × AV)) (v' : AV) (m' : AM), slotAt fr 4 = some v' → Leaf 2 Q (v', m') → FnPost Try.prog Try.f48 2 Q (.ret, ⟨fr, m'⟩) := fun fr v' m' hs hl => by
    unfold FnPost
    rw [ro_res]
    simp only [aresults, hs]
    exact hl
  refine awpl_cut (E := roE x o G len cap) hE 5 hl5 (weak_keep [1, 5, 7] (T.cut_eq ea (T.hchk (by simp [makeOk]; omega) (T.hret ⟨rhoL [0, 1, 2, 3, 4, 5, 6], ⟨[(1, .int .i64 op), (5, .ptr 3 0 0 0), (7, .ptr 6 0 0 0)], foM x o G len cap ⟨fun _ => false, false, 0, 0, fun _ => 0⟩ false⟩, subStL _ rfl rfl rfl (Nat.le_of_ble_eq_true rfl) (by simp [foM, foH, spM, SubFr, slotAt, ren, below, rhoL]) ⟨⟨_, rfl, x.ok⟩, ⟨_, rfl, ops_ok rfl (Nat.succ_pos _)⟩, ⟨_, rfl, box_ok rfl (by simp [foM, foH, spM])⟩, ⟨_, rfl, rw_nil⟩, ⟨_, rfl, ff_ok⟩, ⟨_, rfl, rw_sl rfl (by simp [foM, foH, spM])⟩, ⟨_, rfl, rw_F rfl rfl rfl rfl (by simp [foM, foH, spM])⟩, trivial⟩, ?_⟩))))
  rw [hD]
  have hc := cntF_le (fun _ => false) len
  refine awpl_end (E := roE x o G len cap) hE hl6 (weak_keep [4] (T.cut_eq eb ?_))
  rw [booA_B]
  refine T.hneed ⟨⟨rfl, rfl⟩, rfl, rfl, rfl⟩ (T.hneed ⟨rfl, rfl, rfl, rfl, rfl, fun j _ => rfl⟩ (T.hneed rfl (T.hchk (decide_eq_true (by omega)) (T.half fun q => T.hasmP fun hq' => T.hall fun k => T.hiteP (fun hk => T.hret ?_) (fun hk => ?_)))))
  · refine ⟨id, ⟨[(4, .nils)], spM x o cap⟩, SubSt.mk (by simp [SubFr, slotAt, ren, below]) (spM_sub x o cap (l := _ :: _ :: _ :: _ :: _ :: []) (Nat.le_refl _)), post _ .nils _ rfl ?_⟩
    exact ⟨id, .nils, _, (hq 0).1 (decide_eq_true rfl), by simp [Ox.Alike, conc, ren], by simp [below], by have := spM_sub x o cap (n := 2) (l := []) (Nat.le_refl _); rwa [List.append_nil] at this⟩
  · refine T.hall fun n => T.hall fun c => T.half fun f => T.hasmP fun hn => T.hneed IsI64.rows (T.hchk (decide_eq_true ⟨hn.1, by omega⟩) (T.half fun g => T.hret ?_))
    have q := (hq 1).2 (decide_eq_false (by decide)) n (decide_eq_true (by omega)) c (decide_eq_true hn.1) g
    refine ⟨rhoL [0, 1, 7], ⟨[(4, .sl 2 0 1 0 n c)], spM x o cap ++ [some (i64B c g)]⟩, subStL [0, 1, 7] rfl rfl rfl (Nat.le_of_ble_eq_true rfl) (by simp [spM, SubFr, slotAt, ren, below, rhoL]) ⟨⟨_, rfl, x.ok⟩, ⟨_, rfl, ops_ok rfl (Nat.succ_pos _)⟩, ⟨_, rfl, i64_same⟩, trivial⟩, post _ (.sl 2 0 1 0 n c) _ rfl ?_⟩
    exact ⟨id, .sl 2 0 1 0 n c, _, q, by simp [Ox.Alike, conc, ren], by simp [below, spM], Sub.of ⟨⟨_, rfl, x.ok⟩, ⟨_, rfl, ops_ok rfl (Nat.succ_pos _)⟩, ⟨_, rfl, i64_same⟩, trivial⟩ (fun _ _ _ _ h => h) (fun _ _ => rfl) (by simp [spM])⟩

def roS (x : FD) (o : OC) (G : Int) (len cap : Nat) : List AV → AM → T (AV × AM)
  | [.agg [.int .i64 G', .sl 1 0 8 0 len' cap'], .int .i64 op], m => .need (G' = G ∧ len' = len ∧ cap' = cap) (.need (spIn x o cap m) (lift [0, 1] m (spM x o cap) (roT x o len cap)))
  | _, _ => .fail

theorem roS_ok (x : FD) (o : OC) (G : Int) (len cap : Nat) (h : spOK x len cap) (h12 : len ≤ 12) : SummOK Try.prog 48 (.eff (roS x o G len cap)) := by
  refine ⟨fun args w => Try.call48 args w, ?_⟩
  intro args m Q hq
  unfold roS at hq
  split at hq
  · rename_i G' len' cap' op
    obtain ⟨⟨rfl, rfl, rfl⟩, ⟨m0, m1⟩, hq⟩ := hq
    have hsub : SubBlks 2 (Ox.out [0, 1] m.length) m 0 (spM x o cap') := ⟨⟨_, m0, x.ok⟩, ⟨_, m1, ops_ok rfl (Nat.succ_pos _)⟩, trivial⟩
    refine lift_ok (ro_eff x o G' len' cap' h h12 op) [0, 1] rfl (by simp [AM.get_lt m0, AM.get_lt m1]) (Sub.ro hsub (spIn_ro (l := []) (fun _ _ h => by cases h))) (by simp [belowL, below, spA, spM, AV.scalar]) (by simp [renL, ren, spA, Ox.out]) Q hq
  · exact hq.elim

end Go.Proofs.Ytnfngaapjodpcaa
