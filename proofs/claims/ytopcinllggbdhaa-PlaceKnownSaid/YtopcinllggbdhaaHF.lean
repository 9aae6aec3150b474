/-
  PlaceKnown: the law.
-/
import Derived.Test.YtopcinllggbdhaaHD0
import Derived.Test.YtopcinllggbdhaaHD1
import Derived.Test.YtopcinllggbdhaaHD2
namespace Go.Proofs.Ytopcinllggbdhaa
open Go.Ox
set_option maxRecDepth 100000
set_option linter.unusedVariables false
set_option linter.unusedSimpArgs false

theorem pkE_ok (k : Nat) : EnvOK Try.prog (pkE k).fns := EnvOK.cons (placeK_ok k) EnvOK.nil
theorem pkL_ok : EnvOK Try.prog pkL.fns := EnvOK.cons kn_ok EnvOK.nil

theorem pk_sub {ρ : Nat → Nat} {g : Nat → Int} {m : AM} (h : m.get (ρ 0) = some (Blk.rows true 1 12 fun j => [.int .i64 (g j)])) : Sub 0 ρ m (pkM g) :=
  Sub.of ⟨⟨_, h, BlkOK.rows' (fun h => h) fun j _ => LAlike.ints rfl⟩, trivial⟩ (fun i j hi hj h => by simp [pkM] at hi hj; omega) (fun i hi => by omega) (Nat.zero_le _)

def pkX9 (x : (Nat → Int) × Nat × Nat × Nat) : T (Ex × St) := .ret (.exit 4, pk6 (x.1, x.2.1, x.2.2.1))
def pkX6 (x : (Nat → Int) × Nat × Nat) : T (Ex × St) := .ret (.exit 2, pk3 (x.1, x.2.1))
def pkX3 (x : (Nat → Int) × Nat) : T (Ex × St) := .ret (.exit 0, pk0 x.1)

theorem pk_round0 {g : Nat → Int} {i k j : Nat} {Q : Ex × St → Prop} (hj : j < 12) (h1 : i < 12) (h2 : k < 12) (hk : (!okA (g i) (g k) (g j)) = true) (hk5 : ¬ (1 ≤ g k ∧ g k ≤ 8 ∧ 1 ≤ g j ∧ g j ≤ 16 ∧ 0 ≤ g i))
    (hgo : Round pkL pk9 pkI9 (fun x => 12 - x.2.2.2) pkX9 Q (g, i, k, j) (.norm, ⟨[(1, .sl 0 0 1 0 12 12), (2, .int .i64 i), (3, .int .i64 k), (4, .int .i64 (IntKind.wrap .i64 (j + 1)))], pkM g⟩)) :
    AWp Try.prog pkL (loopAt (loopAt (loopAt (codeOf Try.f5) 0) 0) 0) (pk9 (g, i, k, j)) (Round pkL pk9 pkI9 (fun x => 12 - x.2.2.2) pkX9 Q (g, i, k, j)) := by
  refine AWp.env (E' := pkE 0) rfl rfl (code_sound (pkE_ok 0) _ (noLoops (by kernel_rfl)) _ _ (round_keep [1, 2, 3, 4] ?_))
  have e1 : 0 + Int.toNat (i : Int) = i := by omega
  have e2 : 0 + Int.toNat (k : Int) = k := by omega
  have e3 : 0 + Int.toNat (j : Int) = j := by omega
  rw [pk9_tree0]
  simp only [e1, e2, e3]
  generalize Round pkL pk9 pkI9 (fun x => 12 - x.2.2.2) pkX9 Q (g, i, k, j) = R at *
  clear e1 e2 e3
  repeat' first | refine T.hchk ?_ ?_ | refine T.hite (fun _ => ?_) (fun _ => ?_)
  all_goals first | exact hgo | exact hk | (simp; omega) | (exfalso; simp at *; omega) | (exfalso; simp at *) | skip

theorem pk_round1 {g : Nat → Int} {i k j : Nat} {Q : Ex × St → Prop} (hj : j < 12) (h1 : i < 12) (h2 : k < 12) (hk : (okA (g i) (g k) (g j) && !decide (g i ≤ g k * g j)) = true) (hk5 : 1 ≤ g k ∧ g k ≤ 8 ∧ 1 ≤ g j ∧ g j ≤ 16 ∧ 0 ≤ g i) (hw : IntKind.wrap .i64 (g k * g j) = g k * g j) (hle : ¬ g i ≤ g k * g j)
    (hgo : Round pkL pk9 pkI9 (fun x => 12 - x.2.2.2) pkX9 Q (g, i, k, j) (.norm, ⟨[(1, .sl 0 0 1 0 12 12), (2, .int .i64 i), (3, .int .i64 k), (4, .int .i64 (IntKind.wrap .i64 (j + 1)))], pkM g⟩)) :
    AWp Try.prog pkL (loopAt (loopAt (loopAt (codeOf Try.f5) 0) 0) 0) (pk9 (g, i, k, j)) (Round pkL pk9 pkI9 (fun x => 12 - x.2.2.2) pkX9 Q (g, i, k, j)) := by
  refine AWp.env (E' := pkE 1) rfl rfl (code_sound (pkE_ok 1) _ (noLoops (by kernel_rfl)) _ _ (round_keep [1, 2, 3, 4] ?_))
  have e1 : 0 + Int.toNat (i : Int) = i := by omega
  have e2 : 0 + Int.toNat (k : Int) = k := by omega
  have e3 : 0 + Int.toNat (j : Int) = j := by omega
  rw [pk9_tree1]
  simp only [e1, e2, e3]
  generalize Round pkL pk9 pkI9 (fun x => 12 - x.2.2.2) pkX9 Q (g, i, k, j) = R at *
  rw [hw]; clear e1 e2 e3 hw
  repeat' first | refine T.hchk ?_ ?_ | refine T.hite (fun _ => ?_) (fun _ => ?_)
  all_goals first | exact hgo | exact hk | (simp; omega) | (exfalso; simp at *; omega) | (exfalso; simp at *) | skip

theorem pk_round2 {g : Nat → Int} {i k j : Nat} {Q : Ex × St → Prop} (hj : j < 12) (h1 : i < 12) (h2 : k < 12) (hk : (okA (g i) (g k) (g j) && decide (g i ≤ g k * g j)) = true) (hk5 : 1 ≤ g k ∧ g k ≤ 8 ∧ 1 ≤ g j ∧ g j ≤ 16 ∧ 0 ≤ g i) (hw : IntKind.wrap .i64 (g k * g j) = g k * g j) (hle : g i ≤ g k * g j)
    (hgo : ∀ m, AM.get m 0 = some (Blk.rows true 1 12 fun j => [.int .i64 (g j)]) → Round pkL pk9 pkI9 (fun x => 12 - x.2.2.2) pkX9 Q (g, i, k, j) (.norm, ⟨[(1, .sl 0 0 1 0 12 12), (2, .int .i64 i), (3, .int .i64 k), (4, .int .i64 (IntKind.wrap .i64 (j + 1)))], m⟩)) :
    AWp Try.prog pkL (loopAt (loopAt (loopAt (codeOf Try.f5) 0) 0) 0) (pk9 (g, i, k, j)) (Round pkL pk9 pkI9 (fun x => 12 - x.2.2.2) pkX9 Q (g, i, k, j)) := by
  refine AWp.env (E' := pkE 2) rfl rfl (code_sound (pkE_ok 2) _ (noLoops (by kernel_rfl)) _ _ (round_keep [1, 2, 3, 4] ?_))
  have e1 : 0 + Int.toNat (i : Int) = i := by omega
  have e2 : 0 + Int.toNat (k : Int) = k := by omega
  have e3 : 0 + Int.toNat (j : Int) = j := by omega
  rw [pk9_tree2]
  simp only [e1, e2, e3]
  generalize Round pkL pk9 pkI9 (fun x => 12 - x.2.2.2) pkX9 Q (g, i, k, j) = R at *
  rw [hw]; clear e1 e2 e3 hw
  repeat' first | refine T.hchk ?_ ?_ | refine T.hite (fun _ => ?_) (fun _ => ?_)
  all_goals first | exact hgo _ rfl | exact hk | (simp; omega) | (exfalso; simp at *; omega) | (exfalso; simp at *) | skip

theorem pk9_loop : LoopOK Try.prog pkL (loopAt (loopAt (loopAt (codeOf Try.f5) 0) 0) 0) := by
  refine loop_any pk9 pkI9 (fun x => 12 - x.2.2.2) pkP9 pkX9 ?_ (by kernel_rfl)
  rintro ⟨g, i, k, j⟩ ⟨h1, h2, h3⟩ Q hq
  dsimp only at h1 h2 h3
  have hend : ∀ m, AM.get m 0 = some (Blk.rows true 1 12 fun j => [.int .i64 (g j)]) → Round pkL pk9 pkI9 (fun x => 12 - x.2.2.2) pkX9 Q (g, i, k, j) (.exit 4, ⟨[(1, .sl 0 0 1 0 12 12), (2, .int .i64 i), (3, .int .i64 k), (4, .int .i64 j)], m⟩) := fun m hm =>
    Round.out id (pk6 (g, i, k)) (SubSt.mk (by simp [pk6, SubFr, slotAt, ren, below, pkM]) (pk_sub hm)) hq
  have hgo : j < 12 → ∀ m, AM.get m 0 = some (Blk.rows true 1 12 fun j => [.int .i64 (g j)]) → Round pkL pk9 pkI9 (fun x => 12 - x.2.2.2) pkX9 Q (g, i, k, j) (.norm, ⟨[(1, .sl 0 0 1 0 12 12), (2, .int .i64 i), (3, .int .i64 k), (4, .int .i64 (IntKind.wrap .i64 (j + 1)))], m⟩) := fun hj m hm => by
    have hw : IntKind.wrap IntKind.i64 ((j : Int) + 1) = ((j + 1 : Nat) : Int) := by rw [IntWalk.i64_in _ (by omega)]; omega
    exact Round.go (g, i, k, j + 1) id ⟨h1, h2, by dsimp only; omega⟩ (by dsimp only; omega) (SubSt.mk (by simp [pk9, SubFr, slotAt, ren, below, pkM, hw]) (pk_sub hm)) hq
  by_cases hj : j < 12
  · have e1 : 0 + Int.toNat (i : Int) = i := by omega
    have e2 : 0 + Int.toNat (k : Int) = k := by omega
    have e3 : 0 + Int.toNat (j : Int) = j := by omega
    have hgo := hgo hj
    have hmem : AM.get (pkM g) 0 = some (Blk.rows true 1 12 fun j => [.int .i64 (g j)]) := rfl
    have hleaf := hgo _ hmem
    clear hend hq
    by_cases hok : okA (g i) (g k) (g j) = true
    · have hk5 := okA_iff.1 hok
      have hb0 : 0 ≤ g k * g j := Int.mul_nonneg (by omega) (by omega)
      have hb1 : g k * g j ≤ 8 * 16 := Int.mul_le_mul (by omega) (by omega) (by omega) (by omega)
      have hw : IntKind.wrap .i64 (g k * g j) = g k * g j := IntWalk.i64_in _ (by omega)
      by_cases hle : g i ≤ g k * g j
      · have hk : (okA (g i) (g k) (g j) && decide (g i ≤ g k * g j)) = true := by simp [hok, hle]
        exact pk_round2 hj h1 h2 hk hk5 hw hle hgo
      · have hk : (okA (g i) (g k) (g j) && !decide (g i ≤ g k * g j)) = true := by simp [hok, hle]
        exact pk_round1 hj h1 h2 hk hk5 hw hle hleaf
    · have hk : (!okA (g i) (g k) (g j)) = true := by simp [hok]
      have hk5 : ¬ (1 ≤ g k ∧ g k ≤ 8 ∧ 1 ≤ g j ∧ g j ≤ 16 ∧ 0 ≤ g i) := fun h => hok (okA_iff.2 h)
      exact pk_round0 hj h1 h2 hk hk5 hleaf
  · refine AWp.env (E' := pkE 0) rfl rfl (code_sound (pkE_ok 0) _ (noLoops (by kernel_rfl)) _ _ (round_keep [1, 2, 3, 4] ?_))
    rw [pk9_tree0]
    exact T.hite (fun h => absurd h (by simp; omega)) (fun _ => hend _ rfl)

theorem pk6_loop : LoopOK Try.prog pkL (loopAt (loopAt (codeOf Try.f5) 0) 0) := by
  refine loopSumm_ok pkL_ok (oneLoop (by kernel_rfl) pk9_loop) pk6 pkI6 (fun x => 12 - x.2.2) pkP6 pkX6 ?_ (by kernel_rfl)
  rintro ⟨g, i, k⟩ ⟨h1, h2⟩ Q hq
  dsimp only at h1 h2
  refine round_keep [1, 2, 3] ?_
  rw [pk6_tree]
  simp only [Int.toNat_natCast]
  refine T.hite (fun h => ?_) (fun h => ?_)
  · have h : k < 12 := by rw [decide_eq_true_eq] at h; omega
    have hw : IntKind.wrap IntKind.i64 ((k : Int) + 1) = ((k + 1 : Nat) : Int) := by rw [IntWalk.i64_in _ (by omega)]; omega
    refine T.hneed ⟨id, SubSt.mk (by simp [pk9, SubFr, slotAt, ren, below, pkM]) (pk_sub rfl)⟩ (T.hneed ⟨h1, h, Nat.zero_le _⟩ ?_)
    exact Round.go (g, i, k + 1) id ⟨h1, by dsimp only; omega⟩ (by dsimp only; omega) (SubSt.mk (by simp [pk6, SubFr, slotAt, ren, below, pkM, hw]) (pk_sub rfl)) hq
  · exact Round.out id (pk3 (g, i)) (SubSt.mk (by simp [pk3, SubFr, slotAt, ren, below, pkM]) (pk_sub rfl)) hq

theorem pk3_loop : LoopOK Try.prog pkL (loopAt (codeOf Try.f5) 0) := by
  refine loopSumm_ok pkL_ok (oneLoop (by kernel_rfl) pk6_loop) pk3 pkI3 (fun x => 12 - x.2) pkP3 pkX3 ?_ (by kernel_rfl)
  rintro ⟨g, i⟩ h1 Q hq
  have h1 : i ≤ 12 := h1
  refine round_keep [1, 2] ?_
  rw [pk3_tree]
  simp only [Int.toNat_natCast]
  refine T.hite (fun h => ?_) (fun h => ?_)
  · have h : i < 12 := by rw [decide_eq_true_eq] at h; omega
    have hw : IntKind.wrap IntKind.i64 ((i : Int) + 1) = ((i + 1 : Nat) : Int) := by rw [IntWalk.i64_in _ (by omega)]; omega
    refine T.hneed ⟨id, SubSt.mk (by simp [pk6, SubFr, slotAt, ren, below, pkM]) (pk_sub rfl)⟩ (T.hneed ⟨h, Nat.zero_le _⟩ ?_)
    exact Round.go (g, i + 1) id (show i + 1 ≤ 12 by omega) (by dsimp only; omega) (SubSt.mk (by simp [pk3, SubFr, slotAt, ren, below, pkM, hw]) (pk_sub rfl)) hq
  · exact Round.out id (pk0 g) (SubSt.mk (by simp [pk0, SubFr, slotAt, ren, below, pkM]) (pk_sub rfl)) hq

theorem pk_law (w : World) : Calls Try.prog 5 #[] w fun e w' => e = .returned (.bool true) ∧ RowKit.Grown w w' := by
  refine law_walk (E := pkL) (c := codeOf Try.f5) Try.func5 rfl pkL_ok (oneLoop (by kernel_rfl) pk3_loop) rfl rfl [] rfl (by simp [concL]) ?_ w
  rw [pk_fn]
  exact T.hneed ⟨id, SubSt.mk (by simp [pk3, SubFr, slotAt, ren, below, pkM]) (pk_sub rfl)⟩ (T.hneed (Nat.zero_le _) rfl)

end Go.Proofs.Ytopcinllggbdhaa
