/-
  Layer 20: Targets: its contract.
-/
import Derived.Test.YtnfngaapjodpcaaHRA
namespace Go.Proofs.Ytnfngaapjodpcaa
open Go.Ox

set_option maxRecDepth 100000
set_option maxHeartbeats 4000000
set_option linter.unusedVariables false
set_option linter.unusedSimpArgs false

theorem ap2_vec {n : Nat} {ρ : Nat → Nat} {u H : Nat → Int} {a b : Int} {L c : Nat} {Z : Nat → List AV} (ha : a = u L) (hb : b = H L) (hZ : ∀ r, L + 1 ≤ r → Z r = [.int .i64 0, .int .i64 0]) :
    BlkOK n ρ (Blk.mk true [] 2 c (fun r => if r < L then [AV.int .i64 (if 0 + r < L then u (0 + r) else 0), AV.int .i64 (if 0 + r < L then H (0 + r) else 0)] else if r < L + 1 then List.map (fun c => Col.at c (0 + (r - L))) ([] ++ [Col.ints .i64 [a]] ++ [Col.ints .i64 [b]]) else Z r) [] none) (ap2 u H (L + 1) c) := by
  refine BlkOK.rows (fun h => h) fun r _ => ?_
  rcases Nat.lt_or_ge r L with h | h
  · rw [if_pos h, if_pos (by omega), if_pos (by omega), if_pos (by omega), if_pos (by omega), Nat.zero_add]
    exact aI (aI aE)
  · rw [if_neg (by omega)]
    rcases Nat.lt_or_ge r (L + 1) with h' | h'
    · have : r = L := by omega
      subst this
      rw [if_pos h', if_pos h', if_pos h']
      simp only [List.nil_append, List.map_cons, List.map_nil, List.cons_append, Col.at]
      exact aI (aI aE (by simpa using hb)) (by simpa using ha)
    · rw [if_neg (by omega), if_neg (by omega), if_neg (by omega), hZ r h']
      exact aI (aI aE)

theorem ap2_one {n : Nat} {ρ : Nat → Nat} {u H : Nat → Int} {a b : Int} {c : Nat} {Z : Nat → List AV} (ha : a = u 0) (hb : b = H 0) (hZ : ∀ r, 1 ≤ r → Z r = [.int .i64 0, .int .i64 0]) :
    BlkOK n ρ (Blk.mk true [] 2 c (fun r => if r < 0 then [] else if r < 1 then List.map (fun c => Col.at c (0 + (r - 0))) ([] ++ [Col.ints .i64 [a]] ++ [Col.ints .i64 [b]]) else Z r) [] none) (ap2 u H 1 c) := by
  refine BlkOK.rows (fun h => h) fun r _ => ?_
  rw [if_neg (Nat.not_lt_zero _)]
  rcases Nat.lt_or_ge r 1 with h' | h'
  · have : r = 0 := by omega
    subst this
    rw [if_pos h', if_pos h', if_pos h']
    simp only [List.nil_append, List.map_cons, List.map_nil, List.cons_append, Col.at]
    exact aI (aI aE (by simpa using hb)) (by simpa using ha)
  · rw [if_neg (by omega), if_neg (by omega), if_neg (by omega), hZ r h']
    exact aI (aI aE)

theorem ap2_same {n : Nat} {ρ : Nat → Nat} {u H : Nat → Int} {i c : Nat} : BlkOK n ρ (ap2 u H i c) (ap2 u H i c) := BlkOK.rows' (fun h => h) fun r _ => aI (aI aE)

def tgInv (un : Nat) (y : TX) : Prop := y.i ≤ un ∧ (y.hs = false → y.i = 0) ∧ (y.hs = true → 1 ≤ y.i ∧ y.i ≤ y.c)

def tgU (np : Nat) (u : Nat → Int) (un : Nat) : Prop := un ≤ 12 ∧ ∀ j, j < un → 0 ≤ u j ∧ u j < np

def tgM (x : FD) (o : OC) (cap : Nat) (pr : Nat → Int) (pc : Nat) : AM := spM x o cap ++ [some (inB pc pr)]

theorem tg_rd0 (x : FD) (o : OC) (G key : Int) (len cap : Nat) (hk0 : spOK x len cap) (pr : Nat → Int) (np pc : Nat) (hp : np ≤ pc) (u : Nat → Int) (un uc : Nat) (huc : un ≤ uc) (hu : tgU np u un) (i c : Nat) (hy : tgInv un ⟨i, false, c⟩) {Q : Ex × St → Prop} (HX : i = un → Q (.exit 0, tgSt x o G key len cap pr np pc u un uc ⟨i, false, c⟩)) :
    AWp Try.prog (tgE x o G len cap 3) tgC (tgSt x o G key len cap pr np pc u un uc ⟨i, false, c⟩) (Round (tgE x o G len cap 3) (tgSt x o G key len cap pr np pc u un uc) (tgInv un) (fun y => un - y.i) (fun _ => .asm false .fail) Q ⟨i, false, c⟩) := by
  obtain ⟨h1, h2, _⟩ := hy
  have h0 : i = 0 := h2 rfl
  refine code_sound (tgE_ok x o G len cap 3 hk0) _ (noLoops (by kernel_rfl)) _ _ (round_keep [1, 4, 9, 10, 19, 20, 21] (T.cut_eq (tg_t0 x o G key len cap pr np pc u un uc i c) ?_))
  refine T.hiteP (fun hi => ?_) (fun hi => T.hret ?_)
  · have ei : 0 + Int.toNat (i : Int) = i := by omega
    obtain ⟨u1, u2⟩ := hu.2 i (by omega)
    have hun := hu.1
    have hw : IntKind.wrap IntKind.i64 ((i : Int) + 1) = ((i + 1 : Nat) : Int) := by rw [IntWalk.i64_in _ (by omega)]; omega
    have eu : (if 0 + Int.toNat (i : Int) < un then u (0 + Int.toNat (i : Int)) else 0) = u i := by rw [if_pos (by omega), ei]
    have ep : 0 + Int.toNat (u i) = (u i).toNat := by omega
    rw [eu]
    have c2 : decide (0 + Int.toNat (u i) < pc) = true := decide_eq_true (by omega)
    refine T.hchk (by simp only [Bool.and_eq_true, decide_eq_true_eq]; omega) (T.hchk (decide_eq_true (by omega)) (T.hiteP (fun _ => ?_) (fun h => absurd u2 h)))
    refine T.hchk (by simp only [Bool.and_eq_true, decide_eq_true_eq]; omega) (T.hchk c2 (T.hneed rfl (T.hneed rfl (T.hchk c2 (T.hneed rfl (T.hchkT (T.hchkT (T.hchkT (T.hall fun c' => T.hasmP fun hc => T.hneed rfl (T.hchk c2 (T.hneed rfl (T.hret ?_))))))))))))
    subst h0
    have hw1 : IntKind.wrap IntKind.i64 1 = 1 := IntWalk.i64_in _ (by omega)
    refine Round.go ⟨1, true, c'⟩ (rhoL [0, 1, 2, 3, 4, 6]) ⟨by dsimp only; omega, (fun h => by cases h), fun _ => ⟨Nat.le_refl _, hc⟩⟩ (by dsimp only; omega) (subStL [0, 1, 2, 3, 4, 6] rfl rfl rfl (Nat.le_of_ble_eq_true rfl) (by simp [tgSt, spM, SubFr, slotAt, ren, below, rhoL, hw, hw1]) ⟨⟨_, rfl, x.ok⟩, ⟨_, rfl, ops_ok rfl (Nat.succ_pos _)⟩, ⟨_, rfl, in_ok⟩, ⟨_, rfl, box_ok rfl (by simp [tgSt, spM])⟩, ⟨_, rfl, ap_refl⟩, ⟨_, rfl, ap2_one rfl (by rw [ep]; rfl) (fun r _ => rfl)⟩, trivial⟩) any_ff
  · exact Round.any (.exit 0) (tgSt x o G key len cap pr np pc u un uc ⟨i, false, c⟩) (rhoL [0, 1, 2, 3, 4]) (subStL [0, 1, 2, 3, 4] rfl rfl rfl (Nat.le_of_ble_eq_true rfl) (by simp [tgSt, spM, SubFr, slotAt, ren, below, rhoL]) ⟨⟨_, rfl, x.ok⟩, ⟨_, rfl, ops_ok rfl (Nat.succ_pos _)⟩, ⟨_, rfl, in_ok⟩, ⟨_, rfl, box_ok rfl (by simp [tgSt, spM])⟩, ⟨_, rfl, ap_refl⟩, trivial⟩) (HX (by omega))

theorem tg_rd1 (x : FD) (o : OC) (G key : Int) (len cap : Nat) (hk0 : spOK x len cap) (pr : Nat → Int) (np pc : Nat) (hp : np ≤ pc) (u : Nat → Int) (un uc : Nat) (huc : un ≤ uc) (hu : tgU np u un) (i c : Nat) (hy : tgInv un ⟨i, true, c⟩) {Q : Ex × St → Prop} (HX : i = un → Q (.exit 0, tgSt x o G key len cap pr np pc u un uc ⟨i, true, c⟩)) :
    AWp Try.prog (tgE x o G len cap 3) tgC (tgSt x o G key len cap pr np pc u un uc ⟨i, true, c⟩) (Round (tgE x o G len cap 3) (tgSt x o G key len cap pr np pc u un uc) (tgInv un) (fun y => un - y.i) (fun _ => .asm false .fail) Q ⟨i, true, c⟩) := by
  obtain ⟨h1, _, h3⟩ := hy
  obtain ⟨h3, h4⟩ := h3 rfl
  dsimp only at h1 h3 h4
  have hun := hu.1
  refine code_sound (tgE_ok x o G len cap 3 hk0) _ (noLoops (by kernel_rfl)) _ _ (round_keep [1, 4, 9, 10, 19, 20, 21] (T.cut_eq (tg_t1 x o G key len cap pr np pc u un uc i c) ?_))
  refine T.hiteP (fun hi => ?_) (fun hi => T.hret ?_)
  · have ei : 0 + Int.toNat (i : Int) = i := by omega
    obtain ⟨u1, u2⟩ := hu.2 i (by omega)
    have hw : IntKind.wrap IntKind.i64 ((i : Int) + 1) = ((i + 1 : Nat) : Int) := by rw [IntWalk.i64_in _ (by omega)]; omega
    have eu : (if 0 + Int.toNat (i : Int) < un then u (0 + Int.toNat (i : Int)) else 0) = u i := by rw [if_pos (by omega), ei]
    have ep : 0 + Int.toNat (u i) = (u i).toNat := by omega
    rw [eu]
    have c2 : decide (0 + Int.toNat (u i) < pc) = true := decide_eq_true (by omega)
    refine T.hchk (by simp only [Bool.and_eq_true, decide_eq_true_eq]; omega) (T.hchk (decide_eq_true (by omega)) (T.hiteP (fun _ => ?_) (fun h => absurd u2 h)))
    refine T.hchk (by simp only [Bool.and_eq_true, decide_eq_true_eq]; omega) (T.hchk c2 (T.hneed rfl (T.hneed rfl (T.hchk c2 (T.hneed rfl (T.hchkT (T.hchk (decide_eq_true (by omega)) (T.hchk (decide_eq_true h4) (T.hchk (decide_eq_true (by omega)) (T.hall fun c' => T.hall fun d => T.hasmP fun hc => T.hneed rfl (T.hchk c2 (T.hneed rfl (T.hret ?_)))))))))))))
    refine Round.go ⟨i + 1, true, c'⟩ (rhoL [0, 1, 2, 3, 4, 7]) ⟨by dsimp only; omega, (fun h => by cases h), fun _ => ⟨by dsimp only; omega, hc.1⟩⟩ (by dsimp only; omega) (subStL [0, 1, 2, 3, 4, 7] rfl rfl rfl (Nat.le_of_ble_eq_true rfl) (by simp [tgSt, spM, SubFr, slotAt, ren, below, rhoL, hw]) ⟨⟨_, rfl, x.ok⟩, ⟨_, rfl, ops_ok rfl (Nat.succ_pos _)⟩, ⟨_, rfl, in_ok⟩, ⟨_, rfl, box_ok rfl (by simp [tgSt, spM])⟩, ⟨_, rfl, ap_refl⟩, ⟨_, rfl, ap2_vec rfl (by rw [ep]; rfl) (fun r hr => ?_)⟩, trivial⟩) any_ff
    split
    · rfl
    · rw [if_neg (by omega), if_neg (by omega)]
  · exact Round.any (.exit 0) (tgSt x o G key len cap pr np pc u un uc ⟨i, true, c⟩) (rhoL [0, 1, 2, 3, 4, 5]) (subStL [0, 1, 2, 3, 4, 5] rfl rfl rfl (Nat.le_of_ble_eq_true rfl) (by simp [tgSt, spM, SubFr, slotAt, ren, below, rhoL]) ⟨⟨_, rfl, x.ok⟩, ⟨_, rfl, ops_ok rfl (Nat.succ_pos _)⟩, ⟨_, rfl, in_ok⟩, ⟨_, rfl, box_ok rfl (by simp [tgSt, spM])⟩, ⟨_, rfl, ap_refl⟩, ⟨_, rfl, ap2_same⟩, trivial⟩) (HX (by omega))



set_option maxRecDepth 100000
set_option maxHeartbeats 4000000
set_option linter.unusedVariables false
set_option linter.unusedSimpArgs false

def tgT (x : FD) (o : OC) (G key : Int) (cap : Nat) (pr : Nat → Int) (pc : Nat) (u : Nat → Int) (un : Nat) : T (AV × AM) :=
  .ite (decide (un = 0)) (.ret (.nils, tgM x o cap pr pc)) (.all fun c => .asm (decide (un ≤ c)) (.ret (.sl 3 0 2 0 un c, tgM x o cap pr pc ++ [some (ap2 u (owAt G key pr u) un c)])))

theorem tg_lent (x : FD) (o : OC) (cap : Nat) (pr : Nat → Int) (pc : Nat) (l : AM) : Sub 3 id (tgM x o cap pr pc ++ l) (tgM x o cap pr pc) :=
  Sub.of ⟨⟨_, rfl, x.ok⟩, ⟨_, rfl, ops_ok rfl (Nat.succ_pos _)⟩, ⟨_, rfl, in_ok⟩, trivial⟩ (fun _ _ _ _ h => h) (fun _ _ => rfl) (by simp [tgM, spM])

theorem tg_eff (x : FD) (o : OC) (G key op : Int) (len cap : Nat) (hk0 : spOK x len cap) (pr : Nat → Int) (np pc : Nat) (hp : np ≤ pc) (hu : tgU np (usG x len op) (usL x len op).length) :
    EffAt Try.prog 12 [spA G len cap, .sl 2 0 1 0 np pc, .int .i64 op, .int .i64 key] (tgM x o cap pr pc) (tgT x o G key cap pr pc (usG x len op) (usL x len op).length) := by
  refine fn_okA (E := tgE x o G len cap 3) (c := codeOf Try.f12) Try.func12 rfl rfl rfl (Nat.le_of_ble_eq_true (by kernel_rfl)) fun Q hq => ?_
  have hE := tgE_ok x o G len cap 3 hk0
  have ea := tg_a x o G key op len cap pr np pc
  have z0 := tg_z0 x o G len cap
  have z1 := tg_z1 x o G len cap
  have k := tg_k
  have en := tg_n x o G len cap
  have hl4 : ∀ x' ∈ (chainOf (codeOf Try.f12)).take 4, ∀ c' ∈ loopsIn x', LoopOK Try.prog (tgE x o G len cap 3) c' := noLoopsL_ok (by kernel_rfl)
  have hl5 : ∀ x' ∈ (chainOf (codeOf Try.f12)).drop 5, ∀ c' ∈ loopsIn x', LoopOK Try.prog (tgE x o G len cap 3) c' := noLoopsL_ok (by kernel_rfl)
  generalize usG x len op = u at ea hq hu ⊢
  generalize (usL x len op).length = un at ea hq hu ⊢
  generalize (chainOf (codeOf Try.f12)).drop 5 = D at z0 z1 k hl5
  generalize chainOf (codeOf Try.f12) = C at ea k hl4 ⊢
  obtain ⟨q1, q2⟩ := hq
  have R0 : un = 0 → ∀ m l, m = tgM x o cap pr pc ++ l → AWpL Try.prog (tgE x o G len cap 3) D ⟨[(10, .nils)], m⟩ (FnPost Try.prog Try.f12 3 Q) := fun h0 m l hm => by
    subst hm
    refine awpl_end hE hl5 (weak_keep [8] (T.cut_eq (z0 _) (T.hret ⟨id, ⟨[(8, .nils)], tgM x o cap pr pc⟩, SubSt.mk (by simp [SubFr, slotAt, ren, below]) (tg_lent x o cap pr pc l), ?_⟩)))
    unfold FnPost
    rw [tg_res]
    exact ⟨id, .nils, _, q1 (decide_eq_true h0), by simp [oneOf, ren], by simp [below], by have := tg_lent x o cap pr pc []; rwa [List.append_nil] at this⟩
  have R1 : 1 ≤ un → ∀ c, un ≤ c → AWpL Try.prog (tgE x o G len cap 3) D ⟨[(10, .sl 3 0 2 0 un c)], tgM x o cap pr pc ++ [some (ap2 u (owAt G key pr u) un c)]⟩ (FnPost Try.prog Try.f12 3 Q) := fun h1 c hc => by
    have s : Sub 3 id (tgM x o cap pr pc ++ [some (ap2 u (owAt G key pr u) un c)]) (tgM x o cap pr pc ++ [some (ap2 u (owAt G key pr u) un c)]) := Sub.of ⟨⟨_, rfl, x.ok⟩, ⟨_, rfl, ops_ok rfl (Nat.succ_pos _)⟩, ⟨_, rfl, in_ok⟩, ⟨_, rfl, ap2_same⟩, trivial⟩ (fun _ _ _ _ h => h) (fun _ _ => rfl) (by simp [tgM, spM])
    refine awpl_end hE hl5 (weak_keep [8] (T.cut_eq (z1 3 un c _) (T.hret ⟨id, ⟨[(8, .sl 3 0 2 0 un c)], tgM x o cap pr pc ++ [some (ap2 u (owAt G key pr u) un c)]⟩, SubSt.mk (by simp [SubFr, slotAt, ren, below, tgM, spM]) s, ?_⟩)))
    unfold FnPost
    rw [tg_res]
    exact ⟨id, .sl 3 0 2 0 un c, _, q2 (decide_eq_false (by omega)) c (decide_eq_true hc), by simp [oneOf, ren], by simp [below, tgM, spM], s⟩
  refine awpl_cut hE 4 hl4 (weak_keep [1, 4, 9, 10, 19, 20, 21] (T.cut_eq ea (T.hneed ⟨rfl, rfl, rfl⟩ (T.hneed ⟨rfl, rfl⟩ (T.hiteP (fun h0 => T.hret ?_) (fun h0 => T.hall fun uc => T.hasmP fun huc => T.hret ?_))))))
  · refine ⟨id, ⟨[(10, .nils), (20, .int .i64 0), (21, .int .i64 0)], tgM x o cap pr pc⟩, SubSt.mk (by simp [SubFr, slotAt, ren, below]) (tg_lent x o cap pr pc [some (boxS G len cap)]), ?_⟩
    rw [k]
    refine awpl_block (awpl_one (loop_free (fun _ : Unit => ⟨[(10, .nils), (20, .int .i64 0), (21, .int .i64 0)], tgM x o cap pr pc⟩) (fun _ => True) (fun _ => 0) (fun t ht => ?_) () trivial))
    refine code_sound hE _ (noLoops (by kernel_rfl)) _ _ (round_keep [10] (T.cut_eq (en _) (T.hchkT (T.hret ?_))))
    refine Round.any (.exit 0) ⟨[(10, .nils)], tgM x o cap pr pc⟩ id (SubSt.mk (by simp [SubFr, slotAt, ren, below]) (by have := tg_lent x o cap pr pc []; rwa [List.append_nil] at this)) ?_
    show AWpL Try.prog (tgE x o G len cap 3) D ⟨[(10, .nils)], tgM x o cap pr pc⟩ _
    exact R0 h0 _ [] (List.append_nil _).symm
  · refine ⟨rhoL [0, 1, 2, 3, 4], tgSt x o G key len cap pr np pc u un uc ⟨0, false, 0⟩, subStL [0, 1, 2, 3, 4] rfl rfl rfl (Nat.le_of_ble_eq_true rfl) (by simp [tgSt, spM, SubFr, slotAt, ren, below, rhoL]) ⟨⟨_, rfl, x.ok⟩, ⟨_, rfl, ops_ok rfl (Nat.succ_pos _)⟩, ⟨_, rfl, in_ok⟩, ⟨_, rfl, box_ok rfl (by simp [tgSt, spM])⟩, ⟨_, rfl, ap_refl⟩, trivial⟩, ?_⟩
    rw [k]
    refine awpl_block (awpl_one (loop_free (tgSt x o G key len cap pr np pc u un uc) (tgInv un) (fun y => un - y.i) (fun y hy => ?_) ⟨0, false, 0⟩ ⟨Nat.zero_le _, fun _ => rfl, fun h => by cases h⟩))
    obtain ⟨i, hs, c⟩ := y
    have hy' := hy
    obtain ⟨i1, i2, i3⟩ := hy'
    dsimp only at i1 i2 i3
    cases hs
    · refine tg_rd0 x o G key len cap hk0 pr np pc hp u un uc huc hu i c hy fun hi => ?_
      exact absurd (i2 rfl) (by omega)
    · refine tg_rd1 x o G key len cap hk0 pr np pc hp u un uc huc hu i c hy fun hi => ?_
      subst hi
      show AWpL Try.prog (tgE x o G len cap 3) D (tgSt x o G key len cap pr np pc u i uc ⟨i, true, c⟩) _
      have s : SubSt 3 (rhoL [0, 1, 2, 5]) (tgSt x o G key len cap pr np pc u i uc ⟨i, true, c⟩) ⟨[(10, .sl 3 0 2 0 i c)], tgM x o cap pr pc ++ [some (ap2 u (owAt G key pr u) i c)]⟩ := subStL [0, 1, 2, 5] rfl rfl rfl (Nat.le_of_ble_eq_true rfl) (by simp [tgSt, tgM, spM, SubFr, slotAt, ren, below, rhoL]) ⟨⟨_, rfl, x.ok⟩, ⟨_, rfl, ops_ok rfl (Nat.succ_pos _)⟩, ⟨_, rfl, in_ok⟩, ⟨_, rfl, ap2_same⟩, trivial⟩
      exact AWpL.sub (E := tgE x o G len cap 3) s (R1 (by omega) c (i3 rfl).2)

def tgS (x : FD) (o : OC) (G : Int) (len cap : Nat) : List AV → AM → T (AV × AM)
  | [.agg [.int .i64 G', .sl 1 0 8 0 len' cap'], .sl b 0 1 0 np pc, .int .i64 op, .int .i64 key], m => T.opt (m.get b) fun B => .need (G' = G ∧ len' = len ∧ cap' = cap) (.need (spIn x o cap m) (.need (IntRow .i64 B ∧ B.n = pc ∧ np ≤ pc ∧ b ≠ 0 ∧ b ≠ 1) (.need (tgU np (usG x len op) (usL x len op).length) (lift [0, 1, b] m (tgM x o cap (intAt B) pc) (tgT x o G key cap (intAt B) pc (usG x len op) (usL x len op).length)))))
  | _, _ => .fail

theorem tgS_ok (x : FD) (o : OC) (G : Int) (len cap : Nat) (h : spOK x len cap) : SummOK Try.prog 12 (.eff (tgS x o G len cap)) := by
  refine ⟨fun args w => Try.call12 args w, ?_⟩
  intro args m Q hq
  unfold tgS at hq
  split at hq
  · rename_i G' len' cap' b np pc op key
    obtain ⟨B, hB, hq⟩ := T.holds_opt hq
    obtain ⟨⟨rfl, rfl, rfl⟩, ⟨m0, m1⟩, ⟨k1, rfl, k3, k4, k5⟩, hu, hq⟩ := hq
    have hsub : SubBlks 3 (Ox.out [0, 1, b] m.length) m 0 (tgM x o cap' (intAt B) B.n) := ⟨⟨_, m0, x.ok⟩, ⟨_, m1, ops_ok rfl (Nat.succ_pos _)⟩, ⟨_, hB, k1.view _ _⟩, trivial⟩
    refine lift_ok (tg_eff x o G' key op len' cap' h (intAt B) np B.n k3 hu) [0, 1, b] rfl (by simp [AM.get_lt m0, AM.get_lt m1, AM.get_lt hB]) (Sub.ro hsub (spIn_ro (by intro id b' hb'; match id, hb' with | 0, hb' => cases hb'; rfl))) (by simp [belowL, below, spA, tgM, spM, AV.scalar]) (by simp [renL, ren, spA, Ox.out]) Q hq
  · exact hq.elim

theorem us_rng (x : FD) (len : Nat) (op : Int) (h12 : len ≤ 12) : tgU len (usG x len op) (usL x len op).length := by
  refine ⟨Nat.le_trans (us_le x len op) h12, fun j hj => ?_⟩
  unfold usG
  rw [List.getD_eq_getElem?_getD, List.getElem?_eq_getElem hj]
  have hm : (usL x len op)[j] ∈ usL x len op := List.getElem_mem hj
  have : (usL x len op)[j] < len := by
    revert hm
    generalize (usL x len op)[j] = a
    unfold usL usTo
    split
    · intro hm
      exact List.mem_range.1 (List.mem_filter.1 hm).1
    · intro hm
      cases hm
  simp
  omega



set_option maxRecDepth 100000
set_option maxHeartbeats 4000000
set_option linter.unusedVariables false
set_option linter.unusedSimpArgs false

def rtP (G : Int) (len : Nat) (pr : Nat → Int) (np : Nat) : Prop := np = len ∧ ∀ j, j < np → 1 ≤ pr j ∧ pr j ≤ 8 ∧ pr j ≤ G

noncomputable instance (G : Int) (len : Nat) (pr : Nat → Int) (np : Nat) : Decidable (rtP G len pr np) := Classical.propDecidable _

noncomputable def rtT (x : FD) (o : OC) (G : Int) (len cap : Nat) (pr : Nat → Int) (np pc : Nat) : T (AV × AM) := .all fun r => .asm (decide (r ≠ 0 ∨ rtP G len pr np)) (.ret (.bool (decide (r = 0)), tgM x o cap pr pc))

theorem rt_eff (x : FD) (o : OC) (G : Int) (len cap : Nat) (pr : Nat → Int) (np pc : Nat) (hp : np ≤ pc) (hl : len ≤ 12) :
    EffAt Try.prog 23 [spA G len cap, .sl 2 0 1 0 np pc] (tgM x o cap pr pc) (rtT x o G len cap pr np pc) := by
  refine fn_okA (E := rtE 3) (c := codeOf Try.f23) Try.func23 rfl rfl rfl (Nat.le_of_ble_eq_true (by kernel_rfl)) fun Q hq => ?_
  have hE : EnvOK Try.prog (rtE 3).fns := EnvOK.nil
  have ea := rt_a x o G len cap pr np pc
  have et := rt_t x o G len cap pr np pc
  have ez := rt_z x o G len cap pr np pc
  have k := rt_k
  have hl4 : ∀ x' ∈ (chainOf (codeOf Try.f23)).take 4, ∀ c' ∈ loopsIn x', LoopOK Try.prog (rtE 3) c' := noLoopsL_ok (by kernel_rfl)
  have hl5 : ∀ x' ∈ (chainOf (codeOf Try.f23)).drop 5, ∀ c' ∈ loopsIn x', LoopOK Try.prog (rtE 3) c' := noLoopsL_ok (by kernel_rfl)
  have hlC : ∀ c' ∈ loopsIn rtC, LoopOK Try.prog (rtE 3) c' := noLoops (by kernel_rfl)
  generalize (chainOf (codeOf Try.f23)).drop 5 = D at ez k hl5
  generalize chainOf (codeOf Try.f23) = C at ea k hl4 ⊢
  generalize rtC = NC at et k hlC
  have R : ∀ b : Bool, (b = true → rtP G len pr np) → FnPost Try.prog Try.f23 3 Q (.ret, ⟨[(4, .bool b)], tgM x o cap pr pc⟩) := fun b hb => by
    unfold FnPost
    rw [rt_res]
    have q : Q (.bool b, tgM x o cap pr pc) := by
      cases b
      · exact hq 1 (decide_eq_true (.inl (by decide)))
      · exact hq 0 (decide_eq_true (.inr (hb rfl)))
    exact ⟨id, .bool b, _, q, by simp [oneOf, ren], by simp [below], by have := tg_lent x o cap pr pc []; rwa [List.append_nil] at this⟩
  have back : ∀ (v : AV) (b : Bool) {fr : List (Nat × AV)}, Ox.Alike v (.bool b) → slotAt fr 4 = some v → SubSt 3 id ⟨fr, tgM x o cap pr pc ++ [some (boxS G len cap)]⟩ ⟨[(4, .bool b)], tgM x o cap pr pc⟩ := fun v b fr hv hs => SubSt.mk (by simp [SubFr, hs, ren, below]; exact hv) (tg_lent x o cap pr pc _)
  have same : ∀ i {fr : List (Nat × AV)}, SubFr 4 id fr (rtSt x o G len cap pr np pc i).fr → SubSt 3 id ⟨fr, tgM x o cap pr pc ++ [some (boxS G len cap)]⟩ (rtSt x o G len cap pr np pc i) := fun i fr hf => SubSt.mk hf (Sub.of ⟨⟨_, rfl, x.ok⟩, ⟨_, rfl, ops_ok rfl (Nat.succ_pos _)⟩, ⟨_, rfl, in_ok⟩, ⟨_, rfl, box_ok rfl (by simp [rtSt, spM])⟩, trivial⟩ (fun _ _ _ _ h => h) (fun _ _ => rfl) (by simp [rtSt, spM]))
  refine awpl_cut (E := rtE 3) hE 4 hl4 (weak_keep [1, 2, 4, 5] (T.cut_eq ea (T.hite (fun hn => T.hret ⟨id, _, back .ff false (by simp) rfl, R false (fun h => by cases h)⟩) (fun hn => T.hret ⟨id, _, same 0 (by simp [rtSt, SubFr, slotAt, ren, below]), ?_⟩))))
  have hn : np = len := by have := (by simpa using hn : (np : Int) = len); omega
  rw [k]
  refine awpl_block (awpl_one (loop_free (rtSt x o G len cap pr np pc) (fun i => i ≤ np ∧ ∀ j, j < i → 1 ≤ pr j ∧ pr j ≤ 8 ∧ pr j ≤ G) (fun i => np - i) (fun i hi => ?_) 0 ⟨Nat.zero_le _, fun j hj => absurd hj (Nat.not_lt_zero _)⟩))
  obtain ⟨h1, h2⟩ := hi
  refine code_sound hE _ hlC _ _ (round_keep [1, 2, 4, 5] (T.cut_eq (et i) ?_))
  have bad : ∀ {Q2 : Ex × St → Prop}, Q2 (.ret, ⟨[(4, .bool false)], tgM x o cap pr pc⟩) → ∀ fr, slotAt fr 4 = some .ff → Round (rtE 3) (rtSt x o G len cap pr np pc) (fun i => i ≤ np ∧ ∀ j, j < i → 1 ≤ pr j ∧ pr j ≤ 8 ∧ pr j ≤ G) (fun i => np - i) (fun _ => .asm false .fail) Q2 i (.ret, ⟨fr, tgM x o cap pr pc ++ [some (boxS G len cap)]⟩) := fun hQ fr hs => Round.any .ret _ id (back .ff false (by simp) hs) hQ
  have bx := R false (fun h => by cases h)
  refine T.hiteP (fun hi => ?_) (fun hi => T.hret ?_)
  · have ei : 0 + Int.toNat (i : Int) = i := by omega
    have hw : IntKind.wrap IntKind.i64 ((i : Int) + 1) = ((i + 1 : Nat) : Int) := by rw [IntWalk.i64_in _ (by omega)]; omega
    have c1 : (decide ((0 : Int) ≤ (i : Int)) && decide ((i : Int) < (np : Int))) = true := by simp only [Bool.and_eq_true, decide_eq_true_eq]; omega
    have c2 : decide (0 + Int.toNat (i : Int) < pc) = true := decide_eq_true (by omega)
    rw [ei] at *
    refine T.hchk c1 (T.hchk c2 (T.hiteP (fun _ => T.hret (bad bx _ rfl)) (fun g1 => T.hchk c1 (T.hchk c2 (T.hiteP (fun _ => T.hret (bad bx _ rfl)) (fun g2 => T.hchk c1 (T.hchk c2 (T.hiteP (fun _ => T.hret (bad bx _ rfl)) (fun g3 => T.hret ?_)))))))))
    exact Round.go (i + 1) id ⟨by omega, fun j hj => by
      rcases Nat.lt_or_ge j i with h | h
      · exact h2 j h
      · have : j = i := by omega
        subst this
        exact ⟨by omega, by omega, by omega⟩⟩ (by omega) (same (i + 1) (by simp [rtSt, SubFr, slotAt, ren, below, hw])) any_ff
  · have hi : i = np := by omega
    refine Round.any (.exit 0) (rtSt x o G len cap pr np pc i) id (same i (by simp [rtSt, SubFr, slotAt, ren, below])) ?_
    show AWpL Try.prog (rtE 3) D (rtSt x o G len cap pr np pc i) _
    exact awpl_end (E := rtE 3) hE hl5 (weak_keep [4] (T.cut_eq (ez i) (T.hret ⟨id, _, back .tt true (by simp) rfl, R true fun _ => ⟨hn, fun j hj => h2 j (by omega)⟩⟩)))

noncomputable def rtS (x : FD) (o : OC) (G : Int) (len cap : Nat) : List AV → AM → T (AV × AM)
  | [.agg [.int .i64 G', .sl 1 0 8 0 len' cap'], .sl b 0 1 0 np pc], m => T.opt (m.get b) fun B => .need (G' = G ∧ len' = len ∧ cap' = cap) (.need (spIn x o cap m) (.need (IntRow .i64 B ∧ B.n = pc ∧ np ≤ pc) (.chk (decide (len ≤ 12)) (lift [0, 1, b] m (tgM x o cap (intAt B) pc) (rtT x o G len cap (intAt B) np pc)))))
  | _, _ => .fail

theorem rtS_ok (x : FD) (o : OC) (G : Int) (len cap : Nat) : SummOK Try.prog 23 (.eff (rtS x o G len cap)) := by
  refine ⟨fun args w => Try.call23 args w, ?_⟩
  intro args m Q hq
  unfold rtS at hq
  split at hq
  · rename_i G' len' cap' b np pc
    obtain ⟨B, hB, hq⟩ := T.holds_opt hq
    obtain ⟨⟨rfl, rfl, rfl⟩, ⟨m0, m1⟩, ⟨k1, rfl, k3⟩, hd, hq⟩ := hq
    have hsub : SubBlks 3 (Ox.out [0, 1, b] m.length) m 0 (tgM x o cap' (intAt B) B.n) := ⟨⟨_, m0, x.ok⟩, ⟨_, m1, ops_ok rfl (Nat.succ_pos _)⟩, ⟨_, hB, k1.view _ _⟩, trivial⟩
    refine lift_ok (rt_eff x o G' len' cap' (intAt B) np B.n k3 (of_decide_eq_true hd)) [0, 1, b] rfl (by simp [AM.get_lt m0, AM.get_lt m1, AM.get_lt hB]) (Sub.ro hsub (spIn_ro (by intro id b' hb'; match id, hb' with | 0, hb' => cases hb'; rfl))) (by simp [belowL, below, spA, tgM, spM, AV.scalar]) (by simp [renL, ren, spA, Ox.out]) Q hq
  · exact hq.elim

noncomputable def rgB (x : FD) (o : OC) (G : Int) (len cap : Nat) : List (Nat × Summ) := [(22, .eff (ckS x o G len cap)), (23, .eff (rtS x o G len cap))]

noncomputable def rgE (x : FD) (o : OC) (G : Int) (len cap : Nat) : Env := { nt := Try.f8.ntmps, n0 := 3, vec := true, fns := openAll (rgB x o G len cap), loop := fun _ _ => .fail }

theorem rgE_ok (x : FD) (o : OC) (G : Int) (len cap : Nat) (hw : x.wf .i64) (hl : len ≤ cap) : EnvOK Try.prog (rgE x o G len cap).fns := EnvOK.open_ (EnvOK.cons (ckS_ok x o G len cap hw hl) (EnvOK.cons (rtS_ok x o G len cap) EnvOK.nil))

theorem rg_fn (x : FD) (o : OC) (G op : Int) (len cap : Nat) (pr : Nat → Int) (np pc : Nat) : T.cut (afn Try.prog (rgE x o G len cap) Try.f8 (codeOf Try.f8) [spA G len cap, .sl 2 0 1 0 np pc, .int .i64 op] (tgM x o cap pr pc)) [2, 4, 2, 2, 2, 0] = 
  T.need (G = G ∧ len = len ∧ cap = cap)
    (T.need
      (spIn x o cap
        [some (Blk.mk false [] (0 : Nat) (0 : Nat) (fun x => []) [] (some fun js => Mem.mk (FD.nl x js) (FD.ad x js) (FD.ln x js) (FD.cp x js) (1 : Nat) fun q => [AV.int IntKind.i64 (FD.z x (q :: js))])),
          some (Blk.mk false [] (8 : Nat) cap (fun r => [AV.int IntKind.i64 (OC.kd o r), AV.part (0 : Nat) [r], AV.int IntKind.i64 (OC.fo o r), AV.int IntKind.i64 (OC.fa o r), AV.int IntKind.i64 (OC.fb o r), AV.int IntKind.i64 (OC.pa o r), AV.int IntKind.i64 (OC.ra o r), AV.int IntKind.i64 (OC.co o r)]) [] none), some (Blk.mk false [] (1 : Nat) pc (fun a => [AV.int IntKind.i64 (pr a)]) [] none),
          some (Blk.mk true [AV.int IntKind.i64 G, AV.sl (1 : Nat) (0 : Nat) (8 : Nat) (0 : Nat) len cap] (0 : Nat) (0 : Nat) (fun x => []) [] none)])
      (T.all fun c =>
        T.asm (decide (c ≠ (0 : Nat) ∨ ckP x o G len))
          (T.ite ((↑c : Int) == (0 : Int))
            (T.need (G = G ∧ len = len ∧ cap = cap)
              (T.need
                (spIn x o cap
                  [some (Blk.mk false [] (0 : Nat) (0 : Nat) (fun x => []) [] (some fun js => Mem.mk (FD.nl x js) (FD.ad x js) (FD.ln x js) (FD.cp x js) (1 : Nat) fun q => [AV.int IntKind.i64 (FD.z x (q :: js))])),
                    some (Blk.mk false [] (8 : Nat) cap (fun r => [AV.int IntKind.i64 (OC.kd o r), AV.part (0 : Nat) [r], AV.int IntKind.i64 (OC.fo o r), AV.int IntKind.i64 (OC.fa o r), AV.int IntKind.i64 (OC.fb o r), AV.int IntKind.i64 (OC.pa o r), AV.int IntKind.i64 (OC.ra o r), AV.int IntKind.i64 (OC.co o r)]) [] none),
                    some (Blk.mk false [] (1 : Nat) pc (fun a => [AV.int IntKind.i64 (pr a)]) [] none), some (Blk.mk true [AV.int IntKind.i64 G, AV.sl (1 : Nat) (0 : Nat) (8 : Nat) (0 : Nat) len cap] (0 : Nat) (0 : Nat) (fun x => []) [] none)])
                (T.need (IntRow IntKind.i64 (Blk.mk false [] (1 : Nat) pc (fun a => [AV.int IntKind.i64 (pr a)]) [] none) ∧ pc = pc ∧ np ≤ pc)
                  (T.chk (decide (len ≤ (12 : Nat)))
                    (T.all fun c =>
                      T.asm (decide (c ≠ (0 : Nat) ∨ rtP G len pr np))
                        (T.ite (decide (c = (0 : Nat)))
                          (T.ite (decide (op ≥ (0 : Int)))
                            (T.ret
                              (AV.bool (decide (op < (↑len : Int))),
                                [some (Blk.mk false [] (0 : Nat) (0 : Nat) (fun x => []) [] (some fun js => Mem.mk (FD.nl x js) (FD.ad x js) (FD.ln x js) (FD.cp x js) (1 : Nat) fun q => [AV.int IntKind.i64 (FD.z x (q :: js))])),
                                  some (Blk.mk false [] (8 : Nat) cap (fun r => [AV.int IntKind.i64 (OC.kd o r), AV.part (0 : Nat) [r], AV.int IntKind.i64 (OC.fo o r), AV.int IntKind.i64 (OC.fa o r), AV.int IntKind.i64 (OC.fb o r), AV.int IntKind.i64 (OC.pa o r), AV.int IntKind.i64 (OC.ra o r), AV.int IntKind.i64 (OC.co o r)]) [] none),
                                  some (Blk.mk false [] (1 : Nat) pc (fun a => [AV.int IntKind.i64 (pr a)]) [] none), some (Blk.mk true [AV.int IntKind.i64 G, AV.sl (1 : Nat) (0 : Nat) (8 : Nat) (0 : Nat) len cap] (0 : Nat) (0 : Nat) (fun x => []) [] none)]))
                            (T.ret
                              (AV.ff,
                                [some (Blk.mk false [] (0 : Nat) (0 : Nat) (fun x => []) [] (some fun js => Mem.mk (FD.nl x js) (FD.ad x js) (FD.ln x js) (FD.cp x js) (1 : Nat) fun q => [AV.int IntKind.i64 (FD.z x (q :: js))])),
                                  some (Blk.mk false [] (8 : Nat) cap (fun r => [AV.int IntKind.i64 (OC.kd o r), AV.part (0 : Nat) [r], AV.int IntKind.i64 (OC.fo o r), AV.int IntKind.i64 (OC.fa o r), AV.int IntKind.i64 (OC.fb o r), AV.int IntKind.i64 (OC.pa o r), AV.int IntKind.i64 (OC.ra o r), AV.int IntKind.i64 (OC.co o r)]) [] none),
                                  some (Blk.mk false [] (1 : Nat) pc (fun a => [AV.int IntKind.i64 (pr a)]) [] none), some (Blk.mk true [AV.int IntKind.i64 G, AV.sl (1 : Nat) (0 : Nat) (8 : Nat) (0 : Nat) len cap] (0 : Nat) (0 : Nat) (fun x => []) [] none)])))
                          (T.ret
                            (AV.ff,
                              [some (Blk.mk false [] (0 : Nat) (0 : Nat) (fun x => []) [] (some fun js => Mem.mk (FD.nl x js) (FD.ad x js) (FD.ln x js) (FD.cp x js) (1 : Nat) fun q => [AV.int IntKind.i64 (FD.z x (q :: js))])),
                                some (Blk.mk false [] (8 : Nat) cap (fun r => [AV.int IntKind.i64 (OC.kd o r), AV.part (0 : Nat) [r], AV.int IntKind.i64 (OC.fo o r), AV.int IntKind.i64 (OC.fa o r), AV.int IntKind.i64 (OC.fb o r), AV.int IntKind.i64 (OC.pa o r), AV.int IntKind.i64 (OC.ra o r), AV.int IntKind.i64 (OC.co o r)]) [] none),
                                some (Blk.mk false [] (1 : Nat) pc (fun a => [AV.int IntKind.i64 (pr a)]) [] none), some (Blk.mk true [AV.int IntKind.i64 G, AV.sl (1 : Nat) (0 : Nat) (8 : Nat) (0 : Nat) len cap] (0 : Nat) (0 : Nat) (fun x => []) [] none)]))))))))
            (T.ret
              (AV.ff,
                [some (Blk.mk false [] (0 : Nat) (0 : Nat) (fun x => []) [] (some fun js => Mem.mk (FD.nl x js) (FD.ad x js) (FD.ln x js) (FD.cp x js) (1 : Nat) fun q => [AV.int IntKind.i64 (FD.z x (q :: js))])),
                  some (Blk.mk false [] (8 : Nat) cap (fun r => [AV.int IntKind.i64 (OC.kd o r), AV.part (0 : Nat) [r], AV.int IntKind.i64 (OC.fo o r), AV.int IntKind.i64 (OC.fa o r), AV.int IntKind.i64 (OC.fb o r), AV.int IntKind.i64 (OC.pa o r), AV.int IntKind.i64 (OC.ra o r), AV.int IntKind.i64 (OC.co o r)]) [] none),
                  some (Blk.mk false [] (1 : Nat) pc (fun a => [AV.int IntKind.i64 (pr a)]) [] none), some (Blk.mk true [AV.int IntKind.i64 G, AV.sl (1 : Nat) (0 : Nat) (8 : Nat) (0 : Nat) len cap] (0 : Nat) (0 : Nat) (fun x => []) [] none)]))))) := by
  kernel_rfl



set_option maxRecDepth 100000
set_option maxHeartbeats 4000000
set_option linter.unusedVariables false
set_option linter.unusedSimpArgs false

def rgP (x : FD) (o : OC) (G op : Int) (len : Nat) (pr : Nat → Int) (np : Nat) : Prop := ckP x o G len ∧ rtP G len pr np ∧ 0 ≤ op ∧ op < len

noncomputable instance (x : FD) (o : OC) (G op : Int) (len : Nat) (pr : Nat → Int) (np : Nat) : Decidable (rgP x o G op len pr np) := Classical.propDecidable _

noncomputable def rgT (x : FD) (o : OC) (G op : Int) (len cap : Nat) (pr : Nat → Int) (np pc : Nat) : T (AV × AM) := .all fun r => .asm (decide (r ≠ 0 ∨ rgP x o G op len pr np)) (.ret (.bool (decide (r = 0)), tgM x o cap pr pc))

theorem rg_eff (x : FD) (o : OC) (G op : Int) (len cap : Nat) (hw : x.wf .i64) (hl : len ≤ cap) (pr : Nat → Int) (np pc : Nat) (hp : np ≤ pc) :
    EffAt Try.prog 8 [spA G len cap, .sl 2 0 1 0 np pc, .int .i64 op] (tgM x o cap pr pc) (rgT x o G op len cap pr np pc) := by
  refine fn_ok (E := rgE x o G len cap) (c := codeOf Try.f8) Try.func8 rfl (rgE_ok x o G len cap hw hl) (noLoops (by kernel_rfl)) rfl rfl fun Q hq => T.cut_eq (rg_fn x o G op len cap pr np pc) ?_
  have fin : ∀ (v : AV) (b : Bool) (l : AM), v.asB = some b → (b = true → rgP x o G op len pr np) → Leaf 3 Q (v, tgM x o cap pr pc ++ l) := fun v b l hv hb => by
    have q : Q (.bool b, tgM x o cap pr pc) := by
      cases b
      · exact hq 1 (decide_eq_true (.inl (by decide)))
      · exact hq 0 (decide_eq_true (.inr (hb rfl)))
    refine ⟨id, .bool b, _, q, ?_, by simp [below], tg_lent x o cap pr pc l⟩
    intro loc
    rw [asB_conc hv]
    rfl
  refine T.hneed ⟨rfl, rfl, rfl⟩ (T.hneed ⟨rfl, rfl⟩ (T.hall fun r => T.hasmP fun hr => T.hiteE (fun h0 => ?_) (fun _ => T.hret (fin .ff false _ rfl (fun h => by cases h)))))
  have hck : ckP x o G len := by
    rcases hr with hr | hr
    · exact absurd (by omega) hr
    · exact hr
  refine T.hneed ⟨rfl, rfl, rfl⟩ (T.hneed ⟨rfl, rfl⟩ (T.hneed ⟨IntRow.rows, rfl, hp⟩ (T.hchk (decide_eq_true hck.2.1.2) (T.hall fun s => T.hasmP fun hs => T.hiteP (fun h1 => T.hiteP (fun h2 => T.hret ?_) (fun _ => T.hret (fin .ff false _ rfl (fun h => by cases h)))) (fun _ => T.hret (fin .ff false _ rfl (fun h => by cases h)))))))
  refine fin (.bool (decide (op < (len : Int)))) (decide (op < (len : Int))) _ rfl fun h => ⟨hck, ?_, h2, of_decide_eq_true h⟩
  rcases hs with hs | hs
  · exact absurd h1 hs
  · exact hs

noncomputable def rgS (x : FD) (o : OC) (G : Int) (len cap : Nat) : List AV → AM → T (AV × AM)
  | [.agg [.int .i64 G', .sl 1 0 8 0 len' cap'], .sl b 0 1 0 np pc, .int .i64 op], m => T.opt (m.get b) fun B => .need (G' = G ∧ len' = len ∧ cap' = cap) (.need (spIn x o cap m) (.need (IntRow .i64 B ∧ B.n = pc ∧ np ≤ pc) (lift [0, 1, b] m (tgM x o cap (intAt B) pc) (rgT x o G op len cap (intAt B) np pc))))
  | _, _ => .fail

theorem rgS_ok (x : FD) (o : OC) (G : Int) (len cap : Nat) (hw : x.wf .i64) (hl : len ≤ cap) : SummOK Try.prog 8 (.eff (rgS x o G len cap)) := by
  refine ⟨fun args w => Try.call8 args w, ?_⟩
  intro args m Q hq
  unfold rgS at hq
  split at hq
  · rename_i G' len' cap' b np pc op
    obtain ⟨B, hB, hq⟩ := T.holds_opt hq
    obtain ⟨⟨rfl, rfl, rfl⟩, ⟨m0, m1⟩, ⟨k1, rfl, k3⟩, hq⟩ := hq
    have hsub : SubBlks 3 (Ox.out [0, 1, b] m.length) m 0 (tgM x o cap' (intAt B) B.n) := ⟨⟨_, m0, x.ok⟩, ⟨_, m1, ops_ok rfl (Nat.succ_pos _)⟩, ⟨_, hB, k1.view _ _⟩, trivial⟩
    refine lift_ok (rg_eff x o G' op len' cap' hw hl (intAt B) np B.n k3) [0, 1, b] rfl (by simp [AM.get_lt m0, AM.get_lt m1, AM.get_lt hB]) (Sub.ro hsub (spIn_ro (by intro id b' hb'; match id, hb' with | 0, hb' => cases hb'; rfl))) (by simp [belowL, below, spA, tgM, spM, AV.scalar]) (by simp [renL, ren, spA, Ox.out]) Q hq
  · exact hq.elim

end Go.Proofs.Ytnfngaapjodpcaa
