/-
  Layer 20: Order: its contract (any answer).
-/
import Derived.Test.YtnfngaapjodpcaaHM
namespace Go.Proofs.Ytnfngaapjodpcaa
open Go.Ox

set_option maxRecDepth 100000
set_option maxHeartbeats 4000000
set_option linter.unusedVariables false
set_option linter.unusedSimpArgs false

def isI (l : List AV) : Prop := ∃ v, l = [.int .i64 v]

def hdI : List AV → Int
  | .int _ v :: _ => v
  | _ => 0

theorem isI_ite {c : Prop} [Decidable c] {a b : List AV} (h1 : c → isI a) (h2 : ¬ c → isI b) : isI (if c then a else b) := by
  by_cases h : c
  · rw [if_pos h]; exact h1 h
  · rw [if_neg h]; exact h2 h

theorem i64_ok {n c : Nat} {ρ : Nat → Nat} {F : Nat → List AV} (h : ∀ j, isI (F j) := by (intro r; repeat' first | exact ⟨_, rfl⟩ | refine isI_ite (fun h => absurd h (Nat.not_lt_zero _)) (fun _ => ?_) | refine isI_ite (fun _ => ?_) (fun _ => ?_))) : BlkOK n ρ (Blk.mk true [] 1 c F [] none) (i64B c (fun j => hdI (F j))) :=
  BlkOK.rows (fun h => h) fun j _ => by
    obtain ⟨v, hv⟩ := h j
    show LAlike n ρ (F j) [.int .i64 (hdI (F j))]
    rw [hv]; exact LAlike.ints rfl

theorem i64_same {n c : Nat} {ρ : Nat → Nat} {f : Nat → Int} : BlkOK n ρ (i64B c f) (i64B c f) := BlkOK.rows' (fun h => h) fun j _ => LAlike.ints rfl

theorem box_ok {n : Nat} {ρ : Nat → Nat} {G : Int} {len cap : Nat} {F : Nat → List AV} (h1 : ρ 1 = 1) (h2 : 1 < n) : BlkOK n ρ (Blk.mk true [.int .i64 G, .sl 1 0 8 0 len cap] 0 0 F [] none) (boxS G len cap) :=
  ⟨fun h => h, by simp [boxS, LAlike, ren, below, AV.scalar, h1, h2], rfl, rfl, (fun j hj => absurd hj (Nat.not_lt_zero _)), trivial, trivial⟩

def putB (p : Nat → Bool) (i : Nat) (r : Nat) : Bool := if r = i then true else p r

theorem put_ok {n c i : Nat} {ρ : Nat → Nat} {p : Nat → Bool} : BlkOK n ρ (Blk.mk true [] 1 c (fun r => if r = 0 + Int.toNat (i : Int) then List.set [AV.bool (p (0 + Int.toNat (i : Int)))] 0 AV.tt else [AV.bool (p r)]) [] none) (booB true c (putB p i)) := by
  refine BlkOK.rows (fun h => h) fun r _ => ?_
  have e : 0 + Int.toNat (i : Int) = i := by omega
  rw [e]
  by_cases h : r = i
  · simp [h, putB, LAlike, ren, below, AV.scalar]
  · simp [h, putB, LAlike, ren, below, AV.scalar]

theorem ff_ok {n c : Nat} {ρ : Nat → Nat} : BlkOK n ρ (Blk.mk true [] 1 c (fun _ => [AV.ff]) [] none) (booB true c fun _ => false) :=
  BlkOK.rows (fun h => h) fun r _ => by simp [LAlike, ren, below, AV.scalar]

/-- How many are not placed. -/
def cntF (p : Nat → Bool) : Nat → Nat
  | 0 => 0
  | k + 1 => (if p k = true then 0 else 1) + cntF p k

theorem cntF_le (p : Nat → Bool) : ∀ k, cntF p k ≤ k
  | 0 => Nat.le_refl _
  | k + 1 => by have := cntF_le p k; simp only [cntF]; split <;> omega

theorem cntF_same {p q : Nat → Bool} : ∀ k, (∀ r, r < k → p r = q r) → cntF p k = cntF q k
  | 0, _ => rfl
  | k + 1, h => by simp only [cntF]; rw [h k (by omega), cntF_same k fun r hr => h r (by omega)]

theorem cntF_put {p : Nat → Bool} {i : Nat} (hp : p i = false) : ∀ k, i < k → cntF (putB p i) k + 1 = cntF p k
  | 0, h => absurd h (Nat.not_lt_zero _)
  | k + 1, h => by
    simp only [cntF]
    by_cases e : i = k
    · subst e
      rw [cntF_same i (p := putB p i) (q := p) fun r hr => by unfold putB; rw [if_neg (by omega)]]
      simp [putB, hp]; omega
    · have := cntF_put hp k (by omega)
      have e2 : putB p i k = p k := by unfold putB; rw [if_neg (fun h => e h.symm)]
      rw [e2]; omega

def orInv (len : Nat) (y : OX) : Prop := (y.hs = true → y.n ≤ y.c) ∧ (y.hs = false → y.n = 0) ∧ y.n + cntF y.p len ≤ len

theorem Round.any {ι : Type} {E : Env} {σ : ι → St} {inv : ι → Prop} {μ : ι → Nat} {exit : ι → T (Ex × St)} {Q : Ex × St → Prop} {x : ι} {st : St} (e : Ex) (st' : St) (ρ : Nat → Nat) (h3 : SubSt E.n0 ρ st st') (h4 : Q (e, st')) (he : e ≠ .norm := by (intro h; cases h)) :
    Round E σ inv μ exit Q x (e, st) := by
  cases e with
  | norm => exact absurd rfl he
  | exit id => exact ⟨ρ, st', h3, h4⟩
  | ret => exact ⟨ρ, st', h3, h4⟩
  | goto l => exact ⟨ρ, st', h3, h4⟩

theorem or_round0 (x : FD) (o : OC) (G : Int) (len cap : Nat) (hk : spOK x len cap) (p : Nat → Bool) (n c : Nat) (f : Nat → Int) (hy : orInv len ⟨p, false, n, c, f⟩) (i : Nat) (hi0 : i ≤ len) (Q : Ex × St → Prop)
    (HG : ∀ y, orInv len y → cntF y.p len < cntF p len → Q (.goto 0, orSt x o G len cap y)) (HX : Q (.exit 0, orLp x o G len cap ⟨p, false, n, c, f⟩ len)) :
    AWp Try.prog orE orC (orLp x o G len cap ⟨p, false, n, c, f⟩ i) (Round orE (orLp x o G len cap ⟨p, false, n, c, f⟩) (fun i => i ≤ len) (fun i => len - i) (fun _ => .asm false .fail) Q i) := by
  obtain ⟨hw, hl, hb, hm⟩ := hk
  obtain ⟨hn, h0, hs⟩ := hy
  dsimp only at hn h0 hs
  have hn := h0 rfl
  have hle := hw.le
  refine code_sound orE_ok _ (noLoops (by kernel_rfl)) _ _ (round_keep [1, 3, 4, 12, 13, 14] (T.cut_eq (or_t0 x o G len cap p n c f i) ?_))
  have sub : ∀ {fr : List (Nat × AV)} {l : AM} (j : Nat), SubFr 4 (rhoL [0, 1, 2, 3]) fr (orLp x o G len cap ⟨p, false, n, c, f⟩ j).fr → SubSt 2 (rhoL [0, 1, 2, 3]) ⟨fr, orM x o G len cap ⟨p, false, n, c, f⟩ ++ l⟩ (orLp x o G len cap ⟨p, false, n, c, f⟩ j) := fun {fr l} j hf =>
    subStL _ rfl rfl rfl (Nat.le_of_ble_eq_true rfl) hf ⟨⟨_, rfl, x.ok⟩, ⟨_, rfl, ops_ok rfl (Nat.succ_pos _)⟩, ⟨_, rfl, box_ok rfl (by simp)⟩, ⟨_, rfl, boo_ok fun h => h⟩, trivial⟩
  refine T.hiteP (fun hi => ?_) (fun hi => T.hret (Round.out _ _ (sub (l := []) len (by simp [orLp, orA, SubFr, slotAt, ren, below, rhoL]; omega)) HX))
  have hi : i < len := by omega
  have hi' : 0 + Int.toNat (i : Int) < cap := by omega
  have ei : 0 + Int.toNat (i : Int) = i := by omega
  have hwr : IntKind.wrap IntKind.i64 ((i : Int) + 1) = ((i + 1 : Nat) : Int) := by rw [IntWalk.i64_in _ (by omega)]; omega
  have go : ∀ l, Round orE (orLp x o G len cap ⟨p, false, n, c, f⟩) (fun i => i ≤ len) (fun i => len - i) (fun _ => .asm false .fail) Q i (.norm, ⟨[(1, .ptr 2 0 0 0), (3, orA ⟨p, false, n, c, f⟩), (4, .sl 3 0 1 0 len len), (12, .sl 1 0 8 0 len cap), (13, .int .i64 len), (14, .int .i64 (IntKind.wrap IntKind.i64 ((i : Int) + 1)))], orM x o G len cap ⟨p, false, n, c, f⟩ ++ l⟩) := fun l =>
    Round.go (i + 1) _ (by omega) (by omega) (sub (i + 1) (by simp [orLp, orA, SubFr, slotAt, ren, below, hwr, rhoL])) any_ff
  have c1 : (decide ((0 : Int) ≤ (i : Int)) && decide ((i : Int) < (len : Int))) = true := by simp only [Bool.and_eq_true, decide_eq_true_eq]; omega
  have c2 : decide (0 + Int.toNat (i : Int) < len) = true := decide_eq_true (by omega)
  refine T.hchk c1 ?_
  iterate 8 refine T.hchk (decide_eq_true hi') ?_
  refine T.hchk c1 (T.hchk c2 (T.hite (fun hp => ?_) (fun hp => T.hret (go _))))
  have hp : p i = false := by rw [ei] at hp; simpa using hp
  have hcnt := cntF_put hp len hi
  refine T.hite (fun hz => ?_) (fun hz => ?_)
  · refine T.hneed trivial (T.hneed BoolRow.rows (T.hchkT (T.hchkT (T.hchk (decide_eq_true (Nat.le_refl _)) (T.hall fun r => T.hiteP (fun hr => ?_) (fun hr => T.hret (go _)))))))
    exact T.hchk c1 (T.hchk c2 (T.hchkT (T.hchkT (T.hchkT (T.hall fun c' => T.hasmP fun hc => T.hret (by
          refine Round.any (.goto 0) (orSt x o G len cap ⟨putB p i, true, 1, c', _⟩) (rhoL [0, 1, 2, 3, 6]) (subStL _ rfl rfl rfl (Nat.le_of_ble_eq_true rfl) (by simp [orSt, orA, orM, spM, SubFr, slotAt, ren, below, rhoL]) ⟨⟨_, rfl, x.ok⟩, ⟨_, rfl, ops_ok rfl (Nat.succ_pos _)⟩, ⟨_, rfl, box_ok rfl (by simp [orSt, orM, spM])⟩, ⟨_, rfl, put_ok⟩, ⟨_, rfl, i64_ok⟩, trivial⟩) (HG _ ⟨fun _ => by dsimp only; omega, (fun h => by cases h), by dsimp only; omega⟩ (by dsimp only; omega))))))))
  · refine T.hneed IntRow.rows (T.hneed BoolRow.rows (T.hchk (decide_eq_true (by have := hle [0 + Int.toNat (i : Int)]; omega)) (T.hchk (decide_eq_true (hm _ hi')) (T.hchk (decide_eq_true (Nat.le_refl _)) (T.hall fun r => T.hiteP (fun hr => ?_) (fun hr => T.hret (go _)))))))
    exact T.hchk c1 (T.hchk c2 (T.hchkT (T.hchkT (T.hchkT (T.hall fun c' => T.hasmP fun hc => T.hret (by
          refine Round.any (.goto 0) (orSt x o G len cap ⟨putB p i, true, 1, c', _⟩) (rhoL [0, 1, 2, 3, 7]) (subStL _ rfl rfl rfl (Nat.le_of_ble_eq_true rfl) (by simp [orSt, orA, orM, spM, SubFr, slotAt, ren, below, rhoL]) ⟨⟨_, rfl, x.ok⟩, ⟨_, rfl, ops_ok rfl (Nat.succ_pos _)⟩, ⟨_, rfl, box_ok rfl (by simp [orSt, orM, spM])⟩, ⟨_, rfl, put_ok⟩, ⟨_, rfl, i64_ok⟩, trivial⟩) (HG _ ⟨fun _ => by dsimp only; omega, (fun h => by cases h), by dsimp only; omega⟩ (by dsimp only; omega))))))))

theorem or_round1 (x : FD) (o : OC) (G : Int) (len cap : Nat) (hk : spOK x len cap) (p : Nat → Bool) (n c : Nat) (f : Nat → Int) (hy : orInv len ⟨p, true, n, c, f⟩) (i : Nat) (hi0 : i ≤ len) (Q : Ex × St → Prop)
    (HG : ∀ y, orInv len y → cntF y.p len < cntF p len → Q (.goto 0, orSt x o G len cap y)) (HX : Q (.exit 0, orLp x o G len cap ⟨p, true, n, c, f⟩ len)) :
    AWp Try.prog orE orC (orLp x o G len cap ⟨p, true, n, c, f⟩ i) (Round orE (orLp x o G len cap ⟨p, true, n, c, f⟩) (fun i => i ≤ len) (fun i => len - i) (fun _ => .asm false .fail) Q i) := by
  obtain ⟨hw, hl, hb, hm⟩ := hk
  obtain ⟨hn, h0, hs⟩ := hy
  dsimp only at hn h0 hs
  have hn := hn rfl
  have hle := hw.le
  refine code_sound orE_ok _ (noLoops (by kernel_rfl)) _ _ (round_keep [1, 3, 4, 12, 13, 14] (T.cut_eq (or_t1 x o G len cap p n c f i) ?_))
  have sub : ∀ {fr : List (Nat × AV)} {l : AM} (j : Nat), SubFr 5 (rhoL [0, 1, 2, 3, 4]) fr (orLp x o G len cap ⟨p, true, n, c, f⟩ j).fr → SubSt 2 (rhoL [0, 1, 2, 3, 4]) ⟨fr, orM x o G len cap ⟨p, true, n, c, f⟩ ++ l⟩ (orLp x o G len cap ⟨p, true, n, c, f⟩ j) := fun {fr l} j hf =>
    subStL _ rfl rfl rfl (Nat.le_of_ble_eq_true rfl) hf ⟨⟨_, rfl, x.ok⟩, ⟨_, rfl, ops_ok rfl (Nat.succ_pos _)⟩, ⟨_, rfl, box_ok rfl (by simp)⟩, ⟨_, rfl, boo_ok fun h => h⟩, ⟨_, rfl, i64_same⟩, trivial⟩
  refine T.hiteP (fun hi => ?_) (fun hi => T.hret (Round.out _ _ (sub (l := []) len (by simp [orLp, orA, SubFr, slotAt, ren, below, rhoL]; omega)) HX))
  have hi : i < len := by omega
  have hi' : 0 + Int.toNat (i : Int) < cap := by omega
  have ei : 0 + Int.toNat (i : Int) = i := by omega
  have hwr : IntKind.wrap IntKind.i64 ((i : Int) + 1) = ((i + 1 : Nat) : Int) := by rw [IntWalk.i64_in _ (by omega)]; omega
  have go : ∀ l, Round orE (orLp x o G len cap ⟨p, true, n, c, f⟩) (fun i => i ≤ len) (fun i => len - i) (fun _ => .asm false .fail) Q i (.norm, ⟨[(1, .ptr 2 0 0 0), (3, orA ⟨p, true, n, c, f⟩), (4, .sl 3 0 1 0 len len), (12, .sl 1 0 8 0 len cap), (13, .int .i64 len), (14, .int .i64 (IntKind.wrap IntKind.i64 ((i : Int) + 1)))], orM x o G len cap ⟨p, true, n, c, f⟩ ++ l⟩) := fun l =>
    Round.go (i + 1) _ (by omega) (by omega) (sub (i + 1) (by simp [orLp, orA, SubFr, slotAt, ren, below, hwr, rhoL])) any_ff
  have c1 : (decide ((0 : Int) ≤ (i : Int)) && decide ((i : Int) < (len : Int))) = true := by simp only [Bool.and_eq_true, decide_eq_true_eq]; omega
  have c2 : decide (0 + Int.toNat (i : Int) < len) = true := decide_eq_true (by omega)
  refine T.hchk c1 ?_
  iterate 8 refine T.hchk (decide_eq_true hi') ?_
  refine T.hchk c1 (T.hchk c2 (T.hite (fun hp => ?_) (fun hp => T.hret (go _))))
  have hp : p i = false := by rw [ei] at hp; simpa using hp
  have hcnt := cntF_put hp len hi
  refine T.hite (fun hz => ?_) (fun hz => ?_)
  · refine T.hneed trivial (T.hneed BoolRow.rows (T.hchkT (T.hchkT (T.hchk (decide_eq_true (Nat.le_refl _)) (T.hall fun r => T.hiteP (fun hr => ?_) (fun hr => T.hret (go _)))))))
    exact T.hchk c1 (T.hchk c2 (T.hchkT (T.hchk (decide_eq_true (by omega)) (T.hchk (decide_eq_true hn) (T.hchk (decide_eq_true (by omega)) (T.hall fun c' => T.hall fun d => T.hasmP fun hc => T.hret (by
          obtain ⟨hc, _⟩ := hc
          refine Round.any (.goto 0) (orSt x o G len cap ⟨putB p i, true, n + 1, c', _⟩) (rhoL [0, 1, 2, 3, 7]) (subStL _ rfl rfl rfl (Nat.le_of_ble_eq_true rfl) (by simp [orSt, orA, orM, spM, SubFr, slotAt, ren, below, rhoL]) ⟨⟨_, rfl, x.ok⟩, ⟨_, rfl, ops_ok rfl (Nat.succ_pos _)⟩, ⟨_, rfl, box_ok rfl (by simp [orSt, orM, spM])⟩, ⟨_, rfl, put_ok⟩, ⟨_, rfl, i64_ok⟩, trivial⟩) (HG _ ⟨fun _ => by dsimp only; omega, (fun h => by cases h), by dsimp only; omega⟩ (by dsimp only; omega)))))))))
  · refine T.hneed IntRow.rows (T.hneed BoolRow.rows (T.hchk (decide_eq_true (by have := hle [0 + Int.toNat (i : Int)]; omega)) (T.hchk (decide_eq_true (hm _ hi')) (T.hchk (decide_eq_true (Nat.le_refl _)) (T.hall fun r => T.hiteP (fun hr => ?_) (fun hr => T.hret (go _)))))))
    exact T.hchk c1 (T.hchk c2 (T.hchkT (T.hchk (decide_eq_true (by omega)) (T.hchk (decide_eq_true hn) (T.hchk (decide_eq_true (by omega)) (T.hall fun c' => T.hall fun d => T.hasmP fun hc => T.hret (by
          obtain ⟨hc, _⟩ := hc
          refine Round.any (.goto 0) (orSt x o G len cap ⟨putB p i, true, n + 1, c', _⟩) (rhoL [0, 1, 2, 3, 8]) (subStL _ rfl rfl rfl (Nat.le_of_ble_eq_true rfl) (by simp [orSt, orA, orM, spM, SubFr, slotAt, ren, below, rhoL]) ⟨⟨_, rfl, x.ok⟩, ⟨_, rfl, ops_ok rfl (Nat.succ_pos _)⟩, ⟨_, rfl, box_ok rfl (by simp [orSt, orM, spM])⟩, ⟨_, rfl, put_ok⟩, ⟨_, rfl, i64_ok⟩, trivial⟩) (HG _ ⟨fun _ => by dsimp only; omega, (fun h => by cases h), by dsimp only; omega⟩ (by dsimp only; omega)))))))))



set_option maxRecDepth 100000
set_option maxHeartbeats 4000000
set_option linter.unusedVariables false
set_option linter.unusedSimpArgs false

def orT (x : FD) (o : OC) (len cap : Nat) : T (AV × AM) :=
  .all fun k => .ite (decide (k = 0)) (.ret (.nils, spM x o cap)) (.all fun n => .asm (decide (n ≤ len)) (.all fun c => .asm (decide (n ≤ c)) (.ret (.sl 2 0 1 0 n c, spM x o cap ++ [none]))))

theorem or_sub (x : FD) (o : OC) (G : Int) (len cap : Nat) (y : OX) {fr' fr : List (Nat × AV)} {l : AM} (hf : SubFr (orM x o G len cap y).length id fr' fr) : SubSt 2 id ⟨fr', orM x o G len cap y ++ l⟩ ⟨fr, orM x o G len cap y⟩ := by
  refine SubSt.mk hf ?_
  obtain ⟨p, hs, n, c, f⟩ := y
  cases hs
  · exact Sub.of ⟨⟨_, rfl, x.ok⟩, ⟨_, rfl, ops_ok rfl (Nat.succ_pos _)⟩, ⟨_, rfl, box_ok rfl (by simp [orM, spM])⟩, ⟨_, rfl, boo_ok fun h => h⟩, trivial⟩ (fun _ _ _ _ h => h) (fun _ _ => rfl) (by simp [orM, spM])
  · exact Sub.of ⟨⟨_, rfl, x.ok⟩, ⟨_, rfl, ops_ok rfl (Nat.succ_pos _)⟩, ⟨_, rfl, box_ok rfl (by simp [orM, spM])⟩, ⟨_, rfl, boo_ok fun h => h⟩, ⟨_, rfl, i64_same⟩, trivial⟩ (fun _ _ _ _ h => h) (fun _ _ => rfl) (by simp [orM, spM])

theorem or_eff (x : FD) (o : OC) (G : Int) (len cap : Nat) (hk : spOK x len cap) :
    EffAt Try.prog 40 [spA G len cap] (spM x o cap) (orT x o len cap) := by
  refine fn_okA (E := orE) (c := codeOf Try.f40) Try.func40 rfl rfl rfl (Nat.le_of_ble_eq_true (by kernel_rfl)) fun Q hq => ?_
  have e0 := or_0 x o G len cap
  have e1 := or_1 x o G len cap
  have r0 := or_r0 x o G len cap
  have r1 := or_r1 x o G len cap
  have z0 := or_z0 x o G len cap
  have z1 := or_z1 x o G len cap
  have hbS := or_bS
  have hbR := or_bR
  have fl := or_fl
  have hl0 : ∀ c ∈ (chainOf (codeOf Try.f40)).take 1, ∀ c' ∈ loopsIn c, LoopOK Try.prog orE c' := noLoopsL_ok (by kernel_rfl)
  have hlS : ∀ c ∈ (chainOf orS).take 4, ∀ c' ∈ loopsIn c, LoopOK Try.prog orE c' := noLoopsL_ok (by kernel_rfl)
  have hlR : ∀ c ∈ (chainOf orR).take 2, ∀ c' ∈ loopsIn c, LoopOK Try.prog orE c' := noLoopsL_ok (by kernel_rfl)
  have hlD : ∀ c ∈ (chainOf orR).drop 3, ∀ c' ∈ loopsIn c, LoopOK Try.prog orE c' := noLoopsL_ok (by kernel_rfl)
  rw [or_ch]
  generalize (chainOf (codeOf Try.f40)).take 1 = C0 at e0 hl0 ⊢
  -- the end
  have ret : ∀ (y : OX), orInv len y → ∀ l, FnPost Try.prog Try.f40 2 Q (.ret, ⟨[(2, orA y)], orM x o G len cap y ++ l⟩) := fun y hy l => by
    unfold FnPost
    rw [or_res]
    obtain ⟨p, hs, n, c, f⟩ := y
    obtain ⟨h1, h2, h3⟩ := hy
    dsimp only at h1 h2 h3
    cases hs
    · have q := (hq 0).1 (decide_eq_true rfl)
      exact ⟨id, .nils, _, q, by simp [Ox.Alike, oneOf, conc, ren, orA], by simp [below], spM_sub x o cap (Nat.le_refl _)⟩
    · have q := (hq 1).2 (decide_eq_false (by decide)) n (decide_eq_true (by omega)) c (decide_eq_true (h1 rfl))
      refine ⟨rhoL [0, 1, 4], .sl 2 0 1 0 n c, _, q, by simp [Ox.Alike, oneOf, conc, ren, orA, rhoL], by simp [below, spM], ?_⟩
      exact subL [0, 1, 4] rfl rfl rfl (Nat.le_of_ble_eq_true rfl) ⟨⟨_, rfl, x.ok⟩, ⟨_, rfl, ops_ok rfl (Nat.succ_pos _)⟩, trivial⟩
  refine awpl_app (l2 := [.scope orS]) (awpl_end (E := orE) orE_ok hl0 (weak_keep [1] (T.cut_eq e0 (T.hret ⟨id, ⟨[(1, .ptr 2 0 0 0)], spM x o cap ++ [some (boxS G len cap)]⟩, SubSt.mk (by simp [spM, SubFr, slotAt, ren, below]) (Sub.of ⟨⟨_, rfl, x.ok⟩, ⟨_, rfl, ops_ok rfl (Nat.succ_pos _)⟩, ⟨_, rfl, box_ok rfl (by simp [spM])⟩, trivial⟩ (fun _ _ _ _ h => h) (fun _ _ => rfl) (by simp [orE, spM])), ?_⟩))))
  -- the loop, and what stands behind it
  have body : ∀ (N : Nat) (y : OX), orInv len y → cntF y.p len ≤ N → AWpL Try.prog orE (.block 0 (.loop orC) :: (chainOf orR).drop 3) (orLp x o G len cap y 0) (ScopeR orE (orSt x o G len cap) (orInv len) (fun y => cntF y.p len) 0 N (FnPost Try.prog Try.f40 2 Q)) := fun N y hy hn => by
    generalize (chainOf orR).drop 3 = D at z0 z1 hlD ⊢
    refine awpl_block (awpl_one (loop_free (orLp x o G len cap y) (fun i => i ≤ len) (fun i => len - i) (fun i hi => ?_) 0 (Nat.zero_le _)))
    have HG : ∀ y', orInv len y' → cntF y'.p len < cntF y.p len → ScopeR orE (orSt x o G len cap) (orInv len) (fun y => cntF y.p len) 0 N (FnPost Try.prog Try.f40 2 Q) (.goto 0, orSt x o G len cap y') := fun y' h1 h2 => by
      refine ⟨rfl, y', id, h1, by dsimp only; omega, ?_⟩
      have := or_sub x o G len cap y' (fr' := (orSt x o G len cap y').fr) (fr := (orSt x o G len cap y').fr) (l := []) (by obtain ⟨p, hs, n, c, f⟩ := y'; cases hs <;> simp [orSt, orA, orM, spM, SubFr, slotAt, ren, below])
      rwa [List.append_nil] at this
    have HX : AWpL Try.prog orE D (orLp x o G len cap y len) (ScopeR orE (orSt x o G len cap) (orInv len) (fun y => cntF y.p len) 0 N (FnPost Try.prog Try.f40 2 Q)) := by
      obtain ⟨p, hs, n, c, f⟩ := y
      cases hs
      · exact awpl_end (E := orE) orE_ok hlD (weak_keep [2] (T.cut_eq (z0 p n c f len) (T.hret ⟨id, _, or_sub x o G len cap ⟨p, false, n, c, f⟩ (fr := [(2, .nils)]) (l := []) (by simp [SubFr, slotAt, ren, below]), id, _, or_sub x o G len cap ⟨p, false, n, c, f⟩ (fr := [(2, .nils)]) (l := []) (by simp [SubFr, slotAt, ren, below]), ret ⟨p, false, n, c, f⟩ hy []⟩)))
      · exact awpl_end (E := orE) orE_ok hlD (weak_keep [2] (T.cut_eq (z1 p n c f len) (T.hret ⟨id, _, or_sub x o G len cap ⟨p, true, n, c, f⟩ (fr := [(2, .sl 4 0 1 0 n c)]) (l := []) (by simp [orM, spM, SubFr, slotAt, ren, below]), id, _, or_sub x o G len cap ⟨p, true, n, c, f⟩ (fr := [(2, .sl 4 0 1 0 n c)]) (l := []) (by simp [orM, spM, SubFr, slotAt, ren, below]), ret ⟨p, true, n, c, f⟩ hy []⟩)))
    obtain ⟨p, hs, n, c, f⟩ := y
    cases hs
    · exact or_round0 x o G len cap hk p n c f hy i hi _ HG HX
    · exact or_round1 x o G len cap hk p n c f hy i hi _ HG HX
  refine awpl_one (scope_free fl (orSt x o G len cap) (orInv len) (fun y => cntF y.p len) (len + 1) (fun y hy => ?_) ?_ (fun y _ => Nat.lt_succ_of_le (cntF_le _ _)))
  · have go := body (cntF y.p len) y hy (Nat.le_refl _)
    refine awp_chain ?_
    rw [← hbR] at go
    generalize chainOf orR = C at r0 r1 hlR go ⊢
    obtain ⟨p, hs, n, c, f⟩ := y
    cases hs
    · exact awpl_cut (E := orE) orE_ok 2 hlR (weak_keep [1, 3, 4, 12, 13, 14] (T.cut_eq (r0 p n c f) (T.hret ⟨id, _, or_sub x o G len cap ⟨p, false, n, c, f⟩ (fr := (orLp x o G len cap ⟨p, false, n, c, f⟩ 0).fr) (l := []) (by simp [orLp, orA, orM, spM, SubFr, slotAt, ren, below]), go⟩)))
    · exact awpl_cut (E := orE) orE_ok 2 hlR (weak_keep [1, 3, 4, 12, 13, 14] (T.cut_eq (r1 p n c f) (T.hret ⟨id, _, or_sub x o G len cap ⟨p, true, n, c, f⟩ (fr := (orLp x o G len cap ⟨p, true, n, c, f⟩ 0).fr) (l := []) (by simp [orLp, orA, orM, spM, SubFr, slotAt, ren, below]), go⟩)))
  · have h0 : orInv len ⟨fun _ => false, false, 0, 0, fun _ => 0⟩ := ⟨(fun h => by cases h), (fun _ => rfl), (by have := cntF_le (fun _ => false) len; show 0 + cntF (fun _ => false) len ≤ len; omega)⟩
    have go := body (len + 1) ⟨fun _ => false, false, 0, 0, fun _ => 0⟩ h0 (Nat.le_trans (cntF_le _ _) (Nat.le_succ _))
    refine awp_chain ?_
    rw [← hbS] at go
    generalize chainOf orS = C at e1 hlS go ⊢
    refine awpl_cut (E := orE) orE_ok 4 hlS (weak_keep [1, 3, 4, 12, 13, 14] (T.cut_eq e1 (T.hchk (by simp [makeOk]; have := hk.2.2.1; omega) (T.hret ⟨rhoL [0, 1, 2, 3], _, ?_, go⟩))))
    exact subStL _ rfl rfl rfl (Nat.le_of_ble_eq_true rfl) (by simp [orLp, orA, orM, spM, SubFr, slotAt, ren, below, rhoL]) ⟨⟨_, rfl, x.ok⟩, ⟨_, rfl, ops_ok rfl (Nat.succ_pos _)⟩, ⟨_, rfl, box_ok rfl (by simp [orLp, orM, spM])⟩, ⟨_, rfl, ff_ok⟩, trivial⟩

/-- The contract of Order: any order of at most as many. -/
def orQ (x : FD) (o : OC) (G : Int) (len cap : Nat) : List AV → AM → T (AV × AM)
  | [.agg [.int .i64 G', .sl 1 0 8 0 len' cap']], m => .need (G' = G ∧ len' = len ∧ cap' = cap) (.need (spIn x o cap m) (lift [0, 1] m (spM x o cap) (orT x o len cap)))
  | _, _ => .fail

theorem orQ_ok (x : FD) (o : OC) (G : Int) (len cap : Nat) (h : spOK x len cap) : SummOK Try.prog 40 (.eff (orQ x o G len cap)) := by
  refine ⟨fun args w => Try.call40 args w, ?_⟩
  intro args m Q hq
  unfold orQ at hq
  split at hq
  · rename_i G' len' cap'
    obtain ⟨⟨rfl, rfl, rfl⟩, ⟨m0, m1⟩, hq⟩ := hq
    have hsub : SubBlks 2 (Ox.out [0, 1] m.length) m 0 (spM x o cap') := ⟨⟨_, m0, x.ok⟩, ⟨_, m1, ops_ok rfl (Nat.succ_pos _)⟩, trivial⟩
    refine lift_ok (or_eff x o G' len' cap' h) [0, 1] rfl (by simp [AM.get_lt m0, AM.get_lt m1]) (Sub.ro hsub (spIn_ro (l := []) (fun _ _ h => by cases h))) (by simp [belowL, below, spA, spM, AV.scalar]) (by simp [renL, ren, spA, Ox.out]) Q hq
  · exact hq.elim

end Go.Proofs.Ytnfngaapjodpcaa
