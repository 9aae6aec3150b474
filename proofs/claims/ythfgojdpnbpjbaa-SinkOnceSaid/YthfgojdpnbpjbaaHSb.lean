/-
  Layer 13: Commit of the last cut: its contract.
-/
import Derived.Test.YthfgojdpnbpjbaaHSa
namespace Go.Proofs.Ythfgojdpnbpjbaa
open Go.Ox
set_option maxRecDepth 100000
set_option maxHeartbeats 4000000
set_option linter.unusedVariables false
set_option linter.unusedSimpArgs false

theorem pB_ok {n c : Nat} {ρ : Nat → Nat} {f g f' g' : Nat → Int} {F : Nat → List AV} (h : ∀ j, F j = [.int .i64 (f' j), .int .i64 (g' j)]) (hf : ∀ j, j < c → f' j = f j) (hg : ∀ j, j < c → g' j = g j) : BlkOK n ρ (Blk.mk true [] 2 c F [] none) (pB c f g) :=
  ⟨fun h => h, trivial, rfl, rfl, fun j hj => by
    show LAlike n ρ (F j) [.int .i64 (f j), .int .i64 (g j)]
    rw [h j, hf j hj, hg j hj]; exact pairs_alike, trivial, trivial⟩

theorem pB_same {n c : Nat} {ρ : Nat → Nat} {f g : Nat → Int} : BlkOK n ρ (Blk.mk true [] 2 c (fun j => [.int .i64 (f j), .int .i64 (g j)]) [] none) (pB c f g) := pB_ok (fun _ => rfl) (fun _ _ => rfl) (fun _ _ => rfl)

theorem skB_ok {n : Nat} {ρ : Nat → Nat} {l l' : List AV} {F : Nat → List AV} (h : LAlike n ρ l' l) : BlkOK n ρ (Blk.mk true l' 0 0 F [] none) (skB l) := ⟨fun h => h, h, rfl, rfl, (fun j hj => absurd hj (Nat.not_lt_zero j)), trivial, trivial⟩

theorem ck_sub0 {fr fr' : List (Nat × AV)} {l l' : List AV} {F : Nat → List AV} {cB : Nat} {p q p' q' : Nat → Int} (hf : SubFr 2 (rhoL [0, 1]) fr' fr) (hl : LAlike 2 (rhoL [0, 1]) l' l) (hp : p' = p) (hq : q' = q) :
    SubSt 2 (rhoL [0, 1]) ⟨fr', [some (Blk.mk true l' 0 0 F [] none), some (Blk.mk true [] 2 cB (fun j => [.int .i64 (p' j), .int .i64 (q' j)]) [] none)]⟩ ⟨fr, [some (skB l), some (pB cB p q)]⟩ := by
  subst hp; subst hq
  exact subStL _ rfl rfl rfl (Nat.le_of_ble_eq_true rfl) hf ⟨⟨_, rfl, skB_ok hl⟩, ⟨_, rfl, pB_same⟩, trivial⟩

theorem ck_sub1 {fr fr' : List (Nat × AV)} {l l' : List AV} {F : Nat → List AV} {cB cR : Nat} {p q p' q' f g f' g' : Nat → Int} (hf : SubFr 3 (rhoL [0, 1, 2]) fr' fr) (hl : LAlike 3 (rhoL [0, 1, 2]) l' l) (hp : p' = p) (hq : q' = q) (hp' : f' = f) (hq' : g' = g) :
    SubSt 3 (rhoL [0, 1, 2]) ⟨fr', [some (Blk.mk true l' 0 0 F [] none), some (Blk.mk true [] 2 cB (fun j => [.int .i64 (p' j), .int .i64 (q' j)]) [] none), some (Blk.mk true [] 2 cR (fun j => [.int .i64 (f' j), .int .i64 (g' j)]) [] none)]⟩ ⟨fr, [some (skB l), some (pB cB p q), some (pB cR f g)]⟩ := by
  subst hp; subst hq; subst hp'; subst hq'
  exact subStL _ rfl rfl rfl (Nat.le_of_ble_eq_true rfl) hf ⟨⟨_, rfl, skB_ok hl⟩, ⟨_, rfl, pB_same⟩, ⟨_, rfl, pB_same⟩, trivial⟩

theorem ck_inv {x : CK} (h : ckInv x) (h0 : 0 < x.len) (hp : x.p (x.J + 0) ≤ x.no) {J : Nat} (hJ : J = if 1 < x.len then x.J + 1 else if x.cap = 1 then x.J else x.J + 1) : ckInv ⟨J, x.len - 1, x.cap - 1, x.cB, x.p, x.q, x.no, x.most, x.q (x.J + 0), x.G, x.has, x.n, x.c, x.cR, x.f, x.g⟩ := by
  obtain ⟨h1, h2, h4, h5, h6⟩ := h
  have e : 1 < x.len → J = x.J + 1 := fun h => by rw [hJ, if_pos h]
  have e' : J + (x.cap - 1) ≤ x.cB := by
    rw [hJ]; split
    · omega
    · split <;> omega
  refine ⟨e', by dsimp only; omega, fun r hr => ?_, fun h => ?_, fun r hr => ?_⟩
  · dsimp only at hr ⊢
    rw [e (by omega), show x.J + 1 + r = x.J + (r + 1) by omega]; exact h4 _ (by omega)
  · dsimp only at h ⊢
    exact h6 0 (by omega)
  · dsimp only at hr ⊢
    rw [e (by omega), show x.J + 1 + r = x.J + (r + 1) by omega]; exact h6 _ (by omega)

theorem ck_loop0 : LoopOK Try.prog (ckE 2 false) (loopAt (codeOf Try.f15) 0) := by
  refine loopSumm_ok (E := ckE 2 false) EnvOK.nil (noLoops (by kernel_rfl)) ckSt (ckIn false) (fun x => x.len) (ckPick goneOf) ckEnd ?_ (by kernel_rfl)
  rintro ⟨J, len, cap, cB, p, q, no, most, gone, G, has, n, c, cR, f, g⟩ ⟨hi, h7⟩ Q hq
  dsimp only at h7
  subst h7
  have hi' := hi
  obtain ⟨h1, h2, h4, h5, h6⟩ := hi'
  dsimp only at h1 h2 h4 h5 h6
  refine round_keep [0, 1, 4] ?_
  rw [ck_tree0]
  have out : ∀ F, len = 0 → Round (ckE 2 false) ckSt (ckIn false) (fun x => x.len) ckEnd Q ⟨J, len, cap, cB, p, q, no, most, gone, G, false, n, c, cR, f, g⟩ (Ex.exit 0, St.mk [(0, .ptr 0 0 0 0), (1, .int .i64 no), (4, .int .i64 gone)] [some (Blk.mk true [.nils, .sl 1 0 2 J len cap, .int .i64 most, .tt] 0 0 F [] none), some (Blk.mk true [] 2 cB (fun j => [.int .i64 (p j), .int .i64 (q j)]) [] none)]) := fun F h0 => by
    subst h0
    have := h5 rfl
    subst this
    exact Round.out (rhoL [0, 1]) _ (ck_sub0 (by simp [SubFr, slotAt, ren, below, rhoL]) (by simp [LAlike, ren, rhoL, below, AV.scalar, ckRe]) rfl rfl) (hq J (decide_eq_true (by dsimp only; omega)))
  refine T.hiteP (fun hl => ?_) (fun hl => T.hret (out _ (by omega)))
  have hl : 0 < len := by omega
  refine T.hchk (by simp; omega) (T.hchk (by simp; omega) (T.hiteP (fun hp => ?_) (fun hp => absurd (h4 0 hl) (by simpa using hp))))
  refine T.hchk (by simp; omega) (T.hchk (by simp; omega) (T.hchk (by simp; omega) (T.hchk (by simp; omega) (T.hret ?_))))
  have hin := ck_inv hi hl hp rfl
  dsimp only at hin
  refine Round.go ⟨_, len - 1, cap - 1, cB, p, q, no, most, q (J + 0), G, false, n, c, cR, f, g⟩ (rhoL [0, 1]) ⟨hin, rfl⟩ (by dsimp only; omega) (ck_sub0 (by simp [SubFr, slotAt, ren, below, rhoL]) (by simp [LAlike, ren, rhoL, below, AV.scalar, ckRe]) rfl rfl) ?_
  dsimp only [ckEnd, ckRe, ckTl] at hq ⊢
  rw [show cap - 1 - (len - 1) = cap - len by omega]
  exact hq

theorem ck_loop1 : LoopOK Try.prog (ckE 3 true) (loopAt (codeOf Try.f15) 0) := by
  refine loopSumm_ok (E := ckE 3 true) EnvOK.nil (noLoops (by kernel_rfl)) ckSt (ckIn true) (fun x => x.len) (ckPick goneOf) ckEnd ?_ (by kernel_rfl)
  rintro ⟨J, len, cap, cB, p, q, no, most, gone, G, has, n, c, cR, f, g⟩ ⟨hi, h7⟩ Q hq
  dsimp only at h7
  subst h7
  have hi' := hi
  obtain ⟨h1, h2, h4, h5, h6⟩ := hi'
  dsimp only at h1 h2 h4 h5 h6
  refine round_keep [0, 1, 4] ?_
  rw [ck_tree1]
  have out : ∀ F, len = 0 → Round (ckE 3 true) ckSt (ckIn true) (fun x => x.len) ckEnd Q ⟨J, len, cap, cB, p, q, no, most, gone, G, true, n, c, cR, f, g⟩ (Ex.exit 0, St.mk [(0, .ptr 0 0 0 0), (1, .int .i64 no), (4, .int .i64 gone)] [some (Blk.mk true [.sl 2 0 2 0 n c, .sl 1 0 2 J len cap, .int .i64 most, .tt] 0 0 F [] none), some (Blk.mk true [] 2 cB (fun j => [.int .i64 (p j), .int .i64 (q j)]) [] none), some (Blk.mk true [] 2 cR (fun j => [.int .i64 (f j), .int .i64 (g j)]) [] none)]) := fun F h0 => by
    subst h0
    have := h5 rfl
    subst this
    exact Round.out (rhoL [0, 1, 2]) _ (ck_sub1 (by simp [SubFr, slotAt, ren, below, rhoL]) (by simp [LAlike, ren, rhoL, below, AV.scalar, ckRe]) rfl rfl rfl rfl) (hq J (decide_eq_true (by dsimp only; omega)))
  refine T.hiteP (fun hl => ?_) (fun hl => T.hret (out _ (by omega)))
  have hl : 0 < len := by omega
  refine T.hchk (by simp; omega) (T.hchk (by simp; omega) (T.hiteP (fun hp => ?_) (fun hp => absurd (h4 0 hl) (by simpa using hp))))
  refine T.hchk (by simp; omega) (T.hchk (by simp; omega) (T.hchk (by simp; omega) (T.hchk (by simp; omega) (T.hret ?_))))
  have hin := ck_inv hi hl hp rfl
  dsimp only at hin
  refine Round.go ⟨_, len - 1, cap - 1, cB, p, q, no, most, q (J + 0), G, true, n, c, cR, f, g⟩ (rhoL [0, 1, 2]) ⟨hin, rfl⟩ (by dsimp only; omega) (ck_sub1 (by simp [SubFr, slotAt, ren, below, rhoL]) (by simp [LAlike, ren, rhoL, below, AV.scalar, ckRe]) rfl rfl rfl rfl) ?_
  dsimp only [ckEnd, ckRe, ckTl] at hq ⊢
  rw [show cap - 1 - (len - 1) = cap - len by omega]
  exact hq

theorem ck_z (n : Nat) (b : Bool) : LoopOK Try.prog (ckE n b) (loopAt (codeOf Try.f15) 1) :=
  unroll_ok (E := ckE n b) EnvOK.nil (ckE0 n) rfl rfl rfl 1 (noLoops (by kernel_rfl)) (by kernel_rfl)

/-- What a commit of all cuts asks: the last cut ends where the records do. -/
def CkAll (J len cap cB : Nat) (p q : Nat → Int) (no most : Int) (n : Int) : Prop :=
  J + cap ≤ cB ∧ len ≤ cap ∧ no ≤ most ∧ (∀ r, r < len → p (J + r) ≤ no) ∧ (len = 0 → 0 = n) ∧ (∀ r, r + 1 = len → q (J + r) = n)

def ckT0 (J len cap cB : Nat) (p q : Nat → Int) (most : Int) : T (AV × AM) :=
  .all fun j => .asm (decide (j + (cap - len) ≤ cB)) (.ret (.tup [], [some (skB [.nils, .sl 1 0 2 j 0 (cap - len), .int .i64 most, .tt]), some (pB cB p q)]))

def ckT1 (J len cap cB : Nat) (p q : Nat → Int) (most : Int) (cR : Nat) (f g : Nat → Int) : T (AV × AM) :=
  .all fun j => .asm (decide (j + (cap - len) ≤ cB)) (.ret (.tup [], [some (skB [.sl 2 0 2 0 0 0, .sl 1 0 2 j 0 (cap - len), .int .i64 most, .tt]), some (pB cB p q), some (pB cR f g)]))

theorem ck_eff0 (J len cap cB : Nat) (p q : Nat → Int) (no most : Int) (h : CkAll J len cap cB p q no most 0) :
    EffAt Try.prog 15 [.ptr 0 0 0 0, .int .i64 no] [some (skB [.nils, .sl 1 0 2 J len cap, .int .i64 most, .tt]), some (pB cB p q)] (ckT0 J len cap cB p q most) := by
  obtain ⟨h1, h2, h0, h4, h5, h6⟩ := h
  refine fn_ok (E := ckE 2 false) (c := codeOf Try.f15) Try.func15 rfl EnvOK.nil (twoLoops (by kernel_rfl) ck_loop0 (ck_z 2 false)) rfl rfl fun Q hq => ?_
  rw [ck_fn0]
  refine T.hiteP (fun hn => absurd hn (by omega)) (fun hn => ?_)
  refine T.hneed ⟨rhoL [0, 1], ck_sub0 (by simp [SubFr, slotAt, ren, below, rhoL]) (by simp [LAlike, ren, rhoL, below, AV.scalar, ckRe]) rfl rfl⟩ (T.hneed ⟨⟨h1, h2, h4, h5, h6⟩, rfl⟩ (T.hall fun j => T.hasm fun hj => ?_))
  have hq := hq j hj
  repeat' first | with_reducible refine T.hneed trivial ?_ | with_reducible refine T.hneed rfl ?_ | with_reducible refine T.h_ff ?_ | with_reducible refine T.h_tt ?_ | with_reducible refine T.hall (fun _ => ?_) | with_reducible refine T.hasm (fun _ => ?_) | with_reducible refine T.hchk ?_ ?_
  all_goals first | rfl | (refine decide_eq_true ?_; omega) | (simp; done) | (simp; omega) | (simp at *; omega) | skip
  refine T.hret ?_
  exact leaf_of (rhoL [0, 1]) hq (by simp [ren, renL]) (by simp [below, belowL]) (ck_sub0 (fr := []) (fr' := []) (by simp [SubFr]) (by simp [LAlike, ren, rhoL, below, AV.scalar]) rfl rfl).2

theorem ck_eff1 (J len cap cB : Nat) (p q : Nat → Int) (no most : Int) (n c cR : Nat) (f g : Nat → Int) (hn : n ≤ c) (hc : c ≤ cR) (h : CkAll J len cap cB p q no most n) :
    EffAt Try.prog 15 [.ptr 0 0 0 0, .int .i64 no] [some (skB [.sl 2 0 2 0 n c, .sl 1 0 2 J len cap, .int .i64 most, .tt]), some (pB cB p q), some (pB cR f g)] (ckT1 J len cap cB p q most cR f g) := by
  obtain ⟨h1, h2, h0, h4, h5, h6⟩ := h
  refine fn_ok (E := ckE 3 true) (c := codeOf Try.f15) Try.func15 rfl EnvOK.nil (twoLoops (by kernel_rfl) ck_loop1 (ck_z 3 true)) rfl rfl fun Q hq => ?_
  rw [ck_fn1]
  refine T.hiteP (fun hn => absurd hn (by omega)) (fun _ => ?_)
  refine T.hneed ⟨rhoL [0, 1, 2], ck_sub1 (by simp [SubFr, slotAt, ren, below, rhoL]) (by simp [LAlike, ren, rhoL, below, AV.scalar, ckRe]) rfl rfl rfl rfl⟩ (T.hneed ⟨⟨h1, h2, h4, h5, h6⟩, rfl⟩ (T.hall fun j => T.hasm fun hj => ?_))
  have hq := hq j hj
  have hG : Int.toNat (goneOf (AV.sl 2 0 2 0 n c)) = n := by simp [goneOf]
  have hG' : goneOf (AV.sl 2 0 2 0 n c) = (n : Int) := rfl
  rw [hG, hG']
  refine T.hchk (by simp) (T.hchk rfl (T.hchk (by simp) (T.hchk (by simp; omega) (T.hchk (by simp; (repeat' split) <;> omega) (T.hiteP (fun _ => ?_) (fun h => absurd h (by omega)))))))
  repeat' first | with_reducible refine T.hneed trivial ?_ | with_reducible refine T.hneed rfl ?_ | with_reducible refine T.h_ff ?_ | with_reducible refine T.h_tt ?_ | with_reducible refine T.hall (fun _ => ?_) | with_reducible refine T.hasm (fun _ => ?_) | with_reducible refine T.hchk ?_ ?_
  all_goals first | rfl | (refine decide_eq_true ?_; omega) | (simp; done) | (simp; omega) | (simp at *; omega) | skip
  refine T.hret ?_
  exact leaf_of (rhoL [0, 1, 2]) hq (by simp [ren, renL]) (by simp [below, belowL]) (ck_sub1 (fr := []) (fr' := []) (by simp [SubFr]) (by simp [LAlike, ren, rhoL, below, AV.scalar, Ox.Alike, conc]) rfl rfl rfl rfl).2

def SkB (b : Blk) : Prop := b.rw = true ∧ b.s = 0 ∧ b.n = 0 ∧ b.post = []

def PrB (b : Blk) : Prop := b.rw = true ∧ PairRow b

theorem PrB.blk {b : Blk} (h : PrB b) (n : Nat) (ρ : Nat → Nat) : BlkOK n ρ b (pB b.n (fstAt b) (sndAt b)) := by
  obtain ⟨h0, h1, h2, h3, h4⟩ := h
  exact ⟨fun _ => h0, by rw [h1]; trivial, by rw [h2]; rfl, rfl, fun j hj => by rw [h4 j]; exact pairs_alike, by rw [h3]; trivial, trivial⟩

theorem SkB.blk {b : Blk} (h : SkB b) {n : Nat} {ρ : Nat → Nat} {l : List AV} (hl : LAlike n ρ b.pre l) : BlkOK n ρ b (skB l) := by
  obtain ⟨h1, h2, h3, h4⟩ := h
  exact ⟨fun _ => h1, hl, by rw [h2]; rfl, by rw [h3]; rfl, fun j hj => absurd hj (Nat.not_lt_zero j), by rw [h4]; trivial, trivial⟩

def ckS : List AV → AM → T (AV × AM)
  | [.ptr id 0 0 0, .int .i64 no], m => T.opt (m.get id) fun b =>
    match b.pre with
    | [.nils, .sl ic 0 2 J len cap, .int .i64 most, .tt] => T.opt (m.get ic) fun b1 =>
      .need (SkB b ∧ PrB b1 ∧ id ≠ ic) (.need (CkAll J len cap b1.n (fstAt b1) (sndAt b1) no most 0) (lift [id, ic] m [some (skB [.nils, .sl 1 0 2 J len cap, .int .i64 most, .tt]), some (pB b1.n (fstAt b1) (sndAt b1))] (ckT0 J len cap b1.n (fstAt b1) (sndAt b1) most)))
    | [.sl ir 0 2 0 n c, .sl ic 0 2 J len cap, .int .i64 most, .tt] => T.opt (m.get ic) fun b1 => T.opt (m.get ir) fun b2 =>
      .need (SkB b ∧ PrB b1 ∧ PrB b2 ∧ id ≠ ic ∧ id ≠ ir ∧ ic ≠ ir ∧ n ≤ c ∧ c ≤ b2.n) (.need (CkAll J len cap b1.n (fstAt b1) (sndAt b1) no most n) (lift [id, ic, ir] m [some (skB [.sl 2 0 2 0 n c, .sl 1 0 2 J len cap, .int .i64 most, .tt]), some (pB b1.n (fstAt b1) (sndAt b1)), some (pB b2.n (fstAt b2) (sndAt b2))] (ckT1 J len cap b1.n (fstAt b1) (sndAt b1) most b2.n (fstAt b2) (sndAt b2))))
    | _ => .fail
  | _, _ => .fail

theorem ck_ok : SummOK Try.prog 15 (.eff ckS) := by
  refine ⟨fun args w => Try.call15 args w, fun args m Q hq hb => ?_⟩
  unfold ckS at hq
  split at hq
  · rename_i id no
    obtain ⟨b, hg, hq⟩ := T.holds_opt hq
    split at hq
    · rename_i ic J len cap most hpre
      obtain ⟨b1, hg1, hq⟩ := T.holds_opt hq
      obtain ⟨⟨k1, k2, k3⟩, k4, hq⟩ := hq
      have l0 := AM.get_lt hg
      have l1 := AM.get_lt hg1
      refine lift_ok (argsc := [.ptr 0 0 0 0, .int .i64 no]) (ck_eff0 J len cap b1.n (fstAt b1) (sndAt b1) no most k4) [id, ic] rfl (by simp [l0, l1]) ?_ ?_ ?_ Q hq hb
      · refine Sub.of ⟨⟨_, hg, k1.blk ?_⟩, ⟨_, hg1, k2.blk _ _⟩, trivial⟩ ?_ (fun i hi => by omega) (Nat.zero_le _)
        · rw [hpre]; simp [LAlike, ren, below, AV.scalar, out]
        · intro i j hi hj hij
          simp at hi hj
          have : (i = 0 ∨ i = 1) ∧ (j = 0 ∨ j = 1) := by omega
          rcases this with ⟨rfl | rfl, rfl | rfl⟩ <;> simp_all [out] <;> omega
      · simp [belowL, below]
      · simp [renL, ren, out]
    · rename_i ir n c ic J len cap most hpre
      obtain ⟨b1, hg1, hq⟩ := T.holds_opt hq
      obtain ⟨b2, hg2, hq⟩ := T.holds_opt hq
      obtain ⟨⟨k1, k2, k3, k5, k6, k7, k8, k9⟩, k4, hq⟩ := hq
      have l0 := AM.get_lt hg
      have l1 := AM.get_lt hg1
      have l2 := AM.get_lt hg2
      refine lift_ok (argsc := [.ptr 0 0 0 0, .int .i64 no]) (ck_eff1 J len cap b1.n (fstAt b1) (sndAt b1) no most n c b2.n (fstAt b2) (sndAt b2) k8 k9 k4) [id, ic, ir] rfl (by simp [l0, l1, l2]) ?_ ?_ ?_ Q hq hb
      · refine Sub.of ⟨⟨_, hg, k1.blk ?_⟩, ⟨_, hg1, k2.blk _ _⟩, ⟨_, hg2, k3.blk _ _⟩, trivial⟩ ?_ (fun i hi => by omega) (Nat.zero_le _)
        · rw [hpre]; simp [LAlike, ren, below, AV.scalar, out]
        · intro i j hi hj hij
          simp at hi hj
          have : (i = 0 ∨ i = 1 ∨ i = 2) ∧ (j = 0 ∨ j = 1 ∨ j = 2) := by omega
          rcases this with ⟨rfl | rfl | rfl, rfl | rfl | rfl⟩ <;> simp_all [out] <;> omega
      · simp [belowL, below]
      · simp [renL, ren, out]
    · exact hq.elim
  · exact hq.elim

end Go.Proofs.Ythfgojdpnbpjbaa
