/-
  Layer 1: how many bits; the loops of the division of two words by one (Knuth's).
-/
import Derived.Test.YtlebekeplkkciaaHF
namespace Go.Proofs.Ytlebekeplkkciaa
open Go.Ox Go.Proofs
set_option maxRecDepth 100000
set_option maxHeartbeats 4000000
set_option linter.unusedVariables false
set_option linter.unusedSimpArgs false

def strsOf : Code → List ByteArray
  | .seq a b => strsOf a ++ strsOf b
  | .cond _ a b => strsOf a ++ strsOf b
  | .region _ ops _ => ops.toList.flatMap fun o => match o.op with
    | .index _ (.const (.string s)) _ => [s]
    | _ => []
  | _ => []
noncomputable def tab : ByteArray := (strsOf (codeOf Try.f53)).getD 0 ByteArray.empty
noncomputable def lk (n x : Int) : T AV := .chk (decide (0 ≤ IntKind.wrap .u8 x) && decide (IntKind.wrap .u8 x < ((256 : Nat) : Int))) (.ret (.int .i64 (IntKind.wrap .i64 (n + IntKind.wrap .i64 (strAt tab (IntKind.wrap .u8 x).toNat)))))

theorem len_fn (x : Int) : vfn Try.prog (noE Try.f53.ntmps) Try.f53 (codeOf Try.f53) [.int .u64 x] =
    .ite (decide (x ≥ 4294967296)) (.chk true (.ite (decide (Int.fdiv x (2 ^ 32) ≥ 65536)) (.chk true (.ite (decide (Int.fdiv (Int.fdiv x (2 ^ 32)) (2 ^ 16) ≥ 256)) (.chk true (lk (IntKind.wrap .i64 (IntKind.wrap .i64 (32 + 16) + 8)) (Int.fdiv (Int.fdiv (Int.fdiv x (2 ^ 32)) (2 ^ 16)) (2 ^ 8)))) (lk (IntKind.wrap .i64 (32 + 16)) (Int.fdiv (Int.fdiv x (2 ^ 32)) (2 ^ 16)))))
      (.ite (decide (Int.fdiv x (2 ^ 32) ≥ 256)) (.chk true (lk (IntKind.wrap .i64 (32 + 8)) (Int.fdiv (Int.fdiv x (2 ^ 32)) (2 ^ 8)))) (lk 32 (Int.fdiv x (2 ^ 32))))))
      (.ite (decide (x ≥ 65536)) (.chk true (.ite (decide (Int.fdiv x (2 ^ 16) ≥ 256)) (.chk true (lk (IntKind.wrap .i64 (IntKind.wrap .i64 (0 + 16) + 8)) (Int.fdiv (Int.fdiv x (2 ^ 16)) (2 ^ 8)))) (lk (IntKind.wrap .i64 (0 + 16)) (Int.fdiv x (2 ^ 16)))))
      (.ite (decide (x ≥ 256)) (.chk true (lk (IntKind.wrap .i64 (0 + 8)) (Int.fdiv x (2 ^ 8)))) (lk 0 x))) := by
  kernel_rfl

theorem tab_ok : ∀ k, k < 256 → 0 ≤ strAt tab k ∧ strAt tab k ≤ 8 ∧ k < 2 ^ (strAt tab k).toNat ∧ (k = 0 → strAt tab k = 0) ∧ (k ≠ 0 → 1 ≤ strAt tab k ∧ 2 ^ ((strAt tab k).toNat - 1) ≤ k) := by
  decide +kernel

def nb (x : Int) : Nat :=
  if x ≥ 4294967296 then (if x ≥ 281474976710656 then (if x ≥ 72057594037927936 then 56 else 48) else if x ≥ 1099511627776 then 40 else 32)
  else if x ≥ 65536 then (if x ≥ 16777216 then 24 else 16) else if x ≥ 256 then 8 else 0
noncomputable def lenG (x : Int) : Int := (nb x : Int) + strAt tab (x / 2 ^ nb x).toNat
noncomputable def lenS : List AV → T AV
  | [.int .u64 x] => .chk (u64B x) (.ret (.int .i64 (lenG x)))
  | _ => .fail

theorem nb_rng {x : Int} (h : 0 ≤ x ∧ x ≤ 18446744073709551615) : nb x ≤ 56 ∧ 0 ≤ x / 2 ^ nb x ∧ x / 2 ^ nb x < 256 ∧ (1 ≤ x → 1 ≤ x / 2 ^ nb x) := by
  unfold nb
  repeat' split
  all_goals refine ⟨by omega, by omega, by omega, fun _ => by omega⟩

theorem lk_holds {n x v : Int} {m : Nat} (hx : 0 ≤ x ∧ x < 256) (hn : n = (m : Int)) (hm : m ≤ 56) (hv : v = (m : Int) + strAt tab x.toNat) : (lk n x).holds fun r => Ox.Alike r (.int .i64 v) := by
  have e : IntKind.wrap .u8 x = x := by rw [IntKind.wrap_u8]; omega
  have t := tab_ok x.toNat (by omega)
  unfold lk
  rw [e]
  refine T.hchk (by simp; omega) (T.hret (Alike_of_eq ?_))
  rw [hv, hn, IntWalk.i64_in (strAt tab x.toNat) (by omega), IntWalk.i64_in _ (by omega)]

theorem len_ok : SummOK Try.prog 53 (.pure fun args _ => lenS args) := by
  refine val_fn (E := noE Try.f53.ntmps) (c := codeOf Try.f53) (fun args w => Try.call53 args w) Try.func53 rfl (EnvOK.nil) (noLoops (by kernel_rfl)) rfl rfl ?_
  intro args Q hq
  unfold lenS at hq ⊢
  split at hq
  · rename_i x
    obtain ⟨hc, hq⟩ := hq
    refine ⟨rfl, _, rfl, fun Q h => h.2, ⟨hc, rfl⟩, ?_⟩
    rw [u64_iff] at hc
    have f32 : ∀ z : Int, Int.fdiv z (2 ^ 32) = z / 4294967296 := fun z => by rw [Int.fdiv_eq_ediv_of_nonneg _ (by decide)]; rfl
    have f16 : ∀ z : Int, Int.fdiv z (2 ^ 16) = z / 65536 := fun z => by rw [Int.fdiv_eq_ediv_of_nonneg _ (by decide)]; rfl
    have f8 : ∀ z : Int, Int.fdiv z (2 ^ 8) = z / 256 := fun z => by rw [Int.fdiv_eq_ediv_of_nonneg _ (by decide)]; rfl
    rw [len_fn]
    simp only [f32, f16, f8]
    have fin : ∀ (m : Nat) (n z : Int), nb x = m → n = (m : Int) → m ≤ 56 → z = x / 2 ^ m → (lk n z).holds fun r => Ox.Alike r (.int .i64 (lenG x)) := fun m n z h1 h2 h3 h4 => by
      have := nb_rng hc
      rw [h1] at this
      exact lk_holds (m := m) (by rw [h4]; exact ⟨this.2.1, this.2.2.1⟩) h2 h3 (by unfold lenG; rw [h1, h4])
    refine T.hiteP (fun h => T.hchk rfl (T.hiteP (fun h' => T.hchk rfl (T.hiteP (fun h2 => T.hchk rfl (fin 56 _ _ ?_ (by decide) (by decide) ?_)) (fun h2 => fin 48 _ _ ?_ (by decide) (by decide) ?_))) (fun h' => T.hiteP (fun h2 => T.hchk rfl (fin 40 _ _ ?_ (by decide) (by decide) ?_)) (fun h2 => fin 32 _ _ ?_ (by decide) (by decide) ?_))))
      (fun h => T.hiteP (fun h' => T.hchk rfl (T.hiteP (fun h2 => T.hchk rfl (fin 24 _ _ ?_ (by decide) (by decide) ?_)) (fun h2 => fin 16 _ _ ?_ (by decide) (by decide) ?_))) (fun h' => T.hiteP (fun h2 => T.hchk rfl (fin 8 _ _ ?_ (by decide) (by decide) ?_)) (fun h2 => fin 0 _ _ ?_ (by decide) (by decide) ?_)))
    all_goals first
      | (unfold nb; repeat' split) <;> omega
      | (show _ = x / _; omega)
  · exact hq.elim

theorem len_rng {x : Int} (h : 0 ≤ x ∧ x ≤ 18446744073709551615) : 0 ≤ lenG x ∧ lenG x ≤ 64 := by
  obtain ⟨h1, h2, h3, h4⟩ := nb_rng h
  have t := tab_ok (x / 2 ^ nb x).toNat (by omega)
  unfold lenG; omega

/-- Shifted so far, the highest bit is set. -/
theorem len_norm {x : Nat} (h0 : 1 ≤ x) (h : x ≤ 18446744073709551615) : ∃ s : Nat, 64 - lenG x = (s : Int) ∧ s ≤ 63 ∧ 9223372036854775808 ≤ x * 2 ^ s ∧ x * 2 ^ s < 18446744073709551616 := by
  obtain ⟨h1, h2, h3, h4⟩ := nb_rng (x := (x : Int)) (by omega)
  have h4 := h4 (by omega)
  have t := tab_ok ((x : Int) / 2 ^ nb x).toNat (by omega)
  have hk : ((x : Int) / 2 ^ nb x).toNat = x / 2 ^ nb x := by
    have : ((x : Int) / 2 ^ nb x) = ((x / 2 ^ nb x : Nat) : Int) := by
      rw [Int.natCast_ediv, Int.natCast_pow]; rfl
    rw [this, Int.toNat_natCast]
  unfold lenG
  rw [hk] at t ⊢
  generalize hn : nb x = n at *
  generalize ht : strAt tab (x / 2 ^ n) = tt at *
  obtain ⟨w, rfl⟩ : ∃ w : Nat, tt = (w : Int) := ⟨tt.toNat, by omega⟩
  simp only [Int.toNat_natCast] at t
  obtain ⟨t1, t2, t3, t4, t5⟩ := t
  have hk1 : 1 ≤ x / 2 ^ n := by
    have : 1 ≤ ((x : Int) / 2 ^ n).toNat := by omega
    rw [hk] at this; exact this
  obtain ⟨t5, t6⟩ := t5 (by omega)
  refine ⟨64 - (n + w), by omega, by omega, ?_, ?_⟩
  · have a1 : 2 ^ (w - 1) * 2 ^ n ≤ x := Nat.le_trans (Nat.mul_le_mul_right _ t6) (Nat.div_mul_le_self x _)
    have a2 : 2 ^ (w - 1) * 2 ^ n * 2 ^ (64 - (n + w)) ≤ x * 2 ^ (64 - (n + w)) := Nat.mul_le_mul_right _ a1
    rw [← Nat.pow_add, ← Nat.pow_add, show w - 1 + n + (64 - (n + w)) = 63 from by omega] at a2
    exact a2
  · have a1 : x < (x / 2 ^ n + 1) * 2 ^ n := by
      have := Nat.lt_div_mul_add (a := x) (b := 2 ^ n) (Nat.pow_pos (by decide))
      rw [Nat.add_mul, Nat.one_mul]; exact this
    have a2 : (x / 2 ^ n + 1) * 2 ^ n ≤ 2 ^ w * 2 ^ n := Nat.mul_le_mul_right _ t3
    have a3 : x * 2 ^ (64 - (n + w)) < 2 ^ w * 2 ^ n * 2 ^ (64 - (n + w)) := (Nat.mul_lt_mul_right (Nat.pow_pos (by decide))).2 (by omega)
    rw [← Nat.pow_add, ← Nat.pow_add, show w + n + (64 - (n + w)) = 64 from by omega] at a3
    exact a3

noncomputable def lzE (nt : Nat) : Env := { nt, n0 := 0, loop := fun _ _ => .fail, fns := [(53, .pure fun args _ => lenS args)] }

theorem lz_fn (x : Int) : vfn Try.prog (lzE Try.f52.ntmps) Try.f52 (codeOf Try.f52) [.int .u64 x] = 
  T.chk (u64B x) (T.ret (AV.int IntKind.i64 (IntKind.wrap IntKind.i64 ((64 : Int) - lenG x)))) := by
  kernel_rfl

noncomputable def lzS : List AV → T AV
  | [.int .u64 x] => .chk (u64B x) (.ret (.int .i64 (64 - lenG x)))
  | _ => .fail

theorem lz_ok : SummOK Try.prog 52 (.pure fun args _ => lzS args) := by
  refine val_fn (E := lzE Try.f52.ntmps) (c := codeOf Try.f52) (fun args w => Try.call52 args w) Try.func52 rfl ((EnvOK.cons len_ok EnvOK.nil)) (noLoops (by kernel_rfl)) rfl rfl ?_
  intro args Q hq
  unfold lzS at hq ⊢
  split at hq
  · rename_i x
    obtain ⟨hc, hq⟩ := hq
    refine ⟨rfl, _, rfl, fun Q h => h.2, ⟨hc, rfl⟩, ?_⟩
    have hr := len_rng (u64_iff.1 hc)
    rw [lz_fn]
    exact T.hchk hc (T.hret (Alike_of_eq (by rw [IntWalk.i64_in _ (by omega)])))
  · exact hq.elim

theorem kn_init {y1 y0 u n1 : Nat} (h1 : 2147483648 ≤ y1) (h0 : y0 < 4294967296) (hu : u < y1 * 4294967296 + y0) (hn : n1 < 4294967296) :
    (u / y1) * y1 + u % y1 = u ∧ (u * 4294967296 + n1) / (y1 * 4294967296 + y0) ≤ u / y1 ∧ u / y1 ≤ 4294967297 ∧ u % y1 < y1 := by
  have e := Nat.div_add_mod' u y1
  have hm := Nat.mod_lt u (show 0 < y1 by omega)
  refine ⟨e, ?_, ?_, hm⟩
  · have : (u * 4294967296 + n1) / (y1 * 4294967296 + y0) < u / y1 + 1 := by
      rw [Nat.div_lt_iff_lt_mul (by omega)]
      have e2 : (u / y1 + 1) * (y1 * 4294967296 + y0) = (u / y1 * y1) * 4294967296 + y1 * 4294967296 + (u / y1 + 1) * y0 := by
        rw [Nat.mul_add, Nat.add_mul _ _ (y1 * 4294967296), Nat.one_mul, Nat.mul_assoc]
      rw [e2]
      generalize u / y1 * y1 = k at *
      omega
    omega
  · have : u / y1 < 4294967298 := by
      rw [Nat.div_lt_iff_lt_mul (by omega)]; omega
    omega

theorem kn_stop {y1 y0 u n1 q r : Nat} (hy : 0 < y1) (he : q * y1 + r = u) (hq : (u * 4294967296 + n1) / (y1 * 4294967296 + y0) ≤ q) (h : q * y0 ≤ 4294967296 * r + n1) :
    q = (u * 4294967296 + n1) / (y1 * 4294967296 + y0) := by
  refine Nat.le_antisymm ?_ hq
  rw [Nat.le_div_iff_mul_le (by omega)]
  have e2 : q * (y1 * 4294967296 + y0) = (q * y1) * 4294967296 + q * y0 := by rw [Nat.mul_add, Nat.mul_assoc]
  rw [e2]
  generalize q * y1 = k at *
  omega

theorem kn_go {y1 y0 u n1 q r : Nat} (hy : 0 < y1) (hu : u < y1 * 4294967296 + y0) (hn : n1 < 4294967296) (he : q * y1 + r = u) (h : 4294967296 ≤ q ∨ 4294967296 * r + n1 < q * y0) :
    1 ≤ q ∧ (u * 4294967296 + n1) / (y1 * 4294967296 + y0) ≤ q - 1 ∧ (q - 1) * y1 + (r + y1) = u := by
  have hlt : (u * 4294967296 + n1) / (y1 * 4294967296 + y0) < q := by
    rw [Nat.div_lt_iff_lt_mul (by omega)]
    rcases h with h | h
    · have : 4294967296 * (y1 * 4294967296 + y0) ≤ q * (y1 * 4294967296 + y0) := Nat.mul_le_mul_right _ h
      omega
    · have e2 : q * (y1 * 4294967296 + y0) = (q * y1) * 4294967296 + q * y0 := by rw [Nat.mul_add, Nat.mul_assoc]
      rw [e2]
      generalize q * y1 = k at *
      omega
  generalize (u * 4294967296 + n1) / (y1 * 4294967296 + y0) = D at *
  refine ⟨by omega, by omega, ?_⟩
  obtain ⟨p, rfl⟩ : ∃ p, q = p + 1 := ⟨q - 1, by omega⟩
  rw [Nat.add_mul, Nat.one_mul] at he
  rw [Nat.add_sub_cancel]
  omega

theorem kn_brk {y0 n1 q r : Nat} (h0 : y0 < 4294967296) (hq : q ≤ 4294967296) (hr : 4294967296 ≤ r) : q * y0 ≤ 4294967296 * r + n1 := by
  have h1 : q * y0 ≤ 4294967296 * 4294967295 := Nat.mul_le_mul hq (by omega)
  omega

end Go.Proofs.Ytlebekeplkkciaa
