/-
  Layer 1: Div64's contract, and those on it.
-/
import Derived.Test.YtlebekeplkkciaaHN
import Derived.Test.YtlebekeplkkciaaHG
namespace Go.Proofs.Ytlebekeplkkciaa
open Go.Ox Go.Proofs
set_option maxRecDepth 100000
set_option maxHeartbeats 4000000
set_option linter.unusedVariables false
set_option linter.unusedSimpArgs false

theorem pow_split {S : Nat} (h : S ≤ 64) : 2 ^ (64 - S) * 2 ^ S = 18446744073709551616 := by
  rw [← Nat.pow_add, show 64 - S + S = 64 from by omega]
theorem kn_uv {H L S : Nat} (hS : S ≤ 64) : (H * 2 ^ S + L / 2 ^ (64 - S)) * 18446744073709551616 + L * 2 ^ S % 18446744073709551616 = (H * 18446744073709551616 + L) * 2 ^ S := by
  have e1 : L * 2 ^ S / 18446744073709551616 = L / 2 ^ (64 - S) := by
    conv => lhs; rw [← pow_split hS]
    exact Nat.mul_div_mul_right L _ (Nat.pow_pos (by decide))
  have e2 := Nat.div_add_mod' (L * 2 ^ S) 18446744073709551616
  rw [e1] at e2
  have e3 : H * 2 ^ S * 18446744073709551616 = H * 18446744073709551616 * 2 ^ S := by ac_rfl
  rw [Nat.add_mul, Nat.add_mul, e3, Nat.add_assoc, e2]
theorem kn_u {H L Y S : Nat} (hH : H < Y) (hL : L < 18446744073709551616) (hS : S ≤ 64) : H * 2 ^ S + L / 2 ^ (64 - S) < Y * 2 ^ S ∧ L / 2 ^ (64 - S) < 2 ^ S := by
  have h1 : L / 2 ^ (64 - S) < 2 ^ S := by
    rw [Nat.div_lt_iff_lt_mul (Nat.pow_pos (by decide)), Nat.mul_comm, pow_split hS]; exact hL
  have h2 : (H + 1) * 2 ^ S ≤ Y * 2 ^ S := Nat.mul_le_mul_right _ hH
  rw [Nat.add_mul, Nat.one_mul] at h2
  exact ⟨by omega, h1⟩
theorem kn_final {H L Yo S : Nat} (hS : S ≤ 64) (hY : 0 < Yo) {U V Y : Nat} (hU : U = H * 2 ^ S + L / 2 ^ (64 - S)) (hV : V = L * 2 ^ S % 18446744073709551616) (hYY : Y = Yo * 2 ^ S) {N R : Nat} (hN : N = U * 4294967296 + V / 4294967296) (hR : R = N % Y) :
    N / Y * 4294967296 + (R * 4294967296 + V % 4294967296) / Y = (H * 18446744073709551616 + L) / Yo ∧ (R * 4294967296 + V % 4294967296) % Y / 2 ^ S = (H * 18446744073709551616 + L) % Yo := by
  have hp : 0 < 2 ^ S := Nat.pow_pos (by decide)
  have hYp : 0 < Y := by rw [hYY]; exact Nat.mul_pos hY hp
  have h1 := Nat.div_add_mod' N Y
  rw [← hR] at h1
  have h2 := Nat.div_add_mod' (R * 4294967296 + V % 4294967296) Y
  have h3 := Nat.mod_lt (R * 4294967296 + V % 4294967296) hYp
  have h4 := kn_uv (H := H) (L := L) hS
  rw [← hU, ← hV] at h4
  obtain ⟨Q, hQ⟩ : ∃ Q, Q = N / Y := ⟨_, rfl⟩
  obtain ⟨q, hq⟩ : ∃ q, q = (R * 4294967296 + V % 4294967296) / Y := ⟨_, rfl⟩
  obtain ⟨r, hr⟩ : ∃ r, r = (R * 4294967296 + V % 4294967296) % Y := ⟨_, rfl⟩
  rw [← hQ] at h1
  rw [← hq, ← hr] at h2
  rw [← hr] at h3
  rw [← hQ, ← hq, ← hr]
  have h5 : (H * 18446744073709551616 + L) * 2 ^ S = (Q * 4294967296 + q) * Y + r := by
    have e : (Q * 4294967296 + q) * Y = Q * Y * 4294967296 + q * Y := by rw [Nat.add_mul]; congr 1; ac_rfl
    rw [e, ← h4]
    clear hQ hq hr hU hV hYY hR
    omega
  have h6 : ((H * 18446744073709551616 + L) * 2 ^ S) / Y = Q * 4294967296 + q := by
    rw [h5, Nat.mul_comm _ Y, Nat.mul_add_div hYp, Nat.div_eq_of_lt h3, Nat.add_zero]
  have h7 : ((H * 18446744073709551616 + L) * 2 ^ S) % Y = r := by
    rw [h5, Nat.mul_comm _ Y, Nat.mul_add_mod, Nat.mod_eq_of_lt h3]
  rw [hYY] at h6 h7
  rw [Nat.mul_div_mul_right _ _ hp] at h6
  rw [Nat.mul_mod_mul_right] at h7
  refine ⟨h6.symm, ?_⟩
  rw [← h7, Nat.mul_div_cancel _ hp]

def dv64S : List AV → T AV
  | [.int .u64 h, .int .u64 l, .int .u64 y] => .chk ((u64B h && u64B l) && (u64B y && decide (h < y))) (.ret (.tup [.int .u64 (W h l / y), .int .u64 (W h l % y)]))
  | _ => .fail

theorem W_nat (H L : Nat) : W (H : Int) (L : Int) = ((H * 18446744073709551616 + L : Nat) : Int) := by unfold W; omega
theorem or_add {S H c : Nat} (hS : S ≤ 64) (hc : c < 2 ^ S) (h : H * 2 ^ S + c < 18446744073709551616) : bits .or .u64 ((H * 2 ^ S : Nat) : Int) (c : Int) = ((H * 2 ^ S + c : Nat) : Int) := by
  rw [bits_or_u64_nat _ _ (by omega) (by omega), Nat.mul_comm, Nat.two_pow_add_eq_or_of_lt hc]

theorem dv_main (H L Yo : Nat) (hH : H < Yo) (hL : L < 18446744073709551616) (hY : Yo < 18446744073709551616) (h0 : H ≠ 0) :
    (vfn Try.prog dvE Try.f48 (codeOf Try.f48) [.int .u64 (H : Int), .int .u64 (L : Int), .int .u64 (Yo : Int)]).holds fun r => Ox.Alike r (.tup [.int .u64 (W H L / Yo), .int .u64 (W H L % Yo)]) := by
  rw [dv_fn]
  refine T.hiteE (fun h => by omega) (fun _ => T.hiteP (fun h => by omega) (fun _ => T.hiteE (fun h => by omega) (fun _ => ?_)))
  obtain ⟨S, hS, hS63, n1, n2⟩ := len_norm (x := Yo) (by omega) (by omega)
  obtain ⟨u1, u2⟩ := kn_u (S := S) hH hL (by omega)
  have u64 : ∀ n : Nat, n < 18446744073709551616 → IntKind.wrap .u64 (n : Int) = (n : Int) := fun n h => by rw [IntKind.wrap_u64]; omega
  have eS := u64 S (by omega)
  have eS2 : IntKind.wrap .u64 (64 - (S : Int)) = ((64 - S : Nat) : Int) := by rw [IntKind.wrap_u64]; omega
  have pw : ∀ k : Nat, ((2 : Int) ^ k) = ((2 ^ k : Nat) : Int) := fun k => by rw [Int.natCast_pow]; rfl
  have mn1 : min S 64 = S := Nat.min_eq_left (by omega)
  have mn2 : min (64 - S) 64 = 64 - S := Nat.min_eq_left (by omega)
  have eY : IntKind.wrap .u64 ((Yo : Int) * 2 ^ S) = ((Yo * 2 ^ S : Nat) : Int) := by rw [pw, ← Int.natCast_mul]; exact u64 _ n2
  have eH : IntKind.wrap .u64 ((H : Int) * 2 ^ S) = ((H * 2 ^ S : Nat) : Int) := by rw [pw, ← Int.natCast_mul]; exact u64 _ (Nat.lt_of_le_of_lt (Nat.le_add_right _ _) (Nat.lt_trans u1 n2))
  have eL : Int.fdiv (L : Int) (2 ^ (64 - S)) = ((L / 2 ^ (64 - S) : Nat) : Int) := by rw [Int.fdiv_eq_ediv_of_nonneg _ (Int.le_of_lt (two_pos _)), pw]; rfl
  have eo : bits .or .u64 ((H * 2 ^ S : Nat) : Int) ((L / 2 ^ (64 - S) : Nat) : Int) = ((H * 2 ^ S + L / 2 ^ (64 - S) : Nat) : Int) := or_add (by omega) u2 (Nat.lt_trans u1 n2)
  have eV : IntKind.wrap .u64 ((L : Int) * 2 ^ S) = ((L * 2 ^ S % 18446744073709551616 : Nat) : Int) := by rw [pw, ← Int.natCast_mul, IntKind.wrap_u64]; omega
  have f32 : ∀ z : Nat, Int.fdiv (z : Int) (2 ^ 32) = ((z / 4294967296 : Nat) : Int) := fun z => by rw [Int.fdiv_eq_ediv_of_nonneg _ (by decide)]; rfl
  have hfin := kn_final (H := H) (L := L) (Yo := Yo) (S := S) (by omega) (by omega) rfl rfl rfl rfl rfl
  simp only [hS, eS, eS2, Int.toNat_natCast, mn1, mn2, eY, eH, eL, eo, eV, f32, Mul64.maskN _ n2, Mul64.maskN _ (Nat.mod_lt (L * 2 ^ S) (show 0 < 18446744073709551616 by decide))]
  generalize hYY : Yo * 2 ^ S = Y at *
  generalize hUU : H * 2 ^ S + L / 2 ^ (64 - S) = U at *
  generalize hVV : L * 2 ^ S % 18446744073709551616 = V at *
  have hVlt : V < 18446744073709551616 := by rw [← hVV]; exact Nat.mod_lt _ (by decide)
  have hsplit : Y = Y / 4294967296 * 4294967296 + Y % 4294967296 := (Nat.div_add_mod' Y 4294967296).symm
  generalize hy1 : Y / 4294967296 = y1 at *
  generalize hy0 : Y % 4294967296 = y0 at *
  have b1 : 2147483648 ≤ y1 ∧ y1 < 4294967296 := by omega
  have b0 : y0 < 4294967296 := by omega
  have td : ∀ a : Nat, IntKind.wrap .u64 (Int.tdiv (a : Int) (y1 : Int)) = ((a / y1 : Nat) : Int) ∨ 18446744073709551616 ≤ a := fun a => by
    rcases Nat.lt_or_ge a 18446744073709551616 with h | h
    · left
      rw [Int.tdiv_eq_ediv_of_nonneg (by omega)]
      exact u64 _ (Nat.lt_of_le_of_lt (Nat.div_le_self _ _) h)
    · exact .inr h
  have rh : ∀ a : Nat, a < 18446744073709551616 → IntKind.wrap .u64 ((a : Int) - IntKind.wrap .u64 (((a / y1 : Nat) : Int) * (y1 : Int))) = ((a % y1 : Nat) : Int) := fun a h => by
    have h1 := Nat.div_add_mod' a y1
    rw [← Int.natCast_mul, u64 _ (by omega), IntKind.wrap_u64]
    omega
  have hUlt : U < 18446744073709551616 := by omega
  have tU := (td U).resolve_right (by omega)
  have hy1z : (!((y1 : Int) == 0)) = true := by simp; omega
  obtain ⟨i1, i2, i3, i4⟩ := kn_init (y1 := y1) (y0 := y0) (u := U) (n1 := V / 4294967296) b1.1 b0 (by omega) (by omega)
  simp only [tU, rh U hUlt, Int.toNat_natCast]
  have ub : u64B (Yo : Int) = true := u64_iff.2 (by omega)
  refine T.hchk ub (T.hchk (by simp) (T.hchk rfl (T.hchk (by simp) (T.hchk (by simp) (T.hchk (by simp) (T.hchk rfl (T.hchk hy1z (T.hneed ⟨id, SubSt.mk (by simp [k1St, SubFr, slotAt, ren, below, w64]) (Sub.nil _ _)⟩ (T.hneed ⟨b1.1, b1.2, b0, by dsimp only [KN.Y]; omega, by dsimp only; omega, i1, i2, i3, by dsimp only; omega⟩ ?_)))))))))
  refine T.hall fun c => T.hall fun c1 => T.hall fun c2 => T.hall fun c3 => T.hall fun c4 => T.hall fun c5 => T.hall fun c6 => T.hall fun c7 => T.hasm fun hc => ?_
  have hc := of_decide_eq_true hc
  obtain ⟨⟨rfl, rfl, rfl, rfl⟩, rfl, rfl, rfl, hc7⟩ := hc
  dsimp only [KN.N, KN.Y] at hc7
  rw [← hsplit] at hc7 i2
  have hQ : c7 < 4294967296 := by
    rw [hc7, Nat.div_lt_iff_lt_mul (by omega)]
    omega
  have hN := Nat.div_add_mod' (c4 * 4294967296 + V / 4294967296) c
  rw [← hc7] at hN
  have hRlt := Nat.mod_lt (c4 * 4294967296 + V / 4294967296) (show 0 < c by omega)
  obtain ⟨R, hR⟩ : ∃ R, R = (c4 * 4294967296 + V / 4294967296) % c := ⟨_, rfl⟩
  rw [← hR] at hN hRlt
  have e21 : IntKind.wrap .u64 (IntKind.wrap .u64 (IntKind.wrap .u64 ((c4 : Int) * 4294967296) + ((V / 4294967296 : Nat) : Int)) - IntKind.wrap .u64 ((c7 : Int) * (c : Int))) = (R : Int) := by
    rw [← Int.natCast_mul]
    simp only [IntKind.wrap_u64]
    omega
  have tR := (td R).resolve_right (by omega)
  have rR := rh R (by omega)
  obtain ⟨j1, j2, j3, j4⟩ := kn_init (y1 := c2) (y0 := c3) (u := R) (n1 := V % 4294967296) b1.1 b0 (by omega) (by omega)
  simp only [e21, tR, rR, Int.toNat_natCast]
  refine T.hchk hy1z (T.hneed ⟨id, SubSt.mk (by simp [k2St, SubFr, slotAt, ren, below, w64]) (Sub.nil _ _)⟩ (T.hneed ⟨b1.1, b1.2, b0, by dsimp only [KN.Y]; omega, by dsimp only; omega, j1, j2, j3, by dsimp only; omega⟩ ?_))
  refine T.hall fun c8 => T.hall fun c9 => T.hasm fun hd => ?_
  obtain ⟨rfl, hc9⟩ := of_decide_eq_true hd
  dsimp only [KN.N, KN.Y] at hc9
  rw [← hsplit] at hc9
  rw [← hc7, ← hR, ← hc9] at hfin
  have hq0 : c9 < 4294967296 := by
    rw [hc9, Nat.div_lt_iff_lt_mul (by omega)]
    omega
  have hN2 := Nat.div_add_mod' (c8 * 4294967296 + V % 4294967296) c
  rw [← hc9] at hN2
  have hR2 := Nat.mod_lt (c8 * 4294967296 + V % 4294967296) (show 0 < c by omega)
  obtain ⟨R0, hR0⟩ : ∃ R0, R0 = (c8 * 4294967296 + V % 4294967296) % c := ⟨_, rfl⟩
  rw [← hR0] at hN2 hR2 hfin
  have er : IntKind.wrap .u64 (IntKind.wrap .u64 (IntKind.wrap .u64 ((c8 : Int) * 4294967296) + ((V % 4294967296 : Nat) : Int)) - IntKind.wrap .u64 ((c9 : Int) * (c : Int))) = (R0 : Int) := by
    rw [← Int.natCast_mul]
    simp only [IntKind.wrap_u64]
    omega
  refine T.hchk (by simp) (T.hret (al_ii ?_ ?_))
  · rw [W_nat, ← Int.natCast_ediv, ← hfin.1]
    simp only [IntKind.wrap_u64]
    omega
  · rw [er, W_nat, mn1, Int.fdiv_eq_ediv_of_nonneg _ (Int.le_of_lt (two_pos _)), pw, ← Int.natCast_ediv, ← Int.natCast_emod, hfin.2]

theorem dv_ok : SummOK Try.prog 48 (.pure fun args _ => dv64S args) := by
  refine val_fn (E := dvE) (c := codeOf Try.f48) (fun args w => Try.call48 args w) Try.func48 rfl ((EnvOK.cons lz_ok EnvOK.nil)) (fun c hc => ?_) rfl rfl ?_
  · have e : loopsIn (codeOf Try.f48) = [loopAt (codeOf Try.f48) 0, loopAt (codeOf Try.f48) 1] := by kernel_rfl
    rw [e] at hc
    rcases List.mem_cons.1 hc with rfl | hc
    · exact k1_loop
    · rw [List.mem_singleton] at hc
      subst hc
      exact k2_loop
  intro args Q hq
  unfold dv64S at hq ⊢
  split at hq
  · rename_i h l y
    obtain ⟨hc, hq⟩ := hq
    refine ⟨rfl, _, rfl, fun Q h => h.2, ⟨hc, rfl⟩, ?_⟩
    simp only [Bool.and_eq_true, u64_iff, decide_eq_true_eq] at hc
    obtain ⟨H, rfl⟩ := nat_of hc.1.1.1
    obtain ⟨L, rfl⟩ := nat_of hc.1.2.1
    obtain ⟨Y, rfl⟩ := nat_of hc.2.1.1
    by_cases h0 : H = 0
    · subst h0
      rw [dv_fn]
      have hz : (!((Y : Int) == 0)) = true := by simp; omega
      refine T.hiteE (fun h => by omega) (fun _ => T.hiteP (fun h => by omega) (fun _ => T.hiteE (fun _ => T.hchk hz (T.hchk hz (T.hret (al_ii ?_ ?_)))) (fun h => absurd rfl h)))
      · rw [show ((0 : Nat) : Int) = 0 from rfl, W_zero, Int.tdiv_eq_ediv_of_nonneg (by omega), IntKind.wrap_u64]
        have := ediv_bd (n := (L : Int)) (g := (Y : Int)) (by omega) (by omega)
        omega
      · rw [show ((0 : Nat) : Int) = 0 from rfl, W_zero, Int.tmod_eq_emod_of_nonneg (by omega)]
    · exact dv_main H L Y (by omega) (by omega) (by omega) h0
  · exact hq.elim

end Go.Proofs.Ytlebekeplkkciaa
