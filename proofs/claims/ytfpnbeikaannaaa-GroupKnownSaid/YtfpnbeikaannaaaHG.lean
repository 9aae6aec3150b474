/-
  Layer 8: the document's Of; GroupTells.
-/
import Derived.Test.YtfpnbeikaannaaaHF
import Derived.Laws.Bits64
namespace Go.Proofs.Ytfpnbeikaannaaa
open Go.Ox
set_option maxRecDepth 100000
set_option linter.unusedVariables false
set_option linter.unusedSimpArgs false

theorem ofInt32 (a : Nat) (h : a < 4294967296) : (BitVec.ofInt 32 (a : Int)).toNat = a := by
  rw [BitVec.toNat_ofInt]; omega
theorem xor32 (a b : Nat) (ha : a < 4294967296) (hb : b < 4294967296) : bits .xor .u32 (a : Int) (b : Int) = ((a ^^^ b : Nat) : Int) := by
  have hx : a ^^^ b < 2 ^ 32 := Nat.xor_lt_two_pow (by omega) (by omega)
  show IntKind.wrap .u32 (((BitVec.ofInt 32 (a : Int)) ^^^ (BitVec.ofInt 32 (b : Int))).toNat : Int) = _
  rw [BitVec.toNat_xor, ofInt32 a ha, ofInt32 b hb, IntWalk.u32_in _ (by omega)]

theorem fo_step {k s : Int} {i : Nat} (hi : i < 8) (h0 : 0 ≤ s) (h1 : s < 4294967296) :
    Int.tmod (IntKind.wrap .u64 (bits BinOp.xor .u64 s (Int.tmod (IntKind.wrap .u64 k / 2 ^ (8 * i)) 256) * 16777619)) 4294967296 = stepO k s i := by
  have hw : IntKind.wrap .i64 (8 * (i : Int)) = ((8 * i : Nat) : Int) := by rw [IntWalk.i64_in _ (by omega)]; omega
  unfold stepO
  rw [hw, Int.toNat_natCast, Nat.min_eq_left (by omega)]
  have hK0 : 0 ≤ IntKind.wrap .u64 k := by rw [IntKind.wrap_u64]; omega
  obtain ⟨K, hK⟩ := Int.eq_ofNat_of_zero_le hK0
  rw [hK]
  have e1 : (K : Int) / 2 ^ (8 * i) = ((K / 2 ^ (8 * i) : Nat) : Int) := by simp
  have e2 : Int.fdiv (K : Int) (2 ^ (8 * i)) = ((K / 2 ^ (8 * i) : Nat) : Int) := by
    rw [Int.fdiv_eq_ediv_of_nonneg _ (Int.le_of_lt (Int.pow_pos (by omega))), e1]
  rw [e1, e2]
  generalize K / 2 ^ (8 * i) = y
  obtain ⟨u, rfl⟩ := Int.eq_ofNat_of_zero_le h0
  have e3 : Int.tmod (y : Int) 256 = ((y % 256 : Nat) : Int) := by rw [Int.tmod_eq_emod_of_nonneg (by omega)]; omega
  have e4 : IntKind.wrap .u32 (IntKind.wrap .u8 (y : Int)) = ((y % 256 : Nat) : Int) := by rw [IntKind.wrap_u8, IntWalk.u32_in _ (by omega)]; omega
  have hb : y % 256 < 256 := Nat.mod_lt _ (by omega)
  rw [e3, e4, xor32 u (y % 256) (by omega) (by omega), bits_xor_u64_nat u (y % 256) (by omega) (by omega)]
  have hx : u ^^^ (y % 256) < 2 ^ 32 := Nat.xor_lt_two_pow (by omega) (by omega)
  generalize u ^^^ (y % 256) = v at *
  have e5 : IntKind.wrap .u64 ((v : Int) * 16777619) = (v : Int) * 16777619 := by rw [IntKind.wrap_u64]; omega
  rw [e5, IntKind.wrap_u32, Int.tmod_eq_emod_of_nonneg (by omega)]

theorem fo_next (k : Int) (i : Nat) (hi : i < 8) : IntKind.wrap .u64 (Int.tdiv (IntKind.wrap .u64 k / 2 ^ (8 * i)) 256) = IntKind.wrap .u64 k / 2 ^ (8 * (i + 1)) := by
  have hK0 : 0 ≤ IntKind.wrap .u64 k ∧ IntKind.wrap .u64 k < 18446744073709551616 := by rw [IntKind.wrap_u64]; omega
  obtain ⟨K, hK⟩ := Int.eq_ofNat_of_zero_le hK0.1
  rw [hK] at hK0 ⊢
  have e1 : ∀ n, (K : Int) / 2 ^ n = ((K / 2 ^ n : Nat) : Int) := fun n => by simp
  have hle : K / 2 ^ (8 * i) ≤ K := Nat.div_le_self _ _
  rw [e1, e1, show 8 * (i + 1) = 8 * i + 8 by omega, Nat.pow_add, ← Nat.div_div_eq_div_mul]
  clear e1
  generalize K / 2 ^ (8 * i) = y at *
  rw [Int.tdiv_eq_ediv_of_nonneg (by omega), IntKind.wrap_u64]
  omega

theorem fo_loop : LoopOK Try.prog foE (loopAt (codeOf Try.f13) 0) := by
  refine loopSumm_ok EnvOK.nil (noLoops (by kernel_rfl)) fo1 ofInv (fun x => 8 - x.2.2) ofPick foX ?_ (by kernel_rfl)
  rintro ⟨k, g, i⟩ h1 Q hq
  have h1 : i ≤ 8 := h1
  refine round_keep [0, 1, 5, 6, 7] ?_
  rw [fo_tree]
  refine T.hite (fun h => ?_) (fun h => ?_)
  · have h : i < 8 := by simp at h; omega
    have hr := fnvO_range k i
    have hw : IntKind.wrap IntKind.i64 ((i : Int) + 1) = ((i + 1 : Nat) : Int) := by rw [IntWalk.i64_in _ (by omega)]; omega
    rw [fo_step h hr.1 hr.2, fo_next k i h, hw]
    exact T.hchk rfl (T.hchk rfl (T.hchk rfl (Round.go (k, g, i + 1) id (show i + 1 ≤ 8 by omega) (by dsimp only; omega) (SubSt.mk (by simp [fo1, SubFr, slotAt, ren, below, fnvO]) (Sub.nil _ _)) hq)))
  · have h : i = 8 := by simp at h; omega
    subst h
    exact Round.out id ⟨[(1, .int .i64 g), (5, .int .u64 (fnvO k 8))], []⟩ (SubSt.mk (by simp [SubFr, slotAt, ren, below]) (Sub.nil _ _)) hq

theorem fo_ok : SummOK Try.prog 13 (.pure fun args _ => ofS args) := by
  refine pure_fn (E := foE) (c := codeOf Try.f13) (fun args w => Try.call13 args w) Try.func13 rfl EnvOK.nil (oneLoop (by kernel_rfl) fo_loop) rfl rfl ?_
  intro args Q hq
  unfold ofS at hq ⊢
  split at hq
  · rename_i k g
    refine ⟨by simp [plainL, plain], by simp [plain, T.holds], fun Q hq => ?_⟩
    have hq : Q (AV.int .i64 (ofG k g)) := hq
    rw [fo_fn]
    by_cases h : 1 ≤ g ∧ g ≤ 64
    · have hr := fnvO_range k 8
      have e1 : IntKind.wrap .u64 g = g := by rw [IntKind.wrap_u64]; omega
      have e0 := Int.emod_nonneg (fnvO k 8) (show g ≠ 0 by omega)
      have e3 := Int.emod_lt_of_pos (fnvO k 8) (show 0 < g by omega)
      have e2 : IntKind.wrap .i64 (Int.tmod (fnvO k 8) g) = fnvO k 8 % g := by rw [Int.tmod_eq_emod_of_nonneg hr.1, IntWalk.i64_in _ (by omega)]
      simp only [ofG, h, and_self, if_true] at hq
      simp only [e1, e2]
      refine T.hite (fun h1 => by simp at h1; omega) (fun _ => T.hite (fun h1 => by simp at h1; omega) (fun _ => ?_))
      exact T.hneed ⟨id, SubSt.mk (by simp [fo1, SubFr, slotAt, ren, below, fnvO]) (Sub.nil _ _)⟩ (T.hneed (Nat.zero_le _) (T.hchk (by simp; omega) ⟨by simp [plain], hq⟩))
    · have hq : Q (AV.int .i64 0) := by simpa [ofG, h] using hq
      have hr : plain (AV.int IntKind.i64 0) = true ∧ Q (AV.int .i64 0) := ⟨by simp [plain], hq⟩
      refine T.hite (fun h1 => hr) (fun h0 => T.hite (fun h1 => hr) (fun h1 => ?_))
      exfalso
      simp at h0 h1
      exact h ⟨h0, h1⟩
  · exact hq.elim

noncomputable def teE : Env := { nt := Try.f3.ntmps, n0 := 0, fns := [(10, .pure fun args _ => raS args), (11, .pure fun args _ => raS args), (12, .pure fun args _ => ofS args), (13, .pure fun args _ => ofS args), (14, .pure fun args _ => owS args), (15, .pure fun args _ => owS args), (16, .pure fun args _ => woS args)], loop := fun _ _ => .fail }

theorem te_fn (k t p g : Int) : afn Try.prog teE Try.f3 (codeOf Try.f3) [.int .i64 k, .int .i64 t, .int .i64 p, .int .i64 g] [] = 
  T.ite (ofG k g == ofG k g) (T.ite (owG t p g == owG t p g) (T.ite (rlo t p g == rlo t p g) (T.ite (rhi t p g == rhi t p g) (T.ret (AV.bool true, [])) (T.ret (AV.ff, []))) (T.ret (AV.ff, []))) (T.ret (AV.ff, []))) (T.ret (AV.ff, [])) := by
  kernel_rfl

theorem teE_ok : EnvOK Try.prog teE.fns := EnvOK.cons ra_ok (EnvOK.cons rr_ok (EnvOK.cons of_ok (EnvOK.cons fo_ok (EnvOK.cons ow_ok (EnvOK.cons ro_ok' (EnvOK.cons wo_ok EnvOK.nil))))))

theorem te_law (k t p g : Int) (w : World) : Calls Try.prog 3 #[.int .i64 k, .int .i64 t, .int .i64 p, .int .i64 g] w fun e w' => e = .returned (.bool true) ∧ RowKit.Grown w w' := by
  refine law_walk (E := teE) (c := codeOf Try.f3) Try.func3 rfl teE_ok (noLoops (by kernel_rfl)) rfl rfl [.int .i64 k, .int .i64 t, .int .i64 p, .int .i64 g] rfl (by simp [concL, conc]) ?_ w
  rw [te_fn]
  simp [T.holds, AV.yes]

end Go.Proofs.Ytfpnbeikaannaaa
