/-
  Layer 1: Div64.
-/
import Derived.Test.YtlebekeplkkciaaHJ
namespace Go.Proofs.Ytlebekeplkkciaa
open Go.Ox Go.Proofs
set_option maxRecDepth 100000
set_option maxHeartbeats 4000000
set_option linter.unusedVariables false
set_option linter.unusedSimpArgs false

structure KN where
  y : Nat
  s : Nat
  y1 : Nat
  y0 : Nat
  u : Nat
  n1 : Nat
  n0 : Nat
  p : Nat
  q : Nat
  r : Nat
def KN.N (x : KN) : Nat := x.u * 4294967296 + x.n1
def KN.Y (x : KN) : Nat := x.y1 * 4294967296 + x.y0
def w64 (n : Nat) : AV := .int .u64 (n : Int)
def k1St (x : KN) : St := ⟨[(2, w64 x.y), (8, w64 x.s), (9, w64 x.y1), (10, w64 x.y0), (11, w64 x.u), (13, w64 x.n1), (14, w64 x.n0), (15, w64 x.q), (16, w64 x.r)], []⟩
def k2St (x : KN) : St := ⟨[(2, w64 x.y), (8, w64 x.s), (9, w64 x.y1), (10, w64 x.y0), (14, w64 x.n1), (15, w64 x.p), (17, w64 x.u), (18, w64 x.q), (16, w64 x.r)], []⟩
def kInv (x : KN) : Prop := 2147483648 ≤ x.y1 ∧ x.y1 < 4294967296 ∧ x.y0 < 4294967296 ∧ x.u < x.Y ∧ x.n1 < 4294967296 ∧ x.q * x.y1 + x.r = x.u ∧ x.N / x.Y ≤ x.q ∧ x.q ≤ 4294967297 ∧ x.r < 4294967296
def k1Pick (st : St) : Option KN :=
  match slotAt st.fr 2, slotAt st.fr 8, slotAt st.fr 9, slotAt st.fr 10, slotAt st.fr 11, slotAt st.fr 13, slotAt st.fr 14, slotAt st.fr 15, slotAt st.fr 16 with
  | some (.int _ y), some (.int _ s), some (.int _ y1), some (.int _ y0), some (.int _ u), some (.int _ n1), some (.int _ n0), some (.int _ q), some (.int _ r) => some ⟨y.toNat, s.toNat, y1.toNat, y0.toNat, u.toNat, n1.toNat, n0.toNat, 0, q.toNat, r.toNat⟩
  | _, _, _, _, _, _, _, _, _ => none
def k2Pick (st : St) : Option KN :=
  match slotAt st.fr 2, slotAt st.fr 8, slotAt st.fr 9, slotAt st.fr 10, slotAt st.fr 17, slotAt st.fr 14, slotAt st.fr 15, slotAt st.fr 18, slotAt st.fr 16 with
  | some (.int _ y), some (.int _ s), some (.int _ y1), some (.int _ y0), some (.int _ u), some (.int _ n1), some (.int _ p), some (.int _ q), some (.int _ r) => some ⟨y.toNat, s.toNat, y1.toNat, y0.toNat, u.toNat, n1.toNat, 0, p.toNat, q.toNat, r.toNat⟩
  | _, _, _, _, _, _, _, _, _ => none
def k1End (x : KN) : T (Ex × St) := .all fun y => .all fun s => .all fun y1 => .all fun y0 => .all fun u => .all fun n1 => .all fun n0 => .all fun q => .asm (decide ((y = x.y ∧ s = x.s ∧ y1 = x.y1 ∧ y0 = x.y0) ∧ u = x.u ∧ n1 = x.n1 ∧ n0 = x.n0 ∧ q = x.N / x.Y))
  (.ret (.exit 0, ⟨[(2, w64 y), (8, w64 s), (9, w64 y1), (10, w64 y0), (11, w64 u), (13, w64 n1), (14, w64 n0), (15, w64 q)], []⟩))
def k2End (x : KN) : T (Ex × St) := .all fun u => .all fun q => .asm (decide (u = x.u ∧ q = x.N / x.Y))
  (.ret (.exit 2, ⟨[(2, w64 x.y), (8, w64 x.s), (14, w64 x.n1), (15, w64 x.p), (17, w64 u), (18, w64 q)], []⟩))
noncomputable def dvE : Env := { nt := Try.f48.ntmps, n0 := 0, fns := [(52, .pure fun args _ => lzS args)], loop := fun k => if k = 17 then loopSumm 0 k1St kInv k1Pick k1End else if k = 24 then loopSumm 0 k2St kInv k2Pick k2End else fun _ => .fail }

theorem k1_tree (y s y1 y0 u n1 n0 p q r : Nat) : keepT [2, 8, 9, 10, 11, 13, 14, 15, 16] (acode Try.prog dvE (loopAt (codeOf Try.f48) 0) (k1St ⟨y, s, y1, y0, u, n1, n0, p, q, r⟩)) = 
  T.ite (decide ((↑q : Int) ≥ (4294967296 : Int)))
    (T.ite (decide (IntKind.wrap IntKind.u64 ((↑r : Int) + (↑y1 : Int)) ≥ (4294967296 : Int)))
      (T.ret
        (Ex.exit (0 : Nat),
          St.mk
            [((2 : Nat), AV.int IntKind.u64 (↑y : Int)), ((8 : Nat), AV.int IntKind.u64 (↑s : Int)), ((9 : Nat), AV.int IntKind.u64 (↑y1 : Int)), ((10 : Nat), AV.int IntKind.u64 (↑y0 : Int)), ((11 : Nat), AV.int IntKind.u64 (↑u : Int)), ((13 : Nat), AV.int IntKind.u64 (↑n1 : Int)), ((14 : Nat), AV.int IntKind.u64 (↑n0 : Int)),
              ((15 : Nat), AV.int IntKind.u64 (IntKind.wrap IntKind.u64 ((↑q : Int) - (1 : Int)))), ((16 : Nat), AV.int IntKind.u64 (IntKind.wrap IntKind.u64 ((↑r : Int) + (↑y1 : Int))))]
            []))
      (T.ret
        (Ex.norm,
          St.mk
            [((2 : Nat), AV.int IntKind.u64 (↑y : Int)), ((8 : Nat), AV.int IntKind.u64 (↑s : Int)), ((9 : Nat), AV.int IntKind.u64 (↑y1 : Int)), ((10 : Nat), AV.int IntKind.u64 (↑y0 : Int)), ((11 : Nat), AV.int IntKind.u64 (↑u : Int)), ((13 : Nat), AV.int IntKind.u64 (↑n1 : Int)), ((14 : Nat), AV.int IntKind.u64 (↑n0 : Int)),
              ((15 : Nat), AV.int IntKind.u64 (IntKind.wrap IntKind.u64 ((↑q : Int) - (1 : Int)))), ((16 : Nat), AV.int IntKind.u64 (IntKind.wrap IntKind.u64 ((↑r : Int) + (↑y1 : Int))))]
            [])))
    (T.ite (decide (IntKind.wrap IntKind.u64 ((↑q : Int) * (↑y0 : Int)) > IntKind.wrap IntKind.u64 (IntKind.wrap IntKind.u64 ((4294967296 : Int) * (↑r : Int)) + (↑n1 : Int))))
      (T.ite (decide (IntKind.wrap IntKind.u64 ((↑r : Int) + (↑y1 : Int)) ≥ (4294967296 : Int)))
        (T.ret
          (Ex.exit (0 : Nat),
            St.mk
              [((2 : Nat), AV.int IntKind.u64 (↑y : Int)), ((8 : Nat), AV.int IntKind.u64 (↑s : Int)), ((9 : Nat), AV.int IntKind.u64 (↑y1 : Int)), ((10 : Nat), AV.int IntKind.u64 (↑y0 : Int)), ((11 : Nat), AV.int IntKind.u64 (↑u : Int)), ((13 : Nat), AV.int IntKind.u64 (↑n1 : Int)), ((14 : Nat), AV.int IntKind.u64 (↑n0 : Int)),
                ((15 : Nat), AV.int IntKind.u64 (IntKind.wrap IntKind.u64 ((↑q : Int) - (1 : Int)))), ((16 : Nat), AV.int IntKind.u64 (IntKind.wrap IntKind.u64 ((↑r : Int) + (↑y1 : Int))))]
              []))
        (T.ret
          (Ex.norm,
            St.mk
              [((2 : Nat), AV.int IntKind.u64 (↑y : Int)), ((8 : Nat), AV.int IntKind.u64 (↑s : Int)), ((9 : Nat), AV.int IntKind.u64 (↑y1 : Int)), ((10 : Nat), AV.int IntKind.u64 (↑y0 : Int)), ((11 : Nat), AV.int IntKind.u64 (↑u : Int)), ((13 : Nat), AV.int IntKind.u64 (↑n1 : Int)), ((14 : Nat), AV.int IntKind.u64 (↑n0 : Int)),
                ((15 : Nat), AV.int IntKind.u64 (IntKind.wrap IntKind.u64 ((↑q : Int) - (1 : Int)))), ((16 : Nat), AV.int IntKind.u64 (IntKind.wrap IntKind.u64 ((↑r : Int) + (↑y1 : Int))))]
              [])))
      (T.ret
        (Ex.exit (0 : Nat),
          St.mk
            [((2 : Nat), AV.int IntKind.u64 (↑y : Int)), ((8 : Nat), AV.int IntKind.u64 (↑s : Int)), ((9 : Nat), AV.int IntKind.u64 (↑y1 : Int)), ((10 : Nat), AV.int IntKind.u64 (↑y0 : Int)), ((11 : Nat), AV.int IntKind.u64 (↑u : Int)), ((13 : Nat), AV.int IntKind.u64 (↑n1 : Int)), ((14 : Nat), AV.int IntKind.u64 (↑n0 : Int)), ((15 : Nat), AV.int IntKind.u64 (↑q : Int)),
              ((16 : Nat), AV.int IntKind.u64 (↑r : Int))]
            []))) := by
  kernel_rfl

theorem k2_tree (y s y1 y0 u n1 n0 p q r : Nat) : keepT [2, 8, 9, 10, 14, 15, 16, 17, 18] (acode Try.prog dvE (loopAt (codeOf Try.f48) 1) (k2St ⟨y, s, y1, y0, u, n1, n0, p, q, r⟩)) = 
  T.ite (decide ((↑q : Int) ≥ (4294967296 : Int)))
    (T.ite (decide (IntKind.wrap IntKind.u64 ((↑r : Int) + (↑y1 : Int)) ≥ (4294967296 : Int)))
      (T.ret
        (Ex.exit (2 : Nat),
          St.mk
            [((2 : Nat), AV.int IntKind.u64 (↑y : Int)), ((8 : Nat), AV.int IntKind.u64 (↑s : Int)), ((9 : Nat), AV.int IntKind.u64 (↑y1 : Int)), ((10 : Nat), AV.int IntKind.u64 (↑y0 : Int)), ((14 : Nat), AV.int IntKind.u64 (↑n1 : Int)), ((15 : Nat), AV.int IntKind.u64 (↑p : Int)), ((16 : Nat), AV.int IntKind.u64 (IntKind.wrap IntKind.u64 ((↑r : Int) + (↑y1 : Int)))),
              ((17 : Nat), AV.int IntKind.u64 (↑u : Int)), ((18 : Nat), AV.int IntKind.u64 (IntKind.wrap IntKind.u64 ((↑q : Int) - (1 : Int))))]
            []))
      (T.ret
        (Ex.norm,
          St.mk
            [((2 : Nat), AV.int IntKind.u64 (↑y : Int)), ((8 : Nat), AV.int IntKind.u64 (↑s : Int)), ((9 : Nat), AV.int IntKind.u64 (↑y1 : Int)), ((10 : Nat), AV.int IntKind.u64 (↑y0 : Int)), ((14 : Nat), AV.int IntKind.u64 (↑n1 : Int)), ((15 : Nat), AV.int IntKind.u64 (↑p : Int)), ((16 : Nat), AV.int IntKind.u64 (IntKind.wrap IntKind.u64 ((↑r : Int) + (↑y1 : Int)))),
              ((17 : Nat), AV.int IntKind.u64 (↑u : Int)), ((18 : Nat), AV.int IntKind.u64 (IntKind.wrap IntKind.u64 ((↑q : Int) - (1 : Int))))]
            [])))
    (T.ite (decide (IntKind.wrap IntKind.u64 ((↑q : Int) * (↑y0 : Int)) > IntKind.wrap IntKind.u64 (IntKind.wrap IntKind.u64 ((4294967296 : Int) * (↑r : Int)) + (↑n1 : Int))))
      (T.ite (decide (IntKind.wrap IntKind.u64 ((↑r : Int) + (↑y1 : Int)) ≥ (4294967296 : Int)))
        (T.ret
          (Ex.exit (2 : Nat),
            St.mk
              [((2 : Nat), AV.int IntKind.u64 (↑y : Int)), ((8 : Nat), AV.int IntKind.u64 (↑s : Int)), ((9 : Nat), AV.int IntKind.u64 (↑y1 : Int)), ((10 : Nat), AV.int IntKind.u64 (↑y0 : Int)), ((14 : Nat), AV.int IntKind.u64 (↑n1 : Int)), ((15 : Nat), AV.int IntKind.u64 (↑p : Int)), ((16 : Nat), AV.int IntKind.u64 (IntKind.wrap IntKind.u64 ((↑r : Int) + (↑y1 : Int)))),
                ((17 : Nat), AV.int IntKind.u64 (↑u : Int)), ((18 : Nat), AV.int IntKind.u64 (IntKind.wrap IntKind.u64 ((↑q : Int) - (1 : Int))))]
              []))
        (T.ret
          (Ex.norm,
            St.mk
              [((2 : Nat), AV.int IntKind.u64 (↑y : Int)), ((8 : Nat), AV.int IntKind.u64 (↑s : Int)), ((9 : Nat), AV.int IntKind.u64 (↑y1 : Int)), ((10 : Nat), AV.int IntKind.u64 (↑y0 : Int)), ((14 : Nat), AV.int IntKind.u64 (↑n1 : Int)), ((15 : Nat), AV.int IntKind.u64 (↑p : Int)), ((16 : Nat), AV.int IntKind.u64 (IntKind.wrap IntKind.u64 ((↑r : Int) + (↑y1 : Int)))),
                ((17 : Nat), AV.int IntKind.u64 (↑u : Int)), ((18 : Nat), AV.int IntKind.u64 (IntKind.wrap IntKind.u64 ((↑q : Int) - (1 : Int))))]
              [])))
      (T.ret
        (Ex.exit (2 : Nat),
          St.mk
            [((2 : Nat), AV.int IntKind.u64 (↑y : Int)), ((8 : Nat), AV.int IntKind.u64 (↑s : Int)), ((9 : Nat), AV.int IntKind.u64 (↑y1 : Int)), ((10 : Nat), AV.int IntKind.u64 (↑y0 : Int)), ((14 : Nat), AV.int IntKind.u64 (↑n1 : Int)), ((15 : Nat), AV.int IntKind.u64 (↑p : Int)), ((16 : Nat), AV.int IntKind.u64 (↑r : Int)), ((17 : Nat), AV.int IntKind.u64 (↑u : Int)),
              ((18 : Nat), AV.int IntKind.u64 (↑q : Int))]
            []))) := by
  kernel_rfl

theorem k_rng {q y0 r n1 : Nat} (h3 : y0 < 4294967296) (h8 : q ≤ 4294967297) (h9 : r < 4294967296) (h5 : n1 < 4294967296) : q * y0 < 18446744073709551616 ∧ 4294967296 * r + n1 < 18446744073709551616 := by
  have : q * y0 ≤ 4294967297 * 4294967295 := Nat.mul_le_mul h8 (by omega)
  omega

theorem k1_loop : LoopOK Try.prog dvE (loopAt (codeOf Try.f48) 0) := by
  refine loopSumm_ok (E := dvE) (EnvOK.cons lz_ok EnvOK.nil) (noLoops (by kernel_rfl)) k1St kInv (fun x => x.q) k1Pick k1End ?_ (by kernel_rfl)
  rintro ⟨y, s, y1, y0, u, n1, n0, p, q, r⟩ ⟨h1, h2, h3, h4, h5, h6, h7, h8, h9⟩ Q hq
  dsimp only [KN.N, KN.Y] at h1 h2 h3 h4 h5 h6 h7 h8 h9
  refine round_keep [2, 8, 9, 10, 11, 13, 14, 15, 16] ?_
  rw [k1_tree]
  obtain ⟨m1, m2⟩ := k_rng h3 h8 h9 h5
  have e1 : IntKind.wrap .u64 ((r : Int) + (y1 : Int)) = ((r + y1 : Nat) : Int) := by rw [IntKind.wrap_u64]; omega
  have e3 : IntKind.wrap .u64 ((q : Int) * (y0 : Int)) = ((q * y0 : Nat) : Int) := by rw [← Int.natCast_mul, IntKind.wrap_u64]; omega
  have e4 : IntKind.wrap .u64 (IntKind.wrap .u64 (4294967296 * (r : Int)) + (n1 : Int)) = ((4294967296 * r + n1 : Nat) : Int) := by rw [IntKind.wrap_u64, IntKind.wrap_u64]; omega
  simp only [e1, e3, e4]
  refine T.hiteP (fun hc => ?_) (fun hc => T.hiteP (fun hd => ?_) (fun hd => ?_))
  · have hcond : 4294967296 ≤ q ∨ 4294967296 * r + n1 < q * y0 := .inl (by omega)
    obtain ⟨g1, g2, g3⟩ := kn_go (by omega) h4 h5 h6 hcond
    have e2 : IntKind.wrap .u64 ((q : Int) - 1) = ((q - 1 : Nat) : Int) := by rw [IntKind.wrap_u64]; omega
    refine T.hiteP (fun hb => ?_) (fun hb => ?_)
    · have hr : 4294967296 ≤ r + y1 := by omega
      have hs := kn_stop (by omega) g3 g2 (kn_brk (n1 := n1) h3 (by omega) hr)
      refine Round.out id ⟨[(2, w64 y), (8, w64 s), (9, w64 y1), (10, w64 y0), (11, w64 u), (13, w64 n1), (14, w64 n0), (15, w64 ((⟨y, s, y1, y0, u, n1, n0, p, q, r⟩ : KN).N / (⟨y, s, y1, y0, u, n1, n0, p, q, r⟩ : KN).Y))], []⟩ (SubSt.mk ?_ (Sub.nil _ _)) (hq y s y1 y0 u n1 n0 _ (by simp))
      simp only [e2, hs]
      simp [SubFr, slotAt, ren, below, w64, KN.N, KN.Y]
    · refine Round.go ⟨y, s, y1, y0, u, n1, n0, p, q - 1, r + y1⟩ id ⟨h1, h2, h3, h4, h5, g3, g2, by dsimp only; omega, by dsimp only; omega⟩ (by dsimp only; omega) (SubSt.mk (by simp [k1St, SubFr, slotAt, ren, below, w64, e1, e2]) (Sub.nil _ _)) hq
  · have hcond : 4294967296 ≤ q ∨ 4294967296 * r + n1 < q * y0 := .inr (by omega)
    obtain ⟨g1, g2, g3⟩ := kn_go (by omega) h4 h5 h6 hcond
    have e2 : IntKind.wrap .u64 ((q : Int) - 1) = ((q - 1 : Nat) : Int) := by rw [IntKind.wrap_u64]; omega
    refine T.hiteP (fun hb => ?_) (fun hb => ?_)
    · have hr : 4294967296 ≤ r + y1 := by omega
      have hs := kn_stop (by omega) g3 g2 (kn_brk (n1 := n1) h3 (by omega) hr)
      refine Round.out id ⟨[(2, w64 y), (8, w64 s), (9, w64 y1), (10, w64 y0), (11, w64 u), (13, w64 n1), (14, w64 n0), (15, w64 ((⟨y, s, y1, y0, u, n1, n0, p, q, r⟩ : KN).N / (⟨y, s, y1, y0, u, n1, n0, p, q, r⟩ : KN).Y))], []⟩ (SubSt.mk ?_ (Sub.nil _ _)) (hq y s y1 y0 u n1 n0 _ (by simp))
      simp only [e2, hs]
      simp [SubFr, slotAt, ren, below, w64, KN.N, KN.Y]
    · refine Round.go ⟨y, s, y1, y0, u, n1, n0, p, q - 1, r + y1⟩ id ⟨h1, h2, h3, h4, h5, g3, g2, by dsimp only; omega, by dsimp only; omega⟩ (by dsimp only; omega) (SubSt.mk (by simp [k1St, SubFr, slotAt, ren, below, w64, e1, e2]) (Sub.nil _ _)) hq
  · have hs := kn_stop (by omega) h6 h7 (by omega)
    refine Round.out id ⟨[(2, w64 y), (8, w64 s), (9, w64 y1), (10, w64 y0), (11, w64 u), (13, w64 n1), (14, w64 n0), (15, w64 ((⟨y, s, y1, y0, u, n1, n0, p, q, r⟩ : KN).N / (⟨y, s, y1, y0, u, n1, n0, p, q, r⟩ : KN).Y))], []⟩ (SubSt.mk ?_ (Sub.nil _ _)) (hq y s y1 y0 u n1 n0 _ (by simp))
    simp only [← hs, KN.N, KN.Y]
    simp [SubFr, slotAt, ren, below, w64]

theorem k2_loop : LoopOK Try.prog dvE (loopAt (codeOf Try.f48) 1) := by
  refine loopSumm_ok (E := dvE) (EnvOK.cons lz_ok EnvOK.nil) (noLoops (by kernel_rfl)) k2St kInv (fun x => x.q) k2Pick k2End ?_ (by kernel_rfl)
  rintro ⟨y, s, y1, y0, u, n1, n0, p, q, r⟩ ⟨h1, h2, h3, h4, h5, h6, h7, h8, h9⟩ Q hq
  dsimp only [KN.N, KN.Y] at h1 h2 h3 h4 h5 h6 h7 h8 h9
  refine round_keep [2, 8, 9, 10, 14, 15, 16, 17, 18] ?_
  rw [k2_tree]
  obtain ⟨m1, m2⟩ := k_rng h3 h8 h9 h5
  have e1 : IntKind.wrap .u64 ((r : Int) + (y1 : Int)) = ((r + y1 : Nat) : Int) := by rw [IntKind.wrap_u64]; omega
  have e3 : IntKind.wrap .u64 ((q : Int) * (y0 : Int)) = ((q * y0 : Nat) : Int) := by rw [← Int.natCast_mul, IntKind.wrap_u64]; omega
  have e4 : IntKind.wrap .u64 (IntKind.wrap .u64 (4294967296 * (r : Int)) + (n1 : Int)) = ((4294967296 * r + n1 : Nat) : Int) := by rw [IntKind.wrap_u64, IntKind.wrap_u64]; omega
  simp only [e1, e3, e4]
  refine T.hiteP (fun hc => ?_) (fun hc => T.hiteP (fun hd => ?_) (fun hd => ?_))
  · have hcond : 4294967296 ≤ q ∨ 4294967296 * r + n1 < q * y0 := .inl (by omega)
    obtain ⟨g1, g2, g3⟩ := kn_go (by omega) h4 h5 h6 hcond
    have e2 : IntKind.wrap .u64 ((q : Int) - 1) = ((q - 1 : Nat) : Int) := by rw [IntKind.wrap_u64]; omega
    refine T.hiteP (fun hb => ?_) (fun hb => ?_)
    · have hr : 4294967296 ≤ r + y1 := by omega
      have hs := kn_stop (by omega) g3 g2 (kn_brk (n1 := n1) h3 (by omega) hr)
      refine Round.out id ⟨[(2, w64 y), (8, w64 s), (14, w64 n1), (15, w64 p), (17, w64 u), (18, w64 ((⟨y, s, y1, y0, u, n1, n0, p, q, r⟩ : KN).N / (⟨y, s, y1, y0, u, n1, n0, p, q, r⟩ : KN).Y))], []⟩ (SubSt.mk ?_ (Sub.nil _ _)) (hq u _ (by simp))
      simp only [e2, hs]
      simp [SubFr, slotAt, ren, below, w64, KN.N, KN.Y]
    · refine Round.go ⟨y, s, y1, y0, u, n1, n0, p, q - 1, r + y1⟩ id ⟨h1, h2, h3, h4, h5, g3, g2, by dsimp only; omega, by dsimp only; omega⟩ (by dsimp only; omega) (SubSt.mk (by simp [k2St, SubFr, slotAt, ren, below, w64, e1, e2]) (Sub.nil _ _)) hq
  · have hcond : 4294967296 ≤ q ∨ 4294967296 * r + n1 < q * y0 := .inr (by omega)
    obtain ⟨g1, g2, g3⟩ := kn_go (by omega) h4 h5 h6 hcond
    have e2 : IntKind.wrap .u64 ((q : Int) - 1) = ((q - 1 : Nat) : Int) := by rw [IntKind.wrap_u64]; omega
    refine T.hiteP (fun hb => ?_) (fun hb => ?_)
    · have hr : 4294967296 ≤ r + y1 := by omega
      have hs := kn_stop (by omega) g3 g2 (kn_brk (n1 := n1) h3 (by omega) hr)
      refine Round.out id ⟨[(2, w64 y), (8, w64 s), (14, w64 n1), (15, w64 p), (17, w64 u), (18, w64 ((⟨y, s, y1, y0, u, n1, n0, p, q, r⟩ : KN).N / (⟨y, s, y1, y0, u, n1, n0, p, q, r⟩ : KN).Y))], []⟩ (SubSt.mk ?_ (Sub.nil _ _)) (hq u _ (by simp))
      simp only [e2, hs]
      simp [SubFr, slotAt, ren, below, w64, KN.N, KN.Y]
    · refine Round.go ⟨y, s, y1, y0, u, n1, n0, p, q - 1, r + y1⟩ id ⟨h1, h2, h3, h4, h5, g3, g2, by dsimp only; omega, by dsimp only; omega⟩ (by dsimp only; omega) (SubSt.mk (by simp [k2St, SubFr, slotAt, ren, below, w64, e1, e2]) (Sub.nil _ _)) hq
  · have hs := kn_stop (by omega) h6 h7 (by omega)
    refine Round.out id ⟨[(2, w64 y), (8, w64 s), (14, w64 n1), (15, w64 p), (17, w64 u), (18, w64 ((⟨y, s, y1, y0, u, n1, n0, p, q, r⟩ : KN).N / (⟨y, s, y1, y0, u, n1, n0, p, q, r⟩ : KN).Y))], []⟩ (SubSt.mk ?_ (Sub.nil _ _)) (hq u _ (by simp))
    simp only [← hs, KN.N, KN.Y]
    simp [SubFr, slotAt, ren, below, w64]

theorem dv_fn (h l y : Int) : vfn Try.prog dvE Try.f48 (codeOf Try.f48) [.int .u64 h, .int .u64 l, .int .u64 y] = 
  T.ite (y == (0 : Int)) T.fail
    (T.ite (decide (y ≤ h)) T.fail
      (T.ite (h == (0 : Int)) (T.chk (!y == (0 : Int)) (T.chk (!y == (0 : Int)) (T.ret (AV.tup [AV.int IntKind.u64 (IntKind.wrap IntKind.u64 (Int.tdiv l y)), AV.int IntKind.u64 (Int.tmod l y)]))))
        (T.chk (u64B y)
          (T.chk (decide ((0 : Int) ≤ IntKind.wrap IntKind.u64 ((64 : Int) - lenG y)))
            (T.chk true
              (T.chk (decide ((0 : Int) ≤ IntKind.wrap IntKind.u64 ((64 : Int) - lenG y)))
                (T.chk (decide ((0 : Int) ≤ IntKind.wrap IntKind.u64 ((64 : Int) - IntKind.wrap IntKind.u64 ((64 : Int) - lenG y))))
                  (T.chk (decide ((0 : Int) ≤ IntKind.wrap IntKind.u64 ((64 : Int) - lenG y)))
                    (T.chk true
                      (T.chk (!Int.fdiv (IntKind.wrap IntKind.u64 (y * (2 : Int) ^ min (Int.toNat (IntKind.wrap IntKind.u64 ((64 : Int) - lenG y))) (64 : Nat))) ((2 : Int) ^ (32 : Nat)) == (0 : Int))
                        (T.need
                          (∃ ρ,
                            SubSt (0 : Nat) ρ
                              (St.mk
                                [((2 : Nat), AV.int IntKind.u64 (IntKind.wrap IntKind.u64 (y * (2 : Int) ^ min (Int.toNat (IntKind.wrap IntKind.u64 ((64 : Int) - lenG y))) (64 : Nat)))), ((8 : Nat), AV.int IntKind.u64 (IntKind.wrap IntKind.u64 ((64 : Int) - lenG y))),
                                  ((9 : Nat), AV.int IntKind.u64 (Int.fdiv (IntKind.wrap IntKind.u64 (y * (2 : Int) ^ min (Int.toNat (IntKind.wrap IntKind.u64 ((64 : Int) - lenG y))) (64 : Nat))) ((2 : Int) ^ (32 : Nat)))),
                                  ((10 : Nat), AV.int IntKind.u64 (bits BinOp.and IntKind.u64 (IntKind.wrap IntKind.u64 (y * (2 : Int) ^ min (Int.toNat (IntKind.wrap IntKind.u64 ((64 : Int) - lenG y))) (64 : Nat))) (4294967295 : Int))),
                                  ((11 : Nat), AV.int IntKind.u64 (bits BinOp.or IntKind.u64 (IntKind.wrap IntKind.u64 (h * (2 : Int) ^ min (Int.toNat (IntKind.wrap IntKind.u64 ((64 : Int) - lenG y))) (64 : Nat))) (Int.fdiv l ((2 : Int) ^ min (Int.toNat (IntKind.wrap IntKind.u64 ((64 : Int) - IntKind.wrap IntKind.u64 ((64 : Int) - lenG y)))) (64 : Nat))))),
                                  ((13 : Nat), AV.int IntKind.u64 (Int.fdiv (IntKind.wrap IntKind.u64 (l * (2 : Int) ^ min (Int.toNat (IntKind.wrap IntKind.u64 ((64 : Int) - lenG y))) (64 : Nat))) ((2 : Int) ^ (32 : Nat)))),
                                  ((14 : Nat), AV.int IntKind.u64 (bits BinOp.and IntKind.u64 (IntKind.wrap IntKind.u64 (l * (2 : Int) ^ min (Int.toNat (IntKind.wrap IntKind.u64 ((64 : Int) - lenG y))) (64 : Nat))) (4294967295 : Int))),
                                  ((15 : Nat),
                                    AV.int IntKind.u64
                                      (IntKind.wrap IntKind.u64
                                        (Int.tdiv (bits BinOp.or IntKind.u64 (IntKind.wrap IntKind.u64 (h * (2 : Int) ^ min (Int.toNat (IntKind.wrap IntKind.u64 ((64 : Int) - lenG y))) (64 : Nat))) (Int.fdiv l ((2 : Int) ^ min (Int.toNat (IntKind.wrap IntKind.u64 ((64 : Int) - IntKind.wrap IntKind.u64 ((64 : Int) - lenG y)))) (64 : Nat))))
                                          (Int.fdiv (IntKind.wrap IntKind.u64 (y * (2 : Int) ^ min (Int.toNat (IntKind.wrap IntKind.u64 ((64 : Int) - lenG y))) (64 : Nat))) ((2 : Int) ^ (32 : Nat)))))),
                                  ((16 : Nat),
                                    AV.int IntKind.u64
                                      (IntKind.wrap IntKind.u64
                                        (bits BinOp.or IntKind.u64 (IntKind.wrap IntKind.u64 (h * (2 : Int) ^ min (Int.toNat (IntKind.wrap IntKind.u64 ((64 : Int) - lenG y))) (64 : Nat))) (Int.fdiv l ((2 : Int) ^ min (Int.toNat (IntKind.wrap IntKind.u64 ((64 : Int) - IntKind.wrap IntKind.u64 ((64 : Int) - lenG y)))) (64 : Nat))) -
                                          IntKind.wrap IntKind.u64
                                            (IntKind.wrap IntKind.u64
                                                (Int.tdiv (bits BinOp.or IntKind.u64 (IntKind.wrap IntKind.u64 (h * (2 : Int) ^ min (Int.toNat (IntKind.wrap IntKind.u64 ((64 : Int) - lenG y))) (64 : Nat))) (Int.fdiv l ((2 : Int) ^ min (Int.toNat (IntKind.wrap IntKind.u64 ((64 : Int) - IntKind.wrap IntKind.u64 ((64 : Int) - lenG y)))) (64 : Nat))))
                                                  (Int.fdiv (IntKind.wrap IntKind.u64 (y * (2 : Int) ^ min (Int.toNat (IntKind.wrap IntKind.u64 ((64 : Int) - lenG y))) (64 : Nat))) ((2 : Int) ^ (32 : Nat)))) *
                                              Int.fdiv (IntKind.wrap IntKind.u64 (y * (2 : Int) ^ min (Int.toNat (IntKind.wrap IntKind.u64 ((64 : Int) - lenG y))) (64 : Nat))) ((2 : Int) ^ (32 : Nat))))))]
                                [])
                              (k1St
                                (KN.mk (Int.toNat (IntKind.wrap IntKind.u64 (y * (2 : Int) ^ min (Int.toNat (IntKind.wrap IntKind.u64 ((64 : Int) - lenG y))) (64 : Nat)))) (Int.toNat (IntKind.wrap IntKind.u64 ((64 : Int) - lenG y))) (Int.toNat (Int.fdiv (IntKind.wrap IntKind.u64 (y * (2 : Int) ^ min (Int.toNat (IntKind.wrap IntKind.u64 ((64 : Int) - lenG y))) (64 : Nat))) ((2 : Int) ^ (32 : Nat))))
                                  (Int.toNat (bits BinOp.and IntKind.u64 (IntKind.wrap IntKind.u64 (y * (2 : Int) ^ min (Int.toNat (IntKind.wrap IntKind.u64 ((64 : Int) - lenG y))) (64 : Nat))) (4294967295 : Int)))
                                  (Int.toNat (bits BinOp.or IntKind.u64 (IntKind.wrap IntKind.u64 (h * (2 : Int) ^ min (Int.toNat (IntKind.wrap IntKind.u64 ((64 : Int) - lenG y))) (64 : Nat))) (Int.fdiv l ((2 : Int) ^ min (Int.toNat (IntKind.wrap IntKind.u64 ((64 : Int) - IntKind.wrap IntKind.u64 ((64 : Int) - lenG y)))) (64 : Nat)))))
                                  (Int.toNat (Int.fdiv (IntKind.wrap IntKind.u64 (l * (2 : Int) ^ min (Int.toNat (IntKind.wrap IntKind.u64 ((64 : Int) - lenG y))) (64 : Nat))) ((2 : Int) ^ (32 : Nat)))) (Int.toNat (bits BinOp.and IntKind.u64 (IntKind.wrap IntKind.u64 (l * (2 : Int) ^ min (Int.toNat (IntKind.wrap IntKind.u64 ((64 : Int) - lenG y))) (64 : Nat))) (4294967295 : Int))) (0 : Nat)
                                  (Int.toNat
                                    (IntKind.wrap IntKind.u64
                                      (Int.tdiv (bits BinOp.or IntKind.u64 (IntKind.wrap IntKind.u64 (h * (2 : Int) ^ min (Int.toNat (IntKind.wrap IntKind.u64 ((64 : Int) - lenG y))) (64 : Nat))) (Int.fdiv l ((2 : Int) ^ min (Int.toNat (IntKind.wrap IntKind.u64 ((64 : Int) - IntKind.wrap IntKind.u64 ((64 : Int) - lenG y)))) (64 : Nat))))
                                        (Int.fdiv (IntKind.wrap IntKind.u64 (y * (2 : Int) ^ min (Int.toNat (IntKind.wrap IntKind.u64 ((64 : Int) - lenG y))) (64 : Nat))) ((2 : Int) ^ (32 : Nat))))))
                                  (Int.toNat
                                    (IntKind.wrap IntKind.u64
                                      (bits BinOp.or IntKind.u64 (IntKind.wrap IntKind.u64 (h * (2 : Int) ^ min (Int.toNat (IntKind.wrap IntKind.u64 ((64 : Int) - lenG y))) (64 : Nat))) (Int.fdiv l ((2 : Int) ^ min (Int.toNat (IntKind.wrap IntKind.u64 ((64 : Int) - IntKind.wrap IntKind.u64 ((64 : Int) - lenG y)))) (64 : Nat))) -
                                        IntKind.wrap IntKind.u64
                                          (IntKind.wrap IntKind.u64
                                              (Int.tdiv (bits BinOp.or IntKind.u64 (IntKind.wrap IntKind.u64 (h * (2 : Int) ^ min (Int.toNat (IntKind.wrap IntKind.u64 ((64 : Int) - lenG y))) (64 : Nat))) (Int.fdiv l ((2 : Int) ^ min (Int.toNat (IntKind.wrap IntKind.u64 ((64 : Int) - IntKind.wrap IntKind.u64 ((64 : Int) - lenG y)))) (64 : Nat))))
                                                (Int.fdiv (IntKind.wrap IntKind.u64 (y * (2 : Int) ^ min (Int.toNat (IntKind.wrap IntKind.u64 ((64 : Int) - lenG y))) (64 : Nat))) ((2 : Int) ^ (32 : Nat)))) *
                                            Int.fdiv (IntKind.wrap IntKind.u64 (y * (2 : Int) ^ min (Int.toNat (IntKind.wrap IntKind.u64 ((64 : Int) - lenG y))) (64 : Nat))) ((2 : Int) ^ (32 : Nat)))))))))
                          (T.need
                            (kInv
                              (KN.mk (Int.toNat (IntKind.wrap IntKind.u64 (y * (2 : Int) ^ min (Int.toNat (IntKind.wrap IntKind.u64 ((64 : Int) - lenG y))) (64 : Nat)))) (Int.toNat (IntKind.wrap IntKind.u64 ((64 : Int) - lenG y))) (Int.toNat (Int.fdiv (IntKind.wrap IntKind.u64 (y * (2 : Int) ^ min (Int.toNat (IntKind.wrap IntKind.u64 ((64 : Int) - lenG y))) (64 : Nat))) ((2 : Int) ^ (32 : Nat))))
                                (Int.toNat (bits BinOp.and IntKind.u64 (IntKind.wrap IntKind.u64 (y * (2 : Int) ^ min (Int.toNat (IntKind.wrap IntKind.u64 ((64 : Int) - lenG y))) (64 : Nat))) (4294967295 : Int)))
                                (Int.toNat (bits BinOp.or IntKind.u64 (IntKind.wrap IntKind.u64 (h * (2 : Int) ^ min (Int.toNat (IntKind.wrap IntKind.u64 ((64 : Int) - lenG y))) (64 : Nat))) (Int.fdiv l ((2 : Int) ^ min (Int.toNat (IntKind.wrap IntKind.u64 ((64 : Int) - IntKind.wrap IntKind.u64 ((64 : Int) - lenG y)))) (64 : Nat)))))
                                (Int.toNat (Int.fdiv (IntKind.wrap IntKind.u64 (l * (2 : Int) ^ min (Int.toNat (IntKind.wrap IntKind.u64 ((64 : Int) - lenG y))) (64 : Nat))) ((2 : Int) ^ (32 : Nat)))) (Int.toNat (bits BinOp.and IntKind.u64 (IntKind.wrap IntKind.u64 (l * (2 : Int) ^ min (Int.toNat (IntKind.wrap IntKind.u64 ((64 : Int) - lenG y))) (64 : Nat))) (4294967295 : Int))) (0 : Nat)
                                (Int.toNat
                                  (IntKind.wrap IntKind.u64
                                    (Int.tdiv (bits BinOp.or IntKind.u64 (IntKind.wrap IntKind.u64 (h * (2 : Int) ^ min (Int.toNat (IntKind.wrap IntKind.u64 ((64 : Int) - lenG y))) (64 : Nat))) (Int.fdiv l ((2 : Int) ^ min (Int.toNat (IntKind.wrap IntKind.u64 ((64 : Int) - IntKind.wrap IntKind.u64 ((64 : Int) - lenG y)))) (64 : Nat))))
                                      (Int.fdiv (IntKind.wrap IntKind.u64 (y * (2 : Int) ^ min (Int.toNat (IntKind.wrap IntKind.u64 ((64 : Int) - lenG y))) (64 : Nat))) ((2 : Int) ^ (32 : Nat))))))
                                (Int.toNat
                                  (IntKind.wrap IntKind.u64
                                    (bits BinOp.or IntKind.u64 (IntKind.wrap IntKind.u64 (h * (2 : Int) ^ min (Int.toNat (IntKind.wrap IntKind.u64 ((64 : Int) - lenG y))) (64 : Nat))) (Int.fdiv l ((2 : Int) ^ min (Int.toNat (IntKind.wrap IntKind.u64 ((64 : Int) - IntKind.wrap IntKind.u64 ((64 : Int) - lenG y)))) (64 : Nat))) -
                                      IntKind.wrap IntKind.u64
                                        (IntKind.wrap IntKind.u64
                                            (Int.tdiv (bits BinOp.or IntKind.u64 (IntKind.wrap IntKind.u64 (h * (2 : Int) ^ min (Int.toNat (IntKind.wrap IntKind.u64 ((64 : Int) - lenG y))) (64 : Nat))) (Int.fdiv l ((2 : Int) ^ min (Int.toNat (IntKind.wrap IntKind.u64 ((64 : Int) - IntKind.wrap IntKind.u64 ((64 : Int) - lenG y)))) (64 : Nat))))
                                              (Int.fdiv (IntKind.wrap IntKind.u64 (y * (2 : Int) ^ min (Int.toNat (IntKind.wrap IntKind.u64 ((64 : Int) - lenG y))) (64 : Nat))) ((2 : Int) ^ (32 : Nat)))) *
                                          Int.fdiv (IntKind.wrap IntKind.u64 (y * (2 : Int) ^ min (Int.toNat (IntKind.wrap IntKind.u64 ((64 : Int) - lenG y))) (64 : Nat))) ((2 : Int) ^ (32 : Nat))))))))
                            (T.all fun c =>
                              T.all fun c_1 =>
                                T.all fun c_2 =>
                                  T.all fun c_3 =>
                                    T.all fun c_4 =>
                                      T.all fun c_5 =>
                                        T.all fun c_6 =>
                                          T.all fun c_7 =>
                                            T.asm
                                              (decide
                                                ((c = Int.toNat (IntKind.wrap IntKind.u64 (y * (2 : Int) ^ min (Int.toNat (IntKind.wrap IntKind.u64 ((64 : Int) - lenG y))) (64 : Nat))) ∧
                                                    c_1 = Int.toNat (IntKind.wrap IntKind.u64 ((64 : Int) - lenG y)) ∧
                                                      c_2 = Int.toNat (Int.fdiv (IntKind.wrap IntKind.u64 (y * (2 : Int) ^ min (Int.toNat (IntKind.wrap IntKind.u64 ((64 : Int) - lenG y))) (64 : Nat))) ((2 : Int) ^ (32 : Nat))) ∧
                                                        c_3 = Int.toNat (bits BinOp.and IntKind.u64 (IntKind.wrap IntKind.u64 (y * (2 : Int) ^ min (Int.toNat (IntKind.wrap IntKind.u64 ((64 : Int) - lenG y))) (64 : Nat))) (4294967295 : Int))) ∧
                                                  c_4 = Int.toNat (bits BinOp.or IntKind.u64 (IntKind.wrap IntKind.u64 (h * (2 : Int) ^ min (Int.toNat (IntKind.wrap IntKind.u64 ((64 : Int) - lenG y))) (64 : Nat))) (Int.fdiv l ((2 : Int) ^ min (Int.toNat (IntKind.wrap IntKind.u64 ((64 : Int) - IntKind.wrap IntKind.u64 ((64 : Int) - lenG y)))) (64 : Nat)))) ∧
                                                    c_5 = Int.toNat (Int.fdiv (IntKind.wrap IntKind.u64 (l * (2 : Int) ^ min (Int.toNat (IntKind.wrap IntKind.u64 ((64 : Int) - lenG y))) (64 : Nat))) ((2 : Int) ^ (32 : Nat))) ∧
                                                      c_6 = Int.toNat (bits BinOp.and IntKind.u64 (IntKind.wrap IntKind.u64 (l * (2 : Int) ^ min (Int.toNat (IntKind.wrap IntKind.u64 ((64 : Int) - lenG y))) (64 : Nat))) (4294967295 : Int)) ∧
                                                        c_7 =
                                                          KN.N
                                                              (KN.mk (Int.toNat (IntKind.wrap IntKind.u64 (y * (2 : Int) ^ min (Int.toNat (IntKind.wrap IntKind.u64 ((64 : Int) - lenG y))) (64 : Nat)))) (Int.toNat (IntKind.wrap IntKind.u64 ((64 : Int) - lenG y)))
                                                                (Int.toNat (Int.fdiv (IntKind.wrap IntKind.u64 (y * (2 : Int) ^ min (Int.toNat (IntKind.wrap IntKind.u64 ((64 : Int) - lenG y))) (64 : Nat))) ((2 : Int) ^ (32 : Nat))))
                                                                (Int.toNat (bits BinOp.and IntKind.u64 (IntKind.wrap IntKind.u64 (y * (2 : Int) ^ min (Int.toNat (IntKind.wrap IntKind.u64 ((64 : Int) - lenG y))) (64 : Nat))) (4294967295 : Int)))
                                                                (Int.toNat (bits BinOp.or IntKind.u64 (IntKind.wrap IntKind.u64 (h * (2 : Int) ^ min (Int.toNat (IntKind.wrap IntKind.u64 ((64 : Int) - lenG y))) (64 : Nat))) (Int.fdiv l ((2 : Int) ^ min (Int.toNat (IntKind.wrap IntKind.u64 ((64 : Int) - IntKind.wrap IntKind.u64 ((64 : Int) - lenG y)))) (64 : Nat)))))
                                                                (Int.toNat (Int.fdiv (IntKind.wrap IntKind.u64 (l * (2 : Int) ^ min (Int.toNat (IntKind.wrap IntKind.u64 ((64 : Int) - lenG y))) (64 : Nat))) ((2 : Int) ^ (32 : Nat))))
                                                                (Int.toNat (bits BinOp.and IntKind.u64 (IntKind.wrap IntKind.u64 (l * (2 : Int) ^ min (Int.toNat (IntKind.wrap IntKind.u64 ((64 : Int) - lenG y))) (64 : Nat))) (4294967295 : Int))) (0 : Nat)
                                                                (Int.toNat
                                                                  (IntKind.wrap IntKind.u64
                                                                    (Int.tdiv (bits BinOp.or IntKind.u64 (IntKind.wrap IntKind.u64 (h * (2 : Int) ^ min (Int.toNat (IntKind.wrap IntKind.u64 ((64 : Int) - lenG y))) (64 : Nat))) (Int.fdiv l ((2 : Int) ^ min (Int.toNat (IntKind.wrap IntKind.u64 ((64 : Int) - IntKind.wrap IntKind.u64 ((64 : Int) - lenG y)))) (64 : Nat))))
                                                                      (Int.fdiv (IntKind.wrap IntKind.u64 (y * (2 : Int) ^ min (Int.toNat (IntKind.wrap IntKind.u64 ((64 : Int) - lenG y))) (64 : Nat))) ((2 : Int) ^ (32 : Nat))))))
                                                                (Int.toNat
                                                                  (IntKind.wrap IntKind.u64
                                                                    (bits BinOp.or IntKind.u64 (IntKind.wrap IntKind.u64 (h * (2 : Int) ^ min (Int.toNat (IntKind.wrap IntKind.u64 ((64 : Int) - lenG y))) (64 : Nat))) (Int.fdiv l ((2 : Int) ^ min (Int.toNat (IntKind.wrap IntKind.u64 ((64 : Int) - IntKind.wrap IntKind.u64 ((64 : Int) - lenG y)))) (64 : Nat))) -
                                                                      IntKind.wrap IntKind.u64
                                                                        (IntKind.wrap IntKind.u64
                                                                            (Int.tdiv (bits BinOp.or IntKind.u64 (IntKind.wrap IntKind.u64 (h * (2 : Int) ^ min (Int.toNat (IntKind.wrap IntKind.u64 ((64 : Int) - lenG y))) (64 : Nat))) (Int.fdiv l ((2 : Int) ^ min (Int.toNat (IntKind.wrap IntKind.u64 ((64 : Int) - IntKind.wrap IntKind.u64 ((64 : Int) - lenG y)))) (64 : Nat))))
                                                                              (Int.fdiv (IntKind.wrap IntKind.u64 (y * (2 : Int) ^ min (Int.toNat (IntKind.wrap IntKind.u64 ((64 : Int) - lenG y))) (64 : Nat))) ((2 : Int) ^ (32 : Nat)))) *
                                                                          Int.fdiv (IntKind.wrap IntKind.u64 (y * (2 : Int) ^ min (Int.toNat (IntKind.wrap IntKind.u64 ((64 : Int) - lenG y))) (64 : Nat))) ((2 : Int) ^ (32 : Nat))))))) /
                                                            KN.Y
                                                              (KN.mk (Int.toNat (IntKind.wrap IntKind.u64 (y * (2 : Int) ^ min (Int.toNat (IntKind.wrap IntKind.u64 ((64 : Int) - lenG y))) (64 : Nat)))) (Int.toNat (IntKind.wrap IntKind.u64 ((64 : Int) - lenG y)))
                                                                (Int.toNat (Int.fdiv (IntKind.wrap IntKind.u64 (y * (2 : Int) ^ min (Int.toNat (IntKind.wrap IntKind.u64 ((64 : Int) - lenG y))) (64 : Nat))) ((2 : Int) ^ (32 : Nat))))
                                                                (Int.toNat (bits BinOp.and IntKind.u64 (IntKind.wrap IntKind.u64 (y * (2 : Int) ^ min (Int.toNat (IntKind.wrap IntKind.u64 ((64 : Int) - lenG y))) (64 : Nat))) (4294967295 : Int)))
                                                                (Int.toNat (bits BinOp.or IntKind.u64 (IntKind.wrap IntKind.u64 (h * (2 : Int) ^ min (Int.toNat (IntKind.wrap IntKind.u64 ((64 : Int) - lenG y))) (64 : Nat))) (Int.fdiv l ((2 : Int) ^ min (Int.toNat (IntKind.wrap IntKind.u64 ((64 : Int) - IntKind.wrap IntKind.u64 ((64 : Int) - lenG y)))) (64 : Nat)))))
                                                                (Int.toNat (Int.fdiv (IntKind.wrap IntKind.u64 (l * (2 : Int) ^ min (Int.toNat (IntKind.wrap IntKind.u64 ((64 : Int) - lenG y))) (64 : Nat))) ((2 : Int) ^ (32 : Nat))))
                                                                (Int.toNat (bits BinOp.and IntKind.u64 (IntKind.wrap IntKind.u64 (l * (2 : Int) ^ min (Int.toNat (IntKind.wrap IntKind.u64 ((64 : Int) - lenG y))) (64 : Nat))) (4294967295 : Int))) (0 : Nat)
                                                                (Int.toNat
                                                                  (IntKind.wrap IntKind.u64
                                                                    (Int.tdiv (bits BinOp.or IntKind.u64 (IntKind.wrap IntKind.u64 (h * (2 : Int) ^ min (Int.toNat (IntKind.wrap IntKind.u64 ((64 : Int) - lenG y))) (64 : Nat))) (Int.fdiv l ((2 : Int) ^ min (Int.toNat (IntKind.wrap IntKind.u64 ((64 : Int) - IntKind.wrap IntKind.u64 ((64 : Int) - lenG y)))) (64 : Nat))))
                                                                      (Int.fdiv (IntKind.wrap IntKind.u64 (y * (2 : Int) ^ min (Int.toNat (IntKind.wrap IntKind.u64 ((64 : Int) - lenG y))) (64 : Nat))) ((2 : Int) ^ (32 : Nat))))))
                                                                (Int.toNat
                                                                  (IntKind.wrap IntKind.u64
                                                                    (bits BinOp.or IntKind.u64 (IntKind.wrap IntKind.u64 (h * (2 : Int) ^ min (Int.toNat (IntKind.wrap IntKind.u64 ((64 : Int) - lenG y))) (64 : Nat))) (Int.fdiv l ((2 : Int) ^ min (Int.toNat (IntKind.wrap IntKind.u64 ((64 : Int) - IntKind.wrap IntKind.u64 ((64 : Int) - lenG y)))) (64 : Nat))) -
                                                                      IntKind.wrap IntKind.u64
                                                                        (IntKind.wrap IntKind.u64
                                                                            (Int.tdiv (bits BinOp.or IntKind.u64 (IntKind.wrap IntKind.u64 (h * (2 : Int) ^ min (Int.toNat (IntKind.wrap IntKind.u64 ((64 : Int) - lenG y))) (64 : Nat))) (Int.fdiv l ((2 : Int) ^ min (Int.toNat (IntKind.wrap IntKind.u64 ((64 : Int) - IntKind.wrap IntKind.u64 ((64 : Int) - lenG y)))) (64 : Nat))))
                                                                              (Int.fdiv (IntKind.wrap IntKind.u64 (y * (2 : Int) ^ min (Int.toNat (IntKind.wrap IntKind.u64 ((64 : Int) - lenG y))) (64 : Nat))) ((2 : Int) ^ (32 : Nat)))) *
                                                                          Int.fdiv (IntKind.wrap IntKind.u64 (y * (2 : Int) ^ min (Int.toNat (IntKind.wrap IntKind.u64 ((64 : Int) - lenG y))) (64 : Nat))) ((2 : Int) ^ (32 : Nat)))))))))
                                              (T.chk (!(↑c_2 : Int) == (0 : Int))
                                                (T.need
                                                  (∃ ρ,
                                                    SubSt (0 : Nat) ρ
                                                      (St.mk
                                                        [((2 : Nat), AV.int IntKind.u64 (↑c : Int)), ((8 : Nat), AV.int IntKind.u64 (↑c_1 : Int)), ((9 : Nat), AV.int IntKind.u64 (↑c_2 : Int)), ((10 : Nat), AV.int IntKind.u64 (↑c_3 : Int)), ((14 : Nat), AV.int IntKind.u64 (↑c_6 : Int)), ((15 : Nat), AV.int IntKind.u64 (↑c_7 : Int)),
                                                          ((17 : Nat), AV.int IntKind.u64 (IntKind.wrap IntKind.u64 (IntKind.wrap IntKind.u64 (IntKind.wrap IntKind.u64 ((↑c_4 : Int) * (4294967296 : Int)) + (↑c_5 : Int)) - IntKind.wrap IntKind.u64 ((↑c_7 : Int) * (↑c : Int))))),
                                                          ((18 : Nat), AV.int IntKind.u64 (IntKind.wrap IntKind.u64 (Int.tdiv (IntKind.wrap IntKind.u64 (IntKind.wrap IntKind.u64 (IntKind.wrap IntKind.u64 ((↑c_4 : Int) * (4294967296 : Int)) + (↑c_5 : Int)) - IntKind.wrap IntKind.u64 ((↑c_7 : Int) * (↑c : Int)))) (↑c_2 : Int)))),
                                                          ((16 : Nat),
                                                            AV.int IntKind.u64
                                                              (IntKind.wrap IntKind.u64
                                                                (IntKind.wrap IntKind.u64 (IntKind.wrap IntKind.u64 (IntKind.wrap IntKind.u64 ((↑c_4 : Int) * (4294967296 : Int)) + (↑c_5 : Int)) - IntKind.wrap IntKind.u64 ((↑c_7 : Int) * (↑c : Int))) -
                                                                  IntKind.wrap IntKind.u64 (IntKind.wrap IntKind.u64 (Int.tdiv (IntKind.wrap IntKind.u64 (IntKind.wrap IntKind.u64 (IntKind.wrap IntKind.u64 ((↑c_4 : Int) * (4294967296 : Int)) + (↑c_5 : Int)) - IntKind.wrap IntKind.u64 ((↑c_7 : Int) * (↑c : Int)))) (↑c_2 : Int)) * (↑c_2 : Int)))))]
                                                        [])
                                                      (k2St
                                                        (KN.mk (Int.toNat (↑c : Int)) (Int.toNat (↑c_1 : Int)) (Int.toNat (↑c_2 : Int)) (Int.toNat (↑c_3 : Int)) (Int.toNat (IntKind.wrap IntKind.u64 (IntKind.wrap IntKind.u64 (IntKind.wrap IntKind.u64 ((↑c_4 : Int) * (4294967296 : Int)) + (↑c_5 : Int)) - IntKind.wrap IntKind.u64 ((↑c_7 : Int) * (↑c : Int))))) (Int.toNat (↑c_6 : Int)) (0 : Nat)
                                                          (Int.toNat (↑c_7 : Int)) (Int.toNat (IntKind.wrap IntKind.u64 (Int.tdiv (IntKind.wrap IntKind.u64 (IntKind.wrap IntKind.u64 (IntKind.wrap IntKind.u64 ((↑c_4 : Int) * (4294967296 : Int)) + (↑c_5 : Int)) - IntKind.wrap IntKind.u64 ((↑c_7 : Int) * (↑c : Int)))) (↑c_2 : Int))))
                                                          (Int.toNat
                                                            (IntKind.wrap IntKind.u64
                                                              (IntKind.wrap IntKind.u64 (IntKind.wrap IntKind.u64 (IntKind.wrap IntKind.u64 ((↑c_4 : Int) * (4294967296 : Int)) + (↑c_5 : Int)) - IntKind.wrap IntKind.u64 ((↑c_7 : Int) * (↑c : Int))) -
                                                                IntKind.wrap IntKind.u64 (IntKind.wrap IntKind.u64 (Int.tdiv (IntKind.wrap IntKind.u64 (IntKind.wrap IntKind.u64 (IntKind.wrap IntKind.u64 ((↑c_4 : Int) * (4294967296 : Int)) + (↑c_5 : Int)) - IntKind.wrap IntKind.u64 ((↑c_7 : Int) * (↑c : Int)))) (↑c_2 : Int)) * (↑c_2 : Int))))))))
                                                  (T.need
                                                    (kInv
                                                      (KN.mk (Int.toNat (↑c : Int)) (Int.toNat (↑c_1 : Int)) (Int.toNat (↑c_2 : Int)) (Int.toNat (↑c_3 : Int)) (Int.toNat (IntKind.wrap IntKind.u64 (IntKind.wrap IntKind.u64 (IntKind.wrap IntKind.u64 ((↑c_4 : Int) * (4294967296 : Int)) + (↑c_5 : Int)) - IntKind.wrap IntKind.u64 ((↑c_7 : Int) * (↑c : Int))))) (Int.toNat (↑c_6 : Int)) (0 : Nat)
                                                        (Int.toNat (↑c_7 : Int)) (Int.toNat (IntKind.wrap IntKind.u64 (Int.tdiv (IntKind.wrap IntKind.u64 (IntKind.wrap IntKind.u64 (IntKind.wrap IntKind.u64 ((↑c_4 : Int) * (4294967296 : Int)) + (↑c_5 : Int)) - IntKind.wrap IntKind.u64 ((↑c_7 : Int) * (↑c : Int)))) (↑c_2 : Int))))
                                                        (Int.toNat
                                                          (IntKind.wrap IntKind.u64
                                                            (IntKind.wrap IntKind.u64 (IntKind.wrap IntKind.u64 (IntKind.wrap IntKind.u64 ((↑c_4 : Int) * (4294967296 : Int)) + (↑c_5 : Int)) - IntKind.wrap IntKind.u64 ((↑c_7 : Int) * (↑c : Int))) -
                                                              IntKind.wrap IntKind.u64 (IntKind.wrap IntKind.u64 (Int.tdiv (IntKind.wrap IntKind.u64 (IntKind.wrap IntKind.u64 (IntKind.wrap IntKind.u64 ((↑c_4 : Int) * (4294967296 : Int)) + (↑c_5 : Int)) - IntKind.wrap IntKind.u64 ((↑c_7 : Int) * (↑c : Int)))) (↑c_2 : Int)) * (↑c_2 : Int)))))))
                                                    (T.all fun c_8 =>
                                                      T.all fun c_9 =>
                                                        T.asm
                                                          (decide
                                                            (c_8 = Int.toNat (IntKind.wrap IntKind.u64 (IntKind.wrap IntKind.u64 (IntKind.wrap IntKind.u64 ((↑c_4 : Int) * (4294967296 : Int)) + (↑c_5 : Int)) - IntKind.wrap IntKind.u64 ((↑c_7 : Int) * (↑c : Int)))) ∧
                                                              c_9 =
                                                                KN.N
                                                                    (KN.mk (Int.toNat (↑c : Int)) (Int.toNat (↑c_1 : Int)) (Int.toNat (↑c_2 : Int)) (Int.toNat (↑c_3 : Int)) (Int.toNat (IntKind.wrap IntKind.u64 (IntKind.wrap IntKind.u64 (IntKind.wrap IntKind.u64 ((↑c_4 : Int) * (4294967296 : Int)) + (↑c_5 : Int)) - IntKind.wrap IntKind.u64 ((↑c_7 : Int) * (↑c : Int))))) (Int.toNat (↑c_6 : Int))
                                                                      (0 : Nat) (Int.toNat (↑c_7 : Int)) (Int.toNat (IntKind.wrap IntKind.u64 (Int.tdiv (IntKind.wrap IntKind.u64 (IntKind.wrap IntKind.u64 (IntKind.wrap IntKind.u64 ((↑c_4 : Int) * (4294967296 : Int)) + (↑c_5 : Int)) - IntKind.wrap IntKind.u64 ((↑c_7 : Int) * (↑c : Int)))) (↑c_2 : Int))))
                                                                      (Int.toNat
                                                                        (IntKind.wrap IntKind.u64
                                                                          (IntKind.wrap IntKind.u64 (IntKind.wrap IntKind.u64 (IntKind.wrap IntKind.u64 ((↑c_4 : Int) * (4294967296 : Int)) + (↑c_5 : Int)) - IntKind.wrap IntKind.u64 ((↑c_7 : Int) * (↑c : Int))) -
                                                                            IntKind.wrap IntKind.u64 (IntKind.wrap IntKind.u64 (Int.tdiv (IntKind.wrap IntKind.u64 (IntKind.wrap IntKind.u64 (IntKind.wrap IntKind.u64 ((↑c_4 : Int) * (4294967296 : Int)) + (↑c_5 : Int)) - IntKind.wrap IntKind.u64 ((↑c_7 : Int) * (↑c : Int)))) (↑c_2 : Int)) * (↑c_2 : Int)))))) /
                                                                  KN.Y
                                                                    (KN.mk (Int.toNat (↑c : Int)) (Int.toNat (↑c_1 : Int)) (Int.toNat (↑c_2 : Int)) (Int.toNat (↑c_3 : Int)) (Int.toNat (IntKind.wrap IntKind.u64 (IntKind.wrap IntKind.u64 (IntKind.wrap IntKind.u64 ((↑c_4 : Int) * (4294967296 : Int)) + (↑c_5 : Int)) - IntKind.wrap IntKind.u64 ((↑c_7 : Int) * (↑c : Int))))) (Int.toNat (↑c_6 : Int))
                                                                      (0 : Nat) (Int.toNat (↑c_7 : Int)) (Int.toNat (IntKind.wrap IntKind.u64 (Int.tdiv (IntKind.wrap IntKind.u64 (IntKind.wrap IntKind.u64 (IntKind.wrap IntKind.u64 ((↑c_4 : Int) * (4294967296 : Int)) + (↑c_5 : Int)) - IntKind.wrap IntKind.u64 ((↑c_7 : Int) * (↑c : Int)))) (↑c_2 : Int))))
                                                                      (Int.toNat
                                                                        (IntKind.wrap IntKind.u64
                                                                          (IntKind.wrap IntKind.u64 (IntKind.wrap IntKind.u64 (IntKind.wrap IntKind.u64 ((↑c_4 : Int) * (4294967296 : Int)) + (↑c_5 : Int)) - IntKind.wrap IntKind.u64 ((↑c_7 : Int) * (↑c : Int))) -
                                                                            IntKind.wrap IntKind.u64 (IntKind.wrap IntKind.u64 (Int.tdiv (IntKind.wrap IntKind.u64 (IntKind.wrap IntKind.u64 (IntKind.wrap IntKind.u64 ((↑c_4 : Int) * (4294967296 : Int)) + (↑c_5 : Int)) - IntKind.wrap IntKind.u64 ((↑c_7 : Int) * (↑c : Int)))) (↑c_2 : Int)) * (↑c_2 : Int))))))))
                                                          (T.chk (decide ((0 : Int) ≤ (↑(Int.toNat (↑c_1 : Int)) : Int)))
                                                            (T.ret
                                                              (AV.tup
                                                                [AV.int IntKind.u64 (IntKind.wrap IntKind.u64 (IntKind.wrap IntKind.u64 ((↑(Int.toNat (↑c_7 : Int)) : Int) * (4294967296 : Int)) + (↑c_9 : Int))),
                                                                  AV.int IntKind.u64
                                                                    (Int.fdiv (IntKind.wrap IntKind.u64 (IntKind.wrap IntKind.u64 (IntKind.wrap IntKind.u64 ((↑c_8 : Int) * (4294967296 : Int)) + (↑(Int.toNat (↑c_6 : Int)) : Int)) - IntKind.wrap IntKind.u64 ((↑c_9 : Int) * (↑(Int.toNat (↑c : Int)) : Int))))
                                                                      ((2 : Int) ^ min (Int.toNat (↑(Int.toNat (↑c_1 : Int)) : Int)) (64 : Nat)))])))))))))))))))))))) := by
  kernel_rfl

end Go.Proofs.Ytlebekeplkkciaa
