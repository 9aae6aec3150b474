/-
  Layer 15: Plays: Same's contract.
-/
import Derived.Test.YtemgmcchepmicaaHPa
namespace Go.Proofs.Ytemgmcchepmicaa
open Go.Ox
set_option maxRecDepth 100000
set_option maxHeartbeats 16000000
set_option linter.unusedVariables false
set_option linter.unusedSimpArgs false

theorem get_take {m : AM} {k i : Nat} {b : Blk} (h : AM.get (m.take k) i = some b) : AM.get m i = some b := by
  rw [AM.get_eq] at h ⊢
  by_cases hi : i < k
  · simpa [List.getElem?_take, hi] using h
  · simp [List.getElem?_take, hi] at h

theorem leaf_take {n0 k : Nat} {Q : AV × AM → Prop} {v : AV} {m : AM} (h : Leaf n0 Q (v, m.take k)) : Leaf n0 Q (v, m) := by
  obtain ⟨ρ, v', m', h1, h2, h3, h4⟩ := h
  refine ⟨ρ, v', m', h1, h2, h3, ⟨fun id b hb => ?_, h4.sep, h4.base, h4.nle, fun id b hb => ?_⟩⟩
  · obtain ⟨b', g1, g2⟩ := h4.blk id b hb
    exact ⟨b', get_take g1, g2⟩
  · obtain ⟨b', g1, g2⟩ := h4.fam id b hb
    exact ⟨b', get_take g1, g2⟩

theorem hold_take {t : T (AV × AM)} {k n0 : Nat} {Q : AV × AM → Prop} (h : Hold (t.bind fun r => (.ret (r.1, r.2.take k) : T (AV × AM))) (Leaf n0 Q)) : Hold t (Leaf n0 Q) :=
  ⟨T.holds_mono (fun r hr => leaf_take hr) _ ((T.holds_bind t).1 h.h)⟩

theorem inlE_eff {P : Program} {base : List (Nat × Summ)} {l : List (Nat × Func)} (hb : EnvOK P base) (hl : InlOK P l) {f : FuncId} {fn : Func} (hf : P.funcs[f]? = some fn) (hbd : fn.body = some (codeOf fn)) (hk : keysB 4 (loopsIn (codeOf fn)) = true) {args : List AV} {m : AM} {k : Nat} (hkm : m.length = k) {t : T (AV × AM)}
    (ht : ∀ Q, t.holds Q → Hold (afn P (inlE P base l fn k) fn (codeOf fn) args m) (Leaf k Q)) : EffAt P f args m t := by
  subst hkm
  obtain ⟨a1, a2, a3⟩ := runE_nt (P := P) (nt := fn.ntmps) (n0 := m.length) (fns := inl P base l) (n := 10000) 4 (loopsIn (codeOf fn))
  exact fn_ok (E := inlE P base l fn m.length) hf hbd (by unfold inlE; rw [a3]; exact inl_ok hb l hl) (runE_ok (inl_ok hb l hl) 4 _ hk) a1 a2 fun Q hq => (ht Q hq).h

theorem byV_same {n c : Nat} {ρ : Nat → Nat} {f : Nat → Int} : BlkOK n ρ (byV c f) (byV c f) := BlkOK.rows' (fun h => h) fun j _ => LAlike.ints rfl

theorem roB_ok {n : Nat} {ρ : Nat → Nat} {l l' : List AV} {b : Bool} {F : Nat → List AV} (h : LAlike n ρ l' l) : BlkOK n ρ (Blk.mk b l' 0 0 F [] none) (roB l) := ⟨fun h => (by cases h), h, rfl, rfl, (fun j hj => absurd hj (Nat.not_lt_zero j)), trivial, trivial⟩

theorem sa_e00 (N s0 t0 s1 t1 : Int) (n0 c0 b0 : Nat) (f0 : Nat → Int) (d0 e0 : Nat) (g0 : Nat → Int) (n1 c1 b1 : Nat) (f1 : Nat → Int) (d1 e1 : Nat) (g1 : Nat → Int) : EffAt Try.prog 22 [.ptr 0 0 0 0, .ptr 1 0 0 0] (saM false false N s0 t0 s1 t1 n0 c0 b0 f0 d0 e0 g0 n1 c1 b1 f1 d1 e1 g1) (.ret (.bool true, saM false false N s0 t0 s1 t1 n0 c0 b0 f0 d0 e0 g0 n1 c1 b1 f1 d1 e1 g1)) := by
  refine inlE_eff (k := 2) saB_ok saL_ok Try.func22 rfl (by kernel_rfl) rfl fun Q hq => hold_take (k := 2) (Hold.cut (sa_t00 N s0 t0 s1 t1 n0 c0 b0 f0 d0 e0 g0 n1 c1 b1 f1 d1 e1 g1) ⟨?_⟩)
  have hq : Q (.bool true, saM false false N s0 t0 s1 t1 n0 c0 b0 f0 d0 e0 g0 n1 c1 b1 f1 d1 e1 g1) := hq
  have fin : ∀ v, Ox.Alike v (.bool true) → Leaf 2 Q (v, saM false false N s0 t0 s1 t1 n0 c0 b0 f0 d0 e0 g0 n1 c1 b1 f1 d1 e1 g1) := fun v hv => leaf_of id hq (by simpa [ren] using hv) (by simp [below]) (Sub.ofId ⟨⟨_, rfl, roB_ok (la_nil (la_int rfl (la_nil (la_int rfl (la_int rfl la_end)))))⟩, ⟨_, rfl, roB_ok (la_int rfl (la_nil (la_nil (la_int rfl (la_int rfl la_end)))))⟩, trivial⟩ (by simp [saM]))
  refine T.hchkT ?_
  refine T.hchkT ?_
  refine T.hchkT ?_
  refine T.hchkT ?_
  refine T.hneed ?_ ?_
  · trivial
  refine T.hneed ?_ ?_
  · trivial
  refine T.hchkT ?_
  refine T.hchkT ?_
  refine T.hchkT ?_
  refine T.hchkT ?_
  refine T.hneed ?_ ?_
  · (intro d hd; exact absurd hd (Nat.not_lt_zero d))
  refine T.hchkT ?_
  refine T.hchkT ?_
  refine T.hchkT ?_
  refine T.hchkT ?_
  refine T.hchkT ?_
  refine T.hchkT ?_
  refine T.hchkT ?_
  refine T.hchkT ?_
  refine T.hchkT ?_
  refine T.hchkT ?_
  refine T.hchkT ?_
  refine T.hneed ?_ ?_
  · trivial
  refine T.hneed ?_ ?_
  · trivial
  refine T.hchkT ?_
  refine T.hchkT ?_
  refine T.hchkT ?_
  refine T.hchkT ?_
  refine T.hneed ?_ ?_
  · (intro d hd; exact absurd hd (Nat.not_lt_zero d))
  refine T.hchkT ?_
  refine T.hchkT ?_
  refine T.hchkT ?_
  refine T.hchkT ?_
  refine T.hchkT ?_
  refine T.hchkT ?_
  refine T.hite (fun g1 => ?_) (fun g1 => ?_)
  · skip
    exfalso; simp at g1
  · skip
    refine T.hchkT ?_
    refine T.hchkT ?_
    refine T.hchkT ?_
    refine T.hchkT ?_
    refine T.hchkT ?_
    refine T.hchkT ?_
    refine T.hchkT ?_
    refine T.hneed ?_ ?_
    · trivial
    refine T.hneed ?_ ?_
    · trivial
    refine T.hchkT ?_
    refine T.hchkT ?_
    refine T.hchkT ?_
    refine T.hchkT ?_
    refine T.hneed ?_ ?_
    · (intro d hd; exact absurd hd (Nat.not_lt_zero d))
    refine T.hchkT ?_
    refine T.hchkT ?_
    refine T.hchkT ?_
    refine T.hchkT ?_
    refine T.hchkT ?_
    refine T.hchkT ?_
    refine T.hchkT ?_
    refine T.hchk ?_ ?_
    · simp
    refine T.hchkT ?_
    refine T.hchkT ?_
    refine T.hchkT ?_
    refine T.hchkT ?_
    refine T.hchkT ?_
    refine T.hneed ?_ ?_
    · trivial
    refine T.hneed ?_ ?_
    · trivial
    refine T.hchkT ?_
    refine T.hchkT ?_
    refine T.hchkT ?_
    refine T.hchkT ?_
    refine T.hneed ?_ ?_
    · (intro d hd; exact absurd hd (Nat.not_lt_zero d))
    refine T.hchkT ?_
    refine T.hchkT ?_
    refine T.hchkT ?_
    refine T.hchkT ?_
    refine T.hchkT ?_
    refine T.hchkT ?_
    refine T.hchkT ?_
    refine T.hret ?_
    exact fin _ (by simp)

theorem sa_e10 (N s0 t0 s1 t1 : Int) (n0 c0 b0 : Nat) (f0 : Nat → Int) (d0 e0 : Nat) (g0 : Nat → Int) (n1 c1 b1 : Nat) (f1 : Nat → Int) (d1 e1 : Nat) (g1 : Nat → Int) (hb0 : n0 ≤ b0 ∧ n0 ≤ e0 ∧ n0 ≤ 262144) (he0 : ∀ r, r < n0 → f0 r = g0 r) : EffAt Try.prog 22 [.ptr 0 0 0 0, .ptr 1 0 0 0] (saM true false N s0 t0 s1 t1 n0 c0 b0 f0 d0 e0 g0 n1 c1 b1 f1 d1 e1 g1) (.ret (.bool true, saM true false N s0 t0 s1 t1 n0 c0 b0 f0 d0 e0 g0 n1 c1 b1 f1 d1 e1 g1)) := by
  refine inlE_eff (k := 4) saB_ok saL_ok Try.func22 rfl (by kernel_rfl) rfl fun Q hq => hold_take (k := 4) (Hold.cut (sa_t10 N s0 t0 s1 t1 n0 c0 b0 f0 d0 e0 g0 n1 c1 b1 f1 d1 e1 g1) ⟨?_⟩)
  have hq : Q (.bool true, saM true false N s0 t0 s1 t1 n0 c0 b0 f0 d0 e0 g0 n1 c1 b1 f1 d1 e1 g1) := hq
  have fin : ∀ v, Ox.Alike v (.bool true) → Leaf 4 Q (v, saM true false N s0 t0 s1 t1 n0 c0 b0 f0 d0 e0 g0 n1 c1 b1 f1 d1 e1 g1) := fun v hv => leaf_of id hq (by simpa [ren] using hv) (by simp [below]) (Sub.ofId ⟨⟨_, rfl, roB_ok (la_sl rfl (by simp [saM]) rfl rfl (la_int rfl (la_nil (la_int rfl (la_int rfl la_end)))))⟩, ⟨_, rfl, roB_ok (la_int rfl (la_sl rfl (by simp [saM]) rfl rfl (la_nil (la_int rfl (la_int rfl la_end)))))⟩, ⟨_, rfl, byV_same⟩, ⟨_, rfl, byV_same⟩, trivial⟩ (by simp [saM]))
  refine T.hchkT ?_
  refine T.hchkT ?_
  refine T.hchkT ?_
  refine T.hchkT ?_
  refine T.hneed ?_ ?_
  · trivial
  refine T.hneed ?_ ?_
  · trivial
  refine T.hchkT ?_
  refine T.hchkT ?_
  refine T.hchkT ?_
  refine T.hchkT ?_
  refine T.hneed ?_ ?_
  · (intro d hd; exact absurd hd (Nat.not_lt_zero d))
  refine T.hchkT ?_
  refine T.hchkT ?_
  refine T.hchkT ?_
  refine T.hchkT ?_
  refine T.hchkT ?_
  refine T.hchkT ?_
  refine T.hchkT ?_
  refine T.hchkT ?_
  refine T.hchkT ?_
  refine T.hchk ?_ ?_
  · exact decide_eq_true (by omega)
  refine T.hiteP (fun g1 => ?_) (fun g1 => ?_)
  · skip
    refine T.hchkT ?_
    refine T.hchkT ?_
    refine T.hchk ?_ ?_
    · exact decide_eq_true (by omega)
    refine T.hchk ?_ ?_
    · exact decide_eq_true (by omega)
    refine T.hneed ?_ ?_
    · trivial
    refine T.hneed ?_ ?_
    · trivial
    refine T.hchkT ?_
    refine T.hchkT ?_
    refine T.hchkT ?_
    refine T.hchkT ?_
    refine T.hneed ?_ ?_
    · (intro d hd; exact absurd hd (Nat.not_lt_zero d))
    refine T.hchkT ?_
    refine T.hchkT ?_
    refine T.hchkT ?_
    refine T.hchkT ?_
    refine T.hchkT ?_
    refine T.hchkT ?_
    refine T.hchk ?_ ?_
    · simp
    refine T.hchkT ?_
    refine T.hchkT ?_
    refine T.hchkT ?_
    refine T.hchkT ?_
    refine T.hchkT ?_
    refine T.hchkT ?_
    refine T.hchkT ?_
    refine T.hneed ?_ ?_
    · trivial
    refine T.hneed ?_ ?_
    · trivial
    refine T.hchkT ?_
    refine T.hchkT ?_
    refine T.hchkT ?_
    refine T.hchkT ?_
    refine T.hneed ?_ ?_
    · (intro d hd; exact absurd hd (Nat.not_lt_zero d))
    refine T.hchkT ?_
    refine T.hchkT ?_
    refine T.hchkT ?_
    refine T.hchkT ?_
    refine T.hchkT ?_
    refine T.hchkT ?_
    refine T.hchkT ?_
    refine T.hchk ?_ ?_
    · simp
    refine T.hchkT ?_
    refine T.hchkT ?_
    refine T.hchkT ?_
    refine T.hchkT ?_
    refine T.hchkT ?_
    refine T.hneed ?_ ?_
    · trivial
    refine T.hneed ?_ ?_
    · trivial
    refine T.hchkT ?_
    refine T.hchkT ?_
    refine T.hchkT ?_
    refine T.hchkT ?_
    refine T.hneed ?_ ?_
    · (intro d hd; exact absurd hd (Nat.not_lt_zero d))
    refine T.hchkT ?_
    refine T.hchkT ?_
    refine T.hchkT ?_
    refine T.hchkT ?_
    refine T.hchkT ?_
    refine T.hchkT ?_
    refine T.hchkT ?_
    refine T.hret ?_
    exact fin _ (by simp)
  · skip
    refine T.hchk ?_ ?_
    · exact decide_eq_true (by omega)
    refine T.hall (fun c => ?_)
    refine T.hasmP (fun g2 => ?_)
    refine T.hchkT ?_
    refine T.hchkT ?_
    refine T.hchk ?_ ?_
    · exact decide_eq_true (by omega)
    refine T.hchk ?_ ?_
    · (simp only [Bool.not_eq_true', decide_eq_false_iff_not]; omega)
    refine T.hchk ?_ ?_
    · exact decide_eq_true (by omega)
    refine T.hall (fun c_1 => ?_)
    refine T.hasmP (fun g3 => ?_)
    refine T.hneed ?_ ?_
    · exact rowJ (fun r => by first | exact ⟨_, rfl⟩ | exact ⟨_, row_cl _ _ r⟩)
    refine T.hneed ?_ ?_
    · exact rowJ (fun r => by first | exact ⟨_, rfl⟩ | exact ⟨_, row_cl _ _ r⟩)
    refine T.hchk ?_ ?_
    · exact decide_eq_true (by omega)
    refine T.hchk ?_ ?_
    · exact decide_eq_true (by omega)
    refine T.hchk ?_ ?_
    · exact decide_eq_true (by omega)
    refine T.hchk ?_ ?_
    · exact decide_eq_true (by omega)
    refine T.hneed ?_ ?_
    · (intro d hd; dsimp only at hd ⊢; rw [intAt_hd, intAt_hd]; dsimp only [Blk.rows, byV]; rw [if_neg (by omega), if_pos (by omega), if_neg (by omega), if_pos (by omega)]; first | exact he0 _ (by omega) | exact he1 _ (by omega))
    refine T.hchkT ?_
    refine T.hchkT ?_
    refine T.hchkT ?_
    refine T.hchkT ?_
    refine T.hchkT ?_
    refine T.hchkT ?_
    refine T.hchk ?_ ?_
    · simp
    refine T.hneed ?_ ?_
    · exact rowJ (fun r => by first | exact ⟨_, rfl⟩ | exact ⟨_, row_cl _ _ r⟩)
    refine T.hchkT ?_
    refine T.hchk ?_ ?_
    · exact decide_eq_true (by omega)
    refine T.hchk ?_ ?_
    · exact decide_eq_true (by omega)
    refine T.hchkT ?_
    refine T.hchkT ?_
    refine T.hchkT ?_
    refine T.hchkT ?_
    refine T.hchkT ?_
    refine T.hchkT ?_
    refine T.hchkT ?_
    refine T.hneed ?_ ?_
    · trivial
    refine T.hneed ?_ ?_
    · trivial
    refine T.hchkT ?_
    refine T.hchkT ?_
    refine T.hchkT ?_
    refine T.hchkT ?_
    refine T.hneed ?_ ?_
    · (intro d hd; exact absurd hd (Nat.not_lt_zero d))
    refine T.hchkT ?_
    refine T.hchkT ?_
    refine T.hchkT ?_
    refine T.hchkT ?_
    refine T.hchkT ?_
    refine T.hchkT ?_
    refine T.hchkT ?_
    refine T.hchk ?_ ?_
    · simp
    refine T.hchkT ?_
    refine T.hchkT ?_
    refine T.hchkT ?_
    refine T.hchkT ?_
    refine T.hchkT ?_
    refine T.hneed ?_ ?_
    · trivial
    refine T.hneed ?_ ?_
    · trivial
    refine T.hchkT ?_
    refine T.hchkT ?_
    refine T.hchkT ?_
    refine T.hchkT ?_
    refine T.hneed ?_ ?_
    · (intro d hd; exact absurd hd (Nat.not_lt_zero d))
    refine T.hchkT ?_
    refine T.hchkT ?_
    refine T.hchkT ?_
    refine T.hchkT ?_
    refine T.hchkT ?_
    refine T.hchkT ?_
    refine T.hchkT ?_
    refine T.hret ?_
    exact fin _ (by simp)

theorem sa_e01 (N s0 t0 s1 t1 : Int) (n0 c0 b0 : Nat) (f0 : Nat → Int) (d0 e0 : Nat) (g0 : Nat → Int) (n1 c1 b1 : Nat) (f1 : Nat → Int) (d1 e1 : Nat) (g1 : Nat → Int) (hb1 : n1 ≤ b1 ∧ n1 ≤ e1 ∧ n1 ≤ 262144) (he1 : ∀ r, r < n1 → f1 r = g1 r) : EffAt Try.prog 22 [.ptr 0 0 0 0, .ptr 1 0 0 0] (saM false true N s0 t0 s1 t1 n0 c0 b0 f0 d0 e0 g0 n1 c1 b1 f1 d1 e1 g1) (.ret (.bool true, saM false true N s0 t0 s1 t1 n0 c0 b0 f0 d0 e0 g0 n1 c1 b1 f1 d1 e1 g1)) := by
  refine inlE_eff (k := 4) saB_ok saL_ok Try.func22 rfl (by kernel_rfl) rfl fun Q hq => hold_take (k := 4) (Hold.cut (sa_t01 N s0 t0 s1 t1 n0 c0 b0 f0 d0 e0 g0 n1 c1 b1 f1 d1 e1 g1) ⟨?_⟩)
  have hq : Q (.bool true, saM false true N s0 t0 s1 t1 n0 c0 b0 f0 d0 e0 g0 n1 c1 b1 f1 d1 e1 g1) := hq
  have fin : ∀ v, Ox.Alike v (.bool true) → Leaf 4 Q (v, saM false true N s0 t0 s1 t1 n0 c0 b0 f0 d0 e0 g0 n1 c1 b1 f1 d1 e1 g1) := fun v hv => leaf_of id hq (by simpa [ren] using hv) (by simp [below]) (Sub.ofId ⟨⟨_, rfl, roB_ok (la_nil (la_int rfl (la_sl rfl (by simp [saM]) rfl rfl (la_int rfl (la_int rfl la_end)))))⟩, ⟨_, rfl, roB_ok (la_int rfl (la_nil (la_sl rfl (by simp [saM]) rfl rfl (la_int rfl (la_int rfl la_end)))))⟩, ⟨_, rfl, byV_same⟩, ⟨_, rfl, byV_same⟩, trivial⟩ (by simp [saM]))
  refine T.hchkT ?_
  refine T.hchkT ?_
  refine T.hchkT ?_
  refine T.hchkT ?_
  refine T.hneed ?_ ?_
  · trivial
  refine T.hneed ?_ ?_
  · trivial
  refine T.hchkT ?_
  refine T.hchkT ?_
  refine T.hchkT ?_
  refine T.hchkT ?_
  refine T.hneed ?_ ?_
  · (intro d hd; exact absurd hd (Nat.not_lt_zero d))
  refine T.hchkT ?_
  refine T.hchkT ?_
  refine T.hchkT ?_
  refine T.hchkT ?_
  refine T.hchkT ?_
  refine T.hchkT ?_
  refine T.hchkT ?_
  refine T.hchkT ?_
  refine T.hchkT ?_
  refine T.hchkT ?_
  refine T.hchkT ?_
  refine T.hneed ?_ ?_
  · trivial
  refine T.hneed ?_ ?_
  · trivial
  refine T.hchkT ?_
  refine T.hchkT ?_
  refine T.hchkT ?_
  refine T.hchkT ?_
  refine T.hneed ?_ ?_
  · (intro d hd; exact absurd hd (Nat.not_lt_zero d))
  refine T.hchkT ?_
  refine T.hchkT ?_
  refine T.hchkT ?_
  refine T.hchkT ?_
  refine T.hchkT ?_
  refine T.hchkT ?_
  refine T.hite (fun g1 => ?_) (fun g1 => ?_)
  · skip
    exfalso; simp at g1
  · skip
    refine T.hchkT ?_
    refine T.hchkT ?_
    refine T.hchkT ?_
    refine T.hchkT ?_
    refine T.hchk ?_ ?_
    · exact decide_eq_true (by omega)
    refine T.hiteP (fun g2 => ?_) (fun g2 => ?_)
    · skip
      refine T.hchkT ?_
      refine T.hchkT ?_
      refine T.hchkT ?_
      refine T.hchk ?_ ?_
      · exact decide_eq_true (by omega)
      refine T.hchk ?_ ?_
      · exact decide_eq_true (by omega)
      refine T.hneed ?_ ?_
      · trivial
      refine T.hneed ?_ ?_
      · trivial
      refine T.hchkT ?_
      refine T.hchkT ?_
      refine T.hchkT ?_
      refine T.hchkT ?_
      refine T.hneed ?_ ?_
      · (intro d hd; exact absurd hd (Nat.not_lt_zero d))
      refine T.hchkT ?_
      refine T.hchkT ?_
      refine T.hchkT ?_
      refine T.hchkT ?_
      refine T.hchkT ?_
      refine T.hchkT ?_
      refine T.hchkT ?_
      refine T.hchk ?_ ?_
      · simp
      refine T.hchkT ?_
      refine T.hchkT ?_
      refine T.hchkT ?_
      refine T.hchkT ?_
      refine T.hchkT ?_
      refine T.hneed ?_ ?_
      · trivial
      refine T.hneed ?_ ?_
      · trivial
      refine T.hchkT ?_
      refine T.hchkT ?_
      refine T.hchkT ?_
      refine T.hchkT ?_
      refine T.hneed ?_ ?_
      · (intro d hd; exact absurd hd (Nat.not_lt_zero d))
      refine T.hchkT ?_
      refine T.hchkT ?_
      refine T.hchkT ?_
      refine T.hchkT ?_
      refine T.hchkT ?_
      refine T.hchkT ?_
      refine T.hchkT ?_
      refine T.hret ?_
      exact fin _ (by simp)
    · skip
      refine T.hchk ?_ ?_
      · exact decide_eq_true (by omega)
      refine T.hall (fun c => ?_)
      refine T.hasmP (fun g3 => ?_)
      refine T.hchkT ?_
      refine T.hchkT ?_
      refine T.hchkT ?_
      refine T.hchk ?_ ?_
      · exact decide_eq_true (by omega)
      refine T.hchk ?_ ?_
      · (simp only [Bool.not_eq_true', decide_eq_false_iff_not]; omega)
      refine T.hchk ?_ ?_
      · exact decide_eq_true (by omega)
      refine T.hall (fun c_1 => ?_)
      refine T.hasmP (fun g4 => ?_)
      refine T.hneed ?_ ?_
      · exact rowJ (fun r => by first | exact ⟨_, rfl⟩ | exact ⟨_, row_cl _ _ r⟩)
      refine T.hneed ?_ ?_
      · exact rowJ (fun r => by first | exact ⟨_, rfl⟩ | exact ⟨_, row_cl _ _ r⟩)
      refine T.hchk ?_ ?_
      · exact decide_eq_true (by omega)
      refine T.hchk ?_ ?_
      · exact decide_eq_true (by omega)
      refine T.hchk ?_ ?_
      · exact decide_eq_true (by omega)
      refine T.hchk ?_ ?_
      · exact decide_eq_true (by omega)
      refine T.hneed ?_ ?_
      · (intro d hd; dsimp only at hd ⊢; rw [intAt_hd, intAt_hd]; dsimp only [Blk.rows, byV]; rw [if_neg (by omega), if_pos (by omega), if_neg (by omega), if_pos (by omega)]; first | exact he0 _ (by omega) | exact he1 _ (by omega))
      refine T.hchkT ?_
      refine T.hchkT ?_
      refine T.hchkT ?_
      refine T.hchkT ?_
      refine T.hchkT ?_
      refine T.hchkT ?_
      refine T.hchkT ?_
      refine T.hchk ?_ ?_
      · simp
      refine T.hneed ?_ ?_
      · exact rowJ (fun r => by first | exact ⟨_, rfl⟩ | exact ⟨_, row_cl _ _ r⟩)
      refine T.hchkT ?_
      refine T.hchk ?_ ?_
      · exact decide_eq_true (by omega)
      refine T.hchk ?_ ?_
      · exact decide_eq_true (by omega)
      refine T.hchkT ?_
      refine T.hchkT ?_
      refine T.hchkT ?_
      refine T.hchkT ?_
      refine T.hchkT ?_
      refine T.hneed ?_ ?_
      · trivial
      refine T.hneed ?_ ?_
      · trivial
      refine T.hchkT ?_
      refine T.hchkT ?_
      refine T.hchkT ?_
      refine T.hchkT ?_
      refine T.hneed ?_ ?_
      · (intro d hd; exact absurd hd (Nat.not_lt_zero d))
      refine T.hchkT ?_
      refine T.hchkT ?_
      refine T.hchkT ?_
      refine T.hchkT ?_
      refine T.hchkT ?_
      refine T.hchkT ?_
      refine T.hchkT ?_
      refine T.hret ?_
      exact fin _ (by simp)

theorem sa_e11 (N s0 t0 s1 t1 : Int) (n0 c0 b0 : Nat) (f0 : Nat → Int) (d0 e0 : Nat) (g0 : Nat → Int) (n1 c1 b1 : Nat) (f1 : Nat → Int) (d1 e1 : Nat) (g1 : Nat → Int) (hb0 : n0 ≤ b0 ∧ n0 ≤ e0 ∧ n0 ≤ 262144) (he0 : ∀ r, r < n0 → f0 r = g0 r) (hb1 : n1 ≤ b1 ∧ n1 ≤ e1 ∧ n1 ≤ 262144) (he1 : ∀ r, r < n1 → f1 r = g1 r) : EffAt Try.prog 22 [.ptr 0 0 0 0, .ptr 1 0 0 0] (saM true true N s0 t0 s1 t1 n0 c0 b0 f0 d0 e0 g0 n1 c1 b1 f1 d1 e1 g1) (.ret (.bool true, saM true true N s0 t0 s1 t1 n0 c0 b0 f0 d0 e0 g0 n1 c1 b1 f1 d1 e1 g1)) := by
  refine inlE_eff (k := 6) saB_ok saL_ok Try.func22 rfl (by kernel_rfl) rfl fun Q hq => hold_take (k := 6) (Hold.cut (sa_t11 N s0 t0 s1 t1 n0 c0 b0 f0 d0 e0 g0 n1 c1 b1 f1 d1 e1 g1) ⟨?_⟩)
  have hq : Q (.bool true, saM true true N s0 t0 s1 t1 n0 c0 b0 f0 d0 e0 g0 n1 c1 b1 f1 d1 e1 g1) := hq
  have fin : ∀ v, Ox.Alike v (.bool true) → Leaf 6 Q (v, saM true true N s0 t0 s1 t1 n0 c0 b0 f0 d0 e0 g0 n1 c1 b1 f1 d1 e1 g1) := fun v hv => leaf_of id hq (by simpa [ren] using hv) (by simp [below]) (Sub.ofId ⟨⟨_, rfl, roB_ok (la_sl rfl (by simp [saM]) rfl rfl (la_int rfl (la_sl rfl (by simp [saM]) rfl rfl (la_int rfl (la_int rfl la_end)))))⟩, ⟨_, rfl, roB_ok (la_int rfl (la_sl rfl (by simp [saM]) rfl rfl (la_sl rfl (by simp [saM]) rfl rfl (la_int rfl (la_int rfl la_end)))))⟩, ⟨_, rfl, byV_same⟩, ⟨_, rfl, byV_same⟩, ⟨_, rfl, byV_same⟩, ⟨_, rfl, byV_same⟩, trivial⟩ (by simp [saM]))
  refine T.hchkT ?_
  refine T.hchkT ?_
  refine T.hchkT ?_
  refine T.hchkT ?_
  refine T.hneed ?_ ?_
  · trivial
  refine T.hneed ?_ ?_
  · trivial
  refine T.hchkT ?_
  refine T.hchkT ?_
  refine T.hchkT ?_
  refine T.hchkT ?_
  refine T.hneed ?_ ?_
  · (intro d hd; exact absurd hd (Nat.not_lt_zero d))
  refine T.hchkT ?_
  refine T.hchkT ?_
  refine T.hchkT ?_
  refine T.hchkT ?_
  refine T.hchkT ?_
  refine T.hchkT ?_
  refine T.hchkT ?_
  refine T.hchkT ?_
  refine T.hchkT ?_
  refine T.hchk ?_ ?_
  · exact decide_eq_true (by omega)
  refine T.hiteP (fun g1 => ?_) (fun g1 => ?_)
  · skip
    refine T.hchkT ?_
    refine T.hchkT ?_
    refine T.hchk ?_ ?_
    · exact decide_eq_true (by omega)
    refine T.hchk ?_ ?_
    · exact decide_eq_true (by omega)
    refine T.hneed ?_ ?_
    · trivial
    refine T.hneed ?_ ?_
    · trivial
    refine T.hchkT ?_
    refine T.hchkT ?_
    refine T.hchkT ?_
    refine T.hchkT ?_
    refine T.hneed ?_ ?_
    · (intro d hd; exact absurd hd (Nat.not_lt_zero d))
    refine T.hchkT ?_
    refine T.hchkT ?_
    refine T.hchkT ?_
    refine T.hchkT ?_
    refine T.hchkT ?_
    refine T.hchkT ?_
    refine T.hchk ?_ ?_
    · simp
    refine T.hchkT ?_
    refine T.hchkT ?_
    refine T.hchkT ?_
    refine T.hchkT ?_
    refine T.hchk ?_ ?_
    · exact decide_eq_true (by omega)
    refine T.hiteP (fun g2 => ?_) (fun g2 => ?_)
    · skip
      refine T.hchkT ?_
      refine T.hchkT ?_
      refine T.hchkT ?_
      refine T.hchk ?_ ?_
      · exact decide_eq_true (by omega)
      refine T.hchk ?_ ?_
      · exact decide_eq_true (by omega)
      refine T.hneed ?_ ?_
      · trivial
      refine T.hneed ?_ ?_
      · trivial
      refine T.hchkT ?_
      refine T.hchkT ?_
      refine T.hchkT ?_
      refine T.hchkT ?_
      refine T.hneed ?_ ?_
      · (intro d hd; exact absurd hd (Nat.not_lt_zero d))
      refine T.hchkT ?_
      refine T.hchkT ?_
      refine T.hchkT ?_
      refine T.hchkT ?_
      refine T.hchkT ?_
      refine T.hchkT ?_
      refine T.hchkT ?_
      refine T.hchk ?_ ?_
      · simp
      refine T.hchkT ?_
      refine T.hchkT ?_
      refine T.hchkT ?_
      refine T.hchkT ?_
      refine T.hchkT ?_
      refine T.hneed ?_ ?_
      · trivial
      refine T.hneed ?_ ?_
      · trivial
      refine T.hchkT ?_
      refine T.hchkT ?_
      refine T.hchkT ?_
      refine T.hchkT ?_
      refine T.hneed ?_ ?_
      · (intro d hd; exact absurd hd (Nat.not_lt_zero d))
      refine T.hchkT ?_
      refine T.hchkT ?_
      refine T.hchkT ?_
      refine T.hchkT ?_
      refine T.hchkT ?_
      refine T.hchkT ?_
      refine T.hchkT ?_
      refine T.hret ?_
      exact fin _ (by simp)
    · skip
      refine T.hchk ?_ ?_
      · exact decide_eq_true (by omega)
      refine T.hall (fun c => ?_)
      refine T.hasmP (fun g3 => ?_)
      refine T.hchkT ?_
      refine T.hchkT ?_
      refine T.hchkT ?_
      refine T.hchk ?_ ?_
      · exact decide_eq_true (by omega)
      refine T.hchk ?_ ?_
      · (simp only [Bool.not_eq_true', decide_eq_false_iff_not]; omega)
      refine T.hchk ?_ ?_
      · exact decide_eq_true (by omega)
      refine T.hall (fun c_1 => ?_)
      refine T.hasmP (fun g4 => ?_)
      refine T.hneed ?_ ?_
      · exact rowJ (fun r => by first | exact ⟨_, rfl⟩ | exact ⟨_, row_cl _ _ r⟩)
      refine T.hneed ?_ ?_
      · exact rowJ (fun r => by first | exact ⟨_, rfl⟩ | exact ⟨_, row_cl _ _ r⟩)
      refine T.hchk ?_ ?_
      · exact decide_eq_true (by omega)
      refine T.hchk ?_ ?_
      · exact decide_eq_true (by omega)
      refine T.hchk ?_ ?_
      · exact decide_eq_true (by omega)
      refine T.hchk ?_ ?_
      · exact decide_eq_true (by omega)
      refine T.hneed ?_ ?_
      · (intro d hd; dsimp only at hd ⊢; rw [intAt_hd, intAt_hd]; dsimp only [Blk.rows, byV]; rw [if_neg (by omega), if_pos (by omega), if_neg (by omega), if_pos (by omega)]; first | exact he0 _ (by omega) | exact he1 _ (by omega))
      refine T.hchkT ?_
      refine T.hchkT ?_
      refine T.hchkT ?_
      refine T.hchkT ?_
      refine T.hchkT ?_
      refine T.hchkT ?_
      refine T.hchkT ?_
      refine T.hchk ?_ ?_
      · simp
      refine T.hneed ?_ ?_
      · exact rowJ (fun r => by first | exact ⟨_, rfl⟩ | exact ⟨_, row_cl _ _ r⟩)
      refine T.hchkT ?_
      refine T.hchk ?_ ?_
      · exact decide_eq_true (by omega)
      refine T.hchk ?_ ?_
      · exact decide_eq_true (by omega)
      refine T.hchkT ?_
      refine T.hchkT ?_
      refine T.hchkT ?_
      refine T.hchkT ?_
      refine T.hchkT ?_
      refine T.hneed ?_ ?_
      · trivial
      refine T.hneed ?_ ?_
      · trivial
      refine T.hchkT ?_
      refine T.hchkT ?_
      refine T.hchkT ?_
      refine T.hchkT ?_
      refine T.hneed ?_ ?_
      · (intro d hd; exact absurd hd (Nat.not_lt_zero d))
      refine T.hchkT ?_
      refine T.hchkT ?_
      refine T.hchkT ?_
      refine T.hchkT ?_
      refine T.hchkT ?_
      refine T.hchkT ?_
      refine T.hchkT ?_
      refine T.hret ?_
      exact fin _ (by simp)
  · skip
    refine T.hchk ?_ ?_
    · exact decide_eq_true (by omega)
    refine T.hall (fun c => ?_)
    refine T.hasmP (fun g5 => ?_)
    refine T.hchkT ?_
    refine T.hchkT ?_
    refine T.hchk ?_ ?_
    · exact decide_eq_true (by omega)
    refine T.hchk ?_ ?_
    · (simp only [Bool.not_eq_true', decide_eq_false_iff_not]; omega)
    refine T.hchk ?_ ?_
    · exact decide_eq_true (by omega)
    refine T.hall (fun c_1 => ?_)
    refine T.hasmP (fun g6 => ?_)
    refine T.hneed ?_ ?_
    · exact rowJ (fun r => by first | exact ⟨_, rfl⟩ | exact ⟨_, row_cl _ _ r⟩)
    refine T.hneed ?_ ?_
    · exact rowJ (fun r => by first | exact ⟨_, rfl⟩ | exact ⟨_, row_cl _ _ r⟩)
    refine T.hchk ?_ ?_
    · exact decide_eq_true (by omega)
    refine T.hchk ?_ ?_
    · exact decide_eq_true (by omega)
    refine T.hchk ?_ ?_
    · exact decide_eq_true (by omega)
    refine T.hchk ?_ ?_
    · exact decide_eq_true (by omega)
    refine T.hneed ?_ ?_
    · (intro d hd; dsimp only at hd ⊢; rw [intAt_hd, intAt_hd]; dsimp only [Blk.rows, byV]; rw [if_neg (by omega), if_pos (by omega), if_neg (by omega), if_pos (by omega)]; first | exact he0 _ (by omega) | exact he1 _ (by omega))
    refine T.hchkT ?_
    refine T.hchkT ?_
    refine T.hchkT ?_
    refine T.hchkT ?_
    refine T.hchkT ?_
    refine T.hchkT ?_
    refine T.hchk ?_ ?_
    · simp
    refine T.hneed ?_ ?_
    · exact rowJ (fun r => by first | exact ⟨_, rfl⟩ | exact ⟨_, row_cl _ _ r⟩)
    refine T.hchkT ?_
    refine T.hchk ?_ ?_
    · exact decide_eq_true (by omega)
    refine T.hchk ?_ ?_
    · exact decide_eq_true (by omega)
    refine T.hchkT ?_
    refine T.hchkT ?_
    refine T.hchkT ?_
    refine T.hchkT ?_
    refine T.hchk ?_ ?_
    · exact decide_eq_true (by omega)
    refine T.hiteP (fun g7 => ?_) (fun g7 => ?_)
    · skip
      refine T.hchkT ?_
      refine T.hchkT ?_
      refine T.hchkT ?_
      refine T.hchk ?_ ?_
      · exact decide_eq_true (by omega)
      refine T.hchk ?_ ?_
      · exact decide_eq_true (by omega)
      refine T.hneed ?_ ?_
      · trivial
      refine T.hneed ?_ ?_
      · trivial
      refine T.hchkT ?_
      refine T.hchkT ?_
      refine T.hchkT ?_
      refine T.hchkT ?_
      refine T.hneed ?_ ?_
      · (intro d hd; exact absurd hd (Nat.not_lt_zero d))
      refine T.hchkT ?_
      refine T.hchkT ?_
      refine T.hchkT ?_
      refine T.hchkT ?_
      refine T.hchkT ?_
      refine T.hchkT ?_
      refine T.hchkT ?_
      refine T.hchk ?_ ?_
      · simp
      refine T.hchkT ?_
      refine T.hchkT ?_
      refine T.hchkT ?_
      refine T.hchkT ?_
      refine T.hchkT ?_
      refine T.hneed ?_ ?_
      · trivial
      refine T.hneed ?_ ?_
      · trivial
      refine T.hchkT ?_
      refine T.hchkT ?_
      refine T.hchkT ?_
      refine T.hchkT ?_
      refine T.hneed ?_ ?_
      · (intro d hd; exact absurd hd (Nat.not_lt_zero d))
      refine T.hchkT ?_
      refine T.hchkT ?_
      refine T.hchkT ?_
      refine T.hchkT ?_
      refine T.hchkT ?_
      refine T.hchkT ?_
      refine T.hchkT ?_
      refine T.hret ?_
      exact fin _ (by simp)
    · skip
      refine T.hchk ?_ ?_
      · exact decide_eq_true (by omega)
      refine T.hall (fun c => ?_)
      refine T.hasmP (fun g8 => ?_)
      refine T.hchkT ?_
      refine T.hchkT ?_
      refine T.hchkT ?_
      refine T.hchk ?_ ?_
      · exact decide_eq_true (by omega)
      refine T.hchk ?_ ?_
      · (simp only [Bool.not_eq_true', decide_eq_false_iff_not]; omega)
      refine T.hchk ?_ ?_
      · exact decide_eq_true (by omega)
      refine T.hall (fun c_2 => ?_)
      refine T.hasmP (fun g9 => ?_)
      refine T.hneed ?_ ?_
      · exact rowJ (fun r => by first | exact ⟨_, rfl⟩ | exact ⟨_, row_cl _ _ r⟩)
      refine T.hneed ?_ ?_
      · exact rowJ (fun r => by first | exact ⟨_, rfl⟩ | exact ⟨_, row_cl _ _ r⟩)
      refine T.hchk ?_ ?_
      · exact decide_eq_true (by omega)
      refine T.hchk ?_ ?_
      · exact decide_eq_true (by omega)
      refine T.hchk ?_ ?_
      · exact decide_eq_true (by omega)
      refine T.hchk ?_ ?_
      · exact decide_eq_true (by omega)
      refine T.hneed ?_ ?_
      · (intro d hd; dsimp only at hd ⊢; rw [intAt_hd, intAt_hd]; dsimp only [Blk.rows, byV]; rw [if_neg (by omega), if_pos (by omega), if_neg (by omega), if_pos (by omega)]; first | exact he0 _ (by omega) | exact he1 _ (by omega))
      refine T.hchkT ?_
      refine T.hchkT ?_
      refine T.hchkT ?_
      refine T.hchkT ?_
      refine T.hchkT ?_
      refine T.hchkT ?_
      refine T.hchkT ?_
      refine T.hchk ?_ ?_
      · simp
      refine T.hneed ?_ ?_
      · exact rowJ (fun r => by first | exact ⟨_, rfl⟩ | exact ⟨_, row_cl _ _ r⟩)
      refine T.hchkT ?_
      refine T.hchk ?_ ?_
      · exact decide_eq_true (by omega)
      refine T.hchk ?_ ?_
      · exact decide_eq_true (by omega)
      refine T.hchkT ?_
      refine T.hchkT ?_
      refine T.hchkT ?_
      refine T.hchkT ?_
      refine T.hchkT ?_
      refine T.hneed ?_ ?_
      · trivial
      refine T.hneed ?_ ?_
      · trivial
      refine T.hchkT ?_
      refine T.hchkT ?_
      refine T.hchkT ?_
      refine T.hchkT ?_
      refine T.hneed ?_ ?_
      · (intro d hd; exact absurd hd (Nat.not_lt_zero d))
      refine T.hchkT ?_
      refine T.hchkT ?_
      refine T.hchkT ?_
      refine T.hchkT ?_
      refine T.hchkT ?_
      refine T.hchkT ?_
      refine T.hchkT ?_
      refine T.hret ?_
      exact fin _ (by simp)

end Go.Proofs.Ytemgmcchepmicaa
