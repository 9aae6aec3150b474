/-
  CopyBytes: a list in memory of its own.
-/
import Derived.Test.YtemgmcchepmicaaProg
import Derived.Test.YtemgmcchepmicaaHOxP
namespace Go.Proofs.Ytemgmcchepmicaa
open Go.Ox
set_option maxRecDepth 100000
set_option linter.unusedVariables false
set_option linter.unusedSimpArgs false

structure CI where
  n : Nat
  f : Nat → Int
  j : Nat
  len : Nat
  cp : Nat
  i : Nat
  cap : Nat
def ciV (n : Nat) (f : Nat → Int) : Blk := Blk.rows false 1 n fun j => [.int .u8 (f j)]
def ciR (f : Nat → Int) (j i cap : Nat) : Blk := Blk.rows true 1 cap fun r => [.int .u8 (if r < i then f (j + r) else 0)]
def ci0 (n : Nat) (f : Nat → Int) (j len cp : Nat) : St := ⟨[(0, .sl 0 0 1 j len cp), (3, .nils), (4, .int .i64 0)], [some (ciV n f)]⟩
def ci1 (n : Nat) (f : Nat → Int) (j len cp i cap : Nat) : St := ⟨[(0, .sl 0 0 1 j len cp), (3, .sl 1 0 1 0 i cap), (4, .int .i64 i)], [some (ciV n f), some (ciR f j i cap)]⟩
def ciSt (x : CI) : St := if x.i = 0 then ci0 x.n x.f x.j x.len x.cp else ci1 x.n x.f x.j x.len x.cp x.i x.cap
def ciInv (x : CI) : Prop := x.j + x.len ≤ x.n ∧ x.len ≤ 4294967296 ∧ x.i ≤ x.len ∧ (x.i = 0 ∨ x.i ≤ x.cap)
def ciPick (st : St) : Option CI :=
  match slotAt st.fr 0, AM.get st.m 0 with
  | some (.sl _ _ _ j len cp), some b => some ⟨b.n, intAt b, j, len, cp, 0, 0⟩
  | _, _ => none
def ciEnd (x : CI) : T (Ex × St) :=
  .ite (decide (0 < x.len)) (.all fun c => .asm (decide (x.len ≤ c)) (.ret (.exit 0, ⟨[(3, .sl 1 0 1 0 x.len c)], [some (ciV x.n x.f), some (ciR x.f x.j x.len c)]⟩)))
    (.ret (.exit 0, ⟨[(3, .nils)], [some (ciV x.n x.f)]⟩))
noncomputable def ciE : Env := { nt := 19, n0 := 1, fns := [], loop := fun k => if k = 3 then loopSumm 1 ciSt ciInv ciPick ciEnd else fun _ => .fail }

noncomputable def ciE0 : Env := { nt := 19, n0 := 0, fns := [], loop := fun _ _ => .fail }
noncomputable def ciE1 : Env := { nt := 19, n0 := 0, fns := [], loop := fun k => if k = 3 then unrollN Try.prog ciE0 (loopAt (codeOf Try.f18) 0) 1 else fun _ => .fail }

theorem ci_fn0 (a : Option Addr) : afn Try.prog ciE1 Try.f18 (codeOf Try.f18) [.esl a] [] = 
  T.ite false T.fail (T.ret (AV.nils, [])) := by
  kernel_rfl

theorem ci_tree0 (n : Nat) (f : Nat → Int) (j len cp : Nat) : keepT [0, 3, 4] (acode Try.prog ciE (loopAt (codeOf Try.f18) 0) (ci0 n f j len cp)) = 
  T.ite (decide ((0 : Int) < (↑len : Int)))
    (T.chk (decide ((0 : Int) ≤ (0 : Int)) && decide ((0 : Int) < (↑len : Int)))
      (T.chk (decide (j + (0 : Nat) < n))
        (T.chk (decide ((1 : Nat) ≤ (1 : Nat)))
          (T.ite false (T.ret (Ex.norm, St.mk [((0 : Nat), AV.sl (0 : Nat) (0 : Nat) (1 : Nat) j len cp), ((3 : Nat), AV.nils), ((4 : Nat), AV.int IntKind.i64 (1 : Int))] [some (Blk.mk false [] (1 : Nat) n (fun j => [AV.int IntKind.u8 (f j)]) [] none), some (Blk.mk true [] (1 : Nat) (1 : Nat) (fun i => [AV.int IntKind.u8 (List.getD [f (j + (0 : Nat))] i (0 : Int))]) [] none)]))
            (T.chk true
              (T.all fun c =>
                T.asm (decide ((1 : Nat) ≤ c))
                  (T.ret
                    (Ex.norm,
                      St.mk [((0 : Nat), AV.sl (0 : Nat) (0 : Nat) (1 : Nat) j len cp), ((3 : Nat), AV.sl (2 : Nat) (0 : Nat) (1 : Nat) (0 : Nat) (1 : Nat) c), ((4 : Nat), AV.int IntKind.i64 (1 : Int))]
                        [some (Blk.mk false [] (1 : Nat) n (fun j => [AV.int IntKind.u8 (f j)]) [] none), some (Blk.mk true [] (1 : Nat) (1 : Nat) (fun i => [AV.int IntKind.u8 (List.getD [f (j + (0 : Nat))] i (0 : Int))]) [] none),
                          some (Blk.mk true [] (1 : Nat) c (fun r => if r < (0 : Nat) then [] else if r < (1 : Nat) then List.map (fun c => Col.at c ((0 : Nat) + (r - (0 : Nat)))) ([] ++ [Col.ints IntKind.u8 [f (j + (0 : Nat))]]) else AV.cells (AV.int IntKind.u8 (0 : Int))) [] none)]))))))))
    (T.ret (Ex.exit (0 : Nat), St.mk [((0 : Nat), AV.sl (0 : Nat) (0 : Nat) (1 : Nat) j len cp), ((3 : Nat), AV.nils), ((4 : Nat), AV.int IntKind.i64 (0 : Int))] [some (Blk.mk false [] (1 : Nat) n (fun j => [AV.int IntKind.u8 (f j)]) [] none)])) := by
  kernel_rfl

theorem ci_tree1 (n : Nat) (f : Nat → Int) (j len cp i cap : Nat) : keepT [0, 3, 4] (acode Try.prog ciE (loopAt (codeOf Try.f18) 0) (ci1 n f j len cp i cap)) = 
  T.ite (decide ((↑i : Int) < (↑len : Int)))
    (T.chk (decide ((0 : Int) ≤ (↑i : Int)) && decide ((↑i : Int) < (↑len : Int)))
      (T.chk (decide (j + Int.toNat (↑i : Int) < n))
        (T.chk (decide ((0 : Nat) + i ≤ cap))
          (T.chk (decide ((1 : Nat) ≤ (1 : Nat)))
            (T.ite (decide (i + (1 : Nat) ≤ cap))
              (T.chk (decide ((0 : Nat) + cap ≤ cap))
                (T.ret
                  (Ex.norm,
                    St.mk [((0 : Nat), AV.sl (0 : Nat) (0 : Nat) (1 : Nat) j len cp), ((3 : Nat), AV.sl (1 : Nat) (0 : Nat) (1 : Nat) (0 : Nat) (i + (1 : Nat)) cap), ((4 : Nat), AV.int IntKind.i64 (IntKind.wrap IntKind.i64 ((↑i : Int) + (1 : Int))))]
                      [some (Blk.mk false [] (1 : Nat) n (fun j => [AV.int IntKind.u8 (f j)]) [] none),
                        some (Blk.mk true [] (1 : Nat) cap (fun r => if (0 : Nat) + i ≤ r ∧ r < (0 : Nat) + i + (1 : Nat) then List.map (fun c => Col.at c ((0 : Nat) + (r - ((0 : Nat) + i)))) ([] ++ [Col.ints IntKind.u8 [f (j + Int.toNat (↑i : Int))]]) else [AV.int IntKind.u8 (if r < i then f (j + r) else (0 : Int))]) [] none),
                        some (Blk.mk true [] (1 : Nat) (1 : Nat) (fun i_1 => [AV.int IntKind.u8 (List.getD [f (j + Int.toNat (↑i : Int))] i_1 (0 : Int))]) [] none)])))
              (T.chk (decide (i + (1 : Nat) ≤ (4294967296 : Nat)))
                (T.all fun c =>
                  T.asm (decide (i + (1 : Nat) ≤ c))
                    (T.ret
                      (Ex.norm,
                        St.mk [((0 : Nat), AV.sl (0 : Nat) (0 : Nat) (1 : Nat) j len cp), ((3 : Nat), AV.sl (3 : Nat) (0 : Nat) (1 : Nat) (0 : Nat) (i + (1 : Nat)) c), ((4 : Nat), AV.int IntKind.i64 (IntKind.wrap IntKind.i64 ((↑i : Int) + (1 : Int))))]
                          [some (Blk.mk false [] (1 : Nat) n (fun j => [AV.int IntKind.u8 (f j)]) [] none), some (Blk.mk true [] (1 : Nat) cap (fun r => [AV.int IntKind.u8 (if r < i then f (j + r) else (0 : Int))]) [] none), some (Blk.mk true [] (1 : Nat) (1 : Nat) (fun i_1 => [AV.int IntKind.u8 (List.getD [f (j + Int.toNat (↑i : Int))] i_1 (0 : Int))]) [] none),
                            some (Blk.mk true [] (1 : Nat) c (fun r => if r < i then [AV.int IntKind.u8 (if (0 : Nat) + r < i then f (j + ((0 : Nat) + r)) else (0 : Int))] else if r < i + (1 : Nat) then List.map (fun c => Col.at c ((0 : Nat) + (r - i))) ([] ++ [Col.ints IntKind.u8 [f (j + Int.toNat (↑i : Int))]]) else AV.cells (AV.int IntKind.u8 (0 : Int))) [] none)])))))))))
    (T.ret
      (Ex.exit (0 : Nat), St.mk [((0 : Nat), AV.sl (0 : Nat) (0 : Nat) (1 : Nat) j len cp), ((3 : Nat), AV.sl (1 : Nat) (0 : Nat) (1 : Nat) (0 : Nat) i cap), ((4 : Nat), AV.int IntKind.i64 (↑i : Int))] [some (Blk.mk false [] (1 : Nat) n (fun j => [AV.int IntKind.u8 (f j)]) [] none), some (Blk.mk true [] (1 : Nat) cap (fun r => [AV.int IntKind.u8 (if r < i then f (j + r) else (0 : Int))]) [] none)])) := by
  kernel_rfl

theorem ci_fn (n : Nat) (f : Nat → Int) (j len cp : Nat) : afn Try.prog ciE Try.f18 (codeOf Try.f18) [.sl 0 0 1 j len cp] [some (ciV n f)] = 
  T.need (∃ ρ, SubSt (1 : Nat) ρ (St.mk [((0 : Nat), AV.sl (0 : Nat) (0 : Nat) (1 : Nat) j len cp), ((3 : Nat), AV.nils), ((4 : Nat), AV.int IntKind.i64 (0 : Int))] [some (Blk.mk false [] (1 : Nat) n (fun j => [AV.int IntKind.u8 (f j)]) [] none)]) (ciSt (CI.mk n f j len cp (0 : Nat) (0 : Nat))))
    (T.need (ciInv (CI.mk n f j len cp (0 : Nat) (0 : Nat)))
      (T.ite (decide ((0 : Nat) < len)) (T.all fun c => T.asm (decide (len ≤ c)) (T.ret (AV.sl (1 : Nat) (0 : Nat) (1 : Nat) (0 : Nat) len c, [some (Blk.mk false [] (1 : Nat) n (fun j => [AV.int IntKind.u8 (f j)]) [] none), some (Blk.mk true [] (1 : Nat) c (fun r => [AV.int IntKind.u8 (if r < len then f (j + r) else (0 : Int))]) [] none)])))
        (T.ret (AV.nils, [some (Blk.mk false [] (1 : Nat) n (fun j => [AV.int IntKind.u8 (f j)]) [] none)])))) := by
  kernel_rfl

theorem ci_sub (n : Nat) (f : Nat → Int) (j i cap k : Nat) (hk : 1 ≤ k) (m : AM) (h : Nat → List AV) (hm0 : m.get 0 = some (ciV n f)) (hm : m.get k = some ⟨true, [], 1, cap, h, [], none⟩) (hf : ∀ r, r < cap → h r = [.int .u8 (if r < i then f (j + r) else 0)]) :
    Sub 1 (fun x => if x = 1 then k else x) m [some (ciV n f), some (ciR f j i cap)] := by
  refine Sub.of ⟨⟨_, hm0, BlkOK.rows' (fun h => h) fun r _ => LAlike.ints rfl⟩, ⟨_, hm, BlkOK.rows (fun h => h) fun r hr => by rw [hf r hr]; exact LAlike.ints rfl⟩, trivial⟩ ?_ ?_ (by simp)
  · intro a b ha hb hab
    simp at ha hb
    split <;> split <;> omega
  · intro a ha
    rw [if_neg (by omega)]

theorem ci_loop : LoopOK Try.prog ciE (loopAt (codeOf Try.f18) 0) := by
  refine loopSumm_ok EnvOK.nil (noLoops (by kernel_rfl)) ciSt ciInv (fun x => x.len - x.i) ciPick ciEnd ?_ (by kernel_rfl)
  rintro ⟨n, f, j, len, cp, i, cap⟩ ⟨h1, h2, h3, h4⟩ Q hq
  dsimp only at h1 h2 h3 h4
  refine round_keep [0, 3, 4] ?_
  by_cases hi0 : i = 0
  · subst hi0
    rw [show ciSt ⟨n, f, j, len, cp, 0, cap⟩ = ci0 n f j len cp from rfl, ci_tree0]
    refine T.hite (fun h => ?_) (fun h => ?_)
    · have h : 0 < len := by simp at h; omega
      refine T.hchk (by simp; omega) (T.hchk (by simp; omega) (T.hchk rfl (T.hite (fun h => by cases h) (fun _ => T.hchk rfl (T.hall fun c => T.hasm fun hc => ?_)))))
      have hc : 1 ≤ c := by simpa using hc
      refine Round.go ⟨n, f, j, len, cp, 1, c⟩ (fun x => if x = 1 then 2 else x) ⟨h1, h2, by dsimp only; omega, .inr hc⟩ (by dsimp only; omega) (SubSt.mk ?_ ?_) hq
      · simp [ciSt, ci1, SubFr, slotAt, ren, below]
      · refine ci_sub n f j 1 c 2 (by omega) _ _ rfl rfl fun r hr => ?_
        rcases Nat.lt_or_ge r 1 with h | h
        · have : r = 0 := by omega
          subst this; simp [Col.at]
        · simp [AV.cells, show ¬ r < 1 by omega]
    · have h : ¬ 0 < len := by simp at h; omega
      have := hq.2 (by simp; omega)
      exact Round.out id ⟨[(3, .nils)], [some (ciV n f)]⟩ (SubSt.mk (by simp [SubFr, slotAt, ren, below]) (subInts (Nat.le_refl _))) this
  · rw [show ciSt ⟨n, f, j, len, cp, i, cap⟩ = ci1 n f j len cp i cap from by simp [ciSt, hi0], ci_tree1]
    have h4 : i ≤ cap := by omega
    have hw : IntKind.wrap IntKind.i64 ((i : Int) + 1) = ((i + 1 : Nat) : Int) := by rw [IntWalk.i64_in _ (by omega)]; omega
    refine T.hite (fun h => ?_) (fun h => ?_)
    · have h : i < len := by simp at h; omega
      have e0 : Int.toNat (i : Int) = i := by omega
      simp only [e0]
      refine T.hchk (by simp; omega) (T.hchk (by simp; omega) (T.hchk (by simp; omega) (T.hchk rfl (T.hite (fun hc => T.hchk (by simp) ?_) (fun hc => T.hchk (by simp; omega) (T.hall fun c => T.hasm fun hc => ?_))))))
      · have hc : i + 1 ≤ cap := by simpa using hc
        refine Round.go ⟨n, f, j, len, cp, i + 1, cap⟩ (fun x => if x = 1 then 1 else x) ⟨h1, h2, by dsimp only; omega, .inr (by dsimp only; omega)⟩ (by dsimp only; omega) (SubSt.mk ?_ ?_) hq
        · simp [ciSt, ci1, SubFr, slotAt, ren, below, hw]
        · refine ci_sub n f j (i + 1) cap 1 (by omega) _ _ rfl rfl fun r hr => ?_
          by_cases hri : r = i
          · subst hri; simp [Col.at]
          · rw [if_neg (by omega)]
            have : (r < i + 1) = (r < i) := by simp; omega
            simp [this]
      · have hc : i + 1 ≤ c := by simpa using hc
        refine Round.go ⟨n, f, j, len, cp, i + 1, c⟩ (fun x => if x = 1 then 3 else x) ⟨h1, h2, by dsimp only; omega, .inr (by dsimp only; omega)⟩ (by dsimp only; omega) (SubSt.mk ?_ ?_) hq
        · simp [ciSt, ci1, SubFr, slotAt, ren, below, hw]
        · refine ci_sub n f j (i + 1) c 3 (by omega) _ _ rfl rfl fun r hr => ?_
          rcases Nat.lt_or_ge r i with h | h
          · simp [h, show r < i + 1 by omega]
          · rw [if_neg (by omega)]
            by_cases hri : r = i
            · subst hri; simp [Col.at]
            · rw [if_neg (by omega)]
              simp [AV.cells, show ¬ r < i + 1 by omega]
    · have h : ¬ i < len := by simp at h; omega
      have e : len = i := by omega
      subst e
      have := hq.1 (by simp; omega) cap (by simp; omega)
      exact Round.out (fun x => if x = 1 then 1 else x) ⟨[(3, .sl 1 0 1 0 len cap)], [some (ciV n f), some (ciR f j len cap)]⟩ (SubSt.mk (by simp [SubFr, slotAt, ren, below]) (ci_sub n f j len cap 1 (by omega) _ _ rfl rfl fun r hr => rfl)) this

def ciT (p : IntsArg) (m0 : AM) : T (AV × AM) :=
  .ite (decide (0 < p.len)) (.all fun c => .asm (decide (p.len ≤ c)) (.ret (.sl m0.length 0 1 0 p.len c, m0 ++ [some (ciR p.at_ 0 p.len c)])))
    (.ret (.nils, m0))

theorem ci_eff1 (n : Nat) (f : Nat → Int) (j len cp : Nat) (h1 : j + len ≤ n) (h2 : len ≤ 4294967296) :
    EffAt Try.prog 18 [.sl 0 0 1 j len cp] [some (ciV n f)] (ciT ⟨True, true, len, fun r => f (j + r)⟩ [some (ciV n f)]) := by
  refine fn_ok (E := ciE) (c := codeOf Try.f18) Try.func18 rfl EnvOK.nil (oneLoop (by kernel_rfl) ci_loop) rfl rfl fun Q hq => ?_
  rw [ci_fn]
  refine T.hneed ⟨id, SubSt.mk (by simp [ciSt, ci0, SubFr, slotAt, ren, below]) (subInts (Nat.le_refl _))⟩ (T.hneed ⟨h1, h2, Nat.zero_le _, .inl rfl⟩ (T.hite (fun h => T.hall fun c => T.hasm fun hc => ?_) (fun h => ?_)))
  · have := hq.1 h c hc
    exact leaf_of id this (by simp [Alike, ren, conc]) (by simp [below]) (Sub.ofId ⟨⟨_, rfl, BlkOK.rows' (fun h => h) fun r _ => LAlike.ints rfl⟩, ⟨_, rfl, BlkOK.rows (fun h => h) fun r _ => LAlike.ints (by simp)⟩, trivial⟩ (by simp))
  · exact leaf_of id (hq.2 h) (by simp [Alike, ren, conc]) (by simp [below]) (subInts (Nat.le_refl _))

theorem ci_eff0 (a : Option Addr) : EffAt Try.prog 18 [.esl a] [] (.ret (.nils, [])) := by
  refine fn_ok (E := ciE1) (c := codeOf Try.f18) Try.func18 rfl EnvOK.nil (oneLoop (by kernel_rfl) (unroll_ok EnvOK.nil ciE0 rfl rfl rfl 1 (noLoops (by kernel_rfl)) (by kernel_rfl))) rfl rfl fun Q hq => ?_
  rw [ci_fn0]
  exact T.hite (fun h => by cases h) fun _ => leaf_of id hq (by simp [Alike, ren, conc]) (by simp [below]) (Sub.nil _ _)

/-- What CopyBytes leaves: a block of its own, or nil. -/
def copyE : List AV → AM → T (AV × AM)
  | [.esl _], m => lift [] m [] (.ret (.nils, []))
  | [.sl id 0 1 j len _], m =>
    T.opt (m.get id) fun b => .need (IntRow .u8 b) (.chk (decide (j + len ≤ b.n)) (.chk (decide (len ≤ 4294967296))
      (lift [id] m [some (ciV b.n (intAt b))] (ciT ⟨True, true, len, fun r => intAt b (j + r)⟩ [some (ciV b.n (intAt b))]))))
  | _, _ => .fail

theorem copyE_ok : SummOK Try.prog 18 (.eff copyE) := by
  refine ⟨fun args w => Try.call18 args w, fun args m Q hq hb => ?_⟩
  unfold copyE at hq
  split at hq
  · rename_i a
    exact lift_ok (ci_eff0 a) [] rfl (by simp) (Sub.nil _ _) (by simp [belowL, below]) (by simp [renL, ren]) Q hq hb
  · rename_i id j len cap
    obtain ⟨b, hg, hr, h1, h2, hq⟩ := T.holds_opt hq
    have h1 : j + len ≤ b.n := by simpa using h1
    exact lift_ok (argsc := [.sl 0 0 1 j len cap]) (ci_eff1 b.n (intAt b) j len cap h1 (by simpa using h2)) [id] rfl (by simp [AM.get_lt hg]) (Sub.ro ⟨⟨b, hg, IntRow.view hr _ _⟩, trivial⟩ (roOne rfl)) (by simp [belowL, below]) (by simp [renL, ren, out]) Q hq hb
  · exact hq.elim

def copyS (args : List AV) (m : AM) : T (AV × AM) := copyE (args.map nrm) m

theorem copy_ok : SummOK Try.prog 18 (.eff copyS) := eff_nrm copyE_ok

end Go.Proofs.Ytemgmcchepmicaa
