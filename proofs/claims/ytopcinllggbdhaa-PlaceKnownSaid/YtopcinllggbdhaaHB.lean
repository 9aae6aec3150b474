/-
  The document's Place; SpoilInts.
-/
import Derived.Test.YtopcinllggbdhaaHA
import Derived.Test.YtopcinllggbdhaaHSameInts
namespace Go.Proofs.Ytopcinllggbdhaa
open Go.Ox
set_option maxRecDepth 100000
set_option linter.unusedVariables false
set_option linter.unusedSimpArgs false

/-! the document's Place -/
def rpF (b : Int) (i : Nat) (j : Nat) : Int := if j < i then (j : Int).tmod b else 0
def rpSt0 (a b : Int) : St := ⟨[(0, .int .i64 a), (1, .int .i64 b), (8, .nils), (9, .int .i64 0)], []⟩
def rpSt1 (a b : Int) (i cap : Nat) : St := ⟨[(0, .int .i64 a), (1, .int .i64 b), (8, .sl 0 0 1 0 i cap), (9, .int .i64 i)], [some (Blk.rows true 1 cap fun j => [.int .i64 (rpF b i j)])]⟩
def rpSt (x : Int × Int × Nat × Nat) : St := if x.2.2.1 = 0 then rpSt0 x.1 x.2.1 else rpSt1 x.1 x.2.1 x.2.2.1 x.2.2.2
def rpInv (x : Int × Int × Nat × Nat) : Prop := 1 ≤ x.2.1 ∧ x.1 ≤ 128 ∧ (x.2.2.1 = 0 ∨ (x.2.2.1 : Int) ≤ x.1) ∧ (x.2.2.1 = 0 ∨ x.2.2.1 ≤ x.2.2.2)
def rpPick (st : St) : Option (Int × Int × Nat × Nat) :=
  match slotAt st.fr 0, slotAt st.fr 1 with
  | some (.int _ a), some (.int _ b) => some (a, b, 0, 0)
  | _, _ => none
def rpEnd (x : Int × Int × Nat × Nat) : T (Ex × St) :=
  .ite (decide (0 < x.1)) (.all fun c => .asm (decide (x.1.toNat ≤ c)) (.ret (.exit 0, ⟨[(8, .sl 0 0 1 0 x.1.toNat c)], [some (Blk.rows true 1 c fun j => [.int .i64 (rpF x.2.1 x.1.toNat j)])]⟩)))
    (.ret (.exit 0, ⟨[(8, .nils)], []⟩))
noncomputable def rpE : Env := { nt := 45, n0 := 0, fns := [], loop := fun k => if k = 7 then loopSumm 0 rpSt rpInv rpPick rpEnd else fun _ => .fail }

theorem rp_tree0 (a b : Int) : keepT [0, 1, 8, 9] (acode Try.prog rpE (loopAt (codeOf Try.f7) 0) (rpSt0 a b)) = 
  T.ite (decide ((0 : Int) < a))
    (T.chk (!b == (0 : Int))
      (T.chk (decide ((1 : Nat) ≤ (1 : Nat)))
        (T.ite false (T.ret (Ex.norm, St.mk [((0 : Nat), AV.int IntKind.i64 a), ((1 : Nat), AV.int IntKind.i64 b), ((8 : Nat), AV.nils), ((9 : Nat), AV.int IntKind.i64 (1 : Int))] [some (Blk.mk true [] (1 : Nat) (1 : Nat) (fun i => [AV.int IntKind.i64 (List.getD [Int.tmod (0 : Int) b] i (0 : Int))]) [])]))
          (T.chk true
            (T.all fun c =>
              T.asm (decide ((1 : Nat) ≤ c))
                (T.ret
                  (Ex.norm,
                    St.mk [((0 : Nat), AV.int IntKind.i64 a), ((1 : Nat), AV.int IntKind.i64 b), ((8 : Nat), AV.sl (1 : Nat) (0 : Nat) (1 : Nat) (0 : Nat) (1 : Nat) c), ((9 : Nat), AV.int IntKind.i64 (1 : Int))]
                      [some (Blk.mk true [] (1 : Nat) (1 : Nat) (fun i => [AV.int IntKind.i64 (List.getD [Int.tmod (0 : Int) b] i (0 : Int))]) []),
                        some (Blk.mk true [] (1 : Nat) c (fun r => if r < (0 : Nat) then [] else if r < (1 : Nat) then List.map (fun c => Col.at c ((0 : Nat) + (r - (0 : Nat)))) ([] ++ [Col.ints IntKind.i64 [Int.tmod (0 : Int) b]]) else AV.cells (AV.int IntKind.i64 (0 : Int))) [])])))))))
    (T.ret (Ex.exit (0 : Nat), St.mk [((0 : Nat), AV.int IntKind.i64 a), ((1 : Nat), AV.int IntKind.i64 b), ((8 : Nat), AV.nils), ((9 : Nat), AV.int IntKind.i64 (0 : Int))] [])) := by
  kernel_rfl

theorem rp_tree1 (a b : Int) (i cap : Nat) : keepT [0, 1, 8, 9] (acode Try.prog rpE (loopAt (codeOf Try.f7) 0) (rpSt1 a b i cap)) = 
  T.ite (decide ((↑i : Int) < a))
    (T.chk (!b == (0 : Int))
      (T.chk (decide ((0 : Nat) + i ≤ cap))
        (T.chk (decide ((1 : Nat) ≤ (1 : Nat)))
          (T.ite (decide (i + (1 : Nat) ≤ cap))
            (T.chk (decide ((0 : Nat) + cap ≤ cap))
              (T.ret
                (Ex.norm,
                  St.mk [((0 : Nat), AV.int IntKind.i64 a), ((1 : Nat), AV.int IntKind.i64 b), ((8 : Nat), AV.sl (0 : Nat) (0 : Nat) (1 : Nat) (0 : Nat) (i + (1 : Nat)) cap), ((9 : Nat), AV.int IntKind.i64 (IntKind.wrap IntKind.i64 ((↑i : Int) + (1 : Int))))]
                    [some (Blk.mk true [] (1 : Nat) cap (fun r => if (0 : Nat) + i ≤ r ∧ r < (0 : Nat) + i + (1 : Nat) then List.map (fun c => Col.at c ((0 : Nat) + (r - ((0 : Nat) + i)))) ([] ++ [Col.ints IntKind.i64 [Int.tmod (↑i : Int) b]]) else [AV.int IntKind.i64 (rpF b i r)]) []),
                      some (Blk.mk true [] (1 : Nat) (1 : Nat) (fun i_1 => [AV.int IntKind.i64 (List.getD [Int.tmod (↑i : Int) b] i_1 (0 : Int))]) [])])))
            (T.chk (decide (i + (1 : Nat) ≤ (4294967296 : Nat)))
              (T.all fun c =>
                T.asm (decide (i + (1 : Nat) ≤ c))
                  (T.ret
                    (Ex.norm,
                      St.mk [((0 : Nat), AV.int IntKind.i64 a), ((1 : Nat), AV.int IntKind.i64 b), ((8 : Nat), AV.sl (2 : Nat) (0 : Nat) (1 : Nat) (0 : Nat) (i + (1 : Nat)) c), ((9 : Nat), AV.int IntKind.i64 (IntKind.wrap IntKind.i64 ((↑i : Int) + (1 : Int))))]
                        [some (Blk.mk true [] (1 : Nat) cap (fun j => [AV.int IntKind.i64 (rpF b i j)]) []), some (Blk.mk true [] (1 : Nat) (1 : Nat) (fun i_1 => [AV.int IntKind.i64 (List.getD [Int.tmod (↑i : Int) b] i_1 (0 : Int))]) []),
                          some (Blk.mk true [] (1 : Nat) c (fun r => if r < i then [AV.int IntKind.i64 (rpF b i ((0 : Nat) + r))] else if r < i + (1 : Nat) then List.map (fun c => Col.at c ((0 : Nat) + (r - i))) ([] ++ [Col.ints IntKind.i64 [Int.tmod (↑i : Int) b]]) else AV.cells (AV.int IntKind.i64 (0 : Int))) [])]))))))))
    (T.ret (Ex.exit (0 : Nat), St.mk [((0 : Nat), AV.int IntKind.i64 a), ((1 : Nat), AV.int IntKind.i64 b), ((8 : Nat), AV.sl (0 : Nat) (0 : Nat) (1 : Nat) (0 : Nat) i cap), ((9 : Nat), AV.int IntKind.i64 (↑i : Int))] [some (Blk.mk true [] (1 : Nat) cap (fun j => [AV.int IntKind.i64 (rpF b i j)]) [])])) := by
  kernel_rfl

theorem rp_fn (a b c : Int) : afn Try.prog rpE Try.f7 (codeOf Try.f7) [.int .i64 a, .int .i64 b, .int .i64 c] [] = 
  T.ite (decide (b < (1 : Int))) (T.ret (AV.tup [AV.nils, AV.int IntKind.i64 (1 : Int)], []))
    (T.ite (decide (b > (8 : Int))) (T.ret (AV.tup [AV.nils, AV.int IntKind.i64 (1 : Int)], []))
      (T.ite (decide (c < (1 : Int))) (T.ret (AV.tup [AV.nils, AV.int IntKind.i64 (1 : Int)], []))
        (T.ite (decide (c > (16 : Int))) (T.ret (AV.tup [AV.nils, AV.int IntKind.i64 (1 : Int)], []))
          (T.ite (decide (a < (0 : Int))) (T.ret (AV.tup [AV.nils, AV.int IntKind.i64 (1 : Int)], []))
            (T.ite (decide (a > IntKind.wrap IntKind.i64 (b * c))) (T.ret (AV.tup [AV.nils, AV.int IntKind.i64 (13 : Int)], []))
              (T.need (∃ ρ, SubSt (0 : Nat) ρ (St.mk [((0 : Nat), AV.int IntKind.i64 a), ((1 : Nat), AV.int IntKind.i64 b), ((8 : Nat), AV.nils), ((9 : Nat), AV.int IntKind.i64 (0 : Int))] []) (rpSt (a, b, (0 : Nat), (0 : Nat))))
                (T.need (rpInv (a, b, (0 : Nat), (0 : Nat)))
                  (T.ite (decide ((0 : Int) < a)) (T.all fun c => T.asm (decide (Int.toNat a ≤ c)) (T.ret (AV.tup [AV.sl (0 : Nat) (0 : Nat) (1 : Nat) (0 : Nat) (Int.toNat a) c, AV.int IntKind.i64 (0 : Int)], [some (Blk.mk true [] (1 : Nat) c (fun j => [AV.int IntKind.i64 (rpF b (Int.toNat a) j)]) [])]))) (T.ret (AV.tup [AV.nils, AV.int IntKind.i64 (0 : Int)], [])))))))))) := by
  kernel_rfl

theorem rp_sub (b : Int) (i cap : Nat) (ρ : Nat → Nat) (m : AM) (f : Nat → List AV) (hm : m.get (ρ 0) = some ⟨true, [], 1, cap, f, []⟩) (hf : ∀ j, j < cap → f j = [.int .i64 (rpF b i j)]) :
    Sub 0 ρ m [some (Blk.rows true 1 cap fun j => [.int .i64 (rpF b i j)])] :=
  Sub.of ⟨⟨_, hm, BlkOK.rows (fun h => h) fun j hj => by rw [hf j hj]; exact LAlike.ints rfl⟩, trivial⟩ (fun i j hi hj h => by simp at hi hj; omega) (fun i hi => by omega) (Nat.zero_le _)

theorem rp_loop : LoopOK Try.prog rpE (loopAt (codeOf Try.f7) 0) := by
  refine loopSumm_ok EnvOK.nil (noLoops (by kernel_rfl)) rpSt rpInv (fun x => x.1.toNat - x.2.2.1) rpPick rpEnd ?_ (by kernel_rfl)
  rintro ⟨a, b, i, cap⟩ ⟨h1, h2, h3, h4⟩ Q hq
  dsimp only at h1 h2 h3 h4
  refine round_keep [0, 1, 8, 9] ?_
  by_cases hi0 : i = 0
  · subst hi0
    rw [show rpSt (a, b, 0, cap) = rpSt0 a b from rfl, rp_tree0]
    refine T.hite (fun h => ?_) (fun h => ?_)
    · have h : 0 < a := by simpa using h
      refine T.hchk (by simp; omega) (T.hchk rfl (T.hite (fun h => by cases h) (fun _ => T.hchk rfl (T.hall fun c => T.hasm fun hc => ?_))))
      have hc : 1 ≤ c := by simpa using hc
      refine Round.go (a, b, 1, c) (fun i => i + 1) ⟨h1, h2, .inr (by dsimp only; omega), .inr hc⟩ (by dsimp only; omega) (SubSt.mk ?_ ?_) hq
      · simp [rpSt, rpSt1, SubFr, slotAt, ren, below]
      · refine rp_sub b 1 c _ _ _ rfl fun j hj => ?_
        rcases Nat.lt_or_ge j 1 with h | h
        · have : j = 0 := by omega
          subst this; simp [Col.at, rpF]
        · simp [rpF, AV.cells, show ¬ j < 1 by omega]
    · have h : ¬ 0 < a := by simpa using h
      have := hq.2 (by simp; omega)
      exact Round.out id ⟨[(8, .nils)], []⟩ (SubSt.mk (by simp [SubFr, slotAt, ren, below]) (Sub.nil _ _)) this
  · rw [show rpSt (a, b, i, cap) = rpSt1 a b i cap from by simp [rpSt, hi0], rp_tree1]
    have h3 : (i : Int) ≤ a := by omega
    have h4 : i ≤ cap := by omega
    have hw : ∀ h : (i : Int) < a, IntKind.wrap IntKind.i64 ((i : Int) + 1) = ((i + 1 : Nat) : Int) := fun h => by rw [IntWalk.i64_in _ (by omega)]; omega
    refine T.hite (fun h => ?_) (fun h => ?_)
    · have h : (i : Int) < a := by simpa using h
      refine T.hchk (by simp; omega) (T.hchk (by simp; omega) (T.hchk rfl (T.hite (fun hc => T.hchk (by simp) ?_) (fun hc => T.hchk (by simp; omega) (T.hall fun c => T.hasm fun hc => ?_)))))
      · have hc : i + 1 ≤ cap := by simpa using hc
        refine Round.go (a, b, i + 1, cap) id ⟨h1, h2, .inr (by dsimp only; omega), .inr (by dsimp only; omega)⟩ (by dsimp only; omega) (SubSt.mk ?_ ?_) hq
        · simp [rpSt, rpSt1, SubFr, slotAt, ren, below, hw h]
        · refine rp_sub b (i + 1) cap _ _ _ rfl fun j hj => ?_
          by_cases hji : j = i
          · subst hji; simp [Col.at, rpF]
          · rw [if_neg (by omega)]
            have : (j < i + 1) = (j < i) := by simp; omega
            simp [rpF, this]
      · have hc : i + 1 ≤ c := by simpa using hc
        refine Round.go (a, b, i + 1, c) (fun i => i + 2) ⟨h1, h2, .inr (by dsimp only; omega), .inr (by dsimp only; omega)⟩ (by dsimp only; omega) (SubSt.mk ?_ ?_) hq
        · simp [rpSt, rpSt1, SubFr, slotAt, ren, below, hw h]
        · refine rp_sub b (i + 1) c _ _ _ rfl fun j hj => ?_
          rcases Nat.lt_or_ge j i with h | h
          · simp [rpF, h, show j < i + 1 by omega]
          · rw [if_neg (by omega)]
            by_cases hji : j = i
            · subst hji; simp [Col.at, rpF]
            · rw [if_neg (by omega)]
              simp [rpF, AV.cells, show ¬ j < i + 1 by omega]
    · have h : ¬ (i : Int) < a := by simpa using h
      have e : a.toNat = i := by omega
      have := hq.1 (by simp; omega) cap (by simp; omega)
      simp only [e] at this
      exact Round.out id ⟨[(8, .sl 0 0 1 0 i cap)], [some (Blk.rows true 1 cap fun j => [.int .i64 (rpF b i j)])]⟩ (SubSt.mk (by simp [SubFr, slotAt, ren, below]) (rp_sub b i cap _ _ _ rfl fun j hj => rfl)) this

def refT (a b c : Int) : T (AV × AM) :=
  .ite (decide (1 ≤ b) && decide (b ≤ 8) && decide (1 ≤ c) && decide (c ≤ 16) && decide (0 ≤ a))
    (.ite (decide (a ≤ b * c))
      (.ite (decide (0 < a)) (.all fun c => .asm (decide (a.toNat ≤ c)) (.ret (.tup [.sl 0 0 1 0 a.toNat c, .int .i64 0], [some (Blk.rows true 1 c fun j => [.int .i64 (rpF b a.toNat j)])])))
        (.ret (.tup [.nils, .int .i64 0], []))) (.ret (.tup [.nils, .int .i64 13], [])))
    (.ret (.tup [.nils, .int .i64 1], []))
def refS : List AV → T (AV × AM)
  | [.int .i64 a, .int .i64 b, .int .i64 c] => refT a b c
  | _ => .fail

theorem ref_ok : SummOK Try.prog 7 (.eff fun args m => lift [] m [] (refS args)) := by
  refine eff_ok (fun args w => Try.call7 args w) ?_
  intro args Q hq
  unfold refS at hq ⊢
  split at hq
  · rename_i a b c
    refine ⟨by simp [plainL, plain], fn_ok (E := rpE) (c := codeOf Try.f7) Try.func7 rfl EnvOK.nil (oneLoop (by kernel_rfl) rp_loop) rfl rfl fun Q hq => ?_⟩
    rw [rp_fn]
    have hbad : ∀ v, (T.ret ((AV.tup [AV.nils, AV.int IntKind.i64 v], []) : AV × AM)).holds Q → (T.ret ((AV.tup [AV.nils, AV.int IntKind.i64 v], []) : AV × AM)).holds (Leaf 0 Q) := fun v h =>
      ⟨id, _, _, h, by simp [Alike, ren, renL, conc, concL], by simp [below, belowL], Sub.nil _ _⟩
    unfold refT at hq
    obtain ⟨hq1, hq2⟩ := hq
    have hq2' : ∀ _ : ¬ (1 ≤ b ∧ b ≤ 8 ∧ 1 ≤ c ∧ c ≤ 16 ∧ 0 ≤ a), (T.ret ((AV.tup [AV.nils, AV.int IntKind.i64 1], []) : AV × AM)).holds (Leaf 0 Q) := fun h => hbad 1 (hq2 (by simp only [Bool.and_eq_false_iff, decide_eq_false_iff_not]; omega))
    refine T.hite (fun h1 => hq2' (by simp at h1; omega)) (fun h1 => T.hite (fun h2 => hq2' (by simp at h2; omega)) (fun h2 => T.hite (fun h3 => hq2' (by simp at h3; omega)) (fun h3 => T.hite (fun h4 => hq2' (by simp at h4; omega)) (fun h4 => T.hite (fun h5 => hq2' (by simp at h5; omega)) (fun h5 => ?_)))))
    simp only [decide_eq_false_iff_not] at h1 h2 h3 h4 h5
    obtain ⟨hq3, hq4⟩ := hq1 (by simp only [Bool.and_eq_true, decide_eq_true_eq]; omega)
    have hb0 : 0 ≤ b * c := Int.mul_nonneg (by omega) (by omega)
    have hb1 : b * c ≤ 8 * 16 := Int.mul_le_mul (by omega) (by omega) (by omega) (by omega)
    rw [IntWalk.i64_in (b * c) (by omega)]
    refine T.hite (fun h6 => ?_) (fun h6 => ?_)
    · simp only [decide_eq_true_eq] at h6
      exact hbad 13 (hq4 (by rw [decide_eq_false_iff_not]; omega))
    · simp only [decide_eq_false_iff_not] at h6
      have hq3 := hq3 (by rw [decide_eq_true_eq]; omega)
      refine T.hneed ⟨id, SubSt.mk (by simp [rpSt, rpSt0, SubFr, slotAt, ren, below]) (Sub.nil _ _)⟩ (T.hneed ⟨by dsimp only; omega, by dsimp only; omega, .inl rfl, .inl rfl⟩ (T.hite (fun h7 => ?_) (fun h7 => ?_)))
      · refine T.hall fun k => T.hasm fun hk => ?_
        exact ⟨id, _, _, hq3.1 h7 k hk, by simp [Alike, ren, renL, conc, concL], by simp [below, belowL], rp_sub b _ k _ _ _ rfl fun j hj => rfl⟩
      · exact hbad 0 (hq3.2 h7)
  · exact hq.elim

end Go.Proofs.Ytopcinllggbdhaa
