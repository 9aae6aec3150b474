import Derived.Test.YtopcinllggbdhaaProg
import Derived.Test.YtopcinllggbdhaaHOxP
namespace Go.Proofs.Ytopcinllggbdhaa
open Go.Ox
set_option maxRecDepth 100000
set_option linter.unusedVariables false
set_option linter.unusedSimpArgs false

/-! Place -/
def plSt (x : Int × Int × Nat) : St :=
  ⟨[(36, .int .i64 x.2.2), (35, .int .i64 x.1), (8, .sl 0 0 1 0 x.1.toNat x.1.toNat), (1, .int .i64 x.2.1)],
    [some (Blk.rows true 1 x.1.toNat fun j => [.int .i64 (if j < x.2.2 then (j : Int).tmod x.2.1 else 0)])]⟩
def plInv (x : Int × Int × Nat) : Prop := 1 ≤ x.2.1 ∧ 0 ≤ x.1 ∧ x.1 ≤ 128 ∧ x.2.2 ≤ x.1.toNat
def plPick (st : St) : Option (Int × Int × Nat) :=
  match slotAt st.fr 35, slotAt st.fr 1 with
  | some (.int _ a), some (.int _ b) => some (a, b, 0)
  | _, _ => none
def plEnd (x : Int × Int × Nat) : T (Ex × St) :=
  .ret (.exit 0, ⟨[(8, .sl 0 0 1 0 x.1.toNat x.1.toNat)], [some (Blk.rows true 1 x.1.toNat fun j => [.int .i64 ((j : Int).tmod x.2.1)])]⟩)
noncomputable def E6 : Env := { nt := 47, n0 := 0, fns := [], loop := fun k => if k = 7 then loopSumm 0 plSt plInv plPick plEnd else fun _ => .fail }

theorem pl_tree (a b : Int) (i : Nat) : keepT [36, 35, 8, 1] (acode Try.prog E6 (loopAt (codeOf Try.f6) 0) (plSt (a, b, i))) = 
  T.ite (decide ((↑i : Int) < a))
    (T.chk (!b == (0 : Int))
      (T.chk (decide ((0 : Int) ≤ (↑i : Int)) && decide ((↑i : Int) < (↑(Int.toNat a) : Int)))
        (T.chk (decide ((0 : Nat) + Int.toNat (↑i : Int) < Int.toNat a))
          (T.ret
            (Ex.norm,
              St.mk [((36 : Nat), AV.int IntKind.i64 (IntKind.wrap IntKind.i64 ((↑i : Int) + (1 : Int)))), ((35 : Nat), AV.int IntKind.i64 a), ((8 : Nat), AV.sl (0 : Nat) (0 : Nat) (1 : Nat) (0 : Nat) (Int.toNat a) (Int.toNat a)), ((1 : Nat), AV.int IntKind.i64 b)]
                [some
                    (Blk.mk true [] (1 : Nat) (Int.toNat a)
                      (fun i_1 => if i_1 = (0 : Nat) + Int.toNat (↑i : Int) then List.set [AV.int IntKind.i64 (if (0 : Nat) + Int.toNat (↑i : Int) < i then Int.tmod (↑((0 : Nat) + Int.toNat (↑i : Int)) : Int) b else (0 : Int))] (0 : Nat) (AV.int IntKind.i64 (Int.tmod (↑i : Int) b)) else [AV.int IntKind.i64 (if i_1 < i then Int.tmod (↑i_1 : Int) b else (0 : Int))]) [])])))))
    (T.ret (Ex.exit (0 : Nat), St.mk [((36 : Nat), AV.int IntKind.i64 (↑i : Int)), ((35 : Nat), AV.int IntKind.i64 a), ((8 : Nat), AV.sl (0 : Nat) (0 : Nat) (1 : Nat) (0 : Nat) (Int.toNat a) (Int.toNat a)), ((1 : Nat), AV.int IntKind.i64 b)] [some (Blk.mk true [] (1 : Nat) (Int.toNat a) (fun j => [AV.int IntKind.i64 (if j < i then Int.tmod (↑j : Int) b else (0 : Int))]) [])])) := by
  kernel_rfl

theorem pl_loop : LoopOK Try.prog E6 (loopAt (codeOf Try.f6) 0) := by
  refine loopSumm_ok EnvOK.nil (noLoops (by kernel_rfl)) plSt plInv (fun x => x.1.toNat - x.2.2) plPick plEnd ?_ (by kernel_rfl)
  rintro ⟨a, b, i⟩ ⟨h1, h2, h3, h4⟩ Q hq
  dsimp only at h1 h2 h3 h4
  refine round_keep [36, 35, 8, 1] ?_
  rw [pl_tree]
  refine ⟨fun hi => ?_, fun hi => ?_⟩
  · have hi : (i : Int) < a := by simpa using hi
    refine ⟨by simp; omega, by simp; omega, by simp; omega, (a, b, i + 1), id, ⟨h1, h2, h3, by dsimp only; omega⟩, by dsimp only; omega, ⟨?_, ?_⟩, hq⟩
    · have hw : IntKind.wrap IntKind.i64 ((i : Int) + 1) = ((i + 1 : Nat) : Int) := by rw [IntWalk.i64_in _ (by omega)]; omega
      simp [plSt, SubFr, slotAt, ren, below, hw]
    · refine Sub.ofId ?_ (Nat.zero_le _)
      simp only [plSt, SubBlks, id, AM.get, and_true]
      refine ⟨_, rfl, ⟨by simp [Blk.rows], by simp [Blk.rows, LAlike], rfl, rfl, fun j hj => ?_, by simp [Blk.rows, LAlike]⟩⟩
      dsimp only [Blk.rows]
      by_cases hji : j = 0 + Int.toNat (i : Int)
      · rw [if_pos hji]
        have : j = i := by omega
        subst this
        simp [LAlike, ren, below, AV.scalar]
      · rw [if_neg hji]
        have e : (j < i) = (j < i + 1) := by simp; omega
        simp [LAlike, ren, below, AV.scalar, e]
  · have hi : ¬ (i : Int) < a := by simpa using hi
    refine ⟨id, _, ⟨?_, ?_⟩, hq⟩
    · simp [SubFr, slotAt, ren, below]
    · refine Sub.ofId ?_ (Nat.zero_le _)
      simp only [SubBlks, id, AM.get, and_true]
      refine ⟨_, rfl, ⟨by simp [Blk.rows], by simp [Blk.rows, LAlike], rfl, rfl, fun j hj => ?_, by simp [Blk.rows, LAlike]⟩⟩
      dsimp only [Blk.rows] at hj ⊢
      have : j < i := by omega
      simp [LAlike, ren, below, AV.scalar, this]

theorem pl_fn (a b c : Int) : afn Try.prog E6 Try.f6 (codeOf Try.f6) [.int .i64 a, .int .i64 b, .int .i64 c] [] = 
  T.ite (decide (b < (1 : Int))) (T.ret (AV.tup [AV.nils, AV.int IntKind.i64 (1 : Int)], []))
    (T.ite (decide (b > (8 : Int))) (T.ret (AV.tup [AV.nils, AV.int IntKind.i64 (1 : Int)], []))
      (T.ite (decide (c < (1 : Int))) (T.ret (AV.tup [AV.nils, AV.int IntKind.i64 (1 : Int)], []))
        (T.ite (decide (c > (16 : Int))) (T.ret (AV.tup [AV.nils, AV.int IntKind.i64 (1 : Int)], []))
          (T.ite (decide (a < (0 : Int))) (T.ret (AV.tup [AV.nils, AV.int IntKind.i64 (1 : Int)], []))
            (T.ite (decide (a > IntKind.wrap IntKind.i64 (b * c))) (T.ret (AV.tup [AV.nils, AV.int IntKind.i64 (13 : Int)], []))
              (T.chk (makeOk (8 : Nat) a a)
                (T.need (∃ ρ, SubSt (0 : Nat) ρ (St.mk [((36 : Nat), AV.int IntKind.i64 (0 : Int)), ((35 : Nat), AV.int IntKind.i64 a), ((8 : Nat), AV.sl (0 : Nat) (0 : Nat) (1 : Nat) (0 : Nat) (Int.toNat a) (Int.toNat a)), ((1 : Nat), AV.int IntKind.i64 b)] [some (Blk.mk true [] (1 : Nat) (Int.toNat a) (fun x => [AV.int IntKind.i64 (0 : Int)]) [])]) (plSt (a, b, (0 : Nat))))
                  (T.need (plInv (a, b, (0 : Nat))) (T.ret (AV.tup [AV.sl (0 : Nat) (0 : Nat) (1 : Nat) (0 : Nat) (Int.toNat a) (Int.toNat a), AV.int IntKind.i64 (0 : Int)], [some (Blk.mk true [] (1 : Nat) (Int.toNat a) (fun j => [AV.int IntKind.i64 (Int.tmod (↑j : Int) b)]) [])])))))))))) := by
  kernel_rfl

/-- What Place leaves. -/
def placeT (a b c : Int) : T (AV × AM) :=
  .ite (decide (1 ≤ b) && decide (b ≤ 8) && decide (1 ≤ c) && decide (c ≤ 16) && decide (0 ≤ a))
    (.ite (decide (a ≤ b * c)) (.ret (.tup [.sl 0 0 1 0 a.toNat a.toNat, .int .i64 0], [some (Blk.rows true 1 a.toNat fun j => [.int .i64 ((j : Int).tmod b)])])) (.ret (.tup [.nils, .int .i64 13], [])))
    (.ret (.tup [.nils, .int .i64 1], []))
def placeS : List AV → T (AV × AM)
  | [.int .i64 a, .int .i64 b, .int .i64 c] => placeT a b c
  | _ => .fail

theorem pl_ok : SummOK Try.prog 6 (.eff fun args m => lift [] m [] (placeS args)) := by
  refine eff_ok (fun args w => Try.call6 args w) ?_
  intro args Q hq
  unfold placeS at hq ⊢
  split at hq
  · rename_i a b c
    refine ⟨by simp [plainL, plain], fn_ok (E := E6) (c := codeOf Try.f6) Try.func6 rfl EnvOK.nil (fun c' hc => ?_) rfl rfl fun Q hq => ?_⟩
    · have : loopsIn (codeOf Try.f6) = [loopAt (codeOf Try.f6) 0] := by kernel_rfl
      rw [this] at hc
      simp only [List.mem_cons, List.not_mem_nil, or_false] at hc
      subst hc
      exact pl_loop
    · rw [pl_fn]
      have hbad : ∀ v, (T.ret ((AV.tup [AV.nils, AV.int IntKind.i64 v], []) : AV × AM)).holds Q → (T.ret ((AV.tup [AV.nils, AV.int IntKind.i64 v], []) : AV × AM)).holds (Leaf 0 Q) := fun v h =>
        ⟨id, _, _, h, by simp [Alike, ren, renL, conc, concL], by simp [below, belowL], Sub.nil _ _⟩
      unfold placeT at hq
      obtain ⟨hq1, hq2⟩ := hq
      have hq2' : ∀ _ : ¬ (1 ≤ b ∧ b ≤ 8 ∧ 1 ≤ c ∧ c ≤ 16 ∧ 0 ≤ a), (T.ret ((AV.tup [AV.nils, AV.int IntKind.i64 1], []) : AV × AM)).holds (Leaf 0 Q) := fun h => hbad 1 (hq2 (by simp only [Bool.and_eq_false_iff, decide_eq_false_iff_not]; omega))
      repeat' first | refine T.hchk ?_ ?_ | refine T.hite (fun _ => ?_) (fun _ => ?_) | refine T.hall (fun _ => ?_) | refine T.hasm (fun _ => ?_)
      all_goals (try simp only [decide_eq_true_eq, decide_eq_false_iff_not, Bool.and_eq_true, bne_iff_ne, ne_eq, beq_iff_eq, Bool.not_eq_true', bne_eq_false_iff_eq, beq_eq_false_iff_ne, Bool.and_eq_false_iff, not_true_eq_false, Bool.false_eq_true, reduceCtorEq] at *)
      all_goals try (exact hq2' (by omega))
      all_goals obtain ⟨hq3, hq4⟩ := hq1 (by omega)
      all_goals have hb0 : 0 ≤ b * c := Int.mul_nonneg (by omega) (by omega)
      all_goals have hb1 : b * c ≤ 8 * 16 := Int.mul_le_mul (by omega) (by omega) (by omega) (by omega)
      all_goals rw [IntWalk.i64_in (b * c) (by omega)] at *
      · exact hbad 13 (hq4 (by rw [decide_eq_false_iff_not]; omega))
      · simp [makeOk]; omega
      · refine ⟨⟨id, ?_, ?_⟩, ⟨by dsimp only; omega, by dsimp only; omega, by dsimp only; omega, by dsimp only; omega⟩, ?_⟩
        · simp [plSt, SubFr, slotAt, ren, below]
        · refine Sub.ofId ?_ (Nat.zero_le _)
          simp only [plSt, SubBlks, id, AM.get, and_true]
          refine ⟨_, rfl, BlkOK.rows (fun h => h) fun j hj => LAlike.ints (by simp)⟩
        · have h := hq3 (by rw [decide_eq_true_eq]; omega)
          exact ⟨id, _, _, h, by simp [Alike, ren, renL, conc, concL], by simp [below, belowL], Sub.ofId (by simp only [SubBlks, id, AM.get, and_true]; exact ⟨_, rfl, BlkOK.rows (fun h => h) fun j hj => LAlike.ints rfl⟩) (Nat.zero_le _)⟩
  · exact hq.elim

end Go.Proofs.Ytopcinllggbdhaa
