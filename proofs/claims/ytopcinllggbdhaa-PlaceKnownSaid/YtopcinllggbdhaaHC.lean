/-
  known; the laws of layer 23.
-/
import Derived.Test.YtopcinllggbdhaaHB
import Derived.Test.YtopcinllggbdhaaHPick
import Derived.Test.YtopcinllggbdhaaHSpoilInts
namespace Go.Proofs.Ytopcinllggbdhaa
open Go.Ox
set_option maxRecDepth 100000
set_option linter.unusedVariables false
set_option linter.unusedSimpArgs false

def okA (a b c : Int) : Bool := decide (1 ≤ b) && decide (b ≤ 8) && decide (1 ≤ c) && decide (c ≤ 16) && decide (0 ≤ a)

/-- Place, of numbers of one kind alone: 0: wrong, 1: too many, 2: fine. -/
def placeK (k : Nat) : List AV → T (AV × AM)
  | [.int .i64 a, .int .i64 b, .int .i64 c] =>
    match k with
    | 0 => .chk (!okA a b c) (.ret (.tup [.nils, .int .i64 1], []))
    | 1 => .chk (okA a b c && !decide (a ≤ b * c)) (.ret (.tup [.nils, .int .i64 13], []))
    | _ => .chk (okA a b c && decide (a ≤ b * c)) (.ret (.tup [.sl 0 0 1 0 a.toNat a.toNat, .int .i64 0], [some (Blk.rows true 1 a.toNat fun j => [.int .i64 ((j : Int).tmod b)])]))
  | _ => .fail
def refK (k : Nat) : List AV → T (AV × AM)
  | [.int .i64 a, .int .i64 b, .int .i64 c] =>
    match k with
    | 0 => .chk (!okA a b c) (.ret (.tup [.nils, .int .i64 1], []))
    | 1 => .chk (okA a b c && !decide (a ≤ b * c)) (.ret (.tup [.nils, .int .i64 13], []))
    | _ => .chk (okA a b c && decide (a ≤ b * c)) (.ite (decide (0 < a)) (.all fun c => .asm (decide (a.toNat ≤ c)) (.ret (.tup [.sl 0 0 1 0 a.toNat c, .int .i64 0], [some (Blk.rows true 1 c fun j => [.int .i64 (rpF b a.toNat j)])])))
        (.ret (.tup [.nils, .int .i64 0], [])))
  | _ => .fail

theorem placeK_ok (k : Nat) : SummOK Try.prog 6 (.eff fun args m => lift [] m [] (placeK k args)) := by
  refine eff_weak pl_ok fun args m Q h => lift_weak ?_ h
  intro Q h
  unfold placeK at h
  split at h
  · rename_i a b c _
    unfold placeS placeT
    show (T.ite (okA a b c) _ _).holds Q
    split at h <;> obtain ⟨h1, h⟩ := h
    · simp only [Bool.not_eq_true'] at h1
      exact ⟨fun h2 => by rw [h1] at h2; (cases h2), fun _ => h⟩
    · simp only [Bool.and_eq_true, Bool.not_eq_true', decide_eq_false_iff_not] at h1
      exact ⟨fun _ => ⟨fun h2 => absurd (by simpa using h2) h1.2, fun _ => h⟩, fun h2 => by rw [h1.1] at h2; (cases h2)⟩
    · simp only [Bool.and_eq_true, decide_eq_true_eq] at h1
      exact ⟨fun _ => ⟨fun _ => h, fun h2 => absurd h1.2 (by simpa using h2)⟩, fun h2 => by rw [h1.1] at h2; (cases h2)⟩
  · exact h.elim

theorem refK_ok (k : Nat) : SummOK Try.prog 7 (.eff fun args m => lift [] m [] (refK k args)) := by
  refine eff_weak ref_ok fun args m Q h => lift_weak ?_ h
  intro Q h
  unfold refK at h
  split at h
  · rename_i a b c _
    unfold refS refT
    show (T.ite (okA a b c) _ _).holds Q
    split at h <;> obtain ⟨h1, h⟩ := h
    · simp only [Bool.not_eq_true'] at h1
      exact ⟨fun h2 => by rw [h1] at h2; (cases h2), fun _ => h⟩
    · simp only [Bool.and_eq_true, Bool.not_eq_true', decide_eq_false_iff_not] at h1
      exact ⟨fun _ => ⟨fun h2 => absurd (by simpa using h2) h1.2, fun _ => h⟩, fun h2 => by rw [h1.1] at h2; (cases h2)⟩
    · simp only [Bool.and_eq_true, decide_eq_true_eq] at h1
      exact ⟨fun _ => ⟨fun _ => h, fun h2 => absurd h1.2 (by simpa using h2)⟩, fun h2 => by rw [h1.1] at h2; (cases h2)⟩
  · exact h.elim

def knP : List AV → T (AV × AM)
  | [.int .i64 5, .int .i64 2, .int .i64 3] => .ret (.tup [.sl 0 0 1 0 5 5, .int .i64 0], [some (Blk.rows true 1 5 fun j => [.int .i64 ((j : Int).tmod 2)])])
  | [.int .i64 7, .int .i64 2, .int .i64 3] => .ret (.tup [.nils, .int .i64 13], [])
  | _ => .fail
noncomputable def knE : Env := { nt := Try.f10.ntmps, n0 := 0, fns := [(6, .eff fun args m => lift [] m [] (knP args)), (8, .pure sameS)], loop := fun _ _ => .fail }

theorem kn_fn : afn Try.prog knE Try.f10 (codeOf Try.f10) [] [] = 
  T.ite true
    (T.need (IntRow IntKind.i64 (Blk.mk true [] (1 : Nat) (5 : Nat) (fun j => [AV.int IntKind.i64 (Int.tmod (↑j : Int) (2 : Int))]) []))
      (T.need (IntRow IntKind.i64 (Blk.mk true [] (1 : Nat) (5 : Nat) (fun i => [AV.int IntKind.i64 (List.getD [(0 : Int), (1 : Int), (0 : Int), (1 : Int), (0 : Int)] i (0 : Int))]) []))
        (T.chk true
          (T.chk true
            (T.chk true
              (T.ite true (T.ret (AV.bool true, [some (Blk.mk true [] (1 : Nat) (5 : Nat) (fun j => [AV.int IntKind.i64 (Int.tmod (↑j : Int) (2 : Int))]) []), some (Blk.mk true [] (1 : Nat) (5 : Nat) (fun i => [AV.int IntKind.i64 (List.getD [(0 : Int), (1 : Int), (0 : Int), (1 : Int), (0 : Int)] i (0 : Int))]) [])]))
                (T.ret (AV.ff, [some (Blk.mk true [] (1 : Nat) (5 : Nat) (fun j => [AV.int IntKind.i64 (Int.tmod (↑j : Int) (2 : Int))]) []), some (Blk.mk true [] (1 : Nat) (5 : Nat) (fun i => [AV.int IntKind.i64 (List.getD [(0 : Int), (1 : Int), (0 : Int), (1 : Int), (0 : Int)] i (0 : Int))]) [])]))))))))
    (T.ret (AV.ff, [some (Blk.mk true [] (1 : Nat) (5 : Nat) (fun j => [AV.int IntKind.i64 (Int.tmod (↑j : Int) (2 : Int))]) [])])) := by
  kernel_rfl

def knS : List AV → T AV
  | [] => .ret (.bool true)
  | _ => .fail

noncomputable def ppE (k : Nat) : Env := { nt := Try.f3.ntmps, n0 := 0, fns := [(6, .eff fun args m => lift [] m [] (placeK k args)), (7, .eff fun args m => lift [] m [] (refK k args)), (8, .pure sameS), (9, .eff spoilS), (10, .pure fun args _ => knS args)], loop := fun _ _ => .fail }

theorem pp_fn0 (a b c : Int) : afn Try.prog (ppE 0) Try.f3 (codeOf Try.f3) [.int .i64 a, .int .i64 b, .int .i64 c] [] = 
  T.chk (!okA a b c) (T.chk (!okA a b c) (T.ite false (T.ret (AV.ff, [])) (T.need True (T.need True (T.chk true (T.chk true (T.chk true (T.ite false (T.ret (AV.ff, [])) (T.chk (!okA a b c) (T.need True (T.need True (T.chk true (T.chk true (T.chk true (T.ite true (T.ret (AV.bool true, [])) (T.ret (AV.ff, []))))))))))))))))) := by
  kernel_rfl

theorem pp_fn1 (a b c : Int) : afn Try.prog (ppE 1) Try.f3 (codeOf Try.f3) [.int .i64 a, .int .i64 b, .int .i64 c] [] = 
  T.chk (okA a b c && !decide (a ≤ b * c)) (T.chk (okA a b c && !decide (a ≤ b * c)) (T.ite false (T.ret (AV.ff, [])) (T.need True (T.need True (T.chk true (T.chk true (T.chk true (T.ite false (T.ret (AV.ff, [])) (T.chk (okA a b c && !decide (a ≤ b * c)) (T.need True (T.need True (T.chk true (T.chk true (T.chk true (T.ite true (T.ret (AV.bool true, [])) (T.ret (AV.ff, []))))))))))))))))) := by
  kernel_rfl

theorem pp_fn2 (a b c : Int) : afn Try.prog (ppE 2) Try.f3 (codeOf Try.f3) [.int .i64 a, .int .i64 b, .int .i64 c] [] = 
  T.chk (okA a b c && decide (a ≤ b * c))
    (T.chk (okA a b c && decide (a ≤ b * c))
      (T.ite (decide ((0 : Int) < a))
        (T.all fun c_1 =>
          T.asm (decide (Int.toNat a ≤ c_1))
            (T.ite false (T.ret (AV.ff, [some (Blk.mk true [] (1 : Nat) (Int.toNat a) (fun j => [AV.int IntKind.i64 (Int.tmod (↑j : Int) b)]) []), some (Blk.mk true [] (1 : Nat) c_1 (fun j => [AV.int IntKind.i64 (rpF b (Int.toNat a) j)]) [])]))
              (T.need (IntRow IntKind.i64 (Blk.mk true [] (1 : Nat) (Int.toNat a) (fun j => [AV.int IntKind.i64 (Int.tmod (↑j : Int) b)]) []))
                (T.need (IntRow IntKind.i64 (Blk.mk true [] (1 : Nat) c_1 (fun j => [AV.int IntKind.i64 (rpF b (Int.toNat a) j)]) []))
                  (T.chk (decide ((0 : Nat) + Int.toNat a ≤ Int.toNat a))
                    (T.chk (decide ((0 : Nat) + Int.toNat a ≤ c_1))
                      (T.chk (decide (Int.toNat a ≤ (4611686018427387904 : Nat)))
                        (T.ite (!(decide (Int.toNat a = Int.toNat a) && eqN (fun i => Int.tmod (↑((0 : Nat) + i) : Int) b) (fun i => rpF b (Int.toNat a) ((0 : Nat) + i)) (0 : Nat) (Int.toNat a)))
                          (T.ret (AV.ff, [some (Blk.mk true [] (1 : Nat) (Int.toNat a) (fun j => [AV.int IntKind.i64 (Int.tmod (↑j : Int) b)]) []), some (Blk.mk true [] (1 : Nat) c_1 (fun j => [AV.int IntKind.i64 (rpF b (Int.toNat a) j)]) [])]))
                          (T.need (IntRow IntKind.i64 (Blk.mk true [] (1 : Nat) (Int.toNat a) (fun j => [AV.int IntKind.i64 (Int.tmod (↑j : Int) b)]) []))
                            (T.chk true
                              (T.chk (decide ((0 : Nat) + Int.toNat a ≤ Int.toNat a))
                                (T.chk (decide (Int.toNat a ≤ (4611686018427387904 : Nat)))
                                  (T.chk (okA a b c && decide (a ≤ b * c))
                                    (T.need (IntRow IntKind.i64 (Blk.mk true [] (1 : Nat) (Int.toNat a) (fun j => [AV.int IntKind.i64 (Int.tmod (↑j : Int) b)]) []))
                                      (T.need (IntRow IntKind.i64 (Blk.mk true [] (1 : Nat) c_1 (fun j => [AV.int IntKind.i64 (rpF b (Int.toNat a) j)]) []))
                                        (T.chk (decide ((0 : Nat) + Int.toNat a ≤ Int.toNat a))
                                          (T.chk (decide ((0 : Nat) + Int.toNat a ≤ c_1))
                                            (T.chk (decide (Int.toNat a ≤ (4611686018427387904 : Nat)))
                                              (T.ite (decide (Int.toNat a = Int.toNat a) && eqN (fun i => Int.tmod (↑((0 : Nat) + i) : Int) b) (fun i => rpF b (Int.toNat a) ((0 : Nat) + i)) (0 : Nat) (Int.toNat a))
                                                (T.ret (AV.bool true, [none, some (Blk.mk true [] (1 : Nat) c_1 (fun j => [AV.int IntKind.i64 (rpF b (Int.toNat a) j)]) []), some (Blk.mk true [] (1 : Nat) (Int.toNat a) (fun j => [AV.int IntKind.i64 (Int.tmod (↑j : Int) b)]) [])]))
                                                (T.ret (AV.ff, [none, some (Blk.mk true [] (1 : Nat) c_1 (fun j => [AV.int IntKind.i64 (rpF b (Int.toNat a) j)]) []), some (Blk.mk true [] (1 : Nat) (Int.toNat a) (fun j => [AV.int IntKind.i64 (Int.tmod (↑j : Int) b)]) [])])))))))))))))))))))))
        (T.ite false (T.ret (AV.ff, [some (Blk.mk true [] (1 : Nat) (Int.toNat a) (fun j => [AV.int IntKind.i64 (Int.tmod (↑j : Int) b)]) [])]))
          (T.need (IntRow IntKind.i64 (Blk.mk true [] (1 : Nat) (Int.toNat a) (fun j => [AV.int IntKind.i64 (Int.tmod (↑j : Int) b)]) []))
            (T.need True
              (T.chk (decide ((0 : Nat) + Int.toNat a ≤ Int.toNat a))
                (T.chk true
                  (T.chk (decide (Int.toNat a ≤ (4611686018427387904 : Nat)))
                    (T.ite (!(decide (Int.toNat a = (0 : Nat)) && eqN (fun i => Int.tmod (↑((0 : Nat) + i) : Int) b) (fun x => (0 : Int)) (0 : Nat) (Int.toNat a))) (T.ret (AV.ff, [some (Blk.mk true [] (1 : Nat) (Int.toNat a) (fun j => [AV.int IntKind.i64 (Int.tmod (↑j : Int) b)]) [])]))
                      (T.need (IntRow IntKind.i64 (Blk.mk true [] (1 : Nat) (Int.toNat a) (fun j => [AV.int IntKind.i64 (Int.tmod (↑j : Int) b)]) []))
                        (T.chk true
                          (T.chk (decide ((0 : Nat) + Int.toNat a ≤ Int.toNat a))
                            (T.chk (decide (Int.toNat a ≤ (4611686018427387904 : Nat)))
                              (T.chk (okA a b c && decide (a ≤ b * c))
                                (T.need (IntRow IntKind.i64 (Blk.mk true [] (1 : Nat) (Int.toNat a) (fun j => [AV.int IntKind.i64 (Int.tmod (↑j : Int) b)]) []))
                                  (T.need True
                                    (T.chk (decide ((0 : Nat) + Int.toNat a ≤ Int.toNat a))
                                      (T.chk true
                                        (T.chk (decide (Int.toNat a ≤ (4611686018427387904 : Nat)))
                                          (T.ite (decide (Int.toNat a = (0 : Nat)) && eqN (fun i => Int.tmod (↑((0 : Nat) + i) : Int) b) (fun x => (0 : Int)) (0 : Nat) (Int.toNat a)) (T.ret (AV.bool true, [none, some (Blk.mk true [] (1 : Nat) (Int.toNat a) (fun j => [AV.int IntKind.i64 (Int.tmod (↑j : Int) b)]) [])]))
                                            (T.ret (AV.ff, [none, some (Blk.mk true [] (1 : Nat) (Int.toNat a) (fun j => [AV.int IntKind.i64 (Int.tmod (↑j : Int) b)]) [])])))))))))))))))))))))) := by
  kernel_rfl

theorem kn_env : EnvOK Try.prog knE.fns := by
  refine EnvOK.cons (eff_weak pl_ok fun args m Q h => lift_weak ?_ h) (EnvOK.cons same_ok EnvOK.nil)
  intro Q h
  unfold knP at h
  split at h
  · exact ⟨fun _ => ⟨fun _ => h, fun h2 => by simp at h2⟩, fun h2 => by simp at h2⟩
  · exact ⟨fun _ => ⟨fun h2 => by simp at h2, fun _ => h⟩, fun h2 => by simp at h2⟩
  · exact h.elim

theorem kn_ok : SummOK Try.prog 10 (.pure fun args _ => knS args) := by
  refine pure_fn (E := knE) (c := codeOf Try.f10) (fun args w => Try.call10 args w) Try.func10 rfl kn_env (noLoops (by kernel_rfl)) rfl rfl ?_
  intro args Q hq
  unfold knS at hq ⊢
  split at hq
  · refine ⟨rfl, by simp [plain, T.holds], fun Q hq => ?_⟩
    rw [kn_fn]
    simp only [T.holds, IntRow.rows, plain, true_and, and_true, forall_const, Bool.true_eq_false, false_implies, hq]
    exact hq
  · exact hq.elim

theorem pp_env (k : Nat) : EnvOK Try.prog (ppE k).fns :=
  EnvOK.cons (placeK_ok k) (EnvOK.cons (refK_ok k) (EnvOK.cons same_ok (EnvOK.cons spoil_ok (EnvOK.cons kn_ok EnvOK.nil))))

theorem pp_eq {a b : Int} : eqN (fun i => Int.tmod ((0 + i : Nat) : Int) b) (fun i => rpF b a.toNat (0 + i)) 0 a.toNat = true :=
  eqN_all fun d hd => by simp [rpF, hd]

theorem okA_iff {a b c : Int} : okA a b c = true ↔ 1 ≤ b ∧ b ≤ 8 ∧ 1 ≤ c ∧ c ≤ 16 ∧ 0 ≤ a := by
  simp [okA, and_assoc]

theorem pp_law (a b c : Int) (w : World) : Calls Try.prog 3 #[.int .i64 a, .int .i64 b, .int .i64 c] w fun e w' => e = .returned (.bool true) ∧ RowKit.Grown w w' := by
  by_cases h1 : okA a b c = true
  · by_cases h2 : a ≤ b * c
    · refine law_walk (E := ppE 2) (c := codeOf Try.f3) Try.func3 rfl (pp_env 2) (noLoops (by kernel_rfl)) rfl rfl [.int .i64 a, .int .i64 b, .int .i64 c] rfl (by simp [concL, conc]) ?_ w
      rw [pp_fn2]
      have hk := okA_iff.1 h1
      have hb1 : b * c ≤ 8 * 16 := Int.mul_le_mul (by omega) (by omega) (by omega) (by omega)
      have he := @pp_eq a b
      have h3 : (okA a b c && decide (a ≤ b * c)) = true := by simp [h1, h2]
      simp only [T.holds, IntRow.rows, h3, he, Bool.and_true, decide_true, Bool.not_true, Bool.false_eq_true, Bool.true_eq_false, false_implies, true_and, and_true, forall_const, AV.yes]
      simp
      refine ⟨fun h k hk => by omega, fun h => ?_⟩
      have h0 : a.toNat = 0 := by omega
      simp [h0, eqN]
      omega
    · refine law_walk (E := ppE 1) (c := codeOf Try.f3) Try.func3 rfl (pp_env 1) (noLoops (by kernel_rfl)) rfl rfl [.int .i64 a, .int .i64 b, .int .i64 c] rfl (by simp [concL, conc]) ?_ w
      rw [pp_fn1]
      have h3 : (okA a b c && !decide (a ≤ b * c)) = true := by simp [h1, h2]
      simp [T.holds, h3, AV.yes]
  · refine law_walk (E := ppE 0) (c := codeOf Try.f3) Try.func3 rfl (pp_env 0) (noLoops (by kernel_rfl)) rfl rfl [.int .i64 a, .int .i64 b, .int .i64 c] rfl (by simp [concL, conc]) ?_ w
    rw [pp_fn0]
    have h3 : (!okA a b c) = true := by simp [h1]
    simp [T.holds, h3, AV.yes]

end Go.Proofs.Ytopcinllggbdhaa
