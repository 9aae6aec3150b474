/-
  Layer 20: slices.Sort of few: trees.
-/
import Derived.Test.YtnfngaapjodpcaaHP
namespace Go.Proofs.Ytnfngaapjodpcaa
open Go.Ox

set_option maxRecDepth 100000
set_option maxHeartbeats 4000000
set_option linter.unusedVariables false
set_option linter.unusedSimpArgs false

noncomputable def lnL : List (Nat × Func) := [(62, Try.f62), (63, Try.f63)]

theorem lnL_ok : InlOK Try.prog lnL := ⟨⟨fun args w => Try.call62 args w, Try.func62, rfl, by kernel_rfl⟩, ⟨fun args w => Try.call63 args w, Try.func63, rfl, by kernel_rfl⟩, trivial⟩

noncomputable def lnE : Env := { nt := Try.f52.ntmps, n0 := 0, vec := true, fns := openAll (inl Try.prog [] lnL), loop := fun _ _ => .fail }

theorem lnE_ok : EnvOK Try.prog lnE.fns := EnvOK.open_ (inl_ok EnvOK.nil lnL lnL_ok)

theorem ln_0 : T.cut (afn Try.prog lnE Try.f52 (codeOf Try.f52) [.int .u64 0] []) [0, 0, 0] = 
  @T.chk (AV × AM) true (@T.chk (AV × AM) true (@T.chk (AV × AM) true (T.chk true (T.ret (AV.int IntKind.i64 (0 : Int), []))))) := by
  kernel_rfl

theorem ln_1 : T.cut (afn Try.prog lnE Try.f52 (codeOf Try.f52) [.int .u64 1] []) [0, 0, 0] = 
  @T.chk (AV × AM) true (@T.chk (AV × AM) true (@T.chk (AV × AM) true (T.chk true (T.ret (AV.int IntKind.i64 (1 : Int), []))))) := by
  kernel_rfl

theorem ln_2 : T.cut (afn Try.prog lnE Try.f52 (codeOf Try.f52) [.int .u64 2] []) [0, 0, 0] = 
  @T.chk (AV × AM) true (@T.chk (AV × AM) true (@T.chk (AV × AM) true (T.chk true (T.ret (AV.int IntKind.i64 (2 : Int), []))))) := by
  kernel_rfl

theorem ln_3 : T.cut (afn Try.prog lnE Try.f52 (codeOf Try.f52) [.int .u64 3] []) [0, 0, 0] = 
  @T.chk (AV × AM) true (@T.chk (AV × AM) true (@T.chk (AV × AM) true (T.chk true (T.ret (AV.int IntKind.i64 (2 : Int), []))))) := by
  kernel_rfl

theorem ln_4 : T.cut (afn Try.prog lnE Try.f52 (codeOf Try.f52) [.int .u64 4] []) [0, 0, 0] = 
  @T.chk (AV × AM) true (@T.chk (AV × AM) true (@T.chk (AV × AM) true (T.chk true (T.ret (AV.int IntKind.i64 (3 : Int), []))))) := by
  kernel_rfl

theorem ln_5 : T.cut (afn Try.prog lnE Try.f52 (codeOf Try.f52) [.int .u64 5] []) [0, 0, 0] = 
  @T.chk (AV × AM) true (@T.chk (AV × AM) true (@T.chk (AV × AM) true (T.chk true (T.ret (AV.int IntKind.i64 (3 : Int), []))))) := by
  kernel_rfl

theorem ln_6 : T.cut (afn Try.prog lnE Try.f52 (codeOf Try.f52) [.int .u64 6] []) [0, 0, 0] = 
  @T.chk (AV × AM) true (@T.chk (AV × AM) true (@T.chk (AV × AM) true (T.chk true (T.ret (AV.int IntKind.i64 (3 : Int), []))))) := by
  kernel_rfl

theorem ln_7 : T.cut (afn Try.prog lnE Try.f52 (codeOf Try.f52) [.int .u64 7] []) [0, 0, 0] = 
  @T.chk (AV × AM) true (@T.chk (AV × AM) true (@T.chk (AV × AM) true (T.chk true (T.ret (AV.int IntKind.i64 (3 : Int), []))))) := by
  kernel_rfl

theorem ln_8 : T.cut (afn Try.prog lnE Try.f52 (codeOf Try.f52) [.int .u64 8] []) [0, 0, 0] = 
  @T.chk (AV × AM) true (@T.chk (AV × AM) true (@T.chk (AV × AM) true (T.chk true (T.ret (AV.int IntKind.i64 (4 : Int), []))))) := by
  kernel_rfl

theorem ln_9 : T.cut (afn Try.prog lnE Try.f52 (codeOf Try.f52) [.int .u64 9] []) [0, 0, 0] = 
  @T.chk (AV × AM) true (@T.chk (AV × AM) true (@T.chk (AV × AM) true (T.chk true (T.ret (AV.int IntKind.i64 (4 : Int), []))))) := by
  kernel_rfl

theorem ln_10 : T.cut (afn Try.prog lnE Try.f52 (codeOf Try.f52) [.int .u64 10] []) [0, 0, 0] = 
  @T.chk (AV × AM) true (@T.chk (AV × AM) true (@T.chk (AV × AM) true (T.chk true (T.ret (AV.int IntKind.i64 (4 : Int), []))))) := by
  kernel_rfl

theorem ln_11 : T.cut (afn Try.prog lnE Try.f52 (codeOf Try.f52) [.int .u64 11] []) [0, 0, 0] = 
  @T.chk (AV × AM) true (@T.chk (AV × AM) true (@T.chk (AV × AM) true (T.chk true (T.ret (AV.int IntKind.i64 (4 : Int), []))))) := by
  kernel_rfl

theorem ln_12 : T.cut (afn Try.prog lnE Try.f52 (codeOf Try.f52) [.int .u64 12] []) [0, 0, 0] = 
  @T.chk (AV × AM) true (@T.chk (AV × AM) true (@T.chk (AV × AM) true (T.chk true (T.ret (AV.int IntKind.i64 (4 : Int), []))))) := by
  kernel_rfl

noncomputable def leL : List (Nat × Func) := [(69, Try.f69)]

theorem leL_ok : InlOK Try.prog leL := ⟨⟨fun args w => Try.call69 args w, Try.func69, rfl, by kernel_rfl⟩, trivial⟩

noncomputable def leE : Env := { nt := Try.f59.ntmps, n0 := 0, vec := true, fns := openAll (inl Try.prog [] leL), loop := fun _ _ => .fail }

theorem leE_ok : EnvOK Try.prog leE.fns := EnvOK.open_ (inl_ok EnvOK.nil leL leL_ok)

theorem le_fn (x y : Int) : T.cut (afn Try.prog leE Try.f59 (codeOf Try.f59) [.int .i64 x, .int .i64 y] []) [2, 2, 2, 0] = 
  T.ite (x != x) (T.ite (!y != y) (T.ret (AV.tt, [])) (T.ret (AV.bool (decide (x < y)), []))) (T.ret (AV.bool (decide (x < y)), [])) := by
  kernel_rfl

def lesS : List AV → T AV
  | [.int .i64 x, .int .i64 y] => .ret (.bool (decide (x < y)))
  | _ => .fail

noncomputable def isF : List (Nat × Summ) := [(59, .pure fun args _ => lesS args)]

noncomputable def isE : Env := { nt := Try.f53.ntmps, n0 := 1, vec := true, fns := openAll isF, loop := fun _ _ => .fail }

noncomputable def isC : Code := loopAt (codeOf Try.f53) 0

noncomputable def isB : Code := inBlk ((chainOf isC).getD 2 .skip)

noncomputable def isD : Code := loopAt isB 0

def isFr (n c i : Nat) : List (Nat × AV) := [(0, .sl 0 0 1 0 n c), (1, .int .i64 0), (2, .int .i64 n), (6, .int .i64 i)]

def isSt (n c : Nat) (y : Nat × (Nat → Int)) : St := ⟨isFr n c y.1, [some (i64B c y.2)]⟩

def isIn (n c i : Nat) (y : Nat × (Nat → Int)) : St := ⟨isFr n c i ++ [(7, .int .i64 y.1)], [some (i64B c y.2)]⟩

theorem is_a (n c : Nat) (f : Nat → Int) : T.cut (keepT [0, 1, 2, 6] (acodeL Try.prog isE ((chainOf (codeOf Try.f53)).take 1) ⟨[(0, .sl 0 0 1 0 n c), (1, .int .i64 0), (2, .int .i64 n)], [some (i64B c f)]⟩)) [] = 
  T.ret (Ex.norm, St.mk [((0 : Nat), AV.sl (0 : Nat) (0 : Nat) (1 : Nat) (0 : Nat) n c), ((1 : Nat), AV.int IntKind.i64 (0 : Int)), ((2 : Nat), AV.int IntKind.i64 (↑n : Int)), ((6 : Nat), AV.int IntKind.i64 (1 : Int))] [some (Blk.mk true [] (1 : Nat) c (fun j => [AV.int IntKind.i64 (f j)]) [] none)]) := by
  kernel_rfl

theorem is_b (n c i : Nat) (f : Nat → Int) : T.cut (keepT [0, 1, 2, 6] (acodeL Try.prog isE ((chainOf isC).take 2) (isSt n c (i, f)))) [2, 0] = 
  T.ite (decide ((↑i : Int) < (↑n : Int))) (T.ret (Ex.norm, St.mk [((0 : Nat), AV.sl (0 : Nat) (0 : Nat) (1 : Nat) (0 : Nat) n c), ((1 : Nat), AV.int IntKind.i64 (0 : Int)), ((2 : Nat), AV.int IntKind.i64 (↑n : Int)), ((6 : Nat), AV.int IntKind.i64 (↑i : Int))] [some (Blk.mk true [] (1 : Nat) c (fun j => [AV.int IntKind.i64 (f j)]) [] none)]))
    (T.ret (Ex.exit (0 : Nat), St.mk [((0 : Nat), AV.sl (0 : Nat) (0 : Nat) (1 : Nat) (0 : Nat) n c), ((1 : Nat), AV.int IntKind.i64 (0 : Int)), ((2 : Nat), AV.int IntKind.i64 (↑n : Int)), ((6 : Nat), AV.int IntKind.i64 (↑i : Int))] [some (Blk.mk true [] (1 : Nat) c (fun j => [AV.int IntKind.i64 (f j)]) [] none)])) := by
  kernel_rfl

theorem is_c (n c i : Nat) (f : Nat → Int) : T.cut (keepT [0, 1, 2, 6, 7] (acodeL Try.prog isE ((chainOf isB).take 1) (isSt n c (i, f)))) [] = 
  T.ret (Ex.norm, St.mk [((0 : Nat), AV.sl (0 : Nat) (0 : Nat) (1 : Nat) (0 : Nat) n c), ((1 : Nat), AV.int IntKind.i64 (0 : Int)), ((2 : Nat), AV.int IntKind.i64 (↑n : Int)), ((6 : Nat), AV.int IntKind.i64 (↑i : Int)), ((7 : Nat), AV.int IntKind.i64 (↑i : Int))] [some (Blk.mk true [] (1 : Nat) c (fun j => [AV.int IntKind.i64 (f j)]) [] none)]) := by
  kernel_rfl

theorem is_d (n c i j : Nat) (f : Nat → Int) : T.cut (keepT [0, 1, 2, 6, 7] (acode Try.prog isE isD (isIn n c i (j, f)))) [2, 2, 2, 0] = 
  T.ite (decide ((↑j : Int) > (0 : Int)))
    (T.chk (decide ((0 : Int) ≤ (↑j : Int)) && decide ((↑j : Int) < (↑n : Int)))
      (T.chk (decide ((0 : Nat) + Int.toNat (↑j : Int) < c))
        (T.chk (decide ((0 : Int) ≤ IntKind.wrap IntKind.i64 ((↑j : Int) - (1 : Int))) && decide (IntKind.wrap IntKind.i64 ((↑j : Int) - (1 : Int)) < (↑n : Int)))
          (T.chk (decide ((0 : Nat) + Int.toNat (IntKind.wrap IntKind.i64 ((↑j : Int) - (1 : Int))) < c))
            (T.ite (decide (f ((0 : Nat) + Int.toNat (↑j : Int)) < f ((0 : Nat) + Int.toNat (IntKind.wrap IntKind.i64 ((↑j : Int) - (1 : Int))))))
              (T.chk (decide ((0 : Int) ≤ IntKind.wrap IntKind.i64 ((↑j : Int) - (1 : Int))) && decide (IntKind.wrap IntKind.i64 ((↑j : Int) - (1 : Int)) < (↑n : Int)))
                (T.chk (decide ((0 : Nat) + Int.toNat (IntKind.wrap IntKind.i64 ((↑j : Int) - (1 : Int))) < c))
                  (T.chk (decide ((0 : Int) ≤ (↑j : Int)) && decide ((↑j : Int) < (↑n : Int)))
                    (T.chk (decide ((0 : Nat) + Int.toNat (↑j : Int) < c))
                      (T.chk (decide ((0 : Int) ≤ (↑j : Int)) && decide ((↑j : Int) < (↑n : Int)))
                        (T.chk (decide ((0 : Nat) + Int.toNat (↑j : Int) < c))
                          (T.chk (decide ((0 : Int) ≤ IntKind.wrap IntKind.i64 ((↑j : Int) - (1 : Int))) && decide (IntKind.wrap IntKind.i64 ((↑j : Int) - (1 : Int)) < (↑n : Int)))
                            (T.chk (decide ((0 : Nat) + Int.toNat (IntKind.wrap IntKind.i64 ((↑j : Int) - (1 : Int))) < c))
                              (T.ret
                                (Ex.norm,
                                  St.mk [((0 : Nat), AV.sl (0 : Nat) (0 : Nat) (1 : Nat) (0 : Nat) n c), ((1 : Nat), AV.int IntKind.i64 (0 : Int)), ((2 : Nat), AV.int IntKind.i64 (↑n : Int)), ((6 : Nat), AV.int IntKind.i64 (↑i : Int)), ((7 : Nat), AV.int IntKind.i64 (IntKind.wrap IntKind.i64 ((↑j : Int) - (1 : Int))))]
                                    [some (Blk.mk true [] (1 : Nat) c (fun i => [AV.int IntKind.i64 (if i = (0 : Nat) + Int.toNat (IntKind.wrap IntKind.i64 ((↑j : Int) - (1 : Int))) then f ((0 : Nat) + Int.toNat (↑j : Int)) else if i = (0 : Nat) + Int.toNat (↑j : Int) then f ((0 : Nat) + Int.toNat (IntKind.wrap IntKind.i64 ((↑j : Int) - (1 : Int)))) else f i)]) [] none)]))))))))))
              (T.ret (Ex.exit (2 : Nat), St.mk [((0 : Nat), AV.sl (0 : Nat) (0 : Nat) (1 : Nat) (0 : Nat) n c), ((1 : Nat), AV.int IntKind.i64 (0 : Int)), ((2 : Nat), AV.int IntKind.i64 (↑n : Int)), ((6 : Nat), AV.int IntKind.i64 (↑i : Int)), ((7 : Nat), AV.int IntKind.i64 (↑j : Int))] [some (Blk.mk true [] (1 : Nat) c (fun j => [AV.int IntKind.i64 (f j)]) [] none)])))))))
    (T.ret (Ex.exit (2 : Nat), St.mk [((0 : Nat), AV.sl (0 : Nat) (0 : Nat) (1 : Nat) (0 : Nat) n c), ((1 : Nat), AV.int IntKind.i64 (0 : Int)), ((2 : Nat), AV.int IntKind.i64 (↑n : Int)), ((6 : Nat), AV.int IntKind.i64 (↑i : Int)), ((7 : Nat), AV.int IntKind.i64 (↑j : Int))] [some (Blk.mk true [] (1 : Nat) c (fun j => [AV.int IntKind.i64 (f j)]) [] none)])) := by
  kernel_rfl

theorem is_z (n c i : Nat) (f : Nat → Int) : T.cut (keepT [0, 1, 2, 6] (acodeL Try.prog isE ((chainOf isC).drop 3) (isSt n c (i, f)))) [] = 
  T.ret (Ex.norm, St.mk [((0 : Nat), AV.sl (0 : Nat) (0 : Nat) (1 : Nat) (0 : Nat) n c), ((1 : Nat), AV.int IntKind.i64 (0 : Int)), ((2 : Nat), AV.int IntKind.i64 (↑n : Int)), ((6 : Nat), AV.int IntKind.i64 (IntKind.wrap IntKind.i64 ((↑i : Int) + (1 : Int))))] [some (Blk.mk true [] (1 : Nat) c (fun j => [AV.int IntKind.i64 (f j)]) [] none)]) := by
  kernel_rfl

theorem is_b0 : chainOf (codeOf Try.f53) = (chainOf (codeOf Try.f53)).take 1 ++ [.block 0 (.loop isC)] := by
  kernel_rfl

theorem is_b1 : (chainOf isC).drop 2 = .block 1 isB :: (chainOf isC).drop 3 := by
  kernel_rfl

theorem is_b2 : (chainOf isB) = (chainOf isB).take 1 ++ [.block 2 (.loop isD)] := by
  kernel_rfl

theorem is_res : Try.f53.results.toList = [] := by
  kernel_rfl



set_option maxRecDepth 100000
set_option maxHeartbeats 4000000
set_option linter.unusedVariables false
set_option linter.unusedSimpArgs false

theorem les_eff (x y : Int) : EffAt Try.prog 59 [.int .i64 x, .int .i64 y] [] (.ret (.bool (decide (x < y)), [])) := by
  refine fn_ok (E := leE) (c := codeOf Try.f59) Try.func59 rfl leE_ok (noLoops (by kernel_rfl)) rfl rfl fun Q hq => T.cut_eq (le_fn x y) ?_
  have : (x != x) = false := by simp
  rw [this]
  exact T.h_ff (T.hret (leaf_of id hq (by simp [ren]) (by simp [below]) (Sub.nil _ _)))

theorem les_ok : SummOK Try.prog 59 (.pure fun args _ => lesS args) := by
  refine pure_ok (fun args w => Try.call59 args w) fun args Q hq => ?_
  unfold lesS at hq ⊢
  split at hq
  · rename_i x y
    exact ⟨by simp [plainL, plain], by simp [plain, T.holds], les_eff x y⟩
  · exact hq.elim

theorem isE_ok : EnvOK Try.prog isE.fns := EnvOK.open_ (EnvOK.cons les_ok EnvOK.nil)

theorem is_sub {fr' fr : List (Nat × AV)} {c : Nat} {F : Nat → List AV} {g : Nat → Int} (hf : SubFr 1 id fr' fr) (hF : BlkOK 1 id (Blk.mk true [] 1 c F [] none) (i64B c g)) : SubSt 1 id ⟨fr', [some (Blk.mk true [] 1 c F [] none)]⟩ ⟨fr, [some (i64B c g)]⟩ :=
  SubSt.mk hf (Sub.of ⟨⟨_, rfl, hF⟩, trivial⟩ (fun _ _ _ _ h => h) (fun _ _ => rfl) (by simp))

theorem is_same {fr' fr : List (Nat × AV)} {c : Nat} {g : Nat → Int} (hf : SubFr 1 id fr' fr) : SubSt 1 id ⟨fr', [some (i64B c g)]⟩ ⟨fr, [some (i64B c g)]⟩ := is_sub hf i64_same

theorem is_inner (n c i : Nat) (hn : n ≤ c) (hb : n ≤ 12) (hi : i < n) (f : Nat → Int) {Q : Ex × St → Prop} (hQ : ∀ j f', Q (.exit 2, isIn n c i (j, f'))) : AWp Try.prog isE (.loop isD) (isIn n c i (i, f)) Q := by
  refine loop_free (isIn n c i) (fun y => y.1 ≤ i) (fun y => y.1) (fun y hy => ?_) (i, f) (Nat.le_refl _)
  obtain ⟨j, f⟩ := y
  have hy : j ≤ i := hy
  refine code_sound isE_ok _ (noLoops (by kernel_rfl)) _ _ (round_keep [0, 1, 2, 6, 7] (T.cut_eq (is_d n c i j f) ?_))
  refine T.hiteP (fun hj => ?_) (fun hj => T.hret (Round.any (.exit 2) _ id (is_same (by simp [isIn, isFr, SubFr, slotAt, ren, below])) (hQ j f)))
  have hw : IntKind.wrap IntKind.i64 ((j : Int) - 1) = ((j - 1 : Nat) : Int) := by rw [IntWalk.i64_in _ (by omega)]; omega
  rw [hw]
  have c1 : (decide ((0 : Int) ≤ (j : Int)) && decide ((j : Int) < (n : Int))) = true := by simp only [Bool.and_eq_true, decide_eq_true_eq]; omega
  have c2 : decide (0 + Int.toNat (j : Int) < c) = true := decide_eq_true (by omega)
  have c3 : (decide ((0 : Int) ≤ ((j - 1 : Nat) : Int)) && decide (((j - 1 : Nat) : Int) < (n : Int))) = true := by simp only [Bool.and_eq_true, decide_eq_true_eq]; omega
  have c4 : decide (0 + Int.toNat ((j - 1 : Nat) : Int) < c) = true := decide_eq_true (by omega)
  refine T.hchk c1 (T.hchk c2 (T.hchk c3 (T.hchk c4 (T.hiteP (fun hl => ?_) (fun hl => T.hret (Round.any (.exit 2) _ id (is_same (by simp [isIn, isFr, SubFr, slotAt, ren, below])) (hQ j f)))))))
  refine T.hchk c3 (T.hchk c4 (T.hchk c1 (T.hchk c2 (T.hchk c1 (T.hchk c2 (T.hchk c3 (T.hchk c4 (T.hret ?_))))))))
  exact Round.go (j - 1, _) id (by dsimp only; omega) (by dsimp only; omega) (is_sub (by simp [isIn, isFr, SubFr, slotAt, ren, below]) i64_ok) any_ff

theorem is_step (n c i j : Nat) (hi : i < n) (hb : n ≤ 12) (f f' : Nat → Int) (Q : Ex × St → Prop) {D : List Code} (hD : D = (chainOf isC).drop 3) (hl : ∀ x ∈ D, ∀ c' ∈ loopsIn x, LoopOK Try.prog isE c') : AWpL Try.prog isE D (isIn n c i (j, f')) (Round isE (isSt n c) (fun y => 1 ≤ y.1) (fun y => n - y.1) (fun _ => .asm false .fail) Q (i, f)) := by
  have ez := is_z n c i f'
  rw [← hD] at ez
  have hw : IntKind.wrap IntKind.i64 ((i : Int) + 1) = ((i + 1 : Nat) : Int) := by rw [IntWalk.i64_in _ (by omega)]; omega
  refine AWpL.sub (E := isE) (ρ := id) (st := isSt n c (i, f')) (is_same (by simp [isFr, SubFr, slotAt, ren, below])) ?_
  exact awpl_end (E := isE) isE_ok hl (weak_keep [0, 1, 2, 6] (T.cut_eq ez (T.hret ⟨id, isSt n c (i + 1, f'), is_same (by simp [isFr, SubFr, slotAt, ren, below, hw]), Round.go (i + 1, f') id (by dsimp only; omega) (by dsimp only; omega) (is_same (by simp [isFr, SubFr, slotAt, ren, below])) any_ff⟩)))

theorem is_mid (n c i : Nat) (hn : n ≤ c) (hb : n ≤ 12) (hi : i < n) (f : Nat → Int) {Q : Ex × St → Prop} {B : List Code} (hB : B = chainOf isB) (hQ : ∀ j f', Q (.norm, isIn n c i (j, f'))) : AWpL Try.prog isE B (isSt n c (i, f)) Q := by
  have ec := is_c n c i f
  have hb2 := is_b2
  have hl2 : ∀ x ∈ (chainOf isB).take 1, ∀ c' ∈ loopsIn x, LoopOK Try.prog isE c' := noLoopsL_ok (by kernel_rfl)
  rw [hB, hb2]
  generalize (chainOf isB).take 1 = B0 at ec hl2 ⊢
  have go : AWpL Try.prog isE [.block 2 (.loop isD)] (isIn n c i (i, f)) Q := by
    refine awpl_block (awpl_one (is_inner n c i hn hb hi f fun j f' => ?_))
    show AWpL Try.prog isE [] (isIn n c i (j, f')) Q
    exact fun w0 X loc0 loc a w h => ⟨loc, _, hQ j f', h⟩
  generalize [Code.block 2 (.loop isD)] = B2 at go ⊢
  exact awpl_app (l2 := B2) (awpl_end (E := isE) isE_ok hl2 (weak_keep [0, 1, 2, 6, 7] (T.cut_eq ec (T.hret ⟨id, isIn n c i (i, f), is_same (by simp [isFr, SubFr, slotAt, ren, below]), go⟩))))

theorem is_round (n c i : Nat) (hn : n ≤ c) (hb : n ≤ 12) (hy : 1 ≤ i) (f : Nat → Int) {Q : Ex × St → Prop} (hX : ∀ i f, Q (.exit 0, isSt n c (i, f))) : AWp Try.prog isE isC (isSt n c (i, f)) (Round isE (isSt n c) (fun y => 1 ≤ y.1) (fun y => n - y.1) (fun _ => .asm false .fail) Q (i, f)) := by
  have eb := is_b n c i f
  have hb1 := is_b1
  have hl1 : ∀ x ∈ (chainOf isC).take 2, ∀ c' ∈ loopsIn x, LoopOK Try.prog isE c' := noLoopsL_ok (by kernel_rfl)
  have hl3 : ∀ x ∈ (chainOf isC).drop 3, ∀ c' ∈ loopsIn x, LoopOK Try.prog isE c' := noLoopsL_ok (by kernel_rfl)
  refine awp_chain ?_
  have go : i < n → AWpL Try.prog isE (.block 1 isB :: (chainOf isC).drop 3) (isSt n c (i, f)) (Round isE (isSt n c) (fun y => 1 ≤ y.1) (fun y => n - y.1) (fun _ => .asm false .fail) Q (i, f)) := fun hi => by
    generalize hD : (chainOf isC).drop 3 = D at hl3 ⊢
    refine awpl_block (is_mid n c i hn hb hi f rfl fun j f' => ?_)
    exact is_step n c i j hi hb f f' Q hD.symm hl3
  rw [← hb1] at go
  generalize chainOf isC = C at eb hl1 go ⊢
  refine awpl_cut (E := isE) isE_ok 2 hl1 (weak_keep [0, 1, 2, 6] (T.cut_eq eb (T.hiteP (fun hi => T.hret ⟨id, isSt n c (i, f), is_same (by simp [isFr, SubFr, slotAt, ren, below]), go (by omega)⟩) (fun hi => T.hret ⟨id, isSt n c (i, f), is_same (by simp [isFr, SubFr, slotAt, ren, below]), ?_⟩))))
  exact ⟨id, isSt n c (i, f), (is_same (by simp [isFr, SubFr, slotAt, ren, below])), hX i f⟩

theorem is_eff (n c : Nat) (f : Nat → Int) (hn : n ≤ c) (hb : n ≤ 12) : EffAt Try.prog 53 [.sl 0 0 1 0 n c, .int .i64 0, .int .i64 n] [some (i64B c f)] (.alf fun g => .ret (.tup [], [some (i64B c g)])) := by
  refine fn_okA (E := isE) (c := codeOf Try.f53) Try.func53 rfl rfl rfl (Nat.le_of_ble_eq_true (by kernel_rfl)) fun Q hq => ?_
  have ea := is_a n c f
  have hl0 : ∀ x ∈ (chainOf (codeOf Try.f53)).take 1, ∀ c' ∈ loopsIn x, LoopOK Try.prog isE c' := noLoopsL_ok (by kernel_rfl)
  rw [is_b0]
  generalize (chainOf (codeOf Try.f53)).take 1 = C0 at ea hl0 ⊢
  have fin : ∀ fr g, FnPost Try.prog Try.f53 1 Q (.norm, ⟨fr, [some (i64B c g)]⟩) := fun fr g => by
    unfold FnPost
    rw [is_res]
    exact ⟨id, .tup [], _, hq g, by simp [oneOf, ren, renL], by simp [below, belowL], Sub.of ⟨⟨_, rfl, i64_same⟩, trivial⟩ (fun _ _ _ _ h => h) (fun _ _ => rfl) (by simp)⟩
  have go : AWpL Try.prog isE [.block 0 (.loop isC)] (isSt n c (1, f)) (FnPost Try.prog Try.f53 1 Q) := by
    refine awpl_block (awpl_one (loop_free (isSt n c) (fun y => 1 ≤ y.1) (fun y => n - y.1) (fun y hy => is_round n c y.1 hn hb hy y.2 fun i g => ?_) (1, f) (Nat.le_refl _)))
    show AWpL Try.prog isE [] (isSt n c (i, g)) _
    exact fun w0 X loc0 loc a w h => ⟨loc, _, fin _ g, h⟩
  generalize [Code.block 0 (.loop isC)] = C1 at go ⊢
  exact awpl_app (l2 := C1) (awpl_end (E := isE) isE_ok hl0 (weak_keep [0, 1, 2, 6] (T.cut_eq ea (T.hret ⟨id, isSt n c (1, f), is_same (by simp [isFr, SubFr, slotAt, ren, below]), go⟩))))



set_option maxRecDepth 100000
set_option maxHeartbeats 4000000
set_option linter.unusedVariables false
set_option linter.unusedSimpArgs false

def lnS : List AV → T AV
  | [.int .u64 x] => .chk (decide (0 ≤ x ∧ x ≤ 12)) (.alf fun g => .ret (.int .i64 (g 0)))
  | _ => .fail

theorem ln_of {x : Int} {v : Int} {hh : List Nat} (e : (afn Try.prog lnE Try.f52 (codeOf Try.f52) [.int .u64 x] []).cut hh = .chk true (.chk true (.chk true (.chk true (.ret (.int .i64 v, [])))))) : EffAt Try.prog 52 [.int .u64 x] [] (.alf fun g => .ret (.int .i64 (g 0), [])) := by
  refine fn_ok (E := lnE) (c := codeOf Try.f52) Try.func52 rfl lnE_ok (noLoops (by kernel_rfl)) rfl rfl fun Q hq => T.cut_eq e ?_
  exact T.hchkT (T.hchkT (T.hchkT (T.hchkT (T.hret (leaf_of id (hq fun _ => v) (by simp [ren]) (by simp [below]) (Sub.nil _ _))))))

theorem ln_all (x : Int) (h : 0 ≤ x ∧ x ≤ 12) : EffAt Try.prog 52 [.int .u64 x] [] (.alf fun g => .ret (.int .i64 (g 0), [])) := by
  have : x = 0 ∨ x = 1 ∨ x = 2 ∨ x = 3 ∨ x = 4 ∨ x = 5 ∨ x = 6 ∨ x = 7 ∨ x = 8 ∨ x = 9 ∨ x = 10 ∨ x = 11 ∨ x = 12 := by omega
  rcases this with rfl | rfl | rfl | rfl | rfl | rfl | rfl | rfl | rfl | rfl | rfl | rfl | rfl
  · exact ln_of ln_0
  · exact ln_of ln_1
  · exact ln_of ln_2
  · exact ln_of ln_3
  · exact ln_of ln_4
  · exact ln_of ln_5
  · exact ln_of ln_6
  · exact ln_of ln_7
  · exact ln_of ln_8
  · exact ln_of ln_9
  · exact ln_of ln_10
  · exact ln_of ln_11
  · exact ln_of ln_12

theorem lnS_ok : SummOK Try.prog 52 (.pure fun args _ => lnS args) := by
  refine pure_ok (fun args w => Try.call52 args w) fun args Q hq => ?_
  unfold lnS at hq ⊢
  split at hq
  · rename_i x
    have h := of_decide_eq_true hq.1
    exact ⟨by simp [plainL, plain], ⟨decide_eq_true h, fun g => by simp [plain, T.holds]⟩, (ln_all x h).mono fun Q h => h.2⟩
  · exact hq.elim

def IsI64 (B : Blk) (c : Nat) : Prop := IntRow .i64 B ∧ B.rw = true ∧ B.n = c

theorem IsI64.ok {B : Blk} {c n : Nat} {ρ : Nat → Nat} (h : IsI64 B c) : BlkOK n ρ B (i64B c (intAt B)) := by
  obtain ⟨⟨h1, h2, h3, h4⟩, h5, h6⟩ := h
  subst h6
  refine ⟨fun _ => h5, (by rw [h1]; trivial), (by rw [h2]; rfl), rfl, fun j hj => ?_, (by rw [h3]; trivial), trivial⟩
  rw [h4 j hj]
  exact LAlike.ints rfl

theorem IsI64.rows {c : Nat} {f : Nat → Int} : IsI64 (Blk.mk true [] 1 c (fun j => [.int .i64 (f j)]) [] none) c := ⟨IntRow.rows, rfl, rfl⟩

noncomputable def isE0 : Env := { nt := Try.f53.ntmps, n0 := 0, vec := true, fns := openAll isF, loop := fun _ _ => .fail }

noncomputable def isE1 : Env := { isE0 with loop := fun k => if k = 1 then unrollN Try.prog isE0 isC 1 else fun _ => .fail }

theorem is_0 : T.cut (afn Try.prog isE1 Try.f53 (codeOf Try.f53) [.nils, .int .i64 0, .int .i64 0] []) [0] = 
  @T.chk (AV × AM) true (T.ret (AV.tup [], [])) := by
  kernel_rfl

theorem isE0_ok : EnvOK Try.prog isE0.fns := EnvOK.open_ (EnvOK.cons les_ok EnvOK.nil)

def isS : List AV → AM → T (AV × AM)
  | [.nils, .int .i64 0, .int .i64 0], m => .ret (.tup [], m)
  | [.sl b 0 1 0 n c, .int .i64 0, .int .i64 n'], m => T.opt (m.get b) fun B => .need (IsI64 B c ∧ n' = (n : Int)) (.chk (decide (n ≤ c ∧ n ≤ 12)) (lift [b] m [some (i64B c (intAt B))] (.alf fun g => .ret (.tup [], [some (i64B c g)]))))
  | _, _ => .fail

theorem is_eff0 : EffAt Try.prog 53 [.nils, .int .i64 0, .int .i64 0] [] (.ret (.tup [], [])) := by
  refine fn_ok (E := isE1) (c := codeOf Try.f53) Try.func53 rfl isE0_ok (oneLoop (by kernel_rfl) (unroll_ok (E := isE1) isE0_ok isE0 rfl rfl rfl 1 (fun c' _ st Q h => h.elim) (by kernel_rfl))) rfl rfl fun Q hq => T.cut_eq is_0 ?_
  exact T.hchkT (T.hret (leaf_of id hq (by simp [ren, renL]) (by simp [below, belowL]) (Sub.nil _ _)))

theorem lift_nil {P : Program} {f : FuncId} {args : List AV} (h : EffAt P f args [] (.ret (.tup [], []))) (m : AM) (hb : belowL 0 args) (hr : args = renL (Ox.out [] m.length) args) : EffAt P f args m (.ret (.tup [], m)) := by
  have := lift_ok (args := args) (m := m) h [] rfl (by simp) (Sub.nil _ _) hb hr
  simpa [lift, T.bind, ren, renL, putAll, news] using this

theorem isS_ok : SummOK Try.prog 53 (.eff isS) := by
  refine ⟨fun args w => Try.call53 args w, ?_⟩
  intro args m Q hq
  unfold isS at hq
  split at hq
  · exact lift_nil is_eff0 m (by simp [belowL, below]) (by simp [renL, ren]) Q hq
  · rename_i b n c n'
    obtain ⟨B, hB, hq⟩ := T.holds_opt hq
    obtain ⟨⟨k, rfl⟩, hd, hq⟩ := hq
    have hd := of_decide_eq_true hd
    refine lift_ok (is_eff n c (intAt B) hd.1 hd.2) [b] rfl (by simp [AM.get_lt hB]) (Sub.of ⟨⟨_, hB, k.ok⟩, trivial⟩ (fun x y hx hy _ => by simp at hx hy; omega) (fun x hx => absurd hx (Nat.not_lt_zero _)) (Nat.zero_le _)) (by simp [belowL, below]) (by simp [renL, ren, Ox.out]) Q hq
  · exact hq.elim

noncomputable def stB : List (Nat × Summ) := [(53, .eff isS), (52, .pure fun args _ => lnS args)]

theorem stB_ok : EnvOK Try.prog stB := EnvOK.cons isS_ok (EnvOK.cons lnS_ok EnvOK.nil)

noncomputable def stL : List (Nat × Func) := [(51, Try.f51)]

theorem stL_ok : InlOK Try.prog stL := ⟨⟨fun args w => Try.call51 args w, Try.func51, rfl, by kernel_rfl⟩, trivial⟩

noncomputable def stE (n0 : Nat) : Env := { nt := Try.f50.ntmps, n0 := n0, vec := true, fns := openAll (inl Try.prog stB stL), loop := fun _ _ => .fail }

theorem stE_ok (n0 : Nat) : EnvOK Try.prog (stE n0).fns := EnvOK.open_ (inl_ok stB_ok stL stL_ok)

theorem st_fn (n c : Nat) (f : Nat → Int) : T.cut (afn Try.prog (stE 1) Try.f50 (codeOf Try.f50) [.sl 0 0 1 0 n c] [some (i64B c f)]) [2, 0, 2, 0] = 
  T.chk (decide ((0 : Int) ≤ IntKind.wrap IntKind.u64 (↑n : Int) ∧ IntKind.wrap IntKind.u64 (↑n : Int) ≤ (12 : Int)))
    (T.alf fun c_1 =>
      T.ite (decide (IntKind.wrap IntKind.i64 ((↑n : Int) - (0 : Int)) ≤ (12 : Int))) (T.need (IsI64 (Blk.mk true [] (1 : Nat) c (fun j => [AV.int IntKind.i64 (f j)]) [] none) c ∧ (↑n : Int) = (↑n : Int)) (T.chk (decide (n ≤ c ∧ n ≤ (12 : Nat))) (T.alf fun c_2 => T.ret (AV.tup [], [some (Blk.mk true [] (1 : Nat) c (fun j => [AV.int IntKind.i64 (c_2 j)]) [] none)]))))
        (T.ite (c_1 (0 : Nat) == (0 : Int)) T.fail T.fail)) := by
  kernel_rfl

theorem st_fn0 : T.cut (afn Try.prog (stE 0) Try.f50 (codeOf Try.f50) [.nils] []) [1] = 
  T.chk true (T.alf fun c => @T.chk (AV × AM) true (T.ret (AV.tup [], []))) := by
  kernel_rfl

theorem wrap_u64 {n : Nat} (h : n ≤ 12) : IntKind.wrap IntKind.u64 (n : Int) = n := by rw [IntKind.wrap_u64]; omega

theorem st_eff (n c : Nat) (f : Nat → Int) (hn : n ≤ c) (hb : n ≤ 12) : EffAt Try.prog 50 [.sl 0 0 1 0 n c] [some (i64B c f)] (.alf fun g => .ret (.tup [], [some (i64B c g)])) := by
  refine fn_ok (E := stE 1) (c := codeOf Try.f50) Try.func50 rfl (stE_ok 1) (noLoops (by kernel_rfl)) rfl rfl fun Q hq => T.cut_eq (st_fn n c f) ?_
  rw [wrap_u64 hb]
  refine T.hchk (decide_eq_true (by omega)) (T.half fun g => T.hiteP (fun h => ?_) (fun h => ?_))
  · refine T.hneed ⟨IsI64.rows, rfl⟩ (T.hchk (decide_eq_true ⟨hn, hb⟩) (T.half fun g => T.hret (leaf_of id (hq g) (by simp [ren, renL]) (by simp [below, belowL]) (Sub.of ⟨⟨_, rfl, i64_same⟩, trivial⟩ (fun _ _ _ _ h => h) (fun _ _ => rfl) (by simp)))))
  · exfalso
    rw [IntWalk.i64_in _ (by omega)] at h
    omega

theorem st_eff0 : EffAt Try.prog 50 [.nils] [] (.ret (.tup [], [])) := by
  refine fn_ok (E := stE 0) (c := codeOf Try.f50) Try.func50 rfl (stE_ok 0) (noLoops (by kernel_rfl)) rfl rfl fun Q hq => T.cut_eq st_fn0 ?_
  exact T.hchkT (T.half fun g => T.hchkT (T.hret (leaf_of id hq (by simp [ren, renL]) (by simp [below, belowL]) (Sub.nil _ _))))

def stS : List AV → AM → T (AV × AM)
  | [.sl b 0 1 0 n c], m => T.opt (m.get b) fun B => .need (IsI64 B c) (.chk (decide (n ≤ c ∧ n ≤ 12)) (lift [b] m [some (i64B c (intAt B))] (.alf fun g => .ret (.tup [], [some (i64B c g)]))))
  | [.nils], m => .ret (.tup [], m)
  | _, _ => .fail

theorem stS_ok : SummOK Try.prog 50 (.eff stS) := by
  refine ⟨fun args w => Try.call50 args w, ?_⟩
  intro args m Q hq
  unfold stS at hq
  split at hq
  · rename_i b n c
    obtain ⟨B, hB, hq⟩ := T.holds_opt hq
    obtain ⟨k, hd, hq⟩ := hq
    have hd := of_decide_eq_true hd
    refine lift_ok (st_eff n c (intAt B) hd.1 hd.2) [b] rfl (by simp [AM.get_lt hB]) (Sub.of ⟨⟨_, hB, k.ok⟩, trivial⟩ (fun x y hx hy _ => by simp at hx hy; omega) (fun x hx => absurd hx (Nat.not_lt_zero _)) (Nat.zero_le _)) (by simp [belowL, below]) (by simp [renL, ren, Ox.out]) Q hq
  · exact lift_nil st_eff0 m (by simp [belowL, below]) (by simp [renL, ren]) Q hq
  · exact hq.elim

end Go.Proofs.Ytnfngaapjodpcaa
