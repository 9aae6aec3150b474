/-
  Layer 20: Users: its contract.
-/
import Derived.Test.YtnfngaapjodpcaaHG
namespace Go.Proofs.Ytnfngaapjodpcaa
open Go.Ox

set_option maxRecDepth 100000
set_option maxHeartbeats 4000000
set_option linter.unusedVariables false
set_option linter.unusedSimpArgs false

theorem spM_sub {n : Nat} (x : FD) (o : OC) (cap : Nat) {l : AM} (hn : n ≤ 2) : Sub n id (spM x o cap ++ l) (spM x o cap) :=
  Sub.of ⟨⟨_, rfl, x.ok⟩, ⟨_, rfl, ops_ok rfl (Nat.succ_pos _)⟩, trivial⟩ (fun _ _ _ _ h => h) (fun _ _ => rfl) (by simpa [spM] using hn)

theorem usE_ok (x : FD) (o : OC) (G : Int) (len cap : Nat) (h : spOK x len cap) : EnvOK Try.prog (usE x o G len cap).fns := EnvOK.open_ (EnvOK.cons (whS_ok x o G len cap h) EnvOK.nil)

theorem us_eff (x : FD) (o : OC) (G : Int) (len cap : Nat) (op : Int) (h : spOK x len cap) :
    EffAt Try.prog 18 [spA G len cap, .int .i64 op] (spM x o cap) (usT x o len cap op) := by
  refine fn_ok (E := usE x o G len cap) (c := codeOf Try.f18) Try.func18 rfl (usE_ok x o G len cap h) (noLoops (by kernel_rfl)) rfl rfl fun Q hq => T.cut_eq (us_fn x o G len cap op) ?_
  obtain ⟨q1, q2⟩ := hq
  have nil : (usL x len op).length = 0 → ∀ l, Leaf 2 Q (.nils, spM x o cap ++ l) := fun e l => ⟨id, .nils, _, q1 (decide_eq_true e), by simp [Ox.Alike, oneOf, conc, ren], by simp [below], spM_sub x o cap (Nat.le_refl _)⟩
  refine T.hiteP (fun h1 => T.hret (nil (by unfold usL; rw [if_neg (by omega)]; rfl) _)) (fun h1 => T.hiteP (fun h2 => T.hret (nil (by unfold usL; rw [if_neg (by omega)]; rfl) _)) (fun h2 => ?_))
  have eL : usL x len op = usTo x op len := by unfold usL; rw [if_pos (by omega)]
  have eG : usG x len op = usF x op len := by unfold usG usF; rw [eL]
  rw [eL, eG] at q2
  refine T.hneed ⟨rfl, rfl, rfl⟩ (T.hneed ⟨rfl, rfl⟩ (T.hneed ⟨rfl, rfl, rfl⟩ (T.hiteP (fun h3 => T.hret (nil (by rw [eL]; exact h3) _)) (fun h3 => T.hall fun c => T.hasmP fun h4 => T.hret ?_))))
  have q := q2 (decide_eq_false h3) c (decide_eq_true h4)
  exact ⟨rhoL [0, 1, 4], .sl 2 0 1 0 (usTo x op len).length c, _, q, by simp [Ox.Alike, conc, ren, rhoL], by simp [below, spM], subL [0, 1, 4] rfl rfl rfl (Nat.le_of_ble_eq_true rfl) ⟨⟨_, rfl, x.ok⟩, ⟨_, rfl, ops_ok rfl (Nat.succ_pos _)⟩, ⟨_, rfl, ap_refl⟩, trivial⟩⟩

theorem usS_ok (x : FD) (o : OC) (G : Int) (len cap : Nat) (h : spOK x len cap) : SummOK Try.prog 18 (.eff (usS x o G len cap)) := by
  refine ⟨fun args w => Try.call18 args w, ?_⟩
  intro args m Q hq
  unfold usS at hq
  split at hq
  · rename_i G' len' cap' op
    obtain ⟨⟨rfl, rfl, rfl⟩, ⟨m0, m1⟩, hq⟩ := hq
    have hsub : SubBlks 2 (Ox.out [0, 1] m.length) m 0 (spM x o cap') := ⟨⟨_, m0, x.ok⟩, ⟨_, m1, ops_ok rfl (Nat.succ_pos _)⟩, trivial⟩
    refine lift_ok (us_eff x o G' len' cap' op h) [0, 1] rfl (by simp [AM.get_lt m0, AM.get_lt m1]) (Sub.ro hsub (spIn_ro (l := []) (fun _ _ h => by cases h))) (by simp [belowL, below, spA, spM, AV.scalar]) (by simp [renL, ren, spA, Ox.out]) Q hq
  · exact hq.elim

theorem us_le (x : FD) (len : Nat) (op : Int) : (usL x len op).length ≤ len := by
  unfold usL; split
  · exact us_len x op len
  · exact Nat.zero_le _



set_option maxRecDepth 100000
set_option maxHeartbeats 4000000
set_option linter.unusedVariables false
set_option linter.unusedSimpArgs false

def booB (rw : Bool) (n : Nat) (p : Nat → Bool) : Blk := Blk.rows rw 1 n fun j => [.bool (p j)]

def alM (n : Nat) (f : Nat → Int) (k : Nat) (p : Nat → Bool) : AM := [some (Blk.rows false 1 n fun j => [.int .i64 (f j)]), some (booB false k p)]

structure AX where
  i : Nat

def alSt (n : Nat) (f : Nat → Int) (k : Nat) (p : Nat → Bool) (j len cap kl kc : Nat) (y : Nat) : St := ⟨[(1, .sl 1 0 1 0 kl kc), (7, .sl 0 0 1 j len cap), (8, .int .i64 len), (9, .int .i64 y)], alM n f k p⟩

noncomputable def alE (n0 : Nat) : Env := { nt := Try.f47.ntmps, n0 := n0, vec := true, fns := [], loop := fun _ _ => .fail }

noncomputable def alC : Code := loopAt (codeOf Try.f47) 0

noncomputable def alE1 : Env := { alE 1 with loop := fun k => if k = 2 then unrollN Try.prog (alE 1) alC 1 else fun _ => .fail }

theorem al_a (n : Nat) (f : Nat → Int) (k : Nat) (p : Nat → Bool) (j len cap kl kc : Nat) : T.cut (keepT [1, 7, 8, 9] (acodeL Try.prog (alE 2) ((chainOf (codeOf Try.f47)).take 2) ⟨[(0, .sl 0 0 1 j len cap), (1, .sl 1 0 1 0 kl kc)], alM n f k p⟩)) [] = 
  T.ret (Ex.norm, St.mk [((1 : Nat), AV.sl (1 : Nat) (0 : Nat) (1 : Nat) (0 : Nat) kl kc), ((7 : Nat), AV.sl (0 : Nat) (0 : Nat) (1 : Nat) j len cap), ((8 : Nat), AV.int IntKind.i64 (↑len : Int)), ((9 : Nat), AV.int IntKind.i64 (0 : Int))] [some (Blk.mk false [] (1 : Nat) n (fun j => [AV.int IntKind.i64 (f j)]) [] none), some (Blk.mk false [] (1 : Nat) k (fun j => [AV.bool (p j)]) [] none)]) := by
  kernel_rfl

theorem al_t (n : Nat) (f : Nat → Int) (k : Nat) (p : Nat → Bool) (j len cap kl kc : Nat) (y : Nat) : T.cut (keepT [1, 4, 7, 8, 9] (acode Try.prog (alE 2) alC (alSt n f k p j len cap kl kc y))) [2, 6, 2, 0, 2, 0, 2, 0] = 
  T.ite (decide ((↑y : Int) < (↑len : Int)))
    (T.chk (decide ((0 : Int) ≤ (↑y : Int)) && decide ((↑y : Int) < (↑len : Int)))
      (T.chk (decide (j + Int.toNat (↑y : Int) < n))
        (T.ite (decide (f (j + Int.toNat (↑y : Int)) < (0 : Int)))
          (T.ret
            (Ex.ret,
              St.mk [((1 : Nat), AV.sl (1 : Nat) (0 : Nat) (1 : Nat) (0 : Nat) kl kc), ((4 : Nat), AV.ff), ((7 : Nat), AV.sl (0 : Nat) (0 : Nat) (1 : Nat) j len cap), ((8 : Nat), AV.int IntKind.i64 (↑len : Int)), ((9 : Nat), AV.int IntKind.i64 (↑y : Int))]
                [some (Blk.mk false [] (1 : Nat) n (fun j => [AV.int IntKind.i64 (f j)]) [] none), some (Blk.mk false [] (1 : Nat) k (fun j => [AV.bool (p j)]) [] none)]))
          (T.ite (decide (f (j + Int.toNat (↑y : Int)) ≥ (↑kl : Int)))
            (T.ret
              (Ex.ret,
                St.mk [((1 : Nat), AV.sl (1 : Nat) (0 : Nat) (1 : Nat) (0 : Nat) kl kc), ((4 : Nat), AV.ff), ((7 : Nat), AV.sl (0 : Nat) (0 : Nat) (1 : Nat) j len cap), ((8 : Nat), AV.int IntKind.i64 (↑len : Int)), ((9 : Nat), AV.int IntKind.i64 (↑y : Int))]
                  [some (Blk.mk false [] (1 : Nat) n (fun j => [AV.int IntKind.i64 (f j)]) [] none), some (Blk.mk false [] (1 : Nat) k (fun j => [AV.bool (p j)]) [] none)]))
            (T.chk (decide ((0 : Int) ≤ f (j + Int.toNat (↑y : Int))) && decide (f (j + Int.toNat (↑y : Int)) < (↑kl : Int)))
              (T.chk (decide ((0 : Nat) + Int.toNat (f (j + Int.toNat (↑y : Int))) < k))
                (T.ite (!p ((0 : Nat) + Int.toNat (f (j + Int.toNat (↑y : Int)))))
                  (T.ret
                    (Ex.ret,
                      St.mk [((1 : Nat), AV.sl (1 : Nat) (0 : Nat) (1 : Nat) (0 : Nat) kl kc), ((4 : Nat), AV.ff), ((7 : Nat), AV.sl (0 : Nat) (0 : Nat) (1 : Nat) j len cap), ((8 : Nat), AV.int IntKind.i64 (↑len : Int)), ((9 : Nat), AV.int IntKind.i64 (↑y : Int))]
                        [some (Blk.mk false [] (1 : Nat) n (fun j => [AV.int IntKind.i64 (f j)]) [] none), some (Blk.mk false [] (1 : Nat) k (fun j => [AV.bool (p j)]) [] none)]))
                  (T.ret
                    (Ex.norm,
                      St.mk [((1 : Nat), AV.sl (1 : Nat) (0 : Nat) (1 : Nat) (0 : Nat) kl kc), ((7 : Nat), AV.sl (0 : Nat) (0 : Nat) (1 : Nat) j len cap), ((8 : Nat), AV.int IntKind.i64 (↑len : Int)), ((9 : Nat), AV.int IntKind.i64 (IntKind.wrap IntKind.i64 ((↑y : Int) + (1 : Int))))]
                        [some (Blk.mk false [] (1 : Nat) n (fun j => [AV.int IntKind.i64 (f j)]) [] none), some (Blk.mk false [] (1 : Nat) k (fun j => [AV.bool (p j)]) [] none)])))))))))
    (T.ret
      (Ex.exit (0 : Nat),
        St.mk [((1 : Nat), AV.sl (1 : Nat) (0 : Nat) (1 : Nat) (0 : Nat) kl kc), ((7 : Nat), AV.sl (0 : Nat) (0 : Nat) (1 : Nat) j len cap), ((8 : Nat), AV.int IntKind.i64 (↑len : Int)), ((9 : Nat), AV.int IntKind.i64 (↑y : Int))] [some (Blk.mk false [] (1 : Nat) n (fun j => [AV.int IntKind.i64 (f j)]) [] none), some (Blk.mk false [] (1 : Nat) k (fun j => [AV.bool (p j)]) [] none)])) := by
  kernel_rfl

theorem al_z (n : Nat) (f : Nat → Int) (k : Nat) (p : Nat → Bool) (j len cap kl kc : Nat) (y : Nat) : T.cut (keepT [4] (acodeL Try.prog (alE 2) ((chainOf (codeOf Try.f47)).drop 3) (alSt n f k p j len cap kl kc y))) [] = 
  T.ret (Ex.ret, St.mk [((4 : Nat), AV.tt)] [some (Blk.mk false [] (1 : Nat) n (fun j => [AV.int IntKind.i64 (f j)]) [] none), some (Blk.mk false [] (1 : Nat) k (fun j => [AV.bool (p j)]) [] none)]) := by
  kernel_rfl

theorem al_0 (a : Option Addr) (k : Nat) (p : Nat → Bool) (kl kc : Nat) : T.cut (afn Try.prog alE1 Try.f47 (codeOf Try.f47) [.esl a, .sl 0 0 1 0 kl kc] [some (booB false k p)]) [0] = 
  @T.chk (AV × AM) true (T.ret (AV.tt, [some (Blk.mk false [] (1 : Nat) k (fun j => [AV.bool (p j)]) [] none)])) := by
  kernel_rfl

theorem al_bl : (chainOf (codeOf Try.f47)).drop 2 = .block 0 (.loop alC) :: (chainOf (codeOf Try.f47)).drop 3 := by
  kernel_rfl

theorem al_res : Try.f47.results.toList = [.tmp 4] := by
  kernel_rfl



set_option maxRecDepth 100000
set_option maxHeartbeats 4000000
set_option linter.unusedVariables false
set_option linter.unusedSimpArgs false

theorem boo_ok {n k : Nat} {ρ : Nat → Nat} {r r' : Bool} {p : Nat → Bool} (h : r' = true → r = true) : BlkOK n ρ (booB r k p) (booB r' k p) := BlkOK.rows' h fun j _ => by simp [LAlike, ren, below, AV.scalar]

theorem al_sub {n0 : Nat} (n : Nat) (f : Nat → Int) (k : Nat) (p : Nat → Bool) (h : n0 ≤ 2) : Sub n0 id (alM n f k p) (alM n f k p) :=
  Sub.of ⟨⟨_, rfl, BlkOK.rows' (fun h => h) fun j _ => LAlike.ints rfl⟩, ⟨_, rfl, boo_ok fun h => h⟩, trivial⟩ (fun _ _ _ _ h => h) (fun _ _ => rfl) (by simpa [alM] using h)

theorem al_eff (n : Nat) (f : Nat → Int) (k : Nat) (p : Nat → Bool) (j len cap kl kc : Nat) (h1 : j + len ≤ n) (h2 : len ≤ 9223372036854775807) (h3 : kl ≤ k) :
    EffAt Try.prog 47 [.sl 0 0 1 j len cap, .sl 1 0 1 0 kl kc] (alM n f k p) (.all fun r => .ret (.bool (decide (r = 0)), alM n f k p)) := by
  refine fn_okA (E := alE 2) (c := codeOf Try.f47) Try.func47 rfl rfl rfl (Nat.le_of_ble_eq_true (by kernel_rfl)) fun Q hq => ?_
  have ea := al_a n f k p j len cap kl kc
  have z := al_z n f k p j len cap kl kc
  have hb' := al_bl
  have hl2 : ∀ c ∈ (chainOf (codeOf Try.f47)).take 2, ∀ c' ∈ loopsIn c, LoopOK Try.prog (alE 2) c' := noLoopsL_ok (by kernel_rfl)
  have hl3 : ∀ c ∈ (chainOf (codeOf Try.f47)).drop 3, ∀ c' ∈ loopsIn c, LoopOK Try.prog (alE 2) c' := noLoopsL_ok (by kernel_rfl)
  generalize (chainOf (codeOf Try.f47)).drop 3 = D at z hb' hl3
  generalize chainOf (codeOf Try.f47) = C at ea hb' hl2 ⊢
  have ok : EnvOK Try.prog (alE 2).fns := EnvOK.nil
  refine awpl_cut (E := alE 2) ok 2 hl2 (weak_keep [1, 7, 8, 9] (T.cut_eq ea ?_))
  rw [hb']
  have sub : ∀ (y : Nat) {fr : List (Nat × AV)}, SubFr 2 id fr (alSt n f k p j len cap kl kc y).fr → SubSt 2 id ⟨fr, alM n f k p⟩ (alSt n f k p j len cap kl kc y) := fun y fr hf => SubSt.mk hf (al_sub n f k p (Nat.le_refl _))
  refine T.hret ⟨id, alSt n f k p j len cap kl kc 0, sub 0 (by simp [alSt, SubFr, slotAt, ren, below]), ?_⟩
  have ret : ∀ (v : AV) (r : Nat) (fr : List (Nat × AV)), Ox.Alike v (.bool (decide (r = 0))) → slotAt fr 4 = some v → FnPost Try.prog Try.f47 2 Q (.ret, ⟨fr, alM n f k p⟩) := fun v r fr hv hs => by
    unfold FnPost
    rw [al_res]
    simp only [aresults, hs]
    exact ⟨id, .bool (decide (r = 0)), _, hq r, by simpa [ren, oneOf] using hv, by simp [below], al_sub n f k p (Nat.le_refl _)⟩
  have fin : ∀ y, AWpL Try.prog (alE 2) D (alSt n f k p j len cap kl kc y) (FnPost Try.prog Try.f47 2 Q) := fun y =>
    awpl_end (E := alE 2) ok hl3 (weak_keep [4] (T.cut_eq (z y) (T.hret ⟨id, ⟨[(4, .tt)], alM n f k p⟩, SubSt.mk (by simp [SubFr, slotAt, ren, below]) (al_sub n f k p (Nat.le_refl _)), ret .tt 0 _ (by simp) rfl⟩)))
  refine awpl_block (awpl_one (loop_free (alSt n f k p j len cap kl kc) (fun y => y ≤ len) (fun y => len - y) (fun y hy => ?_) 0 (Nat.zero_le _)))
  refine code_sound ok _ (noLoops (by kernel_rfl)) _ _ (round_keep [1, 4, 7, 8, 9] (T.cut_eq (al_t n f k p j len cap kl kc y) ?_))
  refine T.hiteP (fun hi => ?_) (fun hi => T.hret (Round.out id _ (sub y (by simp [alSt, SubFr, slotAt, ren, below])) (fin y)))
  have bad : ∀ {Q' : Ex × St → Prop}, FnPost Try.prog Try.f47 2 Q (.ret, ⟨[(4, .ff)], alM n f k p⟩) := ret .ff 1 _ (by simp) rfl
  refine T.hchk (by simp only [Bool.and_eq_true, decide_eq_true_eq]; omega) (T.hchk (decide_eq_true (by omega)) (T.hiteP (fun h4 => T.hret ?_) (fun h4 => T.hiteP (fun h5 => T.hret ?_) (fun h5 => T.hchk (by simp only [Bool.and_eq_true, decide_eq_true_eq]; omega) (T.hchk (decide_eq_true (by omega)) (T.hite (fun h6 => T.hret ?_) (fun h6 => T.hret ?_)))))))
  · exact Round.back id ⟨[(4, .ff)], alM n f k p⟩ (SubSt.mk (by simp [SubFr, slotAt, ren, below]) (al_sub n f k p (Nat.le_refl _))) (bad (Q' := fun _ => True))
  · exact Round.back id ⟨[(4, .ff)], alM n f k p⟩ (SubSt.mk (by simp [SubFr, slotAt, ren, below]) (al_sub n f k p (Nat.le_refl _))) (bad (Q' := fun _ => True))
  · exact Round.back id ⟨[(4, .ff)], alM n f k p⟩ (SubSt.mk (by simp [SubFr, slotAt, ren, below]) (al_sub n f k p (Nat.le_refl _))) (bad (Q' := fun _ => True))
  · have hw : IntKind.wrap IntKind.i64 ((y : Int) + 1) = ((y + 1 : Nat) : Int) := by rw [IntWalk.i64_in _ (by omega)]; omega
    exact Round.go (y + 1) id (by omega) (by omega) (sub (y + 1) (by simp [alSt, SubFr, slotAt, ren, below, hw])) any_ff

theorem al_eff0 (a : Option Addr) (k : Nat) (p : Nat → Bool) (kl kc : Nat) : EffAt Try.prog 47 [.esl a, .sl 0 0 1 0 kl kc] [some (booB false k p)] (.all fun r => .ret (.bool (decide (r = 0)), [some (booB false k p)])) := by
  refine fn_ok (E := alE1) (c := codeOf Try.f47) Try.func47 rfl EnvOK.nil (oneLoop (by kernel_rfl) (unroll_ok EnvOK.nil (alE 1) rfl rfl rfl 1 (noLoops (by kernel_rfl)) (by kernel_rfl))) rfl rfl fun Q hq => T.cut_eq (al_0 a k p kl kc) ?_
  exact T.hchkT (T.hret ⟨id, .bool true, _, hq 0, by simp [ren], by simp [below], Sub.of ⟨⟨_, rfl, boo_ok fun h => h⟩, trivial⟩ (fun _ _ _ _ h => h) (fun _ _ => rfl) (by simp)⟩)

/-- Rows of truths. -/
def BoolRow (b : Blk) : Prop := b.pre = [] ∧ b.s = 1 ∧ b.post = [] ∧ ∀ j, j < b.n → ∃ v : Bool, ∀ n ρ, LAlike n ρ (b.f j) [.bool v]

noncomputable def booAt (b : Blk) (j : Nat) : Bool := @dite _ (∃ v : Bool, ∀ n ρ, LAlike n ρ (b.f j) [.bool v]) (Classical.propDecidable _) (fun h => Classical.choose h) fun _ => false

theorem BoolRow.view {b : Blk} (h : BoolRow b) (n : Nat) (ρ : Nat → Nat) : BlkOK n ρ b (booB false b.n (booAt b)) := by
  obtain ⟨h1, h2, h3, h4⟩ := h
  refine ⟨fun h => (by cases h), (by rw [h1]; trivial), (by rw [h2]; rfl), rfl, fun j hj => ?_, (by rw [h3]; trivial), trivial⟩
  have h := h4 j hj
  show LAlike n ρ (b.f j) [.bool (booAt b j)]
  unfold booAt
  rw [dif_pos h]
  exact Classical.choose_spec h n ρ

theorem BoolRow.rows {r : Bool} {n : Nat} {p : Nat → Bool} : BoolRow ⟨r, [], 1, n, fun j => [.bool (p j)], [], none⟩ := ⟨rfl, rfl, rfl, fun j _ => ⟨p j, fun n ρ => by simp [LAlike, ren, below, AV.scalar]⟩⟩

def alS (args : List AV) (m : AM) : T AV :=
  match args.map nrm with
  | [a, .sl id 0 1 0 len _] => T.opt (intsArg .i64 m a) fun p => T.opt (m.get id) fun b => .need p.need (.need (BoolRow b) (.chk p.chk (.chk (decide (p.len ≤ 9223372036854775807)) (.chk (decide (len ≤ b.n)) (.all fun r => .ret (.bool (decide (r = 0))))))))
  | _ => .fail

def alS' (args : List AV) (m : AM) : T AV :=
  match args with
  | [a, .sl id 0 1 0 len _] => T.opt (intsArg .i64 m a) fun p => T.opt (m.get id) fun b => .need p.need (.need (BoolRow b) (.chk p.chk (.chk (decide (p.len ≤ 9223372036854775807)) (.chk (decide (len ≤ b.n)) (.all fun r => .ret (.bool (decide (r = 0))))))))
  | _ => .fail

theorem alS'_ok : SummOK Try.prog 47 (.pure alS') := by
  refine ro_ok (fun args w => Try.call47 args w) ?_
  intro args m Q hq
  unfold alS' at hq ⊢
  split at hq
  · rename_i a id len cc
    obtain ⟨p, hp, hq⟩ := T.holds_opt hq
    obtain ⟨b, hb, hq⟩ := T.holds_opt hq
    obtain ⟨k1, k2, k3, k4, k5, hq⟩ := hq
    rw [hp, hb]
    refine ⟨⟨k1, k2, k3, k4, k5, fun r => by simp [plain, T.holds]⟩, ?_⟩
    rcases intsArg_some hp with ⟨a, rfl, rfl⟩ | ⟨id1, j1, l1, c1, b1, rfl, hb1, rfl⟩
    · exact ⟨⟨[id], [.esl a, .sl 0 0 1 0 len cc], [some (booB false b.n (booAt b))], rfl, by simp [AM.get_lt hb], ⟨⟨_, hb, k2.view _ _⟩, trivial⟩, roOne rfl, by simp [belowL, below], by simp [renL, ren, out], (al_eff0 a b.n (booAt b) len cc).mono fun Q h => h.2.2.2.2.2⟩⟩
    · exact ⟨⟨[id1, id], [.sl 0 0 1 j1 l1 c1, .sl 1 0 1 0 len cc], [some (intView .i64 b1), some (booB false b.n (booAt b))], rfl, by simp [AM.get_lt hb1, AM.get_lt hb], ⟨⟨_, hb1, IntRow.view k1 _ _⟩, ⟨_, hb, k2.view _ _⟩, trivial⟩, roTwo rfl rfl, by simp [belowL, below], by simp [renL, ren, out], (al_eff b1.n (intAt b1) b.n (booAt b) j1 l1 c1 len cc (by simpa using k3) (by simpa using k4) (by simpa using k5)).mono fun Q h => h.2.2.2.2.2⟩⟩
  · exact hq.elim

theorem alS_ok : SummOK Try.prog 47 (.pure alS) := pure_nrm alS'_ok

end Go.Proofs.Ytnfngaapjodpcaa
