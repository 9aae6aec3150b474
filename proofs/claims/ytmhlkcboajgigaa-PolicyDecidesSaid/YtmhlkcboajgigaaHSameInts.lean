/-
  SameInts: what it tells of two slices of numbers.
-/
import Derived.Test.YtmhlkcboajgigaaProg
import Derived.Test.YtmhlkcboajgigaaHOxP
namespace Go.Proofs.Ytmhlkcboajgigaa
open Go.Ox
set_option maxRecDepth 100000
set_option linter.unusedVariables false
set_option linter.unusedSimpArgs false

structure SI where
  n1 : Nat
  f1 : Nat → Int
  n2 : Nat
  f2 : Nat → Int
  j1 : Nat
  j2 : Nat
  len : Nat
  c1 : Nat
  c2 : Nat
  i : Nat

def siMem (n1 : Nat) (f1 : Nat → Int) (n2 : Nat) (f2 : Nat → Int) : AM :=
  [some (Blk.rows false 1 n1 fun j => [.int .i64 (f1 j)]), some (Blk.rows false 1 n2 fun j => [.int .i64 (f2 j)])]
def siSt (x : SI) : St :=
  ⟨[(0, .sl 0 0 1 x.j1 x.len x.c1), (1, .sl 1 0 1 x.j2 x.len x.c2), (5, .int .i64 x.i)], siMem x.n1 x.f1 x.n2 x.f2⟩
def siInv (x : SI) : Prop := x.j1 + x.len ≤ x.n1 ∧ x.j2 + x.len ≤ x.n2 ∧ x.len ≤ 4611686018427387904 ∧ x.i ≤ x.len
def siPick (st : St) : Option SI :=
  match slotAt st.fr 0, slotAt st.fr 1, AM.get st.m 0, AM.get st.m 1 with
  | some (.sl _ _ _ j1 len c1), some (.sl _ _ _ j2 _ c2), some b1, some b2 => some ⟨b1.n, intAt b1, b2.n, intAt b2, j1, j2, len, c1, c2, 0⟩
  | _, _, _, _ => none
def siEnd (x : SI) : T (Ex × St) :=
  .ite (eqN (fun d => x.f1 (x.j1 + d)) (fun d => x.f2 (x.j2 + d)) x.i (x.len - x.i)) (.ret (.exit 0, ⟨[], siMem x.n1 x.f1 x.n2 x.f2⟩)) (.ret (.ret, ⟨[(4, .ff)], siMem x.n1 x.f1 x.n2 x.f2⟩))
noncomputable def siE : Env := { nt := 26, n0 := 2, fns := [], loop := fun k => if k = 4 then loopSumm 2 siSt siInv siPick siEnd else fun _ => .fail }
noncomputable def siE0 (n : Nat) : Env := { nt := 26, n0 := n, fns := [], loop := fun _ _ => .fail }
noncomputable def siE1 (n : Nat) : Env := { nt := 26, n0 := n, fns := [], loop := fun k => if k = 4 then unrollN Try.prog (siE0 n) (loopAt (codeOf Try.f16) 0) 1 else fun _ => .fail }

theorem si_tree (n1 : Nat) (f1 : Nat → Int) (n2 : Nat) (f2 : Nat → Int) (j1 j2 len c1 c2 i : Nat) : keepT [0, 1, 4, 5] (acode Try.prog siE (loopAt (codeOf Try.f16) 0) (siSt ⟨n1, f1, n2, f2, j1, j2, len, c1, c2, i⟩)) = 
  T.ite (decide ((↑i : Int) < (↑len : Int)))
    (T.chk (decide ((0 : Int) ≤ (↑i : Int)) && decide ((↑i : Int) < (↑len : Int)))
      (T.chk (decide (j1 + Int.toNat (↑i : Int) < n1))
        (T.chk (decide ((0 : Int) ≤ (↑i : Int)) && decide ((↑i : Int) < (↑len : Int)))
          (T.chk (decide (j2 + Int.toNat (↑i : Int) < n2))
            (T.ite (f1 (j1 + Int.toNat (↑i : Int)) != f2 (j2 + Int.toNat (↑i : Int)))
              (T.ret (Ex.ret, St.mk [((0 : Nat), AV.sl (0 : Nat) (0 : Nat) (1 : Nat) j1 len c1), ((1 : Nat), AV.sl (1 : Nat) (0 : Nat) (1 : Nat) j2 len c2), ((4 : Nat), AV.ff), ((5 : Nat), AV.int IntKind.i64 (↑i : Int))] [some (Blk.mk false [] (1 : Nat) n1 (fun j => [AV.int IntKind.i64 (f1 j)]) [] none), some (Blk.mk false [] (1 : Nat) n2 (fun j => [AV.int IntKind.i64 (f2 j)]) [] none)]))
              (T.ret
                (Ex.norm,
                  St.mk [((0 : Nat), AV.sl (0 : Nat) (0 : Nat) (1 : Nat) j1 len c1), ((1 : Nat), AV.sl (1 : Nat) (0 : Nat) (1 : Nat) j2 len c2), ((5 : Nat), AV.int IntKind.i64 (IntKind.wrap IntKind.i64 ((↑i : Int) + (1 : Int))))]
                    [some (Blk.mk false [] (1 : Nat) n1 (fun j => [AV.int IntKind.i64 (f1 j)]) [] none), some (Blk.mk false [] (1 : Nat) n2 (fun j => [AV.int IntKind.i64 (f2 j)]) [] none)])))))))
    (T.ret (Ex.exit (0 : Nat), St.mk [((0 : Nat), AV.sl (0 : Nat) (0 : Nat) (1 : Nat) j1 len c1), ((1 : Nat), AV.sl (1 : Nat) (0 : Nat) (1 : Nat) j2 len c2), ((5 : Nat), AV.int IntKind.i64 (↑i : Int))] [some (Blk.mk false [] (1 : Nat) n1 (fun j => [AV.int IntKind.i64 (f1 j)]) [] none), some (Blk.mk false [] (1 : Nat) n2 (fun j => [AV.int IntKind.i64 (f2 j)]) [] none)])) := by
  kernel_rfl

theorem si_fn2 (n1 : Nat) (f1 : Nat → Int) (n2 : Nat) (f2 : Nat → Int) (j1 j2 l1 l2 c1 c2 : Nat) : afn Try.prog siE Try.f16 (codeOf Try.f16) [.sl 0 0 1 j1 l1 c1, .sl 1 0 1 j2 l2 c2] (siMem n1 f1 n2 f2) = 
  T.ite ((↑l1 : Int) != (↑l2 : Int)) (T.ret (AV.ff, [some (Blk.mk false [] (1 : Nat) n1 (fun j => [AV.int IntKind.i64 (f1 j)]) [] none), some (Blk.mk false [] (1 : Nat) n2 (fun j => [AV.int IntKind.i64 (f2 j)]) [] none)]))
    (T.need
      (∃ ρ,
        SubSt (2 : Nat) ρ (St.mk [((0 : Nat), AV.sl (0 : Nat) (0 : Nat) (1 : Nat) j1 l1 c1), ((1 : Nat), AV.sl (1 : Nat) (0 : Nat) (1 : Nat) j2 l2 c2), ((5 : Nat), AV.int IntKind.i64 (0 : Int))] [some (Blk.mk false [] (1 : Nat) n1 (fun j => [AV.int IntKind.i64 (f1 j)]) [] none), some (Blk.mk false [] (1 : Nat) n2 (fun j => [AV.int IntKind.i64 (f2 j)]) [] none)])
          (siSt (SI.mk n1 f1 n2 f2 j1 j2 l1 c1 c2 (0 : Nat))))
      (T.need (siInv (SI.mk n1 f1 n2 f2 j1 j2 l1 c1 c2 (0 : Nat)))
        (T.ite (eqN (fun d => f1 (j1 + d)) (fun d => f2 (j2 + d)) (0 : Nat) (l1 - (0 : Nat))) (T.ret (AV.tt, [some (Blk.mk false [] (1 : Nat) n1 (fun j => [AV.int IntKind.i64 (f1 j)]) [] none), some (Blk.mk false [] (1 : Nat) n2 (fun j => [AV.int IntKind.i64 (f2 j)]) [] none)]))
          (T.ret (AV.ff, [some (Blk.mk false [] (1 : Nat) n1 (fun j => [AV.int IntKind.i64 (f1 j)]) [] none), some (Blk.mk false [] (1 : Nat) n2 (fun j => [AV.int IntKind.i64 (f2 j)]) [] none)]))))) := by
  kernel_rfl

theorem si_fn0 (a b : Option Addr) : afn Try.prog (siE1 0) Try.f16 (codeOf Try.f16) [.esl a, .esl b] [] = 
  T.ite false (T.ret (AV.ff, [])) (T.ite false T.fail (T.ret (AV.tt, []))) := by
  kernel_rfl

theorem si_fnl (n1 : Nat) (f1 : Nat → Int) (j1 l1 c1 : Nat) (a : Option Addr) : afn Try.prog (siE1 1) Try.f16 (codeOf Try.f16) [.sl 0 0 1 j1 l1 c1, .esl a] [some (Blk.rows false 1 n1 fun j => [.int .i64 (f1 j)])] = 
  T.ite ((↑l1 : Int) != (0 : Int)) (T.ret (AV.ff, [some (Blk.mk false [] (1 : Nat) n1 (fun j => [AV.int IntKind.i64 (f1 j)]) [] none)]))
    (T.ite (decide ((0 : Int) < (↑l1 : Int))) (T.chk (decide ((0 : Int) ≤ (0 : Int)) && decide ((0 : Int) < (↑l1 : Int))) (T.chk (decide (j1 + (0 : Nat) < n1)) T.fail)) (T.ret (AV.tt, [some (Blk.mk false [] (1 : Nat) n1 (fun j => [AV.int IntKind.i64 (f1 j)]) [] none)]))) := by
  kernel_rfl

theorem si_fnr (n1 : Nat) (f1 : Nat → Int) (j1 l1 c1 : Nat) (a : Option Addr) : afn Try.prog (siE1 1) Try.f16 (codeOf Try.f16) [.esl a, .sl 0 0 1 j1 l1 c1] [some (Blk.rows false 1 n1 fun j => [.int .i64 (f1 j)])] = 
  T.ite ((0 : Int) != (↑l1 : Int)) (T.ret (AV.ff, [some (Blk.mk false [] (1 : Nat) n1 (fun j => [AV.int IntKind.i64 (f1 j)]) [] none)])) (T.ite false T.fail (T.ret (AV.tt, [some (Blk.mk false [] (1 : Nat) n1 (fun j => [AV.int IntKind.i64 (f1 j)]) [] none)]))) := by
  kernel_rfl

theorem si_loop : LoopOK Try.prog siE (loopAt (codeOf Try.f16) 0) := by
  refine loopSumm_ok EnvOK.nil (noLoops (by kernel_rfl)) siSt siInv (fun x => x.len - x.i) siPick siEnd ?_ (by kernel_rfl)
  rintro ⟨n1, f1, n2, f2, j1, j2, len, c1, c2, i⟩ ⟨h1, h2, h3, h4⟩ Q hq
  dsimp only at h1 h2 h3 h4
  refine round_keep [0, 1, 4, 5] ?_
  rw [si_tree]
  obtain ⟨hq1, hq2⟩ := hq
  dsimp only at hq1 hq2
  refine T.hite (fun hi => ?_) (fun hi => ?_)
  · have hi : (i : Int) < len := by simpa using hi
    have e : len - i = (len - (i + 1)) + 1 := by omega
    rw [e] at hq1 hq2
    refine T.hchk (by simp; omega) (T.hchk (by simp; omega) (T.hchk (by simp; omega) (T.hchk (by simp; omega) (T.hite (fun hx => ?_) (fun hx => ?_)))))
    · have hx : ¬ f1 (j1 + i) = f2 (j2 + i) := by simpa using hx
      refine Round.back id ⟨[(4, .ff)], siMem n1 f1 n2 f2⟩ (SubSt.mk (by simp [SubFr, slotAt, ren, below]) (subInts2 (Nat.le_refl _))) (hq2 ?_)
      simp [eqN, hx]
    · have hx : f1 (j1 + i) = f2 (j2 + i) := by simpa using hx
      refine Round.go ⟨n1, f1, n2, f2, j1, j2, len, c1, c2, i + 1⟩ id ⟨h1, h2, h3, by dsimp only; omega⟩ (by dsimp only; omega) (SubSt.mk ?_ (subInts2 (Nat.le_refl _))) ?_
      · have hw : IntKind.wrap IntKind.i64 ((i : Int) + 1) = ((i + 1 : Nat) : Int) := by rw [IntWalk.i64_in _ (by omega)]; omega
        simp [siSt, siMem, SubFr, slotAt, ren, below, hw]
      · refine ⟨fun h => hq1 ?_, fun h => hq2 ?_⟩ <;> simpa [eqN, hx] using h
  · have hi : ¬ (i : Int) < len := by simpa using hi
    refine Round.out id ⟨[], siMem n1 f1 n2 f2⟩ (SubSt.mk (by simp [SubFr]) (subInts2 (Nat.le_refl _))) (hq1 ?_)
    rw [show len - i = 0 from by omega]; rfl

theorem si_loop1 (n : Nat) : LoopOK Try.prog (siE1 n) (loopAt (codeOf Try.f16) 0) :=
  unroll_ok EnvOK.nil (siE0 n) rfl rfl rfl 1 (noLoops (by kernel_rfl)) (by kernel_rfl)

def sameT (p q : IntsArg) : T AV :=
  .need p.need (.need q.need (.chk p.chk (.chk q.chk (.chk (decide (p.len ≤ 4611686018427387904)) (.ret (.bool (decide (p.len = q.len) && eqN p.at_ q.at_ 0 p.len)))))))
def sameE : List AV → AM → T AV
  | [x, y], m => T.opt (intsArg .i64 m x) fun p => T.opt (intsArg .i64 m y) fun q => sameT p q
  | _, _ => .fail

theorem si_eff2 (n1 : Nat) (f1 : Nat → Int) (n2 : Nat) (f2 : Nat → Int) (j1 j2 l1 l2 c1 c2 : Nat) (h1 : j1 + l1 ≤ n1) (h2 : j2 + l2 ≤ n2) (h3 : l1 ≤ 4611686018427387904) :
    EffAt Try.prog 16 [.sl 0 0 1 j1 l1 c1, .sl 1 0 1 j2 l2 c2] (siMem n1 f1 n2 f2) (.ret (.bool (decide (l1 = l2) && eqN (fun d => f1 (j1 + d)) (fun d => f2 (j2 + d)) 0 l1), siMem n1 f1 n2 f2)) := by
  refine fn_ok (E := siE) (c := codeOf Try.f16) Try.func16 rfl EnvOK.nil (oneLoop (by kernel_rfl) si_loop) rfl rfl fun Q hq => ?_
  rw [si_fn2]
  refine T.hite (fun h => ?_) (fun h => ?_)
  · have h : ¬ l1 = l2 := by simp at h; omega
    exact leaf_of id hq (by simp [h, Alike, ren, conc]) (by simp [below]) (subInts2 (Nat.le_refl _))
  · have h : l1 = l2 := by simp at h; omega
    subst h
    refine T.hneed ⟨id, SubSt.mk (by simp [siSt, siMem, SubFr, slotAt, ren, below]) (subInts2 (Nat.le_refl _))⟩ (T.hneed ⟨h1, h2, h3, Nat.zero_le _⟩ (T.hite (fun h => ?_) (fun h => ?_)))
    · rw [Nat.sub_zero] at h
      exact leaf_of id hq (by simp [h, Alike, ren, conc]) (by simp [below]) (subInts2 (Nat.le_refl _))
    · rw [Nat.sub_zero] at h
      exact leaf_of id hq (by simp [h, Alike, ren, conc]) (by simp [below]) (subInts2 (Nat.le_refl _))

theorem si_eff0 (a b : Option Addr) : EffAt Try.prog 16 [.esl a, .esl b] [] (.ret (.bool true, [])) := by
  refine fn_ok (E := siE1 0) (c := codeOf Try.f16) Try.func16 rfl EnvOK.nil (oneLoop (by kernel_rfl) (si_loop1 _)) rfl rfl fun Q hq => ?_
  rw [si_fn0]
  refine T.hite (fun h => by cases h) (fun h => T.hite (fun h => by cases h) (fun h => ?_))
  exact leaf_of id hq (by simp [Alike, ren, conc]) (by simp [below]) (Sub.nil _ _)

theorem si_effl (n1 : Nat) (f1 : Nat → Int) (j1 l1 c1 : Nat) (a : Option Addr) :
    EffAt Try.prog 16 [.sl 0 0 1 j1 l1 c1, .esl a] [some (Blk.rows false 1 n1 fun j => [.int .i64 (f1 j)])] (.ret (.bool (decide (l1 = 0)), [some (Blk.rows false 1 n1 fun j => [.int .i64 (f1 j)])])) := by
  refine fn_ok (E := siE1 1) (c := codeOf Try.f16) Try.func16 rfl EnvOK.nil (oneLoop (by kernel_rfl) (si_loop1 _)) rfl rfl fun Q hq => ?_
  rw [si_fnl]
  refine T.hite (fun h => ?_) (fun h => T.hite (fun h' => ?_) (fun h' => ?_))
  · have h : ¬ l1 = 0 := by simpa using h
    exact leaf_of id hq (by simp [h, Alike, ren, conc]) (by simp [below]) (subInts (Nat.le_refl _))
  · simp at h h'; omega
  · have h : l1 = 0 := by simpa using h
    exact leaf_of id hq (by simp [h, Alike, ren, conc]) (by simp [below]) (subInts (Nat.le_refl _))

theorem si_effr (n1 : Nat) (f1 : Nat → Int) (j1 l1 c1 : Nat) (a : Option Addr) :
    EffAt Try.prog 16 [.esl a, .sl 0 0 1 j1 l1 c1] [some (Blk.rows false 1 n1 fun j => [.int .i64 (f1 j)])] (.ret (.bool (decide (l1 = 0)), [some (Blk.rows false 1 n1 fun j => [.int .i64 (f1 j)])])) := by
  refine fn_ok (E := siE1 1) (c := codeOf Try.f16) Try.func16 rfl EnvOK.nil (oneLoop (by kernel_rfl) (si_loop1 _)) rfl rfl fun Q hq => ?_
  rw [si_fnr]
  refine T.hite (fun h => ?_) (fun h => T.hite (fun h' => by cases h') (fun h' => ?_))
  · have h : ¬ l1 = 0 := by have := (by simpa using h : ¬ (0 : Int) = l1); omega
    exact leaf_of id hq (by simp [h, Alike, ren, conc]) (by simp [below]) (subInts (Nat.le_refl _))
  · have h : l1 = 0 := by have := (by simpa using h : (0 : Int) = l1); omega
    exact leaf_of id hq (by simp [h, Alike, ren, conc]) (by simp [below]) (subInts (Nat.le_refl _))

theorem sameE_ok : SummOK Try.prog 16 (.pure sameE) := by
  refine ro_ok (fun args w => Try.call16 args w) ?_
  intro args m Q hq
  unfold sameE at hq ⊢
  split at hq
  · rename_i x y
    obtain ⟨p, hp, hq⟩ := T.holds_opt hq
    obtain ⟨q, hqq, hq⟩ := T.holds_opt hq
    obtain ⟨k1, k2, k3, k4, k5, hq⟩ := hq
    rw [hp, hqq]
    refine ⟨⟨k1, k2, k3, k4, k5, by simp [plain, T.holds]⟩, ?_⟩
    rcases intsArg_some hp with ⟨a, rfl, rfl⟩ | ⟨id1, j1, l1, c1, b1, rfl, hb1, rfl⟩ <;> rcases intsArg_some hqq with ⟨b, rfl, rfl⟩ | ⟨id2, j2, l2, c2, b2, rfl, hb2, rfl⟩
    · exact ⟨⟨[], [.esl a, .esl b], [], rfl, by simp, trivial, fun _ _ h => (by cases h), by simp [belowL, below], by simp [renL, ren], (si_eff0 a b).mono fun Q h => h.2.2.2.2.2⟩⟩
    · refine ⟨⟨[id2], [.esl a, .sl 0 0 1 j2 l2 c2], [some (intView .i64 b2)], rfl, by simp [AM.get_lt hb2], ⟨⟨_, hb2, IntRow.view k2 _ _⟩, trivial⟩, roOne rfl, by simp [belowL, below], by simp [renL, ren, out], (si_effr b2.n (intAt b2) j2 l2 c2 a).mono fun Q h => ?_⟩⟩
      have e : (decide (0 = l2) && eqN (fun _ => 0) (fun i => intAt b2 (j2 + i)) 0 0) = decide (l2 = 0) := by simp [eqN, eq_comm]
      rw [← e]; exact h.2.2.2.2.2
    · refine ⟨⟨[id1], [.sl 0 0 1 j1 l1 c1, .esl b], [some (intView .i64 b1)], rfl, by simp [AM.get_lt hb1], ⟨⟨_, hb1, IntRow.view k1 _ _⟩, trivial⟩, roOne rfl, by simp [belowL, below], by simp [renL, ren, out], (si_effl b1.n (intAt b1) j1 l1 c1 b).mono fun Q h => ?_⟩⟩
      have e : (decide (l1 = 0) && eqN (fun i => intAt b1 (j1 + i)) (fun _ => 0) 0 l1) = decide (l1 = 0) := by
        by_cases h0 : l1 = 0
        · subst h0; simp [eqN]
        · simp [h0]
      rw [← e]; exact h.2.2.2.2.2
    · exact ⟨⟨[id1, id2], [.sl 0 0 1 j1 l1 c1, .sl 1 0 1 j2 l2 c2], [some (intView .i64 b1), some (intView .i64 b2)], rfl, by simp [AM.get_lt hb1, AM.get_lt hb2], ⟨⟨_, hb1, IntRow.view k1 _ _⟩, ⟨_, hb2, IntRow.view k2 _ _⟩, trivial⟩, roTwo rfl rfl, by simp [belowL, below], by simp [renL, ren, out], (si_eff2 b1.n (intAt b1) b2.n (intAt b2) j1 j2 l1 l2 c1 c2 (by simpa using k3) (by simpa using k4) (by simpa using k5)).mono fun Q h => h.2.2.2.2.2⟩⟩
  · exact hq.elim

def sameS (args : List AV) (m : AM) : T AV := sameE (args.map nrm) m

theorem same_ok : SummOK Try.prog 16 (.pure sameS) := pure_nrm sameE_ok

end Go.Proofs.Ytmhlkcboajgigaa
