/-
  SameBytes: what it tells of two slices of numbers.
-/
import Derived.Test.YtemgmcchepmicaaProg
import Derived.Test.YtemgmcchepmicaaHOxP
namespace Go.Proofs.Ytemgmcchepmicaa
open Go.Ox
set_option maxRecDepth 100000
set_option linter.unusedVariables false
set_option linter.unusedSimpArgs false

structure SB where
  n1 : Nat
  f1 : Nat → Int
  n2 : Nat
  f2 : Nat → Int
  j1 : Nat
  j2 : Nat
  len : Nat
  c1 : Nat
  c2 : Nat
  i : Nat

def sbMem (n1 : Nat) (f1 : Nat → Int) (n2 : Nat) (f2 : Nat → Int) : AM :=
  [some (Blk.rows false 1 n1 fun j => [.int .u8 (f1 j)]), some (Blk.rows false 1 n2 fun j => [.int .u8 (f2 j)])]
def sbSt (x : SB) : St :=
  ⟨[(0, .sl 0 0 1 x.j1 x.len x.c1), (1, .sl 1 0 1 x.j2 x.len x.c2), (5, .int .i64 x.i)], sbMem x.n1 x.f1 x.n2 x.f2⟩
def sbInv (x : SB) : Prop := x.j1 + x.len ≤ x.n1 ∧ x.j2 + x.len ≤ x.n2 ∧ x.len ≤ 4611686018427387904 ∧ x.i ≤ x.len
def sbPick (st : St) : Option SB :=
  match slotAt st.fr 0, slotAt st.fr 1, AM.get st.m 0, AM.get st.m 1 with
  | some (.sl _ _ _ j1 len c1), some (.sl _ _ _ j2 _ c2), some b1, some b2 => some ⟨b1.n, intAt b1, b2.n, intAt b2, j1, j2, len, c1, c2, 0⟩
  | _, _, _, _ => none
def sbEnd (x : SB) : T (Ex × St) :=
  .ite (eqN (fun d => x.f1 (x.j1 + d)) (fun d => x.f2 (x.j2 + d)) x.i (x.len - x.i)) (.ret (.exit 0, ⟨[], sbMem x.n1 x.f1 x.n2 x.f2⟩)) (.ret (.ret, ⟨[(4, .ff)], sbMem x.n1 x.f1 x.n2 x.f2⟩))
noncomputable def sbE : Env := { nt := 26, n0 := 2, fns := [], loop := fun k => if k = 4 then loopSumm 2 sbSt sbInv sbPick sbEnd else fun _ => .fail }
noncomputable def sbE0 (n : Nat) : Env := { nt := 26, n0 := n, fns := [], loop := fun _ _ => .fail }
noncomputable def sbE1 (n : Nat) : Env := { nt := 26, n0 := n, fns := [], loop := fun k => if k = 4 then unrollN Try.prog (sbE0 n) (loopAt (codeOf Try.f25) 0) 1 else fun _ => .fail }

theorem sb_tree (n1 : Nat) (f1 : Nat → Int) (n2 : Nat) (f2 : Nat → Int) (j1 j2 len c1 c2 i : Nat) : keepT [0, 1, 4, 5] (acode Try.prog sbE (loopAt (codeOf Try.f25) 0) (sbSt ⟨n1, f1, n2, f2, j1, j2, len, c1, c2, i⟩)) = 
  T.ite (decide ((↑i : Int) < (↑len : Int)))
    (T.chk (decide ((0 : Int) ≤ (↑i : Int)) && decide ((↑i : Int) < (↑len : Int)))
      (T.chk (decide (j1 + Int.toNat (↑i : Int) < n1))
        (T.chk (decide ((0 : Int) ≤ (↑i : Int)) && decide ((↑i : Int) < (↑len : Int)))
          (T.chk (decide (j2 + Int.toNat (↑i : Int) < n2))
            (T.ite (f1 (j1 + Int.toNat (↑i : Int)) != f2 (j2 + Int.toNat (↑i : Int)))
              (T.ret (Ex.ret, St.mk [((0 : Nat), AV.sl (0 : Nat) (0 : Nat) (1 : Nat) j1 len c1), ((1 : Nat), AV.sl (1 : Nat) (0 : Nat) (1 : Nat) j2 len c2), ((4 : Nat), AV.ff), ((5 : Nat), AV.int IntKind.i64 (↑i : Int))] [some (Blk.mk false [] (1 : Nat) n1 (fun j => [AV.int IntKind.u8 (f1 j)]) [] none), some (Blk.mk false [] (1 : Nat) n2 (fun j => [AV.int IntKind.u8 (f2 j)]) [] none)]))
              (T.ret
                (Ex.norm,
                  St.mk [((0 : Nat), AV.sl (0 : Nat) (0 : Nat) (1 : Nat) j1 len c1), ((1 : Nat), AV.sl (1 : Nat) (0 : Nat) (1 : Nat) j2 len c2), ((5 : Nat), AV.int IntKind.i64 (IntKind.wrap IntKind.i64 ((↑i : Int) + (1 : Int))))]
                    [some (Blk.mk false [] (1 : Nat) n1 (fun j => [AV.int IntKind.u8 (f1 j)]) [] none), some (Blk.mk false [] (1 : Nat) n2 (fun j => [AV.int IntKind.u8 (f2 j)]) [] none)])))))))
    (T.ret (Ex.exit (0 : Nat), St.mk [((0 : Nat), AV.sl (0 : Nat) (0 : Nat) (1 : Nat) j1 len c1), ((1 : Nat), AV.sl (1 : Nat) (0 : Nat) (1 : Nat) j2 len c2), ((5 : Nat), AV.int IntKind.i64 (↑i : Int))] [some (Blk.mk false [] (1 : Nat) n1 (fun j => [AV.int IntKind.u8 (f1 j)]) [] none), some (Blk.mk false [] (1 : Nat) n2 (fun j => [AV.int IntKind.u8 (f2 j)]) [] none)])) := by
  kernel_rfl

theorem sb_fn2 (n1 : Nat) (f1 : Nat → Int) (n2 : Nat) (f2 : Nat → Int) (j1 j2 l1 l2 c1 c2 : Nat) : afn Try.prog sbE Try.f25 (codeOf Try.f25) [.sl 0 0 1 j1 l1 c1, .sl 1 0 1 j2 l2 c2] (sbMem n1 f1 n2 f2) = 
  T.ite ((↑l1 : Int) != (↑l2 : Int)) (T.ret (AV.ff, [some (Blk.mk false [] (1 : Nat) n1 (fun j => [AV.int IntKind.u8 (f1 j)]) [] none), some (Blk.mk false [] (1 : Nat) n2 (fun j => [AV.int IntKind.u8 (f2 j)]) [] none)]))
    (T.need
      (∃ ρ,
        SubSt (2 : Nat) ρ (St.mk [((0 : Nat), AV.sl (0 : Nat) (0 : Nat) (1 : Nat) j1 l1 c1), ((1 : Nat), AV.sl (1 : Nat) (0 : Nat) (1 : Nat) j2 l2 c2), ((5 : Nat), AV.int IntKind.i64 (0 : Int))] [some (Blk.mk false [] (1 : Nat) n1 (fun j => [AV.int IntKind.u8 (f1 j)]) [] none), some (Blk.mk false [] (1 : Nat) n2 (fun j => [AV.int IntKind.u8 (f2 j)]) [] none)])
          (sbSt (SB.mk n1 f1 n2 f2 j1 j2 l1 c1 c2 (0 : Nat))))
      (T.need (sbInv (SB.mk n1 f1 n2 f2 j1 j2 l1 c1 c2 (0 : Nat)))
        (T.ite (eqN (fun d => f1 (j1 + d)) (fun d => f2 (j2 + d)) (0 : Nat) (l1 - (0 : Nat))) (T.ret (AV.tt, [some (Blk.mk false [] (1 : Nat) n1 (fun j => [AV.int IntKind.u8 (f1 j)]) [] none), some (Blk.mk false [] (1 : Nat) n2 (fun j => [AV.int IntKind.u8 (f2 j)]) [] none)]))
          (T.ret (AV.ff, [some (Blk.mk false [] (1 : Nat) n1 (fun j => [AV.int IntKind.u8 (f1 j)]) [] none), some (Blk.mk false [] (1 : Nat) n2 (fun j => [AV.int IntKind.u8 (f2 j)]) [] none)]))))) := by
  kernel_rfl

theorem sb_fn0 (a b : Option Addr) : afn Try.prog (sbE1 0) Try.f25 (codeOf Try.f25) [.esl a, .esl b] [] = 
  T.ite false (T.ret (AV.ff, [])) (T.ite false T.fail (T.ret (AV.tt, []))) := by
  kernel_rfl

theorem sb_fnl (n1 : Nat) (f1 : Nat → Int) (j1 l1 c1 : Nat) (a : Option Addr) : afn Try.prog (sbE1 1) Try.f25 (codeOf Try.f25) [.sl 0 0 1 j1 l1 c1, .esl a] [some (Blk.rows false 1 n1 fun j => [.int .u8 (f1 j)])] = 
  T.ite ((↑l1 : Int) != (0 : Int)) (T.ret (AV.ff, [some (Blk.mk false [] (1 : Nat) n1 (fun j => [AV.int IntKind.u8 (f1 j)]) [] none)])) (T.ite (decide ((0 : Int) < (↑l1 : Int))) (T.chk (decide ((0 : Int) ≤ (0 : Int)) && decide ((0 : Int) < (↑l1 : Int))) (T.chk (decide (j1 + (0 : Nat) < n1)) T.fail)) (T.ret (AV.tt, [some (Blk.mk false [] (1 : Nat) n1 (fun j => [AV.int IntKind.u8 (f1 j)]) [] none)]))) := by
  kernel_rfl

theorem sb_fnr (n1 : Nat) (f1 : Nat → Int) (j1 l1 c1 : Nat) (a : Option Addr) : afn Try.prog (sbE1 1) Try.f25 (codeOf Try.f25) [.esl a, .sl 0 0 1 j1 l1 c1] [some (Blk.rows false 1 n1 fun j => [.int .u8 (f1 j)])] = 
  T.ite ((0 : Int) != (↑l1 : Int)) (T.ret (AV.ff, [some (Blk.mk false [] (1 : Nat) n1 (fun j => [AV.int IntKind.u8 (f1 j)]) [] none)])) (T.ite false T.fail (T.ret (AV.tt, [some (Blk.mk false [] (1 : Nat) n1 (fun j => [AV.int IntKind.u8 (f1 j)]) [] none)]))) := by
  kernel_rfl

theorem sb_loop : LoopOK Try.prog sbE (loopAt (codeOf Try.f25) 0) := by
  refine loopSumm_ok EnvOK.nil (noLoops (by kernel_rfl)) sbSt sbInv (fun x => x.len - x.i) sbPick sbEnd ?_ (by kernel_rfl)
  rintro ⟨n1, f1, n2, f2, j1, j2, len, c1, c2, i⟩ ⟨h1, h2, h3, h4⟩ Q hq
  dsimp only at h1 h2 h3 h4
  refine round_keep [0, 1, 4, 5] ?_
  rw [sb_tree]
  obtain ⟨hq1, hq2⟩ := hq
  dsimp only at hq1 hq2
  refine T.hite (fun hi => ?_) (fun hi => ?_)
  · have hi : (i : Int) < len := by simpa using hi
    have e : len - i = (len - (i + 1)) + 1 := by omega
    rw [e] at hq1 hq2
    refine T.hchk (by simp; omega) (T.hchk (by simp; omega) (T.hchk (by simp; omega) (T.hchk (by simp; omega) (T.hite (fun hx => ?_) (fun hx => ?_)))))
    · have hx : ¬ f1 (j1 + i) = f2 (j2 + i) := by simpa using hx
      refine Round.back id ⟨[(4, .ff)], sbMem n1 f1 n2 f2⟩ (SubSt.mk (by simp [SubFr, slotAt, ren, below]) (subInts2 (Nat.le_refl _))) (hq2 ?_)
      simp [eqN, hx]
    · have hx : f1 (j1 + i) = f2 (j2 + i) := by simpa using hx
      refine Round.go ⟨n1, f1, n2, f2, j1, j2, len, c1, c2, i + 1⟩ id ⟨h1, h2, h3, by dsimp only; omega⟩ (by dsimp only; omega) (SubSt.mk ?_ (subInts2 (Nat.le_refl _))) ?_
      · have hw : IntKind.wrap IntKind.i64 ((i : Int) + 1) = ((i + 1 : Nat) : Int) := by rw [IntWalk.i64_in _ (by omega)]; omega
        simp [sbSt, sbMem, SubFr, slotAt, ren, below, hw]
      · refine ⟨fun h => hq1 ?_, fun h => hq2 ?_⟩ <;> simpa [eqN, hx] using h
  · have hi : ¬ (i : Int) < len := by simpa using hi
    refine Round.out id ⟨[], sbMem n1 f1 n2 f2⟩ (SubSt.mk (by simp [SubFr]) (subInts2 (Nat.le_refl _))) (hq1 ?_)
    rw [show len - i = 0 from by omega]; rfl

theorem sb_loop1 (n : Nat) : LoopOK Try.prog (sbE1 n) (loopAt (codeOf Try.f25) 0) :=
  unroll_ok EnvOK.nil (sbE0 n) rfl rfl rfl 1 (noLoops (by kernel_rfl)) (by kernel_rfl)

def sameBT (p q : IntsArg) : T AV :=
  .need p.need (.need q.need (.chk p.chk (.chk q.chk (.chk (decide (p.len ≤ 4611686018427387904)) (.ret (.bool (decide (p.len = q.len) && eqN p.at_ q.at_ 0 p.len)))))))
def sameBE : List AV → AM → T AV
  | [x, y], m => T.opt (intsArg .u8 m x) fun p => T.opt (intsArg .u8 m y) fun q => sameBT p q
  | _, _ => .fail

theorem sb_eff2 (n1 : Nat) (f1 : Nat → Int) (n2 : Nat) (f2 : Nat → Int) (j1 j2 l1 l2 c1 c2 : Nat) (h1 : j1 + l1 ≤ n1) (h2 : j2 + l2 ≤ n2) (h3 : l1 ≤ 4611686018427387904) :
    EffAt Try.prog 25 [.sl 0 0 1 j1 l1 c1, .sl 1 0 1 j2 l2 c2] (sbMem n1 f1 n2 f2) (.ret (.bool (decide (l1 = l2) && eqN (fun d => f1 (j1 + d)) (fun d => f2 (j2 + d)) 0 l1), sbMem n1 f1 n2 f2)) := by
  refine fn_ok (E := sbE) (c := codeOf Try.f25) Try.func25 rfl EnvOK.nil (oneLoop (by kernel_rfl) sb_loop) rfl rfl fun Q hq => ?_
  rw [sb_fn2]
  refine T.hite (fun h => ?_) (fun h => ?_)
  · have h : ¬ l1 = l2 := by simp at h; omega
    exact leaf_of id hq (by simp [h, Alike, ren, conc]) (by simp [below]) (subInts2 (Nat.le_refl _))
  · have h : l1 = l2 := by simp at h; omega
    subst h
    refine T.hneed ⟨id, SubSt.mk (by simp [sbSt, sbMem, SubFr, slotAt, ren, below]) (subInts2 (Nat.le_refl _))⟩ (T.hneed ⟨h1, h2, h3, Nat.zero_le _⟩ (T.hite (fun h => ?_) (fun h => ?_)))
    · rw [Nat.sub_zero] at h
      exact leaf_of id hq (by simp [h, Alike, ren, conc]) (by simp [below]) (subInts2 (Nat.le_refl _))
    · rw [Nat.sub_zero] at h
      exact leaf_of id hq (by simp [h, Alike, ren, conc]) (by simp [below]) (subInts2 (Nat.le_refl _))

theorem sb_eff0 (a b : Option Addr) : EffAt Try.prog 25 [.esl a, .esl b] [] (.ret (.bool true, [])) := by
  refine fn_ok (E := sbE1 0) (c := codeOf Try.f25) Try.func25 rfl EnvOK.nil (oneLoop (by kernel_rfl) (sb_loop1 _)) rfl rfl fun Q hq => ?_
  rw [sb_fn0]
  refine T.hite (fun h => by cases h) (fun h => T.hite (fun h => by cases h) (fun h => ?_))
  exact leaf_of id hq (by simp [Alike, ren, conc]) (by simp [below]) (Sub.nil _ _)

theorem sb_effl (n1 : Nat) (f1 : Nat → Int) (j1 l1 c1 : Nat) (a : Option Addr) :
    EffAt Try.prog 25 [.sl 0 0 1 j1 l1 c1, .esl a] [some (Blk.rows false 1 n1 fun j => [.int .u8 (f1 j)])] (.ret (.bool (decide (l1 = 0)), [some (Blk.rows false 1 n1 fun j => [.int .u8 (f1 j)])])) := by
  refine fn_ok (E := sbE1 1) (c := codeOf Try.f25) Try.func25 rfl EnvOK.nil (oneLoop (by kernel_rfl) (sb_loop1 _)) rfl rfl fun Q hq => ?_
  rw [sb_fnl]
  refine T.hite (fun h => ?_) (fun h => T.hite (fun h' => ?_) (fun h' => ?_))
  · have h : ¬ l1 = 0 := by simpa using h
    exact leaf_of id hq (by simp [h, Alike, ren, conc]) (by simp [below]) (subInts (Nat.le_refl _))
  · simp at h h'; omega
  · have h : l1 = 0 := by simpa using h
    exact leaf_of id hq (by simp [h, Alike, ren, conc]) (by simp [below]) (subInts (Nat.le_refl _))

theorem sb_effr (n1 : Nat) (f1 : Nat → Int) (j1 l1 c1 : Nat) (a : Option Addr) :
    EffAt Try.prog 25 [.esl a, .sl 0 0 1 j1 l1 c1] [some (Blk.rows false 1 n1 fun j => [.int .u8 (f1 j)])] (.ret (.bool (decide (l1 = 0)), [some (Blk.rows false 1 n1 fun j => [.int .u8 (f1 j)])])) := by
  refine fn_ok (E := sbE1 1) (c := codeOf Try.f25) Try.func25 rfl EnvOK.nil (oneLoop (by kernel_rfl) (sb_loop1 _)) rfl rfl fun Q hq => ?_
  rw [sb_fnr]
  refine T.hite (fun h => ?_) (fun h => T.hite (fun h' => by cases h') (fun h' => ?_))
  · have h : ¬ l1 = 0 := by have := (by simpa using h : ¬ (0 : Int) = l1); omega
    exact leaf_of id hq (by simp [h, Alike, ren, conc]) (by simp [below]) (subInts (Nat.le_refl _))
  · have h : l1 = 0 := by have := (by simpa using h : (0 : Int) = l1); omega
    exact leaf_of id hq (by simp [h, Alike, ren, conc]) (by simp [below]) (subInts (Nat.le_refl _))

theorem sameBE_ok : SummOK Try.prog 25 (.pure sameBE) := by
  refine ro_ok (fun args w => Try.call25 args w) ?_
  intro args m Q hq
  unfold sameBE at hq ⊢
  split at hq
  · rename_i x y
    obtain ⟨p, hp, hq⟩ := T.holds_opt hq
    obtain ⟨q, hqq, hq⟩ := T.holds_opt hq
    obtain ⟨k1, k2, k3, k4, k5, hq⟩ := hq
    rw [hp, hqq]
    refine ⟨⟨k1, k2, k3, k4, k5, by simp [plain, T.holds]⟩, ?_⟩
    rcases intsArg_some hp with ⟨a, rfl, rfl⟩ | ⟨id1, j1, l1, c1, b1, rfl, hb1, rfl⟩ <;> rcases intsArg_some hqq with ⟨b, rfl, rfl⟩ | ⟨id2, j2, l2, c2, b2, rfl, hb2, rfl⟩
    · exact ⟨⟨[], [.esl a, .esl b], [], rfl, by simp, trivial, fun _ _ h => (by cases h), by simp [belowL, below], by simp [renL, ren], (sb_eff0 a b).mono fun Q h => h.2.2.2.2.2⟩⟩
    · refine ⟨⟨[id2], [.esl a, .sl 0 0 1 j2 l2 c2], [some (intView .u8 b2)], rfl, by simp [AM.get_lt hb2], ⟨⟨_, hb2, IntRow.view k2 _ _⟩, trivial⟩, roOne rfl, by simp [belowL, below], by simp [renL, ren, out], (sb_effr b2.n (intAt b2) j2 l2 c2 a).mono fun Q h => ?_⟩⟩
      have e : (decide (0 = l2) && eqN (fun _ => 0) (fun i => intAt b2 (j2 + i)) 0 0) = decide (l2 = 0) := by simp [eqN, eq_comm]
      rw [← e]; exact h.2.2.2.2.2
    · refine ⟨⟨[id1], [.sl 0 0 1 j1 l1 c1, .esl b], [some (intView .u8 b1)], rfl, by simp [AM.get_lt hb1], ⟨⟨_, hb1, IntRow.view k1 _ _⟩, trivial⟩, roOne rfl, by simp [belowL, below], by simp [renL, ren, out], (sb_effl b1.n (intAt b1) j1 l1 c1 b).mono fun Q h => ?_⟩⟩
      have e : (decide (l1 = 0) && eqN (fun i => intAt b1 (j1 + i)) (fun _ => 0) 0 l1) = decide (l1 = 0) := by
        by_cases h0 : l1 = 0
        · subst h0; simp [eqN]
        · simp [h0]
      rw [← e]; exact h.2.2.2.2.2
    · exact ⟨⟨[id1, id2], [.sl 0 0 1 j1 l1 c1, .sl 1 0 1 j2 l2 c2], [some (intView .u8 b1), some (intView .u8 b2)], rfl, by simp [AM.get_lt hb1, AM.get_lt hb2], ⟨⟨_, hb1, IntRow.view k1 _ _⟩, ⟨_, hb2, IntRow.view k2 _ _⟩, trivial⟩, roTwo rfl rfl, by simp [belowL, below], by simp [renL, ren, out], (sb_eff2 b1.n (intAt b1) b2.n (intAt b2) j1 j2 l1 l2 c1 c2 (by simpa using k3) (by simpa using k4) (by simpa using k5)).mono fun Q h => h.2.2.2.2.2⟩⟩
  · exact hq.elim

def sameBS (args : List AV) (m : AM) : T AV := sameBE (args.map nrm) m

theorem sameB_ok : SummOK Try.prog 25 (.pure sameBS) := pure_nrm sameBE_ok

end Go.Proofs.Ytemgmcchepmicaa
