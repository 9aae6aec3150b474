/-
  SameSpots: two slices of records that are the same: true.
-/
import Derived.Test.YtnfngaapjodpcaaProg
import Derived.Test.YtnfngaapjodpcaaHOxY
namespace Go.Proofs.Ytnfngaapjodpcaa
open Go.Ox
set_option maxRecDepth 100000
set_option linter.unusedVariables false
set_option linter.unusedSimpArgs false

def fstAt (b : Blk) (j : Nat) : Int :=
  match b.f j with
  | [.int _ n, .int _ _] => n
  | _ => 0

def sndAt (b : Blk) (j : Nat) : Int :=
  match b.f j with
  | [.int _ _, .int _ n] => n
  | _ => 0

def PairRow (b : Blk) : Prop := b.pre = [] ∧ b.s = 2 ∧ b.post = [] ∧ ∀ j, b.f j = [.int .i64 (fstAt b j), .int .i64 (sndAt b j)]

def pairView (b : Blk) : Blk := Blk.rows false 2 b.n fun j => [.int .i64 (fstAt b j), .int .i64 (sndAt b j)]

theorem PairRow.view {b : Blk} (h : PairRow b) (n : Nat) (ρ : Nat → Nat) : BlkOK n ρ b (pairView b) := by
  obtain ⟨h1, h2, h3, h4⟩ := h
  refine ⟨fun h => (by cases h), (by rw [h1]; trivial), (by rw [h2]; rfl), rfl, fun j hj => ?_, (by rw [h3]; trivial), trivial⟩
  rw [h4 j]
  simp [pairView, Blk.rows, LAlike, ren, below, AV.scalar]

theorem pairs_alike {n : Nat} {ρ : Nat → Nat} {a b : Int} : LAlike n ρ [AV.int .i64 a, AV.int .i64 b] [AV.int .i64 a, AV.int .i64 b] := by
  simp [LAlike, ren, below, AV.scalar]

theorem subPairs {rw : Bool} {n n0 : Nat} {f g : Nat → Int} (hn : n0 ≤ 1) : Sub n0 id [some (Blk.rows rw 2 n fun j => [.int .i64 (f j), .int .i64 (g j)])] [some (Blk.rows rw 2 n fun j => [.int .i64 (f j), .int .i64 (g j)])] :=
  Sub.same hn ⟨⟨_, rfl, BlkOK.rows' (fun h => h) fun j _ => pairs_alike⟩, trivial⟩

theorem subPairs2 {rw rw' : Bool} {n n' n0 : Nat} {f g f' g' : Nat → Int} (hn : n0 ≤ 2) : Sub n0 id [some (Blk.rows rw 2 n fun j => [.int .i64 (f j), .int .i64 (g j)]), some (Blk.rows rw' 2 n' fun j => [.int .i64 (f' j), .int .i64 (g' j)])] [some (Blk.rows rw 2 n fun j => [.int .i64 (f j), .int .i64 (g j)]), some (Blk.rows rw' 2 n' fun j => [.int .i64 (f' j), .int .i64 (g' j)])] :=
  Sub.same hn ⟨⟨_, rfl, BlkOK.rows' (fun h => h) fun j _ => pairs_alike⟩, ⟨_, rfl, BlkOK.rows' (fun h => h) fun j _ => pairs_alike⟩, trivial⟩

structure SR where
  n1 : Nat
  f1 : Nat → Int
  g1 : Nat → Int
  n2 : Nat
  f2 : Nat → Int
  g2 : Nat → Int
  j1 : Nat
  j2 : Nat
  len : Nat
  c1 : Nat
  c2 : Nat
  i : Nat

def srMem (n1 : Nat) (f1 g1 : Nat → Int) (n2 : Nat) (f2 g2 : Nat → Int) : AM :=
  [some (Blk.rows false 2 n1 fun j => [.int .i64 (f1 j), .int .i64 (g1 j)]), some (Blk.rows false 2 n2 fun j => [.int .i64 (f2 j), .int .i64 (g2 j)])]

def srSt (x : SR) : St :=
  ⟨[(0, .sl 0 0 2 x.j1 x.len x.c1), (1, .sl 1 0 2 x.j2 x.len x.c2), (5, .int .i64 x.i)], srMem x.n1 x.f1 x.g1 x.n2 x.f2 x.g2⟩

def srInv (x : SR) : Prop := x.j1 + x.len ≤ x.n1 ∧ x.j2 + x.len ≤ x.n2 ∧ x.len ≤ 4611686018427387904 ∧ x.i ≤ x.len ∧ ∀ d, d < x.len → x.f1 (x.j1 + d) = x.f2 (x.j2 + d) ∧ x.g1 (x.j1 + d) = x.g2 (x.j2 + d)

def srPick (st : St) : Option SR :=
  match slotAt st.fr 0, slotAt st.fr 1, AM.get st.m 0, AM.get st.m 1 with
  | some (.sl _ _ _ j1 len c1), some (.sl _ _ _ j2 _ c2), some b1, some b2 => some ⟨b1.n, fstAt b1, sndAt b1, b2.n, fstAt b2, sndAt b2, j1, j2, len, c1, c2, 0⟩
  | _, _, _, _ => none

def srEnd (x : SR) : T (Ex × St) := .ret (.exit 0, ⟨[], srMem x.n1 x.f1 x.g1 x.n2 x.f2 x.g2⟩)

noncomputable def srE : Env := { nt := Try.f13.ntmps, n0 := 2, fns := [], loop := fun k => if k = 4 then loopSumm 2 srSt srInv srPick srEnd else fun _ => .fail }

noncomputable def srE0 (n : Nat) : Env := { nt := Try.f13.ntmps, n0 := n, fns := [], loop := fun _ _ => .fail }

noncomputable def srE1 (n : Nat) : Env := { nt := Try.f13.ntmps, n0 := n, fns := [], loop := fun k => if k = 4 then unrollN Try.prog (srE0 n) (loopAt (codeOf Try.f13) 0) 1 else fun _ => .fail }

theorem sr_tree (n1 : Nat) (f1 g1 : Nat → Int) (n2 : Nat) (f2 g2 : Nat → Int) (j1 j2 len c1 c2 i : Nat) : keepT [0, 1, 4, 5] (acode Try.prog srE (loopAt (codeOf Try.f13) 0) (srSt ⟨n1, f1, g1, n2, f2, g2, j1, j2, len, c1, c2, i⟩)) = 
  T.ite (decide ((↑i : Int) < (↑len : Int)))
    (T.chk (decide ((0 : Int) ≤ (↑i : Int)) && decide ((↑i : Int) < (↑len : Int)))
      (T.chk (decide (j1 + Int.toNat (↑i : Int) < n1))
        (T.chk (decide (j1 + Int.toNat (↑i : Int) < n1))
          (T.chk (decide ((0 : Int) ≤ (↑i : Int)) && decide ((↑i : Int) < (↑len : Int)))
            (T.chk (decide (j2 + Int.toNat (↑i : Int) < n2))
              (T.chk (decide (j2 + Int.toNat (↑i : Int) < n2))
                (T.ite (!(f1 (j1 + Int.toNat (↑i : Int)) == f2 (j2 + Int.toNat (↑i : Int)) && (g1 (j1 + Int.toNat (↑i : Int)) == g2 (j2 + Int.toNat (↑i : Int)) && true)))
                  (T.ret
                    (Ex.ret,
                      St.mk [((0 : Nat), AV.sl (0 : Nat) (0 : Nat) (2 : Nat) j1 len c1), ((1 : Nat), AV.sl (1 : Nat) (0 : Nat) (2 : Nat) j2 len c2), ((4 : Nat), AV.ff), ((5 : Nat), AV.int IntKind.i64 (↑i : Int))]
                        [some (Blk.mk false [] (2 : Nat) n1 (fun j => [AV.int IntKind.i64 (f1 j), AV.int IntKind.i64 (g1 j)]) [] none), some (Blk.mk false [] (2 : Nat) n2 (fun j => [AV.int IntKind.i64 (f2 j), AV.int IntKind.i64 (g2 j)]) [] none)]))
                  (T.ret
                    (Ex.norm,
                      St.mk [((0 : Nat), AV.sl (0 : Nat) (0 : Nat) (2 : Nat) j1 len c1), ((1 : Nat), AV.sl (1 : Nat) (0 : Nat) (2 : Nat) j2 len c2), ((5 : Nat), AV.int IntKind.i64 (IntKind.wrap IntKind.i64 ((↑i : Int) + (1 : Int))))]
                        [some (Blk.mk false [] (2 : Nat) n1 (fun j => [AV.int IntKind.i64 (f1 j), AV.int IntKind.i64 (g1 j)]) [] none), some (Blk.mk false [] (2 : Nat) n2 (fun j => [AV.int IntKind.i64 (f2 j), AV.int IntKind.i64 (g2 j)]) [] none)])))))))))
    (T.ret
      (Ex.exit (0 : Nat),
        St.mk [((0 : Nat), AV.sl (0 : Nat) (0 : Nat) (2 : Nat) j1 len c1), ((1 : Nat), AV.sl (1 : Nat) (0 : Nat) (2 : Nat) j2 len c2), ((5 : Nat), AV.int IntKind.i64 (↑i : Int))]
          [some (Blk.mk false [] (2 : Nat) n1 (fun j => [AV.int IntKind.i64 (f1 j), AV.int IntKind.i64 (g1 j)]) [] none), some (Blk.mk false [] (2 : Nat) n2 (fun j => [AV.int IntKind.i64 (f2 j), AV.int IntKind.i64 (g2 j)]) [] none)])) := by
  kernel_rfl

theorem sr_fn2 (n1 : Nat) (f1 g1 : Nat → Int) (n2 : Nat) (f2 g2 : Nat → Int) (j1 j2 l1 l2 c1 c2 : Nat) : afn Try.prog srE Try.f13 (codeOf Try.f13) [.sl 0 0 2 j1 l1 c1, .sl 1 0 2 j2 l2 c2] (srMem n1 f1 g1 n2 f2 g2) = 
  T.ite ((↑l1 : Int) != (↑l2 : Int)) (T.ret (AV.ff, [some (Blk.mk false [] (2 : Nat) n1 (fun j => [AV.int IntKind.i64 (f1 j), AV.int IntKind.i64 (g1 j)]) [] none), some (Blk.mk false [] (2 : Nat) n2 (fun j => [AV.int IntKind.i64 (f2 j), AV.int IntKind.i64 (g2 j)]) [] none)]))
    (T.need
      (∃ ρ,
        SubSt (2 : Nat) ρ
          (St.mk [((0 : Nat), AV.sl (0 : Nat) (0 : Nat) (2 : Nat) j1 l1 c1), ((1 : Nat), AV.sl (1 : Nat) (0 : Nat) (2 : Nat) j2 l2 c2), ((5 : Nat), AV.int IntKind.i64 (0 : Int))] [some (Blk.mk false [] (2 : Nat) n1 (fun j => [AV.int IntKind.i64 (f1 j), AV.int IntKind.i64 (g1 j)]) [] none), some (Blk.mk false [] (2 : Nat) n2 (fun j => [AV.int IntKind.i64 (f2 j), AV.int IntKind.i64 (g2 j)]) [] none)])
          (srSt
            (SR.mk n1 (fstAt (Blk.rows false (2 : Nat) n1 fun j => [AV.int IntKind.i64 (f1 j), AV.int IntKind.i64 (g1 j)])) (sndAt (Blk.rows false (2 : Nat) n1 fun j => [AV.int IntKind.i64 (f1 j), AV.int IntKind.i64 (g1 j)])) n2 (fstAt (Blk.rows false (2 : Nat) n2 fun j => [AV.int IntKind.i64 (f2 j), AV.int IntKind.i64 (g2 j)]))
              (sndAt (Blk.rows false (2 : Nat) n2 fun j => [AV.int IntKind.i64 (f2 j), AV.int IntKind.i64 (g2 j)])) j1 j2 l1 c1 c2 (0 : Nat))))
      (T.need
        (srInv
          (SR.mk n1 (fstAt (Blk.rows false (2 : Nat) n1 fun j => [AV.int IntKind.i64 (f1 j), AV.int IntKind.i64 (g1 j)])) (sndAt (Blk.rows false (2 : Nat) n1 fun j => [AV.int IntKind.i64 (f1 j), AV.int IntKind.i64 (g1 j)])) n2 (fstAt (Blk.rows false (2 : Nat) n2 fun j => [AV.int IntKind.i64 (f2 j), AV.int IntKind.i64 (g2 j)]))
            (sndAt (Blk.rows false (2 : Nat) n2 fun j => [AV.int IntKind.i64 (f2 j), AV.int IntKind.i64 (g2 j)])) j1 j2 l1 c1 c2 (0 : Nat)))
        (T.ret
          (AV.tt,
            [some (Blk.mk false [] (2 : Nat) n1 (fun j => [AV.int IntKind.i64 (fstAt (Blk.rows false (2 : Nat) n1 fun j => [AV.int IntKind.i64 (f1 j), AV.int IntKind.i64 (g1 j)]) j), AV.int IntKind.i64 (sndAt (Blk.rows false (2 : Nat) n1 fun j => [AV.int IntKind.i64 (f1 j), AV.int IntKind.i64 (g1 j)]) j)]) [] none),
              some (Blk.mk false [] (2 : Nat) n2 (fun j => [AV.int IntKind.i64 (fstAt (Blk.rows false (2 : Nat) n2 fun j => [AV.int IntKind.i64 (f2 j), AV.int IntKind.i64 (g2 j)]) j), AV.int IntKind.i64 (sndAt (Blk.rows false (2 : Nat) n2 fun j => [AV.int IntKind.i64 (f2 j), AV.int IntKind.i64 (g2 j)]) j)]) [] none)])))) := by
  kernel_rfl

theorem sr_fn0 : afn Try.prog (srE1 0) Try.f13 (codeOf Try.f13) [.nils, .nils] [] = 
  T.ite false (T.ret (AV.ff, [])) (T.ite false T.fail (T.ret (AV.tt, []))) := by
  kernel_rfl

theorem sr_fnl (n1 : Nat) (f1 g1 : Nat → Int) (j1 c1 : Nat) : afn Try.prog (srE1 1) Try.f13 (codeOf Try.f13) [.sl 0 0 2 j1 0 c1, .nils] [some (Blk.rows false 2 n1 fun j => [.int .i64 (f1 j), .int .i64 (g1 j)])] = 
  T.ite false (T.ret (AV.ff, [some (Blk.mk false [] (2 : Nat) n1 (fun j => [AV.int IntKind.i64 (f1 j), AV.int IntKind.i64 (g1 j)]) [] none)])) (T.ite false (T.chk false (T.chk (decide (j1 + (0 : Nat) < n1)) (T.chk (decide (j1 + (0 : Nat) < n1)) T.fail))) (T.ret (AV.tt, [some (Blk.mk false [] (2 : Nat) n1 (fun j => [AV.int IntKind.i64 (f1 j), AV.int IntKind.i64 (g1 j)]) [] none)]))) := by
  kernel_rfl

theorem sr_fnr (n1 : Nat) (f1 g1 : Nat → Int) (j1 c1 : Nat) : afn Try.prog (srE1 1) Try.f13 (codeOf Try.f13) [.nils, .sl 0 0 2 j1 0 c1] [some (Blk.rows false 2 n1 fun j => [.int .i64 (f1 j), .int .i64 (g1 j)])] = 
  T.ite false (T.ret (AV.ff, [some (Blk.mk false [] (2 : Nat) n1 (fun j => [AV.int IntKind.i64 (f1 j), AV.int IntKind.i64 (g1 j)]) [] none)])) (T.ite false T.fail (T.ret (AV.tt, [some (Blk.mk false [] (2 : Nat) n1 (fun j => [AV.int IntKind.i64 (f1 j), AV.int IntKind.i64 (g1 j)]) [] none)]))) := by
  kernel_rfl

theorem sr_loop : LoopOK Try.prog srE (loopAt (codeOf Try.f13) 0) := by
  refine loopSumm_ok (E := srE) EnvOK.nil (noLoops (by kernel_rfl)) srSt srInv (fun x => x.len - x.i) srPick srEnd ?_ (by kernel_rfl)
  rintro ⟨n1, f1, g1, n2, f2, g2, j1, j2, len, c1, c2, i⟩ ⟨h1, h2, h3, h4, h5⟩ Q hq
  dsimp only at h1 h2 h3 h4 h5
  refine round_keep [0, 1, 4, 5] ?_
  rw [sr_tree]
  simp only [Int.toNat_natCast]
  refine T.hite (fun hi => ?_) (fun hi => ?_)
  · have hi : i < len := by have := of_decide_eq_true hi; omega
    obtain ⟨ef, eg⟩ := h5 i hi
    have hw : IntKind.wrap IntKind.i64 ((i : Int) + 1) = ((i + 1 : Nat) : Int) := by rw [IntWalk.i64_in _ (by omega)]; omega
    refine T.hchk (by simp; omega) (T.hchk (by simp; omega) (T.hchk (by simp; omega) (T.hchk (by simp; omega) (T.hchk (by simp; omega) (T.hchk (by simp; omega) (T.hite (fun hx => ?_) (fun hx => ?_)))))))
    · simp [ef, eg] at hx
    · exact Round.go ⟨n1, f1, g1, n2, f2, g2, j1, j2, len, c1, c2, i + 1⟩ id ⟨h1, h2, h3, hi, h5⟩ (by dsimp only; omega) (SubSt.mk (by simp [srSt, srMem, SubFr, slotAt, ren, below, hw]) (subPairs2 (Nat.le_refl _))) hq
  · exact Round.out id ⟨[], srMem n1 f1 g1 n2 f2 g2⟩ (SubSt.mk (by simp [SubFr]) (subPairs2 (Nat.le_refl _))) hq

theorem sr_loop1 (n : Nat) : LoopOK Try.prog (srE1 n) (loopAt (codeOf Try.f13) 0) :=
  unroll_ok EnvOK.nil (srE0 n) rfl rfl rfl 1 (noLoops (by kernel_rfl)) (by kernel_rfl)

theorem sr_eff2 (n1 : Nat) (f1 g1 : Nat → Int) (n2 : Nat) (f2 g2 : Nat → Int) (j1 j2 l c1 c2 : Nat) (h1 : j1 + l ≤ n1) (h2 : j2 + l ≤ n2) (h3 : l ≤ 4611686018427387904) (h4 : ∀ d, d < l → f1 (j1 + d) = f2 (j2 + d) ∧ g1 (j1 + d) = g2 (j2 + d)) :
    EffAt Try.prog 13 [.sl 0 0 2 j1 l c1, .sl 1 0 2 j2 l c2] (srMem n1 f1 g1 n2 f2 g2) (.ret (.bool true, srMem n1 f1 g1 n2 f2 g2)) := by
  refine fn_ok (E := srE) (c := codeOf Try.f13) Try.func13 rfl EnvOK.nil (oneLoop (by kernel_rfl) sr_loop) rfl rfl fun Q hq => ?_
  rw [sr_fn2]
  refine T.hite (fun h => by simp at h) (fun h => ?_)
  refine T.hneed ⟨id, SubSt.mk (by simp [srSt, srMem, SubFr, slotAt, ren, below]) (subPairs2 (Nat.le_refl _))⟩ (T.hneed ⟨h1, h2, h3, Nat.zero_le _, h4⟩ ?_)
  exact leaf_of id hq (by simp [Alike, ren, conc]) (by simp [below]) (subPairs2 (Nat.le_refl _))

theorem sr_eff0 : EffAt Try.prog 13 [.nils, .nils] [] (.ret (.bool true, [])) := by
  refine fn_ok (E := srE1 0) (c := codeOf Try.f13) Try.func13 rfl EnvOK.nil (oneLoop (by kernel_rfl) (sr_loop1 _)) rfl rfl fun Q hq => ?_
  rw [sr_fn0]
  refine T.hite (fun h => by cases h) (fun h => T.hite (fun h => by cases h) (fun h => ?_))
  exact leaf_of id hq (by simp [Alike, ren, conc]) (by simp [below]) (Sub.nil _ _)

theorem sr_effl (n1 : Nat) (f1 g1 : Nat → Int) (j1 c1 : Nat) :
    EffAt Try.prog 13 [.sl 0 0 2 j1 0 c1, .nils] [some (Blk.rows false 2 n1 fun j => [.int .i64 (f1 j), .int .i64 (g1 j)])] (.ret (.bool true, [some (Blk.rows false 2 n1 fun j => [.int .i64 (f1 j), .int .i64 (g1 j)])])) := by
  refine fn_ok (E := srE1 1) (c := codeOf Try.f13) Try.func13 rfl EnvOK.nil (oneLoop (by kernel_rfl) (sr_loop1 _)) rfl rfl fun Q hq => ?_
  rw [sr_fnl]
  refine T.hite (fun h => by cases h) (fun h => T.hite (fun h => by cases h) (fun h => ?_))
  exact leaf_of id hq (by simp [Alike, ren, conc]) (by simp [below]) (subPairs (Nat.le_refl _))

theorem sr_effr (n1 : Nat) (f1 g1 : Nat → Int) (j1 c1 : Nat) :
    EffAt Try.prog 13 [.nils, .sl 0 0 2 j1 0 c1] [some (Blk.rows false 2 n1 fun j => [.int .i64 (f1 j), .int .i64 (g1 j)])] (.ret (.bool true, [some (Blk.rows false 2 n1 fun j => [.int .i64 (f1 j), .int .i64 (g1 j)])])) := by
  refine fn_ok (E := srE1 1) (c := codeOf Try.f13) Try.func13 rfl EnvOK.nil (oneLoop (by kernel_rfl) (sr_loop1 _)) rfl rfl fun Q hq => ?_
  rw [sr_fnr]
  refine T.hite (fun h => by cases h) (fun h => T.hite (fun h => by cases h) (fun h => ?_))
  exact leaf_of id hq (by simp [Alike, ren, conc]) (by simp [below]) (subPairs (Nat.le_refl _))

def PairEq (b : Blk) (j : Nat) (b' : Blk) (j' l : Nat) : Prop := ∀ d, d < l → fstAt b (j + d) = fstAt b' (j' + d) ∧ sndAt b (j + d) = sndAt b' (j' + d)

def sameRS : List AV → AM → T AV
  | [.nils, .nils], _ => .ret (.bool true)
  | [.sl id 0 2 j l c, .nils], m => match m.get id with
    | some b => .need (PairRow b) (.chk (decide (l = 0)) (.ret (.bool true)))
    | none => .fail
  | [.nils, .sl id 0 2 j l c], m => match m.get id with
    | some b => .need (PairRow b) (.chk (decide (l = 0)) (.ret (.bool true)))
    | none => .fail
  | [.sl id 0 2 j l c, .sl id' 0 2 j' l' c'], m => match m.get id, m.get id' with
    | some b, some b' => .need (PairRow b) (.need (PairRow b') (.chk (decide (j + l ≤ b.n)) (.chk (decide (j' + l ≤ b'.n)) (.chk (decide (l ≤ 4611686018427387904)) (.chk (decide (l = l')) (.need (PairEq b j b' j' l) (.ret (.bool true))))))))
    | _, _ => .fail
  | _, _ => .fail

theorem sr_ok : SummOK Try.prog 13 (.pure sameRS) := by
  refine ro_ok (fun args w => Try.call13 args w) ?_
  intro args m Q hq
  unfold sameRS at hq ⊢
  split at hq
  · exact ⟨rfl, ⟨⟨[], [.nils, .nils], [], rfl, by simp, trivial, fun _ _ h => (by cases h), by simp [belowL, below], by simp [renL, ren], sr_eff0⟩⟩⟩
  · rename_i mm id j l c
    split at hq
    · rename_i b hb
      obtain ⟨k1, k2, hq⟩ := hq
      have k2' := k2
      obtain rfl : l = 0 := of_decide_eq_true k2
      refine ⟨⟨k1, k2, rfl⟩, ⟨⟨[id], [.sl 0 0 2 j 0 c, .nils], [some (pairView b)], rfl, by simp [AM.get_lt hb], ⟨⟨_, hb, PairRow.view k1 _ _⟩, trivial⟩, roOne rfl, by simp [belowL, below], by simp [renL, ren, out], (sr_effl b.n (fstAt b) (sndAt b) j c).mono fun Q h => h.2.2⟩⟩⟩
    · exact hq.elim
  · rename_i mm id j l c
    split at hq
    · rename_i b hb
      obtain ⟨k1, k2, hq⟩ := hq
      have k2' := k2
      obtain rfl : l = 0 := of_decide_eq_true k2
      refine ⟨⟨k1, k2, rfl⟩, ⟨⟨[id], [.nils, .sl 0 0 2 j 0 c], [some (pairView b)], rfl, by simp [AM.get_lt hb], ⟨⟨_, hb, PairRow.view k1 _ _⟩, trivial⟩, roOne rfl, by simp [belowL, below], by simp [renL, ren, out], (sr_effr b.n (fstAt b) (sndAt b) j c).mono fun Q h => h.2.2⟩⟩⟩
    · exact hq.elim
  · rename_i mm id j l c id' j' l' c'
    split at hq
    · rename_i b b' hb hb'
      obtain ⟨k1, k2, k3, k4, k5, k6, k7, hq⟩ := hq
      obtain rfl : l = l' := of_decide_eq_true k6
      refine ⟨⟨k1, k2, k3, k4, k5, k6, k7, rfl⟩, ⟨⟨[id, id'], [.sl 0 0 2 j l c, .sl 1 0 2 j' l c'], [some (pairView b), some (pairView b')], rfl, by simp [AM.get_lt hb, AM.get_lt hb'], ⟨⟨_, hb, PairRow.view k1 _ _⟩, ⟨_, hb', PairRow.view k2 _ _⟩, trivial⟩, roTwo rfl rfl, by simp [belowL, below], by simp [renL, ren, out],
        (sr_eff2 b.n (fstAt b) (sndAt b) b'.n (fstAt b') (sndAt b') j j' l c c' (of_decide_eq_true k3) (of_decide_eq_true k4) (of_decide_eq_true k5) k7).mono fun Q h => h.2.2.2.2.2.2.2⟩⟩⟩
    · exact hq.elim
  · exact hq.elim

end Go.Proofs.Ytnfngaapjodpcaa
