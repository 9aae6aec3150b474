/-
  Layer 2: More, Sum.
-/
import Derived.Test.YtglokmbhpmamcaaDoorHB
import Derived.Test.YtglokmbhpmamcaaDoorHSameBytes
import Derived.Test.YtglokmbhpmamcaaDoorHCopyBytes
import Derived.Test.YtglokmbhpmamcaaDoorHPick
namespace Go.Proofs.YtglokmbhpmamcaaDoor
open Go.Ox
set_option maxRecDepth 100000
set_option maxHeartbeats 4000000
set_option linter.unusedVariables false
set_option linter.unusedSimpArgs false

structure MO where
  n : Nat
  f : Nat → Int
  j : Nat
  len : Nat
  cp : Nat
  r : Int
  i : Nat

def gW (f : Nat → Int) (j : Nat) (d : Nat) : W32 := wI (f (j + d))

def moSt (x : MO) : St := ⟨[(5, .int .u32 (iW (runP (gW x.f x.j) (wI x.r) x.i))), (10, .sl 0 0 1 x.j x.len x.cp), (11, .int .i64 x.len), (12, .int .i64 x.i)], [some (cbV x.n x.f)]⟩

def moInv (x : MO) : Prop := x.j + x.len ≤ x.n ∧ x.len ≤ 4611686018427387904 ∧ x.i ≤ x.len

def moPick (st : St) : Option MO :=
  match AM.get st.m 0, slotAt st.fr 5, slotAt st.fr 10 with
  | some b, some (.int _ r), some (.sl _ _ _ j len cp) => some ⟨b.n, intAt b, j, len, cp, r, 0⟩
  | _, _, _ => none

def moEnd (x : MO) : T (Ex × St) := .ret (.exit 0, ⟨[(5, .int .u32 (iW (runP (gW x.f x.j) (wI x.r) x.len)))], [some (cbV x.n x.f)]⟩)

noncomputable def moE : Env := { nt := Tryd.f12.ntmps, n0 := 1, fns := [], loop := fun k => if k = 3 then loopSumm 1 moSt moInv moPick moEnd else fun _ => .fail }

noncomputable def moE0 : Env := { nt := Tryd.f12.ntmps, n0 := 0, fns := [], loop := fun _ _ => .fail }

noncomputable def moE1 : Env := { nt := Tryd.f12.ntmps, n0 := 0, fns := [], loop := fun k => if k = 3 then unrollN Tryd.prog moE0 (loopAt (codeOf Tryd.f12) 0) 1 else fun _ => .fail }

def moX (n : Nat) (f : Nat → Int) (j len cp : Nat) (s : Int) (i : Nat) : St := ⟨[(5, .int .u32 s), (10, .sl 0 0 1 j len cp), (11, .int .i64 len), (12, .int .i64 i)], [some (cbV n f)]⟩

theorem mo_tree (n : Nat) (f : Nat → Int) (j len cp : Nat) (s : Int) (i : Nat) : keepT [5, 10, 11, 12] (acode Tryd.prog moE (loopAt (codeOf Tryd.f12) 0) (moX n f j len cp s i)) = 
  T.ite (decide ((↑i : Int) < (↑len : Int)))
    (T.chk (decide ((0 : Int) ≤ (↑i : Int)) && decide ((↑i : Int) < (↑len : Int)))
      (T.chk (decide (j + Int.toNat (↑i : Int) < n))
        (T.chk (decide ((0 : Int) ≤ bits BinOp.and IntKind.u32 (bits BinOp.xor IntKind.u32 s (IntKind.wrap IntKind.u32 (f (j + Int.toNat (↑i : Int))))) (15 : Int)) && decide (bits BinOp.and IntKind.u32 (bits BinOp.xor IntKind.u32 s (IntKind.wrap IntKind.u32 (f (j + Int.toNat (↑i : Int))))) (15 : Int) < (↑(16 : Nat) : Int)))
          (T.chk (decide ((0 : Nat) + Int.toNat (bits BinOp.and IntKind.u32 (bits BinOp.xor IntKind.u32 s (IntKind.wrap IntKind.u32 (f (j + Int.toNat (↑i : Int))))) (15 : Int)) < (16 : Nat)))
            (T.chk true
              (T.chk
                (decide
                    ((0 : Int) ≤
                      bits BinOp.and IntKind.u32 (bits BinOp.xor IntKind.u32 (List.getD nibT ((0 : Nat) + Int.toNat (bits BinOp.and IntKind.u32 (bits BinOp.xor IntKind.u32 s (IntKind.wrap IntKind.u32 (f (j + Int.toNat (↑i : Int))))) (15 : Int))) (0 : Int)) (Int.fdiv (bits BinOp.xor IntKind.u32 s (IntKind.wrap IntKind.u32 (f (j + Int.toNat (↑i : Int))))) ((2 : Int) ^ (4 : Nat)))) (15 : Int)) &&
                  decide
                    (bits BinOp.and IntKind.u32 (bits BinOp.xor IntKind.u32 (List.getD nibT ((0 : Nat) + Int.toNat (bits BinOp.and IntKind.u32 (bits BinOp.xor IntKind.u32 s (IntKind.wrap IntKind.u32 (f (j + Int.toNat (↑i : Int))))) (15 : Int))) (0 : Int)) (Int.fdiv (bits BinOp.xor IntKind.u32 s (IntKind.wrap IntKind.u32 (f (j + Int.toNat (↑i : Int))))) ((2 : Int) ^ (4 : Nat)))) (15 : Int) <
                      (↑(16 : Nat) : Int)))
                (T.chk
                  (decide
                    ((0 : Nat) +
                        Int.toNat
                          (bits BinOp.and IntKind.u32 (bits BinOp.xor IntKind.u32 (List.getD nibT ((0 : Nat) + Int.toNat (bits BinOp.and IntKind.u32 (bits BinOp.xor IntKind.u32 s (IntKind.wrap IntKind.u32 (f (j + Int.toNat (↑i : Int))))) (15 : Int))) (0 : Int)) (Int.fdiv (bits BinOp.xor IntKind.u32 s (IntKind.wrap IntKind.u32 (f (j + Int.toNat (↑i : Int))))) ((2 : Int) ^ (4 : Nat)))) (15 : Int)) <
                      (16 : Nat)))
                  (T.chk true
                    (T.ret
                      (Ex.norm,
                        St.mk
                          [((5 : Nat),
                              AV.int IntKind.u32
                                (bits BinOp.xor IntKind.u32
                                  (List.getD nibT
                                    ((0 : Nat) +
                                      Int.toNat
                                        (bits BinOp.and IntKind.u32 (bits BinOp.xor IntKind.u32 (List.getD nibT ((0 : Nat) + Int.toNat (bits BinOp.and IntKind.u32 (bits BinOp.xor IntKind.u32 s (IntKind.wrap IntKind.u32 (f (j + Int.toNat (↑i : Int))))) (15 : Int))) (0 : Int)) (Int.fdiv (bits BinOp.xor IntKind.u32 s (IntKind.wrap IntKind.u32 (f (j + Int.toNat (↑i : Int))))) ((2 : Int) ^ (4 : Nat))))
                                          (15 : Int)))
                                    (0 : Int))
                                  (Int.fdiv (bits BinOp.xor IntKind.u32 (List.getD nibT ((0 : Nat) + Int.toNat (bits BinOp.and IntKind.u32 (bits BinOp.xor IntKind.u32 s (IntKind.wrap IntKind.u32 (f (j + Int.toNat (↑i : Int))))) (15 : Int))) (0 : Int)) (Int.fdiv (bits BinOp.xor IntKind.u32 s (IntKind.wrap IntKind.u32 (f (j + Int.toNat (↑i : Int))))) ((2 : Int) ^ (4 : Nat))))
                                    ((2 : Int) ^ (4 : Nat))))),
                            ((10 : Nat), AV.sl (0 : Nat) (0 : Nat) (1 : Nat) j len cp), ((11 : Nat), AV.int IntKind.i64 (↑len : Int)), ((12 : Nat), AV.int IntKind.i64 (IntKind.wrap IntKind.i64 ((↑i : Int) + (1 : Int))))]
                          [some (Blk.mk false [] (1 : Nat) n (fun j => [AV.int IntKind.u8 (f j)]) [])]))))))))))
    (T.ret (Ex.exit (0 : Nat), St.mk [((5 : Nat), AV.int IntKind.u32 s), ((10 : Nat), AV.sl (0 : Nat) (0 : Nat) (1 : Nat) j len cp), ((11 : Nat), AV.int IntKind.i64 (↑len : Int)), ((12 : Nat), AV.int IntKind.i64 (↑i : Int))] [some (Blk.mk false [] (1 : Nat) n (fun j => [AV.int IntKind.u8 (f j)]) [])])) := by
  kernel_rfl

theorem mo_fn (n : Nat) (f : Nat → Int) (j len cp : Nat) (s : Int) : afn Tryd.prog moE Tryd.f12 (codeOf Tryd.f12) [.int .u32 s, .sl 0 0 1 j len cp] [some (cbV n f)] = 
  T.need
    (∃ ρ,
      SubSt (1 : Nat) ρ
        (St.mk [((5 : Nat), AV.int IntKind.u32 (bits BinOp.xor IntKind.u32 (if IntKind.signed IntKind.u32 = true then (-1 : Int) else IntKind.max IntKind.u32) s)), ((10 : Nat), AV.sl (0 : Nat) (0 : Nat) (1 : Nat) j len cp), ((11 : Nat), AV.int IntKind.i64 (↑len : Int)), ((12 : Nat), AV.int IntKind.i64 (0 : Int))] [some (Blk.mk false [] (1 : Nat) n (fun j => [AV.int IntKind.u8 (f j)]) [])])
        (moSt (MO.mk n f j len cp (bits BinOp.xor IntKind.u32 (if IntKind.signed IntKind.u32 = true then (-1 : Int) else IntKind.max IntKind.u32) s) (0 : Nat))))
    (T.need (moInv (MO.mk n f j len cp (bits BinOp.xor IntKind.u32 (if IntKind.signed IntKind.u32 = true then (-1 : Int) else IntKind.max IntKind.u32) s) (0 : Nat)))
      (T.ret (AV.int IntKind.u32 (bits BinOp.xor IntKind.u32 (if IntKind.signed IntKind.u32 = true then (-1 : Int) else IntKind.max IntKind.u32) (iW (runP (gW f j) (wI (bits BinOp.xor IntKind.u32 (if IntKind.signed IntKind.u32 = true then (-1 : Int) else IntKind.max IntKind.u32) s)) len))), [some (Blk.mk false [] (1 : Nat) n (fun j => [AV.int IntKind.u8 (f j)]) [])]))) := by
  kernel_rfl

theorem mo_fn0 (s : Int) : afn Tryd.prog moE1 Tryd.f12 (codeOf Tryd.f12) [.int .u32 s, .nils] [] = 
  T.ite false T.fail (T.ret (AV.int IntKind.u32 (bits BinOp.xor IntKind.u32 (if IntKind.signed IntKind.u32 = true then (-1 : Int) else IntKind.max IntKind.u32) (bits BinOp.xor IntKind.u32 (if IntKind.signed IntKind.u32 = true then (-1 : Int) else IntKind.max IntKind.u32) s)), [])) := by
  kernel_rfl

theorem mo_loop : LoopOK Tryd.prog moE (loopAt (codeOf Tryd.f12) 0) := by
  refine loopSumm_ok (E := moE) EnvOK.nil (noLoops (by kernel_rfl)) moSt moInv (fun x => x.len - x.i) moPick moEnd ?_ (by kernel_rfl)
  rintro ⟨n, f, j, len, cp, r, i⟩ ⟨h1, h2, h3⟩ Q hq
  dsimp only at h1 h2 h3
  refine round_keep [5, 10, 11, 12] ?_
  rw [show moSt ⟨n, f, j, len, cp, r, i⟩ = moX n f j len cp (iW (runP (gW f j) (wI r) i)) i from rfl, mo_tree]
  have hw : IntKind.wrap IntKind.i64 ((i : Int) + 1) = ((i + 1 : Nat) : Int) := by rw [IntWalk.i64_in _ (by omega)]; omega
  generalize hr : runP (gW f j) (wI r) i = R
  have hi0 : Int.toNat (i : Int) = i := by omega
  have hx : IntKind.wrap .u32 (f (j + Int.toNat (i : Int))) = iW (gW f j i) := by rw [wrapW, hi0]; rfl
  have tN : ∀ a : W32, Int.toNat (iW a) = a.toNat := fun a => by unfold iW; omega
  have e1 : bits .and .u32 (bits .xor .u32 (iW R) (IntKind.wrap .u32 (f (j + Int.toNat (i : Int))))) 15 = iW ((R ^^^ gW f j i) &&& 15) := by rw [hx, xorW, lit15, andW]
  have e2 : Int.fdiv (bits .xor .u32 (iW R) (IntKind.wrap .u32 (f (j + Int.toNat (i : Int))))) (2 ^ 4) = iW ((R ^^^ gW f j i) >>> 4) := by rw [hx, xorW, shrW]
  have t1 : List.getD nibT (0 + Int.toNat (iW ((R ^^^ gW f j i) &&& 15))) 0 = iW (tabW ((R ^^^ gW f j i) &&& 15)) := by rw [Nat.zero_add, tN, iW_tab (and15 _)]
  have e3 : bits .and .u32 (iW (nib (R ^^^ gW f j i))) 15 = iW (nib (R ^^^ gW f j i) &&& 15) := by rw [lit15, andW]
  have t3 : List.getD nibT (0 + Int.toNat (iW (nib (R ^^^ gW f j i) &&& 15))) 0 = iW (tabW (nib (R ^^^ gW f j i) &&& 15)) := by rw [Nat.zero_add, tN, iW_tab (and15 _)]
  have e4 : Int.fdiv (iW (nib (R ^^^ gW f j i))) (2 ^ 4) = iW (nib (R ^^^ gW f j i) >>> 4) := shrW _ 4
  have en : bits .xor .u32 (iW (tabW ((R ^^^ gW f j i) &&& 15))) (iW ((R ^^^ gW f j i) >>> 4)) = iW (nib (R ^^^ gW f j i)) := xorW _ _
  have e5 : bits .xor .u32 (iW (tabW (nib (R ^^^ gW f j i) &&& 15))) (iW (nib (R ^^^ gW f j i) >>> 4)) = iW (byteP R (gW f j i)) := xorW _ _
  rw [e1, e2, t1, en, e3, t3, e4, e5]
  have b1 := and15 (R ^^^ gW f j i)
  have b3 := and15 (nib (R ^^^ gW f j i))
  have c1 : 0 ≤ iW ((R ^^^ gW f j i) &&& 15) ∧ iW ((R ^^^ gW f j i) &&& 15) < 16 := by unfold iW; omega
  have c3 : 0 ≤ iW (nib (R ^^^ gW f j i) &&& 15) ∧ iW (nib (R ^^^ gW f j i) &&& 15) < 16 := by unfold iW; omega
  refine T.hite (fun hi => ?_) (fun hi => ?_)
  · have hi : i < len := by have := of_decide_eq_true hi; omega
    refine T.hchk (by simp; omega) (T.hchk (by simp; omega) (T.hchk (by rw [Bool.and_eq_true, decide_eq_true_eq, decide_eq_true_eq]; omega) (T.hchk (decide_eq_true (by unfold iW; omega)) (T.hchk rfl (T.hchk (by rw [Bool.and_eq_true, decide_eq_true_eq, decide_eq_true_eq]; omega) (T.hchk (decide_eq_true (by unfold iW; omega)) (T.hchk rfl (T.hret ?_))))))))
    exact Round.go ⟨n, f, j, len, cp, r, i + 1⟩ id ⟨h1, h2, hi⟩ (by dsimp only; omega) (SubSt.mk (by simp [moSt, SubFr, slotAt, ren, below, hw, runP, hr]) (subInts (Nat.le_refl _))) hq
  · have hi : len = i := by have := of_decide_eq_false hi; omega
    subst hi
    subst hr
    refine Round.out id _ ?_ hq
    exact SubSt.mk (by simp [SubFr, slotAt, ren, below]) (subInts (Nat.le_refl _))

def moreS : List AV → AM → T AV
  | [.int .u32 s, x], m => T.opt (intsArg .u8 m x) fun p => .need p.need (.chk p.chk (.chk (decide (p.len ≤ 4611686018427387904)) (.chk (decide (0 ≤ s) && decide (s < 4294967296)) (.ret (.int .u32 (moreI s p.at_ p.len))))))
  | _, _ => .fail

theorem more_eq {s : Int} (h : 0 ≤ s ∧ s < 4294967296) (f : Nat → Int) (j len : Nat) : bits .xor .u32 4294967295 (iW (runP (gW f j) (wI (bits .xor .u32 4294967295 s)) len)) = moreI s (fun d => f (j + d)) len := by
  have e : bits .xor .u32 4294967295 s = iW (~~~ wI s) := by
    rw [litF]
    conv => lhs; rw [← iW_wI h]
    rw [xorW, BitVec.allOnes_xor]
  rw [e, wI_iW, litF, xorW, BitVec.allOnes_xor]
  rfl

theorem maxW : (if IntKind.signed IntKind.u32 = true then (-1 : Int) else IntKind.max IntKind.u32) = 4294967295 := by decide

theorem notI {s : Int} (h : 0 ≤ s ∧ s < 4294967296) : bits .xor .u32 4294967295 s = iW (~~~ wI s) := by
  rw [litF]
  conv => lhs; rw [← iW_wI h]
  rw [xorW, BitVec.allOnes_xor]

theorem more_eff1 (n : Nat) (f : Nat → Int) (j len cp : Nat) (s : Int) (h1 : j + len ≤ n) (h2 : len ≤ 4611686018427387904) (h3 : 0 ≤ s ∧ s < 4294967296) :
    EffAt Tryd.prog 12 [.int .u32 s, .sl 0 0 1 j len cp] [some (cbV n f)] (.ret (.int .u32 (moreI s (fun d => f (j + d)) len), [some (cbV n f)])) := by
  refine fn_ok (E := moE) (c := codeOf Tryd.f12) Tryd.func12 rfl EnvOK.nil (oneLoop (by kernel_rfl) mo_loop) rfl rfl fun Q hq => ?_
  rw [mo_fn, maxW, more_eq h3]
  refine T.hneed ⟨id, SubSt.mk ?_ (subInts (Nat.le_refl _))⟩ (T.hneed ⟨h1, h2, Nat.zero_le _⟩ (T.hret ?_))
  · have e : iW (wI (bits .xor .u32 4294967295 s)) = bits .xor .u32 4294967295 s := by rw [notI h3, wI_iW]
    simp [moSt, SubFr, slotAt, ren, below, runP, e]
  · exact leaf_of id hq (by simp [Alike, ren, conc]) (by simp [below]) (subInts (Nat.le_refl _))

theorem more_eff0 (s : Int) (h3 : 0 ≤ s ∧ s < 4294967296) : EffAt Tryd.prog 12 [.int .u32 s, .nils] [] (.ret (.int .u32 (moreI s (fun _ => 0) 0), [])) := by
  refine fn_ok (E := moE1) (c := codeOf Tryd.f12) Tryd.func12 rfl EnvOK.nil (oneLoop (by kernel_rfl) (unroll_ok EnvOK.nil moE0 rfl rfl rfl 1 (noLoops (by kernel_rfl)) (by kernel_rfl))) rfl rfl fun Q hq => ?_
  have e : bits .xor .u32 4294967295 (bits .xor .u32 4294967295 s) = moreI s (fun _ => 0) 0 := by
    rw [notI h3, litF, xorW, BitVec.allOnes_xor]; rfl
  rw [mo_fn0, maxW, e]
  exact T.hite (fun h => by cases h) fun _ => T.hret (leaf_of id hq (by simp [Alike, ren, conc]) (by simp [below]) (Sub.nil _ _))

theorem more_ok : SummOK Tryd.prog 12 (.pure moreS) := by
  refine ro_ok (fun args w => Tryd.call12 args w) ?_
  intro args m Q hq
  unfold moreS at hq ⊢
  split at hq
  · rename_i s x
    obtain ⟨p, hp, hq⟩ := T.holds_opt hq
    obtain ⟨k1, k2, k3, k4, hq⟩ := hq
    rw [hp]
    refine ⟨⟨k1, k2, k3, k4, by simp [plain, T.holds]⟩, ?_⟩
    have k4 : 0 ≤ s ∧ s < 4294967296 := by simpa using k4
    rcases intsArg_some hp with ⟨rfl, rfl⟩ | ⟨id1, j1, l1, c1, b1, rfl, hb1, rfl⟩
    · exact ⟨⟨[], [.int .u32 s, .nils], [], rfl, by simp, trivial, fun _ _ h => (by cases h), by simp [belowL, below], by simp [renL, ren], (more_eff0 s k4).mono fun Q h => h.2.2.2.2⟩⟩
    · exact ⟨⟨[id1], [.int .u32 s, .sl 0 0 1 j1 l1 c1], [some (intView .u8 b1)], rfl, by simp [AM.get_lt hb1], ⟨⟨_, hb1, IntRow.view k1 _ _⟩, trivial⟩, roOne rfl, by simp [belowL, below], by simp [renL, ren, out], (more_eff1 b1.n (intAt b1) j1 l1 c1 s (by simpa using k2) (by simpa using k3) k4).mono fun Q h => h.2.2.2.2⟩⟩
  · exact hq.elim

end Go.Proofs.YtglokmbhpmamcaaDoor
