/-
  Layer 2: the document's: turn, G, More.
-/
import Derived.Test.YtglokmbhpmamcaaDoorHA
namespace Go.Proofs.YtglokmbhpmamcaaDoor
open Go.Ox
set_option maxRecDepth 100000
set_option maxHeartbeats 4000000
set_option linter.unusedVariables false
set_option linter.unusedSimpArgs false

theorem shlW (a : W32) : IntKind.wrap .u32 (iW a * 2 ^ 1) = iW (a <<< 1) := by
  unfold iW
  rw [IntKind.wrap_u32, BitVec.toNat_shiftLeft, Nat.shiftLeft_eq]
  omega

theorem toNat_u64 {i : Nat} (h : i < 1000) : Int.toNat (IntKind.wrap .u64 (i : Int)) = i ∧ 0 ≤ IntKind.wrap .u64 (i : Int) := by
  rw [IntKind.wrap_u64]; omega

/-! ### turn -/

structure TU where
  v : Int
  i : Nat

def tuX (v o : Int) (i : Nat) : St := ⟨[(0, .int .u32 v), (3, .int .u32 o), (4, .int .i64 i)], []⟩

def tuSt (x : TU) : St := tuX x.v (iW ((wI x.v).reverse >>> (32 - x.i))) x.i

def tuInv (x : TU) : Prop := x.i ≤ 32 ∧ 0 ≤ x.v ∧ x.v < 4294967296

def tuPick (st : St) : Option TU :=
  match slotAt st.fr 0 with
  | some (.int _ v) => some ⟨v, 0⟩
  | _ => none

def tuEnd (x : TU) : T (Ex × St) := .ret (.exit 0, ⟨[(3, .int .u32 (iW (wI x.v).reverse))], []⟩)

noncomputable def tuE : Env := { nt := Tryd.f20.ntmps, n0 := 0, fns := [], loop := fun k => if k = 3 then loopSumm 0 tuSt tuInv tuPick tuEnd else fun _ => .fail }

theorem tu_tree (v o : Int) (i : Nat) : keepT [0, 3, 4] (acode Tryd.prog tuE (loopAt (codeOf Tryd.f20) 0) (tuX v o i)) = 
  T.ite (decide ((↑i : Int) < (32 : Int)))
    (T.chk true
      (T.chk (decide ((0 : Int) ≤ IntKind.wrap IntKind.u64 (↑i : Int)))
        (T.ret
          (Ex.norm, St.mk [((0 : Nat), AV.int IntKind.u32 v), ((3 : Nat), AV.int IntKind.u32 (bits BinOp.or IntKind.u32 (IntKind.wrap IntKind.u32 (o * (2 : Int) ^ (1 : Nat))) (bits BinOp.and IntKind.u32 (Int.fdiv v ((2 : Int) ^ min (Int.toNat (IntKind.wrap IntKind.u64 (↑i : Int))) (32 : Nat))) (1 : Int)))), ((4 : Nat), AV.int IntKind.i64 (IntKind.wrap IntKind.i64 ((↑i : Int) + (1 : Int))))] []))))
    (T.ret (Ex.exit (0 : Nat), St.mk [((0 : Nat), AV.int IntKind.u32 v), ((3 : Nat), AV.int IntKind.u32 o), ((4 : Nat), AV.int IntKind.i64 (↑i : Int))] [])) := by
  kernel_rfl

theorem tu_fn (v : Int) : vfn Tryd.prog tuE Tryd.f20 (codeOf Tryd.f20) [.int .u32 v] = 
  T.need (∃ ρ, SubSt (0 : Nat) ρ (St.mk [((0 : Nat), AV.int IntKind.u32 v), ((3 : Nat), AV.int IntKind.u32 (0 : Int)), ((4 : Nat), AV.int IntKind.i64 (0 : Int))] []) (tuSt (TU.mk v (0 : Nat)))) (T.need (tuInv (TU.mk v (0 : Nat))) (T.ret (AV.int IntKind.u32 (iW (BitVec.reverse (wI v)))))) := by
  kernel_rfl

theorem tu_loop : LoopOK Tryd.prog tuE (loopAt (codeOf Tryd.f20) 0) := by
  refine loopSumm_ok (E := tuE) EnvOK.nil (noLoops (by kernel_rfl)) tuSt tuInv (fun x => 32 - x.i) tuPick tuEnd ?_ (by kernel_rfl)
  rintro ⟨v, i⟩ ⟨h1, h2⟩ Q hq
  dsimp only at h1 h2
  refine round_keep [0, 3, 4] ?_
  rw [show tuSt ⟨v, i⟩ = tuX v (iW ((wI v).reverse >>> (32 - i))) i from rfl, tu_tree]
  have hw : IntKind.wrap IntKind.i64 ((i : Int) + 1) = ((i + 1 : Nat) : Int) := by rw [IntWalk.i64_in _ (by omega)]; omega
  obtain ⟨u1, u2⟩ := toNat_u64 (show i < 1000 by omega)
  refine T.hite (fun hi => ?_) (fun hi => ?_)
  · have hi : i < 32 := by have := of_decide_eq_true hi; omega
    refine T.hchk rfl (T.hchk (decide_eq_true u2) (T.hret ?_))
    have e : bits .or .u32 (IntKind.wrap .u32 (iW ((wI v).reverse >>> (32 - i)) * 2 ^ 1)) (bits .and .u32 (Int.fdiv v (2 ^ min (Int.toNat (IntKind.wrap .u64 (i : Int))) 32)) 1) = iW ((wI v).reverse >>> (32 - (i + 1))) := by
      rw [u1, Nat.min_eq_left (by omega), shlW]
      conv => lhs; rw [← iW_wI h2]
      rw [shrW, lit1, andW, orW, iW_wI h2, turn_step _ hi]
    exact Round.go ⟨v, i + 1⟩ id ⟨hi, h2⟩ (by dsimp only; omega) (SubSt.mk (by simp only [tuSt, tuX, e, hw]; simp [SubFr, slotAt, ren, below]) (Sub.nil _ _)) hq
  · have hi : i = 32 := by have := of_decide_eq_false hi; omega
    subst hi
    refine Round.out id _ ?_ hq
    exact SubSt.mk (by simp [SubFr, slotAt, ren, below]) (Sub.nil _ _)

def turnS : List AV → T AV
  | [.int .u32 v] => .chk (decide (0 ≤ v) && decide (v < 4294967296)) (.ret (.int .u32 (iW (wI v).reverse)))
  | _ => .fail

theorem turn_ok : SummOK Tryd.prog 20 (.pure fun args _ => turnS args) := by
  refine val_fn (E := tuE) (c := codeOf Tryd.f20) (fun args w => Tryd.call20 args w) Tryd.func20 rfl (EnvOK.nil) (oneLoop (by kernel_rfl) tu_loop) rfl rfl fun args Q hq => ?_
  unfold turnS at hq
  split at hq
  · rename_i v
    obtain ⟨k1, hq⟩ := hq
    have k2 : 0 ≤ v ∧ v < 4294967296 := by simpa using k1
    refine ⟨rfl, .int .u32 (iW (wI v).reverse), rfl, fun Q h => h.2, ⟨k1, rfl⟩, ?_⟩
    rw [tu_fn]
    have e : iW ((wI v).reverse >>> 32) = 0 := by
      unfold iW
      rw [BitVec.toNat_ushiftRight, Nat.shiftRight_eq_div_pow, Nat.div_eq_of_lt (wI v).reverse.isLt]; rfl
    exact T.hneed ⟨id, SubSt.mk (by simp only [tuSt, tuX, Nat.sub_zero, e]; simp [SubFr, slotAt, ren, below]) (Sub.nil _ _)⟩ (T.hneed ⟨Nat.zero_le _, k2⟩ (T.hret (Alike.refl _)))
  · exact hq.elim

noncomputable def gE : Env := { nt := Tryd.f21.ntmps, n0 := 0, fns := [], loop := fun _ _ => .fail }

theorem g_fn : vfn Tryd.prog gE Tryd.f21 (codeOf Tryd.f21) [] = 
  T.ret (AV.int IntKind.u32 (79764919 : Int)) := by
  kernel_rfl

def gS : List AV → T AV
  | [] => .ret (.int .u32 79764919)
  | _ => .fail

theorem g_ok : SummOK Tryd.prog 21 (.pure fun args _ => gS args) := by
  refine val_fn (E := gE) (c := codeOf Tryd.f21) (fun args w => Tryd.call21 args w) Tryd.func21 rfl (EnvOK.nil) (noLoops (by kernel_rfl)) rfl rfl fun args Q hq => ?_
  unfold gS at hq
  split at hq
  · exact ⟨rfl, _, rfl, fun Q h => h, rfl, by rw [g_fn]; exact Alike.refl _⟩
  · exact hq.elim

noncomputable def mrF : List (Nat × Summ) := [(21, .pure fun args _ => gS args), (20, .pure fun args _ => turnS args)]

theorem mrF_ok : EnvOK Tryd.prog mrF := EnvOK.cons g_ok (EnvOK.cons turn_ok EnvOK.nil)

/-! ### More -/

structure MB where
  n : Nat
  f : Nat → Int
  j : Nat
  len : Nat
  cp : Nat
  r : W32
  i : Nat
  k : Nat

def mrX (n : Nat) (f : Nat → Int) (j len cp : Nat) (l : Int) (i k : Nat) : St := ⟨[(1, .sl 0 0 1 j len cp), (5, .int .u32 l), (6, .int .i64 i), (7, .int .i64 k)], [some (cbV n f)]⟩

def mbSt (x : MB) : St := mrX x.n x.f x.j x.len x.cp (iW (runB x.r (gW x.f x.j x.i) x.k).reverse) x.i x.k

def mbInv (x : MB) : Prop := x.j + x.len ≤ x.n ∧ x.i < x.len ∧ x.k ≤ 8 ∧ 0 ≤ x.f (x.j + x.i) ∧ x.f (x.j + x.i) < 256

def mbPick (st : St) : Option MB :=
  match AM.get st.m 0, slotAt st.fr 1, slotAt st.fr 5, slotAt st.fr 6 with
  | some b, some (.sl _ _ _ j len cp), some (.int _ l), some (.int _ (.ofNat i)) => some ⟨b.n, intAt b, j, len, cp, (wI l).reverse, i, 0⟩
  | _, _, _, _ => none

def mbEnd (x : MB) : T (Ex × St) := .ret (.exit 2, ⟨[(1, .sl 0 0 1 x.j x.len x.cp), (5, .int .u32 (iW (byteP x.r (gW x.f x.j x.i)).reverse)), (6, .int .i64 x.i)], [some (cbV x.n x.f)]⟩)

def maX (n : Nat) (f : Nat → Int) (j len cp : Nat) (l : Int) (i : Nat) : St := ⟨[(1, .sl 0 0 1 j len cp), (5, .int .u32 l), (6, .int .i64 i)], [some (cbV n f)]⟩

def maSt (x : MB) : St := maX x.n x.f x.j x.len x.cp (iW (runP (gW x.f x.j) x.r x.i).reverse) x.i

def maInv (x : MB) : Prop := x.j + x.len ≤ x.n ∧ x.len ≤ 4611686018427387904 ∧ x.i ≤ x.len ∧ ∀ d, d < x.len → 0 ≤ x.f (x.j + d) ∧ x.f (x.j + d) < 256

def maPick (st : St) : Option MB :=
  match AM.get st.m 0, slotAt st.fr 1, slotAt st.fr 5 with
  | some b, some (.sl _ _ _ j len cp), some (.int _ l) => some ⟨b.n, intAt b, j, len, cp, (wI l).reverse, 0, 0⟩
  | _, _, _ => none

def maEnd (x : MB) : T (Ex × St) := .ret (.exit 0, ⟨[(5, .int .u32 (iW (runP (gW x.f x.j) x.r x.len).reverse))], [some (cbV x.n x.f)]⟩)

noncomputable def mrE : Env := { nt := Tryd.f13.ntmps, n0 := 1, fns := mrF, loop := fun k => if k = 3 then loopSumm 1 maSt maInv maPick maEnd else if k = 6 then loopSumm 1 mbSt mbInv mbPick mbEnd else fun _ => .fail }

noncomputable def mrE0 : Env := { nt := Tryd.f13.ntmps, n0 := 0, fns := mrF, loop := fun _ _ => .fail }

noncomputable def mrE1 : Env := { nt := Tryd.f13.ntmps, n0 := 0, fns := mrF, loop := fun k => if k = 3 then unrollN Tryd.prog mrE0 (loopAt (codeOf Tryd.f13) 0) 1 else fun _ => .fail }

theorem mb_tree (n : Nat) (f : Nat → Int) (j len cp : Nat) (l : Int) (i k : Nat) : keepT [1, 5, 6, 7] (acode Tryd.prog mrE (loopAt (loopAt (codeOf Tryd.f13) 0) 0) (mrX n f j len cp l i k)) = 
  T.ite (decide ((↑k : Int) < (8 : Int)))
    (T.chk true
      (T.chk (decide ((0 : Int) ≤ (↑i : Int)) && decide ((↑i : Int) < (↑len : Int)))
        (T.chk (decide (j + Int.toNat (↑i : Int) < n))
          (T.chk (decide ((0 : Int) ≤ IntKind.wrap IntKind.u64 (↑k : Int)))
            (T.chk true
              (T.ite (Int.fdiv l ((2 : Int) ^ (31 : Nat)) != bits BinOp.and IntKind.u32 (IntKind.wrap IntKind.u32 (Int.fdiv (f (j + Int.toNat (↑i : Int))) ((2 : Int) ^ min (Int.toNat (IntKind.wrap IntKind.u64 (↑k : Int))) (8 : Nat)))) (1 : Int))
                (T.ret
                  (Ex.norm,
                    St.mk [((1 : Nat), AV.sl (0 : Nat) (0 : Nat) (1 : Nat) j len cp), ((5 : Nat), AV.int IntKind.u32 (bits BinOp.xor IntKind.u32 (IntKind.wrap IntKind.u32 (l * (2 : Int) ^ (1 : Nat))) (79764919 : Int))), ((6 : Nat), AV.int IntKind.i64 (↑i : Int)), ((7 : Nat), AV.int IntKind.i64 (IntKind.wrap IntKind.i64 ((↑k : Int) + (1 : Int))))]
                      [some (Blk.mk false [] (1 : Nat) n (fun j => [AV.int IntKind.u8 (f j)]) [])]))
                (T.ret (Ex.norm, St.mk [((1 : Nat), AV.sl (0 : Nat) (0 : Nat) (1 : Nat) j len cp), ((5 : Nat), AV.int IntKind.u32 (IntKind.wrap IntKind.u32 (l * (2 : Int) ^ (1 : Nat)))), ((6 : Nat), AV.int IntKind.i64 (↑i : Int)), ((7 : Nat), AV.int IntKind.i64 (IntKind.wrap IntKind.i64 ((↑k : Int) + (1 : Int))))] [some (Blk.mk false [] (1 : Nat) n (fun j => [AV.int IntKind.u8 (f j)]) [])]))))))))
    (T.ret (Ex.exit (2 : Nat), St.mk [((1 : Nat), AV.sl (0 : Nat) (0 : Nat) (1 : Nat) j len cp), ((5 : Nat), AV.int IntKind.u32 l), ((6 : Nat), AV.int IntKind.i64 (↑i : Int)), ((7 : Nat), AV.int IntKind.i64 (↑k : Int))] [some (Blk.mk false [] (1 : Nat) n (fun j => [AV.int IntKind.u8 (f j)]) [])])) := by
  kernel_rfl

theorem ma_tree (n : Nat) (f : Nat → Int) (j len cp : Nat) (l : Int) (i : Nat) : keepT [1, 5, 6] (acode Tryd.prog mrE (loopAt (codeOf Tryd.f13) 0) (maX n f j len cp l i)) = 
  T.ite (decide ((↑i : Int) < (↑len : Int)))
    (T.need (∃ ρ, SubSt (1 : Nat) ρ (St.mk [((1 : Nat), AV.sl (0 : Nat) (0 : Nat) (1 : Nat) j len cp), ((5 : Nat), AV.int IntKind.u32 l), ((6 : Nat), AV.int IntKind.i64 (↑i : Int)), ((7 : Nat), AV.int IntKind.i64 (0 : Int))] [some (Blk.mk false [] (1 : Nat) n (fun j => [AV.int IntKind.u8 (f j)]) [])]) (mbSt (MB.mk n f j len cp (BitVec.reverse (wI l)) i (0 : Nat))))
      (T.need (mbInv (MB.mk n f j len cp (BitVec.reverse (wI l)) i (0 : Nat)))
        (T.ret (Ex.norm, St.mk [((1 : Nat), AV.sl (0 : Nat) (0 : Nat) (1 : Nat) j len cp), ((5 : Nat), AV.int IntKind.u32 (iW (BitVec.reverse (byteP (BitVec.reverse (wI l)) (gW f j i))))), ((6 : Nat), AV.int IntKind.i64 (IntKind.wrap IntKind.i64 ((↑i : Int) + (1 : Int))))] [some (Blk.mk false [] (1 : Nat) n (fun j => [AV.int IntKind.u8 (f j)]) [])]))))
    (T.ret (Ex.exit (0 : Nat), St.mk [((1 : Nat), AV.sl (0 : Nat) (0 : Nat) (1 : Nat) j len cp), ((5 : Nat), AV.int IntKind.u32 l), ((6 : Nat), AV.int IntKind.i64 (↑i : Int))] [some (Blk.mk false [] (1 : Nat) n (fun j => [AV.int IntKind.u8 (f j)]) [])])) := by
  kernel_rfl

theorem mr_fn (n : Nat) (f : Nat → Int) (j len cp : Nat) (s : Int) : afn Tryd.prog mrE Tryd.f13 (codeOf Tryd.f13) [.int .u32 s, .sl 0 0 1 j len cp] [some (cbV n f)] = 
  T.chk (decide ((0 : Int) ≤ bits BinOp.xor IntKind.u32 s (4294967295 : Int)) && decide (bits BinOp.xor IntKind.u32 s (4294967295 : Int) < (4294967296 : Int)))
    (T.need
      (∃ ρ,
        SubSt (1 : Nat) ρ (St.mk [((1 : Nat), AV.sl (0 : Nat) (0 : Nat) (1 : Nat) j len cp), ((5 : Nat), AV.int IntKind.u32 (iW (BitVec.reverse (wI (bits BinOp.xor IntKind.u32 s (4294967295 : Int)))))), ((6 : Nat), AV.int IntKind.i64 (0 : Int))] [some (Blk.mk false [] (1 : Nat) n (fun j => [AV.int IntKind.u8 (f j)]) [])])
          (maSt (MB.mk n f j len cp (BitVec.reverse (wI (iW (BitVec.reverse (wI (bits BinOp.xor IntKind.u32 s (4294967295 : Int))))))) (0 : Nat) (0 : Nat))))
      (T.need (maInv (MB.mk n f j len cp (BitVec.reverse (wI (iW (BitVec.reverse (wI (bits BinOp.xor IntKind.u32 s (4294967295 : Int))))))) (0 : Nat) (0 : Nat)))
        (T.chk (decide ((0 : Int) ≤ iW (BitVec.reverse (runP (gW f j) (BitVec.reverse (wI (iW (BitVec.reverse (wI (bits BinOp.xor IntKind.u32 s (4294967295 : Int))))))) len))) && decide (iW (BitVec.reverse (runP (gW f j) (BitVec.reverse (wI (iW (BitVec.reverse (wI (bits BinOp.xor IntKind.u32 s (4294967295 : Int))))))) len)) < (4294967296 : Int)))
          (T.ret (AV.int IntKind.u32 (bits BinOp.xor IntKind.u32 (iW (BitVec.reverse (wI (iW (BitVec.reverse (runP (gW f j) (BitVec.reverse (wI (iW (BitVec.reverse (wI (bits BinOp.xor IntKind.u32 s (4294967295 : Int))))))) len)))))) (4294967295 : Int)), [some (Blk.mk false [] (1 : Nat) n (fun j => [AV.int IntKind.u8 (f j)]) [])]))))) := by
  kernel_rfl

theorem mr_fn0 (s : Int) : afn Tryd.prog mrE1 Tryd.f13 (codeOf Tryd.f13) [.int .u32 s, .nils] [] = 
  T.chk (decide ((0 : Int) ≤ bits BinOp.xor IntKind.u32 s (4294967295 : Int)) && decide (bits BinOp.xor IntKind.u32 s (4294967295 : Int) < (4294967296 : Int)))
    (T.ite false T.fail
      (T.chk (decide ((0 : Int) ≤ iW (BitVec.reverse (wI (bits BinOp.xor IntKind.u32 s (4294967295 : Int))))) && decide (iW (BitVec.reverse (wI (bits BinOp.xor IntKind.u32 s (4294967295 : Int)))) < (4294967296 : Int)))
        (T.ret (AV.int IntKind.u32 (bits BinOp.xor IntKind.u32 (iW (BitVec.reverse (wI (iW (BitVec.reverse (wI (bits BinOp.xor IntKind.u32 s (4294967295 : Int)))))))) (4294967295 : Int)), [])))) := by
  kernel_rfl

end Go.Proofs.YtglokmbhpmamcaaDoor
