/-
  Layer 2: turned.
-/
import Derived.Test.YtglokmbhpmamcaaDoorHQ
import Derived.Test.YtglokmbhpmamcaaDoorHOxZ
namespace Go.Proofs.YtglokmbhpmamcaaDoor
open Go.Ox
set_option maxRecDepth 100000
set_option maxHeartbeats 4000000
set_option linter.unusedVariables false
set_option linter.unusedSimpArgs false

theorem wI_nat {k : Nat} (h : k < 4294967296) : (wI (k : Int)).toNat = k := by
  unfold wI
  rw [BitVec.toNat_ofInt]
  omega

theorem xor8 {a b : Int} (ha : 0 ≤ a ∧ a < 256) (hb : 0 ≤ b ∧ b < 256) : wI (bits .xor .u8 a b) = wI a ^^^ wI b ∧ 0 ≤ bits .xor .u8 a b ∧ bits .xor .u8 a b < 256 := by
  obtain ⟨x, rfl⟩ : ∃ x : Nat, a = (x : Int) := ⟨a.toNat, by omega⟩
  obtain ⟨y, rfl⟩ : ∃ y : Nat, b = (y : Int) := ⟨b.toNat, by omega⟩
  have hx : x < 256 := by omega
  have hy : y < 256 := by omega
  have hxy : x ^^^ y < 256 := Nat.xor_lt_two_pow (n := 8) hx hy
  have e : bits .xor .u8 (x : Int) (y : Int) = ((x ^^^ y : Nat) : Int) := by
    show IntKind.wrap .u8 (((BitVec.ofInt 8 (x : Int)) ^^^ (BitVec.ofInt 8 (y : Int))).toNat : Int) = _
    have e1 : (BitVec.ofInt 8 (x : Int)).toNat = x := by rw [BitVec.toNat_ofInt]; omega
    have e2 : (BitVec.ofInt 8 (y : Int)).toNat = y := by rw [BitVec.toNat_ofInt]; omega
    rw [BitVec.toNat_xor, e1, e2, IntWalk.u8_in _ (by omega)]
  rw [e]
  refine ⟨?_, by omega, by omega⟩
  apply BitVec.eq_of_toNat_eq
  rw [BitVec.toNat_xor, wI_nat (by omega), wI_nat (by omega), wI_nat (by omega)]

structure TN where
  n1 : Nat
  f1 : Nat → Int
  n2 : Nat
  f2 : Nat → Int
  j2 : Nat
  l2 : Nat
  c2 : Nat
  f : Nat → Int
  len : Nat
  c : Nat
  i : Nat
  has : Bool

def tnF (f g : Nat → Int) (len i r : Nat) : Int := if r < len then (if r < i then bits .xor .u8 (f r) (g r) else f r) else 0

def tnB (f g : Nat → Int) (len i c : Nat) : Blk := Blk.rows true 1 c fun r => [.int .u8 (tnF f g len i r)]

def tnX (n1 : Nat) (f1 : Nat → Int) (n2 : Nat) (f2 : Nat → Int) (j2 l2 c2 : Nat) (h : Nat → Int) (len c i : Nat) : St := ⟨[(1, .sl 1 0 1 j2 l2 c2), (5, .sl 2 0 1 0 len c), (6, .int .i64 i)], [some (cbV n1 f1), some (cbV n2 f2), some (Blk.rows true 1 c fun r => [.int .u8 (h r)])]⟩

def tnSt (x : TN) : St :=
  match x.has with
  | true => tnX x.n1 x.f1 x.n2 x.f2 x.j2 x.l2 x.c2 (tnF x.f (fun d => x.f2 (x.j2 + d)) x.len x.i) x.len x.c x.i
  | false => ⟨[(1, .sl 1 0 1 x.j2 x.l2 x.c2), (5, .nils), (6, .int .i64 x.i)], [some (cbV x.n1 x.f1), some (cbV x.n2 x.f2)]⟩

def tnInv (x : TN) : Prop := x.j2 + x.l2 ≤ x.n2 ∧ x.l2 ≤ 4611686018427387904 ∧ x.len ≤ 4294967296 ∧ x.i ≤ x.len ∧ x.i ≤ x.l2 ∧ x.len ≤ x.c ∧ (x.has = false → x.i = 0 ∧ x.len = 0)

def tnPick (st : St) : Option TN :=
  match AM.get st.m 0, AM.get st.m 1, slotAt st.fr 1, slotAt st.fr 5 with
  | some a, some b, some (.sl _ _ _ j2 l2 c2), some (.sl id _ _ _ len c) =>
    match AM.get st.m id with
    | some o => some ⟨a.n, intAt a, b.n, intAt b, j2, l2, c2, intAt o, len, c, 0, true⟩
    | none => none
  | some a, some b, some (.sl _ _ _ j2 l2 c2), some .nils => some ⟨a.n, intAt a, b.n, intAt b, j2, l2, c2, fun _ => 0, 0, 0, 0, false⟩
  | _, _, _, _ => none

def tnEnd (x : TN) : T (Ex × St) :=
  match x.has with
  | true => .ret (.exit 0, ⟨[(5, .sl 2 0 1 0 x.len x.c)], [some (cbV x.n1 x.f1), some (cbV x.n2 x.f2), some (tnB x.f (fun d => x.f2 (x.j2 + d)) x.len (min x.len x.l2) x.c)]⟩)
  | false => .ret (.exit 0, ⟨[(5, .nils)], [some (cbV x.n1 x.f1), some (cbV x.n2 x.f2)]⟩)

noncomputable def tnG : List (Nat × Summ) := [(18, .eff copyBS)]

theorem tnG_ok : EnvOK Tryd.prog tnG := EnvOK.cons copyB_ok EnvOK.nil

noncomputable def tnE : Env := { nt := Tryd.f16.ntmps, n0 := 2, fns := tnG, loop := fun k => if k = 3 then loopSumm 2 tnSt tnInv tnPick tnEnd else fun _ => .fail }

noncomputable def tnE0 (n : Nat) : Env := { nt := Tryd.f16.ntmps, n0 := n, fns := tnG, loop := fun _ _ => .fail }

noncomputable def tnE1 (n : Nat) : Env := { nt := Tryd.f16.ntmps, n0 := n, fns := tnG, loop := fun k => if k = 3 then unrollN Tryd.prog (tnE0 n) (loopAt (codeOf Tryd.f16) 0) 1 else fun _ => .fail }

theorem tn_tree (n1 : Nat) (f1 : Nat → Int) (n2 : Nat) (f2 : Nat → Int) (j2 l2 c2 : Nat) (h : Nat → Int) (len c i : Nat) : keepT [1, 5, 6] (acode Tryd.prog tnE (loopAt (codeOf Tryd.f16) 0) (tnX n1 f1 n2 f2 j2 l2 c2 h len c i)) = 
  T.ite (decide ((↑i : Int) < (↑len : Int)))
    (T.ite (decide ((↑i : Int) < (↑l2 : Int)))
      (T.chk (decide ((0 : Int) ≤ (↑i : Int)) && decide ((↑i : Int) < (↑len : Int)))
        (T.chk (decide ((0 : Nat) + Int.toNat (↑i : Int) < c))
          (T.chk (decide ((0 : Int) ≤ (↑i : Int)) && decide ((↑i : Int) < (↑l2 : Int)))
            (T.chk (decide (j2 + Int.toNat (↑i : Int) < n2))
              (T.chk (decide ((0 : Int) ≤ (↑i : Int)) && decide ((↑i : Int) < (↑len : Int)))
                (T.chk (decide ((0 : Nat) + Int.toNat (↑i : Int) < c))
                  (T.ret
                    (Ex.norm,
                      St.mk [((1 : Nat), AV.sl (1 : Nat) (0 : Nat) (1 : Nat) j2 l2 c2), ((5 : Nat), AV.sl (2 : Nat) (0 : Nat) (1 : Nat) (0 : Nat) len c), ((6 : Nat), AV.int IntKind.i64 (IntKind.wrap IntKind.i64 ((↑i : Int) + (1 : Int))))]
                        [some (Blk.mk false [] (1 : Nat) n1 (fun j => [AV.int IntKind.u8 (f1 j)]) []), some (Blk.mk false [] (1 : Nat) n2 (fun j => [AV.int IntKind.u8 (f2 j)]) []),
                          some (Blk.mk true [] (1 : Nat) c (fun i_1 => if i_1 = (0 : Nat) + Int.toNat (↑i : Int) then List.set [AV.int IntKind.u8 (h ((0 : Nat) + Int.toNat (↑i : Int)))] (0 : Nat) (AV.int IntKind.u8 (bits BinOp.xor IntKind.u8 (h ((0 : Nat) + Int.toNat (↑i : Int))) (f2 (j2 + Int.toNat (↑i : Int))))) else [AV.int IntKind.u8 (h i_1)]) [])]))))))))
      (T.ret
        (Ex.exit (0 : Nat),
          St.mk [((1 : Nat), AV.sl (1 : Nat) (0 : Nat) (1 : Nat) j2 l2 c2), ((5 : Nat), AV.sl (2 : Nat) (0 : Nat) (1 : Nat) (0 : Nat) len c), ((6 : Nat), AV.int IntKind.i64 (↑i : Int))]
            [some (Blk.mk false [] (1 : Nat) n1 (fun j => [AV.int IntKind.u8 (f1 j)]) []), some (Blk.mk false [] (1 : Nat) n2 (fun j => [AV.int IntKind.u8 (f2 j)]) []), some (Blk.mk true [] (1 : Nat) c (fun r => [AV.int IntKind.u8 (h r)]) [])])))
    (T.ret
      (Ex.exit (0 : Nat),
        St.mk [((1 : Nat), AV.sl (1 : Nat) (0 : Nat) (1 : Nat) j2 l2 c2), ((5 : Nat), AV.sl (2 : Nat) (0 : Nat) (1 : Nat) (0 : Nat) len c), ((6 : Nat), AV.int IntKind.i64 (↑i : Int))]
          [some (Blk.mk false [] (1 : Nat) n1 (fun j => [AV.int IntKind.u8 (f1 j)]) []), some (Blk.mk false [] (1 : Nat) n2 (fun j => [AV.int IntKind.u8 (f2 j)]) []), some (Blk.mk true [] (1 : Nat) c (fun r => [AV.int IntKind.u8 (h r)]) [])])) := by
  kernel_rfl

theorem tn_treeN (n1 : Nat) (f1 : Nat → Int) (n2 : Nat) (f2 : Nat → Int) (j2 l2 c2 : Nat) : keepT [1, 5, 6] (acode Tryd.prog tnE (loopAt (codeOf Tryd.f16) 0) (tnSt ⟨n1, f1, n2, f2, j2, l2, c2, fun _ => 0, 0, 0, 0, false⟩)) = 
  T.ite (decide ((↑(0 : Nat) : Int) < (0 : Int)))
    (T.ite (decide ((↑(0 : Nat) : Int) < (↑l2 : Int))) T.fail (T.ret (Ex.exit (0 : Nat), St.mk [((1 : Nat), AV.sl (1 : Nat) (0 : Nat) (1 : Nat) j2 l2 c2), ((5 : Nat), AV.nils), ((6 : Nat), AV.int IntKind.i64 (↑(0 : Nat) : Int))] [some (Blk.mk false [] (1 : Nat) n1 (fun j => [AV.int IntKind.u8 (f1 j)]) []), some (Blk.mk false [] (1 : Nat) n2 (fun j => [AV.int IntKind.u8 (f2 j)]) [])])))
    (T.ret (Ex.exit (0 : Nat), St.mk [((1 : Nat), AV.sl (1 : Nat) (0 : Nat) (1 : Nat) j2 l2 c2), ((5 : Nat), AV.nils), ((6 : Nat), AV.int IntKind.i64 (↑(0 : Nat) : Int))] [some (Blk.mk false [] (1 : Nat) n1 (fun j => [AV.int IntKind.u8 (f1 j)]) []), some (Blk.mk false [] (1 : Nat) n2 (fun j => [AV.int IntKind.u8 (f2 j)]) [])])) := by
  kernel_rfl

theorem tn_fn (n : Nat) (f : Nat → Int) (j len cp n2 : Nat) (f2 : Nat → Int) (j2 l2 c2 : Nat) : afn Tryd.prog tnE Tryd.f16 (codeOf Tryd.f16) [.sl 0 0 1 j len cp, .sl 1 0 1 j2 l2 c2] [some (cbV n f), some (cbV n2 f2)] = 
  T.need (IntRow IntKind.u8 (Blk.mk false [] (1 : Nat) n (fun j => [AV.int IntKind.u8 (f j)]) []))
    (T.chk (decide (j + len ≤ n))
      (T.chk (decide (len ≤ (4294967296 : Nat)))
        (T.ite (decide ((0 : Nat) < len))
          (T.all fun c =>
            T.asm (decide (len ≤ c))
              (T.need
                (∃ ρ,
                  SubSt (2 : Nat) ρ
                    (St.mk [((1 : Nat), AV.sl (1 : Nat) (0 : Nat) (1 : Nat) j2 l2 c2), ((5 : Nat), AV.sl (2 : Nat) (0 : Nat) (1 : Nat) (0 : Nat) len c), ((6 : Nat), AV.int IntKind.i64 (0 : Int))]
                      [some (Blk.mk false [] (1 : Nat) n (fun j => [AV.int IntKind.u8 (f j)]) []), some (Blk.mk false [] (1 : Nat) n2 (fun j => [AV.int IntKind.u8 (f2 j)]) []), some (Blk.mk true [] (1 : Nat) c (fun j_1 => [AV.int IntKind.u8 (if j_1 < len then f (j + ((0 : Nat) + j_1)) else (0 : Int))]) [])])
                    (tnSt (TN.mk n f n2 f2 j2 l2 c2 (fun j_1 => if j_1 < len then f (j + ((0 : Nat) + j_1)) else (0 : Int)) len c (0 : Nat) true)))
                (T.need (tnInv (TN.mk n f n2 f2 j2 l2 c2 (fun j_1 => if j_1 < len then f (j + ((0 : Nat) + j_1)) else (0 : Int)) len c (0 : Nat) true))
                  (T.ret
                    (AV.sl (2 : Nat) (0 : Nat) (1 : Nat) (0 : Nat) len c,
                      [some (Blk.mk false [] (1 : Nat) n (fun j => [AV.int IntKind.u8 (f j)]) []), some (Blk.mk false [] (1 : Nat) n2 (fun j => [AV.int IntKind.u8 (f2 j)]) []), some (Blk.mk true [] (1 : Nat) c (fun r => [AV.int IntKind.u8 (tnF (fun j_1 => if j_1 < len then f (j + ((0 : Nat) + j_1)) else (0 : Int)) (fun d => f2 (j2 + d)) len (min len l2) r)]) [])])))))
          (T.need
            (∃ ρ,
              SubSt (2 : Nat) ρ (St.mk [((1 : Nat), AV.sl (1 : Nat) (0 : Nat) (1 : Nat) j2 l2 c2), ((5 : Nat), AV.nils), ((6 : Nat), AV.int IntKind.i64 (0 : Int))] [some (Blk.mk false [] (1 : Nat) n (fun j => [AV.int IntKind.u8 (f j)]) []), some (Blk.mk false [] (1 : Nat) n2 (fun j => [AV.int IntKind.u8 (f2 j)]) [])])
                (tnSt (TN.mk n f n2 f2 j2 l2 c2 (fun x => (0 : Int)) (0 : Nat) (0 : Nat) (0 : Nat) false)))
            (T.need (tnInv (TN.mk n f n2 f2 j2 l2 c2 (fun x => (0 : Int)) (0 : Nat) (0 : Nat) (0 : Nat) false)) (T.ret (AV.nils, [some (Blk.mk false [] (1 : Nat) n (fun j => [AV.int IntKind.u8 (f j)]) []), some (Blk.mk false [] (1 : Nat) n2 (fun j => [AV.int IntKind.u8 (f2 j)]) [])]))))))) := by
  kernel_rfl

theorem tn_fn0 : afn Tryd.prog (tnE1 0) Tryd.f16 (codeOf Tryd.f16) [.nils, .nils] [] = 
  T.ite false (T.ite false T.fail (T.ret (AV.nils, []))) (T.ret (AV.nils, [])) := by
  kernel_rfl

theorem tn_fnr (n2 : Nat) (f2 : Nat → Int) (j2 l2 c2 : Nat) : afn Tryd.prog (tnE1 1) Tryd.f16 (codeOf Tryd.f16) [.nils, .sl 0 0 1 j2 l2 c2] [some (cbV n2 f2)] = 
  T.ite false (T.ite (decide ((0 : Int) < (↑l2 : Int))) T.fail (T.ret (AV.nils, [some (Blk.mk false [] (1 : Nat) n2 (fun j => [AV.int IntKind.u8 (f2 j)]) [])]))) (T.ret (AV.nils, [some (Blk.mk false [] (1 : Nat) n2 (fun j => [AV.int IntKind.u8 (f2 j)]) [])])) := by
  kernel_rfl

theorem tn_fnl (n : Nat) (f : Nat → Int) (j len cp : Nat) : afn Tryd.prog (tnE1 1) Tryd.f16 (codeOf Tryd.f16) [.sl 0 0 1 j len cp, .nils] [some (cbV n f)] = 
  T.need (IntRow IntKind.u8 (Blk.mk false [] (1 : Nat) n (fun j => [AV.int IntKind.u8 (f j)]) []))
    (T.chk (decide (j + len ≤ n))
      (T.chk (decide (len ≤ (4294967296 : Nat)))
        (T.ite (decide ((0 : Nat) < len))
          (T.all fun c =>
            T.asm (decide (len ≤ c))
              (T.ite (decide ((0 : Int) < (↑len : Int)))
                (T.ite false (T.chk (decide ((0 : Int) ≤ (0 : Int)) && decide ((0 : Int) < (↑len : Int))) (T.chk (decide ((0 : Nat) < c)) T.fail))
                  (T.ret (AV.sl (1 : Nat) (0 : Nat) (1 : Nat) (0 : Nat) len c, [some (Blk.mk false [] (1 : Nat) n (fun j => [AV.int IntKind.u8 (f j)]) []), some (Blk.mk true [] (1 : Nat) c (fun j_1 => [AV.int IntKind.u8 (if j_1 < len then f (j + ((0 : Nat) + j_1)) else (0 : Int))]) [])])))
                (T.ret (AV.sl (1 : Nat) (0 : Nat) (1 : Nat) (0 : Nat) len c, [some (Blk.mk false [] (1 : Nat) n (fun j => [AV.int IntKind.u8 (f j)]) []), some (Blk.mk true [] (1 : Nat) c (fun j_1 => [AV.int IntKind.u8 (if j_1 < len then f (j + ((0 : Nat) + j_1)) else (0 : Int))]) [])]))))
          (T.ite false (T.ite false T.fail (T.ret (AV.nils, [some (Blk.mk false [] (1 : Nat) n (fun j => [AV.int IntKind.u8 (f j)]) [])]))) (T.ret (AV.nils, [some (Blk.mk false [] (1 : Nat) n (fun j => [AV.int IntKind.u8 (f j)]) [])])))))) := by
  kernel_rfl

theorem tn_loop : LoopOK Tryd.prog tnE (loopAt (codeOf Tryd.f16) 0) := by
  refine loopSumm_ok (E := tnE) tnG_ok (noLoops (by kernel_rfl)) tnSt tnInv (fun x => x.len - x.i) tnPick tnEnd ?_ (by kernel_rfl)
  rintro ⟨n1, f1, n2, f2, j2, l2, c2, f, len, c, i, has⟩ ⟨h1, h2, h3, h4, h5, h6, h7⟩ Q hq
  dsimp only at h1 h2 h3 h4 h5 h6 h7
  refine round_keep [1, 5, 6] ?_
  cases has with
  | false =>
    obtain ⟨rfl, rfl⟩ := h7 rfl
    rw [show tnSt ⟨n1, f1, n2, f2, j2, l2, c2, f, 0, c, 0, false⟩ = tnSt ⟨n1, f1, n2, f2, j2, l2, c2, fun _ => 0, 0, 0, 0, false⟩ from rfl, tn_treeN]
    refine T.hite (fun h => absurd (of_decide_eq_true h) (by omega)) (fun _ => T.hret ?_)
    refine Round.out (rhoL [0, 1]) _ ?_ hq
    exact subStL _ rfl rfl rfl (Nat.le_of_ble_eq_true rfl) (by simp [SubFr, slotAt, ren, below]) ⟨⟨_, rfl, BlkOK.rows' (fun h => h) fun r _ => LAlike.ints rfl⟩, ⟨_, rfl, BlkOK.rows' (fun h => h) fun r _ => LAlike.ints rfl⟩, trivial⟩
  | true =>
    rw [show tnSt ⟨n1, f1, n2, f2, j2, l2, c2, f, len, c, i, true⟩ = tnX n1 f1 n2 f2 j2 l2 c2 (tnF f (fun d => f2 (j2 + d)) len i) len c i from rfl, tn_tree]
    have hw : IntKind.wrap IntKind.i64 ((i : Int) + 1) = ((i + 1 : Nat) : Int) := by rw [IntWalk.i64_in _ (by omega)]; omega
    have out : ∀ k, k = min len l2 → k = i → SubSt 2 (rhoL [0, 1, 2]) ⟨[(1, .sl 1 0 1 j2 l2 c2), (5, .sl 2 0 1 0 len c), (6, .int .i64 i)], [some (cbV n1 f1), some (cbV n2 f2), some (Blk.rows true 1 c fun r => [.int .u8 (tnF f (fun d => f2 (j2 + d)) len i r)])]⟩ ⟨[(5, .sl 2 0 1 0 len c)], [some (cbV n1 f1), some (cbV n2 f2), some (tnB f (fun d => f2 (j2 + d)) len (min len l2) c)]⟩ := by
      rintro k rfl hk
      refine subStL _ rfl rfl rfl (Nat.le_of_ble_eq_true rfl) (by simp [SubFr, slotAt, ren, below, rhoL]) ⟨⟨_, rfl, BlkOK.rows' (fun h => h) fun r _ => LAlike.ints rfl⟩, ⟨_, rfl, BlkOK.rows' (fun h => h) fun r _ => LAlike.ints rfl⟩, ⟨_, rfl, BlkOK.rows' (fun h => h) fun r _ => LAlike.ints (by rw [hk])⟩, trivial⟩
    refine T.hite (fun hi => T.hite (fun hi2 => ?_) (fun hi2 => ?_)) (fun hi => ?_)
    · have hi : i < len := by have := of_decide_eq_true hi; omega
      have hi2 : i < l2 := by have := of_decide_eq_true hi2; omega
      refine T.hchk (by simp; omega) (T.hchk (by simp; omega) (T.hchk (by simp; omega) (T.hchk (by simp; omega) (T.hchk (by simp; omega) (T.hchk (by simp; omega) (T.hret ?_))))))
      refine Round.go ⟨n1, f1, n2, f2, j2, l2, c2, f, len, c, i + 1, true⟩ (rhoL [0, 1, 2]) ⟨h1, h2, h3, hi, hi2, h6, (fun h => by cases h)⟩ (by dsimp only; omega) (subStL _ rfl rfl rfl (Nat.le_of_ble_eq_true rfl) (by simp [tnSt, tnX, SubFr, slotAt, ren, below, rhoL, hw]) ⟨⟨_, rfl, BlkOK.rows' (fun h => h) fun r _ => LAlike.ints rfl⟩, ⟨_, rfl, BlkOK.rows' (fun h => h) fun r _ => LAlike.ints rfl⟩, ⟨_, rfl, BlkOK.rows' (fun h => h) fun r _ => ?_⟩, trivial⟩) hq
      have hi0 : Int.toNat (i : Int) = i := rfl
      by_cases hr : r = i
      · subst hr
        rw [if_pos (by omega)]
        refine LAlike.ints ?_
        unfold tnF
        simp [hi]
      · rw [if_neg (by omega)]
        refine LAlike.ints ?_
        unfold tnF
        have : (r < i + 1) = (r < i) := by simp; omega
        simp [this]
    · have hi2 : i = l2 := by have := of_decide_eq_false hi2; omega
      have hi : i < len := by have := of_decide_eq_true hi; omega
      exact T.hret (Round.out (rhoL [0, 1, 2]) _ (out i (by omega) rfl) hq)
    · have hi : i = len := by have := of_decide_eq_false hi; omega
      exact T.hret (Round.out (rhoL [0, 1, 2]) _ (out i (by omega) rfl) hq)

end Go.Proofs.YtglokmbhpmamcaaDoor
