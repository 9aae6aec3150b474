/-
  Layer 20: slices.Index.
-/
import Derived.Test.YtnfngaapjodpcaaProg
import Derived.Test.YtnfngaapjodpcaaHOxPiece
import Derived.Test.YtnfngaapjodpcaaHOxZ
import Derived.Test.YtnfngaapjodpcaaHOxNest
namespace Go.Proofs.Ytnfngaapjodpcaa
open Go.Ox

set_option maxRecDepth 100000
set_option maxHeartbeats 4000000
set_option linter.unusedVariables false
set_option linter.unusedSimpArgs false

/-- Where a number stands first; -1: nowhere. -/
def ixR (z : Nat → Int) (v : Int) : Nat → Nat → Int
  | _, 0 => -1
  | i, k + 1 => if z i = v then (i : Int) else ixR z v (i + 1) k

theorem ixR_iff (z : Nat → Int) (v : Int) : ∀ k i, (0 ≤ ixR z v i k) ↔ ∃ j, i ≤ j ∧ j < i + k ∧ z j = v
  | 0, i => by simp only [ixR]; constructor; · intro h; omega
               · rintro ⟨j, h1, h2, _⟩; omega
  | k + 1, i => by
    simp only [ixR]
    by_cases h : z i = v
    · rw [if_pos h]; exact ⟨fun _ => ⟨i, Nat.le_refl _, by omega, h⟩, fun _ => by omega⟩
    · rw [if_neg h, ixR_iff z v k (i + 1)]
      constructor
      · rintro ⟨j, h1, h2, h3⟩; exact ⟨j, by omega, by omega, h3⟩
      · rintro ⟨j, h1, h2, h3⟩
        by_cases e : j = i
        · subst e; exact absurd h3 h
        · exact ⟨j, by omega, by omega, h3⟩

theorem ixR_congr {z y : Nat → Int} (v : Int) : ∀ k i, (∀ j, i ≤ j → j < i + k → z j = y j) → ixR z v i k = ixR y v i k
  | 0, i, _ => rfl
  | k + 1, i, h => by
    simp only [ixR]
    rw [h i (Nat.le_refl _) (by omega), ixR_congr v k (i + 1) fun j h1 h2 => h j (by omega) (by omega)]

structure IX where
  n : Nat
  f : Nat → Int
  j : Nat
  len : Nat
  cap : Nat
  v : Int
  i : Nat

def ixM (n : Nat) (f : Nat → Int) : AM := [some (Blk.rows false 1 n fun j => [.int .i64 (f j)])]

def ixSt (x : IX) : St := ⟨[(0, .sl 0 0 1 x.j x.len x.cap), (1, .int .i64 x.v), (7, .int .i64 x.len), (8, .int .i64 x.i)], ixM x.n x.f⟩

def ixInv (x : IX) : Prop := x.j + x.len ≤ x.n ∧ x.len ≤ 9223372036854775807 ∧ x.i ≤ x.len

def ixPick (st : St) : Option IX :=
  match slotAt st.fr 0, slotAt st.fr 1, AM.get st.m 0 with
  | some (.sl _ _ _ j len c), some (.int _ v), some b => some ⟨b.n, intAt b, j, len, c, v, 0⟩
  | _, _, _ => none

def ixEnd (x : IX) : T (Ex × St) :=
  .ite (decide (0 ≤ ixR (fun d => x.f (x.j + d)) x.v x.i (x.len - x.i))) (.ret (.ret, ⟨[(4, .int .i64 (ixR (fun d => x.f (x.j + d)) x.v x.i (x.len - x.i)))], ixM x.n x.f⟩)) (.ret (.exit 0, ⟨[], ixM x.n x.f⟩))

noncomputable def ixE : Env := { nt := Try.f43.ntmps, n0 := 1, fns := [], loop := fun k => if k = 2 then loopSumm 1 ixSt ixInv ixPick ixEnd else fun _ => .fail }

noncomputable def ixE0 : Env := { nt := Try.f43.ntmps, n0 := 0, fns := [], loop := fun _ _ => .fail }

noncomputable def ixE1 : Env := { ixE0 with loop := fun k => if k = 2 then unrollN Try.prog ixE0 (loopAt (codeOf Try.f43) 0) 1 else fun _ => .fail }

theorem ix_tree (n : Nat) (f : Nat → Int) (j len cap : Nat) (v : Int) (i : Nat) : keepT [0, 1, 4, 7, 8] (acode Try.prog ixE (loopAt (codeOf Try.f43) 0) (ixSt ⟨n, f, j, len, cap, v, i⟩)) = 
  T.ite (decide ((↑i : Int) < (↑len : Int)))
    (T.chk (decide ((0 : Int) ≤ (↑i : Int)) && decide ((↑i : Int) < (↑len : Int)))
      (T.chk (decide (j + Int.toNat (↑i : Int) < n))
        (T.ite (v == f (j + Int.toNat (↑i : Int))) (T.ret (Ex.ret, St.mk [((0 : Nat), AV.sl (0 : Nat) (0 : Nat) (1 : Nat) j len cap), ((1 : Nat), AV.int IntKind.i64 v), ((4 : Nat), AV.int IntKind.i64 (↑i : Int)), ((7 : Nat), AV.int IntKind.i64 (↑len : Int)), ((8 : Nat), AV.int IntKind.i64 (↑i : Int))] [some (Blk.mk false [] (1 : Nat) n (fun j => [AV.int IntKind.i64 (f j)]) [] none)]))
          (T.ret (Ex.norm, St.mk [((0 : Nat), AV.sl (0 : Nat) (0 : Nat) (1 : Nat) j len cap), ((1 : Nat), AV.int IntKind.i64 v), ((7 : Nat), AV.int IntKind.i64 (↑len : Int)), ((8 : Nat), AV.int IntKind.i64 (IntKind.wrap IntKind.i64 ((↑i : Int) + (1 : Int))))] [some (Blk.mk false [] (1 : Nat) n (fun j => [AV.int IntKind.i64 (f j)]) [] none)])))))
    (T.ret (Ex.exit (0 : Nat), St.mk [((0 : Nat), AV.sl (0 : Nat) (0 : Nat) (1 : Nat) j len cap), ((1 : Nat), AV.int IntKind.i64 v), ((7 : Nat), AV.int IntKind.i64 (↑len : Int)), ((8 : Nat), AV.int IntKind.i64 (↑i : Int))] [some (Blk.mk false [] (1 : Nat) n (fun j => [AV.int IntKind.i64 (f j)]) [] none)])) := by
  kernel_rfl

theorem ix_fn (n : Nat) (f : Nat → Int) (j len cap : Nat) (v : Int) : afn Try.prog ixE Try.f43 (codeOf Try.f43) [.sl 0 0 1 j len cap, .int .i64 v] (ixM n f) = 
  T.need (∃ ρ, SubSt (1 : Nat) ρ (St.mk [((0 : Nat), AV.sl (0 : Nat) (0 : Nat) (1 : Nat) j len cap), ((1 : Nat), AV.int IntKind.i64 v), ((7 : Nat), AV.int IntKind.i64 (↑len : Int)), ((8 : Nat), AV.int IntKind.i64 (0 : Int))] [some (Blk.mk false [] (1 : Nat) n (fun j => [AV.int IntKind.i64 (f j)]) [] none)]) (ixSt (IX.mk n f j len cap v (0 : Nat))))
    (T.need (ixInv (IX.mk n f j len cap v (0 : Nat)))
      (T.ite (decide ((0 : Int) ≤ ixR (fun d => f (j + d)) v (0 : Nat) (len - (0 : Nat)))) (T.ret (AV.int IntKind.i64 (ixR (fun d => f (j + d)) v (0 : Nat) (len - (0 : Nat))), [some (Blk.mk false [] (1 : Nat) n (fun j => [AV.int IntKind.i64 (f j)]) [] none)])) (T.ret (AV.int IntKind.i64 (-1 : Int), [some (Blk.mk false [] (1 : Nat) n (fun j => [AV.int IntKind.i64 (f j)]) [] none)])))) := by
  kernel_rfl

theorem ix_fn0 (a : Option Addr) (v : Int) : afn Try.prog ixE1 Try.f43 (codeOf Try.f43) [.esl a, .int .i64 v] [] = 
  T.ite false T.fail (T.ret (AV.int IntKind.i64 (-1 : Int), [])) := by
  kernel_rfl



set_option maxRecDepth 100000
set_option maxHeartbeats 4000000
set_option linter.unusedVariables false
set_option linter.unusedSimpArgs false

theorem ix_neg (z : Nat → Int) (v : Int) : ∀ k i, ¬ 0 ≤ ixR z v i k → ixR z v i k = -1
  | 0, i, _ => rfl
  | k + 1, i, h => by
    simp only [ixR] at h ⊢
    by_cases e : z i = v
    · rw [if_pos e] at h; omega
    · rw [if_neg e] at h ⊢; exact ix_neg z v k (i + 1) h

theorem ixR_hit {z : Nat → Int} {v : Int} {i k : Nat} (h : z i = v) : ixR z v i (k + 1) = i := if_pos h

theorem ixR_miss {z : Nat → Int} {v : Int} {i k : Nat} (h : ¬ z i = v) : ixR z v i (k + 1) = ixR z v (i + 1) k := if_neg h

theorem ix_loop : LoopOK Try.prog ixE (loopAt (codeOf Try.f43) 0) := by
  refine loopSumm_ok EnvOK.nil (noLoops (by kernel_rfl)) ixSt ixInv (fun x => x.len - x.i) ixPick ixEnd ?_ (by kernel_rfl)
  rintro ⟨n, f, j, len, cap, v, i⟩ ⟨h1, h2, h3⟩ Q hq
  dsimp only at h1 h2 h3
  refine round_keep [0, 1, 4, 7, 8] ?_
  rw [ix_tree]
  obtain ⟨hq1, hq2⟩ := hq
  dsimp only at hq1 hq2
  refine T.hite (fun hi => ?_) (fun hi => ?_)
  · have hi : (i : Int) < len := by simpa using hi
    have e : len - i = (len - (i + 1)) + 1 := by omega
    rw [e] at hq1 hq2
    refine T.hchk (by simp; omega) (T.hchk (by simp; omega) (T.hite (fun hx => ?_) (fun hx => ?_)))
    · have hx : f (j + i) = v := by have := (by simpa using hx : v = f (j + i)); exact this.symm
      refine Round.back id ⟨[(4, .int .i64 i)], ixM n f⟩ (SubSt.mk (by simp [SubFr, slotAt, ren, below]) (subInts (Nat.le_refl _))) ?_
      rw [ixR_hit (z := fun d => f (j + d)) hx] at hq1
      exact hq1 (decide_eq_true (by omega))
    · have hx : ¬ f (j + i) = v := fun h => (by simpa using hx : ¬ v = f (j + i)) h.symm
      refine Round.go ⟨n, f, j, len, cap, v, i + 1⟩ id ⟨h1, h2, by dsimp only; omega⟩ (by dsimp only; omega) (SubSt.mk ?_ (subInts (Nat.le_refl _))) ?_
      · have hw : IntKind.wrap IntKind.i64 ((i : Int) + 1) = ((i + 1 : Nat) : Int) := by rw [IntWalk.i64_in _ (by omega)]; omega
        simp [ixSt, ixM, SubFr, slotAt, ren, below, hw]
      · rw [ixR_miss (z := fun d => f (j + d)) hx] at hq1 hq2
        exact ⟨hq1, hq2⟩
  · have hi : ¬ (i : Int) < len := by simpa using hi
    refine Round.out id ⟨[], ixM n f⟩ (SubSt.mk (by simp [SubFr]) (subInts (Nat.le_refl _))) (hq2 ?_)
    rw [show len - i = 0 from by omega]; rfl

def ixS : List AV → AM → T AV
  | [a, .int .i64 v], m => T.opt (intsArg .i64 m a) fun p => .need p.need (.chk p.chk (.chk (decide (p.len ≤ 9223372036854775807)) (.ret (.int .i64 (ixR p.at_ v 0 p.len)))))
  | _, _ => .fail

theorem ix_eff (n : Nat) (f : Nat → Int) (j len cap : Nat) (v : Int) (h1 : j + len ≤ n) (h2 : len ≤ 9223372036854775807) :
    EffAt Try.prog 43 [.sl 0 0 1 j len cap, .int .i64 v] (ixM n f) (.ret (.int .i64 (ixR (fun d => f (j + d)) v 0 len), ixM n f)) := by
  refine fn_ok (E := ixE) (c := codeOf Try.f43) Try.func43 rfl EnvOK.nil (oneLoop (by kernel_rfl) ix_loop) rfl rfl fun Q hq => ?_
  rw [ix_fn]
  refine T.hneed ⟨id, SubSt.mk (by simp [ixSt, ixM, SubFr, slotAt, ren, below]) (subInts (Nat.le_refl _))⟩ (T.hneed ⟨h1, h2, Nat.zero_le _⟩ (T.hite (fun h => ?_) (fun h => ?_)))
  · exact leaf_of id hq (by simp [Alike, ren, conc]) (by simp [below]) (subInts (Nat.le_refl _))
  · have h := ix_neg (fun d => f (j + d)) v (len - 0) 0 (by simpa using h)
    rw [Nat.sub_zero] at h
    exact leaf_of id hq (by simp [Alike, ren, conc, h]) (by simp [below]) (subInts (Nat.le_refl _))

theorem ix_eff0 (a : Option Addr) (v : Int) : EffAt Try.prog 43 [.esl a, .int .i64 v] [] (.ret (.int .i64 (-1), [])) := by
  refine fn_ok (E := ixE1) (c := codeOf Try.f43) Try.func43 rfl EnvOK.nil (oneLoop (by kernel_rfl) (unroll_ok EnvOK.nil ixE0 rfl rfl rfl 1 (noLoops (by kernel_rfl)) (by kernel_rfl))) rfl rfl fun Q hq => ?_
  rw [ix_fn0]
  refine T.hite (fun h => by cases h) (fun h => ?_)
  exact leaf_of id hq (by simp [Alike, ren, conc]) (by simp [below]) (Sub.nil _ _)

theorem ixS_ok : SummOK Try.prog 43 (.pure ixS) := by
  refine ro_ok (fun args w => Try.call43 args w) ?_
  intro args m Q hq
  unfold ixS at hq ⊢
  split at hq
  · rename_i a v
    obtain ⟨p, hp, hq⟩ := T.holds_opt hq
    obtain ⟨k1, k2, k3, hq⟩ := hq
    rw [hp]
    refine ⟨⟨k1, k2, k3, by simp [plain, T.holds]⟩, ?_⟩
    rcases intsArg_some hp with ⟨a, rfl, rfl⟩ | ⟨id1, j1, l1, c1, b1, rfl, hb1, rfl⟩
    · exact ⟨⟨[], [.esl a, .int .i64 v], [], rfl, by simp, trivial, fun _ _ h => (by cases h), by simp [belowL, below], by simp [renL, ren], (ix_eff0 a v).mono fun Q h => h.2.2.2⟩⟩
    · exact ⟨⟨[id1], [.sl 0 0 1 j1 l1 c1, .int .i64 v], [some (intView .i64 b1)], rfl, by simp [AM.get_lt hb1], ⟨⟨_, hb1, IntRow.view k1 _ _⟩, trivial⟩, roOne rfl, by simp [belowL, below], by simp [renL, ren, out], (ix_eff b1.n (intAt b1) j1 l1 c1 v (by simpa using k2) (by simpa using k3)).mono fun Q h => h.2.2.2⟩⟩
  · exact hq.elim

def ixN (args : List AV) (m : AM) : T AV := ixS (args.map nrm) m

theorem ixN_ok : SummOK Try.prog 43 (.pure ixN) := pure_nrm ixS_ok



set_option maxRecDepth 100000
set_option maxHeartbeats 4000000
set_option linter.unusedVariables false
set_option linter.unusedSimpArgs false

structure OC where
  kd : Nat → Int
  fo : Nat → Int
  fa : Nat → Int
  fb : Nat → Int
  pa : Nat → Int
  ra : Nat → Int
  co : Nat → Int

def opsB (o : OC) (cap : Nat) : Blk := Blk.rows false 8 cap fun r => [.int .i64 (o.kd r), .part 0 [r], .int .i64 (o.fo r), .int .i64 (o.fa r), .int .i64 (o.fb r), .int .i64 (o.pa r), .int .i64 (o.ra r), .int .i64 (o.co r)]

def spA (G : Int) (len cap : Nat) : AV := .agg [.int .i64 G, .sl 1 0 8 0 len cap]

def spM (x : FD) (o : OC) (cap : Nat) : AM := [some (x.blk .i64), some (opsB o cap)]

def celB (v : AV) : Blk := ⟨false, [v], 0, 0, fun _ => [], [], none⟩

def hitB (x : FD) (op : Int) (i : Nat) : Bool := decide (0 ≤ ixR (fun q => x.z [q, i]) op 0 (x.ln [i]))

def usTo (x : FD) (op : Int) (i : Nat) : List Nat := (List.range i).filter (hitB x op)

def usF (x : FD) (op : Int) (i : Nat) (j : Nat) : Int := (((usTo x op i).getD j 0 : Nat) : Int)

noncomputable def whB : List (Nat × Summ) := [(43, .pure ixN)]

theorem whB_ok : EnvOK Try.prog whB := EnvOK.cons ixN_ok EnvOK.nil

noncomputable def whL : List (Nat × Func) := [(35, Try.f35), (36, Try.f36)]

theorem whL_ok : InlOK Try.prog whL := ⟨⟨fun args w => Try.call35 args w, Try.func35, rfl, by kernel_rfl⟩, ⟨fun args w => Try.call36 args w, Try.func36, rfl, by kernel_rfl⟩, trivial⟩

noncomputable def whE : Env := { nt := Try.f34.ntmps, n0 := 3, vec := true, fns := openAll (inl Try.prog whB whL), loop := fun _ _ => .fail }

theorem whE_ok : EnvOK Try.prog whE.fns := EnvOK.open_ (inl_ok whB_ok whL whL_ok)

noncomputable def whC : Code := loopAt (codeOf Try.f34) 0

def whF : AV := .fn (.func 35) [] [.ptr 2 0 0 0]

structure WX where
  x : FD
  o : OC
  len : Nat
  cap : Nat
  op : Int
  i : Nat
  hs : Bool
  c : Nat

def whM (x : FD) (o : OC) (cap : Nat) (op : Int) : AM := spM x o cap ++ [some (celB (.int .i64 op))]

def whSt (y : WX) : St :=
  match y.hs with
  | false => ⟨[(1, whF), (5, .nils), (9, .sl 1 0 8 0 y.len y.cap), (10, .int .i64 y.len), (11, .int .i64 y.i)], whM y.x y.o y.cap y.op⟩
  | true => ⟨[(1, whF), (5, .sl 3 0 1 0 (usTo y.x y.op y.i).length y.c), (9, .sl 1 0 8 0 y.len y.cap), (10, .int .i64 y.len), (11, .int .i64 y.i)], whM y.x y.o y.cap y.op ++ [some (apRow .i64 (usF y.x y.op y.i) (usTo y.x y.op y.i).length y.c)]⟩

theorem wh_a (x : FD) (o : OC) (G : Int) (len cap : Nat) (op : Int) : T.cut (keepT [1, 5, 9, 10, 11] (acodeL Try.prog whE ((chainOf (codeOf Try.f34)).take 3) ⟨[(0, spA G len cap), (1, whF)], whM x o cap op⟩)) [] = 
  T.ret
    (Ex.norm,
      St.mk [((1 : Nat), AV.fn (Fn.func (35 : FuncId)) [] [AV.ptr (2 : Nat) (0 : Nat) (0 : Nat) (0 : Nat)]), ((5 : Nat), AV.nils), ((9 : Nat), AV.sl (1 : Nat) (0 : Nat) (8 : Nat) (0 : Nat) len cap), ((10 : Nat), AV.int IntKind.i64 (↑len : Int)), ((11 : Nat), AV.int IntKind.i64 (0 : Int))]
        [some (Blk.mk false [] (0 : Nat) (0 : Nat) (fun x => []) [] (some fun js => Mem.mk (FD.nl x js) (FD.ad x js) (FD.ln x js) (FD.cp x js) (1 : Nat) fun q => [AV.int IntKind.i64 (FD.z x (q :: js))])),
          some (Blk.mk false [] (8 : Nat) cap (fun r => [AV.int IntKind.i64 (OC.kd o r), AV.part (0 : Nat) [r], AV.int IntKind.i64 (OC.fo o r), AV.int IntKind.i64 (OC.fa o r), AV.int IntKind.i64 (OC.fb o r), AV.int IntKind.i64 (OC.pa o r), AV.int IntKind.i64 (OC.ra o r), AV.int IntKind.i64 (OC.co o r)]) [] none), some (Blk.mk false [AV.int IntKind.i64 op] (0 : Nat) (0 : Nat) (fun x => []) [] none),
          some (Blk.mk true [AV.int IntKind.i64 G, AV.sl (1 : Nat) (0 : Nat) (8 : Nat) (0 : Nat) len cap] (0 : Nat) (0 : Nat) (fun x => []) [] none)]) := by
  kernel_rfl

theorem wh_t0 (x : FD) (o : OC) (len cap : Nat) (op : Int) (i c : Nat) : T.cut (keepT [1, 4, 5, 9, 10, 11] (acode Try.prog whE whC (whSt ⟨x, o, len, cap, op, i, false, c⟩))) [2, 6, 2, 1, 0, 2, 1, 0] = 
  T.ite (decide ((↑i : Int) < (↑len : Int)))
    (T.chk (decide ((0 : Int) ≤ (↑i : Int)) && decide ((↑i : Int) < (↑len : Int)))
      (T.chk (decide ((0 : Nat) + Int.toNat (↑i : Int) < cap))
        (T.chk (decide ((0 : Nat) + Int.toNat (↑i : Int) < cap))
          (T.chk (decide ((0 : Nat) + Int.toNat (↑i : Int) < cap))
            (T.chk (decide ((0 : Nat) + Int.toNat (↑i : Int) < cap))
              (T.chk (decide ((0 : Nat) + Int.toNat (↑i : Int) < cap))
                (T.chk (decide ((0 : Nat) + Int.toNat (↑i : Int) < cap))
                  (T.chk (decide ((0 : Nat) + Int.toNat (↑i : Int) < cap))
                    (T.chk (decide ((0 : Nat) + Int.toNat (↑i : Int) < cap))
                      (T.ite (FD.nl x [(0 : Nat) + Int.toNat (↑i : Int)])
                        (T.need True
                          (T.chk true
                            (T.chk true
                              (@T.chk (Ex × St) true
                                (T.ret
                                  (Ex.norm,
                                    St.mk [((1 : Nat), AV.fn (Fn.func (35 : FuncId)) [] [AV.ptr (2 : Nat) (0 : Nat) (0 : Nat) (0 : Nat)]), ((5 : Nat), AV.nils), ((9 : Nat), AV.sl (1 : Nat) (0 : Nat) (8 : Nat) (0 : Nat) len cap), ((10 : Nat), AV.int IntKind.i64 (↑len : Int)), ((11 : Nat), AV.int IntKind.i64 (IntKind.wrap IntKind.i64 ((↑i : Int) + (1 : Int))))]
                                      [some (Blk.mk false [] (0 : Nat) (0 : Nat) (fun x => []) [] (some fun js => Mem.mk (FD.nl x js) (FD.ad x js) (FD.ln x js) (FD.cp x js) (1 : Nat) fun q => [AV.int IntKind.i64 (FD.z x (q :: js))])),
                                        some (Blk.mk false [] (8 : Nat) cap (fun r => [AV.int IntKind.i64 (OC.kd o r), AV.part (0 : Nat) [r], AV.int IntKind.i64 (OC.fo o r), AV.int IntKind.i64 (OC.fa o r), AV.int IntKind.i64 (OC.fb o r), AV.int IntKind.i64 (OC.pa o r), AV.int IntKind.i64 (OC.ra o r), AV.int IntKind.i64 (OC.co o r)]) [] none),
                                        some (Blk.mk false [AV.int IntKind.i64 op] (0 : Nat) (0 : Nat) (fun x => []) [] none),
                                        some
                                          (Blk.mk true
                                            [AV.int IntKind.i64 (OC.kd o ((0 : Nat) + Int.toNat (↑i : Int))), AV.part (0 : Nat) [(0 : Nat) + Int.toNat (↑i : Int)], AV.int IntKind.i64 (OC.fo o ((0 : Nat) + Int.toNat (↑i : Int))), AV.int IntKind.i64 (OC.fa o ((0 : Nat) + Int.toNat (↑i : Int))), AV.int IntKind.i64 (OC.fb o ((0 : Nat) + Int.toNat (↑i : Int))),
                                              AV.int IntKind.i64 (OC.pa o ((0 : Nat) + Int.toNat (↑i : Int))), AV.int IntKind.i64 (OC.ra o ((0 : Nat) + Int.toNat (↑i : Int))), AV.int IntKind.i64 (OC.co o ((0 : Nat) + Int.toNat (↑i : Int)))]
                                            (0 : Nat) (0 : Nat) (fun a => []) [] none),
                                        some
                                          (Blk.mk true
                                            [AV.int IntKind.i64 (OC.kd o ((0 : Nat) + Int.toNat (↑i : Int))), AV.part (0 : Nat) [(0 : Nat) + Int.toNat (↑i : Int)], AV.int IntKind.i64 (OC.fo o ((0 : Nat) + Int.toNat (↑i : Int))), AV.int IntKind.i64 (OC.fa o ((0 : Nat) + Int.toNat (↑i : Int))), AV.int IntKind.i64 (OC.fb o ((0 : Nat) + Int.toNat (↑i : Int))),
                                              AV.int IntKind.i64 (OC.pa o ((0 : Nat) + Int.toNat (↑i : Int))), AV.int IntKind.i64 (OC.ra o ((0 : Nat) + Int.toNat (↑i : Int))), AV.int IntKind.i64 (OC.co o ((0 : Nat) + Int.toNat (↑i : Int)))]
                                            (0 : Nat) (0 : Nat) (fun x => []) [] none)]))))))
                        (T.need (IntRow IntKind.i64 (Blk.mk false [] (1 : Nat) (FD.cp x [(0 : Nat) + Int.toNat (↑i : Int)]) (fun a => [AV.int IntKind.i64 (FD.z x [a, (0 : Nat) + Int.toNat (↑i : Int)])]) [] none))
                          (T.chk (decide ((0 : Nat) + FD.ln x [(0 : Nat) + Int.toNat (↑i : Int)] ≤ FD.cp x [(0 : Nat) + Int.toNat (↑i : Int)]))
                            (T.chk (decide (FD.ln x [(0 : Nat) + Int.toNat (↑i : Int)] ≤ (9223372036854775807 : Nat)))
                              (T.ite (decide (ixR (fun i_1 => FD.z x [(0 : Nat) + i_1, (0 : Nat) + Int.toNat (↑i : Int)]) op (0 : Nat) (FD.ln x [(0 : Nat) + Int.toNat (↑i : Int)]) ≥ (0 : Int)))
                                (T.chk true
                                  (@T.chk (Ex × St) true
                                    (T.chk true
                                      (T.all fun c =>
                                        T.asm (decide ((1 : Nat) ≤ c))
                                          (T.ret
                                            (Ex.norm,
                                              St.mk
                                                [((1 : Nat), AV.fn (Fn.func (35 : FuncId)) [] [AV.ptr (2 : Nat) (0 : Nat) (0 : Nat) (0 : Nat)]), ((5 : Nat), AV.sl (7 : Nat) (0 : Nat) (1 : Nat) (0 : Nat) (1 : Nat) c), ((9 : Nat), AV.sl (1 : Nat) (0 : Nat) (8 : Nat) (0 : Nat) len cap), ((10 : Nat), AV.int IntKind.i64 (↑len : Int)),
                                                  ((11 : Nat), AV.int IntKind.i64 (IntKind.wrap IntKind.i64 ((↑i : Int) + (1 : Int))))]
                                                [some (Blk.mk false [] (0 : Nat) (0 : Nat) (fun x => []) [] (some fun js => Mem.mk (FD.nl x js) (FD.ad x js) (FD.ln x js) (FD.cp x js) (1 : Nat) fun q => [AV.int IntKind.i64 (FD.z x (q :: js))])),
                                                  some (Blk.mk false [] (8 : Nat) cap (fun r => [AV.int IntKind.i64 (OC.kd o r), AV.part (0 : Nat) [r], AV.int IntKind.i64 (OC.fo o r), AV.int IntKind.i64 (OC.fa o r), AV.int IntKind.i64 (OC.fb o r), AV.int IntKind.i64 (OC.pa o r), AV.int IntKind.i64 (OC.ra o r), AV.int IntKind.i64 (OC.co o r)]) [] none),
                                                  some (Blk.mk false [AV.int IntKind.i64 op] (0 : Nat) (0 : Nat) (fun x => []) [] none),
                                                  some
                                                    (Blk.mk true
                                                      [AV.int IntKind.i64 (OC.kd o ((0 : Nat) + Int.toNat (↑i : Int))), AV.part (0 : Nat) [(0 : Nat) + Int.toNat (↑i : Int)], AV.int IntKind.i64 (OC.fo o ((0 : Nat) + Int.toNat (↑i : Int))), AV.int IntKind.i64 (OC.fa o ((0 : Nat) + Int.toNat (↑i : Int))), AV.int IntKind.i64 (OC.fb o ((0 : Nat) + Int.toNat (↑i : Int))),
                                                        AV.int IntKind.i64 (OC.pa o ((0 : Nat) + Int.toNat (↑i : Int))), AV.int IntKind.i64 (OC.ra o ((0 : Nat) + Int.toNat (↑i : Int))), AV.int IntKind.i64 (OC.co o ((0 : Nat) + Int.toNat (↑i : Int)))]
                                                      (0 : Nat) (0 : Nat) (fun a => []) [] none),
                                                  some
                                                    (Blk.mk true
                                                      [AV.int IntKind.i64 (OC.kd o ((0 : Nat) + Int.toNat (↑i : Int))), AV.part (0 : Nat) [(0 : Nat) + Int.toNat (↑i : Int)], AV.int IntKind.i64 (OC.fo o ((0 : Nat) + Int.toNat (↑i : Int))), AV.int IntKind.i64 (OC.fa o ((0 : Nat) + Int.toNat (↑i : Int))), AV.int IntKind.i64 (OC.fb o ((0 : Nat) + Int.toNat (↑i : Int))),
                                                        AV.int IntKind.i64 (OC.pa o ((0 : Nat) + Int.toNat (↑i : Int))), AV.int IntKind.i64 (OC.ra o ((0 : Nat) + Int.toNat (↑i : Int))), AV.int IntKind.i64 (OC.co o ((0 : Nat) + Int.toNat (↑i : Int)))]
                                                      (0 : Nat) (0 : Nat) (fun x => []) [] none),
                                                  some (Blk.mk false [] (1 : Nat) (FD.cp x [(0 : Nat) + Int.toNat (↑i : Int)]) (fun a => [AV.int IntKind.i64 (FD.z x [a, (0 : Nat) + Int.toNat (↑i : Int)])]) [] none), some (Blk.mk true [] (1 : Nat) (1 : Nat) (fun i_1 => [AV.int IntKind.i64 (List.getD [(↑i : Int)] i_1 (0 : Int))]) [] none),
                                                  some (Blk.mk true [] (1 : Nat) c (fun r => if r < (0 : Nat) then [] else if r < (1 : Nat) then List.map (fun c => Col.at c ((0 : Nat) + (r - (0 : Nat)))) ([] ++ [Col.ints IntKind.i64 [(↑i : Int)]]) else AV.cells (AV.int IntKind.i64 (0 : Int))) [] none)]))))))
                                (T.ret
                                  (Ex.norm,
                                    St.mk [((1 : Nat), AV.fn (Fn.func (35 : FuncId)) [] [AV.ptr (2 : Nat) (0 : Nat) (0 : Nat) (0 : Nat)]), ((5 : Nat), AV.nils), ((9 : Nat), AV.sl (1 : Nat) (0 : Nat) (8 : Nat) (0 : Nat) len cap), ((10 : Nat), AV.int IntKind.i64 (↑len : Int)), ((11 : Nat), AV.int IntKind.i64 (IntKind.wrap IntKind.i64 ((↑i : Int) + (1 : Int))))]
                                      [some (Blk.mk false [] (0 : Nat) (0 : Nat) (fun x => []) [] (some fun js => Mem.mk (FD.nl x js) (FD.ad x js) (FD.ln x js) (FD.cp x js) (1 : Nat) fun q => [AV.int IntKind.i64 (FD.z x (q :: js))])),
                                        some (Blk.mk false [] (8 : Nat) cap (fun r => [AV.int IntKind.i64 (OC.kd o r), AV.part (0 : Nat) [r], AV.int IntKind.i64 (OC.fo o r), AV.int IntKind.i64 (OC.fa o r), AV.int IntKind.i64 (OC.fb o r), AV.int IntKind.i64 (OC.pa o r), AV.int IntKind.i64 (OC.ra o r), AV.int IntKind.i64 (OC.co o r)]) [] none),
                                        some (Blk.mk false [AV.int IntKind.i64 op] (0 : Nat) (0 : Nat) (fun x => []) [] none),
                                        some
                                          (Blk.mk true
                                            [AV.int IntKind.i64 (OC.kd o ((0 : Nat) + Int.toNat (↑i : Int))), AV.part (0 : Nat) [(0 : Nat) + Int.toNat (↑i : Int)], AV.int IntKind.i64 (OC.fo o ((0 : Nat) + Int.toNat (↑i : Int))), AV.int IntKind.i64 (OC.fa o ((0 : Nat) + Int.toNat (↑i : Int))), AV.int IntKind.i64 (OC.fb o ((0 : Nat) + Int.toNat (↑i : Int))),
                                              AV.int IntKind.i64 (OC.pa o ((0 : Nat) + Int.toNat (↑i : Int))), AV.int IntKind.i64 (OC.ra o ((0 : Nat) + Int.toNat (↑i : Int))), AV.int IntKind.i64 (OC.co o ((0 : Nat) + Int.toNat (↑i : Int)))]
                                            (0 : Nat) (0 : Nat) (fun a => []) [] none),
                                        some
                                          (Blk.mk true
                                            [AV.int IntKind.i64 (OC.kd o ((0 : Nat) + Int.toNat (↑i : Int))), AV.part (0 : Nat) [(0 : Nat) + Int.toNat (↑i : Int)], AV.int IntKind.i64 (OC.fo o ((0 : Nat) + Int.toNat (↑i : Int))), AV.int IntKind.i64 (OC.fa o ((0 : Nat) + Int.toNat (↑i : Int))), AV.int IntKind.i64 (OC.fb o ((0 : Nat) + Int.toNat (↑i : Int))),
                                              AV.int IntKind.i64 (OC.pa o ((0 : Nat) + Int.toNat (↑i : Int))), AV.int IntKind.i64 (OC.ra o ((0 : Nat) + Int.toNat (↑i : Int))), AV.int IntKind.i64 (OC.co o ((0 : Nat) + Int.toNat (↑i : Int)))]
                                            (0 : Nat) (0 : Nat) (fun x => []) [] none),
                                        some (Blk.mk false [] (1 : Nat) (FD.cp x [(0 : Nat) + Int.toNat (↑i : Int)]) (fun a => [AV.int IntKind.i64 (FD.z x [a, (0 : Nat) + Int.toNat (↑i : Int)])]) [] none)]))))))))))))))))
    (T.ret
      (Ex.exit (0 : Nat),
        St.mk [((1 : Nat), AV.fn (Fn.func (35 : FuncId)) [] [AV.ptr (2 : Nat) (0 : Nat) (0 : Nat) (0 : Nat)]), ((5 : Nat), AV.nils), ((9 : Nat), AV.sl (1 : Nat) (0 : Nat) (8 : Nat) (0 : Nat) len cap), ((10 : Nat), AV.int IntKind.i64 (↑len : Int)), ((11 : Nat), AV.int IntKind.i64 (↑i : Int))]
          [some (Blk.mk false [] (0 : Nat) (0 : Nat) (fun x => []) [] (some fun js => Mem.mk (FD.nl x js) (FD.ad x js) (FD.ln x js) (FD.cp x js) (1 : Nat) fun q => [AV.int IntKind.i64 (FD.z x (q :: js))])),
            some (Blk.mk false [] (8 : Nat) cap (fun r => [AV.int IntKind.i64 (OC.kd o r), AV.part (0 : Nat) [r], AV.int IntKind.i64 (OC.fo o r), AV.int IntKind.i64 (OC.fa o r), AV.int IntKind.i64 (OC.fb o r), AV.int IntKind.i64 (OC.pa o r), AV.int IntKind.i64 (OC.ra o r), AV.int IntKind.i64 (OC.co o r)]) [] none),
            some (Blk.mk false [AV.int IntKind.i64 op] (0 : Nat) (0 : Nat) (fun x => []) [] none)])) := by
  kernel_rfl

theorem wh_t1 (x : FD) (o : OC) (len cap : Nat) (op : Int) (i c : Nat) : T.cut (keepT [1, 4, 5, 9, 10, 11] (acode Try.prog whE whC (whSt ⟨x, o, len, cap, op, i, true, c⟩))) [2, 5, 2, 1, 0, 2, 0] = 
  T.ite (decide ((↑i : Int) < (↑len : Int)))
    (T.chk (decide ((0 : Int) ≤ (↑i : Int)) && decide ((↑i : Int) < (↑len : Int)))
      (T.chk (decide ((0 : Nat) + Int.toNat (↑i : Int) < cap))
        (T.chk (decide ((0 : Nat) + Int.toNat (↑i : Int) < cap))
          (T.chk (decide ((0 : Nat) + Int.toNat (↑i : Int) < cap))
            (T.chk (decide ((0 : Nat) + Int.toNat (↑i : Int) < cap))
              (T.chk (decide ((0 : Nat) + Int.toNat (↑i : Int) < cap))
                (T.chk (decide ((0 : Nat) + Int.toNat (↑i : Int) < cap))
                  (T.chk (decide ((0 : Nat) + Int.toNat (↑i : Int) < cap))
                    (T.chk (decide ((0 : Nat) + Int.toNat (↑i : Int) < cap))
                      (T.ite (FD.nl x [(0 : Nat) + Int.toNat (↑i : Int)])
                        (T.need True
                          (T.chk true
                            (T.chk true
                              (@T.chk (Ex × St) true
                                (T.ret
                                  (Ex.norm,
                                    St.mk
                                      [((1 : Nat), AV.fn (Fn.func (35 : FuncId)) [] [AV.ptr (2 : Nat) (0 : Nat) (0 : Nat) (0 : Nat)]), ((5 : Nat), AV.sl (3 : Nat) (0 : Nat) (1 : Nat) (0 : Nat) (List.length (usTo x op i)) c), ((9 : Nat), AV.sl (1 : Nat) (0 : Nat) (8 : Nat) (0 : Nat) len cap), ((10 : Nat), AV.int IntKind.i64 (↑len : Int)),
                                        ((11 : Nat), AV.int IntKind.i64 (IntKind.wrap IntKind.i64 ((↑i : Int) + (1 : Int))))]
                                      [some (Blk.mk false [] (0 : Nat) (0 : Nat) (fun x => []) [] (some fun js => Mem.mk (FD.nl x js) (FD.ad x js) (FD.ln x js) (FD.cp x js) (1 : Nat) fun q => [AV.int IntKind.i64 (FD.z x (q :: js))])),
                                        some (Blk.mk false [] (8 : Nat) cap (fun r => [AV.int IntKind.i64 (OC.kd o r), AV.part (0 : Nat) [r], AV.int IntKind.i64 (OC.fo o r), AV.int IntKind.i64 (OC.fa o r), AV.int IntKind.i64 (OC.fb o r), AV.int IntKind.i64 (OC.pa o r), AV.int IntKind.i64 (OC.ra o r), AV.int IntKind.i64 (OC.co o r)]) [] none),
                                        some (Blk.mk false [AV.int IntKind.i64 op] (0 : Nat) (0 : Nat) (fun x => []) [] none), some (Blk.mk true [] (1 : Nat) c (fun r => [AV.int IntKind.i64 (if r < List.length (usTo x op i) then usF x op i r else (0 : Int))]) [] none),
                                        some
                                          (Blk.mk true
                                            [AV.int IntKind.i64 (OC.kd o ((0 : Nat) + Int.toNat (↑i : Int))), AV.part (0 : Nat) [(0 : Nat) + Int.toNat (↑i : Int)], AV.int IntKind.i64 (OC.fo o ((0 : Nat) + Int.toNat (↑i : Int))), AV.int IntKind.i64 (OC.fa o ((0 : Nat) + Int.toNat (↑i : Int))), AV.int IntKind.i64 (OC.fb o ((0 : Nat) + Int.toNat (↑i : Int))),
                                              AV.int IntKind.i64 (OC.pa o ((0 : Nat) + Int.toNat (↑i : Int))), AV.int IntKind.i64 (OC.ra o ((0 : Nat) + Int.toNat (↑i : Int))), AV.int IntKind.i64 (OC.co o ((0 : Nat) + Int.toNat (↑i : Int)))]
                                            (0 : Nat) (0 : Nat) (fun a => []) [] none),
                                        some
                                          (Blk.mk true
                                            [AV.int IntKind.i64 (OC.kd o ((0 : Nat) + Int.toNat (↑i : Int))), AV.part (0 : Nat) [(0 : Nat) + Int.toNat (↑i : Int)], AV.int IntKind.i64 (OC.fo o ((0 : Nat) + Int.toNat (↑i : Int))), AV.int IntKind.i64 (OC.fa o ((0 : Nat) + Int.toNat (↑i : Int))), AV.int IntKind.i64 (OC.fb o ((0 : Nat) + Int.toNat (↑i : Int))),
                                              AV.int IntKind.i64 (OC.pa o ((0 : Nat) + Int.toNat (↑i : Int))), AV.int IntKind.i64 (OC.ra o ((0 : Nat) + Int.toNat (↑i : Int))), AV.int IntKind.i64 (OC.co o ((0 : Nat) + Int.toNat (↑i : Int)))]
                                            (0 : Nat) (0 : Nat) (fun x => []) [] none)]))))))
                        (T.need (IntRow IntKind.i64 (Blk.mk false [] (1 : Nat) (FD.cp x [(0 : Nat) + Int.toNat (↑i : Int)]) (fun a => [AV.int IntKind.i64 (FD.z x [a, (0 : Nat) + Int.toNat (↑i : Int)])]) [] none))
                          (T.chk (decide ((0 : Nat) + FD.ln x [(0 : Nat) + Int.toNat (↑i : Int)] ≤ FD.cp x [(0 : Nat) + Int.toNat (↑i : Int)]))
                            (T.chk (decide (FD.ln x [(0 : Nat) + Int.toNat (↑i : Int)] ≤ (9223372036854775807 : Nat)))
                              (T.ite (decide (ixR (fun i_1 => FD.z x [(0 : Nat) + i_1, (0 : Nat) + Int.toNat (↑i : Int)]) op (0 : Nat) (FD.ln x [(0 : Nat) + Int.toNat (↑i : Int)]) ≥ (0 : Int)))
                                (T.chk true
                                  (T.chk (decide ((0 : Nat) + c ≤ c))
                                    (T.chk (decide (List.length (usTo x op i) ≤ c))
                                      (T.chk (decide (List.length (usTo x op i) + (1 : Nat) ≤ (4294967296 : Nat)))
                                        (T.all fun c_1 =>
                                          T.all fun c_2 =>
                                            T.asm (decide (List.length (usTo x op i) + (1 : Nat) ≤ c_1 ∧ (c_2 = (0 : Nat) ∨ c_1 = c)))
                                              (T.ret
                                                (Ex.norm,
                                                  St.mk
                                                    [((1 : Nat), AV.fn (Fn.func (35 : FuncId)) [] [AV.ptr (2 : Nat) (0 : Nat) (0 : Nat) (0 : Nat)]), ((5 : Nat), AV.sl (8 : Nat) (0 : Nat) (1 : Nat) (0 : Nat) (List.length (usTo x op i) + (1 : Nat)) c_1), ((9 : Nat), AV.sl (1 : Nat) (0 : Nat) (8 : Nat) (0 : Nat) len cap), ((10 : Nat), AV.int IntKind.i64 (↑len : Int)),
                                                      ((11 : Nat), AV.int IntKind.i64 (IntKind.wrap IntKind.i64 ((↑i : Int) + (1 : Int))))]
                                                    [some (Blk.mk false [] (0 : Nat) (0 : Nat) (fun x => []) [] (some fun js => Mem.mk (FD.nl x js) (FD.ad x js) (FD.ln x js) (FD.cp x js) (1 : Nat) fun q => [AV.int IntKind.i64 (FD.z x (q :: js))])),
                                                      some (Blk.mk false [] (8 : Nat) cap (fun r => [AV.int IntKind.i64 (OC.kd o r), AV.part (0 : Nat) [r], AV.int IntKind.i64 (OC.fo o r), AV.int IntKind.i64 (OC.fa o r), AV.int IntKind.i64 (OC.fb o r), AV.int IntKind.i64 (OC.pa o r), AV.int IntKind.i64 (OC.ra o r), AV.int IntKind.i64 (OC.co o r)]) [] none),
                                                      some (Blk.mk false [AV.int IntKind.i64 op] (0 : Nat) (0 : Nat) (fun x => []) [] none), none,
                                                      some
                                                        (Blk.mk true
                                                          [AV.int IntKind.i64 (OC.kd o ((0 : Nat) + Int.toNat (↑i : Int))), AV.part (0 : Nat) [(0 : Nat) + Int.toNat (↑i : Int)], AV.int IntKind.i64 (OC.fo o ((0 : Nat) + Int.toNat (↑i : Int))), AV.int IntKind.i64 (OC.fa o ((0 : Nat) + Int.toNat (↑i : Int))), AV.int IntKind.i64 (OC.fb o ((0 : Nat) + Int.toNat (↑i : Int))),
                                                            AV.int IntKind.i64 (OC.pa o ((0 : Nat) + Int.toNat (↑i : Int))), AV.int IntKind.i64 (OC.ra o ((0 : Nat) + Int.toNat (↑i : Int))), AV.int IntKind.i64 (OC.co o ((0 : Nat) + Int.toNat (↑i : Int)))]
                                                          (0 : Nat) (0 : Nat) (fun a => []) [] none),
                                                      some
                                                        (Blk.mk true
                                                          [AV.int IntKind.i64 (OC.kd o ((0 : Nat) + Int.toNat (↑i : Int))), AV.part (0 : Nat) [(0 : Nat) + Int.toNat (↑i : Int)], AV.int IntKind.i64 (OC.fo o ((0 : Nat) + Int.toNat (↑i : Int))), AV.int IntKind.i64 (OC.fa o ((0 : Nat) + Int.toNat (↑i : Int))), AV.int IntKind.i64 (OC.fb o ((0 : Nat) + Int.toNat (↑i : Int))),
                                                            AV.int IntKind.i64 (OC.pa o ((0 : Nat) + Int.toNat (↑i : Int))), AV.int IntKind.i64 (OC.ra o ((0 : Nat) + Int.toNat (↑i : Int))), AV.int IntKind.i64 (OC.co o ((0 : Nat) + Int.toNat (↑i : Int)))]
                                                          (0 : Nat) (0 : Nat) (fun x => []) [] none),
                                                      some (Blk.mk false [] (1 : Nat) (FD.cp x [(0 : Nat) + Int.toNat (↑i : Int)]) (fun a => [AV.int IntKind.i64 (FD.z x [a, (0 : Nat) + Int.toNat (↑i : Int)])]) [] none), some (Blk.mk true [] (1 : Nat) (1 : Nat) (fun i_1 => [AV.int IntKind.i64 (List.getD [(↑i : Int)] i_1 (0 : Int))]) [] none),
                                                      some
                                                        (Blk.mk true [] (1 : Nat) c_1
                                                          (fun r =>
                                                            if r < List.length (usTo x op i) then [AV.int IntKind.i64 (if (0 : Nat) + r < List.length (usTo x op i) then usF x op i ((0 : Nat) + r) else (0 : Int))]
                                                            else
                                                              if r < List.length (usTo x op i) + (1 : Nat) then List.map (fun c => Col.at c ((0 : Nat) + (r - List.length (usTo x op i)))) ([] ++ [Col.ints IntKind.i64 [(↑i : Int)]])
                                                              else if c_2 = (0 : Nat) then AV.cells (AV.int IntKind.i64 (0 : Int)) else [AV.int IntKind.i64 (if (0 : Nat) + r < List.length (usTo x op i) then usF x op i ((0 : Nat) + r) else (0 : Int))])
                                                          [] none)])))))))
                                (T.ret
                                  (Ex.norm,
                                    St.mk
                                      [((1 : Nat), AV.fn (Fn.func (35 : FuncId)) [] [AV.ptr (2 : Nat) (0 : Nat) (0 : Nat) (0 : Nat)]), ((5 : Nat), AV.sl (3 : Nat) (0 : Nat) (1 : Nat) (0 : Nat) (List.length (usTo x op i)) c), ((9 : Nat), AV.sl (1 : Nat) (0 : Nat) (8 : Nat) (0 : Nat) len cap), ((10 : Nat), AV.int IntKind.i64 (↑len : Int)),
                                        ((11 : Nat), AV.int IntKind.i64 (IntKind.wrap IntKind.i64 ((↑i : Int) + (1 : Int))))]
                                      [some (Blk.mk false [] (0 : Nat) (0 : Nat) (fun x => []) [] (some fun js => Mem.mk (FD.nl x js) (FD.ad x js) (FD.ln x js) (FD.cp x js) (1 : Nat) fun q => [AV.int IntKind.i64 (FD.z x (q :: js))])),
                                        some (Blk.mk false [] (8 : Nat) cap (fun r => [AV.int IntKind.i64 (OC.kd o r), AV.part (0 : Nat) [r], AV.int IntKind.i64 (OC.fo o r), AV.int IntKind.i64 (OC.fa o r), AV.int IntKind.i64 (OC.fb o r), AV.int IntKind.i64 (OC.pa o r), AV.int IntKind.i64 (OC.ra o r), AV.int IntKind.i64 (OC.co o r)]) [] none),
                                        some (Blk.mk false [AV.int IntKind.i64 op] (0 : Nat) (0 : Nat) (fun x => []) [] none), some (Blk.mk true [] (1 : Nat) c (fun r => [AV.int IntKind.i64 (if r < List.length (usTo x op i) then usF x op i r else (0 : Int))]) [] none),
                                        some
                                          (Blk.mk true
                                            [AV.int IntKind.i64 (OC.kd o ((0 : Nat) + Int.toNat (↑i : Int))), AV.part (0 : Nat) [(0 : Nat) + Int.toNat (↑i : Int)], AV.int IntKind.i64 (OC.fo o ((0 : Nat) + Int.toNat (↑i : Int))), AV.int IntKind.i64 (OC.fa o ((0 : Nat) + Int.toNat (↑i : Int))), AV.int IntKind.i64 (OC.fb o ((0 : Nat) + Int.toNat (↑i : Int))),
                                              AV.int IntKind.i64 (OC.pa o ((0 : Nat) + Int.toNat (↑i : Int))), AV.int IntKind.i64 (OC.ra o ((0 : Nat) + Int.toNat (↑i : Int))), AV.int IntKind.i64 (OC.co o ((0 : Nat) + Int.toNat (↑i : Int)))]
                                            (0 : Nat) (0 : Nat) (fun a => []) [] none),
                                        some
                                          (Blk.mk true
                                            [AV.int IntKind.i64 (OC.kd o ((0 : Nat) + Int.toNat (↑i : Int))), AV.part (0 : Nat) [(0 : Nat) + Int.toNat (↑i : Int)], AV.int IntKind.i64 (OC.fo o ((0 : Nat) + Int.toNat (↑i : Int))), AV.int IntKind.i64 (OC.fa o ((0 : Nat) + Int.toNat (↑i : Int))), AV.int IntKind.i64 (OC.fb o ((0 : Nat) + Int.toNat (↑i : Int))),
                                              AV.int IntKind.i64 (OC.pa o ((0 : Nat) + Int.toNat (↑i : Int))), AV.int IntKind.i64 (OC.ra o ((0 : Nat) + Int.toNat (↑i : Int))), AV.int IntKind.i64 (OC.co o ((0 : Nat) + Int.toNat (↑i : Int)))]
                                            (0 : Nat) (0 : Nat) (fun x => []) [] none),
                                        some (Blk.mk false [] (1 : Nat) (FD.cp x [(0 : Nat) + Int.toNat (↑i : Int)]) (fun a => [AV.int IntKind.i64 (FD.z x [a, (0 : Nat) + Int.toNat (↑i : Int)])]) [] none)]))))))))))))))))
    (T.ret
      (Ex.exit (0 : Nat),
        St.mk [((1 : Nat), AV.fn (Fn.func (35 : FuncId)) [] [AV.ptr (2 : Nat) (0 : Nat) (0 : Nat) (0 : Nat)]), ((5 : Nat), AV.sl (3 : Nat) (0 : Nat) (1 : Nat) (0 : Nat) (List.length (usTo x op i)) c), ((9 : Nat), AV.sl (1 : Nat) (0 : Nat) (8 : Nat) (0 : Nat) len cap), ((10 : Nat), AV.int IntKind.i64 (↑len : Int)), ((11 : Nat), AV.int IntKind.i64 (↑i : Int))]
          [some (Blk.mk false [] (0 : Nat) (0 : Nat) (fun x => []) [] (some fun js => Mem.mk (FD.nl x js) (FD.ad x js) (FD.ln x js) (FD.cp x js) (1 : Nat) fun q => [AV.int IntKind.i64 (FD.z x (q :: js))])),
            some (Blk.mk false [] (8 : Nat) cap (fun r => [AV.int IntKind.i64 (OC.kd o r), AV.part (0 : Nat) [r], AV.int IntKind.i64 (OC.fo o r), AV.int IntKind.i64 (OC.fa o r), AV.int IntKind.i64 (OC.fb o r), AV.int IntKind.i64 (OC.pa o r), AV.int IntKind.i64 (OC.ra o r), AV.int IntKind.i64 (OC.co o r)]) [] none),
            some (Blk.mk false [AV.int IntKind.i64 op] (0 : Nat) (0 : Nat) (fun x => []) [] none), some (Blk.mk true [] (1 : Nat) c (fun r => [AV.int IntKind.i64 (if r < List.length (usTo x op i) then usF x op i r else (0 : Int))]) [] none)])) := by
  kernel_rfl

theorem wh_z0 (x : FD) (o : OC) (len cap : Nat) (op : Int) (i c : Nat) : T.cut (keepT [4] (acodeL Try.prog whE ((chainOf (codeOf Try.f34)).drop 4) (whSt ⟨x, o, len, cap, op, i, false, c⟩))) [] = 
  T.ret
    (Ex.ret,
      St.mk [((4 : Nat), AV.nils)]
        [some (Blk.mk false [] (0 : Nat) (0 : Nat) (fun x => []) [] (some fun js => Mem.mk (FD.nl x js) (FD.ad x js) (FD.ln x js) (FD.cp x js) (1 : Nat) fun q => [AV.int IntKind.i64 (FD.z x (q :: js))])),
          some (Blk.mk false [] (8 : Nat) cap (fun r => [AV.int IntKind.i64 (OC.kd o r), AV.part (0 : Nat) [r], AV.int IntKind.i64 (OC.fo o r), AV.int IntKind.i64 (OC.fa o r), AV.int IntKind.i64 (OC.fb o r), AV.int IntKind.i64 (OC.pa o r), AV.int IntKind.i64 (OC.ra o r), AV.int IntKind.i64 (OC.co o r)]) [] none), some (Blk.mk false [AV.int IntKind.i64 op] (0 : Nat) (0 : Nat) (fun x => []) [] none)]) := by
  kernel_rfl

theorem wh_z1 (x : FD) (o : OC) (len cap : Nat) (op : Int) (i c : Nat) : T.cut (keepT [4] (acodeL Try.prog whE ((chainOf (codeOf Try.f34)).drop 4) (whSt ⟨x, o, len, cap, op, i, true, c⟩))) [] = 
  T.ret
    (Ex.ret,
      St.mk [((4 : Nat), AV.sl (3 : Nat) (0 : Nat) (1 : Nat) (0 : Nat) (List.length (usTo x op i)) c)]
        [some (Blk.mk false [] (0 : Nat) (0 : Nat) (fun x => []) [] (some fun js => Mem.mk (FD.nl x js) (FD.ad x js) (FD.ln x js) (FD.cp x js) (1 : Nat) fun q => [AV.int IntKind.i64 (FD.z x (q :: js))])),
          some (Blk.mk false [] (8 : Nat) cap (fun r => [AV.int IntKind.i64 (OC.kd o r), AV.part (0 : Nat) [r], AV.int IntKind.i64 (OC.fo o r), AV.int IntKind.i64 (OC.fa o r), AV.int IntKind.i64 (OC.fb o r), AV.int IntKind.i64 (OC.pa o r), AV.int IntKind.i64 (OC.ra o r), AV.int IntKind.i64 (OC.co o r)]) [] none), some (Blk.mk false [AV.int IntKind.i64 op] (0 : Nat) (0 : Nat) (fun x => []) [] none),
          some (Blk.mk true [] (1 : Nat) c (fun r => [AV.int IntKind.i64 (if r < List.length (usTo x op i) then usF x op i r else (0 : Int))]) [] none)]) := by
  kernel_rfl

theorem wh_bl : (chainOf (codeOf Try.f34)).drop 3 = .block 0 (.loop whC) :: (chainOf (codeOf Try.f34)).drop 4 := by
  kernel_rfl

theorem wh_res : Try.f34.results.toList = [.tmp 4] := by
  kernel_rfl



set_option maxRecDepth 100000
set_option maxHeartbeats 4000000
set_option linter.unusedVariables false
set_option linter.unusedSimpArgs false

theorem us_hit {x : FD} {op : Int} {i : Nat} (h : hitB x op i = true) : usTo x op (i + 1) = usTo x op i ++ [i] := by
  unfold usTo; rw [List.range_succ, List.filter_append]; simp [h]

theorem us_miss {x : FD} {op : Int} {i : Nat} (h : hitB x op i = false) : usTo x op (i + 1) = usTo x op i := by
  unfold usTo; rw [List.range_succ, List.filter_append]; simp [h]

theorem us_len (x : FD) (op : Int) (i : Nat) : (usTo x op i).length ≤ i := by
  unfold usTo; exact Nat.le_trans (List.length_filter_le _ _) (by simp)

theorem usF_old {x : FD} {op : Int} {i j : Nat} (hj : j < (usTo x op i).length) : usF x op (i + 1) j = usF x op i j := by
  unfold usF
  by_cases h : hitB x op i = true
  · rw [us_hit h, List.getD_eq_getElem?_getD, List.getD_eq_getElem?_getD, List.getElem?_append_left hj]
  · rw [us_miss (by simpa using h)]

theorem usF_new {x : FD} {op : Int} {i : Nat} (h : hitB x op i = true) : usF x op (i + 1) (usTo x op i).length = (i : Int) := by
  unfold usF
  rw [us_hit h, List.getD_eq_getElem?_getD, List.getElem?_append_right (Nat.le_refl _)]
  simp

theorem part_ok {n i j j' : Nat} {ρ : Nat → Nat} {k : Nat} {l l' : List AV} (hr : ρ i = k) (h0 : i < n) (h : j = j') (t : LAlike n ρ l l') : LAlike n ρ (.part k [j] :: l) (.part i [j'] :: l') := by
  subst h hr
  exact ⟨⟨by simp [ren], by simpa [below] using h0, rfl⟩, t⟩

theorem aI {n : Nat} {ρ : Nat → Nat} {k : IntKind} {x y : Int} {l l' : List AV} (t : LAlike n ρ l l') (h : x = y := by first | rfl | omega) : LAlike n ρ (.int k x :: l) (.int k y :: l') := by
  subst h; exact ⟨⟨Ox.Alike_refl _, by simp [below], rfl⟩, t⟩

theorem aE {n : Nat} {ρ : Nat → Nat} : LAlike n ρ [] [] := by simp [LAlike]

theorem ops_ok {n cap : Nat} {ρ : Nat → Nat} {o : OC} (hr : ρ 0 = 0) (h0 : 0 < n) : BlkOK n ρ (opsB o cap) (opsB o cap) :=
  BlkOK.rows' (fun h => h) fun j _ => aI (part_ok hr h0 rfl (aI (aI (aI (aI (aI (aI aE)))))))

theorem cel_int {n : Nat} {ρ : Nat → Nat} {v : Int} {F : Nat → List AV} {r : Bool} : BlkOK n ρ ⟨r, [.int .i64 v], 0, 0, F, [], none⟩ (celB (.int .i64 v)) :=
  ⟨fun h => (by cases h), aI aE, rfl, rfl, (fun j hj => absurd hj (Nat.not_lt_zero _)), trivial, trivial⟩

/-- A list appended to, told by one outcome. -/
theorem vec_ok {n : Nat} {ρ : Nat → Nat} {k : IntKind} {F G : Nat → Int} {f : Nat → List AV} {x : Int} {L c' : Nat} {Z : Nat → List AV} (h1 : ∀ r, r < L → F r = G r) (h2 : x = G L) (hf : f = fun r => if r < L then [AV.int k (if 0 + r < L then F (0 + r) else 0)] else if r < L + 1 then List.map (fun c => Col.at c (0 + (r - L))) ([] ++ [Col.ints k [x]]) else Z r) (hZ : ∀ r, L + 1 ≤ r → Z r = [AV.int k 0]) :
    BlkOK n ρ ⟨true, [], 1, c', f, [], none⟩ (apRow k G (L + 1) c') := by
  subst hf
  refine BlkOK.rows (fun h => h) fun r hr => ?_
  rcases Nat.lt_or_ge r L with h | h
  · rw [if_pos h, if_pos (by omega), if_pos (by omega), Nat.zero_add]
    exact LAlike.ints (h1 r h)
  · rw [if_neg (by omega)]
    rcases Nat.lt_or_ge r (L + 1) with h' | h'
    · have : r = L := by omega
      subst this
      rw [if_pos h', if_pos h']
      simp only [List.nil_append, List.map_cons, List.map_nil, Col.at]
      exact LAlike.ints (by simpa using h2)
    · rw [if_neg (by omega), if_neg (by omega), hZ r h']
      exact LAlike.ints rfl

structure WI where
  i : Nat
  hs : Bool
  c : Nat

def whZ (x : FD) (o : OC) (len cap : Nat) (op : Int) (y : WI) : St := whSt ⟨x, o, len, cap, op, y.i, y.hs, y.c⟩

def whInv (x : FD) (len : Nat) (op : Int) (y : WI) : Prop := y.i ≤ len ∧ (y.hs = false → usTo x op y.i = []) ∧ (y.hs = true → (usTo x op y.i).length ≤ y.c ∧ 0 < (usTo x op y.i).length)

def whOut (x : FD) (o : OC) (len cap : Nat) (op : Int) (Q : Ex × St → Prop) : Prop := ((usTo x op len).length = 0 → Q (.exit 0, whZ x o len cap op ⟨len, false, 0⟩)) ∧ (0 < (usTo x op len).length → ∀ c, (usTo x op len).length ≤ c → Q (.exit 0, whZ x o len cap op ⟨len, true, c⟩))

theorem hit_of {x : FD} {op : Int} {i : Nat} (h : ixR (fun q => x.z [0 + q, 0 + Int.toNat (i : Int)]) op 0 (x.ln [0 + Int.toNat (i : Int)]) ≥ 0) : hitB x op i = true := by
  simp only [Nat.zero_add, Int.toNat_natCast] at h
  exact decide_eq_true h

theorem miss_of {x : FD} {op : Int} {i : Nat} (h : ¬ ixR (fun q => x.z [0 + q, 0 + Int.toNat (i : Int)]) op 0 (x.ln [0 + Int.toNat (i : Int)]) ≥ 0) : hitB x op i = false := by
  simp only [Nat.zero_add, Int.toNat_natCast] at h
  exact decide_eq_false h

theorem miss_nil {x : FD} {op : Int} {i : Nat} (hw : x.wf .i64) (h : x.nl [0 + Int.toNat (i : Int)] = true) : hitB x op i = false := by
  simp only [Nat.zero_add, Int.toNat_natCast] at h
  unfold hitB
  rw [(hw.nil _ h).1]
  rfl

theorem wh_sub0 (x : FD) (o : OC) (len cap : Nat) (op : Int) (i : Nat) {fr : List (Nat × AV)} {l : AM} (hf : SubFr 3 id fr (whZ x o len cap op ⟨i, false, 0⟩).fr) : SubSt 3 id ⟨fr, whM x o cap op ++ l⟩ (whZ x o len cap op ⟨i, false, 0⟩) := by
  refine SubSt.mk hf (Sub.of ⟨⟨_, rfl, x.ok⟩, ⟨_, rfl, ops_ok rfl (Nat.succ_pos _)⟩, ⟨_, rfl, cel_int⟩, trivial⟩ (fun _ _ _ _ h => h) (fun _ _ => rfl) (by simp [whZ, whSt, whM, spM]))

theorem wh_round0 (x : FD) (o : OC) (len cap : Nat) (op : Int) (hw : x.wf .i64) (hl : len ≤ cap) (hb : len ≤ 4294967295) (hm : ∀ r, r < cap → x.ln [r] ≤ 9223372036854775807) (Q : Ex × St → Prop) (i : Nat) (hy : whInv x len op ⟨i, false, 0⟩) (hQ : whOut x o len cap op Q) :
    AWp Try.prog whE whC (whZ x o len cap op ⟨i, false, 0⟩) (Round whE (whZ x o len cap op) (whInv x len op) (fun z => len - z.i) (fun _ => .asm false .fail) Q ⟨i, false, 0⟩) := by
  obtain ⟨h1, h2, h3⟩ := hy
  dsimp only at h1 h2 h3
  refine code_sound whE_ok _ (noLoops (by kernel_rfl)) _ _ (round_keep [1, 4, 5, 9, 10, 11] (T.cut_eq (wh_t0 x o len cap op i 0) ?_))
  have hle := hw.le
  refine T.hiteP (fun hi => ?_) (fun hi => ?_)
  · have hi : i < len := by omega
    have hi' : 0 + Int.toNat (i : Int) < cap := by omega
    have hwr : IntKind.wrap IntKind.i64 ((i : Int) + 1) = ((i + 1 : Nat) : Int) := by rw [IntWalk.i64_in _ (by omega)]; omega
    have go : hitB x op i = false → ∀ l, Round whE (whZ x o len cap op) (whInv x len op) (fun z => len - z.i) (fun _ => .asm false .fail) Q ⟨i, false, 0⟩ (.norm, ⟨[(1, whF), (5, .nils), (9, .sl 1 0 8 0 len cap), (10, .int .i64 len), (11, .int .i64 (IntKind.wrap IntKind.i64 ((i : Int) + 1)))], whM x o cap op ++ l⟩) := fun hh l =>
      Round.go ⟨i + 1, false, 0⟩ id ⟨by dsimp only; omega, fun _ => by dsimp only; rw [us_miss hh]; exact h2 rfl, fun h => by cases h⟩ (by dsimp only; omega) (wh_sub0 x o len cap op (i + 1) (by simp [whZ, whSt, SubFr, slotAt, ren, below, hwr, whF, renL, belowL])) any_ff
    refine T.hchk (by simp only [Bool.and_eq_true, decide_eq_true_eq]; omega) ?_
    iterate 8 refine T.hchk (decide_eq_true hi') ?_
    refine T.hite (fun hn => ?_) (fun hn => ?_)
    · exact T.hneed trivial (T.hchkT (T.hchkT (T.hchkT (T.hret (go (miss_nil hw hn) _)))))
    · refine T.hneed IntRow.rows (T.hchk (decide_eq_true (by have := hle [0 + Int.toNat (i : Int)]; omega)) (T.hchk (decide_eq_true (hm _ hi')) (T.hiteP (fun hh => ?_) (fun hh => T.hret (go (miss_of hh) _)))))
      refine T.hchkT (T.hchkT (T.hchkT (T.hall fun c => T.hasmP fun hc => T.hret ?_)))
      have e := us_hit (hit_of hh)
      rw [h2 rfl] at e
      refine Round.go ⟨i + 1, true, c⟩ (rhoL [0, 1, 2, 7]) ⟨by dsimp only; omega, (fun h => by cases h), fun _ => by dsimp only; rw [e]; exact ⟨hc, Nat.succ_pos _⟩⟩ (by dsimp only; omega) ?_ any_ff
      refine subStL _ rfl rfl rfl (Nat.le_of_ble_eq_true rfl) ?_ ⟨⟨_, rfl, x.ok⟩, ⟨_, rfl, ops_ok rfl (Nat.succ_pos _)⟩, ⟨_, rfl, cel_int⟩, ⟨_, rfl, ?_⟩, trivial⟩
      · simp [whZ, whSt, SubFr, slotAt, ren, below, hwr, whF, rhoL, e, renL, belowL, whM, spM]
      · rw [e]
        exact ap_first (F := usF x op (i + 1)) (by have := usF_new (hit_of hh); rw [h2 rfl] at this; exact this.symm)
  · have hi : i = len := by omega
    subst hi
    exact T.hret (Round.out id _ (wh_sub0 x o i cap op i (by simp [whZ, whSt, SubFr, slotAt, ren, below, whF, renL, belowL])) (hQ.1 (by rw [h2 rfl]; rfl)))



set_option maxRecDepth 100000
set_option maxHeartbeats 4000000
set_option linter.unusedVariables false
set_option linter.unusedSimpArgs false

theorem wh_sub1 (x : FD) (o : OC) (len cap : Nat) (op : Int) (i c : Nat) {fr : List (Nat × AV)} {l : AM} (hf : SubFr 4 id fr (whZ x o len cap op ⟨i, true, c⟩).fr) : SubSt 3 id ⟨fr, whM x o cap op ++ some (apRow .i64 (usF x op i) (usTo x op i).length c) :: l⟩ (whZ x o len cap op ⟨i, true, c⟩) := by
  refine SubSt.mk hf (Sub.of ⟨⟨_, rfl, x.ok⟩, ⟨_, rfl, ops_ok rfl (Nat.succ_pos _)⟩, ⟨_, rfl, cel_int⟩, ⟨_, rfl, ap_refl⟩, trivial⟩ (fun _ _ _ _ h => h) (fun _ _ => rfl) (by simp [whZ, whSt, whM, spM]))

theorem wh_round1 (x : FD) (o : OC) (len cap : Nat) (op : Int) (hw : x.wf .i64) (hl : len ≤ cap) (hb : len ≤ 4294967295) (hm : ∀ r, r < cap → x.ln [r] ≤ 9223372036854775807) (Q : Ex × St → Prop) (i c : Nat) (hy : whInv x len op ⟨i, true, c⟩) (hQ : whOut x o len cap op Q) :
    AWp Try.prog whE whC (whZ x o len cap op ⟨i, true, c⟩) (Round whE (whZ x o len cap op) (whInv x len op) (fun z => len - z.i) (fun _ => .asm false .fail) Q ⟨i, true, c⟩) := by
  obtain ⟨h1, h2, h3⟩ := hy
  dsimp only at h1 h2 h3
  obtain ⟨h3, h4⟩ := h3 rfl
  refine code_sound whE_ok _ (noLoops (by kernel_rfl)) _ _ (round_keep [1, 4, 5, 9, 10, 11] (T.cut_eq (wh_t1 x o len cap op i c) ?_))
  have hle := hw.le
  have hul := us_len x op i
  refine T.hiteP (fun hi => ?_) (fun hi => ?_)
  · have hi : i < len := by omega
    have hi' : 0 + Int.toNat (i : Int) < cap := by omega
    have hwr : IntKind.wrap IntKind.i64 ((i : Int) + 1) = ((i + 1 : Nat) : Int) := by rw [IntWalk.i64_in _ (by omega)]; omega
    have go : hitB x op i = false → ∀ l, Round whE (whZ x o len cap op) (whInv x len op) (fun z => len - z.i) (fun _ => .asm false .fail) Q ⟨i, true, c⟩ (.norm, ⟨[(1, whF), (5, .sl 3 0 1 0 (usTo x op i).length c), (9, .sl 1 0 8 0 len cap), (10, .int .i64 len), (11, .int .i64 (IntKind.wrap IntKind.i64 ((i : Int) + 1)))], whM x o cap op ++ some (apRow .i64 (usF x op i) (usTo x op i).length c) :: l⟩) := fun hh l => by
      have e := us_miss hh
      have ef : usF x op (i + 1) = usF x op i := by unfold usF; rw [e]
      refine Round.go ⟨i + 1, true, c⟩ id ⟨by dsimp only; omega, fun h => (by cases h), fun _ => by dsimp only; rw [e]; exact ⟨h3, h4⟩⟩ (by dsimp only; omega) ?_ any_ff
      rw [← e, ← ef]
      exact wh_sub1 x o len cap op (i + 1) c (by simp [whZ, whSt, SubFr, slotAt, ren, below, hwr, whF, renL, belowL])
    refine T.hchk (by simp only [Bool.and_eq_true, decide_eq_true_eq]; omega) ?_
    iterate 8 refine T.hchk (decide_eq_true hi') ?_
    refine T.hite (fun hn => ?_) (fun hn => ?_)
    · exact T.hneed trivial (T.hchkT (T.hchkT (T.hchkT (T.hret (go (miss_nil hw hn) _)))))
    · refine T.hneed IntRow.rows (T.hchk (decide_eq_true (by have := hle [0 + Int.toNat (i : Int)]; omega)) (T.hchk (decide_eq_true (hm _ hi')) (T.hiteP (fun hh => ?_) (fun hh => T.hret (go (miss_of hh) _)))))
      refine T.hchkT (T.hchk (decide_eq_true (by omega)) (T.hchk (decide_eq_true h3) (T.hchk (decide_eq_true (by omega)) (T.hall fun c' => T.hall fun d => T.hasmP fun hc => T.hret ?_))))
      have e := us_hit (hit_of hh)
      have el : (usTo x op (i + 1)).length = (usTo x op i).length + 1 := by rw [e]; simp
      refine Round.go ⟨i + 1, true, c'⟩ (rhoL [0, 1, 2, 8]) ⟨by dsimp only; omega, (fun h => by cases h), fun _ => by dsimp only; rw [el]; exact ⟨hc.1, Nat.succ_pos _⟩⟩ (by dsimp only; omega) ?_ any_ff
      refine subStL _ rfl rfl rfl (Nat.le_of_ble_eq_true rfl) ?_ ⟨⟨_, rfl, x.ok⟩, ⟨_, rfl, ops_ok rfl (Nat.succ_pos _)⟩, ⟨_, rfl, cel_int⟩, ⟨_, rfl, ?_⟩, trivial⟩
      · simp [whZ, whSt, SubFr, slotAt, ren, below, hwr, whF, rhoL, el, renL, belowL, whM, spM]
      · dsimp only [whZ]
        rw [el]
        refine vec_ok (F := usF x op i) (fun r hr => (usF_old hr).symm) (usF_new (hit_of hh)).symm rfl fun r hr => ?_
        split
        · rfl
        · rw [if_neg (by omega)]
  · have hi : i = len := by omega
    subst hi
    exact T.hret (Round.out id _ (wh_sub1 x o i cap op i c (l := []) (by simp [whZ, whSt, SubFr, slotAt, ren, below, whF, renL, belowL])) (hQ.2 h4 c h3))

/-- What where tells. -/
def whT (x : FD) (o : OC) (len cap : Nat) (op : Int) : T (AV × AM) :=
  .ite (decide ((usTo x op len).length = 0)) (.ret (.nils, whM x o cap op)) (.all fun c => .asm (decide ((usTo x op len).length ≤ c)) (.ret (.sl 3 0 1 0 (usTo x op len).length c, whM x o cap op ++ [some (apRow .i64 (usF x op len) (usTo x op len).length c)])))

theorem wh_eff (x : FD) (o : OC) (G : Int) (len cap : Nat) (op : Int) (hw : x.wf .i64) (hl : len ≤ cap) (hb : len ≤ 4294967295) (hm : ∀ r, r < cap → x.ln [r] ≤ 9223372036854775807) :
    EffAt Try.prog 34 [spA G len cap, whF] (whM x o cap op) (whT x o len cap op) := by
  refine fn_okA (E := whE) (c := codeOf Try.f34) Try.func34 rfl rfl rfl (Nat.le_of_ble_eq_true (by kernel_rfl)) fun Q hq => ?_
  have ea := wh_a x o G len cap op
  have z0 := wh_z0 x o len cap op len 0
  have z1 := wh_z1 x o len cap op len
  have hb' := wh_bl
  have hl3 : ∀ c ∈ (chainOf (codeOf Try.f34)).take 3, ∀ c' ∈ loopsIn c, LoopOK Try.prog whE c' := noLoopsL_ok (by kernel_rfl)
  have hl4 : ∀ c ∈ (chainOf (codeOf Try.f34)).drop 4, ∀ c' ∈ loopsIn c, LoopOK Try.prog whE c' := noLoopsL_ok (by kernel_rfl)
  generalize (chainOf (codeOf Try.f34)).drop 4 = D at z0 z1 hb' hl4
  generalize chainOf (codeOf Try.f34) = C at ea hb' hl3 ⊢
  refine awpl_cut (E := whE) whE_ok 3 hl3 (weak_keep [1, 5, 9, 10, 11] (T.cut_eq ea ?_))
  rw [hb']
  refine T.hret ⟨id, whZ x o len cap op ⟨0, false, 0⟩, wh_sub0 x o len cap op 0 (by simp [whZ, whSt, SubFr, slotAt, ren, below, whF, renL, belowL]), ?_⟩
  obtain ⟨q1, q2⟩ := hq
  refine awpl_block (awpl_one (loop_free (whZ x o len cap op) (whInv x len op) (fun z => len - z.i) (fun y hy => ?_) ⟨0, false, 0⟩ ⟨Nat.zero_le _, fun _ => rfl, fun h => by cases h⟩))
  have fin0 : (usTo x op len).length = 0 → AWpL Try.prog whE D (whZ x o len cap op ⟨len, false, 0⟩) (FnPost Try.prog Try.f34 3 Q) := fun h => by
    refine awpl_end (E := whE) whE_ok hl4 (weak_keep [4] (T.cut_eq z0 (T.hret ⟨id, ⟨[(4, .nils)], whM x o cap op⟩, SubSt.mk (by simp [SubFr, slotAt, ren, below]) (Sub.of ⟨⟨_, rfl, x.ok⟩, ⟨_, rfl, ops_ok rfl (Nat.succ_pos _)⟩, ⟨_, rfl, cel_int⟩, trivial⟩ (fun _ _ _ _ h => h) (fun _ _ => rfl) (by simp [whE, whM, spM])), ?_⟩)))
    unfold FnPost
    rw [wh_res]
    exact ⟨id, .nils, _, q1 (decide_eq_true h), by simp [Ox.Alike, oneOf, conc, ren], by simp [below], Sub.of ⟨⟨_, rfl, x.ok⟩, ⟨_, rfl, ops_ok rfl (Nat.succ_pos _)⟩, ⟨_, rfl, cel_int⟩, trivial⟩ (fun _ _ _ _ h => h) (fun _ _ => rfl) (by simp [whM, spM])⟩
  have fin1 : 0 < (usTo x op len).length → ∀ c, (usTo x op len).length ≤ c → AWpL Try.prog whE D (whZ x o len cap op ⟨len, true, c⟩) (FnPost Try.prog Try.f34 3 Q) := fun h c hc => by
    have q := q2 (decide_eq_false (by omega)) c (decide_eq_true hc)
    refine awpl_end (E := whE) whE_ok hl4 (weak_keep [4] (T.cut_eq (z1 c) (T.hret ⟨id, ⟨[(4, .sl 3 0 1 0 (usTo x op len).length c)], whM x o cap op ++ [some (apRow .i64 (usF x op len) (usTo x op len).length c)]⟩, SubSt.mk (by simp [SubFr, slotAt, ren, below, whM, spM]) (Sub.of ⟨⟨_, rfl, x.ok⟩, ⟨_, rfl, ops_ok rfl (Nat.succ_pos _)⟩, ⟨_, rfl, cel_int⟩, ⟨_, rfl, ap_refl⟩, trivial⟩ (fun _ _ _ _ h => h) (fun _ _ => rfl) (by simp [whE, whM, spM])), ?_⟩)))
    unfold FnPost
    rw [wh_res]
    exact ⟨id, .sl 3 0 1 0 (usTo x op len).length c, _, q, by simp [Ox.Alike, oneOf, conc, ren], by simp [below, whM, spM], Sub.of ⟨⟨_, rfl, x.ok⟩, ⟨_, rfl, ops_ok rfl (Nat.succ_pos _)⟩, ⟨_, rfl, cel_int⟩, ⟨_, rfl, ap_refl⟩, trivial⟩ (fun _ _ _ _ h => h) (fun _ _ => rfl) (by simp [whM, spM])⟩
  obtain ⟨i, hs, c⟩ := y
  cases hs
  · exact wh_round0 x o len cap op hw hl hb hm _ i ⟨hy.1, hy.2.1, fun h => by cases h⟩ ⟨fin0, fin1⟩
  · exact wh_round1 x o len cap op hw hl hb hm _ i c hy ⟨fin0, fin1⟩



set_option maxRecDepth 100000
set_option maxHeartbeats 4000000
set_option linter.unusedVariables false
set_option linter.unusedSimpArgs false

def spIn (x : FD) (o : OC) (cap : Nat) (m : AM) : Prop := m.get 0 = some (x.blk .i64) ∧ m.get 1 = some (opsB o cap)

def intCel (b : Blk) : Option Int :=
  match b.pre with
  | [.int .i64 v] => some v
  | _ => none

def BareC (b : Blk) : Prop := b.s = 0 ∧ b.n = 0 ∧ b.post = []

theorem intCel_ok {n : Nat} {ρ : Nat → Nat} {b : Blk} {v : Int} (h : intCel b = some v) (hb : BareC b) : BlkOK n ρ b (celB (.int .i64 v)) := by
  obtain ⟨h1, h2, h3⟩ := hb
  unfold intCel at h
  split at h
  · rename_i w e
    cases h
    exact ⟨fun h => (by cases h), by rw [e]; exact aI aE, by rw [h1]; rfl, by rw [h2]; rfl, (fun j hj => absurd hj (Nat.not_lt_zero j)), by rw [h3]; trivial, trivial⟩
  · cases h

def spOK (x : FD) (len cap : Nat) : Prop := x.wf .i64 ∧ len ≤ cap ∧ len ≤ 4294967295 ∧ ∀ r, r < cap → x.ln [r] ≤ 9223372036854775807

def whS (x : FD) (o : OC) (G : Int) (len cap : Nat) : List AV → AM → T (AV × AM)
  | [.agg [.int .i64 G', .sl 1 0 8 0 len' cap'], .fn (.func 35) [] [.ptr ob 0 0 0]], m => T.opt (m.get ob) fun b => T.opt (intCel b) fun op => .need (G' = G ∧ len' = len ∧ cap' = cap) (.need (spIn x o cap m) (.need (BareC b) (lift [0, 1, ob] m (whM x o cap op) (whT x o len cap op))))
  | _, _ => .fail

theorem spIn_ro {x : FD} {o : OC} {cap : Nat} {l : AM} (h : ∀ id b, l.get id = some b → b.rw = false) : ∀ id b, AM.get (spM x o cap ++ l) id = some b → b.rw = false := by
  intro id b hb
  match id, hb with
  | 0, hb => cases hb; rfl
  | 1, hb => cases hb; rfl
  | k + 2, hb => exact h k b hb

theorem whS_ok (x : FD) (o : OC) (G : Int) (len cap : Nat) (h : spOK x len cap) : SummOK Try.prog 34 (.eff (whS x o G len cap)) := by
  refine ⟨fun args w => Try.call34 args w, ?_⟩
  intro args m Q hq
  unfold whS at hq
  split at hq
  · rename_i G' len' cap' ob
    obtain ⟨b, hb, hq⟩ := T.holds_opt hq
    obtain ⟨op, hop, hq⟩ := T.holds_opt hq
    obtain ⟨⟨rfl, rfl, rfl⟩, ⟨m0, m1⟩, k, hq⟩ := hq
    obtain ⟨h1, h2, h3, h4⟩ := h
    have hsub : SubBlks 3 (Ox.out [0, 1, ob] m.length) m 0 (whM x o cap' op) := ⟨⟨_, m0, x.ok⟩, ⟨_, m1, ops_ok rfl (Nat.succ_pos _)⟩, ⟨_, hb, intCel_ok hop k⟩, trivial⟩
    refine lift_ok (wh_eff x o G' len' cap' op h1 h2 h3 h4) [0, 1, ob] rfl (by simp [AM.get_lt m0, AM.get_lt m1, AM.get_lt hb]) (Sub.ro hsub (spIn_ro (by intro id b' hb'; match id, hb' with | 0, hb' => cases hb'; rfl))) (by simp [belowL, below, spA, whF, whM, spM, AV.scalar]) (by simp [renL, ren, spA, whF, Ox.out]) Q hq
  · exact hq.elim

def usL (x : FD) (len : Nat) (op : Int) : List Nat := if 0 ≤ op ∧ op < len then usTo x op len else []

def usG (x : FD) (len : Nat) (op : Int) (j : Nat) : Int := (((usL x len op).getD j 0 : Nat) : Int)

noncomputable def usE (x : FD) (o : OC) (G : Int) (len cap : Nat) : Env := { nt := Try.f18.ntmps, n0 := 2, vec := true, fns := openAll [(34, .eff (whS x o G len cap))], loop := fun _ _ => .fail }

theorem us_fn (x : FD) (o : OC) (G : Int) (len cap : Nat) (op : Int) : T.cut (afn Try.prog (usE x o G len cap) Try.f18 (codeOf Try.f18) [spA G len cap, .int .i64 op] (spM x o cap)) [2, 0, 2, 0, 2, 0] = 
  T.ite (decide (op < (0 : Int)))
    (T.ret
      (AV.nils,
        [some (Blk.mk false [] (0 : Nat) (0 : Nat) (fun x => []) [] (some fun js => Mem.mk (FD.nl x js) (FD.ad x js) (FD.ln x js) (FD.cp x js) (1 : Nat) fun q => [AV.int IntKind.i64 (FD.z x (q :: js))])),
          some (Blk.mk false [] (8 : Nat) cap (fun r => [AV.int IntKind.i64 (OC.kd o r), AV.part (0 : Nat) [r], AV.int IntKind.i64 (OC.fo o r), AV.int IntKind.i64 (OC.fa o r), AV.int IntKind.i64 (OC.fb o r), AV.int IntKind.i64 (OC.pa o r), AV.int IntKind.i64 (OC.ra o r), AV.int IntKind.i64 (OC.co o r)]) [] none),
          some (Blk.mk true [AV.int IntKind.i64 G, AV.sl (1 : Nat) (0 : Nat) (8 : Nat) (0 : Nat) len cap] (0 : Nat) (0 : Nat) (fun x => []) [] none), some (Blk.mk true [AV.int IntKind.i64 op] (0 : Nat) (0 : Nat) (fun x => []) [] none)]))
    (T.ite (decide (op ≥ (↑len : Int)))
      (T.ret
        (AV.nils,
          [some (Blk.mk false [] (0 : Nat) (0 : Nat) (fun x => []) [] (some fun js => Mem.mk (FD.nl x js) (FD.ad x js) (FD.ln x js) (FD.cp x js) (1 : Nat) fun q => [AV.int IntKind.i64 (FD.z x (q :: js))])),
            some (Blk.mk false [] (8 : Nat) cap (fun r => [AV.int IntKind.i64 (OC.kd o r), AV.part (0 : Nat) [r], AV.int IntKind.i64 (OC.fo o r), AV.int IntKind.i64 (OC.fa o r), AV.int IntKind.i64 (OC.fb o r), AV.int IntKind.i64 (OC.pa o r), AV.int IntKind.i64 (OC.ra o r), AV.int IntKind.i64 (OC.co o r)]) [] none),
            some (Blk.mk true [AV.int IntKind.i64 G, AV.sl (1 : Nat) (0 : Nat) (8 : Nat) (0 : Nat) len cap] (0 : Nat) (0 : Nat) (fun x => []) [] none), some (Blk.mk true [AV.int IntKind.i64 op] (0 : Nat) (0 : Nat) (fun x => []) [] none)]))
      (T.need (G = G ∧ len = len ∧ cap = cap)
        (T.need
          (spIn x o cap
            [some (Blk.mk false [] (0 : Nat) (0 : Nat) (fun x => []) [] (some fun js => Mem.mk (FD.nl x js) (FD.ad x js) (FD.ln x js) (FD.cp x js) (1 : Nat) fun q => [AV.int IntKind.i64 (FD.z x (q :: js))])),
              some (Blk.mk false [] (8 : Nat) cap (fun r => [AV.int IntKind.i64 (OC.kd o r), AV.part (0 : Nat) [r], AV.int IntKind.i64 (OC.fo o r), AV.int IntKind.i64 (OC.fa o r), AV.int IntKind.i64 (OC.fb o r), AV.int IntKind.i64 (OC.pa o r), AV.int IntKind.i64 (OC.ra o r), AV.int IntKind.i64 (OC.co o r)]) [] none),
              some (Blk.mk true [AV.int IntKind.i64 G, AV.sl (1 : Nat) (0 : Nat) (8 : Nat) (0 : Nat) len cap] (0 : Nat) (0 : Nat) (fun x => []) [] none), some (Blk.mk true [AV.int IntKind.i64 op] (0 : Nat) (0 : Nat) (fun x => []) [] none)])
          (T.need (BareC (Blk.mk true [AV.int IntKind.i64 op] (0 : Nat) (0 : Nat) (fun x => []) [] none))
            (T.ite (decide (List.length (usTo x op len) = (0 : Nat)))
              (T.ret
                (AV.nils,
                  [some (Blk.mk false [] (0 : Nat) (0 : Nat) (fun x => []) [] (some fun js => Mem.mk (FD.nl x js) (FD.ad x js) (FD.ln x js) (FD.cp x js) (1 : Nat) fun q => [AV.int IntKind.i64 (FD.z x (q :: js))])),
                    some (Blk.mk false [] (8 : Nat) cap (fun r => [AV.int IntKind.i64 (OC.kd o r), AV.part (0 : Nat) [r], AV.int IntKind.i64 (OC.fo o r), AV.int IntKind.i64 (OC.fa o r), AV.int IntKind.i64 (OC.fb o r), AV.int IntKind.i64 (OC.pa o r), AV.int IntKind.i64 (OC.ra o r), AV.int IntKind.i64 (OC.co o r)]) [] none),
                    some (Blk.mk true [AV.int IntKind.i64 G, AV.sl (1 : Nat) (0 : Nat) (8 : Nat) (0 : Nat) len cap] (0 : Nat) (0 : Nat) (fun x => []) [] none), some (Blk.mk true [AV.int IntKind.i64 op] (0 : Nat) (0 : Nat) (fun x => []) [] none)]))
              (T.all fun c =>
                T.asm (decide (List.length (usTo x op len) ≤ c))
                  (T.ret
                    (AV.sl (4 : Nat) (0 : Nat) (1 : Nat) (0 : Nat) (List.length (usTo x op len)) c,
                      [some (Blk.mk false [] (0 : Nat) (0 : Nat) (fun x => []) [] (some fun js => Mem.mk (FD.nl x js) (FD.ad x js) (FD.ln x js) (FD.cp x js) (1 : Nat) fun q => [AV.int IntKind.i64 (FD.z x (q :: js))])),
                        some (Blk.mk false [] (8 : Nat) cap (fun r => [AV.int IntKind.i64 (OC.kd o r), AV.part (0 : Nat) [r], AV.int IntKind.i64 (OC.fo o r), AV.int IntKind.i64 (OC.fa o r), AV.int IntKind.i64 (OC.fb o r), AV.int IntKind.i64 (OC.pa o r), AV.int IntKind.i64 (OC.ra o r), AV.int IntKind.i64 (OC.co o r)]) [] none),
                        some (Blk.mk true [AV.int IntKind.i64 G, AV.sl (1 : Nat) (0 : Nat) (8 : Nat) (0 : Nat) len cap] (0 : Nat) (0 : Nat) (fun x => []) [] none), some (Blk.mk true [AV.int IntKind.i64 op] (0 : Nat) (0 : Nat) (fun x => []) [] none),
                        some (Blk.mk true [] (1 : Nat) c (fun j => [AV.int IntKind.i64 (if j < List.length (usTo x op len) then usF x op len j else (0 : Int))]) [] none)])))))))) := by
  kernel_rfl

def usT (x : FD) (o : OC) (len cap : Nat) (op : Int) : T (AV × AM) :=
  .ite (decide ((usL x len op).length = 0)) (.ret (.nils, spM x o cap)) (.all fun c => .asm (decide ((usL x len op).length ≤ c)) (.ret (.sl 2 0 1 0 (usL x len op).length c, spM x o cap ++ [some (apRow .i64 (usG x len op) (usL x len op).length c)])))

def usS (x : FD) (o : OC) (G : Int) (len cap : Nat) : List AV → AM → T (AV × AM)
  | [.agg [.int .i64 G', .sl 1 0 8 0 len' cap'], .int .i64 op], m => .need (G' = G ∧ len' = len ∧ cap' = cap) (.need (spIn x o cap m) (lift [0, 1] m (spM x o cap) (usT x o len cap op)))
  | _, _ => .fail

end Go.Proofs.Ytnfngaapjodpcaa
