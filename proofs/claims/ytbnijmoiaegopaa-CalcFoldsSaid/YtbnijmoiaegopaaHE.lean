/-
  Layer 10: total; Folds.
-/
import Derived.Test.YtbnijmoiaegopaaHD
namespace Go.Proofs.Ytbnijmoiaegopaa
open Go.Ox
set_option maxRecDepth 100000
set_option linter.unusedVariables false
set_option linter.unusedSimpArgs false

def stp (op v x : Int) : Int := if op = 1 then IntKind.wrap .i64 (v + x) else if op = 2 then (if x < v then x else v) else if op = 3 then (if x > v then x else v) else v
def tot (op : Int) (g : Nat → Int) : Nat → Int
  | 0 => g 0
  | k + 1 => stp op (tot op g k) (g (k + 1))

structure TO where
  op : Int
  n : Nat
  f : Nat → Int
  j : Nat
  len : Nat
  c : Nat
  k : Nat
def toB (n : Nat) (f : Nat → Int) : Blk := Blk.rows false 1 n fun j => [.int .i64 (f j)]
def toSt (x : TO) : St := ⟨[(0, .int .i64 x.op), (1, .sl 0 0 1 x.j x.len x.c), (5, .int .i64 (tot x.op (fun d => x.f (x.j + d)) x.k)), (6, .int .i64 ((x.k + 1 : Nat) : Int))], [some (toB x.n x.f)]⟩
def toInv (x : TO) : Prop := x.j + x.len ≤ x.n ∧ x.len ≤ 4611686018427387904 ∧ x.k + 1 ≤ x.len
def toPick (st : St) : Option TO :=
  match slotAt st.fr 0, slotAt st.fr 1, AM.get st.m 0 with
  | some (.int _ op), some (.sl _ _ _ j len c), some b => some ⟨op, b.n, intAt b, j, len, c, 0⟩
  | _, _, _ => none
def toEnd (x : TO) : T (Ex × St) := .ret (.exit 0, ⟨[(5, .int .i64 (tot x.op (fun d => x.f (x.j + d)) (x.len - 1)))], [some (toB x.n x.f)]⟩)
noncomputable def toE : Env := { nt := 46, n0 := 1, fns := [], loop := fun k => if k = 5 then loopSumm 1 toSt toInv toPick toEnd else fun _ => .fail }

theorem to_tree (op : Int) (n : Nat) (f : Nat → Int) (j len c k : Nat) : keepT [0, 1, 5, 6] (acode Try.prog toE (loopAt (codeOf Try.f25) 0) (toSt ⟨op, n, f, j, len, c, k⟩)) = 
  T.ite (decide ((↑(k + (1 : Nat)) : Int) < (↑len : Int)))
    (T.ite (op == (1 : Int))
      (T.chk (decide ((0 : Int) ≤ (↑(k + (1 : Nat)) : Int)) && decide ((↑(k + (1 : Nat)) : Int) < (↑len : Int)))
        (T.chk (decide (j + Int.toNat (↑(k + (1 : Nat)) : Int) < n))
          (T.ret
            (Ex.norm,
              St.mk [((0 : Nat), AV.int IntKind.i64 op), ((1 : Nat), AV.sl (0 : Nat) (0 : Nat) (1 : Nat) j len c), ((5 : Nat), AV.int IntKind.i64 (IntKind.wrap IntKind.i64 (tot op (fun d => f (j + d)) k + f (j + Int.toNat (↑(k + (1 : Nat)) : Int))))), ((6 : Nat), AV.int IntKind.i64 (IntKind.wrap IntKind.i64 ((↑(k + (1 : Nat)) : Int) + (1 : Int))))]
                [some (Blk.mk false [] (1 : Nat) n (fun j => [AV.int IntKind.i64 (f j)]) [])]))))
      (T.ite (op == (2 : Int))
        (T.chk (decide ((0 : Int) ≤ (↑(k + (1 : Nat)) : Int)) && decide ((↑(k + (1 : Nat)) : Int) < (↑len : Int)))
          (T.chk (decide (j + Int.toNat (↑(k + (1 : Nat)) : Int) < n))
            (T.ret
              (Ex.norm,
                St.mk
                  [((0 : Nat), AV.int IntKind.i64 op), ((1 : Nat), AV.sl (0 : Nat) (0 : Nat) (1 : Nat) j len c), ((5 : Nat), AV.int IntKind.i64 (if f (j + Int.toNat (↑(k + (1 : Nat)) : Int)) < tot op (fun d => f (j + d)) k then f (j + Int.toNat (↑(k + (1 : Nat)) : Int)) else tot op (fun d => f (j + d)) k)),
                    ((6 : Nat), AV.int IntKind.i64 (IntKind.wrap IntKind.i64 ((↑(k + (1 : Nat)) : Int) + (1 : Int))))]
                  [some (Blk.mk false [] (1 : Nat) n (fun j => [AV.int IntKind.i64 (f j)]) [])]))))
        (T.ite (op == (3 : Int))
          (T.chk (decide ((0 : Int) ≤ (↑(k + (1 : Nat)) : Int)) && decide ((↑(k + (1 : Nat)) : Int) < (↑len : Int)))
            (T.chk (decide (j + Int.toNat (↑(k + (1 : Nat)) : Int) < n))
              (T.ret
                (Ex.norm,
                  St.mk
                    [((0 : Nat), AV.int IntKind.i64 op), ((1 : Nat), AV.sl (0 : Nat) (0 : Nat) (1 : Nat) j len c), ((5 : Nat), AV.int IntKind.i64 (if f (j + Int.toNat (↑(k + (1 : Nat)) : Int)) > tot op (fun d => f (j + d)) k then f (j + Int.toNat (↑(k + (1 : Nat)) : Int)) else tot op (fun d => f (j + d)) k)),
                      ((6 : Nat), AV.int IntKind.i64 (IntKind.wrap IntKind.i64 ((↑(k + (1 : Nat)) : Int) + (1 : Int))))]
                    [some (Blk.mk false [] (1 : Nat) n (fun j => [AV.int IntKind.i64 (f j)]) [])]))))
          (T.ret (Ex.norm, St.mk [((0 : Nat), AV.int IntKind.i64 op), ((1 : Nat), AV.sl (0 : Nat) (0 : Nat) (1 : Nat) j len c), ((5 : Nat), AV.int IntKind.i64 (tot op (fun d => f (j + d)) k)), ((6 : Nat), AV.int IntKind.i64 (IntKind.wrap IntKind.i64 ((↑(k + (1 : Nat)) : Int) + (1 : Int))))] [some (Blk.mk false [] (1 : Nat) n (fun j => [AV.int IntKind.i64 (f j)]) [])])))))
    (T.ret (Ex.exit (0 : Nat), St.mk [((0 : Nat), AV.int IntKind.i64 op), ((1 : Nat), AV.sl (0 : Nat) (0 : Nat) (1 : Nat) j len c), ((5 : Nat), AV.int IntKind.i64 (tot op (fun d => f (j + d)) k)), ((6 : Nat), AV.int IntKind.i64 (↑(k + (1 : Nat)) : Int))] [some (Blk.mk false [] (1 : Nat) n (fun j => [AV.int IntKind.i64 (f j)]) [])])) := by
  kernel_rfl

theorem to_fn (op : Int) (n : Nat) (f : Nat → Int) (j len c : Nat) : afn Try.prog toE Try.f25 (codeOf Try.f25) [.int .i64 op, .sl 0 0 1 j len c] [some (toB n f)] = 
  T.ite (op == (4 : Int)) (T.ret (AV.int IntKind.i64 (↑len : Int), [some (Blk.mk false [] (1 : Nat) n (fun j => [AV.int IntKind.i64 (f j)]) [])]))
    (T.chk (decide ((0 : Int) ≤ (0 : Int)) && decide ((0 : Int) < (↑len : Int)))
      (T.chk (decide (j + (0 : Nat) < n))
        (T.need (∃ ρ, SubSt (1 : Nat) ρ (St.mk [((0 : Nat), AV.int IntKind.i64 op), ((1 : Nat), AV.sl (0 : Nat) (0 : Nat) (1 : Nat) j len c), ((5 : Nat), AV.int IntKind.i64 (f (j + (0 : Nat)))), ((6 : Nat), AV.int IntKind.i64 (1 : Int))] [some (Blk.mk false [] (1 : Nat) n (fun j => [AV.int IntKind.i64 (f j)]) [])]) (toSt (TO.mk op n f j len c (0 : Nat))))
          (T.need (toInv (TO.mk op n f j len c (0 : Nat))) (T.ret (AV.int IntKind.i64 (tot op (fun d => f (j + d)) (len - (1 : Nat))), [some (Blk.mk false [] (1 : Nat) n (fun j => [AV.int IntKind.i64 (f j)]) [])])))))) := by
  kernel_rfl

theorem to_sub {n : Nat} {f : Nat → Int} : Sub 1 id [some (toB n f)] [some (toB n f)] := subInts (Nat.le_refl _)

theorem to_loop : LoopOK Try.prog toE (loopAt (codeOf Try.f25) 0) := by
  refine loopSumm_ok (E := toE) EnvOK.nil (noLoops (by kernel_rfl)) toSt toInv (fun x => x.len - x.k) toPick toEnd ?_ (by kernel_rfl)
  rintro ⟨op, n, f, j, len, c, k⟩ ⟨h1, h2, h3⟩ Q hq
  dsimp only at h1 h2 h3
  refine round_keep [0, 1, 5, 6] ?_
  rw [to_tree]
  have hw : IntKind.wrap IntKind.i64 (((k + 1 : Nat) : Int) + 1) = ((k + 1 + 1 : Nat) : Int) := by rw [IntWalk.i64_in _ (by omega)]; omega
  have t1 : Int.toNat ((k + 1 : Nat) : Int) = k + 1 := by omega
  have hw2 : IntKind.wrap IntKind.i64 ((k : Int) + 1 + 1) = (k : Int) + 1 + 1 := IntWalk.i64_in _ (by omega)
  have go : k + 1 < len → ∀ v, v = tot op (fun d => f (j + d)) (k + 1) →
      Round toE toSt toInv (fun x => x.len - x.k) toEnd Q ⟨op, n, f, j, len, c, k⟩ (.norm, ⟨[(0, .int .i64 op), (1, .sl 0 0 1 j len c), (5, .int .i64 v), (6, .int .i64 (IntKind.wrap .i64 (((k + 1 : Nat) : Int) + 1)))], [some (toB n f)]⟩) := by
    intro hk v hv
    exact Round.go ⟨op, n, f, j, len, c, k + 1⟩ id ⟨h1, h2, by dsimp only; omega⟩ (by dsimp only; omega) (SubSt.mk (by simp [toSt, SubFr, slotAt, ren, below, hw2, hv]) to_sub) hq
  refine T.hiteP (fun h => ?_) (fun h => ?_)
  · have h : k + 1 < len := by omega
    have ck : ∀ t : T (Ex × St), ∀ R, t.holds R → (T.chk (decide (0 ≤ ((k + 1 : Nat) : Int)) && decide (((k + 1 : Nat) : Int) < len)) (T.chk (decide (j + Int.toNat ((k + 1 : Nat) : Int) < n)) t)).holds R := fun t R ht =>
      T.hchk (by simp; omega) (T.hchk (by rw [t1]; simp; omega) ht)
    refine T.hiteE (fun e => ck _ _ ?_) (fun e1 => T.hiteE (fun e => ck _ _ ?_) (fun e2 => T.hiteE (fun e => ck _ _ ?_) (fun e3 => ?_)))
    · exact go h _ (by simp only [tot, stp, e]; simp [t1])
    · exact go h _ (by simp only [tot, stp, e]; simp [t1])
    · exact go h _ (by simp only [tot, stp, e]; simp [t1])
    · exact go h _ (by simp only [tot, stp, e1, e2, e3]; simp)
  · have e : len - 1 = k := by omega
    have hq : Q (.exit 0, ⟨[(5, .int .i64 (tot op (fun d => f (j + d)) (len - 1)))], [some (toB n f)]⟩) := hq
    rw [e] at hq
    exact Round.out id ⟨[(5, .int .i64 (tot op (fun d => f (j + d)) k))], [some (toB n f)]⟩ (SubSt.mk (by simp [SubFr, slotAt, ren, below]) to_sub) hq

def totG (op : Int) (g : Nat → Int) (len : Nat) : Int := if op = 4 then len else tot op g (len - 1)
def totS : List AV → AM → T AV
  | [.int .i64 op, .sl id 0 1 j len _], m =>
    T.opt (m.get id) fun b => .need (IntRow .i64 b) (.chk (decide (j + len ≤ b.n)) (.chk (decide (len ≤ 4611686018427387904)) (.chk (decide (1 ≤ len)) (.ret (.int .i64 (totG op (fun d => intAt b (j + d)) len))))))
  | _, _ => .fail

theorem to_eff (op : Int) (n : Nat) (f : Nat → Int) (j len c : Nat) (h1 : j + len ≤ n) (h2 : len ≤ 4611686018427387904) (h3 : 1 ≤ len) :
    EffAt Try.prog 25 [.int .i64 op, .sl 0 0 1 j len c] [some (toB n f)] (.ret (.int .i64 (totG op (fun d => f (j + d)) len), [some (toB n f)])) := by
  refine fn_ok (E := toE) (c := codeOf Try.f25) Try.func25 rfl EnvOK.nil (oneLoop (by kernel_rfl) to_loop) rfl rfl fun Q hq => ?_
  have hq : Q (.int .i64 (totG op (fun d => f (j + d)) len), [some (toB n f)]) := hq
  rw [to_fn]
  refine T.hiteE (fun h => ?_) (fun h => ?_)
  · exact leaf_keep (by simpa [totG, h] using hq) rfl to_sub
  · refine T.hchk (by simp; omega) (T.hchk (by simp; omega) (T.hneed ⟨id, SubSt.mk (by simp [toSt, SubFr, slotAt, ren, below, tot]) to_sub⟩ (T.hneed ⟨h1, h2, by dsimp only; omega⟩ ?_)))
    exact leaf_keep (by simpa [totG, h] using hq) rfl to_sub

theorem to_ok : SummOK Try.prog 25 (.pure totS) := by
  refine ro_ok (fun args w => Try.call25 args w) ?_
  intro args m Q hq
  unfold totS at hq ⊢
  split at hq
  · rename_i op id j len c
    obtain ⟨b, hb, h1, h2, h3, h4, hq⟩ := T.holds_opt hq
    rw [hb]
    refine ⟨⟨h1, h2, h3, h4, by simp [plain, T.holds]⟩, ?_⟩
    refine ⟨⟨[id], [.int .i64 op, .sl 0 0 1 j len c], [some (intView .i64 b)], rfl, by simp [AM.get_lt hb], ⟨⟨_, hb, IntRow.view h1 _ _⟩, trivial⟩, roOne rfl, by simp [belowL, below], by simp [renL, ren, out],
      (to_eff op b.n (intAt b) j len c (by simpa using h2) (by simpa using h3) (by simpa using h4)).mono fun Q h => h.2.2.2.2⟩⟩
  · exact hq.elim

end Go.Proofs.Ytbnijmoiaegopaa
