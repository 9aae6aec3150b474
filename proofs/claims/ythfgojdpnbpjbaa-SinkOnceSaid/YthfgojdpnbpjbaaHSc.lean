/-
  Layer 13: Once: states, trees.
-/
import Derived.Test.YthfgojdpnbpjbaaHSb
namespace Go.Proofs.Ythfgojdpnbpjbaa
open Go.Ox
set_option maxRecDepth 100000
set_option maxHeartbeats 4000000
set_option linter.unusedVariables false
set_option linter.unusedSimpArgs false

def pk5 (k : Int) : Int := k % 5

def pickF : List AV → AM → T AV
  | [.int .i64 k, .int .i64 5], _ => .ret (.int .i64 (pk5 k))
  | _, _ => .fail

theorem pickF_ok : SummOK Try.prog 10 (.pure pickF) := by
  refine pure_weak pick_ok fun args m Q h => ?_
  unfold pickF at h
  split at h
  · exact ⟨rfl, h⟩
  · exact h.elim

noncomputable def soB : List (Nat × Summ) := (15, .eff ckS) :: (12, .pure sameRS) :: (10, .pure pickF) :: knB

theorem soB_ok : EnvOK Try.prog soB := EnvOK.cons ck_ok (EnvOK.cons sr_ok (EnvOK.cons pickF_ok knB_ok))

noncomputable def soL : List (Nat × Func) := [(20, Try.f20), (19, Try.f19), (17, Try.f17), (11, Try.f11), (8, Try.f8)]

theorem soL_ok : InlOK Try.prog soL := ⟨⟨fun args w => Try.call20 args w, Try.func20, rfl, by kernel_rfl⟩, ⟨fun args w => Try.call19 args w, Try.func19, rfl, by kernel_rfl⟩, ⟨fun args w => Try.call17 args w, Try.func17, rfl, by kernel_rfl⟩, ⟨fun args w => Try.call11 args w, Try.func11, rfl, by kernel_rfl⟩, ⟨fun args w => Try.call8 args w, Try.func8, rfl, by kernel_rfl⟩, trivial⟩

inductive SS where
  | a
  | b
  | c
  | d
  | e

def isT (v : Int) : Bool := !(decide (pk5 v = 3)) && !(decide (pk5 v = 4))

def cnt (k : Nat → Int) : Nat → Nat
  | 0 => 0
  | i + 1 => if isT (k i) = true then cnt k i + 1 else cnt k i

def fidx (k : Nat → Int) (r : Nat) : Nat → Nat
  | 0 => 0
  | j + 1 => if isT (k j) = true ∧ cnt k j = r then j else fidx k r j

structure SO where
  k : Nat → Int
  o : Nat → Int
  z : Nat → Int
  y : Nat → Int
  len : Nat
  cap : Nat
  i : Nat
  s : SS
  J : Nat
  nc : Nat
  cc : Nat
  cB : Nat
  p : Nat → Int
  q : Nat → Int
  most : Int
  tn : Nat
  tc : Nat
  n : Nat
  rc : Nat
  rB : Nat
  f : Nat → Int
  g : Nat → Int
  A : Nat
  dc : Nat

def SO.N (x : SO) : Nat := min x.len 200

def SO.tz (x : SO) (r : Nat) : Int := x.z (fidx x.k r x.N)

def SO.ty (x : SO) (r : Nat) : Int := x.y (fidx x.k r x.N)

def aZ (z : Nat → Int) (i r : Nat) : Int := if r < i then z r else 0

def actB (k o z y : Nat → Int) (cap : Nat) : Blk := Blk.rows false 4 cap fun j => [.int .i64 (k j), .int .i64 (o j), .int .i64 (z j), .int .i64 (y j)]

def soFr (x : SO) (t d : AV) : List (Nat × AV) := [(0, .sl 0 0 4 0 x.len x.cap), (3, .ptr 1 0 0 0), (4, t), (5, d), (6, .int .i64 x.A), (7, .int .i64 x.i)]

def soSt (x : SO) : St :=
  match x.s with
  | .a => ⟨soFr x .nils .nils, [some (actB x.k x.o x.z x.y x.cap), some (skB [.nils, .nils, .int .i64 0, .ff])]⟩
  | .b => ⟨soFr x .nils .nils, [some (actB x.k x.o x.z x.y x.cap), some (skB [.nils, .sl 2 0 2 x.J x.nc x.cc, .int .i64 x.most, .tt]), some (pB x.cB x.p x.q)]⟩
  | .c => ⟨soFr x (.sl 2 0 2 0 x.tn x.tc) .nils, [some (actB x.k x.o x.z x.y x.cap), some (skB [.sl 3 0 2 0 x.n x.rc, .nils, .int .i64 0, .ff]), some (pB x.tc (aZ x.tz x.tn) (aZ x.ty x.tn)), some (pB x.rB x.f x.g)]⟩
  | .d => ⟨soFr x (.sl 2 0 2 0 x.tn x.tc) .nils, [some (actB x.k x.o x.z x.y x.cap), some (skB [.sl 3 0 2 0 x.n x.rc, .sl 4 0 2 x.J x.nc x.cc, .int .i64 x.most, .tt]), some (pB x.tc (aZ x.tz x.tn) (aZ x.ty x.tn)), some (pB x.rB x.f x.g), some (pB x.cB x.p x.q)]⟩
  | .e => ⟨soFr x (.sl 2 0 2 0 x.tn x.tc) (.sl 5 0 2 0 x.A x.dc), [some (actB x.k x.o x.z x.y x.cap), some (skB [.sl 3 0 2 0 x.n x.rc, .sl 4 0 2 x.J x.nc x.cc, .int .i64 x.most, .tt]), some (pB x.tc (aZ x.tz x.tn) (aZ x.ty x.tn)), some (pB x.rB x.f x.g), some (pB x.cB x.p x.q), some (pB x.dc (aZ x.tz x.A) (aZ x.ty x.A))]⟩

def SO.cuts (x : SO) : Prop := x.nc ≤ x.cc ∧ x.J + x.cc ≤ x.cB ∧ x.nc ≤ x.i ∧ x.most ≤ x.i ∧ ∀ r, r < x.nc → x.p (x.J + r) ≤ x.i

def SO.recs (x : SO) : Prop := 1 ≤ x.tn ∧ x.tn ≤ x.tc ∧ x.A + x.n = x.tn ∧ x.n ≤ x.rc ∧ x.rc ≤ x.rB ∧ ∀ r, r < x.n → x.f r = x.tz (x.A + r) ∧ x.g r = x.ty (x.A + r)

def soInv (x : SO) : Prop := x.len ≤ x.cap ∧ x.i ≤ x.len ∧ x.i ≤ 200 ∧ x.tn = cnt x.k x.i ∧
  match x.s with
  | .a => x.tn = 0 ∧ x.A = 0
  | .b => x.tn = 0 ∧ x.A = 0 ∧ x.cuts
  | .c => x.A = 0 ∧ x.recs
  | .d => x.A = 0 ∧ x.recs ∧ x.cuts
  | .e => 1 ≤ x.A ∧ x.A ≤ x.dc ∧ x.recs ∧ x.cuts

def intC (l : List AV) (i : Nat) : Int :=
  match l.getD i .ff with
  | .int _ n => n
  | _ => 0

def soPick (st : St) : Option SO :=
  match AM.get st.m 0, slotAt st.fr 0 with
  | some b, some (.sl _ _ _ _ len cap) => some ⟨fun j => intC (b.f j) 0, fun j => intC (b.f j) 1, fun j => intC (b.f j) 2, fun j => intC (b.f j) 3, len, cap, 0, .a, 0, 0, 0, 0, fun _ => 0, fun _ => 0, 0, 0, 0, 0, 0, 0, fun _ => 0, fun _ => 0, 0, 0⟩
  | _, _ => none

def soFe (A : Nat) (t d : AV) : List (Nat × AV) := [(4, t), (5, d), (6, .int .i64 A)]

def soEnd (x : SO) : T (Ex × St) :=
  .ite (decide (cnt x.k x.N = 0)) (.ret (.exit 0, ⟨soFe 0 .nils .nils, [some (actB x.k x.o x.z x.y x.cap)]⟩))
    (.all fun tc => .asm (decide (cnt x.k x.N ≤ tc)) (.all fun A => .asm (decide (A ≤ cnt x.k x.N)) (.ite (decide (A = 0))
      (.ret (.exit 0, ⟨soFe 0 (.sl 1 0 2 0 (cnt x.k x.N) tc) .nils, [some (actB x.k x.o x.z x.y x.cap), some (pB tc (aZ x.tz (cnt x.k x.N)) (aZ x.ty (cnt x.k x.N)))]⟩))
      (.all fun dc => .asm (decide (A ≤ dc)) (.ret (.exit 0, ⟨soFe A (.sl 1 0 2 0 (cnt x.k x.N) tc) (.sl 2 0 2 0 A dc), [some (actB x.k x.o x.z x.y x.cap), some (pB tc (aZ x.tz (cnt x.k x.N)) (aZ x.ty (cnt x.k x.N))), some (pB dc (aZ x.tz A) (aZ x.ty A))]⟩))))))

noncomputable def soE0 (n : Nat) : Env := { nt := Try.f4.ntmps, n0 := n, vec := true, fns := inl Try.prog soB soL, loop := fun _ _ => .fail }

noncomputable def soE : Env := { nt := Try.f4.ntmps, n0 := 1, vec := true, fns := inl Try.prog soB soL, loop := fun k => if k = 8 then loopSumm 1 soSt soInv soPick soEnd else fun _ => .fail }

noncomputable def soN : Env := { nt := Try.f4.ntmps, n0 := 0, vec := true, fns := inl Try.prog soB soL, loop := fun k => if k = 8 then unrollN Try.prog (soE0 0) (loopAt (codeOf Try.f4) 0) 1 else fun _ => .fail }

end Go.Proofs.Ythfgojdpnbpjbaa
