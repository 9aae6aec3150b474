/-
  Layer 15: Plays: states.
-/
import Derived.Test.YtemgmcchepmicaaHPc
namespace Go.Proofs.Ytemgmcchepmicaa
open Go.Ox
set_option maxRecDepth 100000
set_option maxHeartbeats 16000000
set_option linter.unusedVariables false
set_option linter.unusedSimpArgs false

/-- An area of both: so many bytes, so many synced, the same bytes. -/
structure PR where
  h : Bool
  n : Nat
  s : Nat
  c : Nat
  b : Nat
  f : Nat → Int
  d : Nat
  e : Nat
  g : Nat → Int

structure DP where
  x : FD
  kd : Nat → Int
  ar : Nat → Int
  nn : Nat → Int
  len : Nat
  cap : Nat
  N : Int
  i : Nat
  a : PR
  e : PR

def plM (N : Int) (a e : PR) : AM :=
  match a.h, e.h with
  | false, false => [some (skB [.nils, .int .i64 0, .nils, .int .i64 0, .int .i64 N]), some (skB [.int .i64 N, .nils, .nils, .int .i64 0, .int .i64 0])]
  | true, false => [some (skB [.sl 4 0 1 0 a.n a.c, .int .i64 a.s, .nils, .int .i64 0, .int .i64 N]), some (skB [.int .i64 N, .sl 5 0 1 0 a.n a.d, .nils, .int .i64 a.s, .int .i64 0]), some (bytB a.b a.f), some (bytB a.e a.g)]
  | false, true => [some (skB [.nils, .int .i64 0, .sl 4 0 1 0 e.n e.c, .int .i64 e.s, .int .i64 N]), some (skB [.int .i64 N, .nils, .sl 5 0 1 0 e.n e.d, .int .i64 0, .int .i64 e.s]), some (bytB e.b e.f), some (bytB e.e e.g)]
  | true, true => [some (skB [.sl 4 0 1 0 a.n a.c, .int .i64 a.s, .sl 6 0 1 0 e.n e.c, .int .i64 e.s, .int .i64 N]), some (skB [.int .i64 N, .sl 5 0 1 0 a.n a.d, .sl 7 0 1 0 e.n e.d, .int .i64 a.s, .int .i64 e.s]), some (bytB a.b a.f), some (bytB a.e a.g), some (bytB e.b e.f), some (bytB e.e e.g)]

def plFr (len cap i : Nat) : List (Nat × AV) := [(1, .sl 1 0 4 0 len cap), (5, .ptr 2 0 0 0), (7, .ptr 3 0 0 0), (9, .int .i64 i)]

def plSt (x : DP) : St := ⟨plFr x.len x.cap x.i, actM x.x x.kd x.ar x.nn x.cap ++ plM x.N x.a x.e⟩

def PR.ok (N : Int) (a : PR) : Prop := (a.h = false → a.n = 0 ∧ a.s = 0) ∧ a.s ≤ a.n ∧ (a.n : Int) ≤ N ∧ (a.n ≤ a.c ∧ a.c ≤ a.b) ∧ (a.n ≤ a.d ∧ a.d ≤ a.e) ∧ ∀ r, r < a.n → a.f r = a.g r

def plInv (x : DP) : Prop := x.len ≤ x.cap ∧ x.x.wf .u8 ∧ x.i ≤ x.len ∧ x.i ≤ 100 ∧ (64 ≤ x.N ∧ x.N ≤ 262144) ∧ x.a.ok x.N ∧ x.e.ok x.N

noncomputable def plB : List (Nat × Summ) := [(10, .pure yesS), (11, .pure fun args _ => pkP 0 args), (18, .eff copyS), (21, .eff spoilS), (22, .pure saT)]

theorem plB_ok : EnvOK Try.prog plB := EnvOK.cons kn_ok (EnvOK.cons (pkP_ok 0) (EnvOK.cons copy_ok (EnvOK.cons spoil_ok (EnvOK.cons saT_ok EnvOK.nil))))

noncomputable def plL : List (Nat × Func) := [(20, Try.f20), (17, Try.f17), (15, Try.f15), (14, Try.f14), (13, Try.f13), (29, Try.f29), (19, Try.f19), (26, Try.f26), (16, Try.f16), (30, Try.f30), (12, Try.f12), (28, Try.f28), (9, Try.f9), (8, Try.f8)]

theorem plL_ok : InlOK Try.prog plL := ⟨⟨fun args w => Try.call20 args w, Try.func20, rfl, by kernel_rfl⟩, ⟨fun args w => Try.call17 args w, Try.func17, rfl, by kernel_rfl⟩, ⟨fun args w => Try.call15 args w, Try.func15, rfl, by kernel_rfl⟩, ⟨fun args w => Try.call14 args w, Try.func14, rfl, by kernel_rfl⟩, ⟨fun args w => Try.call13 args w, Try.func13, rfl, by kernel_rfl⟩, ⟨fun args w => Try.call29 args w, Try.func29, rfl, by kernel_rfl⟩, ⟨fun args w => Try.call19 args w, Try.func19, rfl, by kernel_rfl⟩, ⟨fun args w => Try.call26 args w, Try.func26, rfl, by kernel_rfl⟩, ⟨fun args w => Try.call16 args w, Try.func16, rfl, by kernel_rfl⟩, ⟨fun args w => Try.call30 args w, Try.func30, rfl, by kernel_rfl⟩, ⟨fun args w => Try.call12 args w, Try.func12, rfl, by kernel_rfl⟩, ⟨fun args w => Try.call28 args w, Try.func28, rfl, by kernel_rfl⟩, ⟨fun args w => Try.call9 args w, Try.func9, rfl, by kernel_rfl⟩, ⟨fun args w => Try.call8 args w, Try.func8, rfl, by kernel_rfl⟩, trivial⟩

noncomputable def plE : Env := { nt := Try.f3.ntmps, n0 := 2, vec := true, fns := openAll (inl Try.prog plB plL), loop := fun _ _ => .fail }

theorem plE_ok : EnvOK Try.prog plE.fns := EnvOK.open_ (inl_ok plB_ok plL plL_ok)

noncomputable def plC : Code := loopAt (codeOf Try.f3) 0

noncomputable def plD : Code := inBlk ((chainOf plC).getD 2 .skip)

def rmI (n s : Nat) (k : Int) : Int := IntKind.wrap IntKind.i64 ((↑s : Int) + if (if IntKind.wrap IntKind.i64 ((↑n : Int) - (↑s : Int)) < k then IntKind.wrap IntKind.i64 ((↑n : Int) - (↑s : Int)) else k) > (0 : Int) then if IntKind.wrap IntKind.i64 ((↑n : Int) - (↑s : Int)) < k then IntKind.wrap IntKind.i64 ((↑n : Int) - (↑s : Int)) else k else (0 : Int))

theorem cr_bd {n s : Nat} (h : s ≤ n) (h' : n ≤ 262144) (k : Int) : ((s : Int) ≤ kpI n s k ∧ kpI n s k ≤ n) ∧ rmI n s k = kpI n s k := by
  have e1 : IntKind.wrap IntKind.i64 ((↑n : Int) - (↑s : Int)) = (n : Int) - s := IntWalk.i64_in _ (by omega)
  unfold kpI rmI
  rw [e1]
  have e2 : IntKind.wrap IntKind.i64 ((↑s : Int) + if (n : Int) - s < if (0 : Int) > k then (0 : Int) else k then (n : Int) - s else if (0 : Int) > k then (0 : Int) else k) = (↑s : Int) + if (n : Int) - s < if (0 : Int) > k then (0 : Int) else k then (n : Int) - s else if (0 : Int) > k then (0 : Int) else k := IntWalk.i64_in _ (by (repeat' split) <;> omega)
  have e3 : IntKind.wrap IntKind.i64 ((↑s : Int) + if (if (n : Int) - s < k then (n : Int) - s else k) > (0 : Int) then if (n : Int) - s < k then (n : Int) - s else k else (0 : Int)) = (↑s : Int) + if (if (n : Int) - s < k then (n : Int) - s else k) > (0 : Int) then if (n : Int) - s < k then (n : Int) - s else k else (0 : Int) := IntWalk.i64_in _ (by (repeat' split) <;> omega)
  rw [e2, e3]
  refine ⟨⟨?_, ?_⟩, ?_⟩ <;> (repeat' split) <;> omega

theorem ct_eq (n : Nat) (k : Int) : ctI n k = if (↑n : Int) < (if (0 : Int) > k then (0 : Int) else k) then (↑n : Int) else (if (0 : Int) > k then (0 : Int) else k) := rfl

def fmB (x : FD) : Blk := Blk.mk false [] 0 0 (fun _ => []) [] (some fun js => Mem.mk (FD.nl x js) (FD.ad x js) (FD.ln x js) (FD.cp x js) 1 fun q => [.int .u8 (FD.z x (q :: js))])

def acB (kd ar nn : Nat → Int) (cap : Nat) : Blk := Blk.mk false [] 4 cap (fun r => [.int .i64 (kd r), .int .i64 (ar r), .int .i64 (nn r), .part 0 [r]]) [] none

theorem ar1 {m : AM} {i i' n n' c c' b b' N : Nat} {f g : Nat → Int} {rw rw' : Bool} (h1 : m.get i = some (Blk.mk rw [] 1 b (fun j => [.int .u8 (f j)]) [] none)) (h2 : m.get i' = some (Blk.mk rw' [] 1 b' (fun j => [.int .u8 (g j)]) [] none)) (hfg : ∀ r, r < N → f r = g r) (h3 : n = n' ∧ n ≤ N ∧ n ≤ b ∧ n ≤ b' ∧ n ≤ 262144) : arEq m (.sl i 0 1 0 n c) (.sl i' 0 1 0 n' c') :=
  ⟨_, _, h1, h2, rowJ (fun r => ⟨_, rfl⟩), rowJ (fun r => ⟨_, rfl⟩), h3.1, ⟨h3.2.2.1, h3.2.2.2.1, h3.2.2.2.2⟩, fun r hr => hfg r (by omega)⟩

theorem iI {n : Nat} {ρ : Nat → Nat} {k : IntKind} {x y : Int} {l l' : List AV} (t : LAlike n ρ l l') (h : x = y := by first | rfl | omega | (dsimp only; omega)) : LAlike n ρ (.int k x :: l) (.int k y :: l') := la_int h t

theorem iS {n : Nat} {ρ : Nat → Nat} {i i' k s j a b c d : Nat} {l l' : List AV} (t : LAlike n ρ l l') (h : ρ i' = i := by rfl) (hi : i' < n := by decide) (h1 : a = b := by first | rfl | omega | (dsimp only; omega)) (h2 : c = d := by rfl) : LAlike n ρ (.sl i k s j a c :: l) (.sl i' k s j b d :: l') := la_sl h hi h1 h2 t

theorem okH {N : Int} {h : Bool} {n s c b d e M : Nat} {f g : Nat → Int} (hfg : ∀ r, r < M → f r = g r) (h0 : h = true := by rfl) (h1 : s ≤ n ∧ (n : Int) ≤ N ∧ (n ≤ c ∧ c ≤ b) ∧ (n ≤ d ∧ d ≤ e) ∧ n ≤ M := by (try dsimp only); omega) : PR.ok N ⟨h, n, s, c, b, f, d, e, g⟩ :=
  ⟨fun h' => Bool.noConfusion (h0.symm.trans h'), h1.1, h1.2.1, h1.2.2.1, h1.2.2.2.1, fun r hr => hfg r (by dsimp only at hr; omega)⟩

theorem okC {N : Int} {h : Bool} {n s c b d e : Nat} {f g : Nat → Int} (hfg : ∀ r, r < n → f r = g r) (h0 : h = true := by rfl) (h1 : s ≤ n ∧ (n : Int) ≤ N ∧ (n ≤ c ∧ c ≤ b) ∧ (n ≤ d ∧ d ≤ e) := by (try dsimp only); omega) : PR.ok N ⟨h, n, s, c, b, f, d, e, g⟩ :=
  ⟨fun h' => Bool.noConfusion (h0.symm.trans h'), h1.1, h1.2.1, h1.2.2.1, h1.2.2.2, hfg⟩

theorem okN {N : Int} {c b d e : Nat} {f g : Nat → Int} (h1 : 0 ≤ N ∧ c ≤ b ∧ d ≤ e := by (try dsimp only); omega) : PR.ok N ⟨false, 0, 0, c, b, f, d, e, g⟩ :=
  ⟨fun _ => ⟨rfl, rfl⟩, Nat.le_refl _, h1.1, ⟨Nat.zero_le _, h1.2.1⟩, ⟨Nat.zero_le _, h1.2.2⟩, fun r hr => absurd hr (Nat.not_lt_zero _)⟩

theorem sT (l : List Nat) {st' : St} {y : DP} (hb : SubBlks l.length (rhoL l) st'.m 0 (plSt y).m) (hl : (plSt y).m.length = l.length := by rfl) (h1 : injB l = true := by rfl) (h2 : baseB 2 l = true := by rfl) (h3 : 2 ≤ l.length := by exact Nat.le_of_ble_eq_true rfl) (hf : SubFr l.length (rhoL l) st'.fr (plSt y).fr := by simp [plSt, plFr, SubFr, slotAt, ren, below, rhoL]) : SubSt 2 (rhoL l) st' (plSt y) := subStL l hl h1 h2 h3 hf hb

/-- The act, copied; its area told. -/
def boxB (k a n : Int) (i : Nat) : Blk := skB [.int .i64 k, .int .i64 a, .int .i64 n, .part 0 [i]]

end Go.Proofs.Ytemgmcchepmicaa
