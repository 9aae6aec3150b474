/-
  Layer 15: Begins: states.
-/
import Derived.Test.YtemgmcchepmicaaHBa
namespace Go.Proofs.Ytemgmcchepmicaa
open Go.Ox
set_option maxRecDepth 100000
set_option maxHeartbeats 16000000
set_option linter.unusedVariables false
set_option linter.unusedSimpArgs false

/-- An area: nothing was written yet; or so many bytes, of which so many were synced. -/
structure AR where
  h : Bool
  n : Nat
  c : Nat
  b : Nat
  s : Nat
  f : Nat → Int

structure DB where
  x : FD
  kd : Nat → Int
  ar : Nat → Int
  nn : Nat → Int
  len : Nat
  cap : Nat
  keep : Int
  i : Nat
  a : AR
  e : AR

def arAV (id : Nat) (a : AR) : AV :=
  match a.h with
  | false => .nils
  | true => .sl id 0 1 0 a.n a.c

def arS (a : AR) : AV :=
  match a.h with
  | false => .int .i64 0
  | true => .int .i64 a.s

def skB (l : List AV) : Blk := Blk.mk true l 0 0 (fun _ => []) [] none

def dkM (a e : AR) : AM :=
  match a.h, e.h with
  | false, false => [some (skB [.nils, .int .i64 0, .nils, .int .i64 0, .int .i64 1000]), some (skB [.int .i64 0, .int .i64 0])]
  | true, false => [some (skB [.sl 4 0 1 0 a.n a.c, .int .i64 a.s, .nils, .int .i64 0, .int .i64 1000]), some (skB [.int .i64 a.s, .int .i64 0]), some (bytB a.b a.f)]
  | false, true => [some (skB [.nils, .int .i64 0, .sl 4 0 1 0 e.n e.c, .int .i64 e.s, .int .i64 1000]), some (skB [.int .i64 0, .int .i64 e.s]), some (bytB e.b e.f)]
  | true, true => [some (skB [.sl 4 0 1 0 a.n a.c, .int .i64 a.s, .sl 5 0 1 0 e.n e.c, .int .i64 e.s, .int .i64 1000]), some (skB [.int .i64 a.s, .int .i64 e.s]), some (bytB a.b a.f), some (bytB e.b e.f)]

def dbFr (x : DB) : List (Nat × AV) := [(0, .sl 1 0 4 0 x.len x.cap), (1, .int .i64 x.keep), (5, .ptr 2 0 0 0), (7, .ptr 3 0 0 0)]

def dbSt (x : DB) : St := ⟨(8, .int .i64 x.i) :: dbFr x, actM x.x x.kd x.ar x.nn x.cap ++ dkM x.a x.e⟩

def AR.ok (a : AR) : Prop := (a.h = false → a.n = 0 ∧ a.s = 0) ∧ a.s ≤ a.n ∧ a.n ≤ 1000 ∧ a.n ≤ a.c ∧ a.c ≤ a.b

def dbInv (x : DB) : Prop := x.len ≤ x.cap ∧ x.x.wf .u8 ∧ x.i ≤ x.len ∧ x.i ≤ 100 ∧ x.a.ok ∧ x.e.ok

def mx0 (k : Int) : Int := if (0 : Int) > k then (0 : Int) else k

/-- What is kept of an area behind a crash; behind a cut. -/
def kpI (n s : Nat) (k : Int) : Int := (if (↑n : Int) < IntKind.wrap IntKind.i64 ((↑s : Int) + if IntKind.wrap IntKind.i64 ((↑n : Int) - (↑s : Int)) < if (0 : Int) > k then (0 : Int) else k then IntKind.wrap IntKind.i64 ((↑n : Int) - (↑s : Int)) else if (0 : Int) > k then (0 : Int) else k) then (↑n : Int) else IntKind.wrap IntKind.i64 ((↑s : Int) + if IntKind.wrap IntKind.i64 ((↑n : Int) - (↑s : Int)) < if (0 : Int) > k then (0 : Int) else k then IntKind.wrap IntKind.i64 ((↑n : Int) - (↑s : Int)) else if (0 : Int) > k then (0 : Int) else k))

def ctI (n : Nat) (k : Int) : Int := (if (↑n : Int) < if (0 : Int) > k then (0 : Int) else k then (↑n : Int) else if (0 : Int) > k then (0 : Int) else k)

theorem ct_bd (n : Nat) (k : Int) : 0 ≤ ctI n k ∧ ctI n k ≤ n := by
  unfold ctI
  constructor <;> (repeat' split) <;> omega

theorem kp_eq {n s : Nat} (h : s ≤ n) (h' : n ≤ 1000) (k : Int) : kpI n s k = if (↑n - ↑s : Int) < mx0 k then (n : Int) else (s : Int) + mx0 k := by
  have e1 : IntKind.wrap IntKind.i64 ((↑n : Int) - (↑s : Int)) = (n : Int) - s := IntWalk.i64_in _ (by omega)
  unfold kpI
  rw [e1]
  change (if (↑n : Int) < IntKind.wrap IntKind.i64 ((↑s : Int) + if (n : Int) - s < mx0 k then (n : Int) - s else mx0 k) then (↑n : Int) else IntKind.wrap IntKind.i64 ((↑s : Int) + if (n : Int) - s < mx0 k then (n : Int) - s else mx0 k)) = _
  have h0 : 0 ≤ mx0 k := by unfold mx0; split <;> omega
  generalize mx0 k = m at *
  have e2 : IntKind.wrap IntKind.i64 ((↑s : Int) + if (n : Int) - s < m then (n : Int) - s else m) = (↑s : Int) + if (n : Int) - s < m then (n : Int) - s else m := IntWalk.i64_in _ (by split <;> omega)
  rw [e2]
  split <;> split <;> omega

theorem kp_bd {n s : Nat} (h : s ≤ n) (h' : n ≤ 1000) (k : Int) : (s : Int) ≤ kpI n s k ∧ kpI n s k ≤ n ∧ kpI n s k - s ≤ mx0 k := by
  have h0 : 0 ≤ mx0 k := by unfold mx0; split <;> omega
  rw [kp_eq h h']
  generalize mx0 k = m at *
  split <;> omega

noncomputable def dbE (p : Int) : Env := bgO p Try.f4.ntmps 2 fun _ _ => .fail

noncomputable def dbC : Code := loopAt (codeOf Try.f4) 0

def hdI : List AV → Int
  | [.int _ n] => n
  | _ => 0

def isI (k : IntKind) (l : List AV) : Prop := ∃ v, l = [.int k v]

theorem isI_ite {k : IntKind} {c : Prop} [Decidable c] {x y : List AV} (h1 : c → isI k x) (h2 : ¬ c → isI k y) : isI k (if c then x else y) := by
  split
  · exact h1 ‹_›
  · exact h2 ‹_›

theorem byt_ok {n c : Nat} {ρ : Nat → Nat} {F : Nat → List AV} (h : ∀ j, isI .u8 (F j)) : BlkOK n ρ (Blk.mk true [] 1 c F [] none) (bytB c (fun j => hdI (F j))) :=
  BlkOK.rows' (fun h => h) fun j _ => by
    obtain ⟨v, hv⟩ := h j
    show LAlike n ρ (F j) [.int .u8 (hdI (F j))]
    rw [hv]; exact LAlike.ints rfl

theorem byt_same {n c : Nat} {ρ : Nat → Nat} {f : Nat → Int} : BlkOK n ρ (Blk.mk true [] 1 c (fun j => [.int .u8 (f j)]) [] none) (bytB c f) := BlkOK.rows' (fun h => h) fun j _ => LAlike.ints rfl

theorem skB_ok {n : Nat} {ρ : Nat → Nat} {l l' : List AV} {F : Nat → List AV} (h : LAlike n ρ l' l) : BlkOK n ρ (Blk.mk true l' 0 0 F [] none) (skB l) := ⟨fun h => h, h, rfl, rfl, (fun j hj => absurd hj (Nat.not_lt_zero j)), trivial, trivial⟩

theorem act_ok {n cap : Nat} {ρ : Nat → Nat} {kd ar nn : Nat → Int} (h0 : 0 < n) (hr : ρ 0 = 0) : BlkOK n ρ (Blk.mk false [] 4 cap (fun r => [.int .i64 (kd r), .int .i64 (ar r), .int .i64 (nn r), .part 0 [r]]) [] none) (Blk.rows false 4 cap fun r => [.int .i64 (kd r), .int .i64 (ar r), .int .i64 (nn r), .part 0 [r]]) :=
  BlkOK.rows' (fun h => h) fun j _ => by simp [LAlike, ren, below, AV.scalar, h0, hr]

theorem la_end {n : Nat} {ρ : Nat → Nat} : LAlike n ρ [] [] := by simp [LAlike]

theorem la_int {n : Nat} {ρ : Nat → Nat} {k : IntKind} {x y : Int} {l l' : List AV} (h : x = y) (t : LAlike n ρ l l') : LAlike n ρ (.int k x :: l) (.int k y :: l') := by
  subst h; exact ⟨⟨Ox.Alike_refl _, by simp [below], rfl⟩, t⟩

theorem la_nil {n : Nat} {ρ : Nat → Nat} {l l' : List AV} (t : LAlike n ρ l l') : LAlike n ρ (.nils :: l) (.nils :: l') := ⟨⟨Ox.Alike_refl _, by simp [below], rfl⟩, t⟩

theorem la_sl {n : Nat} {ρ : Nat → Nat} {i i' k s j a b c d : Nat} {l l' : List AV} (h : ρ i' = i) (hi : i' < n) (h1 : a = b) (h2 : c = d) (t : LAlike n ρ l l') : LAlike n ρ (.sl i k s j a c :: l) (.sl i' k s j b d :: l') := by
  subst h; subst h1; subst h2; exact ⟨⟨Ox.Alike_refl _, by simpa [below] using hi, rfl⟩, t⟩

theorem Alike_int {k : IntKind} {x y : Int} (h : x = y) : Ox.Alike (.int k x) (.int k y) := by subst h; exact Ox.Alike_refl _

end Go.Proofs.Ytemgmcchepmicaa
