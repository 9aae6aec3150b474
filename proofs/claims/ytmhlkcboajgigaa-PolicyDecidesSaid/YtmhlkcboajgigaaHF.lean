/-
  Layer 27: Decide's effect, both lists there.
-/
import Derived.Test.YtmhlkcboajgigaaHE
namespace Go.Proofs.Ytmhlkcboajgigaa
open Go.Ox
set_option maxRecDepth 100000
set_option linter.unusedVariables false
set_option linter.unusedSimpArgs false

theorem faR_congr {v w : VW} (hf : v.f = w.f) (hg : v.g = w.g) (hs : v.s = w.s) (i : Int) : faR v i = faR w i := by unfold faR; rw [hf, hg, hs]
theorem anyR_congr {v w : VW} (hf : v.f = w.f) (hg : v.g = w.g) (hs : v.s = w.s) : ∀ k i, anyR v i k = anyR w i k
  | 0, _ => rfl
  | k + 1, i => by simp only [anyR, anyR_congr hf hg hs k (i + 1), faR_congr hf hg hs]

theorem de_sub {b : Blk} {f g : Nat → Int} {ca cb : Nat} {c s l : Int} {d : Bool} {m : AM} (h0 : m.get 0 = some b) (hb : BlkOK 3 id b (polB c s l d)) (h1 : m.get 1 = some (Blk.rows false 1 ca fun j => [.int .i64 (f j)])) (h2 : m.get 2 = some (Blk.rows false 1 cb fun j => [.int .i64 (g j)])) :
    Sub 3 id m [some (polB c s l d), some (Blk.rows false 1 ca fun j => [.int .i64 (f j)]), some (Blk.rows false 1 cb fun j => [.int .i64 (g j)])] :=
  Sub.ofId ⟨⟨_, h0, hb⟩, ⟨_, h1, BlkOK.rows' (fun h => h) fun j _ => LAlike.ints rfl⟩, ⟨_, h2, BlkOK.rows' (fun h => h) fun j _ => LAlike.ints rfl⟩, trivial⟩ (by simp)
theorem pol_blk {n : Nat} {ρ : Nat → Nat} {c s l : Int} {D : AV} {d : Bool} {F : Nat → List AV} (h : Ox.Alike D (.bool d)) : BlkOK n ρ ⟨true, [.int .i64 c, .int .i64 s, .int .i64 l, D], 0, 0, F, [], none⟩ (polB c s l d) :=
  ⟨fun h => h, by simp [polB, LAlike, ren, below, AV.scalar, h], rfl, rfl, (fun j hj => absurd hj (Nat.not_lt_zero _)), trivial, trivial⟩

theorem de_eff (c s l : Int) (d : Bool) (f g : Nat → Int) (la ca lb cb : Nat) (now no : Int) (idle : Bool) (h1 : la ≤ ca) (h2 : lb ≤ cb) (h3 : la ≤ 4611686018427387904) :
    EffAt Try.prog 14 [.ptr 0 0 0 0, .int .i64 now, .sl 1 0 1 0 la ca, .sl 2 0 1 0 lb cb, .int .i64 no, .bool idle] [some (polB c s l d), some (Blk.rows false 1 ca fun j => [.int .i64 (f j)]), some (Blk.rows false 1 cb fun j => [.int .i64 (g j)])]
      (.ret (.bool (deA c l d now no idle (offA f g la lb s)), [some (deN c s l d now (deA c l d now no idle (offA f g la lb s))), some (Blk.rows false 1 ca fun j => [.int .i64 (f j)]), some (Blk.rows false 1 cb fun j => [.int .i64 (g j)])])) := by
  refine fn_ok (E := deE 3) (c := codeOf Try.f14) Try.func14 rfl (EnvOK.cons sm_ok EnvOK.nil) (noLoops (by kernel_rfl)) rfl rfl fun Q hq => ?_
  have hq : Q (.bool (deA c l d now no idle (offA f g la lb s)), [some (deN c s l d now (deA c l d now no idle (offA f g la lb s))), some (Blk.rows false 1 ca fun j => [.int .i64 (f j)]), some (Blk.rows false 1 cb fun j => [.int .i64 (g j)])]) := hq
  have yes : ∀ X, deA c l d now no idle (offA f g la lb s) = true → Leaf 3 Q (.tt, some ⟨true, [.int .i64 c, .int .i64 s, .int .i64 now, .tt], 0, 0, fun _ => [], [], none⟩ :: some (Blk.rows false 1 ca fun j => [.int .i64 (f j)]) :: some (Blk.rows false 1 cb fun j => [.int .i64 (g j)]) :: X) := fun X h => by
    rw [h] at hq
    exact leaf_of id hq (by simp [ren]) (by simp [below]) (de_sub rfl (pol_blk (by simp)) rfl rfl)
  have nay : ∀ X, deA c l d now no idle (offA f g la lb s) = false → Leaf 3 Q (.ff, some (polB c s l d) :: some (Blk.rows false 1 ca fun j => [.int .i64 (f j)]) :: some (Blk.rows false 1 cb fun j => [.int .i64 (g j)]) :: X) := fun X h => by
    rw [h] at hq
    exact leaf_of id hq (by simp [ren]) (by simp [below]) (de_sub rfl (pol_blk (by simp)) rfl rfl)
  clear hq
  have hmin : (if (lb : Int) < (la : Int) then (lb : Int) else (la : Int)) = ((min la lb : Nat) : Int) := by split <;> omega
  rw [de_fn]
  simp only [hmin, Int.toNat_natCast]
  have off : ∀ v : VW, v.f = f → v.g = g → v.s = s → anyR v 0 (min la lb) = offA f g la lb s := fun v a b e => anyR_congr a b e _ _
  refine T.hite (fun hn => T.hret (nay _ ?_)) (fun hn => T.hite (fun hi => T.hret (nay _ ?_)) (fun hi => T.hiteP (fun hm => T.hchk rfl (T.hite (fun _ => T.hret (nay _ ?_)) (fun h => by cases h))) (fun hm => ?_)))
  · have hn : ¬ no = 0 := by simpa using hn
    simp [deA, hn]
  · have hi : idle = false := by simpa using hi
    simp [deA, hi]
  · have e : min la lb = 0 := by omega
    simp [deA, offA, e, anyR]
  · have hn : no = 0 := by simpa using hn
    have hi : idle = true := by simpa using hi
    refine T.hneed ?_ (T.hchk (by simp; omega) (T.hite (fun ho => T.hret (nay _ ?_)) (fun ho => ?_)))
    · refine ⟨h1, h2, by simp, ⟨⟨_, rfl, ?_⟩, ⟨_, rfl, ?_⟩, ⟨_, rfl, ?_⟩, ⟨_, rfl, BlkOK.rows' (fun h => h) fun j _ => LAlike.ints rfl⟩, ⟨_, rfl, BlkOK.rows' (fun h => h) fun j _ => LAlike.ints rfl⟩, ⟨_, rfl, ?_⟩, trivial⟩⟩
      all_goals exact ⟨fun h => (by cases h), by simp [cellB, polR, LAlike, ren, below, AV.scalar, VW.mem, faM, out, intB, boolB], rfl, rfl, (fun j hj => absurd hj (Nat.not_lt_zero _)), trivial, trivial⟩
    · rw [off _ rfl rfl rfl] at ho
      have ho : offA f g la lb s = false := by simpa using ho
      simp [deA, ho]
    · rw [off _ rfl rfl rfl] at ho
      have ho : offA f g la lb s = true := by simpa using ho
      refine T.hite (fun hd => T.hiteP (fun hc => T.hret (nay _ ?_)) (fun hc => T.hneed trivial (T.hneed trivial (T.hneed trivial (T.hret (yes _ ?_)))))) (fun hd => T.hneed trivial (T.hneed trivial (T.hneed trivial (T.hret (yes _ ?_)))))
      all_goals simp_all [deA]

end Go.Proofs.Ytmhlkcboajgigaa
