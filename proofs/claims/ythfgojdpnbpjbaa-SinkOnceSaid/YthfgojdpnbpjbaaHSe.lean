/-
  Layer 13: Once: rows, counts.
-/
import Derived.Test.YthfgojdpnbpjbaaHSc
namespace Go.Proofs.Ythfgojdpnbpjbaa
open Go.Ox
set_option maxRecDepth 100000
set_option maxHeartbeats 4000000
set_option linter.unusedVariables false
set_option linter.unusedSimpArgs false

theorem cnt_le (k : Nat → Int) : ∀ i, cnt k i ≤ i
  | 0 => Nat.le_refl _
  | i + 1 => by
    have := cnt_le k i
    unfold cnt
    split <;> omega

theorem cnt_mono (k : Nat → Int) (i : Nat) : ∀ d, cnt k i ≤ cnt k (i + d)
  | 0 => Nat.le_refl _
  | d + 1 => by
    have := cnt_mono k i d
    show cnt k i ≤ cnt k (i + d + 1)
    rw [cnt]
    split <;> omega

theorem cnt_yes {k : Nat → Int} {i : Nat} (h : isT (k i) = true) : cnt k (i + 1) = cnt k i + 1 := by rw [cnt, if_pos h]

theorem cnt_no {k : Nat → Int} {i : Nat} (h : isT (k i) = false) : cnt k (i + 1) = cnt k i := by rw [cnt, if_neg (by simp [h])]

theorem fidx_at {k : Nat → Int} {j : Nat} (hj : isT (k j) = true) : ∀ N, j < N → fidx k (cnt k j) N = j
  | 0, h => absurd h (Nat.not_lt_zero _)
  | N + 1, h => by
    unfold fidx
    split
    · rename_i hc
      rcases Nat.lt_or_ge j N with h' | h'
      · have h1 := cnt_mono k (j + 1) (N - (j + 1))
        rw [show j + 1 + (N - (j + 1)) = N by omega, cnt_yes hj] at h1
        omega
      · omega
    · rename_i hc
      rcases Nat.lt_or_ge j N with h' | h'
      · exact fidx_at hj N h'
      · obtain rfl : j = N := by omega
        exact absurd ⟨hj, rfl⟩ hc

def apf (n J d : Nat) (f : Nat → Int) (x : Int) (r : Nat) : Int := if r < n then f (J + r) else if r < n + 1 then x else if d = 0 then 0 else f (J + r)

theorem apf_lt {n J d : Nat} {f : Nat → Int} {x : Int} {r : Nat} (h : r < n) : apf n J d f x r = f (J + r) := if_pos h

theorem apf_at {n J d : Nat} {f : Nat → Int} {x : Int} : apf n J d f x n = x := by
  unfold apf; rw [if_neg (by omega), if_pos (by omega)]

theorem row_in (n J d : Nat) (f g : Nat → Int) (x1 x2 : Int) (r : Nat) :
    (if r < n then [AV.int .i64 (f (J + r)), AV.int .i64 (g (J + r))] else if r < n + 1 then List.map (fun c => Col.at c (0 + (r - n))) ([] ++ [Col.ints .i64 [x1]] ++ [Col.ints .i64 [x2]]) else if d = 0 then AV.cells (AV.agg (List.reverse [AV.int .i64 0, AV.int .i64 0])) else [AV.int .i64 (f (J + r)), AV.int .i64 (g (J + r))])
      = [AV.int .i64 (apf n J d f x1 r), AV.int .i64 (apf n J d g x2 r)] := by
  unfold apf
  by_cases h : r < n
  · simp only [if_pos h]
  · simp only [if_neg h]
    by_cases h' : r < n + 1
    · obtain rfl : r = n := by omega
      simp [Col.at]
    · simp only [if_neg h']
      by_cases hd : d = 0
      · simp [hd, AV.cells]
      · simp only [if_neg hd]

theorem row_new (x1 x2 : Int) (r : Nat) :
    (if r < 0 then [] else if r < 1 then List.map (fun c => Col.at c (0 + (r - 0))) ([] ++ [Col.ints .i64 [x1]] ++ [Col.ints .i64 [x2]]) else AV.cells (AV.agg (List.reverse [AV.int .i64 0, AV.int .i64 0])))
      = [AV.int .i64 (apf 0 0 0 (fun _ => 0) x1 r), AV.int .i64 (apf 0 0 0 (fun _ => 0) x2 r)] := by
  unfold apf
  by_cases h' : r < 1
  · obtain rfl : r = 0 := by omega
    simp [Col.at]
  · simp [h', AV.cells, show r ≠ 0 by omega]

theorem row_done (A n d : Nat) (u v f g : Nat → Int) (hf : ∀ r, r < n → f r = u (A + r)) (hg : ∀ r, r < n → g r = v (A + r)) (r : Nat) :
    (if r < A then [AV.int .i64 (aZ u A (0 + r)), AV.int .i64 (aZ v A (0 + r))] else if r < A + (0 + n) then (if 0 + (r - A) < 0 then [] else if 0 + (r - A) < 0 + n then [AV.int .i64 (f (0 + (0 + (r - A) - 0))), AV.int .i64 (g (0 + (0 + (r - A) - 0)))] else AV.cells (AV.agg (List.reverse [AV.int .i64 0, AV.int .i64 0]))) else if d = 0 then AV.cells (AV.agg (List.reverse [AV.int .i64 0, AV.int .i64 0])) else [AV.int .i64 (aZ u A (0 + r)), AV.int .i64 (aZ v A (0 + r))])
      = [AV.int .i64 (aZ u (A + n) r), AV.int .i64 (aZ v (A + n) r)] := by
  unfold aZ
  by_cases h : r < A
  · simp [h, show r < A + n by omega]
  · by_cases h' : r < A + n
    · have e : A + (r - A) = r := by omega
      have h1 := hf (r - A) (by omega)
      have h2 := hg (r - A) (by omega)
      rw [e] at h1 h2
      simp [h, h', show r - A < n by omega, h1, h2]
    · by_cases hd : d = 0 <;> simp [h, h', hd, AV.cells]

theorem row_done0 (n : Nat) (u v f g : Nat → Int) (hf : ∀ r, r < n → f r = u (0 + r)) (hg : ∀ r, r < n → g r = v (0 + r)) (r : Nat) :
    (if r < 0 then [] else if r < 0 + (0 + n) then (if 0 + (r - 0) < 0 then [] else if 0 + (r - 0) < 0 + n then [AV.int .i64 (f (0 + (0 + (r - 0) - 0))), AV.int .i64 (g (0 + (0 + (r - 0) - 0)))] else AV.cells (AV.agg (List.reverse [AV.int .i64 0, AV.int .i64 0]))) else AV.cells (AV.agg (List.reverse [AV.int .i64 0, AV.int .i64 0])))
      = [AV.int .i64 (aZ u n r), AV.int .i64 (aZ v n r)] := by
  unfold aZ
  by_cases h' : r < n
  · have h1 := hf r h'
    have h2 := hg r h'
    rw [Nat.zero_add] at h1 h2
    simp [h', h1, h2]
  · simp [h', AV.cells]

theorem apf_aZ {u : Nat → Int} {t d : Nat} {x : Int} (h : x = u t) (r : Nat) : apf t 0 d (aZ u t) x r = aZ u (t + 1) r := by
  unfold apf aZ
  by_cases h1 : r < t
  · simp [h1, show r < t + 1 by omega]
  · by_cases h2 : r < t + 1
    · obtain rfl : r = t := by omega
      simp [h]
    · by_cases hd : d = 0 <;> simp [h1, h2, hd]

theorem apf_aZ0 {u : Nat → Int} {x : Int} (h : x = u 0) (r : Nat) : apf 0 0 0 (fun _ => 0) x r = aZ u 1 r := by
  unfold apf aZ
  by_cases h2 : r < 1
  · obtain rfl : r = 0 := by omega
    simp [h]
  · simp [h2]

theorem row_is {b : Blk} {u v : Nat → Int} (h0 : b.rw = true) (h1 : b.pre = []) (h2 : b.s = 2) (h3 : b.post = []) (h : ∀ j, b.f j = [.int .i64 (u j), .int .i64 (v j)]) : PrB b ∧ fstAt b = u ∧ sndAt b = v := by
  have e1 : fstAt b = u := funext fun j => by unfold fstAt; rw [h j]
  have e2 : sndAt b = v := funext fun j => by unfold sndAt; rw [h j]
  exact ⟨⟨h0, h1, h2, h3, fun j => by rw [h j, e1, e2]⟩, e1, e2⟩

theorem prB (c : Nat) (f g : Nat → Int) : PrB (Blk.mk true [] 2 c (fun j => [.int .i64 (f j), .int .i64 (g j)]) [] none) := ⟨rfl, rfl, rfl, rfl, fun j => rfl⟩

theorem ck_new {b : Blk} {nc J d c : Nat} {p q : Nat → Int} {w n : Int} (h0 : b.rw = true) (h1 : b.pre = []) (h2 : b.s = 2) (h3 : b.post = []) (h : ∀ j, b.f j = [.int .i64 (apf nc J d p w j), .int .i64 (apf nc J d q n j)]) (hp : ∀ r, r < nc → p (J + r) ≤ w) (hc : nc + 1 ≤ c) : CkAll 0 (nc + 1) c c (fstAt b) (sndAt b) w w n := by
  obtain ⟨_, e1, e2⟩ := row_is h0 h1 h2 h3 h
  rw [e1, e2]
  refine ⟨by omega, hc, Int.le_refl _, fun r hr => ?_, fun h => by omega, fun r hr => ?_⟩
  · rw [Nat.zero_add]
    rcases Nat.lt_or_ge r nc with h' | h'
    · rw [apf_lt h']; exact hp r h'
    · obtain rfl : r = nc := by omega
      rw [apf_at]; exact Int.le_refl _
  · obtain rfl : r = nc := by omega
    rw [Nat.zero_add, apf_at]

theorem is3 {k : Nat → Int} {i : Nat} (h : pk5 (k (0 + i)) = 3) : isT (k i) = false := by
  rw [Nat.zero_add] at h
  simp [isT, h]

theorem is4 {k : Nat → Int} {i : Nat} (h : pk5 (k (0 + i)) = 4) : isT (k i) = false := by
  rw [Nat.zero_add] at h
  simp [isT, h]

theorem isTake {k : Nat → Int} {i : Nat} (h : ¬ pk5 (k (0 + i)) = 3) (h' : ¬ pk5 (k (0 + i)) = 4) : isT (k i) = true := by
  rw [Nat.zero_add] at h h'
  simp [isT, h, h']

theorem act_ok {n : Nat} {ρ : Nat → Nat} {k o z y : Nat → Int} {cap : Nat} : BlkOK n ρ (Blk.mk false [] 4 cap (fun j => [.int .i64 (k j), .int .i64 (o j), .int .i64 (z j), .int .i64 (y j)]) [] none) (actB k o z y cap) :=
  BlkOK.rows' (fun h => h) fun j _ => by simp [LAlike, ren, below, AV.scalar]

theorem cuts_ok {nc J d i : Nat} {p : Nat → Int} (h : ∀ r, r < nc → p (J + r) ≤ (i : Int)) (r : Nat) (hr : r < nc + 1) : apf nc J d p ((i + 1 : Nat) : Int) (0 + r) ≤ ((i + 1 : Nat) : Int) := by
  rw [Nat.zero_add]
  rcases Nat.lt_or_ge r nc with h' | h'
  · rw [apf_lt h']; have := h r h'; omega
  · obtain rfl : r = nc := by omega
    rw [apf_at]; exact Int.le_refl _

theorem recs_ok {n d A : Nat} {f g u v : Nat → Int} {a b : Int} (h : ∀ r, r < n → f r = u (A + r) ∧ g r = v (A + r)) (ha : a = u (A + n)) (hb : b = v (A + n)) {r : Nat} (hr : r < n + 1) : apf n 0 d f a r = u (A + r) ∧ apf n 0 d g b r = v (A + r) := by
  rcases Nat.lt_or_ge r n with h' | h'
  · rw [apf_lt h', apf_lt h', Nat.zero_add]; exact h r h'
  · obtain rfl : r = n := by omega
    rw [apf_at, apf_at]; exact ⟨ha, hb⟩

end Go.Proofs.Ythfgojdpnbpjbaa
