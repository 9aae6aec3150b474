/-
  A region that draws its order: operations that only read, then some in a row, then again operations that only read.
-/
import Derived.StillTail
set_option linter.unusedVariables false
set_option linter.unusedSimpArgs false
namespace Go.Ox
section
variable {P : Program} {ops : Array Oper} {md : Region.Mode} {w : World}

/-- Each operation behind the n-th one waits for one of those from the n-th on. -/
def lateB (md : Region.Mode) (ops : Array Oper) (n : Nat) : Bool :=
  (List.range ops.size).all fun t => decide (t ≤ n) || (List.range t).any fun j => decide (n ≤ j) && Region.waitsFor md ops t j

theorem waits_out {t j : Nat} {listed : Array Bool} (h : Region.waitsFor md ops t j = true) (hj : listed.getD j false = false) : t ∉ Region.ready md ops listed := by
  intro hr
  obtain ⟨-, o, ho, hall⟩ := mem_ready.1 hr
  obtain ⟨o', ho', e, he, hb, hon⟩ := Region.waitsFor_spec h
  rw [ho] at ho'
  cases ho'
  have := hall e he hb
  rw [hon, hj] at this
  cases this

theorem late_out {n : Nat} (hs : Region.sinkB md ops n = true) (hl : lateB md ops n = true) (hn : n < ops.size) {listed : Array Bool} (inv : HeadInv md ops n listed) :
    ∀ (d i : Nat), n - i ≤ d → i < n → listed.getD i true = false → ∀ t, n ≤ t → t ∉ Region.ready md ops listed := by
  have htail : ∀ j, n ≤ j → j < ops.size → listed.getD j false = false := fun j h1 h2 => getD_both (inv.tail j h1 h2)
  intro d
  induction d with
  | zero => intro i h1 h2; omega
  | succ d ih =>
    intro i hd hi hun t ht hr
    have htl : t < ops.size := by
      obtain ⟨_, o, ho, _⟩ := mem_ready.1 hr
      exact (Array.getElem?_eq_some_iff.1 ho).1
    rcases Nat.lt_or_ge n t with hnt | hnt
    · have h1 := List.all_eq_true.1 hl t (List.mem_range.2 htl)
      simp only [Bool.or_eq_true, decide_eq_true_eq, show ¬ t ≤ n by omega, false_or] at h1
      obtain ⟨j, hj, hj2⟩ := List.any_eq_true.1 h1
      simp only [Bool.and_eq_true, decide_eq_true_eq] at hj2
      have hjt := List.mem_range.1 hj
      exact waits_out hj2.2 (htail j hj2.1 (by omega)) hr
    · obtain rfl : t = n := by omega
      obtain ⟨j, hj, hj2⟩ := List.any_eq_true.1 (List.all_eq_true.1 hs i (List.mem_range.2 hi))
      simp only [Bool.and_eq_true, decide_eq_true_eq] at hj2
      have hjt := List.mem_range.1 hj
      rcases Nat.lt_or_ge j t with hjn | hjn
      · cases hlj : listed.getD j false with
        | true =>
          obtain ⟨o, ho, e, he, hb, hon⟩ := Region.waitsFor_spec hj2.2
          have := inv.closed j o ho hlj e he hb
          rw [hon, getD_both hun] at this
          cases this
        | false =>
          exact ih j (by omega) hjn (getD_in (by rw [inv.size]; omega) hlj) t (Nat.le_refl _) hr
      · obtain rfl : j = t := by omega
        exact waits_out hj2.2 (getD_both hun) hr

/-- What holds of one order of the reading operations holds of each. -/
theorem head_first {n i : Nat} {oi : Oper} {v : Value} {L : Array Bool → Act → Prop} (hi : ops[i]? = some oi) (hsel : Region.noSelect ops = true)
    (hlate : ∀ listed, HeadInv md ops n listed → listed.getD i true = false → ∀ t, n ≤ t → t ∉ Region.ready md ops listed)
    (hdone : ∀ listed a, L listed a → ∀ j ∈ Region.ready md ops listed, n ≤ j) :
    ∀ (f : Nat) (listed : Array Bool) (a : Act), HeadInv md ops n listed →
      (∀ j oj, ops[j]? = some oj → j ≠ i → listed.getD j true = false → (∀ e ∈ oj.after, Region.binds md e = true → e.on ≠ i) → oi.apart ops oj = true) →
      i ∈ Region.ready md ops listed → YieldsAt P ops w oi v a →
      wpAnyL P md ops w n L f (listed.setIfInBounds i true) (a.put oi.dst v) → wpAnyL P md ops w n L (f + 1) listed a
  | f, listed, a, inv, hap, hr, hy, H => by
    have hun := (mem_ready.1 hr).1
    refine ⟨List.ne_nil_of_mem hr, fun j hj => ⟨Nat.lt_of_not_le fun h => hlate listed inv hun j h hj, ?_⟩⟩
    have hjn : j < n := Nat.lt_of_not_le fun h => hlate listed inv hun j h hj
    by_cases hji : j = i
    · subst hji
      exact hy.stOp hi H
    · have hj' := ready_mono hj hji
      match f, H with
      | 0, H => exact absurd (hdone _ _ H j hj') (by omega)
      | f + 1, H =>
        obtain ⟨hjun, oj, hoj, hall⟩ := mem_ready.1 hj
        have hno : ∀ e ∈ oj.after, Region.binds md e = true → e.on ≠ i := fun e he hb hon => by
          have := hall e he hb
          rw [hon, getD_both hun] at this
          cases this
        have hsw := stOp_put hoj (hap j oj hoj hji hjun hno) (fun cs b => Region.noSelect_spec hsel i oi cs b hi) (fun cs b => Region.noSelect_spec hsel j oj cs b hoj) hy (H.2 j hj').2
        refine stOp_mono (fun a' hh => ?_) hsw
        refine head_first hi hsel hlate hdone f (listed.setIfInBounds j true) a' (inv.set hj hjn) ?_ (ready_mono hr (Ne.symm hji)) hh.1 ?_
        · intro k ok hk hki hku hkn
          refine hap k ok hk hki ?_ hkn
          by_cases hjk : j = k
          · subst hjk; exact hjun
          · rwa [getD_set_ne true hjk] at hku
        · rw [Array.setIfInBounds_comm _ _ hji]
          exact hh.2

/-- From the n-th on: k in a row, then in any order. -/
def rowB (md : Region.Mode) (ops : Array Oper) : Nat → Nat → Nat → Array Bool → Bool
  | 0, g, n, listed => Region.lexFrom md ops g n listed
  | k + 1, g, n, listed => decide (Region.ready md ops listed = [n]) && rowB md ops k g (n + 1) (listed.setIfInBounds n true)

def midHead (md : Region.Mode) (ops : Array Oper) (k g : Nat) : Nat → Nat → Array Bool → Bool
  | 0, n, listed => rowB md ops k g n listed
  | f + 1, n, listed => (Region.ready md ops listed).contains n && Region.free md ops listed n && midHead md ops k g f (n + 1) (listed.setIfInBounds n true)

def midB (ops : Array Oper) (n k : Nat) : Bool :=
  Region.noSelect ops && decide (n + (k + 1) ≤ ops.size) && Region.sinkB .any ops n && lateB .any ops n && midHead .any ops (k + 1) (ops.size - (n + (k + 1))) n 0 (Array.replicate ops.size false)

def wpRow (P : Program) (ops : Array Oper) (Q : Exit → Act → World → Prop) (l2 : List Oper) : List Oper → Act → World → Prop
  | [], a, w => wpStill P ops w (fun a => Q .normal a w) l2 a
  | o :: rest, a, w => if Region.wanted o (yielded ops a.tmps) = true then o.wp P a w (wpRow P ops Q l2 rest) Q else wpRow P ops Q l2 rest (a.put o.dst undef) w

theorem any_of_row {Q : Exit → Act → World → Prop} (hsel : Region.noSelect ops = true) : ∀ (l l2 : List Oper) (n : Nat) (listed : Array Bool) (a : Act) (w : World), (∀ j, (l ++ l2)[j]? = ops[n + j]?) →
    rowB md ops l.length l2.length n listed = true → wpRow P ops Q l2 l a w → wpAny P md ops Q (l.length + l2.length) listed a w
  | [], l2, n, listed, a, w, hl, hB, h => by
    have := wpAnyS_lex (md := md) hsel l2 n listed a (by simpa using hl) hB h
    simpa using wpAny_of_still (Q' := Q) (fun _ h => h) _ _ _ this
  | o :: l, l2, n, listed, a, w, hl, hB, h => by
    have h0 : ops[n]? = some o := by simpa using (hl 0).symm
    simp only [List.length_cons, rowB, Bool.and_eq_true, decide_eq_true_eq] at hB
    have hnext : ∀ a w, wpRow P ops Q l2 l a w → wpAny P md ops Q (l.length + l2.length) (listed.setIfInBounds n true) a w := fun a w h =>
      any_of_row hsel l l2 (n + 1) _ a w (fun j => by have := hl (j + 1); simpa [Nat.add_assoc, Nat.add_comm 1 j] using this) hB.2 h
    rw [show (o :: l).length + l2.length = (l.length + l2.length) + 1 by simp; omega]
    refine ⟨fun h1 => (by rw [hB.1] at h1; cases h1), fun i hi => ?_⟩
    rw [hB.1] at hi
    obtain rfl : i = n := by simpa using hi
    refine wpOp_mono hnext ?_
    unfold wpOp
    simp only [h0]
    unfold wpRow at h
    split at h
    · rename_i hw; rw [if_pos hw]; exact .inl h
    · rename_i hw; rw [if_neg hw]; exact h

theorem head_lex {n k g : Nat} {Lq : Act → Prop} (hsel : Region.noSelect ops = true)
    (hlate : ∀ listed, HeadInv md ops n listed → ∀ i, i < n → listed.getD i true = false → ∀ t, n ≤ t → t ∉ Region.ready md ops listed)
    (hrow : ∀ listed, rowB md ops (k + 1) g n listed = true → ∀ j ∈ Region.ready md ops listed, n ≤ j) :
    ∀ (l : List Oper) (i : Nat) (listed : Array Bool) (a : Act), (∀ j, j < l.length → l[j]? = ops[i + j]?) → i + l.length = n → HeadInv md ops n listed →
      midHead md ops (k + 1) g l.length i listed = true → wpStill P ops w Lq l a → wpAnyL P md ops w n (fun listed' a' => rowB md ops (k + 1) g n listed' = true ∧ Lq a') l.length listed a
  | [], i, listed, a, _, hi, _, hB, h => by
    obtain rfl : i = n := by simpa using hi
    exact ⟨hB, h⟩
  | o :: l, i, listed, a, hl, hi, inv, hB, h => by
    have h0 : ops[i]? = some o := by simpa using (hl 0 (by simp)).symm
    simp only [List.length_cons] at hi
    simp only [List.length_cons, midHead, Bool.and_eq_true] at hB
    have hr : i ∈ Region.ready md ops listed := by simpa using hB.1.1
    obtain ⟨v, hy, hK⟩ := yieldsAt_of_stOp (K := wpStill P ops w Lq l) h0 (by unfold stOp; simp only [h0]; exact h)
    refine head_first h0 hsel (fun listed inv hun => hlate listed inv i (by omega) hun) (fun listed' a' hL => hrow listed' hL.1) l.length listed a inv (Region.free_spec h0 hB.1.2) hr hy ?_
    exact head_lex hsel hlate hrow l (i + 1) _ _ (fun j hj => by have := hl (j + 1) (by simp; omega); simpa [Nat.add_assoc, Nat.add_comm 1 j] using this) (by omega) (inv.set hr (by omega)) hB.2 hK

theorem wp_region_mid {id : Nat} {Q : Exit → Act → World → Prop} {a : Act} {w : World} {l : List Oper} (n k : Nat) (hm : P.follows .mixedOrders = true) (hB : midB l.toArray n k = true)
    (h : wpStill P l.toArray { w with drawn := w.drawn + 1 } (fun a' => wpRow P l.toArray Q (l.drop (n + (k + 1))) ((l.drop n).take (k + 1)) a' { w with drawn := w.drawn + 1 }) (l.take n) a) :
    (Code.region id l.toArray true).wp P Q a w := by
  simp only [midB, Bool.and_eq_true, decide_eq_true_eq] at hB
  obtain ⟨⟨⟨⟨hsel, hn⟩, hs⟩, hl⟩, hB⟩ := hB
  have hn : n + (k + 1) ≤ l.length := by simpa using hn
  have e1 : (l.take n).length = n := by simp; omega
  have e2 : ((l.drop n).take (k + 1)).length = k + 1 := by simp; omega
  have e3 : (l.drop (n + (k + 1))).length = l.toArray.size - (n + (k + 1)) := by simp
  have inv0 : HeadInv .any l.toArray n (Array.replicate l.toArray.size false) :=
    ⟨by simp, fun j oj _ hl => (by rw [getD_replicate_false] at hl; cases hl), fun t _ ht => getD_in (by simpa using ht) (getD_replicate_false _ _)⟩
  have hrow : ∀ listed, rowB .any l.toArray (k + 1) (l.toArray.size - (n + (k + 1))) n listed = true → ∀ j ∈ Region.ready .any l.toArray listed, n ≤ j := fun listed h j hj => by
    simp only [rowB, Bool.and_eq_true, decide_eq_true_eq] at h
    rw [h.1] at hj
    have : j = n := by simpa using hj
    omega
  have H := head_lex (md := .any) hsel (fun listed inv i hi hun => late_out hs hl (by simp; omega) inv (n - i) i (Nat.le_refl _) hi hun) hrow (l.take n) 0 _ a (fun j hj => by
    rw [e1] at hj
    simp [hj]) (by rw [e1]; omega) inv0 (by rw [e1]; exact hB) h
  refine wp_region_any hm ?_
  have := wpAny_of_head (Q' := Q) (g := k + 1 + (l.toArray.size - (n + (k + 1)))) (fun listed a' hL => by
    have := any_of_row (md := .any) (Q := Q) hsel ((l.drop n).take (k + 1)) (l.drop (n + (k + 1))) n listed a' _ (fun j => by
      rw [show l.drop (n + (k + 1)) = (l.drop n).drop (k + 1) by rw [List.drop_drop], List.take_append_drop]
      simp [List.getElem?_drop]) (by rw [e2, e3]; exact hL.1) hL.2
    rwa [e2, e3] at this) _ _ _ H
  rw [e1] at this
  have hz : n + (k + 1 + (l.toArray.size - (n + (k + 1)))) = l.toArray.size := by simp; omega
  rwa [hz] at this
end
end Go.Ox
