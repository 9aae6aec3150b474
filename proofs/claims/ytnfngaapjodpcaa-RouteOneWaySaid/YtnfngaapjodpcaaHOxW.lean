/-
  A struct that holds an array: flat cells told as rows.
-/
import Derived.Test.YtnfngaapjodpcaaHOxV
set_option linter.unusedVariables false
set_option linter.unusedSimpArgs false
namespace Go.Ox

theorem flat_cell {N : Nat} {ρ : Nat → Nat} {pre pre' post post' : List AV} {c : Nat} {v u : AV} (h1 : LAlike N ρ pre pre') (h2 : LAlike N ρ post post') (hv : Alike v (ren ρ u)) (hb : below N u) (hs : u.scalar = true) {o : Nat} (ho : o < pre.length + (c + post.length)) :
    below N ((⟨true, pre', 1, c, fun _ => [u], post', none⟩ : Blk).cell o) ∧ ((⟨true, pre', 1, c, fun _ => [u], post', none⟩ : Blk).cell o).scalar = true ∧
      Alike ((⟨true, pre ++ (List.replicate c v ++ post), 0, 0, fun _ => [], [], none⟩ : Blk).cell o) (ren ρ ((⟨true, pre', 1, c, fun _ => [u], post', none⟩ : Blk).cell o)) := by
  have l1 := h1.length
  have l2 := h2.length
  have e0 : (⟨true, pre ++ (List.replicate c v ++ post), 0, 0, fun _ => [], [], none⟩ : Blk).cell o = (pre ++ (List.replicate c v ++ post)).getD o .ff := by
    unfold Blk.cell
    rw [if_pos (by simp; omega)]
  rw [e0, List.getD_eq_getElem?_getD]
  unfold Blk.cell
  dsimp only
  by_cases c1 : o < pre'.length
  · rw [if_pos c1, List.getElem?_append_left (by omega), ← List.getD_eq_getElem?_getD]
    exact h1.at o
  · rw [if_neg c1, List.getElem?_append_right (by omega), l1]
    by_cases c2 : o - pre'.length < c * 1
    · rw [if_pos c2, List.getElem?_append_left (by simp; omega), List.getElem?_replicate, if_pos (by omega)]
      simp only [Nat.mod_one, List.getD_cons_zero, Option.getD_some]
      exact ⟨hb, hs, hv⟩
    · rw [if_neg c2, List.getElem?_append_right (by simp; omega), List.length_replicate, ← List.getD_eq_getElem?_getD, Nat.mul_one]
      exact h2.at _

/-- One block: flat cells, told as rows. -/
theorem sub_flat {j : Nat} {m : AM} {pre pre' post post' L : List AV} {c : Nat} {v u : AV} (hm : m.get j = some ⟨true, L, 0, 0, fun _ => [], [], none⟩) (hL : L = pre ++ (List.replicate c v ++ post))
    (h1 : LAlike 1 (fun x => if x = 0 then j else x) pre pre') (h2 : LAlike 1 (fun x => if x = 0 then j else x) post post') (hv : Alike v (ren (fun x => if x = 0 then j else x) u)) (hb : below 1 u) (hs : u.scalar = true) :
    Sub 0 (fun x => if x = 0 then j else x) m [some ⟨true, pre', 1, c, fun _ => [u], post', none⟩] := by
  subst hL
  have l1 := h1.length
  have l2 := h2.length
  refine ⟨?_, ?_, fun i hi => by omega, Nat.zero_le _, ?_⟩
  · intro id b hg
    have h0 : id = 0 := by have := AM.get_lt hg; simp at this; omega
    subst h0
    simp only [AM.get, Option.some.injEq] at hg
    subst hg
    refine ⟨⟨true, pre ++ (List.replicate c v ++ post), 0, 0, fun _ => [], [], none⟩, by simpa using hm, by simp [Blk.size]; omega, fun h => h, fun o ho => ?_⟩
    exact flat_cell h1 h2 hv hb hs (by simp only [Blk.size] at ho; omega)
  · intro i b i' b' hg hg' _ hne
    have h0 : i = 0 := by have := AM.get_lt hg; simp at this; omega
    have h0' : i' = 0 := by have := AM.get_lt hg'; simp at this; omega
    omega
  · intro id b hg
    have h0 : id = 0 := by have := AM.get_lt hg; simp at this; omega
    subst h0
    simp only [AM.get, Option.some.injEq] at hg
    subst hg
    exact ⟨_, by simpa using hm, trivial⟩

/-- An array of single cells within a struct, written over by the same. -/
theorem storeN_rows {v : AV} (hv : v.scalar = true) {Q : Blk → Prop} : ∀ (c q : Nat) (b : Blk), b.pre.length = 1 → b.s = 1 → q + c ≤ b.n → (∀ i, i < b.n → (b.f i).length = 1) → b.post ≠ [] →
    (∀ F, (∀ i, q ≤ i → i < q + c → F i = [v]) → (∀ i, i < q ∨ q + c ≤ i → F i = b.f i) → Q { b with f := F }) → (storeN b 0 0 (List.replicate c v) (q + 1)).holds Q
  | 0, q, b, _, _, _, _, _, h => h b.f (fun i h1 h2 => by omega) (fun _ _ => rfl)
  | c + 1, q, b, h1, h2, h3, h4, h5, h => by
    rw [List.replicate_succ]
    unfold storeN
    rw [if_pos hv]
    have hput : b.put (q + 1) 0 0 v = b.rowPut 0 q v := by
      unfold Blk.put
      have e1 : b.pre[q + 1]? = none := List.getElem?_eq_none (by omega)
      simp only [e1]
      cases hp : b.post with
      | nil => exact absurd hp h5
      | cons x xs =>
        simp only [h1, h2, Nat.add_sub_cancel, Nat.mod_one, Nat.div_one, Nat.mul_one]
        rw [if_pos (by omega)]
    rw [hput, T.holds_bind]
    unfold Blk.rowPut
    simp only [Blk.setRow_eq]
    refine ⟨by simp; omega, ?_⟩
    obtain ⟨x, hx⟩ : ∃ x, b.f q = [x] := List.length_eq_one_iff.1 (h4 q (by omega))
    rw [hx]
    show (storeN { b with f := fun i => if i = q then [v] else b.f i } 0 0 (List.replicate c v) (q + 1 + 1)).holds Q
    refine storeN_rows hv c (q + 1) _ h1 h2 (by show q + 1 + c ≤ b.n; omega) (fun i hi => ?_) h5 fun F g1 g2 => ?_
    · dsimp only
      split
      · rfl
      · exact h4 i hi
    · refine h F (fun i a1 a2 => ?_) (fun i a => ?_)
      · rcases Nat.lt_or_ge q i with hqi | hqi
        · exact g1 i (by omega) (by omega)
        · have : i = q := by omega
          subst this
          rw [g2 i (.inl (by omega))]
          simp
      · rw [g2 i (by omega)]
        dsimp only
        rw [if_neg (by omega)]

end Go.Ox
