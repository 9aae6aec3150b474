/-
  Arguments that came in, lists within lists too: families of blocks to be read alone; a law of them out of its tree.
-/
import Derived.Test.YtnfngaapjodpcaaHOxV
set_option linter.unusedVariables false
set_option linter.unusedSimpArgs false
namespace Go.Ox
open Go.RowKit Go.WideShapes Go.ChangeShapes

mutual
def CK.famN : CK → Nat
  | .sl ks => famsN ks + 1
  | .int _ => 0
  | .bool => 0
  | .str => 0
def famsN : List CK → Nat
  | [] => 0
  | k :: ks => k.famN + famsN ks
end

/-- A row of cells; those that are slices are members of families. -/
def rowAV : List CK → Nat → (Nat → Value) → Nat → List Nat → List AV
  | [], _, _, _, _ => []
  | .int k :: ks, b, g, c, js => .int k (intV (g c)) :: rowAV ks b g (c + 1) js
  | .bool :: ks, b, g, c, js => .bool (boolV (g c)) :: rowAV ks b g (c + 1) js
  | .str :: ks, b, g, c, js => .str (strV (g c)) :: rowAV ks b g (c + 1) js
  | .sl l :: ks, b, g, c, js => .part (b + famsN l) js :: rowAV ks (b + famsN l + 1) g (c + 1) js

theorem rowAV_below : ∀ (ks : List CK) (b : Nat) (g : Nat → Value) (c : Nat) (js : List Nat) (i : Nat), below (b + famsN ks) ((rowAV ks b g c js).getD i .ff) ∧ ((rowAV ks b g c js).getD i .ff).scalar = true
  | [], b, g, c, js, i => by simp [rowAV, below, AV.scalar]
  | .int _ :: ks, b, g, c, js, 0 => by simp [rowAV, below, AV.scalar]
  | .bool :: ks, b, g, c, js, 0 => by simp [rowAV, below, AV.scalar]
  | .str :: ks, b, g, c, js, 0 => by simp [rowAV, below, AV.scalar]
  | .sl l :: ks, b, g, c, js, 0 => by simp [rowAV, below, AV.scalar, famsN, CK.famN]; omega
  | .int _ :: ks, b, g, c, js, i + 1 => by have := rowAV_below ks b g (c + 1) js i; simpa [rowAV, famsN, CK.famN] using this
  | .bool :: ks, b, g, c, js, i + 1 => by have := rowAV_below ks b g (c + 1) js i; simpa [rowAV, famsN, CK.famN] using this
  | .str :: ks, b, g, c, js, i + 1 => by have := rowAV_below ks b g (c + 1) js i; simpa [rowAV, famsN, CK.famN] using this
  | .sl l :: ks, b, g, c, js, i + 1 => by
    have := rowAV_below ks (b + famsN l + 1) g (c + 1) js i
    rw [show b + famsN (.sl l :: ks) = b + famsN l + 1 + famsN ks from by simp only [famsN, CK.famN]; omega]
    simpa [rowAV] using this

theorem rowAV_length : ∀ (ks : List CK) (b : Nat) (g : Nat → Value) (c : Nat) (js : List Nat), (rowAV ks b g c js).length = ks.length
  | [], _, _, _, _ => rfl
  | .int _ :: ks, b, g, c, js => by simp [rowAV, rowAV_length ks]
  | .bool :: ks, b, g, c, js => by simp [rowAV, rowAV_length ks]
  | .str :: ks, b, g, c, js => by simp [rowAV, rowAV_length ks]
  | .sl _ :: ks, b, g, c, js => by simp [rowAV, rowAV_length ks]

/-- The slices of a row are those members. -/
def PartsAt (loc : Loc) : List CK → Nat → (Nat → Value) → Nat → List Nat → Prop
  | [], _, _, _, _ => True
  | .sl l :: ks, b, g, c, js => conc loc (.part (b + famsN l) js) = g c ∧ PartsAt loc ks (b + famsN l + 1) g (c + 1) js
  | .int _ :: ks, b, g, c, js => PartsAt loc ks b g (c + 1) js
  | .bool :: ks, b, g, c, js => PartsAt loc ks b g (c + 1) js
  | .str :: ks, b, g, c, js => PartsAt loc ks b g (c + 1) js

theorem PartsAt.congr {loc loc' : Loc} : ∀ {ks : List CK} {b : Nat} {g : Nat → Value} {c : Nat} {js : List Nat}, (∀ i, i < b + famsN ks → loc' i = loc i) → PartsAt loc ks b g c js → PartsAt loc' ks b g c js
  | [], _, _, _, _, _, _ => trivial
  | .sl l :: ks, b, g, c, js, h, hp => by
    have e : famsN (.sl l :: ks) = famsN l + 1 + famsN ks := by simp only [famsN, CK.famN]
    refine ⟨?_, PartsAt.congr (fun i hi => h i (by omega)) hp.2⟩
    rw [← hp.1]
    exact conc_congr (n := b + famsN (.sl l :: ks)) h _ (by simp only [below]; omega)
  | .int _ :: ks, b, g, c, js, h, hp => PartsAt.congr (ks := ks) (fun i hi => h i (by simp only [famsN, CK.famN]; omega)) hp
  | .bool :: ks, b, g, c, js, h, hp => PartsAt.congr (ks := ks) (fun i hi => h i (by simp only [famsN, CK.famN]; omega)) hp
  | .str :: ks, b, g, c, js, h, hp => PartsAt.congr (ks := ks) (fun i hi => h i (by simp only [famsN, CK.famN]; omega)) hp

theorem rowAV_conc {w : World} (loc : Loc) : ∀ (ks : List CK) (cs : List Value) (b : Nat) (g : Nat → Value) (c : Nat) (js : List Nat), CellsAre w ks cs → (∀ i, i < ks.length → cs[i]? = some (g (c + i))) → PartsAt loc ks b g c js →
    wfs ks g c ∧ ∀ i, i < ks.length → cs[i]? = some (conc loc ((rowAV ks b g c js).getD i .ff))
  | [], _, _, _, _, _, _, _, _ => by simp [wfs]
  | k :: ks, [], b, g, c, js, h, _, _ => by simp [CellsAre] at h
  | k :: ks, v :: cs, b, g, c, js, h, hg, hp => by
    simp only [CellsAre] at h
    have h0 := hg 0 (by simp)
    simp only [List.getElem?_cons_zero, Option.some.injEq, Nat.add_zero] at h0
    have hg' : ∀ i, i < ks.length → cs[i]? = some (g (c + 1 + i)) := fun i hi => by
      have := hg (i + 1) (by simp; omega)
      simp only [List.getElem?_cons_succ] at this
      rw [this, show c + (i + 1) = c + 1 + i from by omega]
    have step : ∀ (b' : Nat) (a : AV), (∀ i, i < ks.length → cs[i]? = some (conc loc ((rowAV ks b' g (c + 1) js).getD i .ff))) → conc loc a = v → ∀ i, i < (k :: ks).length → (v :: cs)[i]? = some (conc loc ((a :: rowAV ks b' g (c + 1) js).getD i .ff)) := by
      intro b' a ih ha i hi
      cases i with
      | zero => simp [ha]
      | succ i => simpa using ih i (by simpa using hi)
    cases k with
    | int k =>
      obtain ⟨n, rfl, hw⟩ := h.1
      have ih := rowAV_conc loc ks cs b g (c + 1) js h.2 hg' hp
      rw [wfs, rowAV, ← h0]
      exact ⟨⟨by simpa [intV] using hw, ih.1⟩, step b _ ih.2 (by simp [conc, intV])⟩
    | bool =>
      obtain ⟨n, rfl⟩ := h.1
      have ih := rowAV_conc loc ks cs b g (c + 1) js h.2 hg' hp
      refine ⟨ih.1, ?_⟩
      rw [rowAV, ← h0]
      exact step b _ ih.2 (by simp [conc, boolV])
    | str =>
      obtain ⟨n, rfl, hw⟩ := h.1
      have ih := rowAV_conc loc ks cs b g (c + 1) js h.2 hg' hp
      rw [wfs, rowAV, ← h0]
      exact ⟨⟨by simpa [strV] using hw, ih.1⟩, step b _ ih.2 (by simp [conc, strV])⟩
    | sl l =>
      have ih := rowAV_conc loc ks cs (b + famsN l + 1) g (c + 1) js h.2 hg' hp.2
      refine ⟨ih.1, ?_⟩
      rw [rowAV]
      exact step (b + famsN l + 1) _ ih.2 (by rw [hp.1, ← h0])

/-- A member, by numbers. -/
def memOf (ks : List CK) (b : Nat) (G : List Nat → Nat → Value) (S : List Nat → Bool × Option Addr × Nat × Nat) (js : List Nat) : Mem :=
  ⟨(S js).1, (S js).2.1, (S js).2.2.1, (S js).2.2.2, ks.length, fun q => rowAV ks b (G (q :: js)) 0 (q :: js)⟩

def MemWf (ks : List CK) (G : List Nat → Nat → Value) (S : List Nat → Bool × Option Addr × Nat × Nat) : Prop :=
  ∀ js, ((S js).1 = true → (S js).2.2.1 = 0 ∧ (S js).2.2.2 = 0) ∧ ((S js).1 = false → 0 < (S js).2.2.2) ∧ (S js).2.2.1 ≤ (S js).2.2.2 ∧ (S js).2.2.2 ≤ maxLen ∧ ∀ q, q < (S js).2.2.2 → wfs ks (G (q :: js)) 0

mutual
def CK.FamAV : CK → Nat → AM → Prop
  | .sl l, b, A => ∃ A1 G S, FamsAV l b A1 ∧ A = A1 ++ [some (Blk.family (memOf l b G S))] ∧ MemWf l G S
  | .int _, _, A => A = []
  | .bool, _, A => A = []
  | .str, _, A => A = []
def FamsAV : List CK → Nat → AM → Prop
  | [], _, A => A = []
  | k :: ks, b, A => ∃ A1 A2, CK.FamAV k b A1 ∧ FamsAV ks (b + k.famN) A2 ∧ A = A1 ++ A2
end

-- Rows within are no empty ones.
mutual
def CK.deep : CK → Bool
  | .sl ks => !ks.isEmpty && deeps ks
  | .int _ => true
  | .bool => true
  | .str => true
def deeps : List CK → Bool
  | [] => true
  | k :: ks => k.deep && deeps ks
end

def capV : Value → Nat
  | .slice _ _ c => c
  | _ => 0
def lenV : Value → Nat
  | .slice _ l _ => l
  | _ => 0
def adrV : Value → Option Addr
  | .slice a _ _ => a
  | _ => none

/-- The cell c of the row q of a slice. -/
def inRow (w : World) (s : Nat) (v : Value) (q c : Nat) : Value :=
  match v with
  | .slice (some a) _ cap => if q < cap then (w.cell? ((a.add (q * s)).add c)).getD undef else .slice none 0 0
  | _ => .slice none 0 0

theorem inRow_in {w : World} {ks : List CK} {v : Value} (h : CellIs w (.sl ks) v) {q : Nat} (hq : q < capV v) : ∃ cs, CellsAre w ks cs ∧ ∀ i, i < ks.length → cs[i]? = some (inRow w ks.length v q i) := by
  rcases h with rfl | ⟨a, len, cap, rfl, hl, hc, hr⟩
  · simp [capV] at hq
  · simp only [capV] at hq
    obtain ⟨cs, h1, h2⟩ := hr q hq
    obtain ⟨_, h3, h4⟩ := World.cells?_some h1
    refine ⟨cs, h2, fun i hi => ?_⟩
    simp only [inRow, if_pos hq]
    rw [h4 i hi]
    have : ∃ x, cs[i]? = some x := ⟨_, List.getElem?_eq_getElem (by omega)⟩
    obtain ⟨x, hx⟩ := this
    rw [hx]; rfl

theorem inRow_cell {w : World} {ks : List CK} {B O len cap : Nat} (h : CellIs w (.sl ks) (.slice (some ⟨B, O, none⟩) len cap)) {q i : Nat} (hq : q < cap) (hi : i < ks.length) :
    w.cell? ⟨B, O + (i + q * ks.length), none⟩ = some (inRow w ks.length (.slice (some ⟨B, O, none⟩) len cap) q i) := by
  have hadd : ((Addr.mk B O none).add (q * ks.length)).add i = ⟨B, O + (i + q * ks.length), none⟩ := by
    unfold Addr.add
    split <;> split <;> simp <;> omega
  rcases h with h | ⟨a', len', cap', h, _, _, hr⟩
  · simp at h
  · simp only [Value.slice.injEq, Option.some.injEq] at h
    obtain ⟨rfl, rfl, rfl⟩ := h
    obtain ⟨cs, h1, h2⟩ := hr q hq
    obtain ⟨_, h3, h4⟩ := World.cells?_some h1
    have := h4 i hi
    rw [hadd] at this
    simp only [inRow, if_pos hq, hadd]
    rw [this, List.getElem?_eq_getElem (by omega)]
    rfl

theorem CellsAre.at {w : World} : ∀ {ks : List CK} {cs : List Value}, CellsAre w ks cs → ∀ (i : Nat) (k : CK) (v : Value), ks[i]? = some k → cs[i]? = some v → CellIs w k v
  | [], [], _, i, k, v, h, _ => by simp at h
  | k :: ks, v :: vs, hc, 0, k', v', h1, h2 => by
    simp only [List.getElem?_cons_zero, Option.some.injEq] at h1 h2
    subst h1; subst h2; simp only [CellsAre] at hc; exact hc.1
  | k :: ks, v :: vs, hc, i + 1, k', v', h1, h2 => by
    simp only [List.getElem?_cons_succ] at h1 h2
    simp only [CellsAre] at hc
    exact CellsAre.at hc.2 i k' v' h1 h2
  | [], _ :: _, hc, _, _, _, _, _ => by simp [CellsAre] at hc
  | _ :: _, [], hc, _, _, _, _, _ => by simp [CellsAre] at hc

theorem nil_is {w : World} {k : CK} (hk : ∃ l, k = .sl l) : CellIs w k (.slice none 0 0) := by
  obtain ⟨l, rfl⟩ := hk
  exact .inl rfl

theorem inRow_col {w : World} {ks : List CK} {v : Value} (h : CellIs w (.sl ks) v) (q i : Nat) (l : List CK) (hi : ks[i]? = some (.sl l)) : CellIs w (.sl l) (inRow w ks.length v q i) := by
  by_cases hq : q < capV v
  · obtain ⟨cs, h1, h2⟩ := inRow_in h hq
    have hlt : i < ks.length := by
      rcases Nat.lt_or_ge i ks.length with h' | h'
      · exact h'
      · simp [List.getElem?_eq_none h'] at hi
    exact h1.at i _ _ hi (h2 i hlt)
  · have : inRow w ks.length v q i = .slice none 0 0 := by
      unfold inRow
      split
      · rename_i a len cap
        simp only [capV] at hq
        rw [if_neg hq]
      · rfl
    rw [this]
    exact .inl rfl

theorem sl_pos {w : World} {ks : List CK} (hne : ks ≠ []) {a : Addr} {len cap : Nat} (h : CellIs w (.sl ks) (.slice (some a) len cap)) (hc : 0 < cap) : a.spot = none ∧ a.block < w.heap.size := by
  rcases h with h | ⟨a', len', cap', h, _, _, hr⟩
  · simp at h
  · simp only [Value.slice.injEq, Option.some.injEq] at h
    obtain ⟨rfl, rfl, rfl⟩ := h
    obtain ⟨cs, h1, h2⟩ := hr 0 hc
    obtain ⟨_, h3, h4⟩ := World.cells?_some h1
    have hl : 0 < ks.length := List.length_pos_iff.2 hne
    have h5 := h4 0 hl
    have h6 : cs[0]? = some (cs[0]'(by omega)) := List.getElem?_eq_getElem (by omega)
    rw [h6] at h5
    simp only [Nat.zero_mul] at h5
    have e : (a.add 0).add 0 = a := by simp [Addr.add]
    rw [e] at h5
    unfold World.cell? at h5
    split at h5
    · rename_i c _ _ hb
      refine ⟨?_, ?_⟩
      · cases hs : a.spot with
        | none => rfl
        | some x => simp [hs] at h5
      · rcases Nat.lt_or_ge a.block w.heap.size with h' | h'
        · exact h'
        · simp [Array.getElem?_eq_none h'] at hb
    · cases h5

theorem Lent.refl {w : World} {m : AM} {loc : Loc} (hm : MR w (fun _ => False) loc m w) (hro : RO m) : Lent w m loc m loc := ⟨hm, hro, Nat.le_refl _, fun _ _ => rfl⟩

theorem RO.snoc {m : AM} {b : Blk} (h : RO m) (hb : b.rw = false) : RO (m ++ [some b]) := by
  intro id c hg
  rcases AM.get_snoc hg with hg' | ⟨rfl, hc⟩
  · exact h id c hg'
  · obtain rfl := Option.some.inj hc
    exact hb

mutual
/-- A column of slices, lent. -/
theorem lend_fam {w : World} (hpos : 0 < w.heap.size) : ∀ (k : CK) (g : List Nat → Value) (m : AM) (loc : Loc), k.deep = true → (∀ l, k = .sl l → ∀ js, CellIs w k (g js)) → MR w (fun _ => False) loc m w → RO m →
    ∃ A loc', k.FamAV m.length A ∧ A.length = k.famN ∧ Lent w m loc (m ++ A) loc' ∧ ∀ l, k = .sl l → ∀ js, conc loc' (.part (m.length + famsN l) js) = g js
  | .int _, g, m, loc, _, _, hm, hro => ⟨[], loc, rfl, rfl, by simpa using Lent.refl hm hro, fun l h => by cases h⟩
  | .bool, g, m, loc, _, _, hm, hro => ⟨[], loc, rfl, rfl, by simpa using Lent.refl hm hro, fun l h => by cases h⟩
  | .str, g, m, loc, _, _, hm, hro => ⟨[], loc, rfl, rfl, by simpa using Lent.refl hm hro, fun l h => by cases h⟩
  | .sl l, g, m, loc, hd, hg, hm, hro => by
    have hg := hg l rfl
    simp only [CK.deep, Bool.and_eq_true, Bool.not_eq_true', List.isEmpty_eq_false_iff] at hd
    let h : List Nat → Nat → Value := fun js c => match js with
      | [] => .slice none 0 0
      | q :: js => inRow w l.length (g js) q c
    obtain ⟨A, loc1, h1, h2, h3, h4⟩ := lend_fams hpos l h 0 m loc hd.2 (fun js i l' hi => by
      cases js with
      | nil => exact .inl rfl
      | cons q js => simp only [h, Nat.zero_add]; exact inRow_col (hg js) q i l' hi) hm hro
    let S : List Nat → Bool × Option Addr × Nat × Nat := fun js => (decide (capV (g js) = 0), adrV (g js), lenV (g js), capV (g js))
    have hS : ∀ js, lenV (g js) ≤ capV (g js) ∧ capV (g js) ≤ maxLen := fun js => by
      rcases hg js with e | ⟨a, len, cap, e, e1, e2, _⟩
      · rw [e]; simp [lenV, capV]
      · rw [e]; exact ⟨e1, e2⟩
    have hrow : ∀ js q, q < capV (g js) → ∃ cs, CellsAre w l cs ∧ (∀ i, i < l.length → cs[i]? = some (h (q :: js) (0 + i))) ∧ wfs l (h (q :: js)) 0 ∧ ∀ i, i < l.length → cs[i]? = some (conc loc1 ((rowAV l m.length (h (q :: js)) 0 (q :: js)).getD i .ff)) := fun js q hq => by
      obtain ⟨cs, c1, c2⟩ := inRow_in (hg js) hq
      have c2' : ∀ i, i < l.length → cs[i]? = some (h (q :: js) (0 + i)) := fun i hi => by simp only [h, Nat.zero_add]; exact c2 i hi
      obtain ⟨c3, c4⟩ := rowAV_conc loc1 l cs m.length (h (q :: js)) 0 (q :: js) c1 c2' (h4 (q :: js))
      exact ⟨cs, c1, c2', c3, c4⟩
    have hlen : (m ++ A).length = m.length + famsN l := by rw [List.length_append, h2]
    refine ⟨A ++ [some (Blk.family (memOf l m.length h S))], addLoc loc1 (m ++ A).length (LE.mk 0 0 fun js => ⟨adrV (g js), lenV (g js), capV (g js)⟩), ⟨A, h, S, h1, rfl, fun js => ?_⟩, by simp [h2, CK.famN], ?_, fun l' e js => ?_⟩
    · refine ⟨fun hz => ?_, fun hz => ?_, (hS js).1, (hS js).2, fun q hq => ?_⟩
      · have hz' : capV (g js) = 0 := by simpa [S] using hz
        exact ⟨by have := (hS js).1; simp only [S]; omega, hz'⟩
      · have hz' : capV (g js) ≠ 0 := by simpa [S] using hz
        simp only [S]; omega
      · obtain ⟨_, _, _, c3, _⟩ := hrow js q hq
        exact c3
    · rw [← List.append_assoc]
      have hfam := h3.mr.lendFam (memOf l m.length h S) (LE.mk 0 0 fun js => ⟨adrV (g js), lenV (g js), capV (g js)⟩) hpos (fun id c hg' hr => by rw [h3.ro id c hg'] at hr; cases hr) (fun js => ?_)
      · exact ⟨hfam, h3.ro.snoc rfl, by simp only [List.length_append, List.length_cons, List.length_nil]; omega, fun i hi => (addLoc_old _ (by rw [hlen]; omega)).trans (h3.loc i hi)⟩
      · by_cases hz : capV (g js) = 0
        · refine .inl ⟨by simp [memOf, S, hz], ?_⟩
          have := (hS js).1
          simp only [memOf, S, SV.mk.injEq, true_and]
          omega
        · obtain ⟨a, len, cap, e⟩ : ∃ a len cap, g js = .slice (some a) len cap := by
            rcases hg js with e | ⟨a, len, cap, e, _⟩
            · rw [e] at hz; simp [capV] at hz
            · exact ⟨a, len, cap, e⟩
          have hcell := hg js
          rw [e] at hcell
          obtain ⟨hsp, hlt⟩ := sl_pos hd.1 hcell (by rw [e] at hz; simp only [capV] at hz; omega)
          obtain ⟨B, O, sp⟩ := a
          dsimp only at hsp hlt
          subst hsp
          refine .inr ⟨by simp [memOf, S, hz], B, O, ?_, hlt, (fun id c hg' hr => by rw [h3.ro id c hg'] at hr; cases hr), fun o ho => ?_⟩
          · simp [memOf, S, e, adrV, lenV, capV]
          · have ho' : o < cap * l.length := by simpa [memOf, Mem.blk, Blk.rows, Blk.size, S, e, capV] using ho
            have hpl : 0 < l.length := List.length_pos_iff.2 hd.1
            have hrc : o / l.length < cap := Nat.div_lt_of_lt_mul (by rw [Nat.mul_comm]; exact ho')
            have hmod := Nat.mod_lt o hpl
            have hdm := Nat.div_add_mod' o l.length
            have hdm' : o % l.length + o / l.length * l.length = o := by omega
            have hc : (memOf l m.length h S js).blk.cell o = (rowAV l m.length (h (o / l.length :: js)) 0 (o / l.length :: js)).getD (o % l.length) .ff := by
              have := Blk.cell_row (memOf l m.length h S js).blk (r := o % l.length) (j := o / l.length) hmod (by simpa [memOf, Mem.blk, Blk.rows, S, e, capV] using hrc)
              simp only [Mem.blk, Blk.rows, memOf, List.length_nil, Nat.zero_add] at this ⊢
              rw [show o % l.length + o / l.length * l.length = o from by omega] at this
              exact this
            rw [hc]
            have hb := rowAV_below l m.length (h (o / l.length :: js)) 0 (o / l.length :: js) (o % l.length)
            refine ⟨?_, by rw [hlen]; exact hb.1, hb.2⟩
            obtain ⟨cs, _, c2, _, c4⟩ := hrow js (o / l.length) (by rw [e]; simpa [capV] using hrc)
            have := c2 _ hmod
            rw [c4 _ hmod, Option.some.injEq] at this
            rw [this]
            have hic := inRow_cell hcell hrc hmod
            rw [hdm'] at hic
            simp only [h, e, Nat.zero_add]
            exact hic
    · obtain rfl : l = l' := by injection e
      rw [← hlen]
      simp only [conc, addLoc_new]
      rcases hg js with e' | ⟨a, len, cap, e', _⟩ <;> rw [e'] <;> rfl
/-- The slices of rows, lent. -/
theorem lend_fams {w : World} (hpos : 0 < w.heap.size) : ∀ (ks : List CK) (g : List Nat → Nat → Value) (c : Nat) (m : AM) (loc : Loc), deeps ks = true → (∀ js i l, ks[i]? = some (.sl l) → CellIs w (.sl l) (g js (c + i))) → MR w (fun _ => False) loc m w → RO m →
    ∃ A loc', FamsAV ks m.length A ∧ A.length = famsN ks ∧ Lent w m loc (m ++ A) loc' ∧ ∀ js, PartsAt loc' ks m.length (g js) c js
  | [], g, c, m, loc, _, _, hm, hro => ⟨[], loc, rfl, rfl, by simpa using Lent.refl hm hro, fun _ => trivial⟩
  | k :: ks, g, c, m, loc, hd, hg, hm, hro => by
    simp only [deeps, Bool.and_eq_true] at hd
    obtain ⟨A1, loc1, a1, a2, a3, a4⟩ := lend_fam hpos k (fun js => g js c) m loc hd.1 (fun l e js => by subst e; exact hg js 0 l rfl) hm hro
    obtain ⟨A2, loc2, b1, b2, b3, b4⟩ := lend_fams hpos ks g (c + 1) (m ++ A1) loc1 hd.2 (fun js i l hi => by
      have := hg js (i + 1) l (by simpa using hi)
      rw [show c + (i + 1) = c + 1 + i from by omega] at this
      exact this) a3.mr a3.ro
    have hl : (m ++ A1).length = m.length + k.famN := by rw [List.length_append, a2]
    refine ⟨A1 ++ A2, loc2, ⟨A1, A2, a1, by rw [← hl]; exact b1, rfl⟩, by simp [a2, b2, famsN], by rw [← List.append_assoc]; exact a3.trans b3, fun js => ?_⟩
    have hb := b4 js
    rw [hl] at hb
    cases k with
    | int _ => simpa [CK.famN, PartsAt] using hb
    | bool => simpa [CK.famN, PartsAt] using hb
    | str => simpa [CK.famN, PartsAt] using hb
    | sl l =>
      refine ⟨?_, by simpa [CK.famN, Nat.add_assoc] using hb⟩
      rw [← a4 l rfl js]
      exact conc_congr (n := (m ++ A1).length) b3.loc _ (by simp only [below]; rw [hl]; simp only [CK.famN]; omega)
end

/-! ### Arguments -/

/-- What a cell that came in is as an abstract value; the memory behind it. -/
def CellAVn : CK → AM → AV → AM → Prop
  | .int k, m, v, m' => (∃ n, v = .int k n ∧ (Lit.int k n).wf = true) ∧ m' = m
  | .bool, m, v, m' => (∃ b, v = .bool b) ∧ m' = m
  | .str, m, v, m' => (∃ s : ByteArray, v = .str s ∧ s.size ≤ maxLen) ∧ m' = m
  | .sl ks, m, v, m' => (v = .nils ∧ m' = m) ∨ ∃ (len cap : Nat) (g : Nat → Nat → Value) (A : AM), v = .sl (m.length + famsN ks) 0 ks.length 0 len cap ∧ FamsAV ks m.length A ∧ A.length = famsN ks ∧
      m' = m ++ A ++ [some (Blk.rows false ks.length cap fun r => rowAV ks m.length (g r) 0 [r])] ∧ len ≤ cap ∧ cap ≤ maxLen ∧ ∀ r, r < cap → wfs ks (g r) 0
def CellsAVn : List CK → AM → List AV → AM → Prop
  | [], m, vs, m' => vs = [] ∧ m' = m
  | k :: ks, m, vs, m' => ∃ v l m1, vs = v :: l ∧ CellAVn k m v m1 ∧ CellsAVn ks m1 l m'
def ArgsAVn : List PK → AM → List AV → AM → Prop
  | [], m, vs, m' => vs = [] ∧ m' = m
  | .one k :: ps, m, vs, m' => ∃ v l m1, vs = v :: l ∧ CellAVn k m v m1 ∧ ArgsAVn ps m1 l m'
  | .agg ks :: ps, m, vs, m' => ∃ c l m1, vs = .agg c :: l ∧ CellsAVn ks m c m1 ∧ ArgsAVn ps m1 l m'

def PK.deep : PK → Bool
  | .one k => k.deep
  | .agg ks => deeps ks

theorem lend_cellN {w : World} {k : CK} {v : Value} (h : CellIs w k v) (hs : Spotless w v) (hf : k.deep = true) {m : AM} {loc : Loc} (hm : MR w (fun _ => False) loc m w) (hro : RO m) :
    ∃ av m' loc', CellAVn k m av m' ∧ conc loc' av = v ∧ below m'.length av ∧ av.scalar = true ∧ Lent w m loc m' loc' := by
  have same : Lent w m loc m loc := ⟨hm, hro, Nat.le_refl _, fun _ _ => rfl⟩
  cases k with
  | int k =>
    obtain ⟨n, rfl, hw⟩ := h
    exact ⟨.int k n, m, loc, ⟨⟨n, rfl, hw⟩, rfl⟩, rfl, by simp [below], rfl, same⟩
  | bool =>
    obtain ⟨n, rfl⟩ := h
    exact ⟨.bool n, m, loc, ⟨⟨n, rfl⟩, rfl⟩, rfl, by simp [below], rfl, same⟩
  | str =>
    obtain ⟨n, rfl, hw⟩ := h
    exact ⟨.str n, m, loc, ⟨⟨n, rfl, hw⟩, rfl⟩, rfl, by simp [below], rfl, same⟩
  | sl ks =>
    have hcell := h
    rcases h with rfl | ⟨a, len, cap, rfl, hl, hc, hr⟩
    · exact ⟨.nils, m, loc, .inl ⟨rfl, rfl⟩, rfl, by simp [below], rfl, same⟩
    · obtain ⟨hsp, hlt⟩ := hs a len cap rfl
      obtain ⟨B, O, sp⟩ := a
      dsimp only at hsp hlt
      subst hsp
      have hpos : 0 < w.heap.size := by omega
      simp only [CK.deep, Bool.and_eq_true, Bool.not_eq_true', List.isEmpty_eq_false_iff] at hf
      let V : Value := .slice (some ⟨B, O, none⟩) len cap
      let g : List Nat → Nat → Value := fun js c => match js with
        | [] => .slice none 0 0
        | q :: _ => inRow w ks.length V q c
      obtain ⟨A, loc1, h1, h2, h3, h4⟩ := lend_fams hpos ks g 0 m loc hf.2 (fun js i l' hi => by
        cases js with
        | nil => exact .inl rfl
        | cons q js => simp only [g, Nat.zero_add]; exact inRow_col hcell q i l' hi) hm hro
      have hlen : (m ++ A).length = m.length + famsN ks := by rw [List.length_append, h2]
      have hrow : ∀ q, q < cap → ∃ cs, (∀ i, i < ks.length → cs[i]? = some (g [q] (0 + i))) ∧ wfs ks (g [q]) 0 ∧ ∀ i, i < ks.length → cs[i]? = some (conc loc1 ((rowAV ks m.length (g [q]) 0 [q]).getD i .ff)) := fun q hq => by
        obtain ⟨cs, c1, c2⟩ := inRow_in hcell (q := q) hq
        have c2' : ∀ i, i < ks.length → cs[i]? = some (g [q] (0 + i)) := fun i hi => by simp only [g, Nat.zero_add]; exact c2 i hi
        obtain ⟨c3, c4⟩ := rowAV_conc loc1 ks cs m.length (g [q]) 0 [q] c1 c2' (h4 [q])
        exact ⟨cs, c2', c3, c4⟩
      have hpl : 0 < ks.length := List.length_pos_iff.2 hf.1
      have hcell2 : ∀ o, o < (Blk.rows false ks.length cap fun r => rowAV ks m.length (g [r]) 0 [r]).size → ∃ r c, r < cap ∧ c < ks.length ∧ o = c + r * ks.length ∧ (Blk.rows false ks.length cap fun r => rowAV ks m.length (g [r]) 0 [r]).cell o = (rowAV ks m.length (g [r]) 0 [r]).getD c .ff := by
        intro o ho
        have ho : o < cap * ks.length := by simpa [Blk.rows, Blk.size] using ho
        have hd := Nat.div_add_mod' o ks.length
        have hrc : o / ks.length < cap := Nat.div_lt_of_lt_mul (by rw [Nat.mul_comm]; exact ho)
        refine ⟨o / ks.length, o % ks.length, hrc, Nat.mod_lt _ hpl, by omega, ?_⟩
        have := Blk.cell_row (Blk.rows false ks.length cap fun r => rowAV ks m.length (g [r]) 0 [r]) (r := o % ks.length) (j := o / ks.length) (Nat.mod_lt _ hpl) hrc
        simp only [Blk.rows, List.length_nil, Nat.zero_add] at this
        rw [show o % ks.length + o / ks.length * ks.length = o from by omega] at this
        exact this
      refine ⟨.sl (m.length + famsN ks) 0 ks.length 0 len cap, m ++ A ++ [some (Blk.rows false ks.length cap fun r => rowAV ks m.length (g [r]) 0 [r])], addLoc loc1 (m ++ A).length (LE.mk B O noFam),
        .inr ⟨len, cap, fun r => g [r], A, rfl, h1, h2, rfl, hl, hc, fun r hr => by obtain ⟨_, _, c3, _⟩ := hrow r hr; exact c3⟩, ?_, ?_, rfl, ?_, ?_, ?_, ?_⟩
      · rw [← hlen]
        simp [conc, addLoc_new]
      · simp [below, h2]
      · refine MR.lend h3.mr h3.ro _ rfl rfl (LE.mk B O noFam) hlt ?_ ?_ ?_
        · intro o ho
          obtain ⟨r, c, h5, h6, rfl, h8⟩ := hcell2 o ho
          rw [h8]
          have hic := inRow_cell hcell h5 h6
          show w.cell? ⟨B, O + (c + r * ks.length), none⟩ = _
          rw [hic]
          obtain ⟨cs, c2, _, c4⟩ := hrow r h5
          have := c2 c h6
          rw [c4 c h6] at this
          simp only [g, Nat.zero_add] at this
          exact this.symm
        · intro o ho
          obtain ⟨r, c, h5, h6, rfl, h8⟩ := hcell2 o ho
          rw [h8, hlen]
          exact (rowAV_below ks m.length (g [r]) 0 [r] c).1
        · intro o ho
          obtain ⟨r, c, h5, h6, rfl, h8⟩ := hcell2 o ho
          rw [h8]
          exact (rowAV_below ks m.length (g [r]) 0 [r] c).2
      · exact h3.ro.snoc rfl
      · simp only [List.length_append, List.length_cons, List.length_nil]; omega
      · exact fun i hi => (addLoc_old _ (by rw [hlen]; omega)).trans (h3.loc i hi)

theorem lend_cellsN {w : World} : ∀ (ks : List CK) (vs : List Value) (m : AM) (loc : Loc), CellsAre w ks vs → (∀ c ∈ vs, Spotless w c) → deeps ks = true → MR w (fun _ => False) loc m w → RO m →
    ∃ l m' loc', CellsAVn ks m l m' ∧ concL loc' l = vs ∧ belowL m'.length l ∧ l.all AV.scalar = true ∧ Lent w m loc m' loc'
  | [], [], m, loc, _, _, _, hm, hro => ⟨[], m, loc, ⟨rfl, rfl⟩, rfl, by simp [belowL], rfl, ⟨hm, hro, Nat.le_refl _, fun _ _ => rfl⟩⟩
  | [], _ :: _, _, _, h, _, _, _, _ => by simp [CellsAre] at h
  | _ :: _, [], _, _, h, _, _, _, _ => by simp [CellsAre] at h
  | k :: ks, v :: vs, m, loc, h, hs, hf, hm, hro => by
    simp only [CellsAre] at h
    simp only [deeps, Bool.and_eq_true] at hf
    obtain ⟨av, m1, l1, c1, c2, c3, c4, c5⟩ := lend_cellN h.1 (hs v (by simp)) hf.1 hm hro
    obtain ⟨avl, m2, l2, d1, d2, d3, d4, d5⟩ := lend_cellsN ks vs m1 l1 h.2 (fun c hc => hs c (by simp [hc])) hf.2 c5.mr c5.ro
    refine ⟨av :: avl, m2, l2, ⟨av, avl, m1, rfl, c1, d1⟩, ?_, ?_, by simp [c4, d4], c5.trans d5⟩
    · simp only [concL]
      rw [conc_congr d5.loc av c3, c2, d2]
    · exact ⟨below_mono d5.le _ c3, d3⟩

section
variable {H : Type} {enc : TypeId × Value → H} {P : Program} {w : World}

theorem lend_argsN : ∀ (ts : List TypeId) (ps : List PK) (vs : List Value) (ds : List (DataW H)) (pl : List MemPlace) (m : AM) (loc : Loc), ts.mapM (pkOf P 12) = some ps → ps.all PK.deep = true →
    DataW.TrodAll enc P w 0 (fun _ => true) true ts vs ds pl → (∀ (j : Nat) t v, ts[j]? = some t → vs[j]? = some v → ∃ r b, Value.okWide P w r b t v) → MR w (fun _ => False) loc m w → RO m →
    ∃ l m' loc', ArgsAVn ps m l m' ∧ concL loc' l = vs ∧ belowL m'.length l ∧ Lent w m loc m' loc'
  | [], ps, [], _, _, m, loc, hk, _, _, _, hm, hro => by
    simp at hk
    subst hk
    exact ⟨[], m, loc, ⟨rfl, rfl⟩, rfl, by simp [belowL], ⟨hm, hro, Nat.le_refl _, fun _ _ => rfl⟩⟩
  | [], _, _ :: _, _, _, _, _, _, _, h, _, _, _ => by simp [DataW.TrodAll] at h
  | _ :: _, _, [], _, _, _, _, _, _, h, _, _, _ => by simp [DataW.TrodAll] at h
  | _ :: _, _, _ :: _, [], _, _, _, _, _, h, _, _, _ => by simp [DataW.TrodAll] at h
  | t :: ts, ps, v :: vs, d :: ds, pl, m, loc, hk, hf, h, hv, hm, hro => by
    simp only [DataW.TrodAll] at h
    obtain ⟨p, q, ⟨fuel, h1⟩, h2, rfl⟩ := h
    rw [List.mapM_cons] at hk
    obtain ⟨p0, hp0, hk⟩ := Option.bind_eq_some_iff.1 hk
    obtain ⟨ps', hps, hk⟩ := Option.bind_eq_some_iff.1 hk
    obtain rfl : p0 :: ps' = ps := Option.some.inj hk
    simp only [List.all_cons, Bool.and_eq_true] at hf
    obtain ⟨r, b, hok⟩ := hv 0 t v rfl rfl
    have hspot := spotless hok
    have rest : ∀ (m1 : AM) (l1 : Loc), MR w (fun _ => False) l1 m1 w → RO m1 → _ := fun m1 l1 a1 a2 => lend_argsN ts ps' vs ds q m1 l1 hps hf.2 h2 (fun j t v h3 h4 => hv (j + 1) t v h3 h4) a1 a2
    unfold pkOf at hp0
    split at hp0
    · rename_i fs ht
      obtain ⟨ks, hks, rfl⟩ := Option.map_eq_some_iff.1 hp0
      obtain ⟨cs, rfl, _⟩ := okWide_struct ht hok
      have hc := cells_are _ _ _ _ _ _ hks h1
      obtain ⟨l, m1, l1, c1, c2, c3, c4, c5⟩ := lend_cellsN ks _ m loc hc hspot hf.1 hm hro
      obtain ⟨l', m2, l2, d1, d2, d3, d4⟩ := rest m1 l1 c5.mr c5.ro
      refine ⟨.agg l :: l', m2, l2, ⟨l, l', m1, rfl, c1, d1⟩, ?_, ⟨⟨belowL_mono d4.le _ c3, c4⟩, d3⟩, c5.trans d4⟩
      simp only [concL, conc]
      rw [concL_congr d4.loc l c3, c2, d2]
      simp [Value.cells]
    · cases hp0
    · rename_i hnst hnar
      split at hp0
      · rename_i k hks
        obtain rfl := Option.some.inj hp0
        have hc := cells_are _ _ _ _ _ _ hks h1
        have hcv : v.cells.toList = [v] := by
          unfold Value.cells
          split
          · unfold Value.okWide at hok
            split at hok
            · rename_i fs ht; exact absurd ht (hnst fs)
            · rename_i n e ht; exact absurd ht (hnar n e)
            · exact absurd hok (by unfold Cell.okWide Cell.ok; split <;> simp_all)
          · rfl
        rw [hcv] at hc hspot
        simp only [CellsAre, and_true] at hc
        obtain ⟨av, m1, l1, c1, c2, c3, c4, c5⟩ := lend_cellN hc (hspot v (by simp)) hf.1 hm hro
        obtain ⟨l', m2, l2, d1, d2, d3, d4⟩ := rest m1 l1 c5.mr c5.ro
        refine ⟨av :: l', m2, l2, ⟨av, l', m1, rfl, c1, d1⟩, ?_, ⟨below_mono d4.le _ c3, d3⟩, c5.trans d4⟩
        simp only [concL]
        rw [conc_congr d4.loc av c3, c2, d2]
      · cases hp0
end

theorem law_argsN {P : Program} {f : FuncId} {fn : Func} {c : Code} (hf : P.funcs[f]? = some fn) (hb : fn.body = some c) (ps : List PK) (hps : fn.params.toList.mapM (pkOf P 12) = some ps) (hflat : ps.all PK.deep = true)
    (walk : ∀ args m, ArgsAVn ps [] args m → Walks P fn c args m)
    {H : Type} {enc : TypeId × Value → H} {w : World} (hgl : GlobIn w (fun _ => False)) {base : Nat} {args : Array Value} {ds : List (DataW H)} {pl : List MemPlace} (hA : DataW.TrodAll enc P w 0 (fun _ => true) true fn.params.toList args.toList ds pl)
    (hval : ∀ (j : Nat) t v, fn.params[j]? = some t → args[j]? = some v → Value.okWide P w .any base t v) :
    Calls P f args w fun e w' => e = .returned (.bool true) ∧ Below w.heap.size w w' := by
  obtain ⟨l, m, loc, h1, h2, h3, h4⟩ := lend_argsN fn.params.toList ps args.toList ds pl [] (fun _ => LE.mk 0 0 noFam) hps hflat hA (fun j t v ht hv => ⟨.any, base, hval j t v (by simpa using ht) (by simpa using hv)⟩) (MR.none w _ _ hgl) (fun _ _ h => by cases h)
  obtain ⟨E, e1, e2, e3, e4, e5⟩ := (walk l m h1).walk
  have he : EffAt P f l m (.ret (.tt, List.replicate m.length none)) := fn_ok hf hb e1 e2 e3 e4 fun Q hq =>
    T.holds_mono (fun r hr => ⟨id, .tt, _, hq, fun loc => by rw [AV.yes_conc hr]; simp [ren, conc], by simp [below], Sub.nothing _⟩) _ e5
  have := he (fun r => r = (.tt, List.replicate m.length none)) rfl h3 w (fun _ => False) loc w h4.mr
  rw [show (concL loc l).toArray = args from by rw [h2]] at this
  refine this.mono ?_
  rintro e w' ⟨v, m', loc', hQ, rfl, _, _, hmr, _⟩
  simp only [Prod.mk.injEq] at hQ
  obtain ⟨rfl, rfl⟩ := hQ
  exact ⟨by simp [conc], hmr.below'⟩

/-! ### Arguments, one by one -/

theorem argsN_nil {m m' : AM} {vs : List AV} (h : ArgsAVn [] m vs m') : vs = [] ∧ m' = m := h
theorem argsN_int {k : IntKind} {ps : List PK} {m m' : AM} {vs : List AV} (h : ArgsAVn (.one (.int k) :: ps) m vs m') : ∃ n l, vs = .int k n :: l ∧ (Lit.int k n).wf = true ∧ ArgsAVn ps m l m' := by
  obtain ⟨_, l, _, rfl, ⟨⟨n, rfl, hw⟩, rfl⟩, h⟩ := h
  exact ⟨n, l, rfl, hw, h⟩
theorem argsN_bool {ps : List PK} {m m' : AM} {vs : List AV} (h : ArgsAVn (.one .bool :: ps) m vs m') : ∃ b l, vs = .bool b :: l ∧ ArgsAVn ps m l m' := by
  obtain ⟨_, l, _, rfl, ⟨⟨n, rfl⟩, rfl⟩, h⟩ := h
  exact ⟨n, l, rfl, h⟩
theorem argsN_sl {ks : List CK} {ps : List PK} {m m' : AM} {vs : List AV} (h : ArgsAVn (.one (.sl ks) :: ps) m vs m') :
    (∃ l, vs = .nils :: l ∧ ArgsAVn ps m l m') ∨
    ∃ (len cap : Nat) (g : Nat → Nat → Value) (A : AM) (l : List AV), vs = .sl (m.length + famsN ks) 0 ks.length 0 len cap :: l ∧ FamsAV ks m.length A ∧ A.length = famsN ks ∧ len ≤ cap ∧ cap ≤ maxLen ∧ (∀ r, r < cap → wfs ks (g r) 0) ∧
      ArgsAVn ps (m ++ A ++ [some (Blk.rows false ks.length cap fun r => rowAV ks m.length (g r) 0 [r])]) l m' := by
  obtain ⟨_, l, _, rfl, ⟨rfl, rfl⟩ | ⟨len, cap, g, A, rfl, hA, hl, rfl, h1, h2, h3⟩, h⟩ := h
  · exact .inl ⟨l, rfl, h⟩
  · exact .inr ⟨len, cap, g, A, l, rfl, hA, hl, h1, h2, h3, h⟩
theorem argsN_agg {ks : List CK} {ps : List PK} {m m' : AM} {vs : List AV} (h : ArgsAVn (.agg ks :: ps) m vs m') : ∃ c l m1, vs = .agg c :: l ∧ CellsAVn ks m c m1 ∧ ArgsAVn ps m1 l m' := h
theorem cellsN_nil {m m' : AM} {vs : List AV} (h : CellsAVn [] m vs m') : vs = [] ∧ m' = m := h
theorem cellsN_int {k : IntKind} {ks : List CK} {m m' : AM} {vs : List AV} (h : CellsAVn (.int k :: ks) m vs m') : ∃ n l, vs = .int k n :: l ∧ (Lit.int k n).wf = true ∧ CellsAVn ks m l m' := by
  obtain ⟨_, l, _, rfl, ⟨⟨n, rfl, hw⟩, rfl⟩, h⟩ := h
  exact ⟨n, l, rfl, hw, h⟩
theorem cellsN_sl {ks : List CK} {ps : List CK} {m m' : AM} {vs : List AV} (h : CellsAVn (.sl ks :: ps) m vs m') :
    (∃ l, vs = .nils :: l ∧ CellsAVn ps m l m') ∨
    ∃ (len cap : Nat) (g : Nat → Nat → Value) (A : AM) (l : List AV), vs = .sl (m.length + famsN ks) 0 ks.length 0 len cap :: l ∧ FamsAV ks m.length A ∧ A.length = famsN ks ∧ len ≤ cap ∧ cap ≤ maxLen ∧ (∀ r, r < cap → wfs ks (g r) 0) ∧
      CellsAVn ps (m ++ A ++ [some (Blk.rows false ks.length cap fun r => rowAV ks m.length (g r) 0 [r])]) l m' := by
  obtain ⟨_, l, _, rfl, ⟨rfl, rfl⟩ | ⟨len, cap, g, A, rfl, hA, hl, rfl, h1, h2, h3⟩, h⟩ := h
  · exact .inl ⟨l, rfl, h⟩
  · exact .inr ⟨len, cap, g, A, l, rfl, hA, hl, h1, h2, h3, h⟩

/-! ### Families of lists of numbers -/

structure FD where
  nl : List Nat → Bool
  ad : List Nat → Option Addr
  ln : List Nat → Nat
  cp : List Nat → Nat
  z : List Nat → Int

def FD.mem (k : IntKind) (x : FD) (js : List Nat) : Mem := ⟨x.nl js, x.ad js, x.ln js, x.cp js, 1, fun q => [.int k (x.z (q :: js))]⟩
def FD.blk (k : IntKind) (x : FD) : Blk := Blk.family (x.mem k)

structure FD.wf (k : IntKind) (x : FD) : Prop where
  nil : ∀ js, x.nl js = true → x.ln js = 0 ∧ x.cp js = 0
  pos : ∀ js, x.nl js = false → 0 < x.cp js
  le : ∀ js, x.ln js ≤ x.cp js
  max : ∀ js, x.cp js ≤ maxLen
  z : ∀ js q, q < x.cp js → (Lit.int k (x.z (q :: js))).wf = true

theorem fams_nil {b : Nat} {A : AM} (h : FamsAV [] b A) : A = [] := h
theorem fams_int {k : IntKind} {ks : List CK} {b : Nat} {A : AM} (h : FamsAV (.int k :: ks) b A) : FamsAV ks b A := by
  obtain ⟨A1, A2, h1, h2, rfl⟩ := h
  have : A1 = [] := h1
  subst this
  exact h2
theorem fams_bool {ks : List CK} {b : Nat} {A : AM} (h : FamsAV (.bool :: ks) b A) : FamsAV ks b A := by
  obtain ⟨A1, A2, h1, h2, rfl⟩ := h
  have : A1 = [] := h1
  subst this
  exact h2
theorem fams_str {ks : List CK} {b : Nat} {A : AM} (h : FamsAV (.str :: ks) b A) : FamsAV ks b A := by
  obtain ⟨A1, A2, h1, h2, rfl⟩ := h
  have : A1 = [] := h1
  subst this
  exact h2
/-- A column of lists. -/
theorem fams_sl {l ks : List CK} {b : Nat} {A : AM} (h : FamsAV (.sl l :: ks) b A) : ∃ A1 A2 G S, FamsAV l b A1 ∧ MemWf l G S ∧ FamsAV ks (b + famsN l + 1) A2 ∧ A = A1 ++ some (Blk.family (memOf l b G S)) :: A2 := by
  obtain ⟨A1, A2, ⟨B1, G, S, h1, rfl, h3⟩, h2, rfl⟩ := h
  refine ⟨B1, A2, G, S, h1, h3, h2, by simp⟩
/-- A column of lists of numbers. -/
theorem fams_ints {k : IntKind} {ks : List CK} {b : Nat} {A : AM} (h : FamsAV (.sl [.int k] :: ks) b A) : ∃ x A2, FD.wf k x ∧ FamsAV ks (b + 1) A2 ∧ A = some (x.blk k) :: A2 := by
  obtain ⟨A1, A2, G, S, h1, h2, h3, rfl⟩ := fams_sl h
  obtain rfl := fams_nil (fams_int h1)
  exact ⟨⟨fun js => (S js).1, fun js => (S js).2.1, fun js => (S js).2.2.1, fun js => (S js).2.2.2, fun js => intV (G js 0)⟩, A2,
    ⟨fun js h => (h2 js).1 h, fun js h => (h2 js).2.1 h, fun js => (h2 js).2.2.1, fun js => (h2 js).2.2.2.1, fun js q hq => ((h2 js).2.2.2.2 q hq).1⟩, h3, rfl⟩

theorem BlkOK.family {n : Nat} {ρ : Nat → Nat} {F : List Nat → Mem} (h : ∀ js q, LAlike n ρ ((F js).f q) ((F js).f q)) : BlkOK n ρ (Blk.family F) (Blk.family F) := by
  refine ⟨fun h => h, trivial, rfl, rfl, fun j hj => absurd hj (Nat.not_lt_zero _), trivial, fun js => ⟨rfl, rfl, rfl, rfl, rfl, fun _ o ho => ?_⟩⟩
  have hb : BlkOK n ρ (F js).blk (F js).blk := BlkOK.rows' (fun h => h) fun j _ => h js j
  exact hb.cell.2.2 o ho

theorem FD.ok {n : Nat} {ρ : Nat → Nat} {k : IntKind} (x : FD) : BlkOK n ρ (x.blk k) (x.blk k) := BlkOK.family fun js q => LAlike.ints rfl

end Go.Ox
