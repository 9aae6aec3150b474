/-
  Arguments that came in, as abstract values over blocks to be read alone; a law of them out of its tree.
-/
import Derived.Test.YtnfngaapjodpcaaHOxQ
import Derived.ChangeOld
import Derived.Carry
import Derived.OpenShut
set_option linter.unusedVariables false
set_option linter.unusedSimpArgs false
namespace Go.Ox
open Go.RowKit Go.WideShapes Go.ChangeShapes

/-- A cell's kind: a number, a bool, a text, a slice of rows. -/
inductive CK where
  | int (k : IntKind)
  | bool
  | str
  | sl (ks : List CK)

def fieldKinds (P : Program) (r : TypeId → Option (List CK)) : List Field → Nat → Option (List CK)
  | [], _ => some []
  | f :: l, o =>
    if f.offset = o then
      match r f.type with
      | some ks => if ks.length = P.cellsOf f.type then (fieldKinds P r l (o + ks.length)).map (ks ++ ·) else none
      | none => none
    else none

def kinds (P : Program) : Nat → TypeId → Option (List CK)
  | 0, _ => none
  | d + 1, t =>
    match P.underlying t with
    | some .bool => some [.bool]
    | some (.int k) => some [.int k]
    | some .string => some [.str]
    | some (.slice e) =>
      match kinds P d e with
      | some ks => if ks.length = P.cellsOf e then some [.sl ks] else none
      | none => none
    | some (.struct fs) =>
      match fieldKinds P (kinds P d) fs.toList 0 with
      | some ks => if ks.length = P.cellsOf t then some ks else none
      | none => none
    | _ => none

mutual
def CellIs (w : World) : CK → Value → Prop
  | .int k, v => ∃ n, v = .int k n ∧ (Lit.int k n).wf = true
  | .bool, v => ∃ b, v = .bool b
  | .str, v => ∃ s : ByteArray, v = .string s ∧ s.size ≤ maxLen
  | .sl ks, v => v = .slice none 0 0 ∨ ∃ a len cap, v = .slice (some a) len cap ∧ len ≤ cap ∧ cap ≤ maxLen ∧
      ∀ r, r < cap → ∃ cs, w.cells? 0 (a.add (r * ks.length)) ks.length = some cs ∧ CellsAre w ks cs
def CellsAre (w : World) : List CK → List Value → Prop
  | [], [] => True
  | k :: ks, v :: vs => CellIs w k v ∧ CellsAre w ks vs
  | _, _ => False
end

theorem CellsAre.length {w : World} : ∀ {ks : List CK} {cs : List Value}, CellsAre w ks cs → ks.length = cs.length
  | [], [], _ => rfl
  | _ :: _, _ :: _, h => by simp only [CellsAre] at h; simp [CellsAre.length h.2]
  | [], _ :: _, h => by simp [CellsAre] at h
  | _ :: _, [], h => by simp [CellsAre] at h

theorem CellsAre.append {w : World} : ∀ {k1 k2 : List CK} {l : List Value}, CellsAre w k1 (l.take k1.length) → CellsAre w k2 (l.drop k1.length) → CellsAre w (k1 ++ k2) l
  | [], k2, l, _, h => by simpa using h
  | k :: k1, k2, [], h, _ => by simp [CellsAre] at h
  | k :: k1, k2, v :: l, h, h2 => by
    simp only [List.length_cons, List.take_succ_cons, CellsAre, List.drop_succ_cons, List.cons_append] at *
    exact ⟨h.1, CellsAre.append h.2 h2⟩

section
variable {H : Type} {enc : TypeId × Value → H} {P : Program} {w : World} {held : Bool}

theorem field_cells {r : TypeId → Option (List CK)} (ih : ∀ t ks n cs x, r t = some ks → DataW.trod enc P w 0 (fun _ => true) held n t cs = some x → CellsAre w ks cs) (cs : List Value) :
    ∀ (l : List Field) (o : Nat) (ks : List CK), fieldKinds P r l o = some ks → (∀ f ∈ l, ∃ n x, DataW.trod enc P w 0 (fun _ => true) held n f.type ((cs.drop f.offset).take (P.cellsOf f.type)) = some x) → o + ks.length = cs.length → CellsAre w ks (cs.drop o)
  | [], o, ks, h, _, hl => by
    simp only [fieldKinds, Option.some.injEq] at h
    subst h
    have : cs.drop o = [] := by simp at hl ⊢; omega
    rw [this]; simp [CellsAre]
  | f :: l, o, ks, h, hf, hl => by
    unfold fieldKinds at h
    split at h
    · rename_i ho
      split at h
      · rename_i k1 hk1
        split at h
        · rename_i hlen
          obtain ⟨k2, hk2, rfl⟩ := Option.map_eq_some_iff.1 h
          obtain ⟨n, x, hx⟩ := hf f (by simp)
          have h1 := ih _ _ _ _ _ hk1 hx
          rw [ho, ← hlen] at h1
          refine CellsAre.append h1 ?_
          rw [List.drop_drop]
          exact field_cells ih cs l _ k2 hk2 (fun g hg => hf g (by simp [hg])) (by simp at hl; omega)
        · cases h
      · cases h
    · cases h

theorem cells_are : ∀ (d : Nat) (t : TypeId) (ks : List CK) (fuel : Nat) (cs : List Value) (x : DataW H × List MemPlace), kinds P d t = some ks → DataW.trod enc P w 0 (fun _ => true) held fuel t cs = some x → CellsAre w ks cs
  | 0, _, _, _, _, _, h, _ => by simp [kinds] at h
  | d + 1, t, ks, fuel, cs, x, h, hx => by
    unfold kinds at h
    split at h
    · rename_i ht
      obtain ⟨b, rfl, _⟩ := DataW.trod_bool ht hx
      simp only [Option.some.injEq] at h
      subst h
      simp [CellsAre, CellIs]
    · rename_i k ht
      obtain ⟨b, rfl, _, hw⟩ := DataW.trod_int ht hx
      simp only [Option.some.injEq] at h
      subst h
      simp [CellsAre, CellIs, hw]
    · rename_i ht
      obtain ⟨b, rfl, _, hw⟩ := DataW.trod_string ht hx
      simp only [Option.some.injEq] at h
      subst h
      simp [CellsAre, CellIs, hw]
    · rename_i e ht
      split at h
      · rename_i k1 hk1
        split at h
        · rename_i hlen
          simp only [Option.some.injEq] at h
          subst h
          rcases DataW.trod_slice ht hx with ⟨rfl, _⟩ | ⟨a, len, cap, elems, rest, n, _, rfl, _, hb, hl, hm, hle, hel, hsp, _⟩
          · simp [CellsAre, CellIs]
          · simp only [CellsAre, CellIs, and_true]
            refine .inr ⟨a, len, cap, rfl, hl, hm, fun r hr => ?_⟩
            obtain ⟨hrl, hre⟩ := hsp rfl
            have : ∃ y, (w.cells? 0 (a.add (r * P.cellsOf e)) (P.cellsOf e)).bind (DataW.trod enc P w 0 (fun _ => true) held n e) = some y := by
              by_cases hr' : r < len
              · rw [hel r hr']
                exact ⟨_, List.getElem?_eq_getElem (by omega)⟩
              · have := hre (r - len) (by omega)
                rw [show len + (r - len) = r from by omega] at this
                rw [this]
                exact ⟨_, List.getElem?_eq_getElem (by omega)⟩
            obtain ⟨y, hy⟩ := this
            obtain ⟨cs', h1, h2⟩ := Option.bind_eq_some_iff.1 hy
            rw [hlen]
            exact ⟨cs', h1, cells_are d e k1 n cs' y hk1 h2⟩
        · cases h
      · cases h
    · rename_i fs ht
      split at h
      · rename_i k1 hk1
        split at h
        · rename_i hlen
          simp only [Option.some.injEq] at h
          subst h
          obtain ⟨xs, n, _, _, hl, hxl, hxs⟩ := DataW.trod_struct ht hx
          have := field_cells (P := P) (w := w) (enc := enc) (held := held) (fun t ks n cs x h1 h2 => cells_are d t ks n cs x h1 h2) cs fs.toList 0 k1 hk1 (fun f hf => by
            obtain ⟨i, hi⟩ := List.getElem?_of_mem hf
            have hi' : fs[i]? = some f := by simpa using hi
            have hlt : i < fs.size := by
              rcases Nat.lt_or_ge i fs.size with h' | h'
              · exact h'
              · simp [Array.getElem?_eq_none h'] at hi'
            have := hxs i f hi'
            exact ⟨n, xs[i]'(by omega), by rw [this]; exact List.getElem?_eq_getElem (by omega)⟩) (by omega)
          simpa using this
        · cases h
      · cases h
    · cases h
end

/-- A slice's place is a cell's, of a block that is there. -/
def Spotless (w : World) (v : Value) : Prop := ∀ a len cap, v = .slice (some a) len cap → a.spot = none ∧ a.block < w.heap.size

theorem shape_lt {w : World} {b : Nat} {p : TypeId × Nat} (h : w.shape? b = some p) : b < w.heap.size := by
  rcases Nat.lt_or_ge b w.heap.size with h' | h'
  · exact h'
  · simp [World.shape?, Array.getElem?_eq_none h'] at h

theorem cell_spotless {P : Program} {w : World} {r : Reach} {base : Nat} {u : TypeId} {v : Value} (h : Cell.okWide P w r base u v) : Spotless w v := by
  rintro a len cap rfl
  unfold Cell.okWide at h
  split at h
  all_goals first
    | (simp_all; done)
    | skip
  unfold Cell.ok at h
  split at h
  all_goals first
    | (simp_all; done)
    | skip
  rename_i he
  cases he
  obtain ⟨_, _, _, h2, row, cells, h3, _⟩ := h
  exact ⟨h2, shape_lt h3⟩

theorem spotless {P : Program} {w : World} {r : Reach} {base : Nat} {t : TypeId} {v : Value} (h : Value.okWide P w r base t v) : ∀ c ∈ v.cells.toList, Spotless w c := by
  unfold Value.okWide at h
  have hrow : (∃ cs, v = .agg cs ∧ cs.size = P.cellsOf t ∧ Row.okWide P w r base t cs) → ∀ c ∈ v.cells.toList, Spotless w c := by
    rintro ⟨cs, rfl, _, ts, _, _, hc⟩ c hm
    simp only [Value.cells] at hm
    obtain ⟨i, hi⟩ := List.getElem?_of_mem hm
    obtain ⟨u, _, hu⟩ := hc i c (by simpa using hi)
    exact cell_spotless hu
  split at h
  · exact hrow h
  · exact hrow h
  · intro c hm
    have : c = v := by
      unfold Value.cells at hm
      split at hm
      · exact absurd h (by unfold Cell.okWide Cell.ok; split <;> simp_all)
      · simpa using hm
    subst this
    exact cell_spotless h

/-! ### Abstract values -/

def intV : Value → Int
  | .int _ n => n
  | _ => 0
def boolV : Value → Bool
  | .bool b => b
  | _ => false
def strV : Value → ByteArray
  | .string s => s
  | _ => ByteArray.empty

/-- A row of single cells. -/
def avs : List CK → (Nat → Value) → Nat → List AV
  | [], _, _ => []
  | .int k :: ks, g, c => .int k (intV (g c)) :: avs ks g (c + 1)
  | .bool :: ks, g, c => .bool (boolV (g c)) :: avs ks g (c + 1)
  | .str :: ks, g, c => .str (strV (g c)) :: avs ks g (c + 1)
  | .sl _ :: ks, g, c => .nils :: avs ks g (c + 1)

def CK.single : CK → Bool
  | .sl _ => false
  | _ => true
def CK.flat : CK → Bool
  | .sl ks => ks.all CK.single
  | _ => true

/-- Numbers are of their kinds. -/
def wfs : List CK → (Nat → Value) → Nat → Prop
  | [], _, _ => True
  | .int k :: ks, g, c => (Lit.int k (intV (g c))).wf = true ∧ wfs ks g (c + 1)
  | .str :: ks, g, c => (strV (g c)).size ≤ maxLen ∧ wfs ks g (c + 1)
  | _ :: ks, g, c => wfs ks g (c + 1)

theorem avs_length : ∀ (ks : List CK) (g : Nat → Value) (c : Nat), (avs ks g c).length = ks.length
  | [], _, _ => rfl
  | .int _ :: ks, g, c => by simp [avs, avs_length ks]
  | .bool :: ks, g, c => by simp [avs, avs_length ks]
  | .str :: ks, g, c => by simp [avs, avs_length ks]
  | .sl _ :: ks, g, c => by simp [avs, avs_length ks]

theorem avs_plain : ∀ (ks : List CK) (g : Nat → Value) (c i : Nat), below 0 ((avs ks g c).getD i .ff) ∧ ((avs ks g c).getD i .ff).scalar = true
  | [], g, c, i => by simp [avs, below, AV.scalar]
  | .int _ :: ks, g, c, 0 => by simp [avs, below, AV.scalar]
  | .bool :: ks, g, c, 0 => by simp [avs, below, AV.scalar]
  | .str :: ks, g, c, 0 => by simp [avs, below, AV.scalar]
  | .sl _ :: ks, g, c, 0 => by simp [avs, below, AV.scalar]
  | .int _ :: ks, g, c, i + 1 => by simpa [avs] using avs_plain ks g (c + 1) i
  | .bool :: ks, g, c, i + 1 => by simpa [avs] using avs_plain ks g (c + 1) i
  | .str :: ks, g, c, i + 1 => by simpa [avs] using avs_plain ks g (c + 1) i
  | .sl _ :: ks, g, c, i + 1 => by simpa [avs] using avs_plain ks g (c + 1) i

theorem avs_conc {w : World} (loc : Loc) : ∀ (ks : List CK) (cs : List Value) (g : Nat → Value) (c : Nat), ks.all CK.single = true → CellsAre w ks cs → (∀ i, i < ks.length → cs[i]? = some (g (c + i))) →
    wfs ks g c ∧ ∀ i, i < ks.length → cs[i]? = some (conc loc ((avs ks g c).getD i .ff))
  | [], _, _, _, _, _, _ => by simp [wfs]
  | k :: ks, [], g, c, _, h, _ => by simp [CellsAre] at h
  | k :: ks, v :: cs, g, c, hs, h, hg => by
    simp only [CellsAre] at h
    simp only [List.all_cons, Bool.and_eq_true] at hs
    have h0 := hg 0 (by simp)
    simp only [List.getElem?_cons_zero, Option.some.injEq, Nat.add_zero] at h0
    have ih := avs_conc loc ks cs g (c + 1) hs.2 h.2 (fun i hi => by
      have := hg (i + 1) (by simp; omega)
      simp only [List.getElem?_cons_succ] at this
      rw [this, show c + (i + 1) = c + 1 + i from by omega])
    have step : ∀ (a : AV), conc loc a = v → ∀ i, i < (k :: ks).length → (v :: cs)[i]? = some (conc loc ((a :: avs ks g (c + 1)).getD i .ff)) := by
      intro a ha i hi
      cases i with
      | zero => simp [ha]
      | succ i => simpa using ih.2 i (by simpa using hi)
    cases k with
    | int k =>
      obtain ⟨n, rfl, hw⟩ := h.1
      rw [wfs, avs, ← h0]
      exact ⟨⟨by simpa [intV] using hw, ih.1⟩, step _ (by simp [conc, intV])⟩
    | bool =>
      obtain ⟨n, rfl⟩ := h.1
      refine ⟨ih.1, ?_⟩
      rw [avs, ← h0]
      exact step _ (by simp [conc, boolV])
    | str =>
      obtain ⟨n, rfl, hw⟩ := h.1
      rw [wfs, avs, ← h0]
      exact ⟨⟨by simpa [strV] using hw, ih.1⟩, step _ (by simp [conc, strV])⟩
    | sl l => simp [CK.single] at hs

/-- What a cell that came in is as an abstract value; the memory behind it. -/
def CellAV : CK → AM → AV → AM → Prop
  | .int k, m, v, m' => (∃ n, v = .int k n ∧ (Lit.int k n).wf = true) ∧ m' = m
  | .bool, m, v, m' => (∃ b, v = .bool b) ∧ m' = m
  | .str, m, v, m' => (∃ s : ByteArray, v = .str s ∧ s.size ≤ maxLen) ∧ m' = m
  | .sl ks, m, v, m' => (v = .nils ∧ m' = m) ∨ ∃ (len cap : Nat) (g : Nat → Nat → Value), v = .sl m.length 0 ks.length 0 len cap ∧ m' = m ++ [some (Blk.rows false ks.length cap fun r => avs ks (g r) 0)] ∧ len ≤ cap ∧ cap ≤ maxLen ∧ ∀ r, r < cap → wfs ks (g r) 0
def CellsAV : List CK → AM → List AV → AM → Prop
  | [], m, vs, m' => vs = [] ∧ m' = m
  | k :: ks, m, vs, m' => ∃ v l m1, vs = v :: l ∧ CellAV k m v m1 ∧ CellsAV ks m1 l m'

/-- A parameter's kind. -/
inductive PK where
  | one (k : CK)
  | agg (ks : List CK)

def PK.flat : PK → Bool
  | .one k => k.flat
  | .agg ks => ks.all CK.flat

def pkOf (P : Program) (d : Nat) (t : TypeId) : Option PK :=
  match P.underlying t with
  | some (.struct _) => (kinds P d t).map .agg
  | some (.array _ _) => none
  | _ => match kinds P d t with
    | some [k] => some (.one k)
    | _ => none

def ArgsAV : List PK → AM → List AV → AM → Prop
  | [], m, vs, m' => vs = [] ∧ m' = m
  | .one k :: ps, m, vs, m' => ∃ v l m1, vs = v :: l ∧ CellAV k m v m1 ∧ ArgsAV ps m1 l m'
  | .agg ks :: ps, m, vs, m' => ∃ c l m1, vs = .agg c :: l ∧ CellsAV ks m c m1 ∧ ArgsAV ps m1 l m'

def RO (m : AM) : Prop := ∀ id b, m.get id = some b → b.rw = false

/-- One step of lending. -/
structure Lent (w : World) (m : AM) (loc : Loc) (m' : AM) (loc' : Loc) : Prop where
  mr : MR w (fun _ => False) loc' m' w
  ro : RO m'
  le : m.length ≤ m'.length
  loc : ∀ i, i < m.length → loc' i = loc i

theorem Lent.trans {w : World} {m m1 m2 : AM} {l l1 l2 : Loc} (h : Lent w m l m1 l1) (h' : Lent w m1 l1 m2 l2) : Lent w m l m2 l2 :=
  ⟨h'.mr, h'.ro, Nat.le_trans h.le h'.le, fun i hi => (h'.loc i (Nat.lt_of_lt_of_le hi h.le)).trans (h.loc i hi)⟩

theorem lend_cell {w : World} {k : CK} {v : Value} (h : CellIs w k v) (hs : Spotless w v) (hf : k.flat = true) {m : AM} {loc : Loc} (hm : MR w (fun _ => False) loc m w) (hro : RO m) :
    ∃ av m' loc', CellAV k m av m' ∧ conc loc' av = v ∧ below m'.length av ∧ av.scalar = true ∧ Lent w m loc m' loc' := by
  have same : Lent w m loc m loc := ⟨hm, hro, Nat.le_refl _, fun _ _ => rfl⟩
  cases k with
  | int k =>
    obtain ⟨n, rfl, hw⟩ := h
    exact ⟨.int k n, m, loc, ⟨⟨n, rfl, hw⟩, rfl⟩, rfl, by simp [below], rfl, same⟩
  | bool =>
    obtain ⟨n, rfl⟩ := h
    exact ⟨.bool n, m, loc, ⟨⟨n, rfl⟩, rfl⟩, rfl, by simp [below], rfl, same⟩
  | str =>
    obtain ⟨n, rfl, hw⟩ := h
    exact ⟨.str n, m, loc, ⟨⟨n, rfl, hw⟩, rfl⟩, rfl, by simp [below], rfl, same⟩
  | sl ks =>
    rcases h with rfl | ⟨a, len, cap, rfl, hl, hc, hr⟩
    · exact ⟨.nils, m, loc, .inl ⟨rfl, rfl⟩, rfl, by simp [below], rfl, same⟩
    · obtain ⟨hsp, hlt⟩ := hs a len cap rfl
      obtain ⟨B, O, sp⟩ := a
      dsimp only at hsp hlt
      subst hsp
      let g : Nat → Nat → Value := fun r c => (w.cell? ⟨B, O + (c + r * ks.length), none⟩).getD undef
      have hadd : ∀ r c, ((Addr.mk B O none).add (r * ks.length)).add c = ⟨B, O + (c + r * ks.length), none⟩ := by
        intro r c
        unfold Addr.add
        split <;> split <;> simp <;> omega
      have hrow : ∀ r, r < cap → wfs ks (g r) 0 ∧ ∀ c, c < ks.length → w.cell? ⟨B, O + (c + r * ks.length), none⟩ = some (conc loc ((avs ks (g r) 0).getD c .ff)) := by
        intro r hlt
        obtain ⟨cs, h1, h2⟩ := hr r hlt
        obtain ⟨_, h3, h4⟩ := World.cells?_some h1
        have h5 : ∀ c, c < ks.length → cs[c]? = some (g r c) := by
          intro c hc
          have := h4 c hc
          rw [hadd] at this
          have hex : ∃ x, cs[c]? = some x := ⟨_, List.getElem?_eq_getElem (by omega)⟩
          obtain ⟨x, hx⟩ := hex
          show cs[c]? = some ((w.cell? ⟨B, O + (c + r * ks.length), none⟩).getD undef)
          rw [this, hx]; rfl
        obtain ⟨h6, h7⟩ := avs_conc loc ks cs (g r) 0 (by simpa [CK.flat] using hf) h2 (fun i hi => by rw [Nat.zero_add]; exact h5 i hi)
        refine ⟨h6, fun c hc => ?_⟩
        rw [← hadd, h4 c hc]
        exact h7 c hc
      have hcell : ∀ o, o < (Blk.rows false ks.length cap fun r => avs ks (g r) 0).size → ∃ r c, r < cap ∧ c < ks.length ∧ o = c + r * ks.length ∧ (Blk.rows false ks.length cap fun r => avs ks (g r) 0).cell o = (avs ks (g r) 0).getD c .ff := by
        intro o ho
        have ho : o < cap * ks.length := by simpa [Blk.rows, Blk.size] using ho
        have hpos : 0 < ks.length := by
          rcases Nat.eq_zero_or_pos ks.length with h0 | h0
          · rw [h0] at ho; omega
          · exact h0
        have hd := Nat.div_add_mod' o ks.length
        have hrc : o / ks.length < cap := Nat.div_lt_of_lt_mul (by rw [Nat.mul_comm]; exact ho)
        refine ⟨o / ks.length, o % ks.length, hrc, Nat.mod_lt _ hpos, by omega, ?_⟩
        have := Blk.cell_row (Blk.rows false ks.length cap fun r => avs ks (g r) 0) (r := o % ks.length) (j := o / ks.length) (Nat.mod_lt _ hpos) hrc
        simp only [Blk.rows, List.length_nil, Nat.zero_add] at this
        rw [show o % ks.length + o / ks.length * ks.length = o from by omega] at this
        exact this
      refine ⟨.sl m.length 0 ks.length 0 len cap, m ++ [some (Blk.rows false ks.length cap fun r => avs ks (g r) 0)], addLoc loc m.length (LE.mk B O noFam), .inr ⟨len, cap, g, rfl, rfl, hl, hc, fun r hr => (hrow r hr).1⟩, ?_, ?_, rfl, ?_, ?_, ?_, ?_⟩
      · simp [conc, addLoc_new]
      · simp [below]
      · refine MR.lend hm hro _ rfl rfl (LE.mk B O noFam) hlt ?_ ?_ ?_
        · intro o ho
          obtain ⟨r, c, h1, h2, rfl, h4⟩ := hcell o ho
          rw [h4]
          exact (hrow r h1).2 c h2
        · intro o ho
          obtain ⟨r, c, h1, h2, rfl, h4⟩ := hcell o ho
          rw [h4]
          exact below_mono (Nat.zero_le _) _ (avs_plain ks (g r) 0 c).1
        · intro o ho
          obtain ⟨r, c, h1, h2, rfl, h4⟩ := hcell o ho
          rw [h4]
          exact (avs_plain ks (g r) 0 c).2
      · intro id b hg
        rcases AM.get_snoc hg with hg' | ⟨rfl, hb⟩
        · exact hro id b hg'
        · obtain rfl := Option.some.inj hb
          rfl
      · simp
      · exact fun i hi => addLoc_old _ hi

theorem lend_cells {w : World} : ∀ (ks : List CK) (vs : List Value) (m : AM) (loc : Loc), CellsAre w ks vs → (∀ c ∈ vs, Spotless w c) → ks.all CK.flat = true → MR w (fun _ => False) loc m w → RO m →
    ∃ l m' loc', CellsAV ks m l m' ∧ concL loc' l = vs ∧ belowL m'.length l ∧ l.all AV.scalar = true ∧ Lent w m loc m' loc'
  | [], [], m, loc, _, _, _, hm, hro => ⟨[], m, loc, ⟨rfl, rfl⟩, rfl, by simp [belowL], rfl, ⟨hm, hro, Nat.le_refl _, fun _ _ => rfl⟩⟩
  | [], _ :: _, _, _, h, _, _, _, _ => by simp [CellsAre] at h
  | _ :: _, [], _, _, h, _, _, _, _ => by simp [CellsAre] at h
  | k :: ks, v :: vs, m, loc, h, hs, hf, hm, hro => by
    simp only [CellsAre] at h
    simp only [List.all_cons, Bool.and_eq_true] at hf
    obtain ⟨av, m1, l1, c1, c2, c3, c4, c5⟩ := lend_cell h.1 (hs v (by simp)) hf.1 hm hro
    obtain ⟨avl, m2, l2, d1, d2, d3, d4, d5⟩ := lend_cells ks vs m1 l1 h.2 (fun c hc => hs c (by simp [hc])) hf.2 c5.mr c5.ro
    refine ⟨av :: avl, m2, l2, ⟨av, avl, m1, rfl, c1, d1⟩, ?_, ?_, by simp [c4, d4], c5.trans d5⟩
    · simp only [concL]
      rw [conc_congr d5.loc av c3, c2, d2]
    · exact ⟨below_mono d5.le _ c3, d3⟩

section
variable {H : Type} {enc : TypeId × Value → H} {P : Program} {w : World}

theorem lend_args : ∀ (ts : List TypeId) (ps : List PK) (vs : List Value) (ds : List (DataW H)) (pl : List MemPlace) (m : AM) (loc : Loc), ts.mapM (pkOf P 12) = some ps → ps.all PK.flat = true →
    DataW.TrodAll enc P w 0 (fun _ => true) true ts vs ds pl → (∀ (j : Nat) t v, ts[j]? = some t → vs[j]? = some v → ∃ r b, Value.okWide P w r b t v) → MR w (fun _ => False) loc m w → RO m →
    ∃ l m' loc', ArgsAV ps m l m' ∧ concL loc' l = vs ∧ belowL m'.length l ∧ Lent w m loc m' loc'
  | [], ps, [], _, _, m, loc, hk, _, _, _, hm, hro => by
    simp at hk
    subst hk
    exact ⟨[], m, loc, ⟨rfl, rfl⟩, rfl, by simp [belowL], ⟨hm, hro, Nat.le_refl _, fun _ _ => rfl⟩⟩
  | [], _, _ :: _, _, _, _, _, _, _, h, _, _, _ => by simp [DataW.TrodAll] at h
  | _ :: _, _, [], _, _, _, _, _, _, h, _, _, _ => by simp [DataW.TrodAll] at h
  | _ :: _, _, _ :: _, [], _, _, _, _, _, h, _, _, _ => by simp [DataW.TrodAll] at h
  | t :: ts, ps, v :: vs, d :: ds, pl, m, loc, hk, hf, h, hv, hm, hro => by
    simp only [DataW.TrodAll] at h
    obtain ⟨p, q, ⟨fuel, h1⟩, h2, rfl⟩ := h
    rw [List.mapM_cons] at hk
    obtain ⟨p0, hp0, hk⟩ := Option.bind_eq_some_iff.1 hk
    obtain ⟨ps', hps, hk⟩ := Option.bind_eq_some_iff.1 hk
    obtain rfl : p0 :: ps' = ps := Option.some.inj hk
    simp only [List.all_cons, Bool.and_eq_true] at hf
    obtain ⟨r, b, hok⟩ := hv 0 t v rfl rfl
    have hspot := spotless hok
    have rest : ∀ (m1 : AM) (l1 : Loc), MR w (fun _ => False) l1 m1 w → RO m1 → _ := fun m1 l1 a1 a2 => lend_args ts ps' vs ds q m1 l1 hps hf.2 h2 (fun j t v h3 h4 => hv (j + 1) t v h3 h4) a1 a2
    unfold pkOf at hp0
    split at hp0
    · rename_i fs ht
      obtain ⟨ks, hks, rfl⟩ := Option.map_eq_some_iff.1 hp0
      obtain ⟨cs, rfl, _⟩ := okWide_struct ht hok
      have hc := cells_are _ _ _ _ _ _ hks h1
      obtain ⟨l, m1, l1, c1, c2, c3, c4, c5⟩ := lend_cells ks _ m loc hc hspot hf.1 hm hro
      obtain ⟨l', m2, l2, d1, d2, d3, d4⟩ := rest m1 l1 c5.mr c5.ro
      refine ⟨.agg l :: l', m2, l2, ⟨l, l', m1, rfl, c1, d1⟩, ?_, ⟨⟨belowL_mono d4.le _ c3, c4⟩, d3⟩, c5.trans d4⟩
      simp only [concL, conc]
      rw [concL_congr d4.loc l c3, c2, d2]
      simp [Value.cells]
    · cases hp0
    · rename_i hnst hnar
      split at hp0
      · rename_i k hks
        obtain rfl := Option.some.inj hp0
        have hc := cells_are _ _ _ _ _ _ hks h1
        have hcv : v.cells.toList = [v] := by
          unfold Value.cells
          split
          · unfold Value.okWide at hok
            split at hok
            · rename_i fs ht; exact absurd ht (hnst fs)
            · rename_i n e ht; exact absurd ht (hnar n e)
            · exact absurd hok (by unfold Cell.okWide Cell.ok; split <;> simp_all)
          · rfl
        rw [hcv] at hc hspot
        simp only [CellsAre, and_true] at hc
        obtain ⟨av, m1, l1, c1, c2, c3, c4, c5⟩ := lend_cell hc (hspot v (by simp)) hf.1 hm hro
        obtain ⟨l', m2, l2, d1, d2, d3, d4⟩ := rest m1 l1 c5.mr c5.ro
        refine ⟨av :: l', m2, l2, ⟨av, l', m1, rfl, c1, d1⟩, ?_, ⟨below_mono d4.le _ c3, d3⟩, c5.trans d4⟩
        simp only [concL]
        rw [conc_congr d4.loc av c3, c2, d2]
      · cases hp0
end

/-- A law's walk, whatever came in. -/
structure Walks (P : Program) (fn : Func) (c : Code) (args : List AV) (m : AM) : Prop where
  walk : ∃ E : Env, EnvOK P E.fns ∧ (∀ c' ∈ loopsIn c, LoopOK P E c') ∧ E.nt = fn.ntmps ∧ E.n0 = m.length ∧ (afn P E fn c args m).holds fun r => r.1.yes = true

theorem Sub.nothing {n : Nat} (m : AM) : Sub n id m (List.replicate n none) := by
  have hno : ∀ id b, AM.get (List.replicate n none) id = some b → False := fun id b h => by
    rw [AM.get_eq] at h
    by_cases hi : id < n <;> simp [hi] at h
  exact ⟨fun id b h => (hno id b h).elim, fun id b _ _ h => (hno id b h).elim, fun _ _ => rfl, by simp, fun id b h => (hno id b h).elim⟩

theorem law_args {P : Program} {f : FuncId} {fn : Func} {c : Code} (hf : P.funcs[f]? = some fn) (hb : fn.body = some c) (ps : List PK) (hps : fn.params.toList.mapM (pkOf P 12) = some ps) (hflat : ps.all PK.flat = true)
    (walk : ∀ args m, ArgsAV ps [] args m → Walks P fn c args m)
    {H : Type} {enc : TypeId × Value → H} {w : World} (hgl : GlobIn w (fun _ => False)) {base : Nat} {args : Array Value} {ds : List (DataW H)} {pl : List MemPlace} (hA : DataW.TrodAll enc P w 0 (fun _ => true) true fn.params.toList args.toList ds pl)
    (hval : ∀ (j : Nat) t v, fn.params[j]? = some t → args[j]? = some v → Value.okWide P w .any base t v) :
    Calls P f args w fun e w' => e = .returned (.bool true) ∧ Below w.heap.size w w' := by
  obtain ⟨l, m, loc, h1, h2, h3, h4⟩ := lend_args fn.params.toList ps args.toList ds pl [] (fun _ => LE.mk 0 0 noFam) hps hflat hA (fun j t v ht hv => ⟨.any, base, hval j t v (by simpa using ht) (by simpa using hv)⟩) (MR.none w _ _ hgl) (fun _ _ h => by cases h)
  obtain ⟨E, e1, e2, e3, e4, e5⟩ := (walk l m h1).walk
  have he : EffAt P f l m (.ret (.tt, List.replicate m.length none)) := fn_ok hf hb e1 e2 e3 e4 fun Q hq =>
    T.holds_mono (fun r hr => ⟨id, .tt, _, hq, fun loc => by rw [AV.yes_conc hr]; simp [ren, conc], by simp [below], Sub.nothing _⟩) _ e5
  have := he (fun r => r = (.tt, List.replicate m.length none)) rfl h3 w (fun _ => False) loc w h4.mr
  rw [show (concL loc l).toArray = args from by rw [h2]] at this
  refine this.mono ?_
  rintro e w' ⟨v, m', loc', hQ, rfl, _, _, hmr, _⟩
  simp only [Prod.mk.injEq] at hQ
  obtain ⟨rfl, rfl⟩ := hQ
  exact ⟨by simp [conc], hmr.below'⟩

/-- Arguments read as before. -/
theorem trodAll_below {H : Type} {enc : TypeId × Value → H} {P : Program} (hl : laidOutB P = true) {W W' : World} (hb : Below W.heap.size W W') :
    ∀ (ts : List TypeId) (vs : List Value) (ds : List (DataW H)) (pl : List MemPlace), (ts.all fun t => P.readableRec t && decide (t < P.types.size)) = true → DataW.TrodAll enc P W 0 (fun _ => true) true ts vs ds pl →
      DataW.TrodAll enc P W' 0 (fun b => decide (b < W.heap.size)) true ts vs ds pl
  | [], [], [], _, _, h => h
  | [], _ :: _, _, _, _, h => by simp [DataW.TrodAll] at h
  | [], [], _ :: _, _, _, h => by simp [DataW.TrodAll] at h
  | _ :: _, [], _, _, _, h => by simp [DataW.TrodAll] at h
  | _ :: _, _ :: _, [], _, _, h => by simp [DataW.TrodAll] at h
  | t :: ts, v :: vs, d :: ds, pl, hr, h => by
    simp only [DataW.TrodAll] at h ⊢
    simp only [List.all_cons, Bool.and_eq_true, decide_eq_true_eq] at hr
    obtain ⟨p, q, h1, h2, rfl⟩ := h
    have lt : ∀ x ∈ p, x.block < W.heap.size := by obtain ⟨m, hm⟩ := h1; exact DataW.trod_lt m _ _ _ hm
    exact ⟨p, q, Below.trod hl hr.1.1 hr.1.2 h1 hb lt, trodAll_below hl hb ts vs ds q hr.2 h2, rfl⟩

theorem trodAll_length {H : Type} {enc : TypeId × Value → H} {P : Program} {w : World} {b : Nat} {s : Nat → Bool} {held : Bool} :
    ∀ (ts : List TypeId) (vs : List Value) (ds : List (DataW H)) (pl : List MemPlace), DataW.TrodAll enc P w b s held ts vs ds pl → ds.length = ts.length
  | [], [], [], _, h => rfl
  | [], _ :: _, _, _, h => by simp [DataW.TrodAll] at h
  | [], [], _ :: _, _, h => by simp [DataW.TrodAll] at h
  | _ :: _, [], _, _, h => by simp [DataW.TrodAll] at h
  | _ :: _, _ :: _, [], _, h => by simp [DataW.TrodAll] at h
  | t :: ts, v :: vs, d :: ds, pl, h => by
    simp only [DataW.TrodAll] at h
    obtain ⟨p, q, h1, h2, rfl⟩ := h
    simp [trodAll_length ts vs ds q h2]

theorem list0 {α : Type} {l : List α} (h : l.length = 0) : l = [] := List.length_eq_zero_iff.1 h
theorem listS {α : Type} {l : List α} {n : Nat} (h : l.length = n + 1) : ∃ a l', l = a :: l' ∧ l'.length = n := by
  cases l with
  | nil => simp at h
  | cons a l' => exact ⟨a, l', rfl, by simpa using h⟩

end Go.Ox
