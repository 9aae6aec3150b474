/-
  The memory that the evaluator has, and the worlds that it stands for.
-/
import Derived.Test.YtnfngaapjodpcaaHOxA
import Derived.RowKit3
set_option linter.unusedVariables false
set_option linter.unusedSimpArgs false
namespace Go.Ox

abbrev AM := List (Option Blk)

namespace AM
def get : AM → Nat → Option Blk
  | [], _ => none
  | b :: _, 0 => b
  | _ :: l, i + 1 => get l i
def put : AM → Nat → Option Blk → AM
  | [], _, _ => []
  | _ :: l, 0, b => b :: l
  | x :: l, i + 1, b => x :: put l i b

theorem get_eq (m : AM) (i : Nat) : get m i = (m[i]?).getD none := by
  induction m generalizing i with
  | nil => simp [get]
  | cons b l ih => cases i <;> simp [get, ih]
theorem put_eq (m : AM) (i : Nat) (b : Option Blk) : put m i b = List.set m i b := by
  induction m generalizing i with
  | nil => simp [put]
  | cons b l ih => cases i <;> simp [put, ih]
theorem length_put (m : AM) (i : Nat) (b : Option Blk) : (put m i b).length = m.length := by simp [put_eq]
theorem get_lt {m : AM} {i : Nat} {b : Blk} (h : get m i = some b) : i < m.length := by
  rw [get_eq] at h
  rcases Nat.lt_or_ge i m.length with h' | h'
  · exact h'
  · simp [List.getElem?_eq_none h'] at h
theorem get_put_same {m : AM} {i : Nat} (b : Option Blk) (h : i < m.length) : get (put m i b) i = b := by
  simp [get_eq, put_eq, h]
theorem get_put_ne {m : AM} {i j : Nat} (b : Option Blk) (h : i ≠ j) : get (put m i b) j = get m j := by
  simp [get_eq, put_eq, h]
theorem put_get {m : AM} {i : Nat} {b : Blk} (h : get m i = some b) : put m i (some b) = m := by
  induction m generalizing i with
  | nil => simp [get] at h
  | cons x l ih => cases i <;> simp_all [get, put]
theorem get_append_old {m : AM} {i : Nat} (l : AM) (h : i < m.length) : get (m ++ l) i = get m i := by
  simp [get_eq, List.getElem?_append_left h]
theorem get_append_new (m : AM) (b : Option Blk) : get (m ++ [b]) m.length = b := by simp [get_eq]
theorem get_snoc {m : AM} {i : Nat} {b : Option Blk} {c : Blk} (h : get (m ++ [b]) i = some c) : get m i = some c ∨ (i = m.length ∧ b = some c) := by
  by_cases hi : i < m.length
  · rw [get_append_old _ hi] at h; exact .inl h
  · have := get_lt h
    simp at this
    have : i = m.length := by omega
    subst this
    rw [get_append_new] at h
    exact .inr ⟨rfl, h⟩
end AM

def addLoc (loc : Loc) (n : Nat) (p : LE) : Loc := fun i => if i = n then p else loc i
theorem addLoc_old {loc : Loc} {n i : Nat} (p : LE) (h : i < n) : addLoc loc n p i = loc i := by simp [addLoc, show i ≠ n by omega]
theorem addLoc_new (loc : Loc) (n : Nat) (p : LE) : addLoc loc n p n = p := by simp [addLoc]

/-- The place of a cell. -/
def place (loc : Loc) (id o : Nat) : Addr := ⟨(loc id).1, (loc id).2 + o, none⟩

/-- The tables lie where they were laid, and are not written. -/
def GlobIn (w0 : World) (X : Nat → Prop) : Prop :=
  ∀ g k l, globTab g = some (k, l) → g < w0.heap.size ∧ ¬ X g ∧ ∀ i, i < l.length → w0.cell? ⟨g, i, none⟩ = some (.int k (l.getD i 0))

/-- A member of a family, as it lies. -/
def FamAt (loc : Loc) (m : AM) (w : World) (M : Mem) (v : SV) : Prop :=
  (M.nil = true ∧ v = ⟨M.adr, 0, 0⟩) ∨
  (M.nil = false ∧ ∃ B O, v = ⟨some ⟨B, O, none⟩, M.len, M.cap⟩ ∧ B < w.heap.size ∧ (∀ id b, m.get id = some b → b.rw = true → (loc id).1 ≠ B) ∧
    ∀ o, o < M.blk.size → w.cell? ⟨B, O + o, none⟩ = some (conc loc (M.blk.cell o)) ∧ below m.length (M.blk.cell o) ∧ (M.blk.cell o).scalar = true)

def FamsOK (loc : Loc) (m : AM) (w : World) : Prop :=
  ∀ id b F, m.get id = some b → b.fam = some F → ∀ js, FamAt loc m w (F js) ((loc id).fam js)

theorem cell?_same {w w' : World} {a : Addr} (h : w'.heap[a.block]? = w.heap[a.block]?) : w'.cell? a = w.cell? a := World.cell?_of_block h

theorem FamsOK.to {loc loc' : Loc} {m m' : AM} {w w' : World} (h : FamsOK loc m w)
    (hf : ∀ id b F, m'.get id = some b → b.fam = some F → ∃ b0, m.get id = some b0 ∧ b0.fam = some F)
    (hl : ∀ i, i < m.length → loc' i = loc i) (hm : m.length ≤ m'.length) (hs : w.heap.size ≤ w'.heap.size)
    (hr : ∀ id b, m'.get id = some b → b.rw = true → (∃ id0 b0, m.get id0 = some b0 ∧ b0.rw = true ∧ (loc id0).1 = (loc' id).1) ∨ w.heap.size ≤ (loc' id).1)
    (hw : ∀ B, B < w.heap.size → (∀ id b, m.get id = some b → b.rw = true → (loc id).1 ≠ B) → w'.heap[B]? = w.heap[B]?) : FamsOK loc' m' w' := by
  intro id b F hg hF js
  obtain ⟨b0, g0, gF⟩ := hf id b F hg hF
  rw [hl id (AM.get_lt g0)]
  rcases h id b0 F g0 gF js with h1 | ⟨h1, B, O, h2, h3, h4, h5⟩
  · exact .inl h1
  · refine .inr ⟨h1, B, O, h2, by omega, fun id' b' hg' hr' e => ?_, fun o ho => ?_⟩
    · rcases hr id' b' hg' hr' with ⟨i0, c0, e1, e2, e3⟩ | e1
      · exact h4 i0 c0 e1 e2 (e3.trans e)
      · omega
    · obtain ⟨c1, c2, c3⟩ := h5 o ho
      exact ⟨by rw [cell?_same (w := w) (hw B h3 h4), c1, conc_congr hl _ c2], below_mono hm _ c2, c3⟩

theorem FamsOK.world {loc : Loc} {m : AM} {w w' : World} (h : FamsOK loc m w) (hs : w.heap.size ≤ w'.heap.size)
    (hw : ∀ B, B < w.heap.size → (∀ id b, m.get id = some b → b.rw = true → (loc id).1 ≠ B) → w'.heap[B]? = w.heap[B]?) : FamsOK loc m w' :=
  h.to (fun _ b _ hg hF => ⟨b, hg, hF⟩) (fun _ _ => rfl) (Nat.le_refl _) hs (fun id b hg hr => .inl ⟨id, b, hg, hr, rfl⟩) hw

structure MR (w0 : World) (X : Nat → Prop) (loc : Loc) (m : AM) (w : World) : Prop where
  cell : ∀ id b, m.get id = some b → ∀ o, o < b.size → w.cell? (place loc id o) = some (conc loc (b.cell o))
  wf : ∀ id b, m.get id = some b → ∀ o, o < b.size → below m.length (b.cell o)
  sc : ∀ id b, m.get id = some b → ∀ o, o < b.size → (b.cell o).scalar = true
  lt : ∀ id b, m.get id = some b → (loc id).1 < w.heap.size
  free : ∀ id b, m.get id = some b → b.rw = true → ∀ o, o < b.size → w.frozen? (place loc id o) = false
  sep : ∀ id b id' b', m.get id = some b → m.get id' = some b' → b.rw = true → id ≠ id' → (loc id).1 ≠ (loc id').1
  own : ∀ id b, m.get id = some b → b.rw = true → X (loc id).1 ∨ w0.heap.size ≤ (loc id).1
  size : w0.heap.size ≤ w.heap.size
  keep : ∀ k, k < w0.heap.size → ¬ X k → w.heap[k]? = w0.heap[k]?
  os : w.os = w0.os
  tape : w.tape = w0.tape
  output : w.output = w0.output
  gl : GlobIn w0 X
  fa : FamsOK loc m w

theorem frozen?_same {w w' : World} {a : Addr} (h : w'.heap[a.block]? = w.heap[a.block]?) : w'.frozen? a = w.frozen? a := World.frozen?_of_block h

namespace MR
variable {w0 : World} {X : Nat → Prop} {loc : Loc} {m : AM} {w : World}

/-- A draw changes nothing. -/
theorem drewN (h : MR w0 X loc m w) (n : Nat) : MR w0 X loc m { w with drawn := n } :=
  ⟨h.cell, h.wf, h.sc, h.lt, h.free, h.sep, h.own, h.size, h.keep, h.os, h.tape, h.output, h.gl, h.fa.world (Nat.le_refl _) fun _ _ _ => rfl⟩

/-- The world of blocks as they were, and more blocks. -/
theorem grow (h : MR w0 X loc m w) {w' : World} (hs : w.heap.size ≤ w'.heap.size) (hb : ∀ k, k < w.heap.size → w'.heap[k]? = w.heap[k]?)
    (ho : w'.os = w.os) (ht : w'.tape = w.tape) (hu : w'.output = w.output) (hf : ∀ a, w'.frozen? a = w.frozen? a) : MR w0 X loc m w' where
  cell id b hg o hlt := by rw [cell?_same (w := w) (hb _ (h.lt id b hg))]; exact h.cell id b hg o hlt
  wf := h.wf
  sc := h.sc
  lt id b hg := Nat.lt_of_lt_of_le (h.lt id b hg) hs
  free id b hg hr o hlt := by rw [frozen?_same (w := w) (hb _ (h.lt id b hg))]; exact h.free id b hg hr o hlt
  sep := h.sep
  own := h.own
  size := Nat.le_trans h.size hs
  keep k hk hx := by rw [hb k (Nat.lt_of_lt_of_le hk h.size)]; exact h.keep k hk hx
  os := ho.trans h.os
  tape := ht.trans h.tape
  output := hu.trans h.output
  gl := h.gl
  fa := h.fa.world hs fun B hB _ => hb B hB

/-- A new block, of cells that are told. -/
theorem alloc (h : MR w0 X loc m w) (b : Blk) (hbf : b.fam = none) (cs : Array Value) (ty : TypeId)
    (hc : ∀ o, o < b.size → cs[o]? = some (conc loc (b.cell o))) (hw : ∀ o, o < b.size → below m.length (b.cell o)) (hsc : ∀ o, o < b.size → (b.cell o).scalar = true) :
    MR w0 X (addLoc loc m.length (LE.mk w.heap.size 0 noFam)) (m ++ [some b]) { w with heap := w.heap.push (.cells cs ty) } := by
  have hloc : ∀ i, i < m.length → (addLoc loc m.length (LE.mk w.heap.size 0 noFam)) i = loc i := fun i hi => addLoc_old _ hi
  have hnew : (addLoc loc m.length (LE.mk w.heap.size 0 noFam)) m.length = (LE.mk w.heap.size 0 noFam) := addLoc_new _ _ _
  have hgr : MR w0 X loc m { w with heap := w.heap.push (.cells cs ty) } :=
    h.grow (by simp) (fun k hk => by simp [Array.getElem?_push]; omega) rfl rfl rfl (fun a => RowKit.frozen?_alloc_cells w cs ty a)
  have hold : ∀ id c, AM.get m id = some c → ∀ o, place (addLoc loc m.length (LE.mk w.heap.size 0 noFam)) id o = place loc id o := fun id c hg o => by
    unfold place; rw [hloc id (AM.get_lt hg)]
  refine ⟨?_, ?_, ?_, ?_, ?_, ?_, ?_, hgr.size, hgr.keep, hgr.os, hgr.tape, hgr.output, hgr.gl, ?_⟩
  · intro id c hg o hlt
    rcases AM.get_snoc hg with hg' | ⟨rfl, hb⟩
    · rw [hold id c hg' o, conc_congr hloc _ (h.wf id c hg' o hlt)]
      exact hgr.cell id c hg' o hlt
    · obtain rfl : b = c := by simpa using hb
      rw [conc_congr hloc _ (hw o hlt)]
      unfold place
      rw [hnew]
      simp [World.cell?, hc o hlt]
  · intro id c hg o hlt
    rcases AM.get_snoc hg with hg' | ⟨rfl, hb⟩
    · exact below_mono (by simp) _ (h.wf id c hg' o hlt)
    · obtain rfl : b = c := by simpa using hb
      exact below_mono (by simp) _ (hw o hlt)
  · intro id c hg o hlt
    rcases AM.get_snoc hg with hg' | ⟨rfl, hb⟩
    · exact h.sc id c hg' o hlt
    · obtain rfl : b = c := by simpa using hb
      exact hsc o hlt
  · intro id c hg
    rcases AM.get_snoc hg with hg' | ⟨rfl, hb⟩
    · rw [hloc id (AM.get_lt hg')]; exact hgr.lt id c hg'
    · rw [hnew]; simp
  · intro id c hg hr o hlt
    rcases AM.get_snoc hg with hg' | ⟨rfl, hb⟩
    · rw [hold id c hg' o]; exact hgr.free id c hg' hr o hlt
    · unfold place
      rw [hnew]
      simp [World.frozen?]
  · intro id c id' c' hg hg' hr hne
    rcases AM.get_snoc hg with hg1 | ⟨rfl, hb⟩ <;> rcases AM.get_snoc hg' with hg2 | ⟨rfl, hb'⟩
    · rw [hloc id (AM.get_lt hg1), hloc id' (AM.get_lt hg2)]; exact h.sep id c id' c' hg1 hg2 hr hne
    · rw [hloc id (AM.get_lt hg1), hnew]
      have := h.lt id c hg1
      show (loc id).1 ≠ w.heap.size
      omega
    · rw [hloc id' (AM.get_lt hg2), hnew]
      have := h.lt id' c' hg2
      show w.heap.size ≠ (loc id').1
      omega
    · exact absurd rfl hne
  · intro id c hg hr
    rcases AM.get_snoc hg with hg' | ⟨rfl, hb⟩
    · rw [hloc id (AM.get_lt hg')]; exact h.own id c hg' hr
    · rw [hnew]; exact .inr h.size
  · refine h.fa.to (fun id c F hg hF => ?_) hloc (by simp) (by simp) (fun id c hg hr => ?_) (fun B hB _ => by simp [Array.getElem?_push]; omega)
    · rcases AM.get_snoc hg with hg' | ⟨rfl, hb⟩
      · exact ⟨c, hg', hF⟩
      · obtain rfl : b = c := by simpa using hb
        rw [hbf] at hF; cases hF
    · rcases AM.get_snoc hg with hg' | ⟨rfl, hb⟩
      · exact .inl ⟨id, c, hg', hr, by rw [hloc id (AM.get_lt hg')]⟩
      · exact .inr (by rw [hnew]; exact Nat.le_refl _)

/-- A store. -/
theorem store (h : MR w0 X loc m w) {id : Nat} {b b' : Blk} {o : Nat} {v : AV} (hg : m.get id = some b) (hr : b.rw = true) (hp : Blk.Put b b' o v) (hv : below m.length v) (hs : v.scalar = true) :
    MR w0 X loc (m.put id (some b')) (w.setCell (place loc id o) (conc loc v)) := by
  have hid := AM.get_lt hg
  have hcell := h.cell id b hg o hp.lt
  have hother : ∀ id' c, AM.get m id' = some c → id ≠ id' → (w.setCell (place loc id o) (conc loc v)).heap[(loc id').1]? = w.heap[(loc id').1]? := fun id' c hg' hne => by
    have := h.sep id b id' c hg hg' hr hne
    exact RowKit.Below.heap_setCell _ _ _ _ (fun e => this (by simpa [place] using e.symm))
  have hget : ∀ {id' c}, AM.get (m.put id (some b')) id' = some c → (id' = id ∧ c = b') ∨ (id ≠ id' ∧ AM.get m id' = some c) := fun {id' c} hg' => by
    by_cases hne : id = id'
    · subst hne
      rw [AM.get_put_same _ hid] at hg'
      exact .inl ⟨rfl, by simpa using hg'.symm⟩
    · rw [AM.get_put_ne _ hne] at hg'
      exact .inr ⟨hne, hg'⟩
  refine ⟨?_, ?_, ?_, ?_, ?_, ?_, ?_, ?_, ?_, ?_, ?_, ?_, ?_, ?_⟩
  · intro id' c hg' p hlt
    rcases hget hg' with ⟨rfl, rfl⟩ | ⟨hne, hg2⟩
    · rw [hp.size] at hlt
      rw [hp.cell p hlt]
      by_cases he : p = o
      · subst he
        rw [if_pos rfl]
        exact World.cell?_setCell_same _ _ _ hcell
      · rw [if_neg he, World.cell?_setCell_other _ _ _ _ (fun e => he (by have := congrArg Addr.off e; simp only [place] at this; omega))]
        exact h.cell id' b hg p hlt
    · rw [cell?_same (w := w) (by simpa [place] using hother id' c hg2 hne)]
      exact h.cell id' c hg2 p hlt
  · intro id' c hg' p hlt
    rw [AM.length_put]
    rcases hget hg' with ⟨rfl, rfl⟩ | ⟨hne, hg2⟩
    · rw [hp.size] at hlt
      rw [hp.cell p hlt]
      split
      · exact hv
      · exact h.wf id' b hg p hlt
    · exact h.wf id' c hg2 p hlt
  · intro id' c hg' p hlt
    rcases hget hg' with ⟨rfl, rfl⟩ | ⟨hne, hg2⟩
    · rw [hp.size] at hlt
      rw [hp.cell p hlt]
      split
      · exact hs
      · exact h.sc id' b hg p hlt
    · exact h.sc id' c hg2 p hlt
  · intro id' c hg'
    rw [World.size_setCell]
    rcases hget hg' with ⟨rfl, rfl⟩ | ⟨hne, hg2⟩
    · exact h.lt id' b hg
    · exact h.lt id' c hg2
  · intro id' c hg' hr' p hlt
    rw [World.frozen?_setCell]
    rcases hget hg' with ⟨rfl, rfl⟩ | ⟨hne, hg2⟩
    · rw [hp.size] at hlt; exact h.free id' b hg hr p hlt
    · exact h.free id' c hg2 hr' p hlt
  · intro i c i' c' hgi hgi' hr' hne
    have h1 : ∃ d, AM.get m i = some d ∧ d.rw = true := by
      rcases hget hgi with ⟨rfl, rfl⟩ | ⟨_, hg2⟩
      · exact ⟨b, hg, hr⟩
      · exact ⟨c, hg2, hr'⟩
    have h2 : ∃ d, AM.get m i' = some d := by
      rcases hget hgi' with ⟨rfl, rfl⟩ | ⟨_, hg2⟩
      · exact ⟨b, hg⟩
      · exact ⟨c', hg2⟩
    obtain ⟨d, hd, hdr⟩ := h1
    obtain ⟨d', hd'⟩ := h2
    exact h.sep i d i' d' hd hd' hdr hne
  · intro i c hgi hr'
    rcases hget hgi with ⟨rfl, rfl⟩ | ⟨_, hg2⟩
    · exact h.own i b hg hr
    · exact h.own i c hg2 hr'
  · rw [World.size_setCell]; exact h.size
  · intro k hk hx
    have hne : k ≠ (place loc id o).block := fun e => by
      rcases h.own id b hg hr with h1 | h1
      · exact hx (by rw [e]; exact h1)
      · rw [e] at hk; exact absurd hk (by simp only [place]; exact Nat.not_lt.2 h1)
    rw [RowKit.Below.heap_setCell _ _ _ _ hne]
    exact h.keep k hk hx
  · exact h.os
  · exact h.tape
  · exact h.output
  · exact h.gl
  · refine h.fa.to (fun id' c F hg' hF => ?_) (fun _ _ => rfl) (by rw [AM.length_put]; exact Nat.le_refl _) (by rw [World.size_setCell]; exact Nat.le_refl _) (fun id' c hg' hr' => ?_) (fun B hB hn => ?_)
    · rcases hget hg' with ⟨rfl, rfl⟩ | ⟨_, hg2⟩
      · exact ⟨b, hg, by rw [← hp.fam]; exact hF⟩
      · exact ⟨c, hg2, hF⟩
    · rcases hget hg' with ⟨rfl, rfl⟩ | ⟨_, hg2⟩
      · exact .inl ⟨_, b, hg, hr, rfl⟩
      · exact .inl ⟨_, c, hg2, hr', rfl⟩
    · exact RowKit.Below.heap_setCell _ _ _ _ (fun e => hn id b hg hr (by simpa [place] using e.symm))

/-- A block that is told otherwise. -/
theorem congr (h : MR w0 X loc m w) {id : Nat} {b b' : Blk} (hg : m.get id = some b) (hs : b'.size = b.size) (hr : b'.rw = b.rw) (hc : ∀ o, o < b.size → b'.cell o = b.cell o) (hbf : b'.fam = none ∨ b'.fam = b.fam) :
    MR w0 X loc (m.put id (some b')) w := by
  have hid := AM.get_lt hg
  have hget : ∀ {id' c}, AM.get (m.put id (some b')) id' = some c → ∃ d, AM.get m id' = some d ∧ c.size = d.size ∧ c.rw = d.rw ∧ ∀ o, o < d.size → c.cell o = d.cell o := fun {id' c} hg' => by
    by_cases hne : id = id'
    · subst hne
      rw [AM.get_put_same _ hid] at hg'
      simp only [Option.some.injEq] at hg'
      subst hg'
      exact ⟨b, hg, hs, hr, hc⟩
    · rw [AM.get_put_ne _ hne] at hg'
      exact ⟨c, hg', rfl, rfl, fun _ _ => rfl⟩
  have hfm : FamsOK loc (m.put id (some b')) w := by
    refine h.fa.to (fun id' c F hg' hF => ?_) (fun _ _ => rfl) (by rw [AM.length_put]; exact Nat.le_refl _) (Nat.le_refl _) (fun id' c hg' hr' => ?_) (fun _ _ _ => rfl)
    · by_cases hne : id = id'
      · subst hne
        rw [AM.get_put_same _ hid] at hg'
        simp only [Option.some.injEq] at hg'
        subst hg'
        rcases hbf with e | e
        · rw [e] at hF; cases hF
        · exact ⟨b, hg, by rw [← e]; exact hF⟩
      · rw [AM.get_put_ne _ hne] at hg'
        exact ⟨c, hg', hF⟩
    · obtain ⟨d, e1, _, e3, _⟩ := hget hg'
      exact .inl ⟨id', d, e1, e3 ▸ hr', rfl⟩
  refine ⟨?_, ?_, ?_, ?_, ?_, ?_, ?_, h.size, h.keep, h.os, h.tape, h.output, h.gl, hfm⟩
  · intro id' c hg' o ho
    obtain ⟨d, e1, e2, e3, e4⟩ := hget hg'
    rw [e2] at ho
    rw [e4 o ho]; exact h.cell id' d e1 o ho
  · intro id' c hg' o ho
    obtain ⟨d, e1, e2, e3, e4⟩ := hget hg'
    rw [e2] at ho
    rw [e4 o ho, AM.length_put]; exact h.wf id' d e1 o ho
  · intro id' c hg' o ho
    obtain ⟨d, e1, e2, e3, e4⟩ := hget hg'
    rw [e2] at ho
    rw [e4 o ho]; exact h.sc id' d e1 o ho
  · intro id' c hg'
    obtain ⟨d, e1, _⟩ := hget hg'
    exact h.lt id' d e1
  · intro id' c hg' hr' o ho
    obtain ⟨d, e1, e2, e3, e4⟩ := hget hg'
    exact h.free id' d e1 (e3 ▸ hr') o (e2 ▸ ho)
  · intro i c i' c' hgi hgi' hr' hne
    obtain ⟨d, e1, e2, e3, e4⟩ := hget hgi
    obtain ⟨d', f1, _⟩ := hget hgi'
    exact h.sep i d i' d' e1 f1 (e3 ▸ hr') hne
  · intro i c hgi hr'
    obtain ⟨d, e1, e2, e3, e4⟩ := hget hgi
    exact h.own i d e1 (e3 ▸ hr')

theorem cell?_freeze (w : World) (a : Addr) (n : Nat) (x : Addr) : (w.freeze a n).cell? x = w.cell? x := by
  unfold World.freeze
  split
  · rfl
  · unfold World.cell?
    simp only [Array.getElem?_modify]
    by_cases h : a.block = x.block
    · rw [if_pos h]
      cases w.heap[x.block]? with
      | none => rfl
      | some o => cases o <;> rfl
    · rw [if_neg h]

theorem heap_freeze (w : World) (a : Addr) (n k : Nat) (h : k ≠ a.block) : (w.freeze a n).heap[k]? = w.heap[k]? := by
  unfold World.freeze
  split
  · rfl
  · simp only [Array.getElem?_modify]
    rw [if_neg (fun e => h e.symm)]

theorem size_freeze (w : World) (a : Addr) (n : Nat) : (w.freeze a n).heap.size = w.heap.size := by
  unfold World.freeze
  split <;> simp

theorem same_freeze (w : World) (a : Addr) (n : Nat) : (w.freeze a n).os = w.os ∧ (w.freeze a n).tape = w.tape ∧ (w.freeze a n).output = w.output := by
  unfold World.freeze
  split <;> exact ⟨rfl, rfl, rfl⟩

/-- A block that is written no more: its bytes may be marked. -/
theorem mark (h : MR w0 X loc m w) {id : Nat} {b : Blk} (hg : m.get id = some b) (hr : b.rw = true) (o n : Nat) :
    MR w0 X loc (m.put id (some { b with rw := false })) (w.freeze ⟨(loc id).1, o, none⟩ n) := by
  have hid := AM.get_lt hg
  have hget : ∀ {id' c}, AM.get (m.put id (some { b with rw := false })) id' = some c → ∃ d, AM.get m id' = some d ∧ c.size = d.size ∧ (c.rw = true → d.rw = true ∧ id ≠ id') ∧ ∀ o, c.cell o = d.cell o := fun {id' c} hg' => by
    by_cases hne : id = id'
    · subst hne
      rw [AM.get_put_same _ hid] at hg'
      simp only [Option.some.injEq] at hg'
      subst hg'
      exact ⟨b, hg, rfl, (fun h => by cases h), fun _ => rfl⟩
    · rw [AM.get_put_ne _ hne] at hg'
      exact ⟨c, hg', rfl, fun h => ⟨h, hne⟩, fun _ => rfl⟩
  obtain ⟨s1, s2, s3⟩ := same_freeze w ⟨(loc id).1, o, none⟩ n
  refine ⟨?_, ?_, ?_, ?_, ?_, ?_, ?_, by rw [size_freeze]; exact h.size, ?_, s1.trans h.os, s2.trans h.tape, s3.trans h.output, h.gl, ?_⟩
  · intro id' c hg' o' ho
    obtain ⟨d, e1, e2, e3, e4⟩ := hget hg'
    rw [e2] at ho
    rw [cell?_freeze, e4]; exact h.cell id' d e1 o' ho
  · intro id' c hg' o' ho
    obtain ⟨d, e1, e2, e3, e4⟩ := hget hg'
    rw [e2] at ho
    rw [e4, AM.length_put]; exact h.wf id' d e1 o' ho
  · intro id' c hg' o' ho
    obtain ⟨d, e1, e2, e3, e4⟩ := hget hg'
    rw [e2] at ho
    rw [e4]; exact h.sc id' d e1 o' ho
  · intro id' c hg'
    obtain ⟨d, e1, _⟩ := hget hg'
    rw [size_freeze]; exact h.lt id' d e1
  · intro id' c hg' hr' o' ho
    obtain ⟨d, e1, e2, e3, e4⟩ := hget hg'
    have hb := h.sep id b id' d hg e1 hr (e3 hr').2
    rw [frozen?_same (w := w) (heap_freeze _ _ _ _ (fun e => hb (by simpa [place] using e.symm)))]
    exact h.free id' d e1 (e3 hr').1 o' (e2 ▸ ho)
  · intro i c i' c' hgi hgi' hr' hne
    obtain ⟨d, e1, e2, e3, e4⟩ := hget hgi
    obtain ⟨d', f1, _⟩ := hget hgi'
    exact h.sep i d i' d' e1 f1 (e3 hr').1 hne
  · intro i c hgi hr'
    obtain ⟨d, e1, e2, e3, e4⟩ := hget hgi
    exact h.own i d e1 (e3 hr').1
  · intro k hk hx
    have hne : k ≠ (loc id).1 := fun e => by
      rcases h.own id b hg hr with h1 | h1
      · exact hx (by rw [e]; exact h1)
      · rw [e] at hk; omega
    rw [heap_freeze _ _ _ _ hne]; exact h.keep k hk hx
  · refine h.fa.to (fun id' c F hg' hF => ?_) (fun _ _ => rfl) (by rw [AM.length_put]; exact Nat.le_refl _) (by rw [size_freeze]; exact Nat.le_refl _) (fun id' c hg' hr' => ?_) (fun B hB hn => ?_)
    · by_cases hne : id = id'
      · subst hne
        rw [AM.get_put_same _ hid] at hg'
        simp only [Option.some.injEq] at hg'
        subst hg'
        exact ⟨b, hg, hF⟩
      · rw [AM.get_put_ne _ hne] at hg'
        exact ⟨c, hg', hF⟩
    · obtain ⟨d, e1, _, e3, _⟩ := hget hg'
      exact .inl ⟨id', d, e1, (e3 hr').1, rfl⟩
    · exact heap_freeze _ _ _ _ (fun e => hn id b hg hr e.symm)

/-- What is known less. -/
theorem forget (h : MR w0 X loc m w) {m' : AM} (hle : m.length ≤ m'.length) (hg : ∀ id b, m'.get id = some b → m.get id = some b)
    (hw : ∀ id b, m'.get id = some b → ∀ o, o < b.size → below m'.length (b.cell o)) : MR w0 X loc m' w where
  cell id b h' := h.cell id b (hg id b h')
  wf := hw
  sc id b h' := h.sc id b (hg id b h')
  lt id b h' := h.lt id b (hg id b h')
  free id b h' := h.free id b (hg id b h')
  sep id b id' b' h1 h2 := h.sep id b id' b' (hg id b h1) (hg id' b' h2)
  own id b h' := h.own id b (hg id b h')
  size := h.size
  keep := h.keep
  os := h.os
  tape := h.tape
  output := h.output
  gl := h.gl
  fa := h.fa.to (fun id b F h' hF => ⟨b, hg id b h', hF⟩) (fun _ _ => rfl) hle (Nat.le_refl _) (fun id b h' hr => .inl ⟨id, b, hg id b h', hr, rfl⟩) (fun _ _ _ => rfl)

/-- One more block, to be read alone, apart from all that are written. -/
theorem lendAt (h : MR w0 X loc m w) (b : Blk) (hb : b.rw = false) (hbf : b.fam = none) (p : LE) (hlt : p.1 < w.heap.size) (hsep : ∀ id c, m.get id = some c → c.rw = true → (loc id).1 ≠ p.1)
    (hc : ∀ o, o < b.size → w.cell? ⟨p.1, p.2 + o, none⟩ = some (conc loc (b.cell o))) (hw : ∀ o, o < b.size → below m.length (b.cell o)) (hsc : ∀ o, o < b.size → (b.cell o).scalar = true) :
    MR w0 X (addLoc loc m.length p) (m ++ [some b]) w := by
  have hloc : ∀ i, i < m.length → (addLoc loc m.length p) i = loc i := fun i hi => addLoc_old _ hi
  have hnew : (addLoc loc m.length p) m.length = p := addLoc_new _ _ _
  have hold : ∀ id c, AM.get m id = some c → ∀ o, place (addLoc loc m.length p) id o = place loc id o := fun id c hg o => by
    unfold place; rw [hloc id (AM.get_lt hg)]
  have hkind : ∀ {id c}, AM.get (m ++ [some b]) id = some c → AM.get m id = some c ∨ (id = m.length ∧ c = b) := fun {id c} hg => by
    rcases AM.get_snoc hg with hg' | ⟨rfl, hb'⟩
    · exact .inl hg'
    · exact .inr ⟨rfl, by simpa using hb'.symm⟩
  refine ⟨?_, ?_, ?_, ?_, ?_, ?_, ?_, h.size, h.keep, h.os, h.tape, h.output, h.gl, ?_⟩
  · intro id c hg o hlt
    rcases hkind hg with hg' | ⟨rfl, rfl⟩
    · rw [hold id c hg' o, conc_congr hloc _ (h.wf id c hg' o hlt)]
      exact h.cell id c hg' o hlt
    · rw [conc_congr hloc _ (hw o hlt)]
      unfold place
      rw [hnew]
      exact hc o hlt
  · intro id c hg o hlt
    rcases hkind hg with hg' | ⟨rfl, rfl⟩
    · exact below_mono (by simp) _ (h.wf id c hg' o hlt)
    · exact below_mono (by simp) _ (hw o hlt)
  · intro id c hg o hlt
    rcases hkind hg with hg' | ⟨rfl, rfl⟩
    · exact h.sc id c hg' o hlt
    · exact hsc o hlt
  · intro id c hg
    rcases hkind hg with hg' | ⟨rfl, rfl⟩
    · rw [hloc id (AM.get_lt hg')]; exact h.lt id c hg'
    · rw [hnew]; exact hlt
  · intro id c hg hr o ho
    rcases hkind hg with hg' | ⟨rfl, rfl⟩
    · rw [hold id c hg' o]; exact h.free id c hg' hr o ho
    · rw [hb] at hr; cases hr
  · intro id c id' c' hg hg' hr hne
    rcases hkind hg with g1 | ⟨rfl, rfl⟩
    · rcases hkind hg' with g2 | ⟨rfl, rfl⟩
      · rw [hloc id (AM.get_lt g1), hloc id' (AM.get_lt g2)]; exact h.sep id c id' c' g1 g2 hr hne
      · rw [hloc id (AM.get_lt g1), hnew]; exact hsep id c g1 hr
    · rw [hb] at hr; cases hr
  · intro id c hg hr
    rcases hkind hg with hg' | ⟨rfl, rfl⟩
    · rw [hloc id (AM.get_lt hg')]; exact h.own id c hg' hr
    · rw [hb] at hr; cases hr
  · refine h.fa.to (fun id c F hg hF => ?_) hloc (by simp) (Nat.le_refl _) (fun id c hg hr => ?_) (fun _ _ _ => rfl)
    · rcases hkind hg with hg' | ⟨rfl, rfl⟩
      · exact ⟨c, hg', hF⟩
      · rw [hbf] at hF; cases hF
    · rcases hkind hg with hg' | ⟨rfl, rfl⟩
      · exact .inl ⟨id, c, hg', hr, by rw [hloc id (AM.get_lt hg')]⟩
      · rw [hb] at hr; cases hr

theorem size_family (F : List Nat → Mem) : (Blk.family F).size = 0 := by simp [Blk.family, Blk.size]

/-- A family of slices. -/
theorem lendFam (h : MR w0 X loc m w) (F : List Nat → Mem) (p : LE) (hlt : p.1 < w.heap.size) (hsep : ∀ id c, m.get id = some c → c.rw = true → (loc id).1 ≠ p.1) (hF : ∀ js, FamAt loc m w (F js) (p.fam js)) :
    MR w0 X (addLoc loc m.length p) (m ++ [some (Blk.family F)]) w := by
  have hloc : ∀ i, i < m.length → (addLoc loc m.length p) i = loc i := fun i hi => addLoc_old _ hi
  have hnew : (addLoc loc m.length p) m.length = p := addLoc_new _ _ _
  have hold : ∀ id c, AM.get m id = some c → ∀ o, place (addLoc loc m.length p) id o = place loc id o := fun id c hg o => by
    unfold place; rw [hloc id (AM.get_lt hg)]
  have hkind : ∀ {id c}, AM.get (m ++ [some (Blk.family F)]) id = some c → AM.get m id = some c ∨ (id = m.length ∧ c = Blk.family F) := fun {id c} hg => by
    rcases AM.get_snoc hg with hg' | ⟨rfl, hb'⟩
    · exact .inl hg'
    · exact .inr ⟨rfl, by simpa using hb'.symm⟩
  have hno : ∀ {o} {R : Prop}, o < (Blk.family F).size → R := fun {o R} ho => by rw [size_family] at ho; omega
  have hro : ∀ {R : Prop}, (Blk.family F).rw = true → R := fun {R} hr => by cases hr
  refine ⟨?_, ?_, ?_, ?_, ?_, ?_, ?_, h.size, h.keep, h.os, h.tape, h.output, h.gl, ?_⟩
  · intro id c hg o hlt
    rcases hkind hg with hg' | ⟨rfl, rfl⟩
    · rw [hold id c hg' o, conc_congr hloc _ (h.wf id c hg' o hlt)]
      exact h.cell id c hg' o hlt
    · exact hno hlt
  · intro id c hg o hlt
    rcases hkind hg with hg' | ⟨rfl, rfl⟩
    · exact below_mono (by simp) _ (h.wf id c hg' o hlt)
    · exact hno hlt
  · intro id c hg o hlt
    rcases hkind hg with hg' | ⟨rfl, rfl⟩
    · exact h.sc id c hg' o hlt
    · exact hno hlt
  · intro id c hg
    rcases hkind hg with hg' | ⟨rfl, rfl⟩
    · rw [hloc id (AM.get_lt hg')]; exact h.lt id c hg'
    · rw [hnew]; exact hlt
  · intro id c hg hr o ho
    rcases hkind hg with hg' | ⟨rfl, rfl⟩
    · rw [hold id c hg' o]; exact h.free id c hg' hr o ho
    · exact hro hr
  · intro id c id' c' hg hg' hr hne
    rcases hkind hg with g1 | ⟨rfl, rfl⟩
    · rcases hkind hg' with g2 | ⟨rfl, rfl⟩
      · rw [hloc id (AM.get_lt g1), hloc id' (AM.get_lt g2)]; exact h.sep id c id' c' g1 g2 hr hne
      · rw [hloc id (AM.get_lt g1), hnew]; exact hsep id c g1 hr
    · exact hro hr
  · intro id c hg hr
    rcases hkind hg with hg' | ⟨rfl, rfl⟩
    · rw [hloc id (AM.get_lt hg')]; exact h.own id c hg' hr
    · exact hro hr
  · intro id c G hg hG js
    have old : ∀ M v, FamAt loc m w M v → FamAt (addLoc loc m.length p) (m ++ [some (Blk.family F)]) w M v := by
      intro M v hM
      rcases hM with h1 | ⟨h1, B, O, h2, h3, h4, h5⟩
      · exact .inl h1
      · refine .inr ⟨h1, B, O, h2, h3, fun id' b' hg' hr' e => ?_, fun o ho => ?_⟩
        · rcases hkind hg' with g | ⟨rfl, rfl⟩
          · rw [hloc id' (AM.get_lt g)] at e; exact h4 id' b' g hr' e
          · exact hro hr'
        · obtain ⟨c1, c2, c3⟩ := h5 o ho
          exact ⟨by rw [c1, conc_congr hloc _ c2], below_mono (by simp) _ c2, c3⟩
    rcases hkind hg with hg' | ⟨rfl, rfl⟩
    · rw [hloc id (AM.get_lt hg')]
      exact old _ _ (h.fa id c G hg' hG js)
    · rw [hnew]
      simp only [Blk.family, Option.some.injEq] at hG
      subst hG
      exact old _ _ (hF js)

/-- A member of a family, as a block. -/
theorem open_ (h : MR w0 X loc m w) {id : Nat} {b : Blk} {F : List Nat → Mem} (hg : m.get id = some b) (hF : b.fam = some F) (js : List Nat) :
    ((F js).nil = true ∧ conc loc (.part id js) = conc loc (.esl (F js).adr)) ∨
    ((F js).nil = false ∧ ∃ loc', MR w0 X loc' (m ++ [some (F js).blk]) w ∧ (∀ i, i < m.length → loc' i = loc i) ∧ conc loc' (.sl m.length 0 (F js).s 0 (F js).len (F js).cap) = conc loc (.part id js)) := by
  rcases h.fa id b F hg hF js with ⟨h1, h2⟩ | ⟨h1, B, O, h2, h3, h4, h5⟩
  · exact .inl ⟨h1, by simp [conc, h2]⟩
  · refine .inr ⟨h1, addLoc loc m.length (LE.mk B O noFam), h.lendAt (F js).blk rfl rfl (LE.mk B O noFam) h3 h4 (fun o ho => (h5 o ho).1) (fun o ho => (h5 o ho).2.1) (fun o ho => (h5 o ho).2.2), fun i hi => addLoc_old _ hi, ?_⟩
    simp [conc, h2, addLoc_new]

end MR

/-! ### Frames -/

def slotAt : List (Nat × AV) → Nat → Option AV
  | [], _ => none
  | (t, v) :: l, u => if t = u then some v else slotAt l u

structure FR (nt : Nat) (loc : Loc) (n : Nat) (fr : List (Nat × AV)) (tmps : Array Value) : Prop where
  size : tmps.size = nt
  val : ∀ t v, slotAt fr t = some v → t < nt ∧ tmps.getD t undef = conc loc v ∧ below n v

theorem FR.put {nt : Nat} {loc : Loc} {n : Nat} {fr : List (Nat × AV)} {tmps : Array Value} (h : FR nt loc n fr tmps) {d : Nat} {v : AV} (hd : d < nt) (hv : below n v) :
    FR nt loc n ((d, v) :: fr) (tmps.setIfInBounds d (conc loc v)) where
  size := by simp [h.size]
  val t u hl := by
    unfold slotAt at hl
    by_cases he : d = t
    · subst he
      simp at hl
      subst hl
      exact ⟨hd, by simp [Array.getD_eq_getD_getElem?, h.size, hd], hv⟩
    · rw [if_neg he] at hl
      obtain ⟨h1, h2, h3⟩ := h.val t u hl
      exact ⟨h1, by rw [← h2]; simp [Array.getD_eq_getD_getElem?, Array.getElem?_setIfInBounds_ne he], h3⟩

theorem FR.move {nt : Nat} {loc loc' : Loc} {n n' : Nat} {fr : List (Nat × AV)} {tmps : Array Value} (h : FR nt loc n fr tmps) (hn : n ≤ n') (hl : ∀ i, i < n → loc' i = loc i) : FR nt loc' n' fr tmps where
  size := h.size
  val t v hv := by
    obtain ⟨h1, h2, h3⟩ := h.val t v hv
    exact ⟨h1, by rw [h2, conc_congr hl v h3], below_mono hn v h3⟩

/-- A single constant. -/
def ofVal0 : Value → Option AV
  | .bool true => some .tt
  | .bool false => some .ff
  | .int k n => some (.int k n)
  | .string s => some (.str s)
  | .pointer none => some .nilp
  | .slice none 0 0 => some .nils
  | .nilFunc => some (.nul .func)
  | .nilIface => some (.nul .iface)
  | .map none => some (.nul .map)
  | .chan none => some (.nul .chan)
  | _ => none

theorem ofVal0_sound {v : Value} {a : AV} (h : ofVal0 v = some a) (loc : Loc) (n : Nat) : conc loc a = v ∧ below n a ∧ a.scalar = true := by
  unfold ofVal0 at h
  split at h <;> first | (cases h; done) | (injection h with h; subst h; simp [conc, below, AV.scalar, NulK.val])

def ofVals : List Value → Option (List AV)
  | [] => some []
  | v :: l => (ofVal0 v).bind fun a => (ofVals l).map (a :: ·)

theorem ofVals_sound (loc : Loc) (n : Nat) : ∀ {l : List Value} {as : List AV}, ofVals l = some as → concL loc as = l ∧ belowL n as ∧ as.all AV.scalar = true
  | [], as, h => by
    simp only [ofVals, Option.some.injEq] at h
    subst h; simp [concL, belowL]
  | v :: l, as, h => by
    simp only [ofVals, Option.bind_eq_some_iff, Option.map_eq_some_iff] at h
    obtain ⟨a, ha, as', has, rfl⟩ := h
    obtain ⟨h1, h2, h3⟩ := ofVal0_sound ha loc n
    obtain ⟨g1, g2, g3⟩ := ofVals_sound loc n has
    simp [concL, belowL, h1, h2, h3, g1, g2, g3]

/-- A constant. -/
def ofVal : Value → Option AV
  | .agg cs => (ofVals cs.toList).map .agg
  | v => ofVal0 v

theorem ofVal_sound {v : Value} {a : AV} (h : ofVal v = some a) (loc : Loc) (n : Nat) : conc loc a = v ∧ below n a := by
  unfold ofVal at h
  split at h
  · obtain ⟨as, has, rfl⟩ := Option.map_eq_some_iff.1 h
    obtain ⟨g1, g2, g3⟩ := ofVals_sound loc n has
    simp [conc, below, g1, g2, g3]
  · obtain ⟨h1, h2, _⟩ := ofVal0_sound h loc n
    exact ⟨h1, h2⟩

def ev (fr : List (Nat × AV)) : Operand → Option AV
  | .tmp t => slotAt fr t
  | .const v => ofVal v
  | .func f => some (.fn (.func f) [] [])
  | .global g => some (.gp g 0)

theorem ev_sound {nt : Nat} {loc : Loc} {n : Nat} {fr : List (Nat × AV)} {a : Act} (h : FR nt loc n fr a.tmps) {x : Operand} {v : AV} (hx : ev fr x = some v) :
    a.eval x = conc loc v ∧ below n v := by
  cases x with
  | tmp t => exact (h.val t v hx).2
  | const c => obtain ⟨h1, h2⟩ := ofVal_sound hx loc n; exact ⟨h1.symm, h2⟩
  | func f => simp only [ev, Option.some.injEq] at hx; subst hx; simp [Act.eval, conc, concL, below, belowL]
  | global g => simp only [ev, Option.some.injEq] at hx; subst hx; simp [Act.eval, conc, below]

end Go.Ox
