/-
  Values of parts; new rows: make, literals, append.
-/
import Derived.Test.YtnfngaapjodpcaaHOxE
set_option linter.unusedVariables false
set_option linter.unusedSimpArgs false
namespace Go.Ox

/-! ### build -/

def placesA (P : Program) : List Field → Option (List (Nat × Nat))
  | [] => some []
  | f :: fs =>
    match P.info? f.type, placesA P fs with
    | some i, some l => some ((f.offset, i.size) :: l)
    | _, _ => none

theorem placesA_sound {P : Program} : ∀ (fs : List Field) (l : List (Nat × Nat)) (w : World), placesA P fs = some l →
    (fs.mapM (m := Sem) fun f => do pure (f.offset, ← sizeOf f.type)).run P w = .ok l w
  | [], l, w, h => by simp only [placesA, Option.some.injEq] at h; subst h; simp
  | f :: fs, l, w, h => by
    unfold placesA at h
    cases hi : P.info? f.type with
    | none => simp [hi] at h
    | some i =>
      cases hl : placesA P fs with
      | none => simp [hi, hl] at h
      | some l' =>
        simp only [hi, hl, Option.some.injEq] at h
        subst h
        have := placesA_sound fs l' w hl
        rw [List.mapM_cons]
        simp only [Sem.run_bind, run_size hi, Result.andThen_ok, Sem.run_pure, this]

def abuild (P : Program) (t : TypeId) (parts : List (Nat × AV)) : T AV :=
  T.opt (P.info? t) fun i => T.opt i.zero fun z => T.opt (zeroOf z) fun zv =>
    match P.underlying t with
    | some (.struct fs) => T.opt (placesA P fs.toList) fun ps => T.opt (fillA (ps[·]?) zv.cells parts) fun cs => .ret (.agg cs)
    | some (.array _ e) => T.opt (P.info? e) fun ie => T.opt (fillA (fun i => some (i * ie.size, ie.size)) zv.cells parts) fun cs => .ret (.agg cs)
    | _ => .fail

theorem abuild_sound {P : Program} {t : TypeId} {parts : List (Nat × AV)} {Q : AV → Prop} (hq : (abuild P t parts).holds Q) (loc : Loc) (n : Nat) (hb : ∀ p ∈ parts, below n p.2 ∧ ∀ l, p.2 ≠ .tup l) (w : World) :
    ∃ v, Q v ∧ below n v ∧ (Instr.build t (parts.map fun p => (p.1, conc loc p.2)).toArray).run P w = .ok (conc loc v) w := by
  unfold abuild at hq
  obtain ⟨i, hi, hq⟩ := T.holds_opt hq
  obtain ⟨z, hz, hq⟩ := T.holds_opt hq
  obtain ⟨zv, hzv, hq⟩ := T.holds_opt hq
  obtain ⟨h1, h2⟩ := zeroOf_sound hzv loc n
  have hzc : z.cells = (concL loc zv.cells).toArray := by
    apply Array.ext'
    rw [← h1, conc_cells]
  have hzero : (zeroValue t).run P w = .ok z w := by simp [zeroValue, run_info hi, hz]
  have hzb : below n (.agg zv.cells) := by
    simp only [below]
    exact ⟨below_cells h2, List.all_eq_true.2 (scalar_cells h2 (zeroOf_tup hzv))⟩
  split at hq
  · rename_i fs hu
    obtain ⟨ps, hps, hq⟩ := T.holds_opt hq
    obtain ⟨cs, hcs, hq⟩ := T.holds_opt hq
    obtain ⟨g1, g2⟩ := fillA_sound (loc := loc) parts _ cs hcs hzb hb
    refine ⟨_, hq, g1, ?_⟩
    have hm := placesA_sound fs.toList ps w hps
    have hm' : (fs.mapM (m := Sem) fun f => do pure (f.offset, ← sizeOf f.type)).run P w = .ok ps.toArray w := by
      rw [← Array.toArray_toList (xs := fs), List.mapM_toArray, Sem.run_map, hm]; rfl
    simp only [Instr.build, Sem.run_bind, hzero, Result.andThen_ok, run_underlying hu, hm', hzc]
    simp only [List.getElem?_toArray, g2, Sem.run_pure, conc]
  · rename_i m e hu
    obtain ⟨ie, hie, hq⟩ := T.holds_opt hq
    obtain ⟨cs, hcs, hq⟩ := T.holds_opt hq
    obtain ⟨g1, g2⟩ := fillA_sound (loc := loc) parts _ cs hcs hzb hb
    refine ⟨_, hq, g1, ?_⟩
    simp only [Instr.build, Sem.run_bind, hzero, Result.andThen_ok, run_underlying hu, run_size hie, hzc, g2, Sem.run_pure, conc]
  · exact hq.elim

/-! ### A row of cells that are told -/

inductive Col where
  | ints (k : IntKind) (l : List Int)
  | bools (l : List Bool)
  | any (l : List AV)

def Col.at (c : Col) (i : Nat) : AV :=
  match c with
  | .ints k l => .int k (l.getD i 0)
  | .bools l => .bool (l.getD i false)
  | .any l => l.getD i .ff

def colInts (k : IntKind) : List AV → Option (List Int)
  | [] => some []
  | .int k' n :: l => if k = k' then (colInts k l).map (n :: ·) else none
  | _ :: _ => none
def colBools : List AV → Option (List Bool)
  | [] => some []
  | v :: l =>
    match v.asB, colBools l with
    | some b, some r => some (b :: r)
    | _, _ => none
/-- A single cell, come to its head. -/
def AV.scal : AV → Option AV
  | .tt => some .tt
  | .ff => some .ff
  | .bool b => some (.bool b)
  | .int k n => some (.int k n)
  | .str s => some (.str s)
  | .ptr a b c d => some (.ptr a b c d)
  | .gp a b => some (.gp a b)
  | .nilp => some .nilp
  | .sl a b c d e f => some (.sl a b c d e f)
  | .nils => some .nils
  | .fn f a c => some (.fn f a c)
  | .part a b => some (.part a b)
  | .esl a => some (.esl a)
  | .nul k => some (.nul k)
  | .agg _ => none
  | .tup _ => none
theorem AV.scal_eq {v u : AV} (h : v.scal = some u) : u = v ∧ v.scalar = true := by
  cases v <;> simp_all [AV.scal, AV.scalar]
def colAny : List AV → Option (List AV)
  | [] => some []
  | v :: l =>
    match v.scal, colAny l with
    | some u, some r => some (u :: r)
    | _, _ => none
theorem colAny_sound : ∀ {l r : List AV}, colAny l = some r → r = l ∧ ∀ v ∈ l, v.scalar = true
  | [], r, h => by simp only [colAny, Option.some.injEq] at h; subst h; exact ⟨rfl, fun _ h => by cases h⟩
  | v :: l, r, h => by
    unfold colAny at h
    cases h1 : v.scal with
    | none => simp [h1] at h
    | some u =>
      cases h2 : colAny l with
      | none => simp [h1, h2] at h
      | some r' =>
        simp [h1, h2] at h
        subst h
        obtain ⟨e1, e2⟩ := AV.scal_eq h1
        obtain ⟨e3, e4⟩ := colAny_sound h2
        subst e1 e3
        refine ⟨rfl, fun x hx => ?_⟩
        rcases List.mem_cons.1 hx with rfl | hx
        · exact e2
        · exact e4 x hx
def colOf : List AV → Option Col
  | .int k n :: l => (colInts k (.int k n :: l)).map (.ints k)
  | l => match colBools l with
    | some b => some (.bools b)
    | none => (colAny l).map .any

theorem colInts_sound {k : IntKind} : ∀ {l : List AV} {r : List Int}, colInts k l = some r → l = r.map (AV.int k)
  | [], r, h => by simp only [colInts, Option.some.injEq] at h; subst h; rfl
  | .int k' n :: l, r, h => by
    unfold colInts at h
    split at h
    · rename_i hk
      subst hk
      cases hr : colInts k l with
      | none => simp [hr] at h
      | some r' => simp [hr] at h; subst h; simp [colInts_sound hr]
    · cases h
  | .tt :: _, _, h | .ff :: _, _, h | .bool _ :: _, _, h | .str _ :: _, _, h | .ptr .. :: _, _, h | .gp .. :: _, _, h | .nilp :: _, _, h | .sl .. :: _, _, h | .nils :: _, _, h | .fn .. :: _, _, h | .agg _ :: _, _, h | .tup _ :: _, _, h | .part .. :: _, _, h | .esl _ :: _, _, h | .nul _ :: _, _, h => by
    simp [colInts] at h

theorem colBools_sound : ∀ {l : List AV} {r : List Bool}, colBools l = some r → l.map AV.asB = r.map some
  | [], r, h => by simp only [colBools, Option.some.injEq] at h; subst h; rfl
  | v :: l, r, h => by
    unfold colBools at h
    cases hv : v.asB with
    | none => simp [hv] at h
    | some b =>
      cases hr : colBools l with
      | none => simp [hv, hr] at h
      | some r' => simp [hv, hr] at h; subst h; simp [hv, colBools_sound hr]

theorem colOf_sound {l : List AV} {c : Col} (h : colOf l = some c) (loc : Loc) (n : Nat) (i : Nat) (v : AV) (hv : l[i]? = some v) (hbv : below n v) : conc loc (c.at i) = conc loc v ∧ below n (c.at i) ∧ (c.at i).scalar = true := by
  have hbools : (colBools l).map Col.bools = some c → conc loc (c.at i) = conc loc v ∧ below n (c.at i) ∧ (c.at i).scalar = true := by
    intro h
    cases hr : colBools l with
    | none => simp [hr] at h
    | some r =>
      simp [hr] at h
      subst h
      have h1 := colBools_sound hr
      have h2 : (l.map AV.asB)[i]? = (r.map some)[i]? := by rw [h1]
      simp only [List.getElem?_map, hv, Option.map_some] at h2
      cases hri : r[i]? with
      | none => simp [hri] at h2
      | some b =>
        simp [hri] at h2
        rw [asB_sound h2]
        simp [Col.at, conc, below, List.getD_eq_getElem?_getD, hri, AV.scalar]
  unfold colOf at h
  split at h
  · rename_i k m l'
    cases hr : colInts k (.int k m :: l') with
    | none => simp [hr] at h
    | some r =>
      simp [hr] at h
      subst h
      have h1 := colInts_sound hr
      rw [h1, List.getElem?_map] at hv
      cases hri : r[i]? with
      | none => simp [hri] at hv
      | some b =>
        simp [hri] at hv
        subst hv
        simp [Col.at, conc, below, List.getD_eq_getElem?_getD, hri, AV.scalar]
  · split at h
    · rename_i b hb
      exact hbools (by rw [hb]; exact h)
    · cases hr : colAny l with
      | none => simp [hr] at h
      | some r =>
        simp [hr] at h
        subst h
        obtain ⟨rfl, hs⟩ := colAny_sound hr
        have hs := hs v (List.mem_of_getElem? hv)
        simp [Col.at, List.getD_eq_getElem?_getD, hv, hbv, hs]

/-- The column r of rows of s cells, n of them. -/
def colCells (cs : List AV) (s r : Nat) : Nat → List AV
  | 0 => []
  | n + 1 => cs.getD r .nilp :: colCells (cs.drop s) s r n
def colsOf (cs : List AV) (s n : Nat) : Nat → Option (List Col)
  | 0 => some []
  | r + 1 =>
    match colsOf cs s n r, colOf (colCells cs s r n) with
    | some l, some c => some (l ++ [c])
    | _, _ => none

theorem colCells_at (s r : Nat) : ∀ (n : Nat) (cs : List AV) (i : Nat), i < n → (colCells cs s r n)[i]? = some (cs.getD (r + i * s) .nilp)
  | 0, _, _, h => by omega
  | n + 1, cs, 0, _ => by simp [colCells]
  | n + 1, cs, i + 1, h => by
    simp only [colCells, List.getElem?_cons_succ]
    rw [colCells_at s r n _ i (by omega)]
    simp only [List.getD_eq_getElem?_getD, List.getElem?_drop, Nat.add_mul]
    rw [show s + (r + i * s) = r + (i * s + 1 * s) from by omega]

theorem colsOf_sound {cs : List AV} {s n : Nat} : ∀ {m : Nat} {l : List Col}, colsOf cs s n m = some l → l.length = m ∧ ∀ r, r < m → ∃ c, l[r]? = some c ∧ colOf (colCells cs s r n) = some c
  | 0, l, h => by simp only [colsOf, Option.some.injEq] at h; subst h; exact ⟨rfl, fun r hr => by omega⟩
  | m + 1, l, h => by
    unfold colsOf at h
    cases h1 : colsOf cs s n m with
    | none => simp [h1] at h
    | some l' =>
      cases h2 : colOf (colCells cs s m n) with
      | none => simp [h1, h2] at h
      | some c =>
        simp [h1, h2] at h
        subst h
        obtain ⟨g1, g2⟩ := colsOf_sound h1
        refine ⟨by simp [g1], fun r hr => ?_⟩
        by_cases hrm : r < m
        · obtain ⟨c', e1, e2⟩ := g2 r hrm
          exact ⟨c', by rw [List.getElem?_append_left (by omega)]; exact e1, e2⟩
        · obtain rfl : r = m := by omega
          exact ⟨c, by rw [List.getElem?_append_right (by omega), g1]; simp, h2⟩

/-- A block of n rows of s cells that are told, and the slice over it. -/
def litRow (m : AM) (cs : List AV) (s n : Nat) : AV × AM :=
  match s, colsOf cs s n s with
  | s' + 1, some cols => (.sl m.length 0 (s' + 1) 0 n n, m ++ [some (Blk.rows true (s' + 1) n fun i => cols.map fun c => c.at i)])
  | _, _ => (.sl m.length 0 0 0 n n, m ++ [some (Blk.lit cs)])

theorem litRow_sound {w0 : World} {X : Nat → Prop} {loc : Loc} {m : AM} {w : World} (h : MR w0 X loc m w) (cs : List AV) (s n : Nat) (ty : TypeId) (hl : cs.length = n * s) (hb : below m.length (.agg cs)) :
    MR w0 X (addLoc loc m.length (LE.mk w.heap.size 0 noFam)) (litRow m cs s n).2 { w with heap := w.heap.push (.cells (concL loc cs).toArray ty) } ∧
    below (litRow m cs s n).2.length (litRow m cs s n).1 ∧ m.length ≤ (litRow m cs s n).2.length ∧
    conc (addLoc loc m.length (LE.mk w.heap.size 0 noFam)) (litRow m cs s n).1 = .slice (some ⟨w.heap.size, 0, none⟩) n n := by
  unfold litRow
  split
  · rename_i s' cols hcols
    have hl' : cs.length = n * (s' + 1) := hl
    obtain ⟨g1, g2⟩ := colsOf_sound hcols
    have hcell : ∀ o, o < n * (s' + 1) → ∃ c v, cols[o % (s' + 1)]? = some c ∧ cs[o]? = some v ∧ conc loc (c.at (o / (s' + 1))) = conc loc v ∧ below m.length (c.at (o / (s' + 1))) ∧ (c.at (o / (s' + 1))).scalar = true := by
      intro o ho
      obtain ⟨c, e1, e2⟩ := g2 (o % (s' + 1)) (Nat.mod_lt _ (by omega))
      have hd : o / (s' + 1) < n := by rw [Nat.div_lt_iff_lt_mul (by omega)]; exact ho
      have h3 := colCells_at (s' + 1) (o % (s' + 1)) n cs (o / (s' + 1)) hd
      rw [Nat.mod_add_div'] at h3
      have ho' : o < cs.length := by omega
      rw [List.getD_eq_getElem?_getD, List.getElem?_eq_getElem ho', Option.getD_some] at h3
      obtain ⟨e3, e4, e5⟩ := colOf_sound e2 loc m.length _ _ h3 (by simp only [below] at hb; exact (belowL_iff _ _).1 hb.1 _ (List.getElem_mem ho'))
      exact ⟨c, cs[o], e1, List.getElem?_eq_getElem ho', e3, e4, e5⟩
    refine ⟨h.alloc (Blk.rows true (s' + 1) n fun i => cols.map fun c => c.at i) rfl _ ty ?_ ?_ ?_, by simp [below], by simp, by simp [conc, addLoc_new]⟩
    · intro o ho
      simp only [Blk.size, Blk.rows, List.length_nil] at ho
      have ho' : o < n * (s' + 1) := by omega
      obtain ⟨c, v, e1, e2, e3, _⟩ := hcell o ho'
      simp only [Blk.cell, Blk.rows, List.length_nil, Nat.not_lt_zero, if_false, Nat.sub_zero, ho', if_true, List.getD_eq_getElem?_getD, List.getElem?_map, e1, Option.map_some, Option.getD_some, e3]
      simp [concL_eq, e2]
    · intro o ho
      simp only [Blk.size, Blk.rows, List.length_nil] at ho
      have ho' : o < n * (s' + 1) := by omega
      obtain ⟨c, v, e1, _, _, e4, _⟩ := hcell o ho'
      simp only [Blk.cell, Blk.rows, List.length_nil, Nat.not_lt_zero, if_false, Nat.sub_zero, ho', if_true, List.getD_eq_getElem?_getD, List.getElem?_map, e1, Option.map_some, Option.getD_some]
      exact e4
    · intro o ho
      simp only [Blk.size, Blk.rows, List.length_nil] at ho
      have ho' : o < n * (s' + 1) := by omega
      obtain ⟨c, v, e1, _, _, _, e5⟩ := hcell o ho'
      simp only [Blk.cell, Blk.rows, List.length_nil, Nat.not_lt_zero, if_false, Nat.sub_zero, ho', if_true, List.getD_eq_getElem?_getD, List.getElem?_map, e1, Option.map_some, Option.getD_some]
      exact e5
  · have := h.newVar (.agg cs) ty hb (by simp)
    refine ⟨by simpa [AV.cells, conc, Value.cells] using this, by simp [below], by simp, by simp [conc, addLoc_new]⟩

def abuildSlice (P : Program) (m : AM) (t : TypeId) (len : Nat) (parts : List (Nat × AV)) : T (AV × AM) :=
  match P.underlying t with
  | some (.slice e) =>
    T.opt (P.info? e) fun i => T.opt i.zero fun z => T.opt (zeroOf z) fun zv =>
      if i.size = 0 ∨ zv.cells.length ≠ i.size ∨ len * i.size > 2 ^ 24 then .fail
      else T.opt (fillA (fun k => some (k * i.size, i.size)) ((List.replicate len zv.cells).flatten) parts) fun cs => if cs.length = len * i.size then .ret (litRow m cs i.size len) else .fail
  | _ => .fail

theorem zero_rows {α : Type} [Inhabited α] (z : List α) : ∀ (n : Nat), z ≠ [] → (((Array.range (n * z.length)).map fun i => z.toArray[i % z.toArray.size]!).toList) = (List.replicate n z).flatten := by
  intro n hz
  have hz' : 0 < z.length := by cases z <;> simp_all
  apply List.ext_getElem
  · simp
  · intro i h1 h2
    simp only [Array.toList_map, Array.toList_range, List.length_map, List.length_range] at h1
    have hm : i % z.length < z.length := Nat.mod_lt _ hz'
    simp only [Array.toList_map, Array.toList_range, List.getElem_map, List.getElem_range, List.size_toArray]
    have key : ∀ (n i : Nat) (h : i < ((List.replicate n z).flatten).length), ((List.replicate n z).flatten)[i] = z[i % z.length]'(Nat.mod_lt _ hz') := by
      intro n
      induction n with
      | zero => intro i h; simp at h
      | succ n ih =>
        intro i h
        simp only [List.replicate_succ, List.flatten_cons]
        by_cases hi : i < z.length
        · rw [List.getElem_append_left hi]
          simp [Nat.mod_eq_of_lt hi]
        · rw [List.getElem_append_right (by omega)]
          rw [ih]
          have : (i - z.length) % z.length = i % z.length := by
            conv => rhs; rw [show i = (i - z.length) + z.length from by omega, Nat.add_mod_right]
          simp [this]
    rw [key n i h2]
    simp [hm]

theorem abuildSlice_sound {P : Program} {w0 : World} {X : Nat → Prop} {loc : Loc} {m : AM} {w : World} (h : MR w0 X loc m w) {t : TypeId} {len : Nat} {parts : List (Nat × AV)} {Q : AV × AM → Prop}
    (hq : (abuildSlice P m t len parts).holds Q) (hb : ∀ p ∈ parts, below m.length p.2 ∧ ∀ l, p.2 ≠ .tup l) :
    ∃ v m' loc' w', Q (v, m') ∧ below m'.length v ∧ m.length ≤ m'.length ∧ MR w0 X loc' m' w' ∧ (∀ i, i < m.length → loc' i = loc i) ∧
      (Instr.buildSlice t len (parts.map fun p => (p.1, conc loc p.2)).toArray).run P w = .ok (conc loc' v) w' := by
  unfold abuildSlice at hq
  split at hq
  · rename_i e hu
    obtain ⟨i, hi, hq⟩ := T.holds_opt hq
    obtain ⟨z, hz, hq⟩ := T.holds_opt hq
    obtain ⟨zv, hzv, hq⟩ := T.holds_opt hq
    split at hq
    · exact hq.elim
    · rename_i hc
      obtain ⟨cs, hcs, hq⟩ := T.holds_opt hq
      split at hq
      · rename_i hlen
        obtain ⟨h1, h2⟩ := zeroOf_sound hzv loc m.length
        have hzc : z.cells = (concL loc zv.cells).toArray := by
          apply Array.ext'
          rw [← h1, conc_cells]
        have hb0 : below m.length (.agg ((List.replicate len zv.cells).flatten)) := by
          have hmem : ∀ v ∈ (List.replicate len zv.cells).flatten, v ∈ zv.cells := by
            intro v hv
            rw [List.mem_flatten] at hv
            obtain ⟨l, hl, hv⟩ := hv
            have := List.eq_of_mem_replicate hl
            subst this
            exact hv
          simp only [below]
          refine ⟨(belowL_iff _ _).2 fun v hv => (belowL_iff _ _).1 (below_cells h2) v (hmem v hv), List.all_eq_true.2 fun v hv => scalar_cells h2 (zeroOf_tup hzv) v (hmem v hv)⟩
        obtain ⟨g1, g2⟩ := fillA_sound (loc := loc) parts _ cs hcs hb0 hb
        obtain ⟨r1, r2, r3, r4⟩ := litRow_sound h cs i.size len e hlen g1
        refine ⟨(litRow m cs i.size len).1, (litRow m cs i.size len).2, _, _, hq, r2, r3, r1, fun k hk => addLoc_old _ hk, ?_⟩
        rw [r4]
        have hs : ¬ len * i.size > 2 ^ 24 := fun hh => hc (Or.inr (Or.inr hh))
        have hs1 : zv.cells.length = i.size := Classical.byContradiction fun hh => hc (Or.inr (Or.inl hh))
        have hs0 : i.size ≠ 0 := fun hh => hc (Or.inl hh)
        have hzero : (zeroValue e).run P w = .ok z w := by simp [zeroValue, run_info hi, hz]
        have hfl : ((Array.range (len * i.size)).map (z.cells[· % z.cells.size]!)) = (concL loc ((List.replicate len zv.cells).flatten)).toArray := by
          apply Array.ext'
          rw [hzc, ← hs1, ← concL_length loc zv.cells, zero_rows]
          · simp [concL_eq, List.map_flatten]
          · intro hnil
            have hnl := congrArg List.length hnil
            rw [concL_length] at hnl
            simp only [List.length_nil] at hnl
            omega
        simp only [Instr.buildSlice, Sem.run_bind, run_underlying hu, Result.andThen_ok, run_size hi]
        by_cases hl0 : len * i.size = 0
        · have hlz : len = 0 := by rcases Nat.mul_eq_zero.1 hl0 with h | h; exact h; exact absurd h hs0
          subst hlz
          simp only [List.replicate_zero, List.flatten_nil, concL] at g2
          simp only [Nat.zero_mul, gt_iff_lt, Nat.not_lt_zero, if_false, if_true, Sem.run_pure, Result.andThen_ok, Sem.run_bind, Array.range_zero', Array.map_empty, g2, newRow, run_newObj]
        · simp only [hs, if_false, Sem.run_pure, Result.andThen_ok, hl0, Sem.run_bind, hzero, hfl, g2, newRow, run_newObj]
      · exact hq.elim
  · exact hq.elim

end Go.Ox
